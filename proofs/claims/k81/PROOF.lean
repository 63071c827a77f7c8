import PyProof.Rows.All
import Wide.All
import OpenK.AllK
import Wide.FinOn
import PyProof.EqAt
import PyProof.EqKinds
import PyProof.TupleCall
import Lean
import PyProof.NeKinds
import PyProof.Rows.RuleDivmod
import PyProof.Rows.FactsN_divmod
import PyProof.DictItems
import KE.KPairComp
import PyProof.Draws
import PyProof.IsRules
import KE.KDictList
import KE.KItemsList
import PySem.Challenge.RW_barfloors_k81_room_fillings_looked_at
theorem AA:type_of% @PySem.wpAny_bind:=@PySem.wpAny_bind
theorem AB:type_of% @PySem.wpAny_pure:=@PySem.wpAny_pure
theorem AC:type_of% @beq_eq_false_iff_ne:=@beq_eq_false_iff_ne
theorem AD:type_of% @PySem.Heap.get?_push_of_some:=@PySem.Heap.get?_push_of_some
theorem AE:type_of% @if_pos:=@if_pos
theorem AF:type_of% @if_neg:=@if_neg
theorem AG:type_of% @Nat.le_refl:=@Nat.le_refl
theorem AH:type_of% @List.mem_cons:=@List.mem_cons
theorem AI:type_of% @List.mem_cons_of_mem:=@List.mem_cons_of_mem
theorem AJ:type_of% @List.length_cons:=@List.length_cons
theorem AK:type_of% @List.mem_cons_self:=@List.mem_cons_self
theorem AL:type_of% @Array.getD_eq_getD_getElem?:=@Array.getD_eq_getD_getElem?
theorem AM:type_of% @List.getElem?_eq_getElem:=@List.getElem?_eq_getElem
theorem AN:type_of% @List.length_map:=@List.length_map
theorem AO:type_of% @List.length_append:=@List.length_append
theorem AQ:type_of% @List.getElem?_eq_some_iff:=@List.getElem?_eq_some_iff
theorem AR:type_of% @List.size_toArray:=@List.size_toArray
theorem AS:type_of% @Array.getElem?_eq_getElem:=@Array.getElem?_eq_getElem
theorem AT:type_of% @PySem.W.mg_of:=@PySem.W.mg_of
theorem AU:type_of% @PySem.Heap.lt_size:=@PySem.Heap.lt_size
theorem AV:type_of% @decide_eq_true:=@decide_eq_true
theorem AW:type_of% @PySem.Heap.get?_push_size:=@PySem.Heap.get?_push_size
theorem AX:type_of% @Bool.and_eq_true:=@Bool.and_eq_true
theorem AY:type_of% @decide_eq_false:=@decide_eq_false
theorem AZ:type_of% @Array.length_toList:=@Array.length_toList
theorem Aa:type_of% @List.map_cons:=@List.map_cons
theorem Ab:type_of% @Nat.ne_of_lt:=@Nat.ne_of_lt
theorem Ac:type_of% @Option.some.inj:=@Option.some.inj
theorem Ae:type_of% @List.getElem?_append_left:=@List.getElem?_append_left
theorem Af:type_of% @List.not_mem_nil:=@List.not_mem_nil
theorem Ag:type_of% @Nat.le_trans:=@Nat.le_trans
theorem Ah:type_of% @Nat.lt_of_lt_of_le:=@Nat.lt_of_lt_of_le
theorem Ai:type_of% @List.mem_map:=@List.mem_map
theorem Aj:type_of% @beq_self_eq_true:=@beq_self_eq_true
theorem Ak:type_of% @PySem.wpAny_holding:=@PySem.wpAny_holding
theorem Al:type_of% @List.mem_singleton:=@List.mem_singleton
theorem Am:type_of% @List.length_singleton:=@List.length_singleton
theorem An:type_of% @PySem.wpAny_of_eq:=@PySem.wpAny_of_eq
theorem Ao:type_of% @PySem.Heap.get?_update_other:=@PySem.Heap.get?_update_other
theorem Ap:type_of% @List.lookup_cons:=@List.lookup_cons
theorem Aq:type_of% @List.mem_of_getElem?:=@List.mem_of_getElem?
theorem Ar:type_of% @List.getD_eq_getElem?_getD:=@List.getD_eq_getElem?_getD
theorem As:type_of% @PySem.W.mg_none_of:=@PySem.W.mg_none_of
theorem At:type_of% @List.getElem?_append_right:=@List.getElem?_append_right
theorem Au:type_of% @List.append_nil:=@List.append_nil
theorem Av:type_of% @List.append_assoc:=@List.append_assoc
theorem Aw:type_of% @List.mem_append_right:=@List.mem_append_right
theorem Ax:type_of% @Array.getElem?_toList:=@Array.getElem?_toList
theorem Ay:type_of% @List.all_eq_true:=@List.all_eq_true
theorem Az:type_of% @Bool.true_and:=@Bool.true_and
theorem A0:type_of% @Bool.false_eq_true:=@Bool.false_eq_true
theorem A1:type_of% @List.mem_append:=@List.mem_append
theorem A2:type_of% @List.nodup_cons:=@List.nodup_cons
theorem A3:type_of% @List.getElem?_map:=@List.getElem?_map
theorem A4:type_of% @PySem.wpAny_field:=@PySem.wpAny_field
theorem A5:type_of% @List.getElem?_set_self:=@List.getElem?_set_self
theorem A6:type_of% @Nat.zero_le:=@Nat.zero_le
theorem A7:type_of% @List.filterMap_cons:=@List.filterMap_cons
theorem A8:type_of% @PySem.wpAny_newObj_type:=@PySem.wpAny_newObj_type
theorem A9:type_of% @PyProof.Rows.slot_tuple_getitem:=@PyProof.Rows.slot_tuple_getitem
theorem BA:type_of% @List.mem_range:=@List.mem_range
theorem BB:type_of% @List.getElem?_set_ne:=@List.getElem?_set_ne
theorem BC:type_of% @beq_iff_eq:=@beq_iff_eq
theorem BD:type_of% @PySem.Heap.get?_update_self:=@PySem.Heap.get?_update_self
theorem BE:type_of% @Bool.false_and:=@Bool.false_and
theorem BF:type_of% @List.map_map:=@List.map_map
theorem BG:type_of% @Nat.not_lt_zero:=@Nat.not_lt_zero
theorem BH:type_of% @List.zip_cons_cons:=@List.zip_cons_cons
theorem BI:type_of% @PySem.wpAny_callSpecial?_slot:=@PySem.wpAny_callSpecial?_slot
theorem BJ:type_of% @PySem.wpAny_mono:=@PySem.wpAny_mono
theorem BK:type_of% @List.getElem?_of_mem:=@List.getElem?_of_mem
theorem BL:type_of% @Nat.lt_succ_of_lt:=@Nat.lt_succ_of_lt
theorem BM:type_of% @Nat.le_of_ble_eq_true:=@Nat.le_of_ble_eq_true
theorem BN:type_of% @PySem.wpAny_isInstance:=@PySem.wpAny_isInstance
theorem BO:type_of% @PySem.wpAny_Call_Name_kw:=@PySem.wpAny_Call_Name_kw
theorem BP:type_of% @Nat.lt_irrefl:=@Nat.lt_irrefl
theorem BQ:type_of% @PySem.codeAny_call_builtin:=@PySem.codeAny_call_builtin
theorem BR:type_of% @decide_eq_true_eq:=@decide_eq_true_eq
theorem BS:type_of% @PyProof.Rows.callWith_type1:=@PyProof.Rows.callWith_type1
theorem BT:type_of% @List.map_append:=@List.map_append
theorem BU:type_of% @PyProof.Rows.KeyOrd.kle_refl:=@PyProof.Rows.KeyOrd.kle_refl
theorem BV:type_of% @PySem.mem_of_lookup:=@PySem.mem_of_lookup
theorem BW:type_of% @List.map_congr_left:=@List.map_congr_left
theorem BX:type_of% @PySem.wpAny_typeOf:=@PySem.wpAny_typeOf
theorem BY:type_of% @PySem.wpAny_call:=@PySem.wpAny_call
theorem BZ:type_of% @Array.getElem?_eq_some_iff:=@Array.getElem?_eq_some_iff
theorem Ba:type_of% @List.length_take:=@List.length_take
theorem Bb:type_of% @if_false:=@if_false
theorem Bc:type_of% @List.length_drop:=@List.length_drop
theorem Bd:type_of% @Bool.false_ne_true:=@Bool.false_ne_true
theorem Be:type_of% @List.getElem?_eq_none:=@List.getElem?_eq_none
theorem Bf:type_of% @PySem.sizeLine_eq:=@PySem.sizeLine_eq
theorem Bg:type_of% @or_false:=@or_false
theorem Bh:type_of% @Int.toNat_natCast:=@Int.toNat_natCast
theorem Bi:type_of% @PySem.wpAny_truthy_bool:=@PySem.wpAny_truthy_bool
theorem Bj:type_of% @PySem.wpAny_loadPart_at:=@PySem.wpAny_loadPart_at
theorem Bk:type_of% @PySem.wpAny_setState_of:=@PySem.wpAny_setState_of
theorem Bl:type_of% @List.getElem?_replicate:=@List.getElem?_replicate
theorem Bm:type_of% @PySem.wpAny_call_entry:=@PySem.wpAny_call_entry
theorem Bn:type_of% @PySem.Heap.size_push:=@PySem.Heap.size_push
theorem Bo:type_of% @Bool.and_false:=@Bool.and_false
theorem Bp:type_of% @List.mem_filterMap:=@List.mem_filterMap
theorem Bq:type_of% @Nat.lt_of_le_of_lt:=@Nat.lt_of_le_of_lt
theorem Br:type_of% @PySem.codeAny_builtin:=@PySem.codeAny_builtin
theorem Bs:type_of% @List.length_nil:=@List.length_nil
theorem Bt:type_of% @beq_false_of_ne:=@beq_false_of_ne
theorem Bu:type_of% @List.set_append_right:=@List.set_append_right
theorem Bv:type_of% @congrArg:=@congrArg
theorem Bw:type_of% @PySem.W.looks_findIn:=@PySem.W.looks_findIn
theorem By:type_of% @PySem.wpAny_setField:=@PySem.wpAny_setField
theorem B1:type_of% @List.filter_cons:=@List.filter_cons
theorem B2:type_of% @PySem.W.looks_mroIn:=@PySem.W.looks_mroIn
theorem B3:type_of% @PySem.wpAny_standAt:=@PySem.wpAny_standAt
theorem B5:type_of% @PySem.Code.quiet_builtin:=@PySem.Code.quiet_builtin
theorem B6:type_of% @List.pairwise_cons:=@List.pairwise_cons
theorem B7:type_of% @PyProof.Rows.KeyOrd.kle_of_klt:=@PyProof.Rows.KeyOrd.kle_of_klt
theorem B8:type_of% @PySem.Str.length_append:=@PySem.Str.length_append
theorem B9:type_of% @if_true:=@if_true
theorem CA:type_of% @List.length_filter_le:=@List.length_filter_le
theorem CB:type_of% @Int.mul_le_mul:=@Int.mul_le_mul
theorem CC:type_of% @List.mem_append_left:=@List.mem_append_left
theorem CD:type_of% @Array.mem_toList_iff:=@Array.mem_toList_iff
theorem CF:type_of% @PySem.F.excBase_ValueError:=@PySem.F.excBase_ValueError
theorem CG:type_of% @List.mem_of_mem_drop:=@List.mem_of_mem_drop
theorem CH:type_of% @PySem.Heap.size_update:=@PySem.Heap.size_update
theorem CI:type_of% @PyProof.Rows.KeyOrd.kle_trans:=@PyProof.Rows.KeyOrd.kle_trans
theorem CJ:type_of% @List.getElem_mem:=@List.getElem_mem
theorem CK:type_of% @PySem.wpAny_attempt:=@PySem.wpAny_attempt
theorem CL:type_of% @Prod.mk.inj:=@Prod.mk.inj
theorem CM:type_of% @Nat.le_succ:=@Nat.le_succ
theorem CN:type_of% @Int.toNat_of_nonneg:=@Int.toNat_of_nonneg
theorem CP:type_of% @PySem.pushCells_keeps:=@PySem.pushCells_keeps
theorem CQ:type_of% @List.nil_append:=@List.nil_append
theorem CS:type_of% @Bool.eq_iff_iff:=@Bool.eq_iff_iff
theorem CT:type_of% @PySem.Obj.data_mapFields:=@PySem.Obj.data_mapFields
theorem CU:type_of% @Nat.lt_trans:=@Nat.lt_trans
theorem CV:type_of% @PySem.Calls.spliced_cons:=@PySem.Calls.spliced_cons
theorem CW:type_of% @Int.add_zero:=@Int.add_zero
theorem CY:type_of% @PySem.wpAny_newList:=@PySem.wpAny_newList
set_option Elab.async false
set_option linter.all false
set_option maxRecDepth 100000
set_option maxHeartbeats 0
section
namespace EX
open PySem PySem.Spec PyProof.Rows
theorem Ju:entryFor table "proto.unchain" = some Builtin.«proto.unchain» :=entryFor_of_fast (by kernel_rfl)
def Hnd(A:Around)(h:Heap):Prop:=∀v,A.handled=some v->∃ea oe vs,v=Value.ref ea∧h.get? ea=some oe∧oe.data= .fields vs∧vs[2]? = some .none
section
variable{prog:Program}{w:World}{A:Around}{E:Value->Shared->Prop}{s:Shared}
theorem qA7{e v:Value}{ea:Addr}{oe:Obj}{vs:Array Value}{Q:Value->Shared->Prop}(ho:s.heap.get? ea=some oe)(hd:oe.data= .fields vs)(h2:vs[2]? = some .none)(hq:Q .none s) :
  wpAny (model prog w) A (runValue (.builtin "proto.unchain" ⟨[e,.ref ea,v,.bool false],[]⟩)) Q E s:=by
 refine wpAny_runValue (Br Ju ?_);unfold Builtin.«proto.unchain»;dsimp only;refine AA (A4 ho hd h2 ?_);rw[AE (show (Value.none==Value.none)=true by rfl)];refine AA (AB (AB ?_));exact hq
theorem qBC{α:Type}{e:Addr}{oe:Obj}{vs:Array Value}{Q:α->Shared->Prop}(hn:Hnd A s.heap)(he:s.heap.get? e=some oe)(hd:oe.data= .fields vs)(hsz:2<vs.size)(hne:∀ea,A.handled=some (.ref ea)->ea≠e)
  (h:∀h' o',Heap.SameBut e s.heap h'->h'.get? e=some o'->o'.cls=oe.cls->E (.ref e) { s with heap:=h' }):wpAny (model prog w) A (raiseNew (.ref e):Sem α) Q E s:=by
 unfold raiseNew;refine AA (wpAny_handled ?_);cases hh:A.handled with
 |none=>exact AA (AB (wpAny_throw (h s.heap oe (.refl ..) he rfl)))
 |some v =>
  obtain⟨ea,o,ws,rfl,ho,hdo,h2⟩:=hn v hh;have hne':=hne ea hh;have hb:(Value.ref ea != Value.ref e)=true:=by rw[bne_iff_ne];intro z;cases z;exact hne' rfl
  dsimp only;rw[AE hb];refine AA (Ak (qA7 ho hdo h2 ?_));refine AA (By (x:=Value.ref ea) he hd hsz (wpAny_throw ?_));exact h _ _ (Heap.SameBut.update ..) (BD _ he (Obj.isFreed_of_fields (CT hd _))) (Obj.cls_mapFields ..)
theorem Zs{α:Type}{Q:α->Shared->Prop}(hn:Hnd A s.heap)(h:∀h' e,(∀b o,s.heap.get? b=some o->h'.get? b=some o)->(∃o',h'.get? e=some o'∧o'.cls= .type "StopIteration")->E (.ref e) { s with heap:=h' }) :
  wpAny (model prog w) A (newExc (.type "StopIteration") [] >>= fun e=>(raiseNew e:Sem α)) Q E s:=by
 refine AA ?_;unfold newExc newTuple;refine AA (A8 ?_ (by size_fits));refine AA (m:=firstArgMember _ _) (An (a:=Value.none) (by first|rfl|(simp only[firstArgMember];rfl)) ?_);refine A8 ?_ (by size_fits);have up:∀{b o},s.heap.get? b=some o->((s.heap.push { cls:=.type "tuple",data:=.seq ([]:List Value).toArray }).push { cls:=.type "StopIteration",data:=.fields (#[.ref s.heap.objs.size,.none,.none,.none,.bool false,.none]++ownMembersOf (.type "StopIteration") []) }).get? b=some o:=fun q=>AD _ (AD _ q);refine qBC (oe:={ cls:=.type "StopIteration",data:=.fields (#[.ref s.heap.objs.size,.none,.none,.none,.bool false,.none]++ownMembersOf (.type "StopIteration") []) }) ?_ (AW _ rfl) rfl (by simp[ownMembersOf]) (fun ea hea=>?_) fun h' o' sb ho' hc=>h h' _ (fun b o q=>?_) ⟨o',ho',hc⟩;intro v hv;obtain⟨ea,oe,vs,e1,e2,e3⟩:=hn v hv;exact⟨ea,oe,vs,e1,up e2,e3⟩;obtain⟨ea',oe,vs,e1,e2,e3⟩:=hn _ hea;cases e1;exact Ab (CU (AU e2) (by simp));exact (sb.2 b (Ab (CU (AU q) (by simp)))).trans (up q)
theorem list_end{it l:Addr}{i:Nat}{items}{Q:Option Value->Shared->Prop}(hn:Hnd A s.heap)(z1:s.heap.IsListIter it l i)(z2:s.heap.IsList l items)(z3:items[i]? = none)(z4:∀v,A.handled=some v->v≠ .ref it)
  (hQ:∀h',(∀b o,b≠it->s.heap.get? b=some o->h'.get? b=some o)->Q none { s with heap:=h' }):wpAny (model prog w) A (pyNext (.ref it)) Q E s:=by
 obtain⟨ob,g1,g2,g3⟩:=id z1;obtain⟨ol,g4,_,nl,g5⟩:=z2;unfold pyNext;refine AA (CK (BI (name:=Str.ofString "__next__") z1.typeIs slot_listiter_next (Bm slot_listiter_next z1.typeIs entry_listiter_next ?_ (args_listiter_next _))));change wpAny _ A.in1 (field (Value.ref it) 0 >>= _) _ _ s;refine AA (A4 g1 g3 (x:=Value.ref l) rfl ?_);change wpAny _ A.in1 (if (Value.ref l==Value.none)=true then _ else _) _ _ s;rw[AF (fun z:(Value.ref l==Value.none)=true=>Bd z)];change wpAny _ A.in1 (field (Value.ref it) 1 >>= _) _ _ s;refine AA (A4 g1 g3 (x:=Value.int i 0) rfl ?_);change wpAny _ A.in1 (seqItems? (Value.ref l) >>= _) _ _ s;refine AA (wpAny_seqItems g4 g5 ?_);simp only[Bh,z3];refine AA (wpAny_rule (AA (By g1 g3 (by simp) ?_)));refine Zs (A:=A.in1) ?_ fun h' e k ht=>?_
 ·intro v hv;obtain⟨ea,oe,vs,e1,e2,e3⟩:=hn v hv;refine⟨ea,oe,vs,e1,?_,e3⟩;have hne:ea≠it:=fun z=>z4 v hv (by rw[e1,z]);exact (Ao _ _ (Ne.symm hne)).trans e2
 ·refine AA (BN (T := "StopIteration") (b:=true) ht isSubtype_stop ?_);exact AB (hQ _ fun b o' hb q=>k b o' ((Ao _ _ (Ne.symm hb)).trans q))
theorem tuple_end{it l:Addr}{i:Nat}{items}{Q:Option Value->Shared->Prop}(hn:Hnd A s.heap)(z1:s.heap.IsTupleIter it l i)(z2:s.heap.IsTuple l items)(z3:items[i]? = none)(z4:∀v,A.handled=some v->v≠ .ref it)
  (hQ:∀h',(∀b o,b≠it->s.heap.get? b=some o->h'.get? b=some o)->Q none { s with heap:=h' }):wpAny (model prog w) A (pyNext (.ref it)) Q E s:=by
 obtain⟨ob,g1,g2,g3⟩:=id z1;obtain⟨ol,g4,_,nl,g5⟩:=z2;unfold pyNext;refine AA (CK (BI (name:=Str.ofString "__next__") z1.typeIs F.slot_tuple_iterator_next (Bm F.slot_tuple_iterator_next z1.typeIs F.entry_tuple_iterator_next ?_ (F.args_tuple_iterator_next_1 _))));change wpAny _ A.in1 (field (Value.ref it) 0 >>= _) _ _ s;refine AA (A4 g1 g3 (x:=Value.ref l) rfl ?_);change wpAny _ A.in1 (if (Value.ref l==Value.none)=true then _ else _) _ _ s;rw[AF (fun z:(Value.ref l==Value.none)=true=>Bd z)];change wpAny _ A.in1 (field (Value.ref it) 1 >>= _) _ _ s;refine AA (A4 g1 g3 (x:=Value.int i 0) rfl ?_);change wpAny _ A.in1 (seqItems? (Value.ref l) >>= _) _ _ s;refine AA (wpAny_seqItems g4 g5 ?_);simp only[Bh,z3];refine AA (wpAny_rule (AA (By g1 g3 (by simp) ?_)));refine Zs (A:=A.in1) ?_ fun h' e k ht=>?_
 ·intro v hv;obtain⟨ea,oe,vs,e1,e2,e3⟩:=hn v hv;refine⟨ea,oe,vs,e1,?_,e3⟩;have hne:ea≠it:=fun z=>z4 v hv (by rw[e1,z]);exact (Ao _ _ (Ne.symm hne)).trans e2
 ·refine AA (BN (T := "StopIteration") (b:=true) ht isSubtype_stop ?_);exact AB (hQ _ fun b o' hb q=>k b o' ((Ao _ _ (Ne.symm hb)).trans q))
theorem range_end{it:Addr}{x left step:Int}{Q:Option Value->Shared->Prop}(hn:Hnd A s.heap)(z1:IsRangeIter s.heap it x left step)(z2:left≤0)
  (hQ:∀h',(∀b o,s.heap.get? b=some o->h'.get? b=some o)->Q none { s with heap:=h' }):wpAny (model prog w) A (pyNext (.ref it)) Q E s:=by have z0:s.TypeIs (.ref it) "range_iterator" :=⟨_,z1,rfl⟩;unfold pyNext;refine AA (CK (BI (name:=Str.ofString "__next__") z0 F.slot_range_iterator_next (Bm F.slot_range_iterator_next z0 F.entry_range_iterator_next ?_ (F.args_range_iterator_next_1 _))));change wpAny _ A.in1 (field (Value.ref it) 0 >>= _) _ _ s;refine AA (A4 z1 rfl (x:=rawInt x) rfl ?_);change wpAny _ A.in1 (field (Value.ref it) 1 >>= _) _ _ s;refine AA (A4 z1 rfl (x:=rawInt left) rfl ?_);change wpAny _ A.in1 (field (Value.ref it) 2 >>= _) _ _ s;refine AA (A4 z1 rfl (x:=rawInt step) rfl ?_);change wpAny _ A.in1 (if left≤0 then _ else _) _ _ s;rw[AE z2];refine AA (wpAny_rule (AA ?_));refine Zs (A:=A.in1) hn fun h' e k ht=>?_;refine AA (BN (T := "StopIteration") (b:=true) ht isSubtype_stop ?_);exact AB (hQ _ k)
end
end EX
end
section
namespace L2
open PySem PySem.Spec PyProof.Rows
abbrev Key:=Sum Int Str
def jZ:Key->Value->Bool| .inl k,v=>Value.isInt k v| .inr x,v=>Value.isStrOf x v
def qLU(w:World):Key->Int| .inl k=>hashInt k| .inr x=>hashStr w x
theorem Qs:∀{k:Key} {v:Value},jZ k v=true->(∃i t,k=Sum.inl i∧v=Value.int i t)∨(∃x t,k=Sum.inr x∧v=Value.str x t)| .inl i,v,h=>by obtain⟨t,e⟩:=Value.isInt_shape (k:=i) (v:=v) h;exact .inl ⟨i,t,rfl,e⟩| .inr x,v,h=>by obtain⟨t,e⟩:=Value.isStrOf_shape (x:=x) (v:=v) h;exact .inr ⟨x,t,rfl,e⟩
theorem qDY(i:Int)(t:Tok):jZ (.inl i) (.int i t)=true:=by simp[jZ,Value.isInt]
theorem qDp(x:Str)(t:Tok):jZ (.inr x) (.str x t)=true:=by simp[jZ,Value.isStrOf]
theorem qJ6(a b:Int):decide ((Sum.inl a:Key)=Sum.inl b)=(a==b):=by
 by_cases e:a=b;subst e;simp;have h:¬(Sum.inl a:Key)=Sum.inl b:=fun q=>e (Sum.inl.inj q);rw[AY h];exact (AC.mpr e).symm
theorem qIz(a b:Str):decide ((Sum.inr a:Key)=Sum.inr b)=decide (a=b):=by
 by_cases e:a=b;subst e;simp;have h:¬(Sum.inr a:Key)=Sum.inr b:=fun q=>e (Sum.inr.inj q);rw[AY h,AY e]
theorem qIo(a:Int)(b:Str):decide ((Sum.inl a:Key)=Sum.inr b)=false:=AY (fun q=>nomatch q)
theorem qJA(a:Str)(b:Int):decide ((Sum.inr a:Key)=Sum.inl b)=false:=AY (fun q=>nomatch q)
def wJ(prog:Program)(w:World):PySem.KeyKind prog w Key where
 is:=jZ
 hash:=qLU w
 inj:=fun v a b ha hb=>by
  rcases Qs ha with⟨i,t,rfl,rfl⟩|⟨x,t,rfl,rfl⟩
  ·rcases Qs hb with⟨j,u,rfl,e⟩|⟨y,u,rfl,e⟩
   ·injection e with e1 _;rw[e1]
   ·exact nomatch e
  ·rcases Qs hb with⟨j,u,rfl,e⟩|⟨y,u,rfl,e⟩
   ·exact nomatch e
   ·injection e with e1 _;rw[e1]
 byValue:=fun k v h=>by rcases Qs h with⟨i,t,rfl,rfl⟩|⟨x,t,rfl,rfl⟩ <;> rfl
 pyHash:=fun hv h=>by
  rcases Qs hv with⟨i,t,rfl,rfl⟩|⟨x,t,rfl,rfl⟩
  ·exact wpAny_pyHash_int h
  ·exact wpAny_pyHash_str h
 eqBool:=fun hu hv h=>by
  rcases Qs hu with⟨i,t,rfl,rfl⟩|⟨x,t,rfl,rfl⟩
  ·rcases Qs hv with⟨j,u,rfl,rfl⟩|⟨y,u,rfl,rfl⟩
   ·rw[qJ6]at h;exact wpAny_eqBool_int h
   ·rw[qIo]at h;exact SeqAt.EqAt.int_str i t y u _ _ _ _ h
  ·rcases Qs hv with⟨j,u,rfl,rfl⟩|⟨y,u,rfl,rfl⟩
   ·rw[qJA]at h;exact SeqAt.EqAt.str_int x t j u _ _ _ _ h
   ·rw[qIz]at h;exact wpAny_eqBool_str h
 «strs» :=fun k x t v h=>by
  rcases Qs h with⟨i,u,rfl,e⟩|⟨y,u,rfl,e⟩
  ·exact nomatch e
  ·injection e with e1 _;subst e1;cases v <;> rfl
theorem J9(prog:Program)(w:World)(i:Int)(t:Tok):(wJ prog w).is (.inl i) (.int i t)=true:=qDY i t
theorem qAT(prog:Program)(w:World)(x:Str)(t:Tok):(wJ prog w).is (.inr x) (.str x t)=true:=qDp x t
end L2
namespace L2
open PySem PySem.Spec PyProof.Rows
inductive V where
 |non|bl (b:Bool)|int (i:Int)|str (x:Str)|byt (b:Array UInt8)|flt (b:UInt64)|ref (a:Addr)|ty (n:String)
 deriving DecidableEq
def RelV:V->Value->Prop| .non,u=>u=Value.none| .bl b,u=>u=Value.bool b| .int i,u=>∃t,u=Value.int i t| .str x,u=>∃t,u=Value.str x t| .byt b,u=>∃t,u=Value.bytes b t| .flt b,u=>∃t,u=Value.float b t| .ref a,u=>u=Value.ref a| .ty n,u=>u=Value.type n
abbrev Vals:List V->List Value->Prop:=Paired RelV
theorem Vals.length{xs:List V}{us:List Value}(r:Vals xs us):xs.length=us.length:=Paired.length r
theorem Vals.get:∀{xs:List V} {us:List Value} {i:Nat} {x:V},Vals xs us->xs[i]? = some x->∃u,us[i]? = some u∧RelV x u
 |_,_,_,_,.nil,e=>by simp at e
 |_,_,0,_,.cons r _,e=>by simp at e;subst e;exact⟨_,rfl,r⟩
 |_,_,i+1,x,.cons _ t,e=>by
  obtain⟨u,h1,h2⟩:=Vals.get (i:=i) (x:=x) t (by simpa using e);exact⟨u,by simpa using h1,h2⟩
theorem Vals.set{x:V}{u:Value}(r:RelV x u):∀{xs:List V} {us:List Value} (i:Nat),Vals xs us->Vals (xs.set i x) (us.set i u)|_,_,_,.nil=>.nil|_,_,0,.cons _ t=>.cons r t|_,_,i+1,.cons q t=>.cons q (Vals.set r i t)
theorem Vals.append:∀{xs ys:List V} {us ws:List Value},Vals xs us->Vals ys ws->Vals (xs++ys) (us++ws)|_,_,_,_,.nil,s=>s|_,_,_,_,.cons r t,s=>.cons r (Vals.append t s)
theorem Vals.take:∀{xs:List V} {us:List Value} (n:Nat),Vals xs us->Vals (xs.take n) (us.take n)|_,_,0,_=>.nil|_,_,_+1,.nil=>.nil|_,_,n+1,.cons r t=>.cons r (Vals.take n t)
theorem Vals.drop:∀{xs:List V} {us:List Value} (n:Nat),Vals xs us->Vals (xs.drop n) (us.drop n)|_,_,0,r=>r|_,_,_+1,.nil=>.nil|_,_,n+1,.cons _ t=>Vals.drop n t
def RelO:Option V->Option Value->Prop|some v,some u=>RelV v u|none,none=>True|_,_=>False
def KV{κ:Type}:List (κ×V)->List (κ×Value)->Prop:=Paired fun (p:κ×V) (q:κ×Value)=>p.1=q.1∧RelV p.2 q.2
def kV:Key->V| .inl i=>.int i| .inr x=>.str x
inductive HO where
 /-- a list -/
 |lst (xs:List V)
 /-- a tuple (never changes) -/
 |tup (xs:List V)
 /-- a dict whose keys are ints and texts;one whose keys are tuples of ints and texts (the empty one is both) -/
 |dK (kvs:List (Key×V))|dT (kvs:List (List Key×V))
 /-- a set of ints: its members,its size -/
 |set (S:Int->Bool) (n:Nat)
 /-- an instance of the class at C,its dict at dx,its attributes -/
 |ins (C dx:Addr) (fs:List (Str×V))
 /-- the dict of the instance at x -/
 |own (x:Addr)
 /-- the dict of an exception -/
 |xd (fs:List (Str×V))
 /-- a bound method,f of x -/
 |met (f x:Addr)
 /-- a range object lo,lo+1,.. below hi -/
 |rng (lo hi:Int)
 /-- a thing that is known to the object (the script;a dict while a loop walks it): read,never written while it is so -/
 |frz (o:Obj) (u:HO)
 /-- a code object's table -/
 |tbl (ps:Array Value)
 /-- any other thing,by what is true of its one object (a def of one's own: SetO a S n:=HO.ext fun h=> ..) -/
 |ext (φ:Heap->Prop)
abbrev Hp:=Addr->Option HO
def upd(H:Hp)(a:Addr)(o:HO):Hp:=fun b=>if b=a then some o else H b
theorem qm{H:Hp}{a:Addr}{o:HO}:upd H a o a=some o:=by unfold upd;rw[AE rfl]
theorem qT{H:Hp}{a b:Addr}{o:HO}(h:b≠a):upd H a o b=H b:=by unfold upd;rw[AF h]
theorem qKj{H:Hp}{a b:Addr}{o u:HO}(h:H a=some o)(h':H b=some u)(d:o≠u):a≠b:=by intro e;subst e;rw[h]at h';exact d (Ac h')
theorem qU{H:Hp}{a b:Addr}{o:HO}(h:H a=some o)(h':H b=none):a≠b:=by intro e;subst e;rw[h]at h';cases h'
section
variable(P:Program)(w:World)
def ObjOk(H:Hp)(h:Heap)(a:Addr):HO->Prop
 | .lst xs=>xs.length≤sizeLine∧∃(its:List Value) (n:Nat),Vals xs its∧h.get? a=some { cls:=.type "list",data:=.seq its.toArray n }
 | .tup xs=>xs.length≤sizeLine∧∃its:List Value,Vals xs its∧IsTup h a its.toArray
 | .dK kvs=>kvs.length≤sizeLine∧(a==sysModules)=false∧∃vs,KV kvs vs∧h.DictOf (wJ P w) a vs
 | .dT kvs=>kvs.length≤sizeLine∧(a==sysModules)=false∧∃xs:List (List Key×Addr×Value),
   Paired (fun (p:List Key×V) (q:List Key×Addr×Value)=>p.1=q.1∧H q.2.1=some (.tup (p.1.map kV))∧RelV p.2 q.2.2) kvs xs ∧
   ∃o es ep,h.get? a=some o∧o.ExactDict∧o.data= .dict es ep∧es.toList=xs.map (entryOfKey (tupleKind (wJ P w)))∧(xs.map (·.1)).Nodup
 | .set S n=>h.SetOf (intKind P w) a S n
 | .ins C dx fs=>H dx=some (.own a)∧fs.length≤1000∧dx≠a∧h.get? a=some (W.instObj C dx) ∧
   ∃mA,h.Ns1 dx mA∧(∀f,RelO (fs.lookup f) (mA f))∧PySem.Within mA (fs.map (·.1))
 | .own _=>∃o,h.get? a=some o
 | .xd fs=>∃mA,h.Ns1 a mA∧∀f,RelO (fs.lookup f) (mA f)
 | .rng lo hi=>∃t u v,h.get? a=some { cls:=.type "range",data:=.fields #[.int lo t,.int hi u,.int 1 v] }
 | .frz o u=>h.get? a=some o∧ObjOk H h a u
 | .tbl ps=>h.get? a=some { cls:=.none,data:=.fields ps }
 | .met f x=>h.get? a=some (W.methodObj (.ref f) (.ref x))
 | .ext φ=>φ h∧(∃o,h.get? a=some o)∧∀h1 h2:Heap,φ h1->(∀o,h1.get? a=some o->h2.get? a=some o)->φ h2
def HOk(H:Hp)(h:Heap):Prop:=∀a o,H a=some o->ObjOk P w H h a o
end
section
variable{P:Program}{w:World}{H H':Hp}{h h':Heap}{a:Addr}{o:HO}
theorem ObjOk.lt(x:ObjOk P w H h a o):a<h.objs.size:=by
 cases o with|lst xs=>obtain⟨_,_,_,_,e⟩:=x;exact AU e|tup xs=>obtain⟨_,_,_,p⟩:=x;exact p.lt|dK kvs=>obtain⟨_,_,_,_,o,_,_,e,_⟩:=x;exact AU e|dT kvs=>obtain⟨_,_,_,_,o,_,_,e,_⟩:=x;exact AU e|set S n=>obtain⟨o,_,_,_,e,_⟩:=x;exact AU e|ins C dx fs=>obtain⟨_,_,_,e,_⟩:=x;exact AU e|own y=>obtain⟨_,e⟩:=x;exact AU e|xd fs=>obtain⟨_,⟨_,_,_,e,_⟩,_⟩:=x;exact AU e|rng lo hi=>obtain⟨_,_,_,e⟩:=x;exact AU e|frz ob u=>obtain⟨e,_⟩:=x;exact AU e|tbl ps=>exact AU (show h.get? a=some _ from x)|met f y=>exact AU (show h.get? a=some _ from x)|ext φ=>obtain⟨_,⟨_,e⟩,_⟩:=x;exact AU e
theorem Paired.mapP{α β:Type}{F G:α->β->Prop}:∀{l₁:List α} {l₂:List β},Paired F l₁ l₂->(∀a b,F a b->G a b)->Paired G l₁ l₂|_,_,.nil,_=>.nil|_,_,.cons r t,f=>.cons (f _ _ r) (Paired.mapP t f)
theorem ObjOk.stay(x:ObjOk P w H h a o)(k:∀b u,(b=a∨H b=some (.own a))->h.get? b=some u->h'.get? b=some u)
  (ho:∀b,H b=some (.own a)->H' b=some (.own a)) (ht:∀b xs,H b=some (.tup xs)->H' b=some (.tup xs)):ObjOk P w H' h' a o:=by
 induction o with|lst xs=>obtain⟨z,its,n,r,e⟩:=x;exact⟨z,its,n,r,k _ _ (.inl rfl) e⟩|tup xs=>obtain⟨z,its,r,ob,e,c⟩:=x;exact⟨z,its,r,ob,k _ _ (.inl rfl) e,c⟩|dK kvs=>obtain⟨z,y,vs,r,ob,es,ep,e,c⟩:=x;exact⟨z,y,vs,r,ob,es,ep,k _ _ (.inl rfl) e,c⟩|dT kvs=>obtain⟨z,y,xs,r,ob,es,ep,e,c⟩:=x;exact⟨z,y,xs,Paired.mapP r fun p q z=>⟨z.1,ht _ _ z.2.1,z.2.2⟩,ob,es,ep,k _ _ (.inl rfl) e,c⟩|set S n=>obtain⟨ob,es,ep,t,e,c⟩:=x;exact⟨ob,es,ep,t,k _ _ (.inl rfl) e,c⟩|ins C dx fs=>obtain⟨d,z,ne,e,mA,⟨od,es,ep,e2,c⟩,r⟩:=x;exact⟨ho _ d,z,ne,k _ _ (.inl rfl) e,mA,⟨od,es,ep,k _ _ (.inr d) e2,c⟩,r⟩|own y=>obtain⟨ob,e⟩:=x;exact⟨ob,k _ _ (.inl rfl) e⟩|xd fs=>obtain⟨mA,⟨od,es,ep,e,c⟩,r⟩:=x;exact⟨mA,⟨od,es,ep,k _ _ (.inl rfl) e,c⟩,r⟩|rng lo hi=>obtain⟨t,u,v,e⟩:=x;exact⟨t,u,v,k _ _ (.inl rfl) e⟩|frz ob u ih=>obtain⟨e,q⟩:=x;exact⟨k _ _ (.inl rfl) e,ih q⟩|tbl ps=>have e:h.get? a=some { cls:=.none,data:=.fields ps }:=x;show h'.get? a=some { cls:=.none,data:=.fields ps };exact k a _ (.inl rfl) e|met f y=>have e:h.get? a=some (W.methodObj (.ref f) (.ref y)):=x;show h'.get? a=some (W.methodObj (.ref f) (.ref y));exact k a _ (.inl rfl) e|ext φ=>obtain⟨p,⟨o,e⟩,st⟩:=x;exact⟨st _ _ p fun o q=>k _ _ (.inl rfl) q,⟨o,k _ _ (.inl rfl) e⟩,st⟩
theorem HOk.lt(x:HOk P w H h)(e:H a=some o):a<h.objs.size:=(x a o e).lt
theorem HOk.fresh(x:HOk P w H h)(e:h.objs.size≤a):H a=none:=by
 cases q:H a with|none=>rfl|some u=>exact absurd (Ah (x.lt q) e) (BP _)
theorem HOk.kept(x:HOk P w H h)(k:∀b u,h.get? b=some u->h'.get? b=some u):HOk P w H h':=fun a o e =>
 (x a o e).stay (fun b u _ q=>k b u q) (fun _ q=>q) fun _ _ q=>q
theorem HOk.laid(x:HOk P w H h)(k:∀b u,h.get? b=some u->h'.get? b=some u)(hp:h.objs.size≤a)(new:ObjOk P w (upd H a o) h' a o):HOk P w (upd H a o) h':=fun b u e=>by
 have hn:=x.fresh hp;by_cases hb:b=a;subst hb;rw[qm]at e;cases e;exact new;rw[qT hb]at e;exact (x b u e).stay (fun c v _ q=>k c v q) (fun c q=>by rw[qT (qU q hn)];exact q) fun c xs q=>by rw[qT (qU q hn)];exact q
end
def Rd(H:Hp)(a:Addr)(u:HO):Prop:=H a=some u∨∃o,H a=some (.frz o u)
theorem Rd.ok{P:Program}{w:World}{H:Hp}{h:Heap}{a:Addr}{u:HO}(r:Rd H a u)(x:HOk P w H h):ObjOk P w H h a u:=by
 rcases r with r|⟨o,r⟩
 ·exact x a u r
 ·obtain⟨_,q⟩:=x a _ r;exact q
def Mut:Option HO->Prop|some (.lst _)=>True|some (.dK _)=>True|some (.dT _)=>True|some (.set _ _)=>True|some (.ins _ _ _)=>True|some (.ext _)=>True|_=>False
section
variable{P:Program}{w:World}{H:Hp}{h h':Heap}{x e:Addr}{o':HO}
theorem HOk.write(ok:HOk P w H h)(mu:Mut (H x))(he:e=x∨H e=some (.own x))(k:∀b u,b≠e->h.get? b=some u->h'.get? b=some u)(heo:∃u,h'.get? e=some u)
  (new:ObjOk P w (upd H x o') h' x o'):HOk P w (upd H x o') h':=fun b u q=>by
 have nown:∀c y,H c=some (.own y)->c≠x:=fun c y r z=>by subst z;rw[r]at mu;exact mu
 have ntup:∀c xs,H c=some (.tup xs)->c≠x:=fun c xs r z=>by subst z;rw[r]at mu;exact mu
 by_cases hb:b=x;subst hb;rw[qm]at q;cases q;exact new
 ·rw[qT hb]at q;by_cases hbe:b=e
  ·have q':H b=some (.own x):=by
    rcases he with z|z
    ·exact absurd (hbe.trans z) hb
    ·rw[hbe];exact z
   rw[q]at q';cases q';obtain⟨v,hv⟩:=heo;exact⟨v,by rw[hbe];exact hv⟩
  ·refine (ok b u q).stay (fun c v hc r=>k c v ?_ r) (fun c r=>by rw[qT (nown c b r)];exact r) fun c xs r=>by rw[qT (ntup c xs r)];exact r
   rcases hc with rfl|hc
   ·exact hbe
   ·rintro rfl;rcases he with z|z
    ·exact nown c b hc z
    ·rw[hc]at z;cases z;exact hb rfl
end
structure Un (fs ex:List Addr) (H H':Hp) (h h':Heap):Prop where
 keep:∀b o,h.get? b=some o->H b=none->b∉fs->b∉ex->h'.get? b=some o
 slot:∀b o,h.get? b=some o->H b=none->b∈fs->b∉ex->∃sl,h'.get? b=some { o with slots:=sl }
 free:∀b o,h.get? b=some o->H b=none->b∉ex->H' b=none
 there:∀b o,h.get? b=some o->b∉ex->∃o',h'.get? b=some o'
 tups:∀b xs,H b=some (.tup xs)->H' b=some (.tup xs)
 frzs:∀b o u,H b=some (.frz o u)->H' b=some (.frz o u)
 tbls:∀b ps,H b=some (.tbl ps)->∃more,H' b=some (.tbl (ps++more))
section
variable{fs fs' ex ex':List Addr}{H H1 H2:Hp}{h h1 h2 h':Heap}{a x e:Addr}{o:HO}
theorem Un.any(u:Un fs ex H H1 h h1){b:Addr}{ob:Obj}(q:h.get? b=some ob)(n:H b=none)(hx:b∉ex):∃sl,h1.get? b=some { ob with slots:=sl }:=by
 by_cases hb:b∈fs;exact u.slot b ob q n hb hx;exact⟨ob.slots,u.keep b ob q n hb hx⟩
theorem Un.kept(k:∀b u,h.get? b=some u->h'.get? b=some u):Un fs ex H H h h' :=
 ⟨fun b ob q _ _ _=>k b ob q,fun b ob q _ _ _=>⟨ob.slots,k b ob q⟩,fun _ _ _ n _=>n,fun b ob q _=>⟨ob,k b ob q⟩,fun _ _ q=>q,fun _ _ _ q=>q,fun _ ps q=>⟨#[],by rw[q];simp⟩⟩
theorem Un.refl:Un fs ex H H h h:=Un.kept fun _ _ q=>q
theorem Un.laid(k:∀b u,h.get? b=some u->h'.get? b=some u)(hp:h.objs.size≤a)(hn:H a=none):Un fs ex H (upd H a o) h h' where
 keep:=fun b u q _ _ _=>k b u q
 slot:=fun b u q _ _ _=>⟨u.slots,k b u q⟩
 free:=fun b u q n _=>by rw[qT (Ab (Ah (AU q) hp))];exact n
 there:=fun b u q _=>⟨u,k b u q⟩
 tups:=fun b xs q=>by rw[qT (qU q hn)];exact q
 frzs:=fun b u xs q=>by rw[qT (qU q hn)];exact q
 tbls:=fun b ps q=>⟨#[],by rw[qT (qU q hn),q];simp⟩
theorem Un.write(mu:Mut (H x))(he:e=x∨H e=some (.own x))(k:∀b u,b≠e->h.get? b=some u->h'.get? b=some u)(heo:∃u,h'.get? e=some u):Un fs ex H (upd H x o) h h':=by
 have hx:∀b,H b=none->b≠x:=fun b n z=>by subst z;rw[n]at mu;exact mu
 have hb:∀b,H b=none->b≠e:=fun b n z=>by
  subst z;rcases he with r|r
  ·exact hx b n r
  ·rw[n]at r;cases r
 have hm:∀b u,H b=some u->¬Mut (some u)->b≠x:=fun b u q nm z=>by subst z;rw[q]at mu;exact nm mu
 refine⟨fun b u q n _ _=>k b u (hb b n) q,fun b u q n _ _=>⟨u.slots,k b u (hb b n) q⟩,fun b u q n _=>by rw[qT (hx b n)];exact n,fun b u q _=>?_,
  fun b xs q=>by rw[qT (hm b _ q fun z=>z)];exact q,fun b u xs q=>by rw[qT (hm b _ q fun z=>z)];exact q,fun b ps q=>⟨#[],by rw[qT (hm b _ q fun z=>z),q];simp⟩⟩
 by_cases hbe:b=e;subst hbe;exact heo;exact⟨u,k b u hbe q⟩
end
def trk(h:Heap)(H:Hp):List Addr:=(List.range h.objs.size).filter fun a=>(H a).isSome
def jw(h:Heap)(H:Hp):Heap:=W.hideAll h (trk h H)
theorem qDV(h:Heap)(H:Hp):(jw h H).objs.size=h.objs.size:=W.hideAll_size _ _
theorem qFY{h:Heap}{H:Hp}{b:Addr}{o:Obj}(e:h.get? b=some o)(n:H b=none):(jw h H).get? b=some o :=
 W.hideAll_get _ e fun hm=>by have q:(H b).isSome=true:=(List.mem_filter.mp hm).2;rw[n]at q;simp at q
theorem qGi{h:Heap}{H:Hp}{b:Addr}{o:Obj}(e:(jw h H).get? b=some o):h.get? b=some o∧H b=none:=by
 have e':h.get? b=some o:=W.of_hideAll (trk h H) e;refine⟨e',?_⟩;cases q:H b with
 |none=>rfl
 |some x =>
  have hm:b∈trk h H:=List.mem_filter.mpr ⟨BA.mpr (AU e'),by simp[q]⟩;have z:(jw h H).get? b=none:=W.hideAll_none (trk h H) hm;rw[z]at e;cases e
end L2
namespace L2
open PySem PySem.Spec PyProof.Rows
structure Mod (K:W.Frag) (mg:Str->Option Value) (base:Heap):Prop where
 kin:K.In base
 glob:base.Ns mainGlobals mg
 blt:∃mb,base.Ns builtinsNs mb∧∀x:Str,x ≠ "__name__" ->mb x=bootBuiltins x
 nolimit:base.NoLimit
structure Cx where
 prog:Program
 w:World
 K:W.Frag
 mg:Str->Option Value
 base:Heap
 A:Around
 N:List Str
 s₀:Shared
 H₀:Hp
 env:Env
 outer:List Env
 stack:List Env
 ex:List Addr
 fn:Str->Bool
 calm:Bool
 pn:List (Addr×Obj)
 xe:Value->Shared->Prop
def frs(l:List Env):List Addr:=l.filterMap (·.frame)
abbrev Cx.fs(X:Cx):List Addr:=frs X.outer
def Vis(sc:Scope)(x:Str):Prop:=sc.names.lookup x=some .local∨sc.names.lookup x=some .cell∨sc.names.lookup x=some .free
def Loc(sc:Scope)(x:Str):Prop:=sc.names.lookup x=some .local∨sc.names.lookup x=some .cell
def qLE(env:Env)(h:Heap)(m:Str->Option Value)(x:Str)(u:Value):Prop :=
 (env.kindOf x=some .local∧m x=some u)∨((env.kindOf x=some .cell∨env.kindOf x=some .free)∧∃c,env.cells.lookup x=some c∧h.IsCell c (some u))
structure Cx.Ok (X:Cx):Prop where
 mod:Mod X.K X.mg X.base
 kind:X.env.scope.kind= .function
 glob:X.env.globals=mainGlobals
 blt:X.env.builtins=builtinsNs
 above:X.s₀.heap.objs.size≤X.env.locals
 inj:∀x y c,X.env.cells.lookup x=some c->X.env.cells.lookup y=some c->x=y
 has:∀x,(X.env.kindOf x=some .cell∨X.env.kindOf x=some .free)->∃c,X.env.cells.lookup x=some c
 cab:∀x c,X.fn x=true->X.env.cells.lookup x=some c->X.s₀.heap.objs.size≤c
 hd:X.calm=true->X.A.handled=none
 frames:X.A.frames=some X.stack
 stk:X.stack=X.outer∨(X.stack=X.env::X.outer∧X.env.frame=some X.env.locals)
 exf:∀b∈X.ex,b≠X.env.locals∧∀x c,X.env.cells.lookup x=some c->c≠b
 bs:∀b o,X.base.get? b=some o->X.s₀.heap.get? b=some o∧X.H₀ b=none
 bsz:X.base.objs.size≤X.s₀.heap.objs.size
 noex:∀b o,X.base.get? b=some o->b∉X.ex
 exfs:∀b∈X.ex,b∉X.fs
 funs:X.s₀.heap.FunFrames X.base X.outer
 frf:∀b∈X.fs,X.H₀ b=none
def HndH(A:Around)(H:Hp):Prop:=∀v,A.handled=some v->∃ea oe u vs,v=Value.ref ea∧H ea=some (.frz oe u)∧oe.data= .fields vs∧vs[2]? = some .none
theorem HndH.none{A:Around}{H:Hp}(h:A.handled=none):HndH A H:=fun v e=>by rw[h]at e;cases e
structure Inv (X:Cx) (pins:List (Addr×Obj)) (σ:List (Option V)) (H:Hp) (s:Shared):Prop where
 ok:X.Ok
 os:s.os=X.s₀.os
 bare:AllBare s.gens
 base:Un X.fs X.ex X.H₀ H X.s₀.heap s.heap
 loc:∃m,s.heap.Ns X.env.locals m∧∀(i:Nat) (x:Str) (v:V),X.N[i]? = some x->σ[i]? = some (some v)->Vis X.env.scope x->∃u,RelV v u∧qLE X.env s.heap m x u
 cell:∀x c,X.env.cells.lookup x=some c->∃v,s.heap.IsCell c v
 free:H X.env.locals=none
 freeC:∀x c,X.env.cells.lookup x=some c->H c=none
 pin:∀p∈X.pn++pins,s.heap.get? p.1=some p.2∧H p.1=none∧p.1≠X.env.locals∧p.1∉X.fs∧∀v,p.2.data≠ .cell v
 hok:HOk X.prog X.w H s.heap
 len:σ.length=X.N.length
 hnd:HndH X.A H
section
variable{X:Cx}{pins:List (Addr×Obj)}{σ:List (Option V)}{H H':Hp}{s:Shared}{h':Heap}
theorem Cx.Ok.nofr(ok:X.Ok){b:Addr}{o:Obj}(e:X.base.get? b=some o):b∉X.fs:=fun hb=>by
 have:=(ok.funs.mem hb).1
 rw[e]at this;cases this
theorem Inv.bs(I:Inv X pins σ H s):∀b o,X.base.get? b=some o->s.heap.get? b=some o∧H b=none:=fun b o e =>
 ⟨I.base.keep b o (I.ok.bs b o e).1 (I.ok.bs b o e).2 (I.ok.nofr e) (I.ok.noex b o e),I.base.free b o (I.ok.bs b o e).1 (I.ok.bs b o e).2 (I.ok.noex b o e)⟩
theorem Inv.bk(I:Inv X pins σ H s):∀b o,X.base.get? b=some o->s.heap.get? b=some o:=fun b o e=>(I.bs b o e).1
theorem Inv.mod(I:Inv X pins σ H s):Mod X.K X.mg X.base:=I.ok.mod
theorem Inv.kIn(I:Inv X pins σ H s):X.K.In s.heap:=I.ok.mod.kin.keeps I.bk
theorem Inv.lt(I:Inv X pins σ H s):X.env.locals<s.heap.objs.size:=let ⟨_,hn,_⟩:=I.loc;hn.lt
theorem Inv.sz(I:Inv X pins σ H s):X.s₀.heap.objs.size≤s.heap.objs.size:=Ag I.ok.above (Nat.le_of_lt I.lt)
theorem Inv.nofs(I:Inv X pins σ H s){a:Addr}(h:s.heap.objs.size≤a):a∉X.fs:=fun hb=>by obtain⟨_,o,ho,_⟩:=I.ok.funs.mem hb;exact absurd (Ah (AU ho) (Ag I.sz h)) (BP _)
theorem Inv.cne(I:Inv X pins σ H s):∀x c,X.env.cells.lookup x=some c->c≠X.env.locals:=fun x c e z=>by obtain⟨v,o,ho,hd⟩:=I.cell x c e;obtain⟨m,⟨o',es,ep,ho',hd',_⟩,_⟩:=I.loc;rw[z,ho']at ho;cases ho;rw[hd']at hd;cases hd
theorem Inv.funs(I:Inv X pins σ H s):s.heap.FunFrames X.base X.outer:=by
 have all:∀(l:List Env),(∀b∈frs l,b∈X.fs)->X.s₀.heap.FunFrames X.base l->s.heap.FunFrames X.base l:=by
  intro l;induction l with
  |nil=>intro _ _;trivial
  |cons env r ih =>
   intro hs hl;obtain⟨hk,⟨L,o,hf,hn,ho,hd⟩,hr⟩:=hl;have hL:L∈X.fs:=hs L (by unfold frs;rw[A7,hf];exact AK);obtain⟨sl,e⟩:=I.base.slot L o ho (I.ok.frf L hL) hL fun z=>I.ok.exfs L z hL;exact⟨hk,⟨L,_,hf,hn,e,hd⟩,ih (fun b hb=>hs b (by unfold frs;rw[A7,hf];exact AI _ hb)) hr⟩
 exact all X.outer (fun _ hb=>hb) I.ok.funs
theorem Inv.stack(I:Inv X pins σ H s):s.heap.FunFrames X.base X.stack:=by
 rcases I.ok.stk with e|⟨e,hf⟩
 ·rw[e];exact I.funs
 ·rw[e];obtain⟨m,hn,_⟩:=I.loc;refine .cons (by rw[I.ok.kind];decide) hf hn ?_ I.funs;exact Heap.get?_none_of_le (Ag I.ok.bsz I.ok.above)
theorem Inv.stkSub(I:Inv X pins σ H s):∀b∈frs X.stack,b∈X.env.locals::X.fs:=fun b hb=>by
 rcases I.ok.stk with e|⟨e,hf⟩
 ·rw[e]at hb;exact AI _ hb
 ·rw[e]at hb;unfold frs at hb;rw[A7,hf]at hb;exact hb
theorem Inv.stkFree(I:Inv X pins σ H s):∀b∈frs X.stack,H b=none:=fun b hb=>by
 rcases AH.mp (I.stkSub b hb) with e|hb
 ·rw[e];exact I.free
 ·obtain⟨_,o,ho,_⟩:=I.ok.funs.mem hb;exact I.base.free b o ho (I.ok.frf b hb) fun z=>I.ok.exfs b z hb
theorem Inv.step{g':Array GenState}{t':Nat}{d':Drawn}{ch:List Addr}(I:Inv X pins σ H s)
  (hch:∀b∈ch,(b∈X.ex∨X.s₀.heap.objs.size≤b)∧b≠X.env.locals∧(∀x c,X.env.cells.lookup x=some c->c≠b)∧∀p∈X.pn++pins,p.1≠b)
  (keep:∀b o,b≠X.env.locals->b∉X.fs->b∉ch->s.heap.get? b=some o->H b=none->h'.get? b=some o)
  (slot:∀b o,b≠X.env.locals->b∈X.fs->b∉ch->s.heap.get? b=some o->H b=none->∃sl,h'.get? b=some { o with slots:=sl }) (free:∀b o,b∉ch->s.heap.get? b=some o->H b=none->H' b=none)
  (there:∀b o,b∉ch->s.heap.get? b=some o->∃o',h'.get? b=some o')
  (tups:∀b xs,H b=some (.tup xs)->H' b=some (.tup xs)) (frzs:∀b o u,H b=some (.frz o u)->H' b=some (.frz o u)) (tbls:∀b ps,H b=some (.tbl ps)->∃more,H' b=some (.tbl (ps++more)))
  (ns:∀m,s.heap.Ns X.env.locals m->h'.Ns X.env.locals m) (hok:HOk X.prog X.w H' h') (hg:AllBare g') :
  Inv X pins σ H' { s with heap:=h',gens:=g',drawn:=d',toks:=t' }:=by
 have neL:∀b o,X.s₀.heap.get? b=some o->b≠X.env.locals:=fun b o e=>Ab (Ah (AU e) I.ok.above);have neC:∀b o,X.s₀.heap.get? b=some o->b∉X.ex->b∉ch:=fun b o e hx hb=>by
  rcases (hch b hb).1 with z|z
  ·exact hx z
  ·exact absurd (Ah (AU e) z) (BP _)
 have cellK:∀x c,X.env.cells.lookup x=some c->∀v,s.heap.IsCell c v->h'.IsCell c v:=fun x c e v ⟨o,ho,hd⟩=>by
  have nch:c∉ch:=fun z=>(hch c z).2.2.1 x c e rfl;by_cases hc:c∈X.fs;obtain⟨sl,q⟩:=slot c o (I.cne x c e) hc nch ho (I.freeC x c e);exact⟨_,q,hd⟩;exact⟨o,keep c o (I.cne x c e) hc nch ho (I.freeC x c e),hd⟩
 refine⟨I.ok,I.os,hg,⟨fun b o e n hb hx=>?_,fun b o e n hb hx=>?_,fun b o e n hx=>?_,fun b o e hx=>?_,fun b xs e=>tups b xs (I.base.tups b xs e),fun b o xs e=>frzs b o xs (I.base.frzs b o xs e),fun b ps e=>?_⟩,?_,fun x c e=>?_,?_,fun x c e=>?_,fun p hp=>?_,hok,I.len,fun v hv=>(let ⟨ea,oe,u,vs,e1,e2,e3⟩:=I.hnd v hv;⟨ea,oe,u,vs,e1,frzs _ _ _ e2,e3⟩)⟩;exact keep b o (neL b o e) hb (neC b o e hx) (I.base.keep b o e n hb hx) (I.base.free b o e n hx);obtain⟨sl,e1⟩:=I.base.slot b o e n hb hx;obtain⟨sl',e2⟩:=slot b _ (neL b o e) hb (neC b o e hx) e1 (I.base.free b o e n hx);exact⟨sl',e2⟩;obtain⟨o',e1⟩:=I.base.there b o e hx;exact free b o' (neC b o e hx) e1 (I.base.free b o e n hx);obtain⟨o',e1⟩:=I.base.there b o e hx;exact there b o' (neC b o e hx) e1;obtain⟨m1,e1⟩:=I.base.tbls b ps e;obtain⟨m2,e2⟩:=tbls b _ e1;exact⟨m1++m2,by rw[e2,Array.append_assoc]⟩
 ·obtain⟨m,hn,hl⟩:=I.loc;refine⟨m,ns m hn,fun i x v e1 e2 e3=>?_⟩;obtain⟨u,r,l⟩:=hl i x v e1 e2 e3;refine⟨u,r,?_⟩;rcases l with l|⟨k,c,e,z⟩
  ·exact .inl l
  ·exact .inr ⟨k,c,e,cellK x c e _ z⟩
 ·obtain⟨v,z⟩:=I.cell x c e;exact⟨v,cellK x c e v z⟩
 ·obtain⟨m,⟨o,_,_,ho,_⟩,_⟩:=I.loc;exact free _ o (fun z=>(hch _ z).2.1 rfl) ho I.free
 ·obtain⟨v,o,ho,hd⟩:=I.cell x c e;exact free c o (fun z=>(hch c z).2.2.1 x c e rfl) ho (I.freeC x c e)
 ·obtain⟨e,n,ne,nf,d⟩:=I.pin p hp;have nch:p.1∉ch:=fun z=>(hch p.1 z).2.2.2 p hp rfl;exact⟨keep p.1 p.2 ne nf nch e n,free p.1 p.2 nch e n,ne,nf,d⟩
theorem Inv.un{t':Nat}(I:Inv X pins σ H s)(u:Un X.fs [] H H' s.heap h')(hok:HOk X.prog X.w H' h'):Inv X pins σ H' { s with heap:=h',toks:=t' }:=by
 obtain⟨m,⟨o,es,ep,ho,r⟩,_⟩:=id I.loc;obtain⟨sl,hL⟩:=u.any ho I.free (by simp);exact I.step (g':=s.gens) (d':=s.drawn) (ch:=[]) (fun _ z=>nomatch z) (fun b o _ hb _ e n=>u.keep b o e n hb (by simp)) (fun b o _ hb _ e n=>u.slot b o e n hb (by simp)) (fun b o _ e n=>u.free b o e n (by simp)) (fun b o _ e=>u.there b o e (by simp)) u.tups u.frzs u.tbls (fun m' hm=>by
  obtain⟨o',es',ep',ho',r'⟩:=hm;rw[ho]at ho';cases ho';exact⟨_,es',ep',hL,r'⟩) hok I.bare
theorem Inv.call{g':Array GenState}{t':Nat}{d':Drawn}{ch:List Addr}(I:Inv X pins σ H s)(u:Un (frs X.stack) ch H H' s.heap h')(hok:HOk X.prog X.w H' h')(hg:AllBare g')
  (hch:∀b∈ch,(b∈X.ex∨X.s₀.heap.objs.size≤b)∧b≠X.env.locals∧(∀x c,X.env.cells.lookup x=some c->c≠b)∧∀p∈X.pn++pins,p.1≠b) :
  Inv X pins σ H' { s with heap:=h',gens:=g',drawn:=d',toks:=t' }:=by
 obtain⟨m,⟨o,es,ep,ho,r⟩,_⟩:=id I.loc;obtain⟨sl,hL⟩:=u.any ho I.free fun z=>(hch _ z).2.1 rfl;exact I.step (ch:=ch) hch (fun b o hL hb hc e n=>u.keep b o e n (fun z=>(AH.mp (I.stkSub b z)).elim hL hb) hc) (fun b o _ _ hc e n=>u.any e n hc) (fun b o hc e n=>u.free b o e n hc) (fun b o hc e=>u.there b o e hc) u.tups u.frzs u.tbls (fun m' hm=>by
  obtain⟨o',es',ep',ho',r'⟩:=hm;rw[ho]at ho';cases ho';exact⟨_,es',ep',hL,r'⟩) hok hg
theorem Inv.turned{t':Nat}{it:Addr}(I:Inv X pins σ H s)(k:∀b o,b≠it->s.heap.get? b=some o->h'.get? b=some o)(hn:H it=none)(hL:it≠X.env.locals)
  (h1:it∈X.ex∨X.s₀.heap.objs.size≤it) (h2:∀x c,X.env.cells.lookup x=some c->c≠it) (h3:∀p∈X.pn++pins,p.1≠it):Inv X pins σ H { s with heap:=h',toks:=t' }:=by
 have nit:∀b u,H b=some u->b≠it:=fun b u e z=>by rw[z,hn]at e;cases e
 refine I.step (g':=s.gens) (d':=s.drawn) (ch:=[it]) (fun b hb=>?_) (fun b o _ _ hc e _=>k b o (fun z=>hc (by simp[z])) e) (fun b o _ _ hc e _=>⟨o.slots,k b o (fun z=>hc (by simp[z])) e⟩) (fun _ _ _ _ n=>n)
  (fun b o hc e=>⟨o,k b o (fun z=>hc (by simp[z])) e⟩) (fun _ _ e=>e) (fun _ _ _ e=>e) (fun b ps e=>⟨#[],by rw[e];simp⟩) (fun m hm=>?_) (fun b u e=>?_) I.bare
 ·have e:b=it:=by simpa using hb
  subst e;exact⟨h1,hL,h2,h3⟩
 ·obtain⟨o,es,ep,ho,r⟩:=hm;exact⟨o,es,ep,k _ o (Ne.symm hL) ho,r⟩
 ·refine (I.hok b u e).stay (fun c v hc q=>k c v ?_ q) (fun _ q=>q) fun _ _ q=>q;rcases hc with z|z
  ·rw[z];exact nit b u e
  ·exact nit c _ z
theorem Inv.tok(I:Inv X pins σ H s)(t:Nat):Inv X pins σ H { s with toks:=t }:=I.un (h':=s.heap) (t':=t) Un.refl I.hok
theorem Inv.kept{t':Nat}(I:Inv X pins σ H s)(k:∀b u,s.heap.get? b=some u->h'.get? b=some u):Inv X pins σ H { s with heap:=h',toks:=t' }:=I.un (Un.kept k) (I.hok.kept k)
theorem Inv.laid{a:Addr}{o:HO}{t':Nat}(I:Inv X pins σ H s)(k:∀b u,s.heap.get? b=some u->h'.get? b=some u)(hp:s.heap.objs.size≤a)(new:ObjOk X.prog X.w (upd H a o) h' a o) :
  Inv X pins σ (upd H a o) { s with heap:=h',toks:=t' }:=I.un (Un.laid k hp (I.hok.fresh hp)) (I.hok.laid k hp new)
theorem Inv.write{x e:Addr}{o:HO}{t':Nat}(I:Inv X pins σ H s)(mu:Mut (H x))(he:e=x∨H e=some (.own x))(k:∀b u,b≠e->s.heap.get? b=some u->h'.get? b=some u)(heo:∃u,h'.get? e=some u)
  (new:ObjOk X.prog X.w (upd H x o) h' x o):Inv X pins σ (upd H x o) { s with heap:=h',toks:=t' }:=I.un (Un.write mu he k heo) (I.hok.write mu he k heo new)
theorem Inv.pins_of{pins':List (Addr×Obj)}(I:Inv X pins σ H s)(h:∀p∈pins',s.heap.get? p.1=some p.2∧H p.1=none∧p.1≠X.env.locals∧p.1∉X.fs∧∀v,p.2.data≠ .cell v):Inv X pins' σ H s :=
 ⟨I.ok,I.os,I.bare,I.base,I.loc,I.cell,I.free,I.freeC,fun p hp=>(A1.mp hp).elim (fun z=>I.pin p (CC _ z)) (h p),I.hok,I.len,I.hnd⟩
theorem Yj{N:List Str}(hN:N.Nodup){i j:Nat}{x:Str}(a:N[i]? = some x)(b:N[j]? = some x):i=j:=by obtain⟨h1,e1⟩:=AQ.mp a;obtain⟨h2,e2⟩:=AQ.mp b;exact (List.getElem_inj hN).mp (e1.trans e2.symm)
theorem qDX{M:Model}{A:Around}{E:Value->Shared->Prop}{i:Nat}{x:Str}{v:V}{u:Value}{Q:Unit->Shared->Prop}(I:Inv X pins σ H s)(hN:X.N.Nodup)(hi:X.N[i]? = some x)(hx:Loc X.env.scope x)(r:RelV v u)
  (h:∀s',Inv X pins (σ.set i (some v)) H s'->(∃a,Heap.SameBut a s.heap s'.heap∧(a=X.env.locals∨X.env.cells.lookup x=some a))->Q () s') (hf:X.fn x=true∨X.env.scope.names.lookup x=some .local:=by first|exact .inl rfl|exact .inr rfl|assumption):wpAny M A (storeName X.env x u) Q E s:=by
 obtain⟨m,hn,hl⟩:=id I.loc;have hcls:(X.env.scope.kind == .class||(X.env.scope.kind == .module&&X.env.locals != X.env.globals))=false:=by rw[I.ok.kind];rfl
 have hiσ:i<σ.length:=by rw[I.len];exact (AQ.mp hi).1
 have cne:=I.cne;have tracked:∀{a:Addr} {h':Heap},(∃o,s.heap.get? a=some o∧H a=none)->Heap.SameBut a s.heap h'->HOk X.prog X.w H h':=fun {a h'} ha hs b ob e=>by
  obtain⟨_,_,hfree⟩:=ha;refine (I.hok b ob e).stay (fun c w' hc q=>(hs.2 c ?_).trans q) (fun _ q=>q) fun _ _ q=>q;rintro rfl;rcases hc with rfl|hc
  ·rw[hfree]at e;cases e
  ·rw[hfree]at hc;cases hc
 rcases hx with hk|hk
 ·refine wpAny_storeName_local hk hn (fun h' hn' hs=>?_) hcls;obtain⟨oL,_,_,hoL,_⟩:=id hn;refine h _ ⟨I.ok,I.os,I.bare,⟨fun b o e n hb hx=>?_,fun b o e n hb hx=>?_,I.base.free,fun b o e hx=>?_,I.base.tups,I.base.frzs,I.base.tbls⟩,⟨_,hn',fun j y v' e1 e2 e3=>?_⟩,fun y c e=>?_,I.free,I.freeC,fun p hp=>?_,tracked ⟨oL,hoL,I.free⟩ hs,by simpa using I.len,I.hnd⟩ ⟨_,hs,.inl rfl⟩;exact (hs.2 b (Ab (Ah (AU e) I.ok.above))).trans (I.base.keep b o e n hb hx);obtain⟨sl,e1⟩:=I.base.slot b o e n hb hx;exact⟨sl,(hs.2 b (Ab (Ah (AU e) I.ok.above))).trans e1⟩;obtain⟨o',e1⟩:=I.base.there b o e hx;exact⟨o',(hs.2 b (Ab (Ah (AU e) I.ok.above))).trans e1⟩
  ·by_cases hj:j=i;subst hj;rw[hi]at e1;cases e1;rw[A5 hiσ]at e2;cases e2;exact⟨u,r,.inl ⟨hk,by simp⟩⟩
   ·rw[BB (Ne.symm hj)]at e2;obtain⟨u',r',q⟩:=hl j y v' e1 e2 e3;refine⟨u',r',?_⟩;rcases q with⟨k,e⟩|⟨k,c,e,z⟩
    ·refine .inl ⟨k,?_⟩
     have:y≠x:=fun e=>hj (Yj hN e1 (e ▸ hi))
     simp[this,e]
    ·exact .inr ⟨k,c,e,z.sameBut hs (cne y c e)⟩
  ·obtain⟨w',z⟩:=I.cell y c e;exact⟨w',z.sameBut hs (cne y c e)⟩
  ·obtain⟨e,n,ne,nf,d⟩:=I.pin p hp;exact⟨(hs.2 p.1 ne).trans e,n,ne,nf,d⟩
 ·have hfn:X.fn x=true:=by
   rcases hf with z|z
   ·exact z
   ·rw[z]at hk;cases hk
  obtain⟨c,hc⟩:=I.ok.has x (.inl hk);obtain⟨w',z⟩:=I.cell x c hc;refine wpAny_storeName_cell I.ok.kind hk hc z (fun h' hc' hs=>?_);obtain⟨oc,hoc,hocd⟩:=id z;refine h { s with heap:=h' } ⟨I.ok,I.os,I.bare,⟨fun b o e n hb hx=>?_,fun b o e n hb hx=>?_,I.base.free,fun b o e hx=>?_,I.base.tups,I.base.frzs,I.base.tbls⟩,⟨m,hn.sameBut hs (Ne.symm (cne x c hc)),fun j y v' e1 e2 e3=>?_⟩,fun y c' e=>?_,I.free,I.freeC,fun p hp=>?_,tracked ⟨oc,hoc,I.freeC x c hc⟩ hs,by simpa using I.len,I.hnd⟩ ⟨c,hs,.inr hc⟩;exact (hs.2 b (Ab (Ah (AU e) (I.ok.cab x c hfn hc)))).trans (I.base.keep b o e n hb hx);obtain⟨sl,e1⟩:=I.base.slot b o e n hb hx;exact⟨sl,(hs.2 b (Ab (Ah (AU e) (I.ok.cab x c hfn hc)))).trans e1⟩;obtain⟨o',e1⟩:=I.base.there b o e hx;exact⟨o',(hs.2 b (Ab (Ah (AU e) (I.ok.cab x c hfn hc)))).trans e1⟩
  ·by_cases hj:j=i;subst hj;rw[hi]at e1;cases e1;rw[A5 hiσ]at e2;cases e2;exact⟨u,r,.inr ⟨.inl hk,c,hc,hc'⟩⟩
   ·rw[BB (Ne.symm hj)]at e2;obtain⟨u',r',q⟩:=hl j y v' e1 e2 e3;refine⟨u',r',?_⟩;rcases q with q|⟨k,c',e,z'⟩
    ·exact .inl q
    ·refine .inr ⟨k,c',e,z'.sameBut hs ?_⟩;rintro rfl;exact hj (Yj hN e1 (I.ok.inj _ _ _ e hc ▸ hi))
  ·by_cases hcc:c'=c;subst hcc;exact⟨_,hc'⟩;obtain⟨w2,z2⟩:=I.cell y c' e;exact⟨w2,z2.sameBut hs hcc⟩
  ·obtain⟨e,n,ne,nf,d⟩:=I.pin p hp;refine⟨(hs.2 p.1 ?_).trans e,n,ne,nf,d⟩;intro q;rw[q,hoc]at e;have q':oc=p.2:=Ac e;exact d w' (by rw[←q'];exact hocd)
theorem Z7{M:Model}{A:Around}{E:Value->Shared->Prop}{i:Nat}{x:Str}{v:V}{u:Value}{Q:Unit->Shared->Prop}(I:Inv X pins σ H s)(hN:X.N.Nodup)(hi:X.N[i]? = some x)(hx:Loc X.env.scope x)(r:RelV v u)
  (h:∀s',Inv X pins (σ.set i (some v)) H s'->Q () s') (hf:X.fn x=true∨X.env.scope.names.lookup x=some .local:=by first|exact .inl rfl|exact .inr rfl|assumption):wpAny M A (storeName X.env x u) Q E s :=
 qDX I hN hi hx r (fun s' I' _=>h s' I') hf
theorem Inv.call'{s':Shared}{ch:List Addr}(I:Inv X pins σ H s)(ho:s'.os=s.os)(u:Un (frs X.stack) ch H H' s.heap s'.heap)(hok:HOk X.prog X.w H' s'.heap)(hg:AllBare s'.gens)
  (hch:∀b∈ch,(b∈X.ex∨X.s₀.heap.objs.size≤b)∧b≠X.env.locals∧(∀x c,X.env.cells.lookup x=some c->c≠b)∧∀p∈X.pn++pins,p.1≠b):Inv X pins σ H' s':=by obtain⟨h',g',d',t',o'⟩:=s';have e:o'=s.os:=ho;subst e;exact I.call (g':=g') (t':=t') (d':=d') u hok hg hch
end
abbrev XK:=Value->Option Addr->Hp->Prop
abbrev St:=List (Option V)
abbrev VK:=V->Hp->Prop
abbrev TE:=St->Hp->VK->Prop
abbrev TT:=St->Hp->(Bool->Hp->Prop)->Prop
abbrev TA:=St->Hp->(List V->Hp->Prop)->Prop
structure Ends where
 nx:St->Hp->Prop
 rt:VK
 bk:St->Hp->Prop:=fun _ _=>False
 ct:St->Hp->Prop:=fun _ _=>False
abbrev TS:=Ends->St->Hp->Prop
def EP(X:Cx)(pins:List (Addr×Obj))(σ:St)(Q:VK)(u:Value)(s':Shared):Prop:=∃v H',Inv X pins σ H' s'∧RelV v u∧Q v H'
def TP(X:Cx)(pins:List (Addr×Obj))(σ:St)(Q:Bool->Hp->Prop)(b:Bool)(s':Shared):Prop:=∃H',Inv X pins σ H' s'∧Q b H'
def AP(X:Cx)(pins:List (Addr×Obj))(σ:St)(Q:List V->Hp->Prop)(us:List Value)(s':Shared):Prop:=∃vs H',Inv X pins σ H' s'∧Vals vs us∧Q vs H'
def SP(X:Cx)(pins:List (Addr×Obj))(D:Ends)(f:Flow)(s':Shared):Prop :=
 match f with| .next=>∃σ' H',Inv X pins σ' H' s'∧D.nx σ' H'| .brk=>∃σ' H',Inv X pins σ' H' s'∧D.bk σ' H'| .cont=>∃σ' H',Inv X pins σ' H' s'∧D.ct σ' H'| .ret u=>∃v σ' H',Inv X pins σ' H' s'∧RelV v u∧D.rt v H'
def PE(X:Cx)(e:Expr)(t:TE):Prop :=
 ∀(pins:List (Addr×Obj)) (s:Shared) (σ:St) (H:Hp) (Q:VK),Inv X pins σ H s->t σ H Q->wpAny (model X.prog X.w) X.A (eval e X.env) (EP X pins σ Q) X.xe s
def PT(X:Cx)(e:Expr)(t:TT):Prop :=
 ∀(pins:List (Addr×Obj)) (s:Shared) (σ:St) (H:Hp) (Q:Bool->Hp->Prop),Inv X pins σ H s->t σ H Q->wpAny (model X.prog X.w) X.A (isTrue e X.env (eval e X.env)) (TP X pins σ Q) X.xe s
def PW(X:Cx)(e:Expr)(t:TT):Prop :=
 ∀(whole:Sem Value) (pins:List (Addr×Obj)) (s:Shared) (σ:St) (H:Hp) (Q:Bool->Hp->Prop),Inv X pins σ H s->t σ H Q->wpAny (model X.prog X.w) X.A (isTrue e X.env whole) (TP X pins σ Q) X.xe s
theorem PW.pt{X:Cx}{e:Expr}{t:TT}(h:PW X e t):PT X e t:=h _
def PA(X:Cx)(es:List Expr)(t:TA):Prop :=
 ∀(pos:Pos) (pins:List (Addr×Obj)) (s:Shared) (σ:St) (H:Hp) (Q:List V->Hp->Prop),Inv X pins σ H s->t σ H Q->wpAny (model X.prog X.w) X.A (spliced (backTo pos (starEach es X.env))) (AP X pins σ Q) X.xe s
def PS(X:Cx)(st:Stmt)(t:TS):Prop :=
 ∀(pins:List (Addr×Obj)) (s:Shared) (σ:St) (H:Hp) (D:Ends),Inv X pins σ H s->t D σ H->wpAny (model X.prog X.w) X.A (exec st X.env) (SP X pins D) X.xe s
def PSs(X:Cx)(st:List Stmt)(t:TS):Prop :=
 ∀(pins:List (Addr×Obj)) (s:Shared) (σ:St) (H:Hp) (D:Ends),Inv X pins σ H s->t D σ H->wpAny (model X.prog X.w) X.A (execs st X.env) (SP X pins D) X.xe s
theorem thn{α:Type}{t:Sem α}{Q Q':α->Shared->Prop}{M:Model}{A:Around}{E:Value->Shared->Prop}{s:Shared}(h:wpAny M A t Q E s)(hQ:∀a s,Q a s->Q' a s):wpAny M A t Q' E s:=BJ h hQ fun _ _ x=>x
end L2
namespace L2
open PySem PySem.Spec PyProof.Rows
section
variable{X:Cx}
def jE(i:Nat):TE:=fun σ H Q=>∃v,σ[i]? = some (some v)∧Q v H
def tC(v:V):TE:=fun _ H Q=>Q v H
theorem ZL{i:Nat}{x:Str}{pos:Pos}(hN:X.N[i]? = some x)(hv:Vis X.env.scope x)(hd:(x==("__debug__":Str))=false:=by decide)(hcd:(x==("__classdict__":Str))=false:=by decide):PE X (.Name x pos) (jE i):=by
 intro pins s σ H Q I h;obtain⟨v,e,h⟩:=h;obtain⟨m,hn,hl⟩:=I.loc;obtain⟨u,r,l⟩:=hl i x v hN e hv;have fin:EP X pins σ Q u s:=⟨v,H,I,r,h⟩;rcases l with⟨hk,hm⟩|⟨hk,c,hc,hcell⟩
 ·exact wpAny_Name (wpAny_loadName_local I.ok.kind hk hn hm fin) hd
 ·rcases hk with hk|hk
  ·exact wpAny_Name (wpAny_loadName_cell I.ok.kind hk hc hcell fin) hd
  ·exact wpAny_Name (wpAny_loadName_free I.ok.kind hk hc hcell fin hcd) hd
theorem qJV{i j pos}:PE X (.Constant (.int i) j pos) (tC (.int i)):=fun _ _ _ H _ I h=>wpAny_Constant_int ⟨.int i,H,I.tok _,⟨_,rfl⟩,h⟩
theorem qKN{b j pos}:PE X (.Constant (.bool b) j pos) (tC (.bl b)):=fun _ _ _ H _ I h=>Constant_bool ⟨.bl b,H,I,rfl,h⟩
theorem qIe{j pos}:PE X (.Constant .none j pos) (tC .non):=fun _ _ _ H _ I h=>Constant_none ⟨.non,H,I,rfl,h⟩
theorem qE1{x j pos}:PE X (.Constant (.str x) j pos) (tC (.str x)):=fun _ _ _ H _ I h=>Calls.Constant_str ⟨.str x,H,I.tok _,⟨_,rfl⟩,h⟩
def Gl(X:Cx)(x:Str):Prop:=X.env.kindOf x=some .globalImplicit
theorem Zv{E:Value->Shared->Prop}{pins:List (Addr×Obj)}{s:Shared}{σ:St}{H:Hp}{x:Str}{u:Value}{pos:Pos}{Q:Value->Shared->Prop}(I:Inv X pins σ H s)(hg:Gl X x)(hm:X.mg x=some u)(h:Q u s)
  (hd:(x==("__debug__":Str))=false:=by decide):wpAny (model X.prog X.w) X.A (eval (.Name x pos) X.env) Q E s :=
 Calls.Name_function_global I.ok.kind hg (Calls.loadGlobal_global (by rw[I.ok.glob];exact I.mod.glob.keeps I.bk) hm h) hd
theorem zZ{E:Value->Shared->Prop}{pins:List (Addr×Obj)}{s:Shared}{σ:St}{H:Hp}{x:Str}{u:Value}{pos:Pos}{Q:Value->Shared->Prop}(I:Inv X pins σ H s)(hg:Gl X x)(hm:X.mg x=none)(hv:bootBuiltins x=some u)(h:Q u s)
  (hn:x ≠ "__name__" :=by decide) (hd:(x==("__debug__":Str))=false:=by decide):wpAny (model X.prog X.w) X.A (eval (.Name x pos) X.env) Q E s:=by obtain⟨mb,h1,h2⟩:=I.mod.blt;exact Calls.Name_function_global I.ok.kind hg (Calls.loadGlobal_builtin (by rw[I.ok.glob];exact I.mod.glob.keeps I.bk) hm (by rw[I.ok.blt];exact h1.keeps I.bk) ((h2 x hn).trans hv) h) hd
theorem qCD{x:Str}{v:V}{u:Value}{pos:Pos}(hg:Gl X x)(hm:X.mg x=some u)(r:RelV v u)(hd:(x==("__debug__":Str))=false:=by decide):PE X (.Name x pos) (tC v) :=
 fun _ _ _ H _ I h=>Zv I hg hm ⟨v,H,I,r,h⟩ hd
theorem qHK{x:Str}{v:V}{u:Value}{pos:Pos}(hg:Gl X x)(hm:X.mg x=none)(hv:bootBuiltins x=some u)(r:RelV v u)(hn:x ≠ "__name__" :=by decide)(hd:(x==("__debug__":Str))=false:=by decide):PE X (.Name x pos) (tC v) :=
 fun _ _ _ H _ I h=>zZ I hg hm hv ⟨v,H,I,r,h⟩ hn hd
variable{a b:Expr}{ta tb:TE}{pos:Pos}
variable{tA tB':TT}{rest:List Expr}
def qLv(t u:TT):TT:=fun σ H Q=>t σ H fun c H1=>if c=true then u σ H1 Q else Q false H1
def tOr(t u:TT):TT:=fun σ H Q=>t σ H fun c H1=>if c=true then Q true H1 else u σ H1 Q
def qLT(t:TT):TT:=fun σ H Q=>t σ H fun c H1=>Q (!c) H1
theorem qHf(ha:PT X a tA):PW X (.BoolOp .And [a] pos) tA:=by
 intro wh pins s σ H Q I h;refine isTrue_and (thn (ha pins s σ H Q I h) fun c s1 e=>?_);cases c with|true=>exact isTrue_and_nil e|false=>exact e
theorem qIT(ha:PT X a tA):PW X (.BoolOp .Or [a] pos) tA:=by
 intro wh pins s σ H Q I h;refine isTrue_or (thn (ha pins s σ H Q I h) fun c s1 e=>?_);cases c with|false=>exact isTrue_or_nil e|true=>exact e
theorem qJj(ha:PT X a tA)(hb:PW X (.BoolOp .And (b::rest) pos) tB'):PW X (.BoolOp .And (a::b::rest) pos) (qLv tA tB'):=by
 intro wh pins s σ H Q I h;refine isTrue_and (thn (ha pins s σ H _ I h) fun c s1 ⟨H1,I1,q1⟩=>?_);cases c with|true=>exact hb wh pins s1 σ H1 Q I1 q1|false=>exact⟨H1,I1,q1⟩
theorem qKK(ha:PT X a tA)(hb:PW X (.BoolOp .Or (b::rest) pos) tB'):PW X (.BoolOp .Or (a::b::rest) pos) (tOr tA tB'):=by
 intro wh pins s σ H Q I h;refine isTrue_or (thn (ha pins s σ H _ I h) fun c s1 ⟨H1,I1,q1⟩=>?_);cases c with|true=>exact⟨H1,I1,q1⟩|false=>exact hb wh pins s1 σ H1 Q I1 q1
theorem qI2(ha:PT X a tA):PT X (.UnaryOp .Not a pos) (qLT tA):=by intro pins s σ H Q I h;exact isTrue_not (ha pins s σ H (fun c H1=>Q (!c) H1) I h)
def qLD(ta tb:TE):TE:=fun σ H Q=>ta σ H fun x H1=>∃c,x= .bl c∧if c=true then tb σ H1 Q else Q (.bl false) H1
def qKJ(ta:TE):TE:=fun σ H Q=>ta σ H fun x H1=>∃c,x= .bl c∧Q (.bl (!c)) H1
theorem qJr{op}{t:TE}(h:PE X a t):PE X (.BoolOp op [a] pos) t:=fun pins s σ H Q I hw=>BoolOp_one (h pins s σ H Q I hw)
theorem qJG(ha:PE X a ta)(hb:PE X (.BoolOp .And (b::rest) pos) tb):PE X (.BoolOp .And (a::b::rest) pos) (qLD ta tb):=by
 intro pins s σ H Q I h;refine BoolOp_and (thn (ha pins s σ H _ I h) fun v s1 ⟨x,H1,I1,r1,q1⟩=>?_);obtain⟨c,rfl,q1⟩:=q1;cases r1;refine Bi ?_;cases c with|true=>exact hb pins s1 σ H1 Q I1 q1|false=>exact⟨.bl false,H1,I1,rfl,q1⟩
theorem qIh(ha:PE X a ta):PE X (.UnaryOp .Not a pos) (qKJ ta):=by intro pins s σ H Q I h;refine UnaryOp_ (thn (ha pins s σ H _ I h) fun v s1 ⟨x,H1,I1,r1,q1⟩=>?_);obtain⟨c,rfl,q1⟩:=q1;cases r1;exact not_of (Bi ⟨.bl (!c),H1,I1,rfl,q1⟩)
end
end L2
namespace L2
open PySem PySem.Spec PyProof.Rows
def SqL(K:W.Frag)(H:Hp)(a:Addr)(xs:List V):Prop :=
 Rd H a (.lst xs) ∨
  ∃(o:Obj) (its:Array Value) (n:Nat),K.lookup a=some o∧o.cls= .type "list" ∧o.dict=none∧o.data= .seq its n∧its.size≤sizeLine∧Vals xs its.toList
def SqT(K:W.Frag)(H:Hp)(a:Addr)(xs:List V):Prop :=
 Rd H a (.tup xs) ∨
  ∃(o:Obj) (its:Array Value) (n:Nat),K.lookup a=some o∧o.cls= .type "tuple" ∧o.data= .seq its n∧its.size≤sizeLine∧Vals xs its.toList
def qLr:Value->Option V| .none=>some .non| .bool b=>some (.bl b)| .int i _=>some (.int i)| .str x _=>some (.str x)| .bytes b _=>some (.byt b)| .float b _=>some (.flt b)| .ref a=>some (.ref a)| .type n=>some (.ty n)|_=>none
theorem RelV.abs{x:V}{u:Value}(r:RelV x u):qLr u=some x:=by
 cases x with|non=>cases r;rfl|bl _=>cases r;rfl|int _=>obtain⟨t,rfl⟩:=r;rfl|str _=>obtain⟨t,rfl⟩:=r;rfl|byt _=>obtain⟨t,rfl⟩:=r;rfl|flt _=>obtain⟨t,rfl⟩:=r;rfl|ref _=>cases r;rfl|ty _=>cases r;rfl
theorem RelV.inj{x y:V}{u:Value}(r:RelV x u)(q:RelV y u):x=y:=Ac (r.abs.symm.trans q.abs)
theorem Vals.inj:∀{xs ys:List V} {us:List Value},Vals xs us->Vals ys us->xs=ys|_,_,_,.nil,.nil=>rfl|_,_,_,.cons r t,.cons r' t'=>by rw[r.inj r',Vals.inj t t']
section
variable{X:Cx}{pins:List (Addr×Obj)}{σ:St}{H:Hp}{s:Shared}{a:Addr}{xs ys:List V}
theorem SqL.of{K:W.Frag}(h:H a=some (.lst xs)):SqL K H a xs:=.inl (.inl h)
theorem Inv.list(I:Inv X pins σ H s)(h:SqL X.K H a xs):∃its:List Value,Vals xs its∧PlainL s.heap a its.toArray∧xs.length≤sizeLine:=by
 rcases h with h|⟨o,its,n,hk,hc,hd,hs,hz,r⟩
 ·obtain⟨z,its,n,r,e⟩:=h.ok I.hok;exact⟨its,r,⟨_,n,e,rfl,rfl,rfl⟩,z⟩
 ·refine⟨its.toList,r,⟨o,n,I.kIn a o hk,hc,hd,by simpa using hs⟩,?_⟩;have e:=r.length;simp only[AZ]at e;omega
theorem Inv.tuple(I:Inv X pins σ H s)(h:SqT X.K H a xs):∃its:List Value,Vals xs its∧IsTup s.heap a its.toArray∧xs.length≤sizeLine:=by
 rcases h with h|⟨o,its,n,hk,hc,hs,hz,r⟩
 ·obtain⟨z,its,r,p⟩:=h.ok I.hok;exact⟨its,r,p,z⟩
 ·refine⟨its.toList,r,⟨o,I.kIn a o hk,hc,n,by simpa using hs⟩,?_⟩;have e:=r.length;simp only[AZ]at e;omega
theorem Inv.list_inj(I:Inv X pins σ H s)(h:SqL X.K H a xs)(h':SqL X.K H a ys):xs=ys:=by
 obtain⟨its,r,⟨o,n,e,_,_,d⟩,_⟩:=I.list h;obtain⟨its',r',⟨o',n',e',_,_,d'⟩,_⟩:=I.list h';rw[e]at e';cases e';rw[d]at d';injection d' with d1 _
 have:its=its':=by simpa using Bv Array.toList d1
 subst this;exact r.inj r'
theorem Inv.tuple_inj(I:Inv X pins σ H s)(h:SqT X.K H a xs)(h':SqT X.K H a ys):xs=ys:=by
 obtain⟨its,r,⟨o,e,_,n,d⟩,_⟩:=I.tuple h;obtain⟨its',r',⟨o',e',_,n',d'⟩,_⟩:=I.tuple h';rw[e]at e';cases e';rw[d]at d';injection d' with d1 _
 have:its=its':=by simpa using Bv Array.toList d1
 subst this;exact r.inj r'
end
abbrev Cx.wish(X:Cx)(E:Value->Shared->Prop):Cx:={ X with xe:=E }
abbrev Cx.nox(X:Cx):Cx:=X.wish fun _ _=>False
theorem Cx.Ok.wish{X:Cx}(ok:X.Ok)(E:Value->Shared->Prop):(X.wish E).Ok :=
 ⟨ok.mod,ok.kind,ok.glob,ok.blt,ok.above,ok.inj,ok.has,ok.cab,ok.hd,ok.frames,ok.stk,ok.exf,ok.bs,ok.bsz,ok.noex,ok.exfs,ok.funs,ok.frf⟩
theorem Cx.Ok.unwish{X:Cx}{E:Value->Shared->Prop}(ok:(X.wish E).Ok):X.Ok :=
 ⟨ok.mod,ok.kind,ok.glob,ok.blt,ok.above,ok.inj,ok.has,ok.cab,ok.hd,ok.frames,ok.stk,ok.exf,ok.bs,ok.bsz,ok.noex,ok.exfs,ok.funs,ok.frf⟩
section
variable{X:Cx}{pins:List (Addr×Obj)}{σ:St}{H:Hp}{s:Shared}{E:Value->Shared->Prop}
theorem Inv.wish(I:Inv X pins σ H s)(E:Value->Shared->Prop):Inv (X.wish E) pins σ H s:=⟨I.ok.wish E,I.os,I.bare,I.base,I.loc,I.cell,I.free,I.freeC,I.pin,I.hok,I.len,I.hnd⟩
theorem Inv.unwish(I:Inv (X.wish E) pins σ H s):Inv X pins σ H s:=⟨I.ok.unwish,I.os,I.bare,I.base,I.loc,I.cell,I.free,I.freeC,I.pin,I.hok,I.len,I.hnd⟩
theorem SP.unwish{D:Ends}{f:Flow}{s':Shared}(h:SP (X.wish E) pins D f s'):SP X pins D f s':=by
 cases f with|next=>obtain⟨σ',H',I,q⟩:=h;exact⟨σ',H',I.unwish,q⟩|brk=>obtain⟨σ',H',I,q⟩:=h;exact⟨σ',H',I.unwish,q⟩|cont=>obtain⟨σ',H',I,q⟩:=h;exact⟨σ',H',I.unwish,q⟩|ret u=>obtain⟨v,σ',H',I,r,q⟩:=h;exact⟨v,σ',H',I.unwish,r,q⟩
end
section
variable{X:Cx}{st:Stmt}{rest:List Stmt}{t u:TS}{e:Expr}{te:TE}{pos:Pos}
def qK9:TS:=fun D σ H=>D.nx σ H
def qIs(t u:TS):TS:=fun D σ H=>t { D with nx:=u D } σ H
theorem qHn:PSs X [] qK9:=fun _ _ σ H _ I h=>wpAny_execs_nil ⟨σ,H,I,h⟩
theorem YY(h1:PS X st t)(h2:PSs X rest u):PSs X (st::rest) (qIs t u):=by
 intro pins s σ H D I h;refine wpAny_execs_cons (thn (h1 pins s σ H { D with nx:=u D } I h) fun f s1 q=>?_);cases f with|next=>obtain⟨σ',H',I',q⟩:=q;exact h2 pins s1 σ' H' D I' q|ret v=>exact q|brk=>exact q|cont=>exact q
theorem qCt(h1:PS X st t):PSs X [st] t:=by
 intro pins s σ H D I h;refine wpAny_execs_cons (thn (h1 pins s σ H D I h) fun f s1 q=>?_);cases f with|next=>exact wpAny_execs_nil q|ret v=>exact q|brk=>exact q|cont=>exact q
theorem Inv.quiet{pins:List (Addr×Obj)}{σ:St}{H:Hp}{s:Shared}(I:Inv X pins σ H s):interactive X.env=false:=by simp[interactive,I.ok.kind]
def qIB(te:TE):TS:=fun D σ H=>te σ H fun _ H1=>D.nx σ H1
theorem jn(he:PE X e te)(hs:swapsWith e none pos.line X.env=pure false:=by rfl):PS X (.Expr e pos) (qIB te):=by intro pins s σ H D I h;exact wpAny_Expr_any (thn (he pins s σ H _ I h) fun v s1 ⟨x,H1,I1,r1,q1⟩=>⟨σ,H1,I1,q1⟩) I.quiet hs
def qLR(te:TE):TS:=fun D σ H=>te σ H D.rt
theorem qFA(he:PE X e te):PS X (.Return (some e) pos) (qLR te):=by intro pins s σ H D I h;exact wpAny_Return_some (thn (he pins s σ H _ I h) fun v s1 ⟨x,H1,I1,r1,q1⟩=>⟨x,σ,H1,I1,r1,q1⟩)
def qLe(c:TT)(t u:TS):TS:=fun D σ H=>c σ H fun b H1=>if b=true then t D σ H1 else u D σ H1
theorem qKC{c:Expr}{a b:List Stmt}{tc:TT}(hc:PT X c tc)(ha:PSs X a t)(hb:PSs X b u):PS X (.If c a b pos) (qLe tc t u):=by
 intro pins s σ H D I h;refine wpAny_If (thn (hc pins s σ H _ I h) fun d s1 ⟨H1,I1,q1⟩=>?_);cases d with|true=>exact ha pins s1 σ H1 D I1 q1|false=>exact hb pins s1 σ H1 D I1 q1
end
abbrev TG:=V->St->Hp->(St->Hp->Prop)->Prop
abbrev TGs:=List V->St->Hp->(St->Hp->Prop)->Prop
def PG(X:Cx)(target:Expr)(t:TG):Prop :=
 ∀(pins:List (Addr×Obj)) (s:Shared) (σ:St) (H:Hp) (v:V) (u:Value) (Q:St->Hp->Prop),Inv X pins σ H s->RelV v u->t v σ H Q ->
  wpAny (model X.prog X.w) X.A (assign target X.env u) (fun _ s'=>∃σ' H',Inv X pins σ' H' s'∧Q σ' H') X.xe s
def PGs(X:Cx)(ts:List Expr)(t:TGs):Prop :=
 ∀(pins:List (Addr×Obj)) (s:Shared) (σ:St) (H:Hp) (vs:List V) (us:List Value) (Q:St->Hp->Prop),Inv X pins σ H s->Vals vs us->t vs σ H Q ->
  wpAny (model X.prog X.w) X.A (assignInOrder ((assignEach ts X.env).map (·.2)) us) (fun _ s'=>∃σ' H',Inv X pins σ' H' s'∧Q σ' H') X.xe s
abbrev qJY:=V->V->V->Hp->(Hp->Prop)->Prop
def qKZ(X:Cx)(t:qJY):Prop :=
 ∀(pins:List (Addr×Obj)) (s:Shared) (σ:St) (H:Hp) (o i v:V) (ov iv u:Value) (Q:Hp->Prop),Inv X pins σ H s->RelV o ov->RelV i iv->RelV v u->t o i v H Q ->
  wpAny (model X.prog X.w) X.A (setItem ov iv u) (fun _ s'=>∃H',Inv X pins σ H' s'∧Q H') X.xe s
section
variable{X:Cx}{pos:Pos}
def qFy(i:Nat):TG:=fun v σ H Q=>Q (σ.set i (some v)) H
theorem qGe{i:Nat}{x:Str}(hN:X.N.Nodup)(hi:X.N[i]? = some x)(hx:Loc X.env.scope x)(hf:X.fn x=true∨X.env.scope.names.lookup x=some .local:=by first|exact .inl rfl|exact .inr rfl|assumption):PG X (.Name x pos) (qFy i):=by intro pins s σ H v u Q I r h;exact wpAny_assign_Name (Z7 I hN hi hx r (fun s' I'=>⟨_,H,I',h⟩) hf)
def qLs:TGs:=fun vs σ H Q=>vs=[]∧Q σ H
def qKn(t:TG)(u:TGs):TGs:=fun vs σ H Q=>∃v r,vs=v::r∧t v σ H fun σ' H'=>u r σ' H' Q
theorem qCR:PGs X [] qLs:=by intro pins s σ H vs us Q I r h;obtain⟨e,h⟩:=h;subst e;cases r;exact assignInOrder_nil ⟨σ,H,I,h⟩
theorem YS{e:Expr}{es:List Expr}{t:TG}{u:TGs}(h1:PG X e t)(h2:PGs X es u)
  (hs:(assignEach (e::es) X.env).map (·.2)=assign e X.env::(assignEach es X.env).map (·.2):=by rfl):PGs X (e::es) (qKn t u):=by
 intro pins s σ H vs us Q I r h;obtain⟨v,vr,e1,h⟩:=h;subst e1;cases r with|cons r rr=>rw[hs];refine assignInOrder_cons (thn (h1 pins s σ H _ _ _ I r h) fun _ s1 ⟨σ1,H1,I1,q1⟩=>?_);exact h2 pins s1 σ1 H1 _ _ Q I1 rr q1
def qLu(K:W.Frag)(n:Nat)(t:TGs):TG:=fun v σ H Q=>∃a xs,v= .ref a∧SqT K H a xs∧xs.length=n∧t xs σ H Q
theorem qE6{es:List Expr}{k:Nat}{t:TGs}{n:Nat}(hc:X.calm=true)(h:PGs X es t)
  (hn:(assignEach es X.env).length=n:=by rfl) (hst:(assignEach es X.env).findIdx? (·.1)=none:=by rfl):PG X (.Tuple es k pos) (qLu X.K n t):=by
 intro pins s σ H v u Q I r hw;obtain⟨a,xs,e1,hq,hl,hw⟩:=hw;subst e1;cases r;obtain⟨its,rv,ht,hz⟩:=I.tuple hq;refine assign_Tuple_tuple (I.ok.hd hc) ht (by simp[hn,←hl,rv.length]) hst fun h' hx=>?_;have I1:Inv X pins σ H { s with heap:=h' }:=I.kept (t':=s.toks) fun b o e=>hx b o (Ab (AU e)) e;exact h pins _ σ H xs _ Q I1 (by simpa using rv) hw
def JU(to ti:TE)(t:qJY):TG:=fun v σ H Q=>to σ H fun o H1=>ti σ H1 fun i H2=>t o i v H2 fun H3=>Q σ H3
theorem qBL{o i:Expr}{to ti:TE}{t:qJY}(ho:PE X o to)(hi:PE X i ti)(hs:qKZ X t)
  (ha:∀v,assign (.Subscript o i pos) X.env v=(do
   let ov ← holding [v] (eval o X.env);let iv ← holding [v,ov] (eval i X.env)
   standAt pos
   holding [v,ov,iv] (setItem ov iv v)
   release [v,ov,iv] []):=by intro _;rfl):PG X (.Subscript o i pos) (JU to ti t):=by intro pins s σ H v u Q I r h;rw[ha];refine AA (Ak (thn (ho pins s σ H _ I h) fun ov s1 ⟨x,H1,I1,r1,q1⟩=>?_));refine AA (Ak (thn (hi pins s1 σ H1 _ I1 q1) fun iv s2 ⟨y,H2,I2,r2,q2⟩=>?_));refine AA (B3 (AA (Ak (thn (hs pins s2 σ H2 x y v ov iv u _ I2 r1 r2 r q2) fun _ s3 ⟨H3,I3,q3⟩=>?_))));exact wpAny_release ⟨σ,H3,I3,q3⟩
def qJ2(te:TE)(g:TG):TS:=fun D σ H=>te σ H fun x H1=>g x σ H1 D.nx
theorem qA3{tg e:Expr}{te:TE}{g:TG}(he:PE X e te)(hg:PG X tg g)(hs:swapsWithSole [tg] e pos.line X.env=pure false:=by rfl)(hw:swappedStores [tg] e X.env=pure none:=by rfl)
  (h1:(assignEach [tg] X.env).map (·.2)=[assign tg X.env]:=by rfl):PS X (.Assign [tg] e pos) (qJ2 te g):=by intro pins s σ H D I h;refine wpAny_Assign_stores (thn (he pins s σ H _ I h) fun v s1 ⟨x,H1,I1,r1,q1⟩=>?_) hs hw;rw[h1];exact thn (hg pins s1 σ H1 x v _ I1 r1 q1) fun _ s2 q=>q
theorem qGH{i:Nat}{x:Str}{e:Expr}{te:TE}{pos':Pos}(hN:X.N.Nodup)(hi:X.N[i]? = some x)(hx:Loc X.env.scope x)(he:PE X e te)(hs:swapsWith e (some (.Name x pos')) pos.line X.env=pure false:=by rfl)(hf:X.fn x=true∨X.env.scope.names.lookup x=some .local:=by first|exact .inl rfl|exact .inr rfl|assumption) :
  PS X (.Assign [.Name x pos'] e pos) (qJ2 te (qFy i)):=by intro pins s σ H D I h;refine wpAny_Assign_Name (thn (he pins s σ H _ I h) fun v s1 ⟨y,H1,I1,r1,q1⟩=>?_) hs;exact Z7 I1 hN hi hx r1 (fun s2 I2=>⟨_,H1,I2,q1⟩) hf
end
structure It where
 go:Nat->Hp->Prop
 yld:Nat->Hp->V->Hp->Prop
 stop:Nat->Hp->Prop
def Z0(X:Cx)(pins:List (Addr×Obj))(H:Hp)(b:Addr):Prop :=
 H b=none∧b≠X.env.locals∧b∉X.fs∧(b∈X.ex∨X.s₀.heap.objs.size≤b)∧(∀x c,X.env.cells.lookup x=some c->c≠b)∧∀p∈X.pn++pins,p.1≠b
theorem Inv.fpOk{X:Cx}{pins:List (Addr×Obj)}{σ:St}{H H':Hp}{s:Shared}{b:Addr}(I:Inv X pins σ H s)(hb:s.heap.objs.size≤b)(hn:H' b=none):Z0 X pins H' b:=by
 refine⟨hn,Nat.ne_of_gt (Ah I.lt hb),I.nofs hb,.inr (Ag I.sz hb),fun x c e z=>?_,fun p hp z=>?_⟩;obtain⟨v,q⟩:=I.cell x c e;exact absurd (Ah q.lt (by rw[z];exact hb)) (BP _);exact absurd (Ah (AU (I.pin p hp).1) (by rw[z];exact hb)) (BP _)
theorem Inv.hndH{X:Cx}{pins:List (Addr×Obj)}{σ:St}{H:Hp}{s:Shared}(I:Inv X pins σ H s):EX.Hnd X.A s.heap:=fun v hv=>by obtain⟨ea,oe,u,vs,e1,e2,e3⟩:=I.hnd v hv;exact⟨ea,oe,vs,e1,(I.hok _ _ e2).1,e3⟩
theorem Inv.hndNe{X:Cx}{pins:List (Addr×Obj)}{σ:St}{H:Hp}{s:Shared}(I:Inv X pins σ H s){it:Addr}(hn:H it=none):∀v,X.A.handled=some v->v≠ .ref it:=fun v hv z=>by obtain⟨ea,oe,u,vs,e1,e2,e3⟩:=I.hnd v hv;rw[e1]at z;cases z;rw[hn]at e2;cases e2
structure Turn (P:Program) (w:World) (K:W.Frag) (A:Around) (tg:Expr) (J:It) (fp:List Addr) (it:Addr) (tn:Nat->Heap->Prop):Prop where
 mem:it∈fp
 obj:∀i h,tn i h->∀b∈fp,∃o,h.get? b=some o∧∀v,o.data≠ .cell v
 keep:∀i h h',tn i h->(∀b∈fp,∀o,h.get? b=some o->h'.get? b=some o)->tn i h'
 item:∀(X:Cx),X.prog=P->X.w=w->X.K=K->X.A=A->∀(i:Nat) (pins:List (Addr×Obj)) (s:Shared) (σ:St) (H:Hp) (E:Value->Shared->Prop),Inv X pins σ H s->(∀b∈fp,Z0 X pins H b)->tn i s.heap->J.go i H ->
  wpAny (model P w) X.A (pyNext (.ref it)) (fun r s1=>∃u,r=some u ∧
   wpAny (model P w) X.A (letOwnedTupleGo tg (.ref it) u) (fun _ s2=>∃x H',Inv X pins σ H' s2∧RelV x u∧J.yld i H x H'∧tn (i+1) s2.heap∧∀b∈fp,H' b=none) E s1) E s
 done:∀(X:Cx),X.prog=P->X.w=w->X.K=K->X.A=A->∀(i:Nat) (pins:List (Addr×Obj)) (s:Shared) (σ:St) (H:Hp) (E:Value->Shared->Prop),Inv X pins σ H s->(∀b∈fp,Z0 X pins H b)->tn i s.heap->J.stop i H ->
  wpAny (model P w) X.A (pyNext (.ref it)) (fun r s1=>r=none∧Inv X pins σ H s1) E s
 self:∀(A:Around) (i:Nat) (s:Shared) (Q:Value->Shared->Prop) (E:Value->Shared->Prop),tn i s.heap->Q (.ref it) s->wpAny (model P w) A (pyIter (.ref it)) Q E s
abbrev TI:=St->Hp->(It->Hp->Prop)->Prop
def PIE(X:Cx)(pins:List (Addr×Obj))(σ:St)(tg:Expr)(R:It->Hp->Prop)(itv:Value)(s2:Shared):Prop :=
 ∃(it:Addr) (fp:List Addr) (tn:Nat->Heap->Prop) (J:It) (H':Hp),itv= .ref it∧Inv X pins σ H' s2∧Turn X.prog X.w X.K X.A tg J fp it tn∧tn 0 s2.heap∧(∀b∈fp,Z0 X pins H' b)∧R J H'
def PI(X:Cx)(tg iter:Expr)(wi:TI):Prop :=
 ∀(pins:List (Addr×Obj)) (s:Shared) (σ:St) (H:Hp) (R:It->Hp->Prop),Inv X pins σ H s->wi σ H R ->
  wpAny (model X.prog X.w) X.A (eval iter X.env) (fun v s1=>wpAny (model X.prog X.w) X.A (pyIter v) (PIE X pins σ tg R) X.xe s1) X.xe s
theorem qCB{M : Model}{A : Around}{E : Value->Shared->Prop}{s : Shared}{tg : Expr}{it : Addr}{u : Value}{o : Obj}{n : String}{vs : Array Value}{Q : Unit->Shared->Prop}(ho : s.heap.get? it=some o)(hc : o.cls= .type n)(hd : o.data= .fields vs)
    (hn : ["enumerate", "zip", "dict_itemiterator", "dict_reverseitemiterator", "odict_iterator", "itertools.zip_longest", "itertools.pairwise"].contains n=false) (hQ : Q () s) : wpAny M A (letOwnedTupleGo tg (.ref it) u) Q E s:=by
  unfold letOwnedTupleGo;cases tg <;> first
    |exact AB hQ
    |(cases u <;> first
        |exact AB hQ
        | (refine AA (wpAny_load ho ?_)
           rw[hc, hd];show wpAny M A (if (["enumerate", "zip", "dict_itemiterator", "dict_reverseitemiterator", "odict_iterator", "itertools.zip_longest", "itertools.pairwise"].contains n&&vs[0]? == some (rawInt _))=true then _ else _) Q E s;rw[AF (by intro h; rw[hn, BE]at h; cases h)];exact AB hQ))
def Itl(K:W.Frag)(a:Addr):It :=
 ⟨fun i H=>∃xs x,SqL K H a xs∧xs[i]? = some x,fun i H x H'=>H'=H∧∀xs,SqL K H a xs->xs[i]? = some x,fun i H=>∃xs,SqL K H a xs∧xs.length≤i⟩
def Itt(K:W.Frag)(a:Addr):It :=
 ⟨fun i H=>∃xs x,SqT K H a xs∧xs[i]? = some x,fun i H x H'=>H'=H∧∀xs,SqT K H a xs->xs[i]? = some x,fun i H=>∃xs,SqT K H a xs∧xs.length≤i⟩
def Itr(lo:Int)(n:Nat):It:=⟨fun i _=>i<n,fun i H x H'=>H'=H∧x= .int (lo+i),fun i _=>n≤i⟩
theorem qD6{P:Program}{w:World}{K:W.Frag}{A:Around}{tg:Expr}(a it:Addr):Turn P w K A tg (Itl K a) [it] it (fun i h=>h.IsListIter it a i) where
 mem:=by simp
 obj:=fun i h st b hb=>by
  have e:b=it:=by simpa using hb
  subst e;obtain⟨o,e,c,d⟩:=st;exact⟨o,e,fun v z=>by rw[d]at z;cases z⟩
 keep:=fun i h h' st k=>st.at fun o e=>k it (by simp) o e
 item:=by
  intro X hP hw hK _ i pins s σ H E I hf st hg;subst hP hw hK;obtain⟨xs,x,hq,hx⟩:=hg;obtain⟨its,rv,p,hz⟩:=I.list hq;obtain⟨u,hu,ru⟩:=rv.get hx;obtain⟨f0,f1,f2,f3,f4,f5⟩:=hf it (by simp);refine wpAny_pyNext_list_item st p.isList (x:=u) (by simpa using hu) fun h' st' sb=>?_;have I1:Inv X pins σ H { s with heap:=h' }:=I.turned (t':=s.toks) (fun b o hb e=>(sb.2 b hb).trans e) f0 f1 f3 f4 f5;obtain⟨o,e,c,d⟩:=id st';exact⟨u,rfl,qCB (s:={ s with heap:=h' }) e c d (by decide) ⟨x,H,I1,ru,⟨rfl,fun ys hy=>by rw[I.list_inj hy hq];exact hx⟩,st',fun b hb=>(hf b hb).1⟩⟩
 done:=by
  intro X hP hw hK _ i pins s σ H E I hf st hg;subst hP hw hK;obtain⟨xs,hq,hx⟩:=hg;obtain⟨its,rv,p,hz⟩:=I.list hq;obtain⟨f0,f1,f2,f3,f4,f5⟩:=hf it (by simp);have hl:=rv.length;exact EX.list_end I.hndH st p.isList (by simp;omega) (I.hndNe f0) fun h' eb=>⟨rfl,I.turned (t':=s.toks) (fun b o hb e=>eb b o hb e) f0 f1 f3 f4 f5⟩
 self:=fun _ _ _ _ _ st h=>wpAny_pyIter_listiter st h
theorem qBF{P:Program}{w:World}{K:W.Frag}{A:Around}{tg:Expr}(a it:Addr):Turn P w K A tg (Itt K a) [it] it (fun i h=>h.IsTupleIter it a i) where
 mem:=by simp
 obj:=fun i h st b hb=>by
  have e:b=it:=by simpa using hb
  subst e;obtain⟨o,e,c,d⟩:=st;exact⟨o,e,fun v z=>by rw[d]at z;cases z⟩
 keep:=fun i h h' st k=>st.at fun o e=>k it (by simp) o e
 item:=by
  intro X hP hw hK _ i pins s σ H E I hf st hg;subst hP hw hK;obtain⟨xs,x,hq,hx⟩:=hg;obtain⟨its,rv,p,hz⟩:=I.tuple hq;obtain⟨u,hu,ru⟩:=rv.get hx;obtain⟨f0,f1,f2,f3,f4,f5⟩:=hf it (by simp);refine wpAny_pyNext_tuple_item st (show s.heap.IsTuple a its.toArray from p) (x:=u) (by simpa using hu) fun h' st' sb=>?_;have I1:Inv X pins σ H { s with heap:=h' }:=I.turned (t':=s.toks) (fun b o hb e=>(sb.2 b hb).trans e) f0 f1 f3 f4 f5;obtain⟨o,e,c,d⟩:=id st';exact⟨u,rfl,qCB (s:={ s with heap:=h' }) e c d (by decide) ⟨x,H,I1,ru,⟨rfl,fun ys hy=>by rw[I.tuple_inj hy hq];exact hx⟩,st',fun b hb=>(hf b hb).1⟩⟩
 done:=by
  intro X hP hw hK _ i pins s σ H E I hf st hg;subst hP hw hK;obtain⟨xs,hq,hx⟩:=hg;obtain⟨its,rv,p,hz⟩:=I.tuple hq;obtain⟨f0,f1,f2,f3,f4,f5⟩:=hf it (by simp);have hl:=rv.length;exact EX.tuple_end I.hndH st (show s.heap.IsTuple a its.toArray from p) (by simp;omega) (I.hndNe f0) fun h' eb=>⟨rfl,I.turned (t':=s.toks) (fun b o hb e=>eb b o hb e) f0 f1 f3 f4 f5⟩
 self:=fun _ _ _ _ _ st h=>wpAny_pyIter_tupleiter st h
theorem qA9{P:Program}{w:World}{K:W.Frag}{A:Around}{tg:Expr}(it:Addr)(lo:Int)(n:Nat):Turn P w K A tg (Itr lo n) [it] it (fun i h=>IsRangeIter h it (lo+(i:Nat)*1) ((n:Int)-(i:Nat)) 1) where
 mem:=by simp
 obj:=fun i h st b hb=>by
  have e:b=it:=by simpa using hb
  subst e;exact⟨_,st,fun v z=>by
   have z':Data.fields _=Data.cell v:=z;cases z'⟩
 keep:=fun i h h' st k=>k it (by simp) _ st
 item:=by
  intro X hP hw hK _ i pins s σ H E I hf st hg;subst hP hw hK;obtain⟨f0,f1,f2,f3,f4,f5⟩:=hf it (by simp);refine wpAny_pyNext_range_item st (by have:i<n:=hg;omega) fun h' st' sb=>?_;have I1:Inv X pins σ H { s with heap:=h',toks:=s.toks+1 }:=I.turned (fun b o hb e=>(sb.2 b hb).trans e) f0 f1 f3 f4 f5;have st2:IsRangeIter h' it (lo+((i+1:Nat):Int)*1) ((n:Int)-((i+1:Nat):Int)) 1:=by
   have q1:lo+(i:Int)*1+1=lo+((i+1:Nat):Int)*1:=by omega
   have q2:(n:Int)-(i:Int)-1=(n:Int)-((i+1:Nat):Int):=by omega
   rw[←q1,←q2];exact st'
  refine⟨_,rfl,qCB (s:={ s with heap:=h',toks:=s.toks+1 }) (n := "range_iterator") st2 rfl rfl (by decide) ⟨.int (lo+i),H,I1,⟨s.toks,?_⟩,⟨rfl,rfl⟩,st2,fun b hb=>(hf b hb).1⟩⟩;rw[Int.mul_one]
 done:=by
  intro X hP hw hK _ i pins s σ H E I hf st hg;subst hP hw hK;obtain⟨f0,f1,f2,f3,f4,f5⟩:=hf it (by simp);exact EX.range_end I.hndH st (by have:n≤i:=hg;omega) fun h' eb=>⟨rfl,I.turned (t':=s.toks) (fun b o hb e=>eb b o e) f0 f1 f3 f4 f5⟩
 self:=fun _ _ _ _ _ st h=>wpAny_pyIter_rangeiter st h
end L2
namespace L2
open PySem PySem.Spec PyProof.Rows
section
variable{X:Cx}{tg:Expr}
theorem qAF{pins:List (Addr×Obj)}{σ:St}{H:Hp}{s:Shared}{R:It->Hp->Prop}{E:Value->Shared->Prop}{lo hi:Int}{t u v:Tok}{tk:Nat}(I:Inv X pins σ H s)(h1:-(2 ^ 62)≤lo)(h2:lo<2 ^ 62)(h3:-(2 ^ 62)≤hi)(h4:hi<2 ^ 62)
  (q:R (Itr lo (hi-lo).toNat) H):wpAny (model X.prog X.w) X.A (pyIter (.ref s.heap.objs.size)) (PIE X pins σ tg R) E { s with heap:=s.heap.push { cls:=.type "range",data:=.fields #[.int lo t,.int hi u,.int 1 v] },toks:=tk }:=by
 refine wpAny_pyIter_range (IsRange.new ..) (small_one h1 h2 h3 h4) ?_;have I1:Inv X pins σ H { s with heap:=s.heap.push { cls:=.type "range",data:=.fields #[.int lo t,.int hi u,.int 1 v] },toks:=tk }:=I.kept fun b o e=>AD _ e;refine⟨(s.heap.push { cls:=.type "range",data:=.fields #[.int lo t,.int hi u,.int 1 v] }).objs.size,[(s.heap.push { cls:=.type "range",data:=.fields #[.int lo t,.int hi u,.int 1 v] }).objs.size],_,_,H,rfl,
  I1.kept (t':=tk) fun b o e=>AD _ e,qA9 _ lo (hi-lo).toNat,?_,fun b hb=>?_,q⟩
 ·have e1:lo+((0:Nat):Int)*1=lo:=by simp
  have e2:(((hi-lo).toNat:Nat):Int)-((0:Nat):Int)=Builtin.Range.rangeSize lo hi 1:=by rw[rangeSize_one];split <;> omega
  show IsRangeIter _ _ (lo+((0:Nat):Int)*1) ((((hi-lo).toNat:Nat):Int)-((0:Nat):Int)) 1;rw[e1,e2];exact AW _ rfl
 ·have e:b=(s.heap.push { cls:=.type "range",data:=.fields #[.int lo t,.int hi u,.int 1 v] }).objs.size:=by simpa using hb
  subst e;exact I1.fpOk (AG _) (I1.hok.fresh (AG _))
def qKt(ta:TA):TI:=fun σ H R=>ta σ H fun vs H1=>∃j:Int,vs=[.int j]∧ -(2 ^ 62)≤j∧j<2 ^ 62∧R (Itr 0 j.toNat) H1
def qKf(ta:TA):TI:=fun σ H R=>ta σ H fun vs H1=>∃i j:Int,vs=[.int i,.int j]∧(-(2 ^ 62)≤i∧i<2 ^ 62∧ -(2 ^ 62)≤j∧j<2 ^ 62)∧R (Itr i (j-i).toNat) H1
theorem qDv{a:Expr}{ta:TA}{p pos:Pos}(hg:Gl X "range")(hm:X.mg "range" = none)(ha:PA X [a] ta)(hs:starEach [a] X.env=[(false,eval a X.env)]:=by rfl):PI X tg (.Call (.Name "range" p) [a] [] pos) (qKt ta):=by
 intro pins s σ H R I h;refine Call_ (zZ I hg hm boot_range (BS (thn (ha pos pins s σ H _ I h) fun us s1 ⟨vs,H1,I1,r1,q1⟩=>?_) hs rfl));obtain⟨j,e,q1,q2,q⟩:=q1;subst e;cases r1 with|cons r rr=>cases rr;obtain⟨t,rfl⟩:=r;exact call_range_1 (qAF I1 (by omega) (by omega) q1 q2 (by simpa using q))
theorem qDd{a b:Expr}{ta:TA}{p pos:Pos}(hg:Gl X "range")(hm:X.mg "range" = none)(ha:PA X [a,b] ta)(hs:starEach [a,b] X.env=[(false,eval a X.env),(false,eval b X.env)]:=by rfl)(hs2:starEach [b] X.env=[(false,eval b X.env)]:=by rfl) :
  PI X tg (.Call (.Name "range" p) [a,b] [] pos) (qKf ta):=by
 intro pins s σ H R I h;refine Call_ (zZ I hg hm boot_range (BS (thn (ha pos pins s σ H _ I h) fun us s1 ⟨vs,H1,I1,r1,q1⟩=>?_) (by rw[hs,hs2]) (by rw[hs2];rfl)));obtain⟨i,j,e,⟨q1,q2,q3,q4⟩,q⟩:=q1;subst e;cases r1 with
 |cons r rr =>
  cases rr with|cons r' rr=>cases rr;obtain⟨t,rfl⟩:=r;obtain⟨t',rfl⟩:=r';exact call_range_2 (qAF I1 q1 q2 q3 q4 q)
def qLS(wi:TI)(g:TG)(tb:TS):TS:=fun D σ H=>wi σ H fun J H1=>∃W:Nat->Nat->St->Hp->Prop,(∃m,W 0 m σ H1)∧∀i m σ H,W i m σ H ->
 (J.stop i H∧D.nx σ H)∨(J.go i H∧∃N:St->Hp->Prop,(∀σ' H',N σ' H'->∃m',m'<m∧W (i+1) m' σ' H')∧∀x H',J.yld i H x H'->g x σ H' fun σ2 H2=>tb { D with nx:=N,ct:=N,bk:=D.nx } σ2 H2)
def Zk(fp:List Addr)(h:Heap):List (Addr×Obj):=fp.filterMap fun b=>(h.get? b).map fun o=>(b,o)
theorem zu{fp:List Addr}{h:Heap}{b:Addr}{o:Obj}(hb:b∈fp)(e:h.get? b=some o):(b,o)∈Zk fp h:=Bp.mpr ⟨b,hb,by rw[e];rfl⟩
theorem qDs{fp:List Addr}{h:Heap}{p:Addr×Obj}(hp:p∈Zk fp h):p.1∈fp∧h.get? p.1=some p.2:=by
 obtain⟨b,hb,e⟩:=Bp.mp hp;cases q:h.get? b with|none=>rw[q]at e;cases e|some o=>rw[q]at e;have e':(b,o)=p:=Ac e;subst e';exact⟨hb,q⟩
theorem Inv.pinned{pins:List (Addr×Obj)}{σ:St}{H:Hp}{s:Shared}{fp:List Addr}(I:Inv X pins σ H s)(hf:∀b∈fp,Z0 X pins H b)(ho:∀b∈fp,∃o,s.heap.get? b=some o∧∀v,o.data≠ .cell v):Inv X (pins++Zk fp s.heap) σ H s :=
 I.pins_of fun p hp=>(A1.mp hp).elim (fun z=>I.pin p (Aw _ z)) fun z=>by obtain⟨hb,e⟩:=qDs z;obtain⟨f0,f1,f2,_⟩:=hf p.1 hb;obtain⟨o,e',d⟩:=ho p.1 hb;rw[e]at e';cases e';exact⟨e,f0,f1,f2,d⟩
theorem Inv.unpinned{pins pl:List (Addr×Obj)}{σ:St}{H:Hp}{s:Shared}(I:Inv X (pins++pl) σ H s):Inv X pins σ H s:=I.pins_of fun p hp=>I.pin p (Aw _ (CC _ hp))
end
end L2
namespace L2
open PySem PySem.Spec PyProof.Rows
abbrev R2:=V->V->Hp->VK->Prop
def OpR(X:Cx)(f:Value->Value->Sem Value)(r:R2):Prop :=
 ∀(pins:List (Addr×Obj)) (s:Shared) (σ:St) (H:Hp) (x y:V) (v u:Value) (Q:VK),Inv X pins σ H s->RelV x v->RelV y u->r x y H Q ->
  wpAny (model X.prog X.w) X.A (f v u) (EP X pins σ Q) X.xe s
def UnR(X:Cx)(f:Value->Sem Value)(r:V->Hp->VK->Prop):Prop :=
 ∀(pins:List (Addr×Obj)) (s:Shared) (σ:St) (H:Hp) (x:V) (v:Value) (Q:VK),Inv X pins σ H s->RelV x v->r x H Q ->
  wpAny (model X.prog X.w) X.A (f v) (EP X pins σ Q) X.xe s
def Wh(X:Cx)(f:Value)(r:List V->Hp->VK->Prop):Prop :=
 ∀(pins:List (Addr×Obj)) (s:Shared) (σ:St) (H:Hp) (xs:List V) (us:List Value) (Q:VK),Inv X pins σ H s->Vals xs us->r xs H Q ->
  wpAny (model X.prog X.w) X.A (call f us) (EP X pins σ Q) X.xe s
def qLb(X:Cx)(r:V->Hp->(Bool->Hp->Prop)->Prop):Prop :=
 ∀(pins:List (Addr×Obj)) (s:Shared) (σ:St) (H:Hp) (x:V) (v:Value) (Q:Bool->Hp->Prop),Inv X pins σ H s->RelV x v->r x H Q ->
  wpAny (model X.prog X.w) X.A (truthy v) (TP X pins σ Q) X.xe s
def tOp(r:R2)(ta tb:TE):TE:=fun σ H Q=>ta σ H fun x H1=>tb σ H1 fun y H2=>r x y H2 Q
def tUn(r:V->Hp->VK->Prop)(ta:TE):TE:=fun σ H Q=>ta σ H fun x H1=>r x H1 Q
def rI(C:Int->Int->Prop)(g:Int->Int->V):R2:=fun x y H Q=>∃i j,x= .int i∧y= .int j∧C i j∧Q (g i j) H
def rI0(g:Int->Int->V):R2:=fun x y H Q=>∃i j,x= .int i∧y= .int j∧Q (g i j) H
def rU(g:Int->V):V->Hp->VK->Prop:=fun x H Q=>∃i,x= .int i∧Q (g i) H
section
variable{X:Cx}{a b c:Expr}{ta tb tc:TE}{pos:Pos}
theorem qJO(ha:PE X a ta)(hb:PE X b tb){pins:List (Addr×Obj)}{s:Shared}{σ:St}{H:Hp}{R:V->V->Hp->Prop}(I:Inv X pins σ H s)
  (h:ta σ H fun x H1=>tb σ H1 fun y H2=>R x y H2) {Q:Value->Shared->Prop} {f:Value->Value->Sem Value}
  (hf:∀v u s2 x y H2,Inv X pins σ H2 s2->RelV x v->RelV y u->R x y H2->wpAny (model X.prog X.w) X.A (f v u) Q X.xe s2) :
  wpAny (model X.prog X.w) X.A (eval a X.env) (fun v s₁=>wpAny (model X.prog X.w) X.A (eval b X.env) (fun u s₂=>wpAny (model X.prog X.w) X.A (f v u) Q X.xe s₂) X.xe s₁) X.xe s:=by refine thn (ha pins s σ H _ I h) fun v s1 ⟨x,H1,I1,r1,q1⟩=>?_;refine thn (hb pins s1 σ H1 _ I1 q1) fun u s2 ⟨y,H2,I2,r2,q2⟩=>?_;exact hf v u s2 x y H2 I2 r1 r2 q2
theorem qH1{op:Operator}{r:R2}(ho:OpR X (binaryOp op) r)(ha:PE X a ta)(hb:PE X b tb):PE X (.BinOp a op b pos) (tOp r ta tb):=by intro pins s σ H Q I h;exact wpAny_BinOp (qJO ha hb I h fun v u s2 x y H2 I2 rx ry q=>ho pins s2 σ H2 x y v u Q I2 rx ry q)
theorem qKo{op:UnaryOp}{r:V->Hp->VK->Prop}(ho:UnR X (unaryOp op) r)(ha:PE X a ta):PE X (.UnaryOp op a pos) (tUn r ta):=by intro pins s σ H Q I h;exact UnaryOp_ (thn (ha pins s σ H _ I h) fun v s1 ⟨x,H1,I1,r1,q1⟩=>ho pins s1 σ H1 x v Q I1 r1 q1)
theorem opI{f:Value->Value->Sem Value}{C:Int->Int->Prop}{g:Int->Int->Int}
  (rule:∀(i j:Int) (t u:Tok) (s:Shared) (Q:Value->Shared->Prop) (E:Value->Shared->Prop),C i j->Q (.int (g i j) s.toks) { s with toks:=s.toks+1 }->wpAny (model X.prog X.w) X.A (f (.int i t) (.int j u)) Q E s) :
  OpR X f (rI C fun i j=>.int (g i j)):=by intro pins s σ H x y v u Q I rx ry h;obtain⟨i,j,rfl,rfl,hc,q⟩:=h;obtain⟨t,rfl⟩:=rx;obtain⟨t',rfl⟩:=ry;exact rule i j t t' s _ _ hc ⟨.int (g i j),H,I.tok _,⟨_,rfl⟩,q⟩
theorem qKO{f:Value->Value->Sem Value}{g:Int->Int->Int}
  (rule:∀(i j:Int) (t u:Tok) (s:Shared) (Q:Value->Shared->Prop) (E:Value->Shared->Prop),Q (.int (g i j) s.toks) { s with toks:=s.toks+1 }->wpAny (model X.prog X.w) X.A (f (.int i t) (.int j u)) Q E s) :
  OpR X f (rI0 fun i j=>.int (g i j)):=by intro pins s σ H x y v u Q I rx ry h;obtain⟨i,j,rfl,rfl,q⟩:=h;obtain⟨t,rfl⟩:=rx;obtain⟨t',rfl⟩:=ry;exact rule i j t t' s _ _ ⟨.int (g i j),H,I.tok _,⟨_,rfl⟩,q⟩
theorem qJf{f:Value->Value->Sem Value}{g:Int->Int->Bool}
  (rule:∀(i j:Int) (t u:Tok) (s:Shared) (Q:Value->Shared->Prop) (E:Value->Shared->Prop),Q (.bool (g i j)) s->wpAny (model X.prog X.w) X.A (f (.int i t) (.int j u)) Q E s) :
  OpR X f (rI0 fun i j=>.bl (g i j)):=by intro pins s σ H x y v u Q I rx ry h;obtain⟨i,j,rfl,rfl,q⟩:=h;obtain⟨t,rfl⟩:=rx;obtain⟨t',rfl⟩:=ry;exact rule i j t t' s _ _ ⟨.bl (g i j),H,I,rfl,q⟩
def qLf(i j:Int):Prop:=0<j∧j<1073741824
def qLn(i j:Int):Prop:=0≤j∧j≤1000000∧i.natAbs<2 ^ 64
def CMul(i j:Int):Prop:=(-(2 ^ 64)<i∧i<2 ^ 64)∨(-(2 ^ 64)<j∧j<2 ^ 64)
theorem CMul.ok{i j:Int}(h:CMul i j):IntMulOk i j:=by
 rcases h with⟨h1,h2⟩|⟨h1,h2⟩
 ·exact .of_left (intBits_le_64 h1 h2)
 ·exact .of_right (intBits_le_64 h1 h2)
theorem qIv:OpR X (binaryOp .Add) (rI0 fun i j=>.int (i+j)):=qKO fun _ _ _ _ _ _ _ q=>add_int q
theorem qJ8:OpR X (binaryOp .Sub) (rI0 fun i j=>.int (i-j)):=qKO fun _ _ _ _ _ _ _ q=>sub_int q
theorem qIw:OpR X (binaryOp .Mult) (rI CMul fun i j=>.int (i*j)):=opI fun _ _ _ _ _ _ _ hc q=>mul_int q hc.ok
theorem qG6:OpR X (binaryOp .FloorDiv) (rI qLf fun i j=>.int (i/j)):=opI fun i j _ _ _ _ _ hc q=>by have h1:(0:Int)<j:=hc.1;have h2:j<1073741824:=hc.2;exact floordiv_int (by omega) (by rw[Int.fdiv_eq_ediv_of_nonneg i (by omega)];exact q) (.inl (PyProof.noPylong_small (by omega)))
theorem qJZ:OpR X (binaryOp .Mod) (rI (fun _ j=>0<j) fun i j=>.int (i%j)):=opI fun i j _ _ _ _ _ hc q=>by have h1:(0:Int)<j:=hc;exact mod_int' (by omega) (by rw[Int.fmod_eq_emod_of_nonneg i (by omega)];exact q)
theorem qIR:OpR X (binaryOp .Pow) (rI qLn fun i j=>.int (i ^ j.toNat)):=opI fun _ _ _ _ _ _ _ hc q=>pow_int_small hc.1 hc.2.1 hc.2.2 q
theorem unI{f:Value->Sem Value}{g:Int->Int}
  (rule:∀(i:Int) (t:Tok) (s:Shared) (Q:Value->Shared->Prop) (E:Value->Shared->Prop),Q (.int (g i) s.toks) { s with toks:=s.toks+1 }->wpAny (model X.prog X.w) X.A (f (.int i t)) Q E s) :
  UnR X f (rU fun i=>.int (g i)):=by intro pins s σ H x v Q I rx h;obtain⟨i,rfl,q⟩:=h;obtain⟨t,rfl⟩:=rx;exact rule i t s _ _ ⟨.int (g i),H,I.tok _,⟨_,rfl⟩,q⟩
theorem qJF:UnR X (unaryOp .USub) (rU fun i=>.int (-i)):=unI fun _ _ _ _ _ q=>neg_int q
theorem qCJ:OpR X (compareOp .Lt) (rI0 fun i j=>.bl (decide (i<j))):=qJf fun _ _ _ _ _ _ _ q=>lt_int q
theorem Zf:OpR X (compareOp .LtE) (rI0 fun i j=>.bl (decide (i≤j))):=qJf fun _ _ _ _ _ _ _ q=>le_int q
theorem qH0:OpR X (compareOp .Gt) (rI0 fun i j=>.bl (decide (j<i))):=qJf fun _ _ _ _ _ _ _ q=>gt_int q
theorem qBB(b:Expr){op:CmpOp}(h:op≠ .In:=by decide)(h2:op≠ .NotIn:=by decide):behindInMarks op b=false:=by
 have e1:(op==CmpOp.In)=false:=by cases op <;> first|rfl|exact absurd rfl h
 have e2:(op==CmpOp.NotIn)=false:=by cases op <;> first|rfl|exact absurd rfl h2
 cases b <;> simp[behindInMarks,e1,e2]
theorem qGz{op:CmpOp}{r:R2}(ho:OpR X (compareOp op) r)(ha:PE X a ta)(hb:PE X b tb)(hm:behindInMarks op b=false):PE X (.Compare a [op] [b] pos) (tOp r ta tb):=by intro pins s σ H Q I h;exact wpAny_Compare1 (qJO ha hb I h fun v u s2 x y H2 I2 rx ry q=>ho pins s2 σ H2 x y v u Q I2 rx ry q) hm
def qIO(t:TE):TT:=fun σ H Q=>t σ H fun x H'=>∃k,x= .bl k∧Q k H'
theorem qGP{op:CmpOp}{r:R2}(ho:OpR X (compareOp op) r)(ha:PE X a ta)(hb:PE X b tb)(hm:behindInMarks op b=false):PT X (.Compare a [op] [b] pos) (qIO (tOp r ta tb)):=by
 intro pins s σ H Q I h;refine wpAny_isTrue_Compare1 (thn (ha pins s σ H _ I h) fun v s1 ⟨x,H1,I1,r1,q1⟩=>thn (hb pins s1 σ H1 _ I1 q1) fun u s2 ⟨y,H2,I2,r2,q2⟩ =>
  thn (ho pins s2 σ H2 x y v u _ I2 r1 r2 q2) fun c s3 ⟨z,H3,I3,r3,k,e,q3⟩=>?_) hm
 subst e;cases r3;exact Bi ⟨H3,I3,q3⟩
def qFW(r r':R2)(ta tb tc:TE):TE:=fun σ H Q=>ta σ H fun x H1=>tb σ H1 fun y H2=>r x y H2 fun z H3=>∃k,z= .bl k ∧
 (if k=true then tc σ H3 fun w' H4=>r' y w' H4 Q else Q (.bl false) H3)
theorem qEW{op op':CmpOp}{r r':R2}(ho:OpR X (compareOp op) r)(ho':OpR X (compareOp op') r')(ha:PE X a ta)(hb:PE X b tb)(hc:PE X c tc)
  (hm:lastMarks [op,op'] [b,c]=false:=by with_unfolding_all rfl):PE X (.Compare a [op,op'] [b,c] pos) (qFW r r' ta tb tc):=by
 intro pins s σ H Q I h;refine Compare_chain (thn (ha pins s σ H _ I h) fun v s1 ⟨x,H1,I1,r1,q1⟩=>chain_link (thn (hb pins s1 σ H1 _ I1 q1) fun u s2 ⟨y,H2,I2,r2,q2⟩ =>
  thn (ho pins s2 σ H2 x y v u _ I2 r1 r2 q2) fun d s3 ⟨z,H3,I3,r3,k,e,q3⟩=>?_)) hm
 subst e;cases r3;refine Bi ?_;cases k with|false=>exact ite_ff ⟨.bl false,H3,I3,rfl,q3⟩|true=>exact ite_tt (chain_last (thn (hc pins s3 σ H3 _ I3 q3) fun w' s4 ⟨z',H4,I4,r4,q4⟩=>ho' pins s4 σ H4 y z' u w' Q I4 r2 r4 q4))
theorem qFC{op op':CmpOp}{r r':R2}(ho:OpR X (compareOp op) r)(ho':OpR X (compareOp op') r')(ha:PE X a ta)(hb:PE X b tb)(hc:PE X c tc)
  (hm:lastMarks [op,op'] [b,c]=false:=by with_unfolding_all rfl):PT X (.Compare a [op,op'] [b,c] pos) (qIO (qFW r r' ta tb tc)):=by
 intro pins s σ H Q I h;refine isTrue_chain (thn (ha pins s σ H _ I h) fun v s1 ⟨x,H1,I1,r1,q1⟩=>test_link (thn (hb pins s1 σ H1 _ I1 q1) fun u s2 ⟨y,H2,I2,r2,q2⟩ =>
  thn (ho pins s2 σ H2 x y v u _ I2 r1 r2 q2) fun d s3 ⟨z,H3,I3,r3,k,e,q3⟩=>?_)) hm
 subst e;cases r3;refine Bi ?_;cases k with|false=>obtain⟨k',e',q'⟩:=q3;cases e';exact ite_ff ⟨H3,I3,q'⟩|true=>refine ite_tt (test_last (thn (hc pins s3 σ H3 _ I3 q3) fun w' s4 ⟨z',H4,I4,r4,q4⟩=>thn (ho' pins s4 σ H4 y z' u w' _ I4 r2 r4 q4) fun d' s5 ⟨z2,H5,I5,r5,k2,e2,q5⟩=>?_));subst e2;cases r5;exact Bi ⟨H5,I5,q5⟩
def qHt(K:W.Frag)(x:V)(H:Hp)(k:Bool):Prop :=
 match x with| .non=>k=false| .bl b=>k=b| .int i=>k=(i != 0)| .str y=>y.length≤sizeLine∧k=((y.length:Int) != 0)| .byt y=>y.size≤sizeLine∧k=((y.size:Int) != 0)| .ref p=>(∃xs,SqL K H p xs∧k= !xs.isEmpty)∨(∃xs,SqT K H p xs∧k= !xs.isEmpty)∨∃kvs,H p=some (.dK kvs)∧k= !kvs.isEmpty|_=>False
theorem qBI{κ:Type}{kvs:List (κ×V)}{vs:List (κ×Value)}(r:KV kvs vs):(!vs.isEmpty)= !kvs.isEmpty:=by cases r <;> rfl
theorem Yl{xs:List V}{its:List Value}(r:Vals xs its):(!its.toArray.isEmpty)= !xs.isEmpty:=by cases r <;> simp
theorem yL:(sizeLine:Nat)<2 ^ 63:=by rw[Bf];decide
theorem qIS:qLb X (fun x H Q=>∃k,qHt X.K x H k∧Q k H):=by
 intro pins s σ H x v Q I rx h;obtain⟨k,e,q⟩:=h;have hl:=yL;have hs:sizeLine=16777216:=Bf;cases x with
 |non=>cases rx;have e':k=false:=e;subst e';exact truthy_none ⟨H,I,q⟩
 |bl b=>cases rx;have e':k=b:=e;subst e';exact Bi ⟨H,I,q⟩
 |int i=>obtain⟨t,rfl⟩:=rx;have e':k=(i != 0):=e;subst e';exact PySem.P.truthy_int ⟨H,I,q⟩
 |str y=>obtain⟨t,rfl⟩:=rx;obtain⟨hy,e'⟩:y.length≤sizeLine∧k=((y.length:Int) != 0):=e;subst e';exact PySem.P.truthy_str (by omega) ⟨H,I.tok _,q⟩
 |byt y=>obtain⟨t,rfl⟩:=rx;obtain⟨hy,e'⟩:y.size≤sizeLine∧k=((y.size:Int) != 0):=e;subst e';exact W.truthy_bytes (by omega) ⟨H,I.tok _,q⟩
 |ref p =>
  cases rx;have e':(∃xs,SqL X.K H p xs∧k= !xs.isEmpty)∨(∃xs,SqT X.K H p xs∧k= !xs.isEmpty)∨∃kvs,H p=some (.dK kvs)∧k= !kvs.isEmpty:=e;rcases e' with⟨xs,hx,e'⟩|⟨xs,hx,e'⟩|⟨kvs,hx,e'⟩
  ·subst e';obtain⟨its,r,pl,hz⟩:=I.list hx;have hlen:=r.length;exact wpAny_truthy_list pl.isList (by simp only[AR];omega) ⟨H,I.tok _,by rw[Yl r];exact q⟩
  ·subst e';obtain⟨its,r,pl,hz⟩:=I.tuple hx;have hlen:=r.length;exact truthy_tuple pl (by simp only[AR];omega) ⟨H,I.tok _,by rw[Yl r];exact q⟩
  ·subst e';obtain⟨hz,hS,vs,r,m⟩:kvs.length≤sizeLine∧(p==sysModules)=false∧∃vs,KV kvs vs∧s.heap.DictOf (wJ X.prog X.w) p vs:=I.hok p _ hx;have hlen:kvs.length=vs.length:=Paired.length r;exact wpAny_truthy_dict hS m (by omega) ⟨H,I.tok _,by rw[qBI r];exact q⟩
 |_=>exact (show False from e).elim
theorem qEK(ha:PE X a ta)(he:∀whole,isTrue a X.env whole=(do let v ← whole;standAt a.pos;holding [v] (truthy v))) :
  PT X a (fun σ H Q=>ta σ H fun x H'=>∃k,qHt X.K x H' k∧Q k H'):=by intro pins s σ H Q I h;exact isTrue_plain (thn (ha pins s σ H _ I h) fun v s1 ⟨x,H1,I1,r1,q1⟩=>qIS pins s1 σ H1 x v Q I1 r1 q1) (he _)
theorem qBv:OpR X (binaryOp .Add) (fun x y H Q=>∃i j,x= .str i∧y= .str j∧i.length+j.length≤sizeLine∧Q (.str (i++j)) H):=by intro pins s σ H x y v u Q I rx ry h;obtain⟨i,j,rfl,rfl,hz,q⟩:=h;obtain⟨t,rfl⟩:=rx;obtain⟨t',rfl⟩:=ry;exact add_str (fun t' tk=>⟨.str (i++j),H,I.tok _,⟨_,rfl⟩,q⟩) hz
theorem Z3{x:V}{us:List Value}(r:Vals [x] us):∃u,us=[u]∧RelV x u:=by
 cases r with|cons r1 r2=>cases r2;exact⟨_,rfl,r1⟩
theorem qCG{x y:V}{us:List Value}(r:Vals [x,y] us):∃u w',us=[u,w']∧RelV x u∧RelV y w':=by
 cases r with
 |cons r1 r2 =>
  cases r2 with|cons r3 r4=>cases r4;exact⟨_,_,rfl,r1,r3⟩
theorem qDk(hc:X.calm=true):Wh X (.builtin "max") (fun xs H Q=>∃i j,xs=[.int i,.int j]∧Q (.int (if j>i then j else i)) H):=by
 intro pins s σ H xs us Q I r h;obtain⟨i,j,rfl,q⟩:=h;obtain⟨u,w',rfl,⟨t,rfl⟩,⟨t',rfl⟩⟩:=qCG r;refine max_two_ints (I.ok.hd hc) fun h' tk k=>⟨_,H,I.kept k,?_,q⟩;by_cases hj:j>i;rw[AE hj,AE hj];exact⟨_,rfl⟩;rw[AF hj,AF hj];exact⟨_,rfl⟩
theorem qC7(hc:X.calm=true):Wh X (.builtin "min") (fun xs H Q=>∃i j,xs=[.int i,.int j]∧Q (.int (if j<i then j else i)) H):=by
 intro pins s σ H xs us Q I r h;obtain⟨i,j,rfl,q⟩:=h;obtain⟨u,w',rfl,⟨t,rfl⟩,⟨t',rfl⟩⟩:=qCG r;refine min_two_ints (I.ok.hd hc) fun h' tk k=>⟨_,H,I.kept k,?_,q⟩;by_cases hj:j<i;rw[AE hj,AE hj];exact⟨_,rfl⟩;rw[AF hj,AF hj];exact⟨_,rfl⟩
theorem qDe:Wh X (.type "int") (fun xs H Q=>(∃i,xs=[.int i]∧Q (.int i) H)∨∃k,xs=[.bl k]∧Q (.int (if k then 1 else 0)) H):=by
 intro pins s σ H xs us Q I r h;rcases h with⟨i,rfl,q⟩|⟨k,rfl,q⟩
 ·obtain⟨u,rfl,t,rfl⟩:=Z3 r;exact call_int_int ⟨.int i,H,I,⟨_,rfl⟩,q⟩
 ·obtain⟨u,rfl,r1⟩:=Z3 r;cases r1;exact call_int_bool ⟨.int (if k then 1 else 0),H,I.tok _,⟨_,rfl⟩,q⟩
end
end L2
namespace L2
open PySem PySem.Spec PyProof.Rows
theorem qDJ{h:Heap}{dx:Addr}{mA:Str->Option Value}(n:h.Ns1 dx mA):∃od,h.get? dx=some od∧∀name,W.lookIn name od=some (mA name):=by
 obtain⟨o,es,ep,ho,hd,hk,_,hm⟩:=n;refine⟨o,ho,fun name=>?_⟩;have e:=hm name;unfold nsFind findBy at e;rw[←Array.find?_toList]at e;unfold W.lookIn;rw[hd];dsimp only;split;rename_i y q;rw[q]at e;exact Bv some e
 ·rename_i q;rw[q]at e;have a:es.toList.any (·.refKey)=false:=by rw[List.any_eq_false];intro y hy;obtain⟨z,t,hkey⟩:=hk y (CD.mp hy);simp[DictEntry.refKey,hkey]
  have a':¬es.toList.any (·.refKey)=true:=by rw[a];exact Bd
  rw[AF a'];exact Bv some e
theorem RelO.some_of{v:V}{o:Option Value}(r:RelO (some v) o):∃u,o=some u∧RelV v u:=by
 cases o with|none=>exact (show False from r).elim|some u=>exact⟨u,rfl,r⟩
theorem qDi{v:V}{u:Value}(r:RelV v u):W.handedIn u=true:=by
 cases v with|non=>cases (show u=Value.none from r);rfl|bl b=>cases (show u=Value.bool b from r);rfl|int i=>obtain⟨t,e⟩:=(show ∃t,u=Value.int i t from r);cases e;rfl|str x=>obtain⟨t,e⟩:=(show ∃t,u=Value.str x t from r);cases e;rfl|byt b=>obtain⟨t,e⟩:=(show ∃t,u=Value.bytes b t from r);cases e;rfl|flt b=>obtain⟨t,e⟩:=(show ∃t,u=Value.float b t from r);cases e;rfl|ref a=>cases (show u=Value.ref a from r);rfl|ty n=>cases (show u=Value.type n from r);rfl
def Zq(K:W.Frag)(C:Addr)(f:Str):Prop:=W.findIn K (.ref C) f=some none
section
variable{X:Cx}{pins:List (Addr×Obj)}{σ:St}{H:Hp}{s:Shared}{a C dx:Addr}{fs:List (Str×V)}{f:Str}{v:V}{A:Around}{E:Value->Shared->Prop}
theorem qHp{prog:Program}{w:World}{env:Env}{e:Expr}{f:Str}{pos:Pos}{s:Shared}{Q:Value->Shared->Prop}(hb:attributeBase e f env (eval e env)=eval e env)
  (h:wpAny (model prog w) A (eval e env) (fun o s₁=>wpAny (model prog w) A (getAttr o f true) Q E s₁) E s):wpAny (model prog w) A (eval (.Attribute e f pos) env) Q E s :=
 Attribute_any_ h (by rw[arm_eval_Attribute,hb])
end
end L2
namespace L2
open PySem PySem.Spec PyProof.Rows
structure Room (k:Nat) (A:Around):Prop where
 hd:1<k->A.handled=none
 dp:A.depth+3*k+5<recursionLimit
 un:A.units+16*k+200<cLine
 gd:A.guards=some []
theorem Room.mono{j k:Nat}{A:Around}(r:Room k A)(h:j≤k):Room j A:=⟨fun z=>r.hd (by omega),by have:=r.dp;omega,by have:=r.un;omega,r.gd⟩
theorem Room.deeper{k:Nat}{A:Around}(r:Room (k+1) A)(env:Env):Room k (A.deeper env) :=
 ⟨fun z=>r.hd (by omega),by have:=r.dp;show A.depth+1+3*k+5<_;omega,by have:=r.un;show A.units+3+16*k+200<_;omega,r.gd⟩
theorem qBW{A:Around}{C:Addr}{us:List Value}{kw:List (Str×Value)}:(A.under (.builtin "type.__call__" ⟨.ref C::us,kw⟩)).depth=A.depth+1:=by first|rfl|simp[Around.under,Code.weight,Code.isCreation,Code.isGuard,Code.isCaller,Code.frames,Code.isFrame,guardIds]
theorem qBl{A:Around}{C:Addr}{us:List Value}{kw:List (Str×Value)}:(A.under (.builtin "type.__call__" ⟨.ref C::us,kw⟩)).units=A.units+1:=by first|rfl|simp[Around.under,Code.cUnits,Code.frames,Code.isFrame]
theorem Room.make{k:Nat}{A:Around}(r:Room (k+1) A)(C:Addr)(us:List Value)(kw:List (Str×Value)):Room k (A.under (.builtin "type.__call__" ⟨.ref C::us,kw⟩)) :=
 ⟨fun z=>r.hd (by omega),by have:=r.dp;rw[qBW];omega,by have:=r.un;rw[qBl];omega,r.gd⟩
theorem Room.depth{k:Nat}{A:Around}(r:Room k A):A.depth<recursionLimit:=by have:=r.dp;omega
theorem Room.units{k:Nat}{A:Around}(r:Room k A):A.units+64<cLine:=by have:=r.un;omega
def qKX:TA:=fun _ H Q=>Q [] H
def qEh(ta:TE)(tr:TA):TA:=fun σ H Q=>ta σ H fun x H1=>tr σ H1 fun xs H2=>Q (x::xs) H2
section
variable{X:Cx}{e:Expr}{es:List Expr}{te:TE}{t:TA}{pos:Pos}
theorem yO:PA X [] qKX:=fun _ _ _ _ H Q I h=>Calls.spliced_nil ⟨[],H,I,.nil,h⟩
theorem zr(ha:PE X e te)(hr:PA X es t)(hs:starEach (e::es) X.env=(false,eval e X.env)::starEach es X.env:=by rfl):PA X (e::es) (qEh te t):=by intro pos pins s σ H Q I h;rw[hs];show wpAny _ _ (spliced ((false,eval e X.env)::backTo pos (starEach es X.env))) _ _ s;refine CV (thn (ha pins s σ H _ I h) fun u s1 ⟨x,H1,I1,r1,q1⟩=>?_);exact thn (hr pos pins s1 σ H1 _ I1 q1) fun us s2 ⟨xs,H2,I2,r2,q2⟩=>⟨x::xs,H2,I2,.cons r1 r2,q2⟩
def qLo(t:TA):TE:=fun σ H Q=>t σ H fun xs H1=>xs.length≤sizeLine∧∀p,H1 p=none->Q (.ref p) (upd H1 p (.tup xs))
def qLX(t:TA):TE:=fun σ H Q=>t σ H fun xs H1=>xs.length≤sizeLine∧∀p,H1 p=none->Q (.ref p) (upd H1 p (.lst xs))
theorem qJn{x1}(h:PA X es t):PE X (.Tuple es x1 pos) (qLo t):=by
 intro pins s σ H Q I hq;refine wpAny_Tuple_spliced (thn (h pos pins s σ H _ I hq) fun us s1 ⟨xs,H1,I1,r,z,q⟩=>⟨by rw[←r.length];exact z,?_⟩);have hf:H1 s1.heap.objs.size=none:=I1.hok.fresh (AG _);refine⟨.ref s1.heap.objs.size,upd H1 s1.heap.objs.size (.tup xs),I1.laid (t':=s1.toks) (fun b u e=>AD _ e) (AG _) ?_,rfl,q _ hf⟩;exact⟨z,us,r,⟨_,AW _ rfl,rfl,_,rfl⟩⟩
theorem qIb(h:PA X es t):PE X (.List es pos) (qLX t):=by
 intro pins s σ H Q I hq;refine wpAny_List_spliced (thn (h pos pins s σ H _ I hq) fun us s1 ⟨xs,H1,I1,r,z,q⟩=>⟨by rw[←r.length];exact z,?_⟩);have hf:H1 s1.heap.objs.size=none:=I1.hok.fresh (AG _);refine⟨.ref s1.heap.objs.size,upd H1 s1.heap.objs.size (.lst xs),I1.laid (t':=s1.toks) (fun b u e=>AD _ e) (AG _) ?_,rfl,q _ hf⟩;exact⟨z,us,0,r,AW _ rfl⟩
end
abbrev Sp:=List V->Hp->VK->XK->Prop
abbrev CXT:=List Env->Hp->Shared->XK->Value->Shared->Prop
structure Env0 (P:Program) (w:World) (K:W.Frag) (mg:Str->Option Value) (base:Heap) (A:Around) (outer:List Env) (s:Shared) (H:Hp):Prop where
 frames:A.frames=some outer
 mod:Mod K mg base
 bs:∀b o,base.get? b=some o->s.heap.get? b=some o∧H b=none
 bsz:base.objs.size≤s.heap.objs.size
 funs:s.heap.FunFrames base outer
 frf:∀b∈frs outer,H b=none
 hok:HOk P w H s.heap
 bare:AllBare s.gens
 hnd:HndH A H
def CE(outer:List Env)(P:Program)(w:World)(H:Hp)(s:Shared)(Q:VK)(u:Value)(s':Shared):Prop :=
 ∃v H',s'.os=s.os∧AllBare s'.gens∧Un (frs outer) [] H H' s.heap s'.heap∧HOk P w H' s'.heap∧RelV v u∧Q v H'
def CR(CX:CXT)(outer:List Env)(P:Program)(w:World)(H:Hp)(s:Shared)(Q:VK)(E:XK)(r:Result)(s':Shared):Prop :=
 match r with| .ok (.ret u)=>CE outer P w H s Q u s'| .ok _=>False| .error e=>CX outer H s E e s'
structure FnOk (P:Program) (w:World) (K:W.Frag) (mg:Str->Option Value) (base:Heap) (CX:CXT) (k:Nat) (f:Addr) (fd:FuncData) (ps:List Str) (sp:Sp):Prop where
 len:∀vs H Q E,sp vs H Q E->vs.length=ps.length
 run:∀(A:Around) (outer:List Env) (s:Shared) (H:Hp) (args:Args) (us:List Value) (vs:List V) (Q:VK) (E:XK),Room k A->Env0 P w K mg base A outer s H->BindsTo s fd args (ps.zip us)->Vals vs us->sp vs H Q E ->
  codeAny (model P w) A (.call (.ref f) args) (CR CX outer P w H s Q E) s
theorem Env0.make{P:Program}{w:World}{K:W.Frag}{mg:Str->Option Value}{base:Heap}{A:Around}{outer:List Env}{s:Shared}{H:Hp}(e:Env0 P w K mg base A outer s H)(C:Addr)(us:List Value)(kw:List (Str×Value)) :
  Env0 P w K mg base (A.under (.builtin "type.__call__" ⟨.ref C::us,kw⟩)) outer s H:=⟨by first|exact e.frames|(simpa[Around.under,Code.envs,Code.isFrame,pushEnvs] using e.frames),e.mod,e.bs,e.bsz,e.funs,e.frf,e.hok,e.bare,e.hnd⟩
section
variable{X:Cx}{pins:List (Addr×Obj)}{σ:St}{H:Hp}{s s':Shared}
theorem Inv.env0(I:Inv X pins σ H s):Env0 X.prog X.w X.K X.mg X.base X.A X.stack s H :=
 ⟨I.ok.frames,I.ok.mod,I.bs,Ag I.ok.bsz I.sz,I.stack,I.stkFree,I.hok,I.bare,I.hnd⟩
theorem Inv.after{Q:VK}{u:Value}(I:Inv X pins σ H s)(h:CE X.stack X.prog X.w H s Q u s'):EP X pins σ Q u s':=by obtain⟨v,H',os,bare,un,hok,r,q⟩:=h;obtain⟨hh,g,d,t,os'⟩:=s';obtain rfl:os'=s.os:=os;exact⟨v,H',I.call (h':=hh) (g':=g) (d':=d) (t':=t) (ch:=[]) un hok bare (fun b z=>absurd z (by simp)),r,q⟩
end
def qLM(sp:Sp)(dvs:List V)(E:XK)(t:TA):TE:=fun σ H Q=>t σ H fun vs H1=>sp (vs++dvs) H1 Q E
def Binds(K:W.Frag)(fd:FuncData)(ps:List Str)(ds:List Value):Prop :=
 ∀(s:Shared) (us:List Value),K.In s.heap->(us++ds).length=ps.length->BindsTo s fd ⟨us,[]⟩ (ps.zip (us++ds))
theorem Binds.all{K:W.Frag}{fd:FuncData}{ps:List Str}(h:∀us:List Value,us.length=ps.length->bindArgs fd ⟨us,[]⟩=pure (ps.zip us)):Binds K fd ps []:=fun s us _ hl=>by rw[Au]at hl ⊢;exact .of_eq (h us hl)
def ZO(CX:CXT)(X:Cx)(E:XK):Prop:=∀(pins:List (Addr×Obj)) (σ:St) (H:Hp) (s:Shared) (e:Value) (s':Shared),Inv X pins σ H s->CX X.stack H s E e s'->X.xe e s'
section
variable{X:Cx}{CX:CXT}{k:Nat}{f C:Addr}{fd:FuncData}{ps:List Str}{sp:Sp}{dvs:List V}{ds:List Value}{E:XK}{x m:Str}{p pos apos:Pos}{e o:Expr}{es:List Expr}{ta:TE}{t:TA}
theorem qJB{pins:List (Addr×Obj)}{σ:St}{H:Hp}{s:Shared}{Q:VK}{us:List Value}{vs:List V}(F:FnOk X.prog X.w X.K X.mg X.base CX k f fd ps sp)(hr:Room k X.A)(hb:Binds X.K fd ps ds)(hd:Vals dvs ds)(hx:ZO CX X E)
  (I:Inv X pins σ H s) (r:Vals vs us) (h:sp (vs++dvs) H Q E):wpAny (model X.prog X.w) X.A (call (.ref f) us) (EP X pins σ Q) X.xe s:=by
 have r2:Vals (vs++dvs) (us++ds):=r.append hd;have hl:(us++ds).length=ps.length:=by rw[←r2.length];exact F.len _ _ _ _ h
 refine BY (codeAny_mono (F.run X.A X.stack s H ⟨us,[]⟩ (us++ds) (vs++dvs) Q E hr I.env0 (hb s us I.kIn hl) r2 h) fun r s' hq=>?_);cases r with
 |error e=>exact hx pins σ H s e s' I hq
 |ok fl =>
  cases fl with|ret u=>exact I.after hq|next=>exact False.elim hq|brk=>exact False.elim hq|cont=>exact False.elim hq
theorem qHX(F:FnOk X.prog X.w X.K X.mg X.base CX k f fd ps sp)(hr:Room k X.A)(hg:Gl X x)(hm:X.mg x=some (.ref f))(hk:W.keepIn X.K (.ref f)=true)(hb:Binds X.K fd ps ds)(hd:Vals dvs ds)(hx:ZO CX X E)
  (ha:PA X (e::es) t) (hdb:(x==("__debug__":Str))=false:=by decide) (he:starEach (e::es) X.env=(false,eval e X.env)::starEach es X.env:=by rfl) (hpl:(backTo pos (starEach es X.env)).any (·.1)=false:=by rfl) :
  PE X (.Call (.Name x p) (e::es) [] pos) (qLM sp dvs E t):=by intro pins s σ H Q I h;refine BO (Zv I hg hm ?_ hdb);refine W.callWith_K (h₀:=X.base) I.ok.mod.kin hk (thn (ha pos pins s σ H _ I h) fun us s1 ⟨vs,H1,I1,r,q⟩=>⟨I1.kIn,?_⟩) he hpl;exact qJB F hr hb hd hx I1 r q
end
structure FnScope (N P:List Str) (sc:Scope):Prop where
 kind:sc.kind= .function
 co:sc.isCoroutine=false
 gen:sc.isGenerator=false
 nd:N.Nodup
 pre:N.take P.length=P
 par:∀x∈P,sc.names.lookup x=some .local∨sc.names.lookup x=some .cell
 nofree:∀y∈sc.names,y.2≠ .free
theorem jY{kindOf:Str->Option NameKind}{x:Str}:∀{binds:List (Str×Value)} {m:Str->Option Value},(∀v,(x,v)∉binds)->bindL kindOf binds m x=m x
 |[],_,_=>rfl
 |(n,v)::r,m,h=>by
  unfold bindL;rw[jY fun w hw=>h w (AI _ hw)];split
  ·have:x≠n:=by rintro rfl;exact h v AK
   simp[this]
  ·rfl
theorem jT{kindOf:Str->Option NameKind}{x:Str}:∀{binds:List (Str×Value)} {m:Str->Option Value},(∀v,(x,v)∉binds)->bindC kindOf binds m x=m x
 |[],_,_=>rfl
 |(n,v)::r,m,h=>by
  unfold bindC;rw[jT fun w hw=>h w (AI _ hw)];split;rfl
  ·have:x≠n:=by rintro rfl;exact h v AK
   simp[this]
theorem jG{kindOf:Str->Option NameKind}{x:Str}{v:Value}:∀{P:List Str} {vs:List Value} {i:Nat} {m:Str->Option Value},P.Nodup->P[i]? = some x->vs[i]? = some v->kindOf x=some .local ->
  bindL kindOf (P.zip vs) m x=some v
 |[],_,_,_,_,h,_,_=>by simp at h
 |_::_,[],_,_,_,_,h,_=>by simp at h
 |p::P,w::vs,0,m,nd,h1,h2,hk=>by simp at h1 h2;subst h1;subst h2;show bindL kindOf ((p,w)::P.zip vs) m p=_;unfold bindL;rw[jY fun v hv=>(A2.mp nd).1 (List.of_mem_zip hv).1,AE hk];simp
 |p::P,w::vs,i+1,m,nd,h1,h2,hk=>by show bindL kindOf ((p,w)::P.zip vs) m x=_;unfold bindL;exact jG (i:=i) (A2.mp nd).2 (by simpa using h1) (by simpa using h2) hk
theorem jQ{kindOf:Str->Option NameKind}{x:Str}{v:Value}:∀{P:List Str} {vs:List Value} {i:Nat} {m:Str->Option Value},P.Nodup->P[i]? = some x->vs[i]? = some v->kindOf x≠some .local ->
  bindC kindOf (P.zip vs) m x=some v
 |[],_,_,_,_,h,_,_=>by simp at h
 |_::_,[],_,_,_,_,h,_=>by simp at h
 |p::P,w::vs,0,m,nd,h1,h2,hk=>by simp at h1 h2;subst h1;subst h2;show bindC kindOf ((p,w)::P.zip vs) m p=_;unfold bindC;rw[jT fun v hv=>(A2.mp nd).1 (List.of_mem_zip hv).1,AF hk];simp
 |p::P,w::vs,i+1,m,nd,h1,h2,hk=>by show bindC kindOf ((p,w)::P.zip vs) m x=_;unfold bindC;exact jQ (i:=i) (A2.mp nd).2 (by simpa using h1) (by simpa using h2) hk
def start(N:List Str)(vs:List V):St:=vs.map some++List.replicate (N.length-vs.length) none
def Qq(CX:CXT)(P:Program)(w:World)(K:W.Frag)(mg:Str->Option Value)(base:Heap)(N:List Str)(qual:Str)(scope:Scope)(f:Addr)(cd:Value)(A:Around)(outer:List Env)(s:Shared)(H:Hp)(E:XK):Cx where
 prog:=P
 w:=w
 K:=K
 mg:=mg
 base:=base
 A:=A.deeper (envOfC qual scope s.heap.objs.size f cd)
 N:=N
 s₀:=s
 H₀:=H
 env:=envOfC qual scope s.heap.objs.size f cd
 outer:=outer
 stack:=envOfC qual scope s.heap.objs.size f cd::outer
 ex:=[]
 calm:=A.handled.isNone
 fn:=fun _=>true
 pn:=[]
 xe:=fun e s'=>wpAny (model P w) (A.deeper (envOfC qual scope s.heap.objs.size f cd)) (leaving (envOfC qual scope s.heap.objs.size f cd) e) (fun _ s''=>CX outer H s E e s'') (fun e' s''=>CX outer H s E e' s'') s'
theorem Jg{sc:Scope}{n:Nat}{x:Str}(h:sc.names.lookup x=some .cell):∃c,(cellsFrom n sc.names []).lookup x=some c:=by have q:=W.cellsFrom_some sc.names n [] (.inl h);exact Option.isSome_iff_exists.mp q
theorem qDQ{CX:CXT}{P:Program}{w:World}{K:W.Frag}{mg:Str->Option Value}{base:Heap}{N ps:List Str}{qual:Str}{scope:Scope}{f:Addr}{cd:Value}{A:Around}{outer:List Env}{s s1:Shared}{H:Hp}{E:XK}{us:List Value}{vs:List V}
  (S:FnScope N ps scope) (e0:Env0 P w K mg base A outer s H) (hl:vs.length=ps.length) (r:Vals vs us)
  (x:InCallC s s.heap.objs.size (bindL (envOfC qual scope s.heap.objs.size f cd).kindOf (ps.zip us) fun _=>none) (cellsFrom (s.heap.objs.size+1) scope.names []) (bindC (envOfC qual scope s.heap.objs.size f cd).kindOf (ps.zip us) fun _=>none) s1) :
  Inv (Qq CX P w K mg base N qual scope f cd A outer s H E) [] (start N vs) H s1:=by
 have hpl:ps.length≤N.length:=by have:=Bv List.length S.pre;rw[Ba]at this;omega
 obtain⟨h1,tk,rfl,hk⟩:=x.done;have noA:∀b:Addr,b∉(Qq CX P w K mg base N qual scope f cd A outer s H E).ex:=fun b z=>absurd (show b∈([]:List Addr) from z) (by simp);refine⟨⟨e0.mod,S.kind,rfl,rfl,AG _,fun y z c h1 h2=>?_,fun y hy=>?_,fun y c _ h=>?_,fun z=>Option.isNone_iff_eq_none.mp z,Around.frames_deeper e0.frames,.inr ⟨rfl,rfl⟩,fun b z=>absurd z (noA b),e0.bs,e0.bsz,fun b _ _=>noA b,fun b z=>absurd z (noA b),e0.funs,e0.frf⟩,
  rfl,e0.bare,Un.kept hk,⟨_,x.toInCall.ns,fun i y v h1 h2 h3=>?_⟩,fun y c h=>⟨_,x.cell y c h⟩,e0.hok.fresh (AG _),fun y c h=>?_,fun p hp=>absurd (show p∈([]:List (Addr×Obj)) from hp) (by simp),e0.hok.kept hk,?_,e0.hnd⟩
 ·exact name_of_addr x.apart (BV h1) (BV h2)
 ·have hy:scope.names.lookup y=some .cell∨scope.names.lookup y=some .free:=hy;rcases hy with hy|hy
  ·exact Jg hy
  ·exact absurd rfl (S.nofree _ (BV hy))
 ·exact Nat.le_of_lt (x.above y c (BV h))
 ·have hi:i<vs.length:=by
   unfold start at h2;by_cases hi:i<vs.length;exact hi
   ·rw[At (by simpa using hi)]at h2;rw[Bl]at h2;split at h2 <;> cases h2
  have ha:vs[i]? = some v:=by
   unfold start at h2;rw[Ae (by simpa using hi),A3]at h2;cases e:vs[i]? with|none=>rw[e]at h2;cases h2|some a=>rw[e]at h2;cases h2;rfl
  obtain⟨u,hu,rv⟩:=r.get ha;have hp:ps[i]? = some y:=by rw[←S.pre,List.getElem?_take_of_lt (by omega)];exact h1
  have ndP:ps.Nodup:=by rw[←S.pre];exact S.nd.sublist (List.take_sublist _ _)
  refine⟨u,rv,?_⟩;rcases S.par y (Aq hp) with k|k
  ·exact .inl ⟨k,jG ndP hp hu k⟩
  ·obtain⟨c,e⟩:=Jg (n:=s.heap.objs.size+1) k;refine .inr ⟨.inl k,c,e,?_⟩;have q:=x.cell y c e;rw[jQ ndP hp hu (by show scope.names.lookup y≠_;rw[k];decide)]at q;exact q
 ·exact e0.hok.fresh (Nat.le_of_lt (x.above y c (BV h)))
 ·unfold start;show _=N.length;rw[AO,AN,List.length_replicate];omega
theorem qIL{CX:CXT}{P:Program}{w:World}{K:W.Frag}{mg:Str->Option Value}{base:Heap}{k:Nat}{f:Addr}{name qual:Str}{params:Arguments}{body:List Stmt}{scope:Scope}{dV kV doc pm cdv ct oc:Value}{an od:Option Addr}
  {osl:Array (Option Value)} {N ps:List Str} {sp:Sp} (lk:K.lookup f=some ⟨oc,od,.func (W.fnOf name qual params body scope dV kV doc pm an cdv ct),osl⟩) (hcd:W.codeIn K cdv qual=true) (S:FnScope N ps scope)
  (len:∀vs H Q E,sp vs H Q E->vs.length=ps.length)
  (hbody:∀(A:Around) (outer:List Env) (s:Shared) (H:Hp) (vs:List V) (Q:VK) (E:XK),Room k (A.deeper (envOfC qual scope s.heap.objs.size f cdv))->(0<k->A.handled=none)->sp vs H Q E ->
   ∃t,PSs (Qq CX P w K mg base N qual scope f cdv A outer s H E) body t∧t { nx:=fun _ H'=>Q .non H',rt:=Q } (start N vs) H) :
  FnOk P w K mg base CX (k+1) f (W.fnOf name qual params body scope dV kV doc pm an cdv ct) ps sp:=by
 refine⟨len,fun A outer s H args us vs Q E hr e0 hb r hsp=>?_⟩;have hl:=len _ _ _ _ hsp;have KX:K.In s.heap:=e0.mod.kin.keeps fun b o e=>(e0.bs b o e).1;have lim:s.heap.NoLimit:=e0.mod.nolimit.keeps fun b o e=>(e0.bs b o e).1;have hkind:∀y∈ps.zip us,scope.names.lookup y.1=some .local∨(scope.names.lookup y.1=some .cell∧((cellsFrom (s.heap.objs.size+1) scope.names []).lookup y.1).isSome=true):=fun⟨n,v⟩ hy=>by
  rcases S.par n (List.of_mem_zip hy).1 with q|q
  ·exact .inl q
  ·exact .inr ⟨q,W.cellsFrom_some _ _ _ (.inl q)⟩
 refine codeAny_call_function hr.depth (KX _ _ lk) rfl S.co S.gen rfl (W.codeRec_of KX hcd) (hb _ _ _ _ ?_);refine wpAny_newFunctionEnv_cells S.kind hkind fun env he s1 x=>?_;subst he;refine⟨lim.keeps x.toInCall.keep,codeAny_func ?_⟩;obtain⟨t,ht,hq⟩:=hbody A outer s H vs Q E (hr.deeper _) (fun z=>hr.hd (by omega)) hsp;have I:Inv (Qq CX P w K mg base N qual scope f cdv A outer s H E) [] (start N vs) H s1:=qDQ S e0 hl r x;refine BJ (ht [] s1 (start N vs) H _ I hq) (fun fl s' hs=>?_) fun e s' hs=>hs;have fin:∀{σ':St} {H':Hp} {v:V} {u:Value},Inv (Qq CX P w K mg base N qual scope f cdv A outer s H E) [] σ' H' s'->RelV v u->Q v H'->CE outer P w H s Q u s' :=
  fun {σ' H' v u} J rv q=>⟨v,H',J.os,J.bare,J.base,J.hok,rv,q⟩
 cases fl with|ret u=>obtain⟨v,σ',H',J,rv,q⟩:=hs;exact fin J rv q|next=>obtain⟨σ',H',J,q⟩:=hs;exact fin (v:=V.non) (u:=Value.none) J rfl q|brk=>obtain⟨_,_,_,q⟩:=hs;exact False.elim q|cont=>obtain⟨_,_,_,q⟩:=hs;exact False.elim q
end L2
namespace L2
open PySem PySem.Spec PyProof.Rows
section
variable{X:Cx}{x:Str}{p pos:Pos}{e:Expr}{es:List Expr}{t:TA}{id T:String}{r:List V->Hp->VK->Prop}
def tCB(r:List V->Hp->VK->Prop)(t:TA):TE:=fun σ H Q=>t σ H fun vs H1=>r vs H1 Q
theorem qGI(hc:Wh X (.builtin id) r)(hg:Gl X x)(hm:X.mg x=none)(hv:bootBuiltins x=some (.builtin id))(ha:PA X (e::es) t)(hn:x ≠ "__name__" :=by decide)(hdb:(x==("__debug__":Str))=false:=by decide)
  (he:starEach (e::es) X.env=(false,eval e X.env)::starEach es X.env:=by rfl) (hpl:(backTo pos (starEach es X.env)).any (·.1)=false:=by rfl):PE X (.Call (.Name x p) (e::es) [] pos) (tCB r t):=by intro pins s σ H Q I h;refine BO (zZ I hg hm hv ?_ hn hdb);exact PyProof.Rows.callWith_builtin1 (thn (ha pos pins s σ H _ I h) fun us s1 ⟨vs,H1,I1,r1,q1⟩=>hc pins s1 σ H1 vs us Q I1 r1 q1) he hpl
theorem jW(hc:Wh X (.type T) r)(hg:Gl X x)(hm:X.mg x=none)(hv:bootBuiltins x=some (.type T))(ha:PA X (e::es) t)(hn:x ≠ "__name__" :=by decide)(hdb:(x==("__debug__":Str))=false:=by decide)
  (he:starEach (e::es) X.env=(false,eval e X.env)::starEach es X.env:=by rfl) (hpl:(backTo pos (starEach es X.env)).any (·.1)=false:=by rfl):PE X (.Call (.Name x p) (e::es) [] pos) (tCB r t):=by intro pins s σ H Q I h;refine BO (zZ I hg hm hv ?_ hn hdb);exact BS (thn (ha pos pins s σ H _ I h) fun us s1 ⟨vs,H1,I1,r1,q1⟩=>hc pins s1 σ H1 vs us Q I1 r1 q1) he hpl
end
end L2
namespace HT
open PySem PyProof.Rows
theorem rcLt_int(A:Around)(s:Shared)(a:Int)(t:Tok)(c:Int)(u:Tok)(prog:Program)(w:World)(E:Value->Shared->Prop)(Q:Value->Shared->Prop)(h:Q (.bool (decide (a<c))) s) :
  wpAny (model prog w) A (richCompare .Lt (.int a t) (.int c u)) Q E s :=
 (PyProof.Rows.lt_int h:wpAny (model prog w) A (compareOp .Lt (.int a t) (.int c u)) Q E s)
section
variable{prog:Program}{w:World}{A:Around}{E:Value->Shared->Prop}{s:Shared}
theorem cat_tup{t b:Addr}{vs ws:List Value}{Q:Value->Shared->Prop}(ht:IsTup s.heap t vs.toArray)(hb:IsTup s.heap b ws.toArray)(hv:vs≠[])
  (h1:ws=[]->Q (.ref t) s) (h2:ws≠[]->Q (.ref s.heap.objs.size) { s with heap:=s.heap.push { cls:=.type "tuple",data:=.seq (vs++ws).toArray } })
  (hsz:vs.length+ws.length≤sizeLine):wpAny (model prog w) A (binaryOp .Add (.ref t) (.ref b)) Q E s:=by
 obtain⟨⟨cls,dd,data,sl⟩,ho,hc,n,hd⟩:=id ht;obtain⟨⟨cls2,dd2,data2,sl2⟩,ho2,hc2,n2,hd2⟩:=id hb;simp only at hc hd hc2 hd2;subst hc hd hc2 hd2;have e:vs.toArray++ws.toArray=(vs++ws).toArray:=by simp
 by_cases hw:ws=[]
 ·exact concat_meets ⟨_,ho,rfl⟩ ⟨_,ho2,rfl⟩ noFill_tuple_add seq_tuple_add PySem.F.slot_tuple_add PySem.F.entry_tuple_add (PySem.F.args_tuple_add_2 _ _)
   (tuple_addW1 t b vs.toArray ws.toArray n n2 dd dd2 sl sl2 (by simpa using hv) (by simp[hw])) ⟨ho,ho2,h1 hw⟩
 ·refine concat_meets ⟨_,ho,rfl⟩ ⟨_,ho2,rfl⟩ noFill_tuple_add seq_tuple_add PySem.F.slot_tuple_add PySem.F.entry_tuple_add (PySem.F.args_tuple_add_2 _ _)
   (tuple_addW2 t b vs.toArray ws.toArray n n2 dd dd2 sl sl2 (by simpa using hv) (by simpa using hw) (by rw[AR,AR];exact hsz)) ⟨ho,ho2,?_⟩
  rw[e];exact h2 hw
def sIx(n d:Nat):Option Int->Nat|none=>d|some v=>if v<0 then (v+(n:Int)).toNat else min v.toNat n
theorem sIx_nat(n d k:Nat):sIx n d (some (k:Int))=min k n:=by show (if (k:Int)<0 then ((k:Int)+(n:Int)).toNat else min (k:Int).toNat n)=min k n;rw[AF (by omega),Bh]
theorem qIc(n d:Nat)(hd:d≤n)(o:Option Int):sIx n d o≤n:=by
 cases o with
 |none=>exact hd
 |some v =>
  show (if v<0 then (v+(n:Int)).toNat else min v.toNat n)≤n;by_cases hv:v<0;rw[AE hv];omega;rw[AF hv];exact Nat.min_le_right _ _
theorem qCq(v:Int)(n d:Nat):(if v<0 then max (v+(n:Int)) 0 else min v (n:Int))=((sIx n d (some v):Nat):Int):=by
 show (if v<0 then max (v+(n:Int)) 0 else min v (n:Int))=(((if v<0 then (v+(n:Int)).toNat else min v.toNat n):Nat):Int);by_cases hv:v<0;simp only[AE hv];omega;simp only[AF hv];omega
theorem qBf(lo hi:Option Int)(n:Nat):Builtin.Slice.sliceAdjust lo hi 1 (n:Int)=(((sIx n 0 lo:Nat):Int),((sIx n n hi:Nat):Int)):=by
 have h1:¬((1:Int)<0):=by omega
 unfold Builtin.Slice.sliceAdjust;simp only[h1,Bb];refine Prod.ext ?_ ?_
 ·cases lo with|none=>rfl|some v=>exact qCq v n 0
 ·cases hi with|none=>rfl|some v=>exact qCq v n n
theorem qBp(i j:Nat):Builtin.Slice.slicePlaces (i:Int) (j:Int) 1=j-i:=by
 unfold Builtin.Slice.slicePlaces;have h1:(1:Int)>0:=by omega
 simp only[h1,B9,Int.ediv_one];split <;> omega
theorem Wv{v:Value}{o:Option Int}{Q:Option Int->Shared->Prop}(p:IsPart v o)(h:Q o s):wpAny (model prog w) A (Builtin.Slice.slicePartIndex v) Q E s:=by
 cases p with|none=>exact slicePart_none h|int i t=>exact slicePart_int h
theorem sliceApplied_gen{sl:Addr}{vl vu:Value}{lo hi:Option Int}{n:Nat}{Q:Int×Int×Nat->Shared->Prop}(hs:s.heap.IsSliceOf sl vl vu .none)(pl:IsPart vl lo)(pu:IsPart vu hi)
  (h:Q (((sIx n 0 lo:Nat):Int),1,sIx n n hi-sIx n 0 lo) s):wpAny (model prog w) A (Builtin.Slice.sliceApplied (.ref sl) (pure (n:Int))) Q E s:=by
 obtain⟨os,hos,hcs,hds⟩:=id hs;unfold Builtin.Slice.sliceApplied Builtin.Slice.sliceFields;refine AA (AA (A4 hos hds (x:=vl) rfl (AA (A4 hos hds (x:=vu) rfl (AA (A4 hos hds (x:=.none) rfl (AB ?_)))))));refine AA (slicePart_none ?_);show wpAny _ _ (if ((1:Int)==0)=true then _ else _) _ _ s;rw[AF (by decide)];refine AA (Wv pl (AA (Wv pu (AA (AB ?_)))));show wpAny _ _ (match Builtin.Slice.sliceAdjust lo hi 1 (n:Int) with|(lo,hi)=>pure (lo,(1:Int),Builtin.Slice.slicePlaces lo hi 1)) _ _ s;rw[qBf lo hi n];show wpAny _ _ (pure (((sIx n 0 lo:Nat):Int),(1:Int),Builtin.Slice.slicePlaces ((sIx n 0 lo:Nat):Int) ((sIx n n hi:Nat):Int) 1)) _ _ s;rw[qBp];exact AB h
theorem qFq(xs:Array Value)(i k:Nat):((List.range k).filterMap fun (m:Nat)=>xs[((i:Int)+(m:Int)*1).toNat]?).toArray=((xs.toList.drop i).take k).toArray:=by
 have e:(fun (m:Nat)=>xs[((i:Int)+(m:Int)*1).toNat]?)=fun m=>xs[i+m]? :=by
  funext m
  have:((i:Int)+(m:Int)*1).toNat=i+m:=by omega
  rw[this]
 rw[e]
 have:=pick_run xs i k
 rw[List.filterMap_map]at this;have e2:((fun x=>xs[x]?) ∘ fun x=>i+x)=fun m=>xs[i+m]? :=rfl;rw[e2]at this;rw[this]
theorem getItem_tuple_cut{t sl:Addr}{items:Array Value}{vl vu:Value}{lo hi:Option Int}{Q:Value->Shared->Prop}(ht:IsTup s.heap t items)(hs:s.heap.IsSliceOf sl vl vu .none)(pl:IsPart vl lo)(pu:IsPart vu hi)
  (hw:¬(sIx items.size 0 lo=0∧sIx items.size items.size hi=items.size))
  (h:Q (.ref s.heap.objs.size) { s with heap:=s.heap.push { cls:=.type "tuple",data:=.seq ((items.toList.drop (sIx items.size 0 lo)).take (sIx items.size items.size hi-sIx items.size 0 lo)).toArray } })
  (hsz:items.size≤sizeLine):wpAny (model prog w) A (getItem (.ref t) (.ref sl)) Q E s:=by
 have htake:sizeOk (.seq ((items.toList.drop (sIx items.size 0 lo)).take (sIx items.size items.size hi-sIx items.size 0 lo)).toArray):=by show ((items.toList.drop (sIx items.size 0 lo)).take (sIx items.size items.size hi-sIx items.size 0 lo)).toArray.size≤sizeLine;rw[AR,Ba,Bc,AZ];omega
 have hj:sIx items.size items.size hi≤items.size:=qIc _ _ (AG _) hi;obtain⟨os,hos,hcs,hds⟩:=id hs;have hTs:s.TypeIs (.ref sl) "slice" :=⟨os,hos,hcs⟩;unfold getItem;try with_reducible refine Ak ?_
 first|refine AA (AB ?_)|skip
 refine AA (wpAny_sequenceKey ht.typeIs (by decide) ?_);refine AA (BI (name:=Str.ofString "__getitem__") ht.typeIs A9
  (Bm A9 ht.typeIs entry_tuple_getitem ?_ (args_tuple_getitem _ _)))
 show wpAny _ _ (Builtin.Tuple.tupleItemsOf (.ref t) >>= _) _ _ s;refine AA (tupleItemsOf_ ht ?_);refine AA (BX hTs ?_);rw[AE (by decide)];refine AA (sliceApplied_gen hs pl pu ?_);have hno:¬((((sIx items.size 0 lo:Nat):Int)==0&&(1:Int)==1&&(sIx items.size items.size hi-sIx items.size 0 lo)==items.size)=true):=by intro q;rw[AX,AX]at q;have q1:((sIx items.size 0 lo:Nat):Int)=0:=eq_of_beq q.1.1;have q2:sIx items.size items.size hi-sIx items.size 0 lo=items.size:=eq_of_beq q.2;exact hw ⟨by omega,by omega⟩
 show wpAny _ _ (if (((sIx items.size 0 lo:Nat):Int)==0&&(1:Int)==1&&(sIx items.size items.size hi-sIx items.size 0 lo)==items.size)=true then _ else _) _ _ s;rw[AF hno,qFq];first
  |exact AA (m:=Builtin.Tuple.tupleExact _) (A8 (AB ⟨_,rfl,AB h⟩) htake)
  |exact AA (m:=Builtin.Tuple.tupleExact _) (A8 (AA (AB (AB ⟨_,rfl,AB h⟩))) htake)
  |exact AA (AA (m:=Builtin.Tuple.tupleExact _) (A8 (AB (AB ⟨_,rfl,AB h⟩)) htake))
  |exact AA (AA (m:=Builtin.Tuple.tupleExact _) (A8 (AB ⟨_,rfl,AB h⟩) htake))
end
end HT
namespace L2
open PySem PySem.Spec PyProof.Rows
abbrev TO:=St->Hp->(Option Int->Hp->Prop)->Prop
def PO(X:Cx)(e:Option Expr)(t:TO):Prop :=
 ∀(pins:List (Addr×Obj)) (s:Shared) (σ:St) (H:Hp) (Q:Option Int->Hp->Prop),Inv X pins σ H s->t σ H Q ->
  wpAny (model X.prog X.w) X.A (evalPart e X.env) (fun u s'=>∃o H',Inv X pins σ H' s'∧IsPart u o∧Q o H') X.xe s
def qG1:TO:=fun _ H Q=>Q none H
def qLF(t:TE):TO:=fun σ H Q=>t σ H fun x H1=>∃i,x= .int i∧Q (some i) H1
section
variable{X:Cx}{e:Expr}{te:TE}{lo hi:Option Expr}{tl th:TO}{pos p2:Pos}
theorem qG8:PO X none qG1:=by intro pins s σ H Q I h;rw[evalPart_none];exact AB ⟨none,H,I,.none,h⟩
theorem qHU(h:PE X e te):PO X (some e) (qLF te):=by intro pins s σ H Q I hw;rw[evalPart_some];refine thn (h pins s σ H _ I hw) fun u s1 ⟨x,H1,I1,r1,q1⟩=>?_;obtain⟨i,rfl,q⟩:=q1;obtain⟨t,rfl⟩:=r1;exact⟨some i,H1,I1,.int i t,q⟩
def SlR(X:Cx)(r:V->Option Int->Option Int->Hp->VK->Prop):Prop :=
 ∀(pins:List (Addr×Obj)) (s:Shared) (σ:St) (H:Hp) (x:V) (v vl vu:Value) (lo hi:Option Int) (sl:Addr) (Q:VK),Inv X pins σ H s->RelV x v->s.heap.IsSliceOf sl vl vu .none->IsPart vl lo->IsPart vu hi->r x lo hi H Q ->
  ∃T id,typeLookup (.type T) "__getitem__" = pure (some (.builtin id))∧s.TypeIs v T∧wpAny (model X.prog X.w) X.A (getItem v (.ref sl)) (EP X pins σ Q) X.xe s
theorem SlR.or{r r':V->Option Int->Option Int->Hp->VK->Prop}(h:SlR X r)(h':SlR X r'):SlR X (fun x lo hi H Q=>r x lo hi H Q∨r' x lo hi H Q):=by
 intro pins s σ H x v vl vu lo hi sl Q I rx hs pl pu q;rcases q with q|q
 ·exact h pins s σ H x v vl vu lo hi sl Q I rx hs pl pu q
 ·exact h' pins s σ H x v vl vu lo hi sl Q I rx hs pl pu q
def tSl(r:V->Option Int->Option Int->Hp->VK->Prop)(te:TE)(tl th:TO):TE:=fun σ H Q=>te σ H fun x H1=>tl σ H1 fun l H2=>th σ H2 fun u H3=>r x l u H3 Q
theorem Jz{r:V->Option Int->Option Int->Hp->VK->Prop}(hr:SlR X r)(he:PE X e te)(hl:PO X lo tl)(hu:PO X hi th):PE X (.Subscript e (.Slice lo hi none p2) pos) (tSl r te tl th):=by intro pins s σ H Q I h;refine Subscript_ (thn (he pins s σ H _ I h) fun v s1 ⟨x,H1,I1,r1,q1⟩=>?_);refine wpAny_Slice (thn (hl pins s1 σ H1 _ I1 q1) fun vl s2 ⟨l,H2,I2,pl,q2⟩=>thn (hu pins s2 σ H2 _ I2 q2) fun vu s3 ⟨u,H3,I3,pu,q3⟩=>?_);rw[evalPart_none];refine AB ?_;have I4:Inv X pins σ H3 { s3 with heap:=s3.heap.push { cls:=.type "slice",data:=.fields #[vl,vu,.none] } }:=I3.kept (t':=s3.toks) fun b ob q=>AD _ q;obtain⟨T,id,hT,ht,hg⟩:=hr pins { s3 with heap:=s3.heap.push { cls:=.type "slice",data:=.fields #[vl,vu,.none] } } σ H3 x v vl vu l u s3.heap.objs.size Q I4 r1 (Heap.IsSliceOf.new ..) pl pu q3;show wpAny (model X.prog X.w) X.A (subscriptTail e (.Slice lo hi none p2) v (.ref s3.heap.objs.size)) (EP X pins σ Q) X.xe { s3 with heap:=s3.heap.push { cls:=.type "slice",data:=.fields #[vl,vu,.none] } };exact tail_any (ops:=[.ref s3.heap.objs.size,v]) ht hT hg (by with_unfolding_all rfl)
def Y7(xs:List V)(lo hi:Option Int):List V:=(xs.drop (HT.sIx xs.length 0 lo)).take (HT.sIx xs.length xs.length hi-HT.sIx xs.length 0 lo)
theorem yg(xs:List V)(lo hi:Option Int):(Y7 xs lo hi).length≤xs.length:=by unfold Y7;rw[Ba,Bc];omega
def qLm(K:W.Frag):V->Option Int->Option Int->Hp->VK->Prop:=fun x lo hi H Q=>∃a xs,x= .ref a∧SqT K H a xs ∧
 ¬(HT.sIx xs.length 0 lo=0∧HT.sIx xs.length xs.length hi=xs.length)∧∀p,H p=none->Q (.ref p) (upd H p (.tup (Y7 xs lo hi)))
theorem sl_tup:SlR X (qLm X.K):=by
 intro pins s σ H x v vl vu lo hi sl Q I rx hs pl pu h;obtain⟨a,xs,rfl,hx,hw,q⟩:=h;cases rx;obtain⟨its,r,ht,hz⟩:=I.tuple hx;have hlen:its.toArray.size=xs.length:=by rw[AR];exact r.length.symm
 refine⟨"tuple",_,PyProof.Rows.slot_tuple_getitem.lookup,ht.typeIs,?_⟩;refine HT.getItem_tuple_cut ht hs pl pu (by rw[hlen];exact hw) ?_ (by rw[hlen];exact hz);rw[hlen];refine⟨.ref s.heap.objs.size,_,I.laid (t':=s.toks) (o:=.tup (Y7 xs lo hi)) (fun b ob q=>AD _ q) (AG _) ?_,rfl,q _ (I.hok.fresh (AG _))⟩;exact⟨Ag (yg xs lo hi) hz,_,(r.drop (HT.sIx xs.length 0 lo)).take (HT.sIx xs.length xs.length hi-HT.sIx xs.length 0 lo),IsTup.new _ _⟩
def qKe(K:W.Frag):R2:=fun x y H Q=>∃a b xs ys,x= .ref a∧y= .ref b∧SqT K H a xs∧SqT K H b ys∧xs≠[]∧xs.length+ys.length≤sizeLine ∧
 (ys=[]->Q (.ref a) H)∧(ys≠[]->∀p,H p=none->Q (.ref p) (upd H p (.tup (xs++ys))))
theorem Vals.nil_iff{xs:List V}{us:List Value}(r:Vals xs us):us=[] ↔ xs=[]:=by
 cases r with|nil=>simp|cons _ _=>simp
theorem qHq:OpR X (binaryOp .Add) (qKe X.K):=by
 intro pins s σ H x y v u Q I rx ry h;obtain⟨a,b,xs,ys,rfl,rfl,ha,hb,hx,hz,q1,q2⟩:=h;cases rx;cases ry;obtain⟨its,r1,p1,_⟩:=I.tuple ha;obtain⟨its2,r2,p2,_⟩:=I.tuple hb;refine HT.cat_tup p1 p2 (fun z=>hx (r1.nil_iff.mp z)) (fun z=>⟨.ref a,H,I,rfl,q1 (r2.nil_iff.mp z)⟩) (fun z=>?_) (by rw[←r1.length,←r2.length];exact hz);refine⟨.ref s.heap.objs.size,_,I.laid (t':=s.toks) (o:=.tup (xs++ys)) (fun b ob q=>AD _ q) (AG _) ?_,rfl,q2 (fun w=>z (r2.nil_iff.mpr w)) _ (I.hok.fresh (AG _))⟩;exact⟨by rw[AO];exact hz,_,r1.append r2,IsTup.new _ _⟩
end
end L2
namespace L2
open PySem PySem.Spec PyProof.Rows
def ixN(n:Nat)(i:Int):Option Nat:=if 0≤i then (if i<n then some i.toNat else none) else if -(n:Int)≤i then some (i+n).toNat else none
def atI{α:Type}(xs:List α)(i:Int):Option α:=(ixN xs.length i).bind fun j=>xs[j]?
theorem qCp{n:Nat}{i:Int}{j:Nat}(h:ixN n i=some j):seqIndex? i n=some j∧j<n∧ -(n:Int)≤i∧i<n:=by
 unfold ixN at h;by_cases h0:0≤i
 ·rw[AE h0]at h;by_cases h1:i<n;rw[AE h1]at h;have e:i.toNat=j:=Ac h;exact⟨by rw[seqIndex_of h0 h1,e],by omega,by omega,h1⟩;rw[AF h1]at h;cases h
 ·rw[AF h0]at h;by_cases h1:-(n:Int)≤i;rw[AE h1]at h;have e:(i+n).toNat=j:=Ac h;exact⟨by rw[seqIndex_neg (by omega) h1,e],by omega,h1,by omega⟩;rw[AF h1]at h;cases h
theorem JI{α:Type}{xs:List α}{i:Int}{v:α}(h:atI xs i=some v):∃j,seqIndex? i xs.length=some j∧xs[j]? = some v∧j<xs.length∧ -(xs.length:Int)≤i∧i<xs.length:=by
 unfold atI at h;cases e:ixN xs.length i with|none=>rw[e]at h;cases h|some j=>rw[e]at h;obtain⟨h1,h2,h3,h4⟩:=qCp e;exact⟨j,h1,h,h2,h3,h4⟩
def qB3(b:Expr):Prop:=∀o i,subscripted b false o i=operate [o,i] (getItem o i)
def IxR(X:Cx)(r:R2):Prop :=
 ∀(value slice:Expr) (pins:List (Addr×Obj)) (s:Shared) (σ:St) (H:Hp) (x y:V) (v u:Value) (Q:VK),Inv X pins σ H s->RelV x v->RelV y u->r x y H Q ->
  subscripted slice false v u=operate [v,u] (getItem v u)->wpAny (model X.prog X.w) X.A (subscriptTail value slice v u) (EP X pins σ Q) X.xe s
def MtR(X:Cx)(id:String)(r:V->List V->Hp->VK->Prop):Prop :=
 ∀(pins:List (Addr×Obj)) (s:Shared) (σ:St) (H:Hp) (x:V) (xs:List V) (v:Value) (us:List Value) (Q:VK),Inv X pins σ H s->RelV x v->Vals xs us->r x xs H Q ->
  wpAny (model X.prog X.w) X.A (call (.builtin id) (v::us)) (EP X pins σ Q) X.xe s
section
variable{X:Cx}{a b:Expr}{ta tb:TE}{pos:Pos}
theorem IxR.or{r r':R2}(h:IxR X r)(h':IxR X r'):IxR X (fun x y H Q=>r x y H Q∨r' x y H Q):=by
 intro value slice pins s σ H x y v u Q I rx ry q hs;rcases q with q|q
 ·exact h value slice pins s σ H x y v u Q I rx ry q hs
 ·exact h' value slice pins s σ H x y v u Q I rx ry q hs
theorem qK5{r:R2}(hr:IxR X r)(ha:PE X a ta)(hb:PE X b tb)(hs:qB3 b):PE X (.Subscript a b pos) (tOp r ta tb):=by intro pins s σ H Q I h;exact Subscript_ (qJO ha hb I h fun v u s2 x y H2 I2 rx ry q=>hr a b pins s2 σ H2 x y v u Q I2 rx ry q (hs _ _))
def qKY(K:W.Frag):R2:=fun x y H Q=>∃p xs i v,x= .ref p∧y= .int i∧SqL K H p xs∧atI xs i=some v∧Q v H
def qKa(K:W.Frag):R2:=fun x y H Q=>∃p xs i v,x= .ref p∧y= .int i∧SqT K H p xs∧atI xs i=some v∧Q v H
def qK4:R2:=fun x y H Q=>∃z i c,x= .str z∧y= .int i∧z.length≤sizeLine∧atI z.cps.toList i=some c∧Q (.str ⟨#[c]⟩) H
theorem ix_list:IxR X (qKY X.K):=by
 intro value slice pins s σ H x y v u Q I rx ry h hs;obtain⟨p,xs,i,z,rfl,rfl,hq,he,q⟩:=h;cases rx;obtain⟨t,rfl⟩:=ry;obtain⟨its,r,pl,hz⟩:=I.list hq;obtain⟨j,h1,h2,h3,h4,h5⟩:=JI he;obtain⟨w,ew,rw'⟩:=r.get h2;have hl:=r.length;have hn:=yL;have fin:EP X pins σ Q w s:=⟨z,H,I,rw',q⟩;by_cases h0:0≤i
 ·have hj:i.toNat=j:=by rw[seqIndex_of h0 h5]at h1;exact Ac h1
  exact item_listR pl.isList h0 (by omega) (by rw[hj];simpa using ew) fin hs
 ·have hj:(i+(its.toArray.size:Int)).toNat=j:=by
   rw[seqIndex_neg (by omega) h4]at h1;rw[AR,←hl];exact Ac h1
  exact subscriptTail_builtinR (x:=w) pl.isList.typeIs slot_list_getitem.lookup
   (wpAny_getItem_list_neg (Q:=fun r s'=>r=w∧EP X pins σ Q r s') pl.isList (by omega) (by rw[AR] <;> omega) (by omega) (by rw[hj];simpa using ew) ⟨rfl,fin⟩) hs
theorem ix_tup:IxR X (qKa X.K):=by
 intro value slice pins s σ H x y v u Q I rx ry h hs;obtain⟨p,xs,i,z,rfl,rfl,hq,he,q⟩:=h;cases rx;obtain⟨t,rfl⟩:=ry;obtain⟨its,r,pl,hz⟩:=I.tuple hq;obtain⟨j,h1,h2,h3,h4,h5⟩:=JI he;obtain⟨w,ew,rw'⟩:=r.get h2;have hl:=r.length;have hn:=yL;have fin:EP X pins σ Q w s:=⟨z,H,I,rw',q⟩;exact subscriptTail_builtinR (x:=w) pl.typeIs slot_tuple_getitem.lookup
  (getItem_tuple (j:=j) (Q:=fun r s'=>r=w∧EP X pins σ Q r s') pl (by omega) (by omega) (by rw[AR,←hl];exact h1) (by simpa using ew) ⟨rfl,fin⟩) hs
theorem qIX:IxR X qK4:=by
 intro value slice pins s σ H x y v u Q I rx ry h hs;obtain⟨z,i,c,rfl,rfl,hz,he,q⟩:=h;obtain⟨t,rfl⟩:=rx;obtain⟨t',rfl⟩:=ry;obtain⟨j,h1,h2,h3,h4,h5⟩:=JI he;have hl:z.cps.toList.length=z.length:=by simp[Str.length]
 rw[hl]at h1 h4 h5;have hn:=yL;exact tail_any (typeIs_str s z t) slot_str_getitem.lookup (getItem_str (c:=c) (by
  have e1:decide (i < -(2 ^ 63:Int))=false:=AY (by omega);have e2:decide (i≥2 ^ 63)=false:=AY (by omega);rw[e1,e2,Bool.or_false]) (by rw[h1];simpa using h2) ⟨.str ⟨#[c]⟩,H,I.tok _,⟨_,rfl⟩,q⟩) hs
def rIx(K:W.Frag):R2:=fun x y H Q=>qKY K x y H Q∨qKa K x y H Q∨qK4 x y H Q
theorem qJD:IxR X (rIx X.K):=ix_list.or (ix_tup.or qIX)
theorem qBm(its:List Value)(n j:Nat)(u:Value):Obj.mapSeq (·.setIfInBounds j u) { cls:=.type "list",data:=.seq its.toArray n }={ cls:=.type "list",data:=.seq (its.set j u).toArray n }:=by simp[Obj.mapSeq]
theorem Inv.lst{pins:List (Addr×Obj)}{σ:St}{H:Hp}{s:Shared}{p:Addr}{xs:List V}(I:Inv X pins σ H s)(h:H p=some (.lst xs)) :
  ∃(its:List Value) (n:Nat),Vals xs its∧s.heap.get? p=some { cls:=.type "list",data:=.seq its.toArray n }∧xs.length≤sizeLine:=by obtain⟨z,its,n,r,e⟩:=I.hok p _ h;exact⟨its,n,r,e,z⟩
theorem Inv.lstUpd{pins:List (Addr×Obj)}{σ:St}{H:Hp}{s:Shared}{p:Addr}{xs ys:List V}{its its':List Value}{n n':Nat}{f:Obj->Obj}(I:Inv X pins σ H s)(h:H p=some (.lst xs))
  (ho:s.heap.get? p=some { cls:=.type "list",data:=.seq its.toArray n }) (hf:f { cls:=.type "list",data:=.seq its.toArray n }={ cls:=.type "list",data:=.seq its'.toArray n' }) (r:Vals ys its') (hz:ys.length≤sizeLine) (t:Nat) :
  Inv X pins σ (upd H p (.lst ys)) { s with heap:=s.heap.update p f,toks:=t }:=by
 have e:(s.heap.update p f).get? p=some { cls:=.type "list",data:=.seq its'.toArray n' }:=by rw[BD f ho (by rw[hf] <;> rfl),hf]
 refine I.write (x:=p) (e:=p) (by rw[h];trivial) (.inl rfl) (fun b u hb q=>(Ao _ _ (Ne.symm hb)).trans q) ⟨_,e⟩ ?_;exact⟨hz,its',n',r,e⟩
def qII:V->V->V->Hp->(Hp->Prop)->Prop:=fun o i v H Q=>∃p xs k j,o= .ref p∧i= .int k∧H p=some (.lst xs)∧ixN xs.length k=some j∧Q (upd H p (.lst (xs.set j v)))
theorem Yw:qKZ X qII:=by
 intro pins s σ H o i v ov iv u Q I ro ri rv h;obtain⟨p,xs,k,j,rfl,rfl,hp,hj,q⟩:=h;cases ro;obtain⟨t,rfl⟩:=ri;obtain⟨its,n,r,ho,hz⟩:=I.lst hp;obtain⟨h1,h2,h3,h4⟩:=qCp hj;have hl:=r.length;have hn:=yL;have I':Inv X pins σ (upd H p (.lst (xs.set j v))) { s with heap:=s.heap.update p (Obj.mapSeq (·.setIfInBounds j u)) } :=
  I.lstUpd hp ho (qBm its n j u) (r.set rv j) (by rw[List.length_set];exact hz) s.toks
 by_cases h0:0≤k
 ·have hk:k.toNat=j:=by rw[seqIndex_of h0 h4]at h1;exact Ac h1
  exact W.ki_setAt ho h0 (by omega) (by rw[AR,←hl];exact h4) (by rw[hk];exact⟨_,I',q⟩)
 ·have hk:(k+(its.toArray.size:Int)).toNat=j:=by
   rw[seqIndex_neg (by omega) h3]at h1;rw[AR,←hl];exact Ac h1
  exact W.ki_setBack ho (by omega) (by rw[AR,←hl];exact h3) (by omega) (by rw[hk];exact⟨_,I',q⟩)
theorem JP(lo hi:Option Int)(n:Nat):(sliceBounds lo hi none n).1=((HT.sIx n 0 lo:Nat):Int)∧(sliceBounds lo hi none n).2.1=((HT.sIx n n hi:Nat):Int)∧(sliceBounds lo hi none n).2.2=1:=by
 refine⟨?_,?_,rfl⟩
 ·cases lo with
  |none=>simp[sliceBounds,HT.sIx]
  |some i =>
   simp only[sliceBounds,HT.sIx,Option.getD_none,show (1:Int)>0 by decide,B9];by_cases h:i<0;simp only[h,B9] <;> omega;simp only[h,Bb] <;> omega
 ·cases hi with
  |none=>simp[sliceBounds,HT.sIx]
  |some i =>
   simp only[sliceBounds,HT.sIx,Option.getD_none,show (1:Int)>0 by decide,B9];by_cases h:i<0;simp only[h,B9] <;> omega;simp only[h,Bb] <;> omega
theorem Y9(its:List Value)(lo hi:Option Int):slicePick its.toArray lo hi none=((its.drop (HT.sIx its.length 0 lo)).take (HT.sIx its.length its.length hi-HT.sIx its.length 0 lo)).toArray:=by obtain⟨h1,h2,h3⟩:=JP lo hi its.toArray.size;unfold slicePick;rw[h1,h2,h3];simp only[sliceRange_one,pick_run,AR] <;> rfl
def qLN(K:W.Frag):V->Option Int->Option Int->Hp->VK->Prop:=fun x lo hi H Q=>∃a xs,x= .ref a∧SqL K H a xs∧∀p,H p=none->Q (.ref p) (upd H p (.lst (Y7 xs lo hi)))
theorem qHB:SlR X (qLN X.K):=by
 intro pins s σ H x v vl vu lo hi sl Q I rx hs pl pu h;obtain⟨a,xs,rfl,hx,q⟩:=h;cases rx;obtain⟨its,r,ht,hz⟩:=I.list hx;have hlen:=r.length;refine⟨"list",_,slot_list_getitem.lookup,ht.isList.typeIs,?_⟩;refine wpAny_getItem_list_slice ht.isList hs pl pu .none (by simp) ?_ (by rw[AR] <;> omega);rw[Y9,←hlen];refine⟨.ref s.heap.objs.size,_,I.laid (t':=s.toks) (o:=.lst (Y7 xs lo hi)) (fun b ob q=>AD _ q) (AG _) ?_,rfl,q _ (I.hok.fresh (AG _))⟩;exact⟨Ag (yg xs lo hi) hz,_,0,(r.drop (HT.sIx xs.length 0 lo)).take (HT.sIx xs.length xs.length hi-HT.sIx xs.length 0 lo),AW _ rfl⟩
theorem yJ:Wh X (.builtin "len") (fun xs H Q=>∃p ys,xs=[.ref p]∧(SqL X.K H p ys∨SqT X.K H p ys)∧Q (.int ys.length) H):=by
 intro pins s σ H xs us Q I r h;obtain⟨p,ys,rfl,hq,q⟩:=h;obtain⟨u,rfl,rx⟩:=Z3 r;cases rx;have hn:=yL;rcases hq with hq|hq
 ·obtain⟨its,r',pl,hz⟩:=I.list hq;have hlen:=r'.length;exact Calls.call_len_list pl.isList (by simp only[AR] <;> omega) ⟨.int ys.length,H,I.tok _,⟨s.toks+1,by rw[AR,hlen]⟩,q⟩
 ·obtain⟨its,r',pl,hz⟩:=I.tuple hq;have hlen:=r'.length;exact len_tuple pl (by simp only[AR] <;> omega) ⟨.int ys.length,H,I.tok _,⟨s.toks+1,by rw[AR,hlen]⟩,q⟩
theorem jv:Wh X (.type "list") (fun xs H Q=>∃p ys,xs=[.ref p]∧(SqL X.K H p ys∨SqT X.K H p ys)∧∀l,H l=none->Q (.ref l) (upd H l (.lst ys))):=by
 intro pins s σ H xs us Q I r h;obtain⟨p,ys,rfl,hq,q⟩:=h;obtain⟨u,rfl,rx⟩:=Z3 r;cases rx;have fin:∀(its:List Value),Vals ys its->ys.length≤sizeLine->∀(h':Heap) (c':Nat),(∀b o',s.heap.get? b=some o'->h'.get? b=some o') ->
   h'.get? s.heap.objs.size=some { cls:=.type "list",dict:=none,data:=.seq its.toArray c',slots := #[] }->EP X pins σ Q (.ref s.heap.objs.size) { s with heap:=h' }:=fun its r' hz h' c' kp e =>
  ⟨.ref s.heap.objs.size,_,I.laid (t':=s.toks) kp (AG _) (show ObjOk X.prog X.w _ h' _ (.lst ys) from⟨hz,its,c',r',e⟩),rfl,q _ (I.hok.fresh (AG _))⟩
 rcases hq with hq|hq
 ·obtain⟨its,r',pl,hz⟩:=I.list hq;have hlen:=r'.length;obtain⟨o,ho,hc,n,hd⟩:=pl.isList;exact call_list_seq p (.inl rfl) ho hc hd (fun h' c' kp e=>fin its r' hz h' c' kp e) (by simp only[AR] <;> omega)
 ·obtain⟨its,r',pl,hz⟩:=I.tuple hq;have hlen:=r'.length;obtain⟨o,ho,hc,n,hd⟩:=pl;exact call_list_seq p (.inr rfl) ho hc hd (fun h' c' kp e=>fin its r' hz h' c' kp e) (by simp only[AR] <;> omega)
theorem Y8:Wh X (.type "tuple") (fun xs H Q=>∃p ys,xs=[.ref p]∧((SqL X.K H p ys∧∀l,H l=none->Q (.ref l) (upd H l (.tup ys)))∨(SqT X.K H p ys∧Q (.ref p) H))):=by
 intro pins s σ H xs us Q I r h;obtain⟨p,ys,rfl,h⟩:=h;obtain⟨u,rfl,rx⟩:=Z3 r;cases rx;rcases h with⟨hq,q⟩|⟨hq,q⟩
 ·obtain⟨its,r',pl,hz⟩:=I.list hq;have hlen:=r'.length;refine call_tuple_list pl.isList (fun h' kp=>?_) (by simp only[AR] <;> omega);have I1:Inv X pins σ H { s with heap:=h' }:=I.kept (t':=s.toks) kp;have I2:Inv X pins σ (upd H h'.objs.size (.tup ys)) { s with heap:=h'.push { cls:=.type "tuple",data:=.seq its.toArray } } :=
   I1.laid (t':=s.toks) (fun b o e=>AD _ e) (AG _) (show ObjOk X.prog X.w _ _ _ (.tup ys) from⟨hz,its,r',IsTup.new _ _⟩)
  exact⟨.ref h'.objs.size,_,I2,rfl,q _ (I1.hok.fresh (AG _))⟩
 ·obtain⟨its,r',pl,hz⟩:=I.tuple hq;exact call_tuple_same pl ⟨.ref p,H,I,rfl,q⟩
def tyV(K:W.Frag)(T:String)(x:V)(H:Hp):Prop:=match x with
 | .str _=>T = "str"
 | .int _=>T = "int"
 | .ref p=>(T = "list" ∧∃xs,SqL K H p xs)∨(T = "tuple" ∧∃o,K.lookup p=some o∧o.cls= .type "tuple" ∧o.dict=none) ∨
   (T = "dict" ∧((∃kvs,H p=some (.dK kvs))∨∃kvs,H p=some (.dT kvs)))∨(T = "set" ∧∃S n,H p=some (.set S n))
 |_=>False
theorem qJ5{pins:List (Addr×Obj)}{σ:St}{H:Hp}{s:Shared}{T:String}{x:V}{v:Value}(I:Inv X pins σ H s)(r:RelV x v)(ty:tyV X.K T x H) :
  s.TypeIs v T∧∀a,v= .ref a->∃ob,s.heap.get? a=some ob∧ob.dict=none:=by
 cases x with
 |str z=>obtain⟨t,rfl⟩:=r;cases (show T = "str" from ty);exact⟨typeIs_str s z t,fun _ e=>nomatch e⟩
 |int i=>obtain⟨t,rfl⟩:=r;cases (show T = "int" from ty);exact⟨typeIs_int s i t,fun _ e=>nomatch e⟩
 |ref p =>
  cases r;rcases ty with⟨rfl,xs,hq⟩|⟨rfl,o,hk,hc,hd⟩|⟨rfl,hk⟩|⟨rfl,S,n,hk⟩
  ·obtain⟨its,_,pl,_⟩:=I.list hq;refine⟨pl.isList.typeIs,fun a e=>?_⟩;cases e;obtain⟨o,n,e,c,hd,_⟩:=pl;exact⟨o,e,hd⟩
  ·refine⟨⟨o,I.kIn p o hk,hc⟩,fun a e=>?_⟩;cases e;exact⟨o,I.kIn _ o hk,hd⟩
  ·have z:∃o,s.heap.get? p=some o∧o.ExactDict:=by
    rcases hk with⟨kvs,hk⟩|⟨kvs,hk⟩
    ·obtain⟨_,_,_,_,o,_,_,e,ex,_⟩:=I.hok p _ hk;exact⟨o,e,ex⟩
    ·obtain⟨_,_,_,_,o,_,_,e,ex,_⟩:=I.hok p _ hk;exact⟨o,e,ex⟩
   obtain⟨o,e,ex⟩:=z;refine⟨⟨o,e,ex.1⟩,fun a e2=>?_⟩;cases e2;exact⟨o,e,ex.2.1⟩
  ·obtain⟨o,_,_,_,e,ex,_⟩:=I.hok p _ hk;refine⟨⟨o,e,ex.1⟩,fun a e2=>?_⟩;cases e2;exact⟨o,e,ex.2.1⟩
 |_=>exact False.elim ty
def tBM(K:W.Frag)(T:String)(r:V->List V->Hp->VK->Prop)(to:TE)(t:TA):TE:=fun σ H Q=>to σ H fun x H1=>tyV K T x H1∧t σ H1 fun xs H2=>r x xs H2 Q
variable{o e:Expr}{es:List Expr}{to:TE}{t:TA}{name:Str}{apos cpos:Pos}{T id:String}{r:V->List V->Hp->VK->Prop}
theorem qEN(pa:PlainAttrs T)(slot:Slot T name id)(hty:typeOf (.builtin id)=pure (.type "method_descriptor"))(hm:MtR X id r)(ho:PE X o to)(ha:PA X (e::es) t)
  (hbase:attributeBase o name X.env (eval o X.env)=eval o X.env:=by rfl)
  (hfew:((backTo cpos (starEach (e::es) X.env)).all (fun x=> !x.1)&&(backToKw cpos (keywordEach [] X.env)).all (fun x=>x.1.isSome)
   && decide ((e::es).length+([]:List Keyword).length+(if ([]:List Keyword).isEmpty then 0 else 1)<30))=true:=by rfl)
  (hline:(apos.endLine==cpos.line)=true:=by rfl) (hs:starEach (e::es) X.env=(false,eval e X.env)::starEach es X.env:=by rfl) (hplain:(backTo cpos (starEach es X.env)).any (·.1)=false:=by rfl) :
  PE X (.Call (.Attribute o name apos) (e::es) [] cpos) (tBM X.K T r to t):=by
 intro pins s σ H Q I h;refine wpAny_Call_method_late hbase hfew hline rfl (thn (ho pins s σ H _ I h) fun v s1 ⟨x,H1,I1,r1,ty,q1⟩=>?_);obtain⟨h1,h2⟩:=qJ5 I1 r1 ty;refine⟨T,id,pa,slot,hty,h1,h2,?_⟩;have hA:=ha cpos pins s1 σ H1 _ I1 q1;rw[hs]at hA ⊢;refine Calls.callWith_builtin (by show (false||(backTo cpos (starEach es X.env)).any (·.1))=false;rw[hplain] <;> rfl) (Calls.evalArgs_plain ?_);exact thn hA fun us s2 ⟨vs,H2,I2,r2,q2⟩=>hm pins s2 σ H2 x vs v us Q I2 r1 r2 q2
end
end L2
namespace L2
open PySem PySem.Spec PyProof.Rows
def MtM(X:Cx)(id:String)(r:V->List V->Hp->VK->Prop):Prop :=
 ∀(pins:List (Addr×Obj)) (s:Shared) (σ:St) (H:Hp) (x:V) (xs:List V) (v:Value) (us:List Value) (Q:VK),Inv X pins σ H s->RelV x v->Vals xs us->r x xs H Q ->
  wpAny (model X.prog X.w) X.A (call (.builtin id) (v::us)) (EP X pins σ Q) X.xe s
theorem Vals.one:∀{x:V} {us:List Value},Vals [x] us->∃u,us=[u]∧RelV x u|_,_,.cons r .nil=>⟨_,rfl,r⟩
section
variable{X:Cx}{pins:List (Addr×Obj)}{σ:St}{H:Hp}{s:Shared}{l b:Addr}{xs ys zs:List V}
theorem Inv.lset{its its':List Value}{n:Nat}{f:Array Value->Array Value}{t':Nat}(I:Inv X pins σ H s)(hH:H l=some (.lst xs))
  (e:s.heap.get? l=some { cls:=.type "list",data:=.seq its.toArray n }) (hf:f its.toArray=its'.toArray) (hv:Vals ys its') (hz:ys.length≤sizeLine) :
  Inv X pins σ (upd H l (.lst ys)) { s with heap:=s.heap.update l (Obj.mapSeq f),toks:=t' }:=by
 have q:=PySem.IsL.update e f;rw[hf]at q;refine I.write (x:=l) (e:=l) (by rw[hH];exact trivial) (.inl rfl) (fun b' u hb hu=>(Ao s.heap (Obj.mapSeq f) (Ne.symm hb)).trans hu) ⟨_,q⟩ ?_;exact⟨hz,its',_,hv,q⟩
theorem Inv.lnew{its:List Value}{t':Nat}(I:Inv X pins σ H s)(hv:Vals ys its)(hz:ys.length≤sizeLine) :
  Inv X pins σ (upd H s.heap.objs.size (.lst ys)) { s with heap:=s.heap.push { cls:=.type "list",data:=.seq its.toArray },toks:=t' } :=
 I.laid (fun _ _ q=>AD _ q) (AG _) ⟨hz,its,0,hv,AW _ rfl⟩
theorem Inv.fresh(I:Inv X pins σ H s):H s.heap.objs.size=none:=I.hok.fresh (AG _)
theorem Inv.lstM(I:Inv X pins σ H s)(hH:H l=some (.lst xs)):xs.length≤sizeLine∧∃(its:List Value) (n:Nat),Vals xs its∧xs.length=its.length∧s.heap.get? l=some { cls:=.type "list",data:=.seq its.toArray n }:=by obtain⟨z,its,n,r,e⟩:=I.hok l _ hH;exact⟨z,its,n,r,r.length,e⟩
end
section
variable{X:Cx}
def qHT:V->List V->Hp->VK->Prop:=fun x vs H Q=>∃l xs y,x= .ref l∧vs=[y]∧H l=some (.lst xs)∧xs.length<sizeLine∧Q .non (upd H l (.lst (xs++[y])))
theorem jU:MtM X "list.append" qHT:=by
 intro pins s σ H x vs v us Q I rx rv h;obtain⟨l,xs,y,rfl,rfl,hH,hz,q⟩:=h;cases rx;obtain⟨u,rfl,ru⟩:=rv.one;obtain⟨z,its,n,r,hl,e⟩:=I.lstM hH;refine call_meets F.slot_list_append ⟨_,e,rfl⟩ F.entry_list_append (F.args_list_append_2 _ _) (PySem.list_append l its.toArray n u (by rw[AR];omega)) ⟨e,?_⟩;refine⟨.non,_,I.lset (its':=its++[u]) hH e (by simp) (r.append (.cons ru .nil)) ?_,rfl,q⟩;rw[AO,Am];omega
end
end L2
namespace Att
open PySem PySem.W PySem.Calls PyProof.Rows
theorem ym{P:Params}{h:Heap}:∀(ns:List Int) (vs:List Value),WellAll P h vs (ns.map WData.int)->IntsAre vs ns:=by
 intro ns;induction ns with
 |nil=>intro vs w;rw[List.map_nil]at w;cases w;exact .nil
 |cons n ns ih =>
  intro vs w;rw[Aa]at w;cases w with|cons a b=>cases a;exact .cons _ _ (ih _ b)
theorem qDH{l:OpenLaw}{n:Nat}(hn:l.most=some n){P:Params}{h:Heap}{args:List WData}{vals:List Value}
  (hpre:l.row.toRowW.claim.pre args=true) (hwl:WellAll P h vals args) :
  ∃a vs ns,vals=[Value.ref a]∧args=[WData.list (ns.map WData.int)]∧h.get? a=some { cls:=.type "list",data:=.seq vs.toArray }∧IntsAre vs ns∧ns.length≤n:=by
 have hsh:WShape.hasAll [] args [.list .int]=true:=(pre_splitW hpre).1;have hc:l.pre.holds [] { args:=args }=true:=(pre_splitW hpre).2;obtain⟨d,r,rfl,h1,h2⟩:=hasAllW_cons hsh;obtain rfl:=hasAllW_nil h2;obtain⟨xs,rfl,h3⟩:=hasW_list h1;obtain⟨ns,rfl⟩:=items_int h3;have hlen:ns.length≤n:=by
  unfold OpenLaw.pre at hc;have h4:(WTm.not (.lt (.lit (.int (n:Int))) (.len (.arg 0)))).holds [] { args:=[.list (ns.map .int)] }=true:=by have h4:=(holds_andW hc).1;rw[hn]at h4;exact h4
  have h5:=condW_of h4 (w_not (w_lt w_lit (w_len_list (w_arg rfl))));rw[AN]at h5;refine Nat.le_of_not_lt fun q=>?_;have q':(n:Int)<((ns.length:Nat):Int):=by omega
  first
   |(rw[AV q']at h5;exact absurd h5 (by decide))
   |(simp at h5;omega)
 cases hwl with
 |cons w1 w2 =>
  cases w2;cases w1 with|list ho hall=>exact⟨_,_,ns,rfl,rfl,ho,ym ns _ hall,hlen⟩
theorem qDf(l:OpenLaw)(args:List WData):l.row.toRowW.claim.post args (.bool true) args=true :=
 postW_of (r:=l.row.toRowW) (X:=(true==true))
  (show WShape.has [] (.bool true) .bool=true by first|rfl|decide|simp[WShape.has,WShape.arms,WShape.armsAll])
  (show (WTm.eq .res (.lit (.bool true))).value [] { args:=args,res:=some (.bool true),after:=args }=some (.bool (true==true)) from w_eq_bool (w_res rfl) w_lit) rfl
end Att
namespace L2
open PySem PySem.Spec PyProof.Rows
theorem jL:∀{vs:List Value} {ns:List Int},IntsAre vs ns->Vals (ns.map V.int) vs|_,_,.nil=>.nil|_,_,.cons n t h=>.cons ⟨t,rfl⟩ (jL h)
def qIf(H:Hp):Prop:=∀b,H b=none∨∃o xs,H b=some (.frz o (.lst xs))
theorem qF4{P:Program}{w:World}{K:W.Frag}{mg mb:Str->Option Value}{CX:CXT}{k:Nat}{fa a:Addr}{fd:FuncData}{x:Str}{sp:Sp}{s₁:Shared}{vs:List Value}{ns:List Int}
  (KX:K.In s₁.heap) (hns:s₁.heap.Ns mainGlobals mg) (hb:s₁.heap.Ns builtinsNs mb) (hbb:∀x:Str,x ≠ "__name__" ->mb x=bootBuiltins x) (hlim:s₁.heap.NoLimit) (hg:s₁.gens = #[])
  (ha:s₁.heap.get? a=some { cls:=.type "list",data:=.seq vs.toArray }) (hi:IntsAre vs ns) (hl:ns.length≤sizeLine) (hr:Room k callerA)
  (F:∀base:Heap,K.In base->base.Ns mainGlobals mg->FnOk P w K mg base CX k fa fd [x] sp) (hbind:∀(s:Shared) (u:Value),BindsTo s fd ⟨[u],[]⟩ [(x,u)])
  (hsp:∀H:Hp,qIf H->SqL K H a (ns.map V.int)->sp [.ref a] H (fun v _=>v= .bl true) fun _ _ _=>False)
  (hCX:∀H e s',CX [] H s₁ (fun _ _ _=>False) e s'->False) :
  codeAny (model P w) callerA (.call (.ref fa) ⟨[.ref a],[]⟩) (fun r s'=>r= .ok (.ret (.bool true))∧OldK s₁.heap s'.heap∧s'.os=s₁.os∧AllBare s'.gens) s₁:=by
 have rv:=jL hi;have lenV:=hi.length
 -- from an abstract heap in which nothing but the script may be tracked
 have core:∀H:Hp,qIf H->SqL K H a (ns.map V.int)->HOk P w H s₁.heap->(∀b,H b≠none->b=a)->(H a≠none->K.lookup a=none) ->
   codeAny (model P w) callerA (.call (.ref fa) ⟨[.ref a],[]⟩) (fun r s'=>r= .ok (.ret (.bool true))∧OldK s₁.heap s'.heap∧s'.os=s₁.os∧AllBare s'.gens) s₁:=by
  intro H hO hS hok hA hK;have base_of:∀{b:Addr} {o:Obj},s₁.heap.get? b=some o->H b=none->(jw s₁.heap H).get? b=some o:=fun e n=>qFY e n;have noA:∀{b:Addr} {o:Obj} {es:Array DictEntry} {ep:Nat},s₁.heap.get? b=some o->o.data= .dict es ep->H b=none:=fun {b o es ep} e d=>by
   cases q:H b with
   |none=>rfl
   |some u =>
    have e':b=a:=hA b (by rw[q];simp);subst e';rw[ha]at e;cases e;have d':Data.seq vs.toArray _=Data.dict es ep:=d;cases d'
  have nsK:∀{b:Addr} {m:Str->Option Value},s₁.heap.Ns b m->(jw s₁.heap H).Ns b m:=fun {b m} ⟨o,es,ep,e,d,r⟩=>⟨o,es,ep,base_of e (noA e d),d,r⟩;have hKb:K.In (jw s₁.heap H):=fun b o e=>base_of (KX b o e) (by
   cases q:H b with
   |none=>rfl
   |some u =>
    have e':b=a:=hA b (by rw[q];simp);subst e';rw[hK (by rw[q];simp)]at e;cases e)
  have hM:Mod K mg (jw s₁.heap H):=⟨hKb,nsK hns,⟨mb,nsK hb,hbb⟩,let ⟨mc,h1,h2⟩:=hlim;⟨mc,nsK h1,h2⟩⟩;have e0:Env0 P w K mg (jw s₁.heap H) callerA [] s₁ H:=⟨rfl,hM,fun b o e=>qGi e,Nat.le_of_eq (qDV _ _),trivial,fun b hb=>absurd (show b∈([]:List Addr) from hb) (by simp),hok,.of_eq hg,HndH.none rfl⟩;refine codeAny_mono ((F _ hKb (nsK hns)).run callerA [] s₁ H ⟨[.ref a],[]⟩ [.ref a] [.ref a] _ _ hr e0 (hbind s₁ (.ref a)) (.cons rfl .nil) (hsp H hO hS)) fun r s' h=>?_;cases r with
  |error e=>exact (hCX H e s' h).elim
  |ok fl =>
   cases fl with
   |next=>exact False.elim h
   |brk=>exact False.elim h
   |cont=>exact False.elim h
   |ret u =>
    obtain⟨v,H',os,bare,un,hok',r',q⟩:=h;have q':v= .bl true:=q;subst q';obtain rfl:u=Value.bool true:=r';refine⟨rfl,OldK.of_keep fun b o e=>?_,os,bare⟩;cases q:H b with
    |none=>exact un.keep b o e q (by intro z;exact absurd (show b∈([]:List Addr) from z) (by simp)) (by simp)
    |some u =>
     rcases hO b with z|⟨ob,xs,z⟩
     ·rw[q]at z;cases z
     ·have z2:=un.frzs b ob _ z;obtain⟨e1,_⟩:=hok b _ z;obtain⟨e2,_⟩:=hok' b _ z2;rw[e]at e1;cases e1;exact e2
 cases hk:K.lookup a with
 |some o =>
  -- the script is one of the module's own objects
  have e:=KX a o hk;rw[ha]at e;cases e;refine core (fun _=>none) (fun _=>.inl rfl) (.inr ⟨_,vs.toArray,_,hk,rfl,rfl,rfl,by rw[AR,lenV];exact hl,by simpa using rv⟩) (fun b u z=>by have z':(none:Option HO)=some u:=z;cases z') (fun b z=>absurd rfl z) fun z=>absurd rfl z
 |none =>
  refine core (fun b=>if b=a then some (.frz { cls:=.type "list",data:=.seq vs.toArray } (.lst (ns.map V.int))) else none) (fun b=>?_) (.inl (.inr ⟨{ cls:=.type "list",data:=.seq vs.toArray },AE rfl⟩)) (fun b u z=>?_) (fun b z=>?_) fun _=>hk
  ·by_cases hb:b=a;exact .inr ⟨_,_,AE hb⟩;exact .inl (AF hb)
  ·by_cases hb:b=a;have z':=(AE hb).symm.trans z;cases z';subst hb;exact⟨ha,by rw[AN];exact hl,vs,_,rv,ha⟩;have z':=(AF hb).symm.trans z;cases z'
  ·by_cases hb:b=a;exact hb;exact absurd (AF hb) z
end L2
namespace L2
open PySem PySem.Spec PyProof.Rows
end L2
namespace L2
open PySem PySem.Spec PyProof.Rows
def qa(s:Stmt):Arguments:=match s with| .FunctionDef _ a _ _ _ _ _ _ _ _=>a|_=>{ posonlyargs:=[],args:=[],vararg:=none,kwonlyargs:=[],kw_defaults:=[],kwarg:=none,defaults:=[] }
def qY(s:Stmt):List Stmt:=match s with| .FunctionDef _ _ b _ _ _ _ _ _ _=>b|_=>[]
def qI(s:Stmt):Scope:=match s with| .FunctionDef _ _ _ _ _ _ sc _ _ _=>sc|_=>{ kind:=.function,names:=[],isGenerator:=false,isCoroutine:=false }
abbrev E0:XK:=fun _ _ _=>False
structure Fun (K:W.Frag) (x qual:Str) (st:Stmt) (f:Addr) (fd:FuncData):Prop where
 ex:∃(oc:Value) (od:Option Addr) (kV doc pm:Value) (an:Option Addr) (cdv ct:Value) (osl:Array (Option Value)),
  fd=W.fnOf x qual (qa st) (qY st) (qI st) .none kV doc pm an cdv ct∧K.lookup f=some ⟨oc,od,.func fd,osl⟩∧W.codeIn K cdv qual=true
 kp:W.keepIn K (.ref f)=true
section
variable{P:Program}{w:World}{K:W.Frag}{mg:Str->Option Value}{base:Heap}
theorem Fun.binds{x qual:Str}{st:Stmt}{f:Addr}{fd:FuncData}{ps:List Str}(F:Fun K x qual st f fd)
  (h:∀(kV doc pm:Value) (an:Option Addr) (cdv ct:Value) (us:List Value),us.length=ps.length->bindArgs (W.fnOf x qual (qa st) (qY st) (qI st) .none kV doc pm an cdv ct) ⟨us,[]⟩=pure (ps.zip us)):Binds K fd ps []:=by obtain⟨oc,od,kV,doc,pm,an,cdv,ct,osl,rfl,lk,hcd⟩:=F.ex;exact .all (h kV doc pm an cdv ct)
theorem qw{x qual:Str}{st:Stmt}{f:Addr}{oc:Value}{od an:Option Addr}{osl:Array (Option Value)}{kV doc pm cdv ct:Value}(l:K.lookup f=some ⟨oc,od,.func (W.fnOf x qual (qa st) (qY st) (qI st) .none kV doc pm an cdv ct),osl⟩)
  (c:W.codeIn K cdv qual=true) (k:W.keepIn K (.ref f)=true):Fun K x qual st f (W.fnOf x qual (qa st) (qY st) (qI st) .none kV doc pm an cdv ct):=⟨⟨oc,od,kV,doc,pm,an,cdv,ct,osl,rfl,l,c⟩,k⟩
end
section
variable{X:Cx}
theorem pv(i:Nat){x:Str}{pos:Pos}(hN:X.N[i]? = some x:=by rfl)(hv:Vis X.env.scope x:=by first|exact Or.inl rfl|exact Or.inr (Or.inl rfl)|exact Or.inr (Or.inr rfl))(hd:(x==("__debug__":Str))=false:=by decide)
  (hcd:(x==("__classdict__":Str))=false:=by decide):PE X (.Name x pos) (jE i):=ZL hN hv hd hcd
end
theorem qDW{A B:Prop}(h:B):if false=true then A else B:=by rw[AF Bd];exact h
theorem qD1{A B:Prop}(h:A):if true=true then A else B:=by rw[AE rfl];exact h
def Same(H H':Hp):Prop:=∀b o,H b=some o->H' b=some o
theorem Same.refl(H:Hp):Same H H:=fun _ _ h=>h
end L2
end
section
namespace L2
open PySem PySem.Spec PyProof.Rows
section
variable{κ:Type}[DecidableEq κ]
def qBw(kvs:List (κ×V))(k:κ):Option V:=(kvs.find? fun kv=>decide (kv.1=k)).map (·.2)
def Zp(kvs:List (κ×V))(k:κ)(v:V):List (κ×V) :=
 if (kvs.any fun kv=>decide (kv.1=k))=true then kvs.map (fun kv=>if kv.1=k then (kv.1,v) else kv) else kvs++[(k,v)]
theorem J6{p:κ×V}{r:List (κ×V)}{k:κ}(e:p.1=k):qBw (p::r) k=some p.2:=by simp[qBw,List.find?_cons,e]
theorem Jp{p:κ×V}{r:List (κ×V)}{k:κ}(e:¬p.1=k):qBw (p::r) k=qBw r k:=by simp[qBw,List.find?_cons,e]
theorem Jm(k:κ):∀kvs:List (κ×V),(kvs.any fun kv=>decide (kv.1=k))=(qBw kvs k).isSome
 |[]=>rfl
 |p::r=>by
  rw[List.any_cons];by_cases e:p.1=k;simp only[J6 e,AV e,Bool.true_or,Option.isSome_some];rw[Jp e,AY e,Bool.false_or];exact Jm k r
theorem yj(kvs:List (κ×V))(k:κ)(v:V):(Zp kvs k v).length≤kvs.length+1:=by
 unfold Zp;split;rw[AN];omega;rw[AO,AJ,Bs];omega
theorem RelO.isSome_eq{o:Option V}{u:Option Value}(r:RelO o u):o.isSome=u.isSome:=by
 cases o with
 |none=>cases u with|none=>rfl|some _=>exact (show False from r).elim
 |some _=>cases u with|none=>exact (show False from r).elim|some _=>rfl
theorem KV.any{kvs:List (κ×V)}{vs:List (κ×Value)}(r:KV kvs vs)(k:κ):(kvs.any fun kv=>decide (kv.1=k))=vs.any fun kv=>decide (kv.1=k):=by
 unfold KV at r;induction r with|nil=>rfl|cons h t ih=>rw[List.any_cons,List.any_cons,ih,h.1]
theorem KV.repl{kvs:List (κ×V)}{vs:List (κ×Value)}(r:KV kvs vs)(k:κ){y:V}{u:Value}(ry:RelV y u) :
  KV (kvs.map fun kv=>if kv.1=k then (kv.1,y) else kv) (vs.map fun kv=>if kv.1=k then (kv.1,u) else kv):=by
 unfold KV at r ⊢;induction r with
 |nil=>exact .nil
 | @cons p q ps qs h t ih =>
  rw[Aa,Aa];refine .cons ?_ ih;obtain⟨h1,h2⟩:=h;by_cases e:p.1=k;rw[AE e,AE (h1.symm.trans e)];exact⟨h1,ry⟩;rw[AF e,AF (fun z=>e (h1.trans z))];exact⟨h1,h2⟩
theorem KV.put{kvs:List (κ×V)}{vs:List (κ×Value)}(r:KV kvs vs)(k:κ){y:V}{u:Value}(ry:RelV y u):KV (Zp kvs k y) (stored vs k u):=by
 unfold Zp stored;rw[r.any k];by_cases e:(vs.any fun kv=>decide (kv.1=k))=true;rw[AE e,AE e];exact r.repl k ry;rw[AF e,AF e];exact Paired.snoc r ⟨rfl,ry⟩
theorem KV.length{kvs:List (κ×V)}{vs:List (κ×Value)}(r:KV kvs vs):kvs.length=vs.length:=Paired.length r
end
theorem qIA{P:Program}{w:World}{k:Key}{u:Value}(r:RelV (kV k) u):(wJ P w).is k u=true:=by
 cases k with|inl i=>obtain⟨t,e⟩:=(show ∃t,u=Value.int i t from r);subst e;exact J9 P w i t|inr x=>obtain⟨t,e⟩:=(show ∃t,u=Value.str x t from r);subst e;exact qAT P w x t
theorem jN{P:Program}{w:World}:∀{ks:List Key} {us:List Value},Vals (ks.map kV) us->ItemsAre (wJ P w) ks us
 |[],_,r=>by rw[List.map_nil]at r;cases r;exact .nil
 |k::ks,_,r=>by
  rw[Aa]at r;cases r with|cons h t=>exact .cons (qIA h) (jN t)
abbrev KT(H:Hp):List (List Key×V)->List (List Key×Addr×Value)->Prop:=Paired fun p q=>p.1=q.1∧H q.2.1=some (.tup (p.1.map kV))∧RelV p.2 q.2.2
theorem KT.val{H:Hp}{kvs:List (List Key×V)}{xs:List (List Key×Addr×Value)}(r:KT H kvs xs)(k:List Key):RelO (qBw kvs k) ((atKey xs k).map (·.2)):=by
 induction r with
 |nil=>exact True.intro
 | @cons p q ps qs h t ih =>
  obtain⟨h1,_,h2⟩:=h;by_cases e:p.1=k
  ·have e':q.1=k:=h1.symm.trans e;have b:atKey (q::qs) k=some q.2:=by simp[atKey,List.find?_cons,e']
   rw[J6 e,b];exact h2
  ·have e':¬q.1=k:=fun z=>e (h1.trans z);have b:atKey (q::qs) k=atKey qs k:=by simp[atKey,List.find?_cons,e']
   rw[Jp e,b];exact ih
theorem KT.repl{H:Hp}{kvs:List (List Key×V)}{xs:List (List Key×Addr×Value)}(r:KT H kvs xs)(k:List Key){y:V}{u:Value}(ry:RelV y u) :
  KT H (kvs.map fun kv=>if kv.1=k then (kv.1,y) else kv) (xs.map (putAt k u)):=by
 induction r with
 |nil=>exact .nil
 | @cons p q ps qs h t ih =>
  rw[Aa,Aa];refine .cons ?_ ih;obtain⟨h1,h2,h3⟩:=h;unfold putAt;by_cases e:p.1=k;rw[AE e,AE (h1.symm.trans e)];exact⟨h1,h2,ry⟩;rw[AF e,AF (fun z=>e (h1.trans z))];exact⟨h1,h2,h3⟩
theorem KT.put{H:Hp}{kvs:List (List Key×V)}{xs:List (List Key×Addr×Value)}(r:KT H kvs xs)(k:List Key){b:Addr}{y:V}{u:Value}(hb:H b=some (.tup (k.map kV)))(ry:RelV y u) :
  KT H (Zp kvs k y) (storedH xs k b u):=by
 have e:(kvs.any fun kv=>decide (kv.1=k))=(atKey xs k).isSome:=by rw[Jm,(r.val k).isSome_eq,Option.isSome_map]
 unfold Zp storedH;rw[e];by_cases q:(atKey xs k).isSome=true;rw[AE q,AE q];exact r.repl k ry;rw[AF q,AF q];exact Paired.snoc r ⟨rfl,hb,ry⟩
theorem KT.keeps{H H':Hp}{kvs:List (List Key×V)}{xs:List (List Key×Addr×Value)}(r:KT H kvs xs)(ht:∀b ys,H b=some (.tup ys)->H' b=some (.tup ys)):KT H' kvs xs :=
 Paired.mapP r fun _ _ z=>⟨z.1,ht _ _ z.2.1,z.2.2⟩
section
variable{P:Program}{w:World}{H:Hp}{h:Heap}{a:Addr}
theorem qIM{u:HO}(ok:HOk P w H h)(e:Rd H a u):ObjOk P w H h a u:=e.ok ok
theorem qKm{kvs:List (Key×V)}(ok:HOk P w H h)(e:Rd H a (.dK kvs)):kvs.length≤sizeLine∧(a==sysModules)=false∧∃vs,KV kvs vs∧h.DictOf (wJ P w) a vs :=
 show ObjOk P w H h a (.dK kvs) from qIM ok e
theorem qKv{kvs:List (Key×V)}(ok:HOk P w H h)(e:H a=some (.dK kvs)):kvs.length≤sizeLine∧(a==sysModules)=false∧∃vs,KV kvs vs∧h.DictOf (wJ P w) a vs:=qKm ok (.inl e)
theorem qFk{ks:List Key}(ok:HOk P w H h)(e:H a=some (.tup (ks.map kV))):(tupleKind (wJ P w)).is h ks a:=by obtain⟨_,its,r,o,h1,h2,n,h3⟩:=(show ObjOk P w H h a (.tup (ks.map kV)) from ok a _ e);exact⟨o,its.toArray,n,h1,h2,h3,by simpa using jN r⟩
theorem qKV{kvs:List (List Key×V)}(ok:HOk P w H h)(e:Rd H a (.dT kvs)):kvs.length≤sizeLine∧(a==sysModules)=false ∧
  ∃xs,KT H kvs xs∧h.DictOfH (tupleKind (wJ P w)) a xs:=by
 obtain⟨z,y,xs,r,o,es,ep,h1,h2,h3,h4,h5⟩:=(show ObjOk P w H h a (.dT kvs) from qIM ok e);refine⟨z,y,xs,r,o,es,ep,h1,h2,h3,h4,fun x hx=>?_,h5⟩;have all:∀{l:List (List Key×V)} {m:List (List Key×Addr×Value)},KT H l m->∀x∈m,(tupleKind (wJ P w)).is h x.1 x.2.1:=by
  intro l m q;induction q with
  |nil=>intro x hx;exact nomatch hx
  | @cons p q ps qs hq t ih =>
   intro x hx;rcases AH.mp hx with e|hx
   ·subst e;exact qFk ok (by rw[←hq.1];exact hq.2.1)
   ·exact ih x hx
 exact all r x hx
theorem qK3{kvs:List (List Key×V)}(ok:HOk P w H h)(e:H a=some (.dT kvs)):kvs.length≤sizeLine∧(a==sysModules)=false ∧
  ∃xs,KT H kvs xs∧h.DictOfH (tupleKind (wJ P w)) a xs:=qKV ok (.inl e)
end
def DPut(H:Hp)(a:Addr)(y v:V)(H':Hp):Prop :=
 (∃kvs k,H a=some (.dK kvs)∧y=kV k∧kvs.length<sizeLine∧H'=upd H a (.dK (Zp kvs k v))) ∨
 ∃kvs k b,H a=some (.dT kvs)∧y= .ref b∧H b=some (.tup (k.map kV))∧kvs.length<sizeLine∧H'=upd H a (.dT (Zp kvs k v))
theorem DPut.t{H:Hp}{a b:Addr}{kvs:List (List Key×V)}{k:List Key}{v:V}(e:H a=some (.dT kvs))(eb:H b=some (.tup (k.map kV)))(hl:kvs.length<sizeLine) :
  DPut H a (.ref b) v (upd H a (.dT (Zp kvs k v))):=.inr ⟨kvs,k,b,e,rfl,eb,hl,rfl⟩
section
variable{X:Cx}{pins:List (Addr×Obj)}{σ:St}{H:Hp}{s:Shared}{a:Addr}{y v:V}{u r:Value}{o:Option V}{A:Around}{E:Value->Shared->Prop}
theorem Inv.big(I:Inv X pins σ H s):sysModules<s.heap.objs.size:=by have h:mainGlobals<s.heap.objs.size:=(I.mod.glob.keeps I.bk).lt;exact CU (by decide) h
theorem qCo{h':Heap}{t':Nat}{ob:HO}(I:Inv X pins σ H s)(mu:Mut (H a))(hs:Heap.SameBut a s.heap h')(he:∃q,h'.get? a=some q)(new:ObjOk X.prog X.w (upd H a ob) h' a ob) :
  Inv X pins σ (upd H a ob) { s with heap:=h',toks:=t' } :=
 I.write (x:=a) (e:=a) mu (.inl rfl) (fun b q hb z=>(hs.2 b hb).trans z) he new
theorem qJR{P:Program}{w:World}{H':Hp}{h':Heap}{kvs:List (Key×V)}{vs:List (Key×Value)}(z:kvs.length≤sizeLine)(hd:(a==sysModules)=false)(rel:KV kvs vs)(dd:h'.DictOf (wJ P w) a vs) :
  ObjOk P w H' h' a (.dK kvs):=⟨z,hd,vs,rel,dd⟩
theorem qDI{H':Hp}{Q:Unit->Shared->Prop}(hu:A.units+1<cLine)(I:Inv X pins σ H s)(g:DPut H a y v H')(ry:RelV y u)(rv:RelV v r)(h:∀s',Inv X pins σ H' s'->Q () s') :
  wpAny (model X.prog X.w) A (setItem (.ref a) u r) Q E s:=by
 rcases g with⟨kvs,k,e,ey,l,eH⟩|⟨kvs,k,b,e,ey,eb,l,eH⟩
 ·subst ey eH;obtain⟨z,hd,vs,rel,dd⟩:=qKv I.hok e;have hz:vs.length≤sizeLine:=by rw[←rel.length];exact z
  have hl:(Zp kvs k v).length≤sizeLine:=by have:=yj kvs k v;omega
  refine wpAny_setItem_pairs (hsz:=hz) (qIA ry) dd fun h' dd' hs=>h _ ?_;have he:∃q,h'.get? a=some q:=let ⟨q,_,_,hq,_⟩:=dd';⟨q,hq⟩
  exact qCo I (by rw[e];exact True.intro) hs he (qJR hl hd (rel.put k rv) dd')
 ·subst ey eH;cases (show u=Value.ref b from ry);obtain⟨z,hd,xs,rel,dd⟩:=qK3 I.hok e;have hz:xs.length≤sizeLine:=by rw[←Paired.length rel];exact z
  have hl:(Zp kvs k v).length≤sizeLine:=by have:=yj kvs k v;omega
  refine wpAny_setItem_heap (hsz:=hz) (tupleKind_room_in1 hu) (qFk I.hok eb) dd fun h' dd' hs=>h _ ?_;obtain⟨q,es,ep,hq,h2,h3,h4,_,h5⟩:=dd';refine qCo I (by rw[e];exact True.intro) hs ⟨q,hq⟩ ⟨hl,hd,_,(rel.put k eb rv).keeps fun c ys ec=>?_,q,es,ep,hq,h2,h3,h4,h5⟩;rw[qT (qKj ec e (fun z=>nomatch z))];exact ec
end
def qKw(td ty tv:TE):TS:=fun D σ H=>tv σ H fun v H1=>td σ H1 fun x H2=>ty σ H2 fun y H3=>∃a H4,x= .ref a∧DPut H3 a y v H4∧D.nx σ H4
section
variable{X:Cx}{o i e value:Expr}{pos pos' tpos:Pos}{td ty tv:TE}
theorem qG0(hu:X.A.units+1<cLine)(ho:PE X o td)(hi:PE X i ty)(hv:PE X value tv)(hs:swapsWith value (some (.Subscript o i pos')) pos.line X.env=pure false) :
  PS X (.Assign [.Subscript o i pos'] value pos) (qKw td ty tv):=by intro pins s σ H D I h;refine wpAny_Assign_Subscript (thn (hv pins s σ H _ I h) fun r s1 ⟨v,H1,I1,rv,q1⟩=>thn (ho pins s1 σ H1 _ I1 q1) fun u s2 ⟨x,H2,I2,rx,q2⟩=>thn (hi pins s2 σ H2 _ I2 q2) fun iv s3 ⟨y,H3,I3,ry,a,H4,ex,g,q3⟩=>?_) hs;subst ex;obtain rfl:u=Value.ref a:=rx;exact qDI hu I3 g ry rv fun s4 I4=>⟨σ,H4,I4,q3⟩
end
theorem qF9{P:Program}{w:World}{H:Hp}(h:Heap)(hb:sysModules<h.objs.size):ObjOk P w H (h.push { cls:=.type "dict",data:=.dict #[] }) h.objs.size (.dK []) :=
 ⟨A6 _,AC.mpr (Ne.symm (Ab hb)),[],.nil,Heap.DictOf.new h⟩
theorem qEg{P:Program}{w:World}{H:Hp}(h:Heap)(hb:sysModules<h.objs.size):ObjOk P w H (h.push { cls:=.type "dict",data:=.dict #[] }) h.objs.size (.dT []) :=
 ⟨A6 _,AC.mpr (Ne.symm (Ab hb)),[],.nil,_,#[],0,AW _ rfl,⟨rfl,rfl,rfl⟩,rfl,rfl,List.nodup_nil⟩
def qJa:TE:=fun _ H Q=>∀p,H p=none->Q (.ref p) (upd H p (.dK []))
def qJo:TE:=fun _ H Q=>∀p,H p=none->Q (.ref p) (upd H p (.dT []))
section
variable{X:Cx}{pos:Pos}
theorem qEv:PE X (.Dict [] [] pos) qJa:=fun pins s σ H Q I h =>
 wpAny_Dict_empty ⟨.ref s.heap.objs.size,_,I.laid (a:=s.heap.objs.size) (o:=.dK []) (t':=s.toks) (fun _ _ q=>AD _ q) (AG _) (qF9 s.heap I.big),rfl,h _ (I.hok.fresh (AG _))⟩
theorem qFa:PE X (.Dict [] [] pos) qJo:=fun pins s σ H Q I h =>
 wpAny_Dict_empty ⟨.ref s.heap.objs.size,_,I.laid (a:=s.heap.objs.size) (o:=.dT []) (t':=s.toks) (fun _ _ q=>AD _ q) (AG _) (qEg s.heap I.big),rfl,h _ (I.hok.fresh (AG _))⟩
end
end L2
namespace L2
open PySem PySem.Spec PyProof.Rows
end L2
end
section
namespace EX
open PySem PySem.Spec PyProof.Rows
def Trc(h B:Heap)(e:Addr)(cls:Value)(dd:Option Addr)(fl:Value):Prop :=
 ∃oe vs T oT ts,h.get? e=some oe∧oe.cls=cls∧oe.dict=dd∧oe.data= .fields vs∧vs[1]? = some (Value.ref T)∧vs[2]? = some Value.none∧B.get? T=none∧T≠e∧h.get? T=some oT∧oT.data= .fields ts∧ts[3]? = some fl
def Fly(B:Heap)(l:List Env)(e:Addr)(cls:Value)(dd:Option Addr)(fl:Value)(h:Heap):Prop:=B.StaysIn h∧B.get? e=none∧h.FunFrames B l∧Trc h B e cls dd fl
theorem Fly.tail{B h:Heap}{env:Env}{l:List Env}{e:Addr}{cls fl:Value}{dd:Option Addr}(x:Fly B (env::l) e cls dd fl h):Fly B l e cls dd fl h:=⟨x.1,x.2.1,x.2.2.1.2.2,x.2.2.2⟩
section
variable{M:Model}{A:Around}{E:Value->Shared->Prop}{s:Shared}{B:Heap}{env:Env}{outer:List Env}{L e:Addr}{cls:Value}{dd:Option Addr}{Q:Unit->Shared->Prop}
theorem Jj{oe:Obj}{vs:Array Value}{head:Value}{nx:Bool}(f1:A.frames=some (env::outer))(f2:s.heap.FunFrames B (env::outer))(f3:env.frame=some L)(k1:B.StaysIn s.heap)(k2:B.get? e=none)
  (g1:s.heap.get? e=some oe) (g2:oe.data= .fields vs) (g3:1<vs.size) (g4:vs[2]? = some Value.none) (h:∀h',Fly B (env::outer) e oe.cls oe.dict (rawInt L) h'->s.heap.UpToSlots h'->Q () { s with heap:=h' }) :
  wpAny M A (do let a ← frameOf env;let pl ← entryPlaceOf L nx;let b ← EntryCells.newEntry head a .none (rawInt L) .none pl;setField (.ref e) 1 b) Q E s:=by
 have nfr:e∉(env::outer).filterMap (·.frame):=fun hm=>by obtain⟨_,o,ho,hnf⟩:=f2.mem hm;rw[g1]at ho;cases ho;exact hnf vs g2
 refine AA (wpAny_frameOf_fun f1 f2 f3 fun h1 so=>AA (wpAny_entryPlaceOf fun pl hpl=>?_));unfold EntryCells.newEntry newFields;refine AA (A8 ?_ (hpl.sizeOk5 _ _ _ _ _));generalize hts:([head,Value.ref L,.none,rawInt L,.none]++(if pl.isEmpty then List.replicate 6 Value.none else pl)).toArray=ts;have ht3:ts[3]? = some (rawInt L):=by rw[←hts];first|(simp;done)|(rcases hpl with rfl|⟨_,_,_,_,_,_,_,rfl⟩ <;> simp)
 have a1:h1.get? e=some oe:=(so.2.1 e nfr).trans g1;have kb:B.StaysIn h1:=fun b o q=>(so.2.1 b fun hm=>by rw[(f2.mem hm).1]at q;cases q).trans (k1 b o q);have a2:=AD (h:=h1) { cls:=.type "traceback",dict:=none,data:=.fields ts } a1;refine By a2 g2 g3 (h _ ?_ ?_)
 ·have ne1:h1.objs.size≠e:=Nat.ne_of_gt (AU a1);have d3:=CT g2 (·.setIfInBounds 1 (Value.ref h1.objs.size));have a3:=BD (Obj.mapFields (·.setIfInBounds 1 (Value.ref h1.objs.size))) a2 (Obj.isFreed_of_fields d3);have a4:=(Ao (h1.push { cls:=.type "traceback",dict:=none,data:=.fields ts }) (Obj.mapFields (·.setIfInBounds 1 (Value.ref h1.objs.size))) (Ne.symm ne1)).trans (AW h1 rfl);have kp:∀b o,b≠e->h1.get? b=some o->((h1.push { cls:=.type "traceback",dict:=none,data:=.fields ts }).update e (Obj.mapFields (·.setIfInBounds 1 (Value.ref h1.objs.size)))).get? b=some o:=fun b o hb q =>
   (Ao _ _ (Ne.symm hb)).trans (AD _ q)
  refine⟨fun b o q=>kp b o (fun z=>by rw[z,k2]at q;cases q) (kb b o q),k2,f2.of_keeps fun b o q nf=>?_,_,_,h1.objs.size,_,ts,a3,Obj.cls_mapFields _ _,?_,d3,?_,?_,kb.fresh,ne1,a4,rfl,ht3⟩;obtain⟨sl,q2⟩:=so.2.2 b o q;exact⟨_,kp b _ (fun z=>by rw[z,g1]at q;cases q;exact nf vs g2) q2,rfl⟩;obtain⟨c,d,dt,sl⟩:=oe;have g2:dt= .fields vs:=g2;subst g2;rfl;simp[g3];rw[Array.getElem?_setIfInBounds_ne (by decide)];exact g4
 ·intro b o q nf;have hb:b≠e:=fun z=>by rw[z,g1]at q;cases q;exact nf vs g2
  obtain⟨sl,q2⟩:=so.2.2 b o q;exact⟨sl,(Ao _ _ (Ne.symm hb)).trans (AD _ q2)⟩
theorem qA8{oe:Obj}{vs:Array Value}(f1:A.frames=some (env::outer))(f2:s.heap.FunFrames B (env::outer))(f3:env.frame=some L)(k1:B.StaysIn s.heap)(k2:B.get? e=none)
  (g1:s.heap.get? e=some oe) (g2:oe.data= .fields vs) (g3:vs[1]? = some Value.none) (g4:vs[2]? = some Value.none) (h:∀h',Fly B (env::outer) e oe.cls oe.dict (rawInt L) h'->s.heap.UpToSlots h'->Q () { s with heap:=h' }) :
  wpAny M A (noteFrame (.ref e) env) Q E s:=by
 unfold noteFrame;simp only[f3];refine AA (A4 g1 g2 g3 ?_);rw[AF (show ¬((Value.none != Value.none)=true) by decide)];exact Jj f1 f2 f3 k1 k2 g1 g2 (BZ.mp g3).1 g4 h
theorem jS(f1:A.frames=some (env::outer))(f3:env.frame=some L)(x:Fly B (env::outer) e cls dd .none s.heap)(h:∀h',Fly B (env::outer) e cls dd (rawInt L) h'->s.heap.UpToSlots h'->Q () { s with heap:=h' }) :
  wpAny M A (noteFrame (.ref e) env) Q E s:=by
 obtain⟨k1,k2,f2,oe,vs,T,oT,ts,g1,rfl,rfl,g2,g3,g4,t1,t2,t3,t4,t5⟩:=x;unfold noteFrame;simp only[f3];refine AA (A4 g1 g2 g3 ?_);rw[AE (show (Value.ref T != Value.none)=true by simp)];refine AA (A4 t3 t4 t5 ?_);rw[AF (show ¬((Value.none==rawInt L)=true) by simp[rawInt])];refine AA (By t3 t4 (BZ.mp t5).1 ?_);have ot:∀b,b≠T->(s.heap.update T (Obj.mapFields (·.setIfInBounds 3 Value.none))).get? b=s.heap.get? b:=fun b hb=>Ao _ _ (Ne.symm hb);have nr:∀b o,s.heap.get? b=some o->(∀us,o.data≠ .fields us)->b≠T:=fun b o q nf z=>by rw[z,t3]at q;cases q;exact nf ts t4
 refine Jj f1 (f2.of_keeps fun b o q nf=>⟨o,(ot b (nr b o q nf)).trans q,rfl⟩) f3 (fun b o q=>(ot b fun z=>by rw[z,t1]at q;cases q).trans (k1 b o q)) k2 ((ot e (Ne.symm t2)).trans g1) g2 (BZ.mp g3).1 g4 fun h' x u=>h h' x fun b o q nf=>?_;exact u b o ((ot b (nr b o q nf)).trans q) nf
theorem qCn{l:List Env}{fl:Value}(x:Fly B l e cls dd fl s.heap)(h:∀h',Fly B l e cls dd .none h'->s.heap.UpToSlots h'->Q () { s with heap:=h' }):wpAny M A (setFlight (.ref e) none) Q E s:=by
 obtain⟨k1,k2,f2,oe,vs,T,oT,ts,g1,g0,g00,g2,g3,g4,t1,t2,t3,t4,t5⟩:=x;have t6:3<ts.size:=(BZ.mp t5).1;have ot:∀b,b≠T->(s.heap.update T (Obj.mapFields (·.setIfInBounds 3 ((none:Option Addr).elim Value.none fun f=>rawInt f)))).get? b=s.heap.get? b:=fun b hb=>Ao _ _ (Ne.symm hb);have nr:∀b o,s.heap.get? b=some o->(∀us,o.data≠ .fields us)->b≠T:=fun b o q nf z=>by rw[z,t3]at q;cases q;exact nf ts t4
 unfold setFlight;refine AA (A4 g1 g2 g3 ?_);rw[AE (show (Value.ref T != Value.none)=true by simp)];refine By t3 t4 t6 (h _ ⟨fun b o q=>(ot b fun z=>by rw[z,t1]at q;cases q).trans (k1 b o q),k2,f2.of_keeps fun b o q nf=>⟨o,(ot b (nr b o q nf)).trans q,rfl⟩,?_⟩ fun b o q nf=>⟨o.slots,(ot b (nr b o q nf)).trans q⟩);exact⟨oe,vs,T,_,_,(ot e (Ne.symm t2)).trans g1,g0,g00,g2,g3,g4,t1,t2,BD _ t3 (Obj.isFreed_of_fields (CT t4 _)),CT t4 _,by simp[t6]⟩
theorem Zu{oe:Obj}{vs:Array Value}(f1:A.frames=some (env::outer))(f2:s.heap.FunFrames B (env::outer))(f3:env.frame=some L)(k1:B.StaysIn s.heap)(k2:B.get? e=none)
  (g1:s.heap.get? e=some oe) (g2:oe.data= .fields vs) (g3:vs[1]? = some Value.none) (g4:vs[2]? = some Value.none) (h:∀h',Fly B outer e oe.cls oe.dict .none h'->s.heap.UpToSlots h'->Q () { s with heap:=h' }) :
  wpAny M A (leaving env (.ref e)) Q E s:=by unfold leaving;exact AA (qA8 f1 f2 f3 k1 k2 g1 g2 g3 g4 fun h1 x1 u1=>qCn x1 fun h2 x2 u2=>h h2 x2.tail (u1.trans u2))
theorem qAW(f1:A.frames=some (env::outer))(f3:env.frame=some L)(x:Fly B (env::outer) e cls dd .none s.heap)(h:∀h',Fly B outer e cls dd .none h'->s.heap.UpToSlots h'->Q () { s with heap:=h' }) :
  wpAny M A (leaving env (.ref e)) Q E s:=by unfold leaving;exact AA (jS f1 f3 x fun h1 x1 u1=>qCn x1 fun h2 x2 u2=>h h2 x2.tail (u1.trans u2))
end
end EX
end
section
namespace EX
open PySem PySem.Spec PyProof.Rows L2
structure UnB (fs:List Addr) (H H1:Hp) (h B:Heap):Prop where
 keep:∀b o,h.get? b=some o->H b=none->b∉fs->B.get? b=some o
 free:∀b o,h.get? b=some o->H b=none->H1 b=none
 there:∀b o,h.get? b=some o->b∉fs->∃o',B.get? b=some o'
 tups:∀b xs,H b=some (.tup xs)->H1 b=some (.tup xs)
 frzs:∀b o u,H b=some (.frz o u)->H1 b=some (.frz o u)
 tbls:∀b ps,H b=some (.tbl ps)->∃more,H1 b=some (.tbl (ps++more))
def CXF(P:Program)(w:World):CXT:=fun outer H s E e s' =>
 ∃ea cls dd B H1,e=Value.ref ea∧Fly B outer ea cls dd .none s'.heap∧HOk P w H1 B∧s'.os=s.os∧AllBare s'.gens∧UnB (frs outer) H H1 s.heap B ∧
  (∀b∈frs outer,∀o,s.heap.get? b=some o->∃sl,s'.heap.get? b=some { o with slots:=sl })∧E cls dd H1
theorem Yn{env:Env}{outer:List Env}{L:Addr}(h:env.frame=some L):frs (env::outer)=L::frs outer:=by unfold frs;rw[A7,h]
theorem CXF.un{P:Program}{w:World}{outer:List Env}{H H1:Hp}{s s':Shared}{B:Heap}(hs:B.StaysIn s'.heap)(un:UnB (frs outer) H H1 s.heap B)(sl:∀b∈frs outer,∀o,s.heap.get? b=some o->∃sl,s'.heap.get? b=some { o with slots:=sl }) :
  Un (frs outer) [] H H1 s.heap s'.heap where
 keep:=fun b o e n hb _=>hs b o (un.keep b o e n hb)
 slot:=fun b o e n hb _=>sl b hb o e
 free:=fun b o e n _=>un.free b o e n
 there:=fun b o e _=>by
  by_cases hb:b∈frs outer;obtain⟨x,q⟩:=sl b hb o e;exact⟨_,q⟩;obtain⟨o',q⟩:=un.there b o e hb;exact⟨o',hs b o' q⟩
 tups:=un.tups
 frzs:=un.frzs
 tbls:=un.tbls
section
variable{P:Program}{w:World}{K:W.Frag}{mg:Str->Option Value}{base:Heap}{N:List Str}{qual:Str}{scope:Scope}{f:Addr}{cd:Value}{A:Around}{outer:List Env}{s₀:Shared}{H₀:Hp}{E:XK}
theorem qe:ZO (CXF P w) (Qq (CXF P w) P w K mg base N qual scope f cd A outer s₀ H₀ E) E:=by
 intro pins σ H s e s' I c;obtain⟨ea,cls,dd,B,H1,rfl,fl,hok,os,bare,un,sl,q⟩:=c;have hfr:(envOfC qual scope s₀.heap.objs.size f cd).frame=some s₀.heap.objs.size:=rfl;have ef:frs (Qq (CXF P w) P w K mg base N qual scope f cd A outer s₀ H₀ E).stack=s₀.heap.objs.size::frs outer:=Yn hfr;have Ib:Un (frs outer) [] H₀ H s₀.heap s.heap:=I.base;have ne:∀b o,s₀.heap.get? b=some o->b≠s₀.heap.objs.size:=fun b o e=>Ab (AU e);refine qAW I.ok.frames hfr fl fun h' x u=>⟨ea,cls,dd,B,H1,rfl,x,hok,os.trans I.os,bare,?_,fun b hb o e=>?_,q⟩
 ·refine⟨fun b o e n hb=>?_,fun b o e n=>?_,fun b o e hb=>?_,fun b xs e=>un.tups b xs (Ib.tups b xs e),fun b o u e=>un.frzs b o u (Ib.frzs b o u e),fun b ps e=>?_⟩;exact un.keep b o (Ib.keep b o e n hb (by simp)) (Ib.free b o e n (by simp)) (by rw[ef];intro z;exact (AH.mp z).elim (ne b o e) hb)
  ·obtain⟨o',e'⟩:=Ib.there b o e (by simp);exact un.free b o' e' (Ib.free b o e n (by simp))
  ·obtain⟨o',e'⟩:=Ib.there b o e (by simp);exact un.there b o' e' (by rw[ef];intro z;exact (AH.mp z).elim (ne b o e) hb)
  ·obtain⟨m1,e1⟩:=Ib.tbls b ps e;obtain⟨m2,e2⟩:=un.tbls b _ e1;exact⟨m1++m2,by rw[e2,Array.append_assoc]⟩
 ·obtain⟨sl1,e1⟩:=Ib.slot b o e (I.ok.frf b hb) hb (by simp);obtain⟨sl2,e2⟩:=sl b (by rw[ef];exact AI _ hb) _ e1;have nf:∀vs,o.data≠ .fields vs:=by obtain⟨_,o2,ho2,nf⟩:=I.ok.funs.mem hb;have e:(Qq (CXF P w) P w K mg base N qual scope f cd A outer s₀ H₀ E).s₀.heap.get? b=some o:=e;rw[e]at ho2;cases ho2;exact nf
  obtain⟨sl3,e3⟩:=u b _ e2 nf;exact⟨sl3,e3⟩
theorem qDM{pins:List (Addr×Obj)}{σ:L2.St}{H:Hp}{s:Shared}{h':Heap}{e:Addr}{oe:Obj}{vs:Array Value}{H1:Hp}{B0:Heap}(I:L2.Inv (Qq (CXF P w) P w K mg base N qual scope f cd A outer s₀ H₀ E) pins σ H s)(k:∀b o,s.heap.get? b=some o->h'.get? b=some o)(hn:s.heap.get? e=none)
  (g1:h'.get? e=some oe) (g2:oe.data= .fields vs) (g3:vs[1]? = some Value.none) (g4:vs[2]? = some Value.none) (q:E oe.cls oe.dict H):(Qq (CXF P w) P w K mg base N qual scope f cd A outer s₀ H₀ E).xe (.ref e) { s with heap:=h' }:=by
 have hfr:(envOfC qual scope s₀.heap.objs.size f cd).frame=some s₀.heap.objs.size:=rfl;have ef:frs (Qq (CXF P w) P w K mg base N qual scope f cd A outer s₀ H₀ E).stack=s₀.heap.objs.size::frs outer:=Yn hfr;have Ib:Un (frs outer) [] H₀ H s₀.heap s.heap:=I.base;have ne:∀b o,s₀.heap.get? b=some o->b≠s₀.heap.objs.size:=fun b o e=>Ab (AU e);generalize hB:W.hideAll s.heap (frs (Qq (CXF P w) P w K mg base N qual scope f cd A outer s₀ H₀ E).stack)=B;have toB:∀b o,s.heap.get? b=some o->b∉frs (Qq (CXF P w) P w K mg base N qual scope f cd A outer s₀ H₀ E).stack->B.get? b=some o:=fun b o e hb=>by rw[←hB];exact W.hideAll_get _ e hb
 have ofB:∀b o,B.get? b=some o->s.heap.get? b=some o:=fun b o e=>by rw[←hB]at e;exact W.of_hideAll _ e
 have trk:∀b u,H b=some u->b∉frs (Qq (CXF P w) P w K mg base N qual scope f cd A outer s₀ H₀ E).stack:=fun b u e z=>by rw[I.stkFree b z]at e;cases e
 have fun1:h'.FunFrames B (Qq (CXF P w) P w K mg base N qual scope f cd A outer s₀ H₀ E).stack:=by
  have:=W.funFrames_hide (as:=frs (Qq (CXF P w) P w K mg base N qual scope f cd A outer s₀ H₀ E).stack) I.stack fun env he a ha=>Bp.mpr ⟨env,he,ha⟩
  rw[hB]at this;exact this.of_keeps fun b o e _=>⟨o,k b o e,rfl⟩
 have eB:B.get? e=none:=by
  cases z:B.get? e with|none=>rfl|some o=>have:=ofB e o z;rw[hn]at this;cases this
 refine Zu (s:={ s with heap:=h' }) I.ok.frames fun1 hfr (fun b o z=>k b o (ofB b o z)) eB g1 g2 g3 g4 fun h2 x u=>⟨e,oe.cls,oe.dict,B,H,rfl,x,?_,I.os,I.bare,?_,fun b hb o e1=>?_,q⟩;exact fun b u e1=>(I.hok b u e1).stay (fun c v hc z=>toB c v z (hc.elim (fun z=>by rw[z];exact trk b u e1) fun z=>trk c _ z)) (fun _ z=>z) fun _ _ z=>z
 ·refine⟨fun b o e n hb=>?_,fun b o e n=>Ib.free b o e n (by simp),fun b o e hb=>?_,fun b xs e=>Ib.tups b xs e,fun b o u e=>Ib.frzs b o u e,fun b ps e=>Ib.tbls b ps e⟩;exact toB b o (Ib.keep b o e n hb (by simp)) (by rw[ef];intro z;exact (AH.mp z).elim (ne b o e) hb)
  ·obtain⟨o',e'⟩:=Ib.there b o e (by simp);exact⟨o',toB b o' e' (by rw[ef];intro z;exact (AH.mp z).elim (ne b o e) hb)⟩
 ·obtain⟨sl1,e2⟩:=Ib.slot b o e1 (I.ok.frf b hb) hb (by simp);have nf:∀vs,o.data≠ .fields vs:=by obtain⟨_,o2,ho2,nf⟩:=I.ok.funs.mem hb;have e1:(Qq (CXF P w) P w K mg base N qual scope f cd A outer s₀ H₀ E).s₀.heap.get? b=some o:=e1;rw[e1]at ho2;cases ho2;exact nf
  obtain⟨sl3,e3⟩:=u b _ (k b _ e2) nf;exact⟨sl3,e3⟩
end
section
variable{prog:Program}{w:World}{A:Around}{E:Value->Shared->Prop}{s:Shared}{K:W.Frag}{x D:Addr}{ox:Obj}{od:Option Obj}
structure ExcK (K:W.Frag) (D:Addr):Prop where
 ga:W.findIn K (.ref D) "__getattribute__" = some (some (.builtin "BaseException.__getattribute__"))
 gn:W.findIn K (.ref D) "__getattr__" = some none
 fo:∀od,W.findObj K D od "__class__" = some (.bind (.builtin "getset_descriptor.__get__") (.builtin "object.__class__"))
 mo:W.mroIn K D (.type "object")=some true
 mb:W.mroIn K D (.type "BaseException")=some true
theorem qC8{Q:Option Value->Shared->Prop}(C:ExcK K D)(X:K.In s.heap)(I:W.InstAt s.heap x ox D od)(h:Q (some (.ref D)) { s with toks:=s.toks+1 }):wpAny (model prog w) A (getAttr? (.ref x) "__class__") Q E s:=by
 obtain⟨hh,g,d,t,os⟩:=s;have L0:=I.type (M:=model prog w);have L1:=Bw (M:=model prog w) X C.ga;have L2:=Bw (M:=model prog w) X C.gn;have L3:=W.looks_find (M:=model prog w) X I (C.fo od);have L4:=B2 (M:=model prog w) X C.mb;have LI:W.Looks (model prog w) hh (isInstance (.ref x) (.type "BaseException")) true:=L0.andThen L4;have f3:=F.attr_ValueError.ga.bind (.ref x);unfold getAttr? getAttrBy? getAttrBy;refine AA (wpAny_mkText (AA (CK (Ak (AA (L0.at (AA (L1.at ?_))))))));show wpAny _ _ (getAttrByItsOwn _ _ _ _ _ _) _ _ _;unfold getAttrByItsOwn;refine AA (L2.at (AA (CK (Ak ?_))));show wpAny _ _ (boundAndCalled _ _ _) _ _ _;unfold boundAndCalled;refine AA (An f3 ?_);refine BY (BQ F.attr_ValueError.ga.plain F.entry_bexc_ga ?_);have hk:builtinKind "BaseException.__getattribute__" = some .slot:=by decide +kernel
 have hsp:splitId "BaseException.__getattribute__" = some ("BaseException","__getattribute__"):=by decide +kernel
 have ha:=F.args_bexc_ga (.ref x) (.str "__class__" t);simp only[checkBuiltinCall,hk,hsp];refine AA (LI.at ?_);rw[AF (show ¬((!true)=true) by decide)];refine An (a:=()) ha ?_;show wpAny _ A.in1 (Builtin.«object.__getattribute__» ⟨[.ref x,.str "__class__" t],[]⟩) _ _ _;unfold Builtin.«object.__getattribute__»;refine AA (AB ?_);refine AA (AB ?_);refine AA (L0.at (AA (L3.at ?_)));show wpAny _ A.in1 (holding [Value.builtin "object.__class__"] (call (.builtin "getset_descriptor.__get__") [.builtin "object.__class__",.ref x,.ref D]) >>= ret) _ _ _;refine AA (Ak (BY (W.class_get X I C.mo ?_)));exact AB (AB (AB h))
end
theorem qGn{K:W.Frag}{h:Heap}{C:Addr}{bmB:List Value}{newId:String}(X:K.In h)(q:W.excIn K C bmB newId=true) :
  ∃bm N nm qn bs hd sn sb ab co dd k0 k1 k2 k3 k5 mN,h.get? C=some (excClassObj nm qn C N bs bm hd sn sb ab co dd k0 k1 k2 k3 k5 newId)∧h.Ns N mN∧mN "__init__" = none∧OwnTail h bmB bm:=by
 unfold W.excIn at q;split at q
 ·rename_i dd cd sl ho;split at q
  ·rename_i C' bm k0 k1 k2 k3 n k5 hm hs;simp only[AX,BC,Bool.not_eq_true']at q;obtain⟨⟨⟨⟨⟨e1,e2⟩,e3⟩,e4⟩,e5⟩,e6⟩:=q;subst e1;subst e2;cases cd with
   |mk nm bs mro ns qn hd sn sb ab co del =>
    have hm:mro=_:=hm;have e3:del=false:=e3;subst hm;subst e3;have hsl:sl = #[k0,k1,k2,k3,some (.builtin n),k5]:=by cases sl with|mk l=>rw[show l=_ from hs]
    subst hsl;exact⟨bm,ns,nm,qn,bs,hd,sn,sb,ab,co,dd,k0,k1,k2,k3,k5,_,X _ _ ho,.of_isNs (W.isNs_of_in X e5),W.nsMap_none_of_in X e5 e6,W.tail_of_in X e4⟩
  ·cases q
 ·cases q
def Rz(X:Cx)(E:XK):Prop:=∀(pins:List (Addr×Obj)) (σ:L2.St) (H:Hp) (s:Shared) (h':Heap) (e:Addr) (oe:Obj) (vs:Array Value),L2.Inv X pins σ H s->(∀b o,s.heap.get? b=some o->h'.get? b=some o)->s.heap.get? e=none ->
 h'.get? e=some oe->oe.data= .fields vs->vs[1]? = some Value.none->vs[2]? = some Value.none->E oe.cls oe.dict H->X.xe (.ref e) { s with heap:=h' }
theorem qH8{P:Program}{w:World}{K:W.Frag}{mg:Str->Option Value}{base:Heap}{N:List Str}{qual:Str}{scope:Scope}{f:Addr}{cd:Value}{A:Around}{outer:List Env}{s₀:Shared}{H₀:Hp}{E:XK} :
  Rz (Qq (CXF P w) P w K mg base N qual scope f cd A outer s₀ H₀ E) E:=fun _ _ _ _ _ _ _ _ I k hn g1 g2 g3 g4 q=>qDM (H1:=H₀) (B0:=base) I k hn g1 g2 g3 g4 q
abbrev bmV:List Value:=[.type "ValueError",.type "Exception",.type "BaseException",.type "object"]
section
variable{X:Cx}{E:XK}{x:Str}{C:Addr}{e:Expr}{es:List Expr}{t:TA}{np cpos pos:Pos}
theorem qGA(hz:Rz X E)(hc:X.calm=true)(hg:Gl X x)(hm:X.mg x=some (.ref C))(q:W.excIn X.K C bmV "ValueError.__new__" = true)(ha:PA X (e::es) t)(hdb:(x==("__debug__":Str))=false:=by decide)
  (he:starEach (e::es) X.env=(false,eval e X.env)::starEach es X.env:=by rfl) (hpl:(backTo cpos (starEach es X.env)).any (·.1)=false:=by rfl) :
  PS X (.Raise (some (.Call (.Name x np) (e::es) [] cpos)) none pos) (fun D σ H=>t σ H fun vs H1=>vs.length≤sizeLine∧E (.ref C) none H1):=by
 intro pins s σ H D I h;obtain⟨bm,N,nm,qn,bs,hd,sn,sb,ab,co,dd,k0,k1,k2,k3,k5,mN,o1,o2,o3,o4⟩:=qGn I.ok.mod.kin q;refine wpAny_Raise_call_subU (C:=C) (nm:=nm) (q:=qn) (N:=N) (bs:=bs) (bm:=bm) (hdct:=hd) (sn:=sn) (sub:=sb) (ab:=ab) (col:=co) (dd:=dd) (k0:=k0) (k1:=k1) (k2:=k2) (k3:=k3) (k5:=k5) (mN:=mN)
  CF F.excBase_ValueError.hasB CF (o4.hasType F.excBase_ValueError.hasBase) (I.ok.hd hc) (by rw[he];show (false||(backTo cpos (starEach es X.env)).any (·.1))=false;rw[hpl];rfl) o3 (Zv I hg hm ⟨rfl,?_⟩ hdb)
 have ha':=ha cpos pins s σ H _ I h;rw[he]at ha' ⊢;refine Calls.evalArgs_plain (thn ha' fun us s1 ⟨vs,H1,I1,r1,q1,q2⟩=>⟨rfl,by rw[←r1.length];exact q1,I1.bk _ _ o1,o2.keeps I1.bk,o4.keeps I1.bk,fun h' ea hx=>?_⟩);obtain⟨tt,h1,_,_⟩:=hx.there;exact hz pins σ H1 s1 h' ea _ _ I1 hx.keeps hx.new h1 rfl rfl rfl q2
end
section
variable{M:Model}{A:Around}{E:Value->Shared->Prop}{K:W.Frag}{h:Heap}{g:Array GenState}{d:Drawn}{t:Nat}{os:OsState}{e Bx C:Addr}{oe:Obj}{dd:Option Addr}{cd:ClassData}{sl:Array (Option Value)}{Q:Bool->Shared->Prop}
theorem Jn(X:K.In h)(o1:K.lookup Bx=some ⟨.type "type",dd,.cls cd,sl⟩)(m1:W.mroIn K Bx (.type "BaseException")=some true)(he:h.get? e=some oe)(hc:oe.cls= .ref C)(m2:W.mroIn K C (.ref Bx)=some true)
  (hq:Q true ⟨h,g,d,t,os⟩):wpAny M A (excMatches (.ref e) (.ref Bx)) Q E ⟨h,g,d,t,os⟩:=by
 have hB:=X _ _ o1;have L4:=B2 (M:=M) X m1;have L5:=B2 (M:=M) X m2;have f:=tc_notTuple;unfold excMatches;repeat (first|(with_reducible refine Bj he ?_;rw[hc])|with_reducible refine Bj hB ?_|with_reducible refine L4.at ?_|with_reducible refine L5.at ?_|wp_step)
 exact hq
end
def qAh(X:Cx)(pins:List (Addr×Obj))(xe:Value->Shared->Prop):Cx:={ X with xe:=xe,pn:=X.pn++pins }
def suX(X:Cx)(ea:Addr):Cx:={ X with A:=X.A.mark (some (.ref ea)),calm:=false,xe:=fun _ _=>False }
abbrev qE9:HO:=.ext fun _=>True
section
variable{X:Cx}{pins:List (Addr×Obj)}{σ:L2.St}{H:Hp}{s:Shared}{xe:Value->Shared->Prop}
theorem qGd(I:L2.Inv X pins σ H s):L2.Inv (qAh X pins xe) [] σ H s :=
 ⟨⟨I.ok.mod,I.ok.kind,I.ok.glob,I.ok.blt,I.ok.above,I.ok.inj,I.ok.has,I.ok.cab,I.ok.hd,I.ok.frames,I.ok.stk,I.ok.exf,I.ok.bs,I.ok.bsz,I.ok.noex,I.ok.exfs,I.ok.funs,I.ok.frf⟩,I.os,I.bare,I.base,I.loc,I.cell,I.free,I.freeC,
  fun p hp=>I.pin p (by simpa[qAh] using hp),I.hok,I.len,I.hnd⟩
theorem zS{pins':List (Addr×Obj)}(I:L2.Inv (qAh X pins xe) pins' σ H s):L2.Inv X pins σ H s :=
 ⟨⟨I.ok.mod,I.ok.kind,I.ok.glob,I.ok.blt,I.ok.above,I.ok.inj,I.ok.has,I.ok.cab,I.ok.hd,I.ok.frames,I.ok.stk,I.ok.exf,I.ok.bs,I.ok.bsz,I.ok.noex,I.ok.exfs,I.ok.funs,I.ok.frf⟩,I.os,I.bare,I.base,I.loc,I.cell,I.free,I.freeC,
  fun p hp=>I.pin p (CC _ hp),I.hok,I.len,I.hnd⟩
theorem qEf{D:Ends}{f:Flow}(q:SP (qAh X pins xe) [] D f s):SP X pins D f s:=by
 cases f with|next=>obtain⟨a,b,c,d⟩:=q;exact⟨a,b,zS c,d⟩|brk=>obtain⟨a,b,c,d⟩:=q;exact⟨a,b,zS c,d⟩|cont=>obtain⟨a,b,c,d⟩:=q;exact⟨a,b,zS c,d⟩|ret u=>obtain⟨v,a,b,c,d⟩:=q;exact⟨v,a,b,zS c,d⟩
theorem qDh(I:L2.Inv X pins σ H s){ea:Addr}{oe:Obj}(hn:H ea=none)(ho:s.heap.get? ea=some oe)(h0:X.s₀.heap.get? ea=none)(hL:ea≠X.env.locals)(hC:∀x c,X.env.cells.lookup x=some c->c≠ea)(hP:∀p∈X.pn++pins,p.1≠ea) :
  L2.Inv X pins σ (upd H ea (.frz oe qE9)) s:=by
 have ne:∀b u,H b=some u->b≠ea:=fun b u e z=>by rw[z,hn]at e;cases e
 have nb:∀b o,X.s₀.heap.get? b=some o->b≠ea:=fun b o e z=>by rw[z,h0]at e;cases e
 refine⟨I.ok,I.os,I.bare,⟨I.base.keep,I.base.slot,fun b o e n hx=>?_,I.base.there,fun b xs e=>?_,fun b o u e=>?_,fun b ps e=>?_⟩,I.loc,I.cell,?_,fun x c e=>?_,fun p hp=>?_,fun b u e=>?_,I.len,fun v hv=>?_⟩;rw[qT (nb b o e)];exact I.base.free b o e n hx
 ·have:=I.base.tups b xs e;rw[qT (ne b _ this)];exact this
 ·have:=I.base.frzs b o u e;rw[qT (ne b _ this)];exact this
 ·obtain⟨m,this⟩:=I.base.tbls b ps e;exact⟨m,by rw[qT (ne b _ this)];exact this⟩
 ·rw[qT (Ne.symm hL)];exact I.free
 ·rw[qT (hC x c e)];exact I.freeC x c e
 ·obtain⟨a,b,c,d⟩:=I.pin p hp;exact⟨a,by rw[qT (hP p hp)];exact b,c,d⟩
 ·by_cases hb:b=ea;subst hb;rw[qm]at e;cases e;exact⟨ho,trivial,⟨oe,ho⟩,fun _ _ z _=>z⟩;rw[qT hb]at e;exact (I.hok b u e).stay (fun _ _ _ z=>z) (fun c z=>by rw[qT (ne c _ z)];exact z) fun c xs z=>by rw[qT (ne c _ z)];exact z
 ·obtain⟨a,o,u,vs,e1,e2,e3⟩:=I.hnd v hv;exact⟨a,o,u,vs,e1,by rw[qT (ne a _ e2)];exact e2,e3⟩
theorem qDZ(I:L2.Inv X pins σ H s){ea:Addr}{oe:Obj}{u:HO}{vs:Array Value}(h1:H ea=some (.frz oe u))(h2:oe.data= .fields vs)(h3:vs[2]? = some Value.none):L2.Inv (suX X ea) pins σ H s :=
 ⟨⟨I.ok.mod,I.ok.kind,I.ok.glob,I.ok.blt,I.ok.above,I.ok.inj,I.ok.has,I.ok.cab,(fun z=>absurd (show false=true from z) Bd),I.ok.frames,I.ok.stk,I.ok.exf,I.ok.bs,I.ok.bsz,I.ok.noex,I.ok.exfs,I.ok.funs,I.ok.frf⟩,I.os,I.bare,I.base,I.loc,I.cell,I.free,I.freeC,
  I.pin,I.hok,I.len,fun v hv=>by
   have hv:some (Value.ref ea)=some v:=hv;cases hv;exact⟨ea,oe,u,vs,rfl,h1,h2,h3⟩⟩
theorem J7{ea:Addr}(ok:X.Ok)(hc:X.calm=true)(I:L2.Inv (suX X ea) pins σ H s):L2.Inv X pins σ H s :=
 ⟨ok,I.os,I.bare,I.base,I.loc,I.cell,I.free,I.freeC,I.pin,I.hok,I.len,HndH.none (ok.hd hc)⟩
theorem qEa(I:L2.Inv X pins σ H s)(hN:X.N.Nodup){i:Nat}{n:Str}(hi:X.N[i]? = some n){m:Str->Option Value}{v:Option Value}{h':Heap}{tk:Nat}(hm:∀(j:Nat) (x:Str) (w:V),X.N[j]? = some x->σ[j]? = some (some w)->Vis X.env.scope x->∃u,RelV w u∧qLE X.env s.heap m x u)
  (hn:h'.Ns X.env.locals (fun x=>if x=n then v else m x)) (hs:Heap.SameBut X.env.locals s.heap h'):L2.Inv X pins (σ.set i none) H { s with heap:=h',toks:=tk }:=by
 have cne:=I.cne;refine⟨I.ok,I.os,I.bare,⟨fun b o e n hb hx=>?_,fun b o e n hb hx=>?_,I.base.free,fun b o e hx=>?_,I.base.tups,I.base.frzs,I.base.tbls⟩,⟨_,hn,fun j y w e1 e2 e3=>?_⟩,fun y c e=>?_,I.free,I.freeC,fun p hp=>?_,fun b ob e=>?_,by simpa using I.len,I.hnd⟩;exact (hs.2 b (Ab (Ah (AU e) I.ok.above))).trans (I.base.keep b o e n hb hx);obtain⟨sl,e1⟩:=I.base.slot b o e n hb hx;exact⟨sl,(hs.2 b (Ab (Ah (AU e) I.ok.above))).trans e1⟩;obtain⟨o',e1⟩:=I.base.there b o e hx;exact⟨o',(hs.2 b (Ab (Ah (AU e) I.ok.above))).trans e1⟩
 ·have hj:j≠i:=fun z=>by
   subst z;by_cases hl:j<σ.length;rw[A5 hl]at e2;cases e2;rw[Be (by simpa using hl)]at e2;cases e2
  rw[BB (Ne.symm hj)]at e2;obtain⟨u,r,l⟩:=hm j y w e1 e2 e3;refine⟨u,r,?_⟩;rcases l with⟨k,l⟩|⟨k,c,e,z⟩
  ·refine .inl ⟨k,?_⟩
   have:y≠n:=fun e=>hj (Yj hN e1 (e ▸ hi))
   simp[this,l]
  ·exact .inr ⟨k,c,e,z.sameBut hs (cne y c e)⟩
 ·obtain⟨w',z⟩:=I.cell y c e;exact⟨w',z.sameBut hs (cne y c e)⟩
 ·obtain⟨e,n,ne,nf,d⟩:=I.pin p hp;exact⟨(hs.2 p.1 ne).trans e,n,ne,nf,d⟩
 ·refine (I.hok b ob e).stay (fun c w' hc q=>(hs.2 c ?_).trans q) (fun _ q=>q) fun _ _ q=>q;rintro rfl;rcases hc with rfl|hc
  ·rw[I.free]at e;cases e
  ·rw[I.free]at hc;cases hc
def qLg(i k:Nat)(ok:Value->Prop)(tb:XK->TS)(th:TS):TS:=fun D σ H=>tb (fun cls dd H1=>ok cls∧∀(σ':L2.St) (ea:Addr) (oe:Obj),σ'.length=k->H1 ea=none->oe.cls=cls->oe.dict=dd->(∃vs,oe.data= .fields vs) ->
 th { nx:=fun σ2 H2=>D.nx (σ2.set i none) H2,rt:=D.rt,bk:=fun σ2 H2=>D.bk (σ2.set i none) H2,ct:=fun σ2 H2=>D.ct (σ2.set i none) H2 } (σ'.set i (some (.ref ea))) (upd H1 ea (.frz oe qE9))) D σ H
structure FrameX (X:Cx):Prop where
 stk:X.stack=X.env::X.outer
 fr:X.env.frame=some X.env.locals
 ex:X.ex=[]
theorem got{P:Program}{w:World}{H:Hp}{h:Heap}{a:Addr}{o:HO}(x:ObjOk P w H h a o):∃u,h.get? a=some u:=by
 cases o with|lst xs=>obtain⟨_,_,_,_,e⟩:=x;exact⟨_,e⟩|tup xs=>obtain⟨_,_,_,o,e,_⟩:=x;exact⟨_,e⟩|dK kvs=>obtain⟨_,_,_,_,o,_,_,e,_⟩:=x;exact⟨_,e⟩|dT kvs=>obtain⟨_,_,_,_,o,_,_,e,_⟩:=x;exact⟨_,e⟩|set S n=>obtain⟨o,_,_,_,e,_⟩:=x;exact⟨_,e⟩|ins C dx fs=>obtain⟨_,_,_,e,_⟩:=x;exact⟨_,e⟩|own y=>exact x|xd fs=>obtain⟨_,⟨_,_,_,e,_⟩,_⟩:=x;exact⟨_,e⟩|rng lo hi=>obtain⟨_,_,_,e⟩:=x;exact⟨_,e⟩|frz ob u=>obtain⟨e,_⟩:=x;exact⟨_,e⟩|tbl ps=>exact⟨_,x⟩|met f y=>exact⟨_,x⟩|ext φ=>obtain⟨_,e,_⟩:=x;exact e
theorem qJm{X:Cx}{x n:Str}{i:Nat}{Bx:Addr}{dd:Option Addr}{cd:ClassData}{sl:Array (Option Value)}{body:List Stmt}{b0:Stmt}{suite:List Stmt}{np hpos pos:Pos}{ok:Value->Prop}{tb:XK->TS}{th:TS}(FX:FrameX X)(hc:X.calm=true)(hN:X.N.Nodup)(hi:X.N[i]? = some n)(hl:X.env.scope.names.lookup n=some .local)
  (hg:Gl X x) (hm:X.mg x=some (.ref Bx)) (o1:X.K.lookup Bx=some ⟨.type "type",dd,.cls cd,sl⟩) (m1:W.mroIn X.K Bx (.type "BaseException")=some true) (hok:∀v,ok v->∃C,v= .ref C∧W.mroIn X.K C (.ref Bx)=some true)
  (hb:∀(pins:List (Addr×Obj)) (xe:Value->Shared->Prop) (E':XK),ZO (CXF X.prog X.w) (qAh X pins xe) E'->PSs (qAh X pins xe) body (tb E')) (hh:∀ea,PSs (suX X ea) (b0::suite) th) (hdb:(x==("__debug__":Str))=false:=by decide) :
  PS X (.Try body [.ExceptHandler (some (.Name x np)) (some n) (b0::suite) hpos] [] [] pos) (qLg i X.N.length ok tb th):=by
 intro pins s σ H D I h;refine wpAny_Try_except ?_;generalize hE:(fun (cls:Value) (dd:Option Addr) (H1:Hp)=>ok cls∧∀(σ':L2.St) (ea:Addr) (oe:Obj),σ'.length=X.N.length->H1 ea=none->oe.cls=cls->oe.dict=dd->(∃vs,oe.data= .fields vs) ->
  th { nx:=fun σ2 H2=>D.nx (σ2.set i none) H2,rt:=D.rt,bk:=fun σ2 H2=>D.bk (σ2.set i none) H2,ct:=fun σ2 H2=>D.ct (σ2.set i none) H2 } (σ'.set i (some (.ref ea))) (upd H1 ea (.frz oe qE9)))=E'
 have h:tb E' D σ H:=by rw[←hE];exact h
 refine BJ (hb pins _ E' ?_ [] s σ H D (qGd I) h) (fun f s1 q=>?_) fun e s1 q=>q
 rotate_left
 ·have q:=qEf q;cases f with|next=>exact wpAny_execs_nil q|brk=>exact q|cont=>exact q|ret u=>exact q
 ·intro pins' σ' H' s1 e s2 J c;obtain⟨ea,cls,d2,B,H1,rfl,fl,hok1,os,bare,un,sl1,qE⟩:=c;have J':=zS J;rw[←hE]at qE;obtain⟨q1,q2⟩:=qE;obtain⟨C,rfl,m2⟩:=hok cls q1;have fr':X.A.frames=some (X.env::X.outer):=by rw[←FX.stk];exact I.ok.frames
  have fl':Fly B (X.env::X.outer) ea (.ref C) d2 .none s2.heap:=by rw[←FX.stk];exact fl
  have un:UnB (frs X.stack) H' H1 s1.heap B:=un;have sl1:∀b∈frs X.stack,∀o,s1.heap.get? b=some o->∃sl,s2.heap.get? b=some { o with slots:=sl }:=sl1;have stk1:s1.heap.FunFrames X.base X.stack:=J'.stack;have baseB:∀b o,X.base.get? b=some o->B.get? b=some o:=fun b o z=>un.keep b o (J'.bs b o z).1 (J'.bs b o z).2 fun hm=>by rw[(stk1.mem hm).1]at z;cases z
  refine jS (A:=X.A) fr' FX.fr fl' fun h4 x4 u4=>qCn x4 fun h5 x5 u5=>?_;have ns5:h5.Ns X.env.globals X.mg:=by rw[I.ok.glob];exact I.mod.glob.keeps fun b o z=>x5.1 b o (baseB b o z)
  have k5:X.K.In h5:=I.ok.mod.kin.keeps fun b o z=>x5.1 b o (baseB b o z);obtain⟨_,_,_,oe5,_,_,_,_,he5,hc5,_⟩:=id x5;refine wpAny_handleBy_cons (codeAny_handlers_test (Calls.Name_function_global I.ok.kind hg (Calls.loadGlobal_global ns5 hm ?_) hdb)) (by intro q;cases q);refine Jn k5 o1 m1 he5 hc5 m2 (codeAny_handlers_suite_as (qCn x5 fun h6 x6 u6=>?_));have u26:s2.heap.UpToSlots h6:=(u4.trans u5).trans u6;obtain⟨k1,k2,k3,oe,vs,T,oT,ts,g1,g2,g3,g4,g5,g6,g7⟩:=x6;have nf:∀b∈frs X.stack,∀o,s1.heap.get? b=some o->∀vs,o.data≠ .fields vs:=fun b hb o z=>by obtain⟨_,o2,ho2,nf⟩:=stk1.mem hb;rw[z]at ho2;cases ho2;exact nf
  have slN:∀b∈frs X.stack,∀o,s1.heap.get? b=some o->∃sl,h6.get? b=some { o with slots:=sl }:=fun b hb o z=>by obtain⟨sl2,z2⟩:=sl1 b hb o z;obtain⟨sl3,z3⟩:=u26 b _ z2 (nf b hb o z);exact⟨sl3,z3⟩
  have I6:L2.Inv X pins σ' H1 { s2 with heap:=h6 }:=J'.call' (s':={ s2 with heap:=h6 }) (ch:=[]) os (CXF.un (P:=X.prog) (w:=X.w) (s:=s1) (s':={ s2 with heap:=h6 }) k1 un slN) (hok1.kept k1) bare fun b z=>by cases z
  have neW:∀b o,s1.heap.get? b=some o->b≠ea:=fun b o z hz=>by
   subst hz;by_cases hb:b∈frs X.stack;obtain⟨sl2,z2⟩:=slN b hb o z;rw[g1]at z2;cases z2;exact nf b hb o z vs g4;obtain⟨o',z'⟩:=un.there b o z hb;rw[k2]at z';cases z'
  have hn1:H1 ea=none:=by
   cases z:H1 ea with|none=>rfl|some u=>obtain⟨o',z'⟩:=got (hok1 ea u z);rw[k2]at z';cases z'
  have I7:L2.Inv X pins σ' (upd H1 ea (.frz oe qE9)) { s2 with heap:=h6 }:=by
   refine qDh I6 hn1 g1 ?_ ?_ (fun x c z=>?_) fun p hp=>?_
   ·cases z:X.s₀.heap.get? ea with|none=>rfl|some o=>obtain⟨o',z'⟩:=J'.base.there ea o z (by rw[FX.ex];simp);exact (neW ea o' z' rfl).elim
   ·obtain⟨m,⟨o,_,_,z,_⟩,_⟩:=J'.loc;exact Ne.symm (neW _ o z)
   ·obtain⟨v,o,z',_⟩:=J'.cell x c z;exact neW c o z'
   ·exact neW p.1 p.2 (J'.pin p hp).1
  have I8:=qDZ I7 qm g4 g6;refine Z7 (X:=suX X ea) (v:=.ref ea) I8 hN hi (.inl hl) (show RelV (.ref ea) (.ref ea) from rfl) (fun s7 I9=>?_) (.inr hl);have hlen:σ'.length=X.N.length:=J'.len;refine wpAny_noRaise (thn (hh ea pins s7 _ _ _ I9 (q2 σ' ea oe hlen hn1 g2 g3 ⟨vs,g4⟩)) fun f s8 q=>?_);have hp:(X.env.scope.kind == .class||(X.env.scope.kind == .module&&X.env.locals != X.env.globals))=false:=by rw[I.ok.kind];rfl
  have goes:∀{σ8:L2.St} {H8:Hp} {Q:Shared->Prop},L2.Inv (suX X ea) pins σ8 H8 s8->(∀s9,L2.Inv X pins (σ8.set i none) H8 s9->Q s9)->wpAny (model X.prog X.w) X.A (do bindName X.env n .none;unbindBehindTheSuite X.env n hpos) (fun _ s9=>Q s9) X.xe s8:=fun {σ8 H8 Q} I8 hQ=>by have I9:=J7 I.ok hc I8;obtain⟨m,hn,hl'⟩:=id I9.loc;exact wpAny_nameGoes_keeps hl hn hp fun h9 v hn9 hs9=>hQ _ (qEa I9 hN hi hl' hn9 hs9)
  cases f with|next=>obtain⟨σ8,H8,I8,q8⟩:=q;exact goes I8 fun s9 I9=>⟨_,H8,I9,q8⟩|brk=>obtain⟨σ8,H8,I8,q8⟩:=q;exact goes I8 fun s9 I9=>⟨_,H8,I9,q8⟩|cont=>obtain⟨σ8,H8,I8,q8⟩:=q;exact goes I8 fun s9 I9=>⟨_,H8,I9,q8⟩|ret u=>obtain⟨v,σ8,H8,I8,r8,q8⟩:=q;exact goes I8 fun s9 I9=>⟨v,_,H8,I9,r8,q8⟩
end
def Yc(A:Around):List Addr:=match A.handled with|some (.ref ea)=>[ea]|_=>[]
theorem Hnd.frame{A:Around}{h h':Heap}(x:Hnd A h)(k:∀b∈Yc A,∀o,h.get? b=some o->h'.get? b=some o):Hnd A h':=fun v hv=>by obtain⟨ea,oe,vs,e1,e2,e3⟩:=x v hv;subst e1;exact⟨ea,oe,vs,rfl,k ea (by unfold Yc;rw[hv];simp) oe e2,e3⟩
theorem qKp{A:Around}{I:Addr}(hI:∀ea∈Yc A,ea≠I):∀v,A.handled=some v->v≠ .ref I:=fun v hv z=>by subst z;exact hI I (by unfold Yc;rw[hv];simp) rfl
theorem qBe{prog:Program}{w:World}{A:Around}(I ax:Addr)(hne:ax≠I)(items:Array Value)(hI:∀ea∈Yc A,ea≠I) :
  Walks prog w A I (I::ax::Yc A) [I] items.size (fun i v=>items[i]? = some v) (fun i h=>(h.IsListIter I ax i∧h.IsList ax items)∧Hnd A h) where
 sub:=fun b hb=>by simp at hb;simp[hb]
 frame:=fun _ _ _ st hk=>⟨⟨st.1.1.at fun o e=>hk I (by simp) o e,st.1.2.at fun o e=>hk ax (by simp) o e⟩,st.2.frame fun b hb o e=>hk b (by simp[hb]) o e⟩
 item:=fun i s Q E hi st hQ=>wpAny_pyNext_list_item st.1.1 st.1.2 (x:=items[i]) (by simp[hi]) fun h' z1 z2 =>
  hQ _ h' s.toks (by simp[hi]) ⟨⟨z1,st.1.2.extBut z2.extBut hne⟩,st.2.frame fun b hb o e=>(z2.2 b (hI b hb)).trans e⟩ fun b o hb e=>z2.extBut b o (fun h=>hb (by simp[h])) e
 done:=fun s Q E st hQ=>list_end st.2 st.1.1 st.1.2 (by simp) (qKp hI) fun h' z=>hQ h' s.toks fun b o hb e=>z b o (fun h=>hb (by simp[h])) e
 self:=fun _ _ _ _ st hQ=>wpAny_pyIter_listiter st.1.1 hQ
section
variable{X:Cx}{pins:List (Addr×Obj)}{σ:L2.St}{H:Hp}{s:Shared}
theorem qLB(I:L2.Inv X pins σ H s):∀ea∈Yc X.A,ea≠s.heap.objs.size:=fun ea hea=>by
 have hd:X.A.handled=some (.ref ea):=by
  unfold Yc at hea;split at hea;rename_i a ha;rw[Al.mp hea];exact ha;cases hea
 obtain⟨a,oe,vs,e1,e2,_⟩:=I.hndH _ hd;cases e1;exact Ab (AU e2)
theorem qC1(I:L2.Inv X pins σ H s){p:Addr}{its:List Value}(pl:PlainL s.heap p its.toArray){E:Value->Shared->Prop}{Q:Value->Shared->Prop}
  (h:Walks X.prog X.w X.A.in1 s.heap.objs.size (s.heap.objs.size::p::Yc X.A) [s.heap.objs.size] its.toArray.size (fun i v=>its.toArray[i]? = some v) (fun i h=>(h.IsListIter s.heap.objs.size p i∧h.IsList p its.toArray)∧Hnd X.A.in1 h) ->
   ((s.heap.push { cls:=.type "list_iterator",data:=.fields #[.ref p,.int 0 0] }).IsListIter s.heap.objs.size p 0∧(s.heap.push { cls:=.type "list_iterator",data:=.fields #[.ref p,.int 0 0] }).IsList p its.toArray)∧Hnd X.A.in1 (s.heap.push { cls:=.type "list_iterator",data:=.fields #[.ref p,.int 0 0] }) ->
   (∀b∈s.heap.objs.size::p::Yc X.A,b<(s.heap.push { cls:=.type "list_iterator",data:=.fields #[.ref p,.int 0 0] }).objs.size) ->
   (∀h':Heap,(∀b o,b∉[s.heap.objs.size]->(s.heap.push { cls:=.type "list_iterator",data:=.fields #[.ref p,.int 0 0] }).get? b=some o->h'.get? b=some o)->∀b o,s.heap.get? b=some o->h'.get? b=some o) ->
   Q (.ref s.heap.objs.size) { s with heap:=s.heap.push { cls:=.type "list_iterator",data:=.fields #[.ref p,.int 0 0] } }) :
  wpAny (model X.prog X.w) X.A.in1 (pyIter (.ref p)) Q E s:=by
 obtain⟨ob,po,_⟩:=id pl.isList;have hlt:p<s.heap.objs.size:=AU po;refine wpAny_pyIter_list pl.isList (h (qBe _ p (Ab hlt) _ (qLB I)) ⟨⟨⟨_,AW _ rfl,rfl,rfl⟩,pl.isList.at fun o e=>AD _ e⟩,?_⟩ (fun b hb=>?_) fun h' k b o e=>?_);exact Hnd.frame (show Hnd X.A.in1 s.heap from I.hndH) fun b _ o e=>AD _ e
 ·rw[Bn];rcases AH.mp hb with rfl|hb
  ·exact Nat.lt_succ_self _
  ·rcases AH.mp hb with rfl|hb
   ·exact BL hlt
   ·have hd:X.A.handled=some (.ref b):=by
     unfold Yc at hb;split at hb;rename_i a ha;rw[Al.mp hb];exact ha;cases hb
    obtain⟨a,oe,vs,e1,e2,_⟩:=I.hndH _ hd;cases e1;exact BL (AU e2)
 ·exact k b o (by simp;exact Ab (AU e)) (AD _ e)
theorem qCu:∀{bs:List Bool} {us:List Value},Vals (bs.map V.bl) us->us=bs.map Value.bool|[],_,.nil=>rfl|b::bs,_,.cons r t=>by rw[show _=Value.bool b from r,qCu t];rfl
theorem qFO{prog:Program}{w:World}{A:Around}{bs:List Bool}:TruthOf prog w A (fun i v=>(bs.map Value.bool).toArray[i]? = some v) (fun i=>bs.getD i false):=fun i v s Q E hP hQ=>by
 have hP:(bs.map Value.bool).toArray[i]? = some v:=hP;rw[List.getElem?_toArray,A3]at hP;cases e:bs[i]? with|none=>rw[e]at hP;cases hP|some b=>rw[e]at hP;cases hP;have hQ:Q (bs.getD i false) s:=hQ;rw[Ar,e]at hQ;exact AB hQ
theorem qD0(bs:List Bool):(List.range bs.length).all (fun i=>bs.getD i false)=bs.all id:=by
 induction bs with
 |nil=>rfl
 |cons b bs ih =>
  rw[AJ,List.range_succ_eq_map,List.all_cons,List.all_map,List.all_cons]
  have:(((fun i=>(b::bs).getD i false) ∘ Nat.succ))=fun i=>bs.getD i false:=by funext i;simp
  rw[this,ih];simp
theorem qDg:Wh X (.builtin "all") (fun xs H Q=>∃(p:Addr) (bs:List Bool),xs=[.ref p]∧SqL X.K H p (bs.map V.bl)∧Q (.bl (bs.all id)) H):=by
 intro pins s σ H xs us Q I r h;obtain⟨p,bs,rfl,hq,q⟩:=h;obtain⟨u,rfl,rx⟩:=Z3 r;cases rx;obtain⟨its,r',pl,hz⟩:=I.list hq;have e:=qCu r';subst e;refine call_all_walk (qC1 I pl fun W st fp k=>⟨_,_,_,_,_,_,_,rfl,W,st,qFO,fun h' tk hk=>?_⟩);rw[show (bs.map Value.bool).toArray.size=bs.length by simp,qD0];exact⟨.bl _,H,I.kept (k h' hk),rfl,q⟩
end
theorem qGF{K:W.Frag}{x D:Addr}(C:ExcK K D):W.KitX K (.ref x) (.ref D) (fun h=>∃ox od,W.InstAt h x ox D od):=by
 obtain⟨cd,hcd,_⟩:=Option.bind_eq_some_iff.mp (C.fo none);unfold W.clsIn at hcd;split at hcd
 ·rename_i c' d' cd' sl' ho;refine⟨fun _ _ _ ⟨ox,od,I⟩=>I.type,fun M h X p=>?_,fun h tp dd its n sl X htp=>?_,fun {prog w A E Q s} X ⟨ox,od,I⟩ k=>qC8 C X I k⟩;intro A' Q' E' s' k q;unfold isType loadHead;exact AA (wpAny_loadPart (k _ _ (X _ _ ho)) (AB q));refine Bool.eq_false_iff.mpr fun q=>?_;have e:D=tp:=Value.ref.inj (BC.mp q);subst e;have z:=(X _ _ ho).symm.trans htp;cases z
 ·cases hcd
end EX
end
section
namespace EV
open PySem PySem.Spec PyProof.Rows L2
inductive PV where
 |non|bl (b:Bool)|int (i:Int)|str (x:Str)|tup (l:List PV)|lst (l:List PV)|ref (i:Nat)|dct|ty (n:String)|fn (a:Addr)|exc (c:Addr) (fs:List (Str×Int))
inductive SO where|l (xs:List PV)|d (kvs:List (List L2.Key×PV))|z (kvs:List (List L2.Key×PV))
abbrev qC:=List SO
structure Exc where
 cls:Addr
 fs:List (Str×Int)
inductive Rs (α:Type) where
 |ok (a:α) (st:qC)|ex (x:Exc) (st:qC)|no
def Rs.bind{α β:Type}(r:Rs α)(k:α->qC->Rs β):Rs β:=match r with| .ok a st=>k a st| .ex x st=>.ex x st| .no=>.no
abbrev qk:=List (Option PV)
abbrev FE:=qk->qC->Rs PV
abbrev FA:=qk->qC->Rs (List PV)
abbrev FT:=qk->qC->Rs Bool
inductive RS where
 |nx (e:qk) (st:qC)|rt (v:PV) (st:qC)|bk (e:qk) (st:qC)|ct (e:qk) (st:qC)|ex (x:Exc) (st:qC)|no
abbrev FS:=qk->qC->RS
structure Bz where
 b:List Addr
 z:List Addr
def Bz.out(b:Bz)(a:Addr):Prop:=a∉b.b∧a∉b.z
def KL(K:W.Frag)(a:Addr)(xs:List V):Prop :=
 ∃(o:Obj) (its:Array Value) (n:Nat),K.lookup a=some o∧o.cls= .type "list" ∧o.dict=none∧o.data= .seq its n∧its.size≤sizeLine∧Vals xs its.toList
def KT0(K:W.Frag)(a:Addr)(xs:List V):Prop :=
 ∃(o:Obj) (its:Array Value) (n:Nat),K.lookup a=some o∧o.cls= .type "tuple" ∧o.data= .seq its n∧its.size≤sizeLine∧Vals xs its.toList
def KT(K:W.Frag)(a:Addr)(xs:List V):Prop:=KT0 K a xs∧∀i r,xs≠V.int i::r
def LA(K:W.Frag)(H:Hp)(b:Bz)(a:Addr)(xs:List V):Prop:=(Rd H a (.lst xs)∧b.out a)∨KL K a xs
def TA'(K:W.Frag)(H:Hp)(b:Bz)(a:Addr)(xs:List V):Prop:=(H a=some (.tup xs)∧b.out a)∨KT K a xs
mutual
def RV(K:W.Frag)(H:Hp)(b:Bz):PV->V->Prop| .non,v=>v= .non| .bl x,v=>v= .bl x| .int i,v=>v= .int i| .str x,v=>v= .str x| .tup l,v=>∃a xs,v= .ref a∧TA' K H b a xs∧RVs K H b l xs| .lst l,v=>∃a xs,v= .ref a∧LA K H b a xs∧RVs K H b l xs| .ref i,v=>∃a,v= .ref a∧b.b[i]? = some a| .dct,v=>∃a,v= .ref a∧H a=some (.dK [])∧b.out a| .ty n,v=>v= .ty n| .fn a,v=>v= .ref a| .exc c fs,v=>∃a o u,v= .ref a∧H a=some (.frz o u)∧b.out a∧o.cls= .ref c∧(∃vs,o.data= .fields vs)∧((fs=[]∧o.dict=none)∨∃d,o.dict=some d∧H d=some (.xd (fs.map fun p=>(p.1,V.int p.2)))∧b.out d)
def RVs(K:W.Frag)(H:Hp)(b:Bz):List PV->List V->Prop|[],xs=>xs=[]|p::ps,xs=>∃x r,xs=x::r∧RV K H b p x∧RVs K H b ps r
end
def SOk(K:W.Frag)(H:Hp)(b:Bz):SO->HO->Prop| .l xs,o=>∃vs,o= .lst vs∧RVs K H b xs vs| .d kvs,o=>∃vs,o= .dT vs∧kvs.map (·.1)=vs.map (·.1)∧RVs K H b (kvs.map (·.2)) (vs.map (·.2))| .z kvs,o=>∃od vs,o= .frz od (.dT vs)∧kvs.map (·.1)=vs.map (·.1)∧RVs K H b (kvs.map (·.2)) (vs.map (·.2))
structure SR (K:W.Frag) (H:Hp) (b:Bz) (st:qC):Prop where
 len:b.b.length=st.length
 nd:b.b.Nodup
 at_:∀(i:Nat) (x:SO),st[i]? = some x->∃a o,b.b[i]? = some a∧H a=some o∧SOk K H b x o
 zo:∀a∈b.z,∃xs,H a=some (.lst xs)
 zb:∀a∈b.z,a∉b.b
structure WE (H:Hp) (b:Bz) (H':Hp) (b':Bz):Prop where
 more:∃n,b'.b=b.b++n∧∀a∈n,H a=none
 zm:∃y,b'.z=y++b.z∧∀a∈y,H a=none
 keep:∀a o,H a=some o->b.out a->H' a=some o
 dom:∀a o,H a=some o->∃o',H' a=some o'
theorem WE.refl(H:Hp)(b:Bz):WE H b H b:=⟨⟨[],by simp,by simp⟩,⟨[],rfl,by simp⟩,fun _ _ h _=>h,fun _ o h=>⟨o,h⟩⟩
theorem WE.none_of{H H':Hp}{b b':Bz}(e:WE H b H' b'){a:Addr}(h:H' a=none):H a=none:=by
 cases q:H a with|none=>rfl|some o=>obtain⟨o',e'⟩:=e.dom a o q;rw[h]at e';cases e'
theorem WE.not_in{H H':Hp}{b b':Bz}(e:WE H b H' b'){a:Addr}{o:HO}(h:H a=some o)(hn:b.out a):b'.out a:=by
 obtain⟨n,hb,hh⟩:=e.more;obtain⟨y,hz,hy⟩:=e.zm;refine⟨fun hm=>?_,fun hm=>?_⟩
 ·rw[hb]at hm;rcases A1.mp hm with hm|hm
  ·exact hn.1 hm
  ·rw[hh a hm]at h;cases h
 ·rw[hz]at hm;rcases A1.mp hm with hm|hm
  ·rw[hy a hm]at h;cases h
  ·exact hn.2 hm
theorem WE.trans{H H1 H2:Hp}{b b1 b2:Bz}(e:WE H b H1 b1)(f:WE H1 b1 H2 b2):WE H b H2 b2:=by
 obtain⟨n,hn,hh⟩:=e.more;obtain⟨m,hm,hk⟩:=f.more;obtain⟨y,hz,hy⟩:=e.zm;obtain⟨x,hx,hw⟩:=f.zm;refine⟨⟨n++m,by rw[hm,hn,Av],fun a ha=>?_⟩,⟨x++y,by rw[hx,hz,Av],fun a ha=>?_⟩,fun a o h hb=>f.keep a o (e.keep a o h hb) (e.not_in h hb),fun a o h=>?_⟩
 ·rcases A1.mp ha with ha|ha
  ·exact hh a ha
  ·exact e.none_of (hk a ha)
 ·rcases A1.mp ha with ha|ha
  ·exact e.none_of (hw a ha)
  ·exact hy a ha
 ·obtain⟨o',h'⟩:=e.dom a o h;exact f.dom a o' h'
theorem WE.ix{H H':Hp}{b b':Bz}(e:WE H b H' b'){i:Nat}{a:Addr}(h:b.b[i]? = some a):b'.b[i]? = some a:=by obtain⟨n,hb,_⟩:=e.more;have hi:i<b.b.length:=(AQ.mp h).1;rw[hb,Ae hi];exact h
theorem WE.new{H:Hp}{b:Bz}{p:Addr}{o:HO}(h:H p=none):WE H b (upd H p o) b :=
 ⟨⟨[],by simp,by simp⟩,⟨[],rfl,by simp⟩,fun a u e _=>by rw[qT (qU e h)];exact e,fun a u e=>⟨u,by rw[qT (qU e h)];exact e⟩⟩
theorem WE.hide{H:Hp}{b:Bz}{p:Addr}{o:HO}(h:H p=none):WE H b (upd H p o) ⟨b.b,p::b.z⟩ :=
 ⟨⟨[],by simp,by simp⟩,⟨[p],rfl,fun a ha=>by rw[Al.mp ha];exact h⟩,fun a u e _=>by rw[qT (qU e h)];exact e,fun a u e=>⟨u,by rw[qT (qU e h)];exact e⟩⟩
theorem WE.wr{H:Hp}{b:Bz}{p:Addr}{o:HO}(h:p∈b.b∨p∈b.z):WE H b (upd H p o) b :=
 ⟨⟨[],by simp,by simp⟩,⟨[],rfl,by simp⟩,fun a u e hb=>by rw[qT (fun z=>h.elim (fun q=>hb.1 (by rw[z];exact q)) fun q=>hb.2 (by rw[z];exact q))];exact e,fun a u e=>by
  by_cases hz:a=p;exact⟨o,by rw[hz];exact qm⟩;exact⟨u,by rw[qT hz];exact e⟩⟩
theorem Rd.some_of{H:Hp}{a:Addr}{u:HO}(h:Rd H a u):∃o,H a=some o:=h.elim (fun h=>⟨_,h⟩) fun⟨_,h⟩=>⟨_,h⟩
theorem Rd.wext{H H':Hp}{b b':Bz}{a:Addr}{u:HO}(e:WE H b H' b')(h:Rd H a u∧b.out a):Rd H' a u∧b'.out a:=by
 obtain⟨o,ho⟩:=Rd.some_of h.1;refine⟨?_,e.not_in ho h.2⟩;rcases h.1 with q|⟨o',q⟩
 ·exact .inl (e.keep _ _ q h.2)
 ·exact .inr ⟨o',e.keep _ _ q h.2⟩
theorem LA.wext{K:W.Frag}{H H':Hp}{b b':Bz}{a:Addr}{xs:List V}(e:WE H b H' b')(h:LA K H b a xs):LA K H' b' a xs:=h.elim (fun h=>.inl (Rd.wext e h)) .inr
theorem TA'.wext{K:W.Frag}{H H':Hp}{b b':Bz}{a:Addr}{xs:List V}(e:WE H b H' b')(h:TA' K H b a xs):TA' K H' b' a xs:=h.elim (fun h=>.inl ⟨e.keep _ _ h.1 h.2,e.not_in h.1 h.2⟩) .inr
theorem LA.sq{K:W.Frag}{H:Hp}{b:Bz}{a:Addr}{xs:List V}(h:LA K H b a xs):SqL K H a xs:=h.elim (fun h=>.inl h.1) .inr
theorem TA'.sq{K:W.Frag}{H:Hp}{b:Bz}{a:Addr}{xs:List V}(h:TA' K H b a xs):SqT K H a xs:=h.elim (fun h=>.inl (.inl h.1)) fun h=>.inr h.1
mutual
theorem RV.wext{K:W.Frag}{H H':Hp}{b b':Bz}(e:WE H b H' b'):∀(p:PV) {v:V},RV K H b p v->RV K H' b' p v| .non,_,h=>by unfold RV at h ⊢;exact h| .bl _,_,h=>by unfold RV at h ⊢;exact h| .int _,_,h=>by unfold RV at h ⊢;exact h| .str _,_,h=>by unfold RV at h ⊢;exact h| .tup l,_,h=>by unfold RV at h ⊢;obtain⟨a,xs,h1,h2,h3⟩:=h;exact⟨a,xs,h1,h2.wext e,RVs.wext e l h3⟩| .lst l,_,h=>by unfold RV at h ⊢;obtain⟨a,xs,h1,h2,h3⟩:=h;exact⟨a,xs,h1,h2.wext e,RVs.wext e l h3⟩| .ref i,_,h=>by unfold RV at h ⊢;obtain⟨a,h1,h2⟩:=h;exact⟨a,h1,e.ix h2⟩| .ty _,_,h=>by unfold RV at h ⊢;exact h| .fn _,_,h=>by unfold RV at h ⊢;exact h| .exc _ _,_,h=>by unfold RV at h ⊢;obtain⟨a,o,u,h1,h2,h3,h4,h6,h5⟩:=h;exact⟨a,o,u,h1,e.keep _ _ h2 h3,e.not_in h2 h3,h4,h6,h5.imp id fun⟨d,q1,q2,q3⟩=>⟨d,q1,e.keep _ _ q2 q3,e.not_in q2 q3⟩⟩| .dct,_,h=>by unfold RV at h ⊢;obtain⟨a,h1,h2,h3⟩:=h;exact⟨a,h1,e.keep _ _ h2 h3,e.not_in h2 h3⟩
theorem RVs.wext{K:W.Frag}{H H':Hp}{b b':Bz}(e:WE H b H' b'):∀(l:List PV) {xs:List V},RVs K H b l xs->RVs K H' b' l xs|[],_,h=>by unfold RVs at h ⊢;exact h|p::ps,_,h=>by unfold RVs at h ⊢;obtain⟨x,r,h1,h2,h3⟩:=h;exact⟨x,r,h1,RV.wext e p h2,RVs.wext e ps h3⟩
end
structure Ext (H:Hp) (b:Bz) (H':Hp) (b':Bz):Prop extends WE H b H' b' where
 same:b'.z=b.z
 hid:∀a o,a∈b.z->H a=some o->H' a=some o
 fz:∀a o u,H a=some (.frz o u)->H' a=some (.frz o u)
theorem Ext.refl(H:Hp)(b:Bz):Ext H b H b:=⟨WE.refl H b,rfl,fun _ _ _ h=>h,fun _ _ _ h=>h⟩
theorem Ext.none_of{H H':Hp}{b b':Bz}(e:Ext H b H' b'){a:Addr}(h:H' a=none):H a=none:=e.toWE.none_of h
theorem Ext.trans{H H1 H2:Hp}{b b1 b2:Bz}(e:Ext H b H1 b1)(f:Ext H1 b1 H2 b2):Ext H b H2 b2:=⟨e.toWE.trans f.toWE,f.same.trans e.same,fun a o ha h=>f.hid a o (by rw[e.same];exact ha) (e.hid a o ha h),fun a o u h=>f.fz a o u (e.fz a o u h)⟩
theorem Ext.ix{H H':Hp}{b b':Bz}(e:Ext H b H' b'){i:Nat}{a:Addr}(h:b.b[i]? = some a):b'.b[i]? = some a:=e.toWE.ix h
theorem Ext.new{H:Hp}{b:Bz}{p:Addr}{o:HO}(h:H p=none):Ext H b (upd H p o) b:=⟨WE.new h,rfl,fun a u _ e=>by rw[qT (qU e h)];exact e,fun a u _ e=>by rw[qT (qU e h)];exact e⟩
theorem Ext.wr{H:Hp}{b:Bz}{p:Addr}{o:HO}(h:p∈b.b)(hz:∀a∈b.z,a∉b.b)(hf:∀o u,H p≠some (.frz o u)):Ext H b (upd H p o) b:=⟨WE.wr (.inl h),rfl,fun a u ha e=>by rw[qT (fun z=>hz a ha (by rw[z];exact h))];exact e,fun a u v e=>by rw[qT (fun z=>hf u v (by rw[←z];exact e))];exact e⟩
theorem nfz{H:Hp}{p:Addr}{u:HO}(h:H p=some u)(hu:∀o v,u≠ .frz o v):∀o v,H p≠some (.frz o v):=fun o v z=>by rw[h]at z;cases z;exact hu _ _ rfl
theorem qI4{H:Hp}{p:Addr}{xs:List V}(h:H p=some (.lst xs)):∀o v,H p≠some (.frz o v):=nfz h fun _ _ z=>nomatch z
theorem Ext.of_same{H H':Hp}{b:Bz}(h:Same H H'):Ext H b H' b:=⟨⟨⟨[],by simp,by simp⟩,⟨[],rfl,by simp⟩,fun a o e _=>h a o e,fun a o e=>⟨o,h a o e⟩⟩,rfl,fun a o _ e=>h a o e,fun a o u e=>h a _ e⟩
theorem RV.ext{K:W.Frag}{H H':Hp}{b b':Bz}(e:Ext H b H' b')(p:PV){v:V}(h:RV K H b p v):RV K H' b' p v:=RV.wext e.toWE p h
theorem RVs.ext{K:W.Frag}{H H':Hp}{b b':Bz}(e:Ext H b H' b')(l:List PV){xs:List V}(h:RVs K H b l xs):RVs K H' b' l xs:=RVs.wext e.toWE l h
theorem RVs.length{K:W.Frag}{H:Hp}{b:Bz}:∀{l:List PV} {xs:List V},RVs K H b l xs->l.length=xs.length|[],_,h=>by unfold RVs at h;rw[h];rfl|p::ps,_,h=>by unfold RVs at h;obtain⟨x,r,rfl,_,h3⟩:=h;rw[AJ,AJ,RVs.length h3]
theorem RVs.nil{K:W.Frag}{H:Hp}{b:Bz}:RVs K H b [] []:=by unfold RVs;rfl
theorem RVs.cons{K:W.Frag}{H:Hp}{b:Bz}{p:PV}{ps:List PV}{x:V}{r:List V}(h:RV K H b p x)(t:RVs K H b ps r):RVs K H b (p::ps) (x::r):=by unfold RVs;exact⟨x,r,rfl,h,t⟩
theorem RVs.get{K:W.Frag}{H:Hp}{b:Bz}:∀{l:List PV} {xs:List V} {i:Nat} {p:PV},RVs K H b l xs->l[i]? = some p->∃x,xs[i]? = some x∧RV K H b p x
 |[],_,_,_,_,h=>by simp at h
 |q::ps,_,0,p,r,h=>by unfold RVs at r;obtain⟨x,t,rfl,h2,h3⟩:=r;simp at h;subst h;exact⟨x,rfl,h2⟩
 |q::ps,_,i+1,p,r,h=>by
  unfold RVs at r;obtain⟨x,t,rfl,h2,h3⟩:=r;obtain⟨y,e,hy⟩:=RVs.get (i:=i) h3 (by simpa using h);exact⟨y,by simpa using e,hy⟩
theorem RVs.append{K:W.Frag}{H:Hp}{b:Bz}:∀{l m:List PV} {xs ys:List V},RVs K H b l xs->RVs K H b m ys->RVs K H b (l++m) (xs++ys)|[],_,_,_,h,g=>by unfold RVs at h;subst h;exact g|p::ps,_,_,_,h,g=>by unfold RVs at h;obtain⟨x,r,rfl,h2,h3⟩:=h;exact RVs.cons h2 (RVs.append h3 g)
theorem RVs.take{K:W.Frag}{H:Hp}{b:Bz}:∀{l:List PV} {xs:List V} (n:Nat),RVs K H b l xs->RVs K H b (l.take n) (xs.take n)|_,_,0,_=>RVs.nil|[],_,_+1,h=>by unfold RVs at h;subst h;exact RVs.nil|p::ps,_,n+1,h=>by unfold RVs at h;obtain⟨x,r,rfl,h2,h3⟩:=h;exact RVs.cons h2 (RVs.take n h3)
theorem RVs.drop{K:W.Frag}{H:Hp}{b:Bz}:∀{l:List PV} {xs:List V} (n:Nat),RVs K H b l xs->RVs K H b (l.drop n) (xs.drop n)|_,_,0,h=>h|[],_,_+1,h=>by unfold RVs at h;subst h;exact RVs.nil|p::ps,_,n+1,h=>by unfold RVs at h;obtain⟨x,r,rfl,h2,h3⟩:=h;exact RVs.drop n h3
theorem RVs.set{K:W.Frag}{H:Hp}{b:Bz}{p:PV}{x:V}(hp:RV K H b p x):∀{l:List PV} {xs:List V} (n:Nat),RVs K H b l xs->RVs K H b (l.set n p) (xs.set n x)|[],_,_,h=>by unfold RVs at h;subst h;exact RVs.nil|q::ps,_,0,h=>by unfold RVs at h;obtain⟨y,r,rfl,h2,h3⟩:=h;exact RVs.cons hp h3|q::ps,_,n+1,h=>by unfold RVs at h;obtain⟨y,r,rfl,h2,h3⟩:=h;exact RVs.cons h2 (RVs.set hp n h3)
theorem SOk.wext{K:W.Frag}{H H':Hp}{b b':Bz}(e:WE H b H' b'):∀{x:SO} {o:HO},SOk K H b x o->SOk K H' b' x o| .l xs,_,⟨vs,h,r⟩=>⟨vs,h,RVs.wext e xs r⟩| .d kvs,_,⟨vs,h,q,r⟩=>⟨vs,h,q,RVs.wext e _ r⟩| .z kvs,_,⟨od,vs,h,q,r⟩=>⟨od,vs,h,q,RVs.wext e _ r⟩
theorem SOk.ext{K:W.Frag}{H H':Hp}{b b':Bz}(e:Ext H b H' b'){x:SO}{o:HO}(h:SOk K H b x o):SOk K H' b' x o:=h.wext e.toWE
theorem SR.mem{K:W.Frag}{H:Hp}{b:Bz}{st:qC}(S:SR K H b st){a:Addr}(h:a∈b.b):∃o,H a=some o:=by
 obtain⟨i,hi⟩:=BK h;have hl:i<b.b.length:=(AQ.mp hi).1;have hs:st[i]? = some (st[i]'(by rw[←S.len];exact hl)):=AM _;obtain⟨a',o,h1,h2,_⟩:=S.at_ i _ hs;rw[hi]at h1;cases h1;exact⟨o,h2⟩
theorem SR.new_notin{K:W.Frag}{H:Hp}{b:Bz}{st:qC}(S:SR K H b st){p:Addr}(h:H p=none):b.out p :=
 ⟨fun hm=>(by obtain⟨o,e⟩:=S.mem hm;rw[h]at e;cases e),fun hm=>(by obtain⟨o,e⟩:=S.zo p hm;rw[h]at e;cases e)⟩
theorem SR.new{K:W.Frag}{H:Hp}{b:Bz}{st:qC}(S:SR K H b st){p:Addr}{o:HO}(h:H p=none):SR K (upd H p o) b st :=
 ⟨S.len,S.nd,fun i x hx=>by
  obtain⟨a,u,h1,h2,h3⟩:=S.at_ i x hx;exact⟨a,u,h1,by rw[qT (qU h2 h)];exact h2,h3.ext (Ext.new h)⟩,fun a ha=>by
  obtain⟨u,e⟩:=S.zo a ha;exact⟨u,by rw[qT (qU e h)];exact e⟩,S.zb⟩
theorem qKz{b:List Addr}(nd:b.Nodup){i j:Nat}{x:Addr}(h1:b[i]? = some x)(h2:b[j]? = some x):i=j:=by obtain⟨hi,e1⟩:=AQ.mp h1;obtain⟨hj,e2⟩:=AQ.mp h2;exact (List.getElem_inj nd).mp (e1.trans e2.symm)
theorem SR.wr{K:W.Frag}{H:Hp}{b:Bz}{st:qC}(S:SR K H b st){i:Nat}{p:Addr}{x:SO}{o:HO}(hp:b.b[i]? = some p)(hx:SOk K (upd H p o) b x o):SR K (upd H p o) b (st.set i x):=by
 have hm:p∈b.b:=Aq hp;refine⟨by simp[S.len],S.nd,fun j y hy=>?_,fun a ha=>?_,S.zb⟩
 ·have hl:i<b.b.length:=(AQ.mp hp).1;by_cases hj:j=i
  ·subst hj;rw[A5 (by rw[←S.len];exact hl)]at hy;cases hy;exact⟨p,o,hp,qm,hx⟩
  ·rw[BB (Ne.symm hj)]at hy;obtain⟨a,u,h1,h2,h3⟩:=S.at_ j y hy;have hne:a≠p:=fun z=>hj (by subst z;exact qKz S.nd h1 hp);exact⟨a,u,h1,by rw[qT hne];exact h2,h3.wext (WE.wr (.inl hm))⟩
 ·obtain⟨u,e⟩:=S.zo a ha;have hz:a≠p:=fun z=>S.zb a ha (by rw[z];exact hm);exact⟨u,by rw[qT hz];exact e⟩
theorem SR.wrz{K:W.Frag}{H:Hp}{b:Bz}{st:qC}(S:SR K H b st){p:Addr}{ys:List V}(hp:p∈b.z):SR K (upd H p (.lst ys)) b st:=by
 refine⟨S.len,S.nd,fun j y hy=>?_,fun a ha=>?_,S.zb⟩
 ·obtain⟨a,u,h1,h2,h3⟩:=S.at_ j y hy;have hne:a≠p:=fun z=>by subst z;exact S.zb a hp (Aq h1)
  exact⟨a,u,h1,by rw[qT hne];exact h2,h3.wext (WE.wr (.inr hp))⟩
 ·obtain⟨u,e⟩:=S.zo a ha;by_cases hz:a=p;exact⟨ys,by rw[hz];exact qm⟩;exact⟨u,by rw[qT hz];exact e⟩
structure Sh (b b':Bz):Prop where
 ix:∀(i:Nat) (a:Addr),b.b[i]? = some a->b'.b[i]? = some a
 out:∀a,b.out a->b'.out a
mutual
theorem RV.sh{K:W.Frag}{H:Hp}{b b':Bz}(e:Sh b b'):∀(p:PV) {v:V},RV K H b p v->RV K H b' p v| .non,_,h=>by unfold RV at h ⊢;exact h| .bl _,_,h=>by unfold RV at h ⊢;exact h| .int _,_,h=>by unfold RV at h ⊢;exact h| .str _,_,h=>by unfold RV at h ⊢;exact h| .tup l,_,h=>by unfold RV at h ⊢;obtain⟨a,xs,h1,h2,h3⟩:=h;exact⟨a,xs,h1,h2.elim (fun q=>.inl ⟨q.1,e.out a q.2⟩) .inr,RVs.sh e l h3⟩| .lst l,_,h=>by unfold RV at h ⊢;obtain⟨a,xs,h1,h2,h3⟩:=h;exact⟨a,xs,h1,h2.elim (fun q=>.inl ⟨q.1,e.out a q.2⟩) .inr,RVs.sh e l h3⟩| .ref i,_,h=>by unfold RV at h ⊢;obtain⟨a,h1,h2⟩:=h;exact⟨a,h1,e.ix i a h2⟩| .ty _,_,h=>by unfold RV at h ⊢;exact h| .fn _,_,h=>by unfold RV at h ⊢;exact h| .exc _ _,_,h=>by unfold RV at h ⊢;obtain⟨a,o,u,h1,h2,h3,h4,h6,h5⟩:=h;exact⟨a,o,u,h1,h2,e.out a h3,h4,h6,h5.imp id fun⟨d,q1,q2,q3⟩=>⟨d,q1,q2,e.out d q3⟩⟩| .dct,_,h=>by unfold RV at h ⊢;obtain⟨a,h1,h2,h3⟩:=h;exact⟨a,h1,h2,e.out a h3⟩
theorem RVs.sh{K:W.Frag}{H:Hp}{b b':Bz}(e:Sh b b'):∀(l:List PV) {xs:List V},RVs K H b l xs->RVs K H b' l xs|[],_,h=>by unfold RVs at h ⊢;exact h|p::ps,_,h=>by unfold RVs at h ⊢;obtain⟨x,r,h1,h2,h3⟩:=h;exact⟨x,r,h1,RV.sh e p h2,RVs.sh e ps h3⟩
end
theorem SOk.sh{K:W.Frag}{H:Hp}{b b':Bz}(e:Sh b b'):∀{x:SO} {o:HO},SOk K H b x o->SOk K H b' x o| .l xs,_,⟨vs,h,r⟩=>⟨vs,h,RVs.sh e xs r⟩| .d kvs,_,⟨vs,h,q,r⟩=>⟨vs,h,q,RVs.sh e _ r⟩| .z kvs,_,⟨od,vs,h,q,r⟩=>⟨od,vs,h,q,RVs.sh e _ r⟩
theorem Sh.bare{b:List Addr}{p:Addr}{z:List Addr}:Sh ⟨b,p::z⟩ ⟨b,z⟩:=⟨fun _ _ h=>h,fun a h=>⟨h.1,fun q=>h.2 (AI _ q)⟩⟩
theorem Sh.slot{b:List Addr}{p:Addr}{z:List Addr}:Sh ⟨b,p::z⟩ ⟨b++[p],z⟩:=⟨fun i a h=>by
  rw[Ae (AQ.mp h).1];exact h,fun a h=>⟨fun q=>(A1.mp q).elim h.1 fun q=>h.2 (by rw[Al.mp q];exact AK),fun q=>h.2 (AI _ q)⟩⟩
theorem RV.hide{K:W.Frag}{H:Hp}{b z:List Addr}{p:Addr}{o:HO}(hp:H p=none)(q:PV){v:V}(h:RV K H ⟨b,z⟩ q v):RV K (upd H p o) ⟨b,p::z⟩ q v:=hd q h
where
 outp {a:Addr} {u:HO} (e:H a=some u) (h:Bz.out ⟨b,z⟩ a):Bz.out ⟨b,p::z⟩ a:=⟨h.1,fun q=>(AH.mp q).elim (fun q=>by subst q;rw[hp]at e;cases e) h.2⟩
 rdd {a:Addr} {u:HO} (h:Rd H a u∧Bz.out ⟨b,z⟩ a):Rd (upd H p o) a u∧Bz.out ⟨b,p::z⟩ a:=by
  obtain⟨w,hw⟩:=Rd.some_of h.1;refine⟨?_,outp hw h.2⟩;rcases h.1 with q|⟨o',q⟩
  ·exact .inl (by rw[qT (qU q hp)];exact q)
  ·exact .inr ⟨o',by rw[qT (qU q hp)];exact q⟩
 hd:∀(q:PV) {v:V},RV K H ⟨b,z⟩ q v->RV K (upd H p o) ⟨b,p::z⟩ q v
 | .non,_,h=>by unfold RV at h ⊢;exact h
 | .bl _,_,h=>by unfold RV at h ⊢;exact h
 | .int _,_,h=>by unfold RV at h ⊢;exact h
 | .str _,_,h=>by unfold RV at h ⊢;exact h
 | .tup l,_,h=>by unfold RV at h ⊢;obtain⟨a,xs,h1,h2,h3⟩:=h;exact⟨a,xs,h1,h2.elim (fun q=>.inl ⟨by rw[qT (qU q.1 hp)];exact q.1,outp q.1 q.2⟩) .inr,hds l h3⟩
 | .lst l,_,h=>by unfold RV at h ⊢;obtain⟨a,xs,h1,h2,h3⟩:=h;exact⟨a,xs,h1,h2.elim (fun q=>.inl (rdd q)) .inr,hds l h3⟩
 | .ref i,_,h=>by unfold RV at h ⊢;exact h
 | .ty _,_,h=>by unfold RV at h ⊢;exact h
 | .fn _,_,h=>by unfold RV at h ⊢;exact h
 | .exc _ _,_,h=>by unfold RV at h ⊢;obtain⟨a,o',u,h1,h2,h3,h4,h6,h5⟩:=h;exact⟨a,o',u,h1,by rw[qT (qU h2 hp)];exact h2,outp h2 h3,h4,h6,h5.imp id fun⟨d,q1,q2,q3⟩=>⟨d,q1,by rw[qT (qU q2 hp)];exact q2,outp q2 q3⟩⟩
 | .dct,_,h=>by unfold RV at h ⊢;obtain⟨a,h1,h2,h3⟩:=h;exact⟨a,h1,by rw[qT (qU h2 hp)];exact h2,outp h2 h3⟩
 hds:∀(l:List PV) {xs:List V},RVs K H ⟨b,z⟩ l xs->RVs K (upd H p o) ⟨b,p::z⟩ l xs
 |[],_,h=>by unfold RVs at h ⊢;exact h
 |q::ps,_,h=>by unfold RVs at h ⊢;obtain⟨x,r,h1,h2,h3⟩:=h;exact⟨x,r,h1,hd q h2,hds ps h3⟩
theorem SR.hide{K:W.Frag}{H:Hp}{b z:List Addr}{st:qC}(S:SR K H ⟨b,z⟩ st){p:Addr}{ys:List V}(hp:H p=none):SR K (upd H p (.lst ys)) ⟨b,p::z⟩ st:=by
 have hn:=S.new_notin hp;refine⟨S.len,S.nd,fun i x hx=>?_,fun a ha=>?_,fun a ha=>?_⟩
 ·obtain⟨a,u,h1,h2,h3⟩:=S.at_ i x hx;refine⟨a,u,h1,by rw[qT (qU h2 hp)];exact h2,?_⟩;cases x with|l xs=>obtain⟨vs,e1,e2⟩:=h3;exact⟨vs,e1,RV.hide.hds hp xs e2⟩|d kvs=>obtain⟨vs,e1,e2,e3⟩:=h3;exact⟨vs,e1,e2,RV.hide.hds hp _ e3⟩|z kvs=>obtain⟨od,vs,e1,e2,e3⟩:=h3;exact⟨od,vs,e1,e2,RV.hide.hds hp _ e3⟩
 ·rcases AH.mp ha with rfl|ha
  ·exact⟨ys,qm⟩
  ·obtain⟨u,e⟩:=S.zo a ha;exact⟨u,by rw[qT (qU e hp)];exact e⟩
 ·rcases AH.mp ha with rfl|ha
  ·exact hn.1
  ·exact S.zb a ha
theorem SR.bare{K:W.Frag}{H:Hp}{b z:List Addr}{st:qC}{p:Addr}(S:SR K H ⟨b,p::z⟩ st):SR K H ⟨b,z⟩ st :=
 ⟨S.len,S.nd,fun i x hx=>by
  obtain⟨a,u,h1,h2,h3⟩:=S.at_ i x hx;exact⟨a,u,h1,h2,h3.sh Sh.bare⟩,fun a ha=>S.zo a (AI _ ha),fun a ha=>S.zb a (AI _ ha)⟩
theorem SR.slot{K:W.Frag}{H:Hp}{b z:List Addr}{st:qC}{p:Addr}{x:SO}{o:HO}(S:SR K H ⟨b,p::z⟩ st)(hz:p∉z)(ho:H p=some o)(hx:SOk K H ⟨b,p::z⟩ x o):SR K H ⟨b++[p],z⟩ (st++[x]):=by
 have hp:p∉b:=S.zb p AK;refine⟨by simp[show b.length=st.length from S.len],?_,fun i y hy=>?_,fun a ha=>S.zo a (AI _ ha),fun a ha hm=>?_⟩;exact List.nodup_append.mpr ⟨S.nd,by simp,fun a ha c hc=>by rw[Al.mp hc];intro z;subst z;exact hp ha⟩
 ·by_cases hi:i<st.length;rw[Ae hi]at hy;obtain⟨a,u,h1,h2,h3⟩:=S.at_ i y hy;exact⟨a,u,Sh.slot.ix i a h1,h2,h3.sh Sh.slot⟩
  ·have hi':i=st.length:=by
    have:=(AQ.mp hy).1
    rw[AO,Am]at this;omega
   subst hi';have e1:(st++[x])[st.length]? = some x:=by simp
   rw[e1]at hy;cases hy;have hl:b.length=st.length:=S.len;exact⟨p,o,by show (b++[p])[st.length]? = some p;rw[←hl];simp,ho,hx.sh Sh.slot⟩
 ·rcases A1.mp hm with q|q
  ·exact S.zb a (AI _ ha) q
  ·rw[Al.mp q]at ha;exact hz ha
def REnv(K:W.Frag)(H:Hp)(b:Bz)(r:qk)(s:L2.St):Prop:=r.length=s.length∧∀(i:Nat) (p:PV),r[i]? = some (some p)->∃v,s[i]? = some (some v)∧RV K H b p v
theorem REnv.wext{K:W.Frag}{H H':Hp}{b b':Bz}{r:qk}{s:L2.St}(h:REnv K H b r s)(e:WE H b H' b'):REnv K H' b' r s:=⟨h.1,fun i p q=>by
 obtain⟨v,h1,h2⟩:=h.2 i p q;exact⟨v,h1,RV.wext e p h2⟩⟩
theorem REnv.ext{K:W.Frag}{H H':Hp}{b b':Bz}{r:qk}{s:L2.St}(h:REnv K H b r s)(e:Ext H b H' b'):REnv K H' b' r s:=⟨h.1,fun i p q=>by
 obtain⟨v,h1,h2⟩:=h.2 i p q;exact⟨v,h1,RV.ext e p h2⟩⟩
theorem REnv.set{K:W.Frag}{H:Hp}{b:Bz}{r:qk}{s:L2.St}{p:PV}{v:V}(h:REnv K H b r s)(hv:RV K H b p v)(i:Nat):REnv K H b (r.set i (some p)) (s.set i (some v)):=by
 refine⟨by simp[h.1],fun j q hq=>?_⟩;by_cases hj:i=j
 ·subst hj;have hl:i<r.length:=by
   have:=(AQ.mp hq).1
   simpa using this
  rw[A5 hl]at hq;cases hq;exact⟨v,by rw[A5 (by rw[←h.1];exact hl)],hv⟩
 ·rw[BB hj]at hq;obtain⟨w,h1,h2⟩:=h.2 j q hq;exact⟨w,by rw[BB hj];exact h1,h2⟩
def RX(K:W.Frag)(H:Hp)(b:Bz)(x:Exc)(c:Value)(d:Option Addr):Prop :=
 c= .ref x.cls∧((x.fs=[]∧d=none)∨∃a,d=some a∧H a=some (.xd (x.fs.map fun p=>(p.1,V.int p.2)))∧b.out a)
def XP(K:W.Frag)(E:XK)(H:Hp)(b:Bz)(x:Exc)(st:qC):Prop:=∀c d H' b',Ext H b H' b'->SR K H' b' st->RX K H' b' x c d->E c d H'
theorem XP.ext{K:W.Frag}{E:XK}{H H1:Hp}{b b1:Bz}{x:Exc}{st:qC}(h:XP K E H b x st)(e:Ext H b H1 b1):XP K E H1 b1 x st:=fun c d H' b' e' S r=>h c d H' b' (e.trans e') S r
def PostE(K:W.Frag)(E:XK)(H:Hp)(b:Bz)(r:Rs PV)(Q:VK):Prop:=match r with| .ok p st=>∀v H' b',Ext H b H' b'->SR K H' b' st->RV K H' b' p v->Q v H'| .ex x st=>XP K E H b x st| .no=>False
def PostA(K:W.Frag)(E:XK)(H:Hp)(b:Bz)(r:Rs (List PV))(Q:List V->Hp->Prop):Prop:=match r with| .ok ps st=>∀vs H' b',Ext H b H' b'->SR K H' b' st->RVs K H' b' ps vs->Q vs H'| .ex x st=>XP K E H b x st| .no=>False
def PostT(K:W.Frag)(E:XK)(H:Hp)(b:Bz)(r:Rs Bool)(Q:Bool->Hp->Prop):Prop:=match r with| .ok k st=>∀H' b',Ext H b H' b'->SR K H' b' st->Q k H'| .ex x st=>XP K E H b x st| .no=>False
def PostS(K:W.Frag)(E:XK)(H:Hp)(b:Bz)(r:RS)(D:Ends):Prop:=match r with| .nx e st=>∀s H' b',Ext H b H' b'->SR K H' b' st->REnv K H' b' e s->D.nx s H'| .bk e st=>∀s H' b',Ext H b H' b'->SR K H' b' st->REnv K H' b' e s->D.bk s H'| .ct e st=>∀s H' b',Ext H b H' b'->SR K H' b' st->REnv K H' b' e s->D.ct s H'| .rt p st=>∀v H' b',Ext H b H' b'->SR K H' b' st->RV K H' b' p v->D.rt v H'| .ex x st=>XP K E H b x st| .no=>False
theorem PostE.ext{K:W.Frag}{E:XK}{H H1:Hp}{b b1:Bz}{r:Rs PV}{Q:VK}(h:PostE K E H b r Q)(e:Ext H b H1 b1):PostE K E H1 b1 r Q:=by
 cases r with|ok p st=>exact fun v H' b' e'=>h v H' b' (e.trans e')|ex x st=>exact XP.ext h e|no=>exact h
theorem PostA.ext{K:W.Frag}{E:XK}{H H1:Hp}{b b1:Bz}{r:Rs (List PV)}{Q:List V->Hp->Prop}(h:PostA K E H b r Q)(e:Ext H b H1 b1):PostA K E H1 b1 r Q:=by
 cases r with|ok p st=>exact fun v H' b' e'=>h v H' b' (e.trans e')|ex x st=>exact XP.ext h e|no=>exact h
theorem PostT.ext{K:W.Frag}{E:XK}{H H1:Hp}{b b1:Bz}{r:Rs Bool}{Q:Bool->Hp->Prop}(h:PostT K E H b r Q)(e:Ext H b H1 b1):PostT K E H1 b1 r Q:=by
 cases r with|ok p st=>exact fun H' b' e'=>h H' b' (e.trans e')|ex x st=>exact XP.ext h e|no=>exact h
theorem PostS.ext{K:W.Frag}{E:XK}{H H1:Hp}{b b1:Bz}{r:RS}{D:Ends}(h:PostS K E H b r D)(e:Ext H b H1 b1):PostS K E H1 b1 r D:=by
 cases r with|nx p st=>exact fun v H' b' e'=>h v H' b' (e.trans e')|bk p st=>exact fun v H' b' e'=>h v H' b' (e.trans e')|ct p st=>exact fun v H' b' e'=>h v H' b' (e.trans e')|rt p st=>exact fun v H' b' e'=>h v H' b' (e.trans e')|ex x st=>exact XP.ext h e|no=>exact h
def rd(K:W.Frag)(E:XK)(f:FE):TE:=fun s H Q=>∃b r st,SR K H b st∧REnv K H b r s∧PostE K E H b (f r st) Q
def rdA(K:W.Frag)(E:XK)(f:FA):L2.TA:=fun s H Q=>∃b r st,SR K H b st∧REnv K H b r s∧PostA K E H b (f r st) Q
def rdT(K:W.Frag)(E:XK)(f:FT):TT:=fun s H Q=>∃b r st,SR K H b st∧REnv K H b r s∧PostT K E H b (f r st) Q
def rdS(K:W.Frag)(E:XK)(f:FS):TS:=fun D s H=>∃b r st,SR K H b st∧REnv K H b r s∧PostS K E H b (f r st) D
abbrev VE(X:Cx)(E:XK)(e:Expr)(f:FE):Prop:=PE X e (rd X.K E f)
abbrev VA(X:Cx)(E:XK)(e:List Expr)(f:FA):Prop:=PA X e (rdA X.K E f)
abbrev VT(X:Cx)(E:XK)(e:Expr)(f:FT):Prop:=PT X e (rdT X.K E f)
abbrev VS(X:Cx)(E:XK)(e:Stmt)(f:FS):Prop:=PS X e (rdS X.K E f)
abbrev VSs(X:Cx)(E:XK)(e:List Stmt)(f:FS):Prop:=PSs X e (rdS X.K E f)
theorem PE.imp{X:Cx}{e:Expr}{t t':TE}(h:PE X e t)(i:∀s H Q,t' s H Q->t s H Q):PE X e t':=fun pins s σ H Q I q=>h pins s σ H Q I (i _ _ _ q)
theorem PT.imp{X:Cx}{e:Expr}{t t':TT}(h:PT X e t)(i:∀s H Q,t' s H Q->t s H Q):PT X e t':=fun pins s σ H Q I q=>h pins s σ H Q I (i _ _ _ q)
theorem PA.imp{X:Cx}{e:List Expr}{t t':L2.TA}(h:PA X e t)(i:∀s H Q,t' s H Q->t s H Q):PA X e t':=fun pos pins s σ H Q I q=>h pos pins s σ H Q I (i _ _ _ q)
theorem PS.imp{X:Cx}{e:Stmt}{t t':TS}(h:PS X e t)(i:∀D s H,t' D s H->t D s H):PS X e t':=fun pins s σ H D I q=>h pins s σ H D I (i _ _ _ q)
theorem PSs.imp{X:Cx}{e:List Stmt}{t t':TS}(h:PSs X e t)(i:∀D s H,t' D s H->t D s H):PSs X e t':=fun pins s σ H D I q=>h pins s σ H D I (i _ _ _ q)
theorem PostE.bind{K:W.Frag}{E:XK}{H:Hp}{b:Bz}{r:Rs PV}{k:PV->qC->Rs PV}{Q R:VK}(P:PostE K E H b (r.bind k) Q)
  (h:∀p st v H1 b1,Ext H b H1 b1->SR K H1 b1 st->RV K H1 b1 p v->PostE K E H1 b1 (k p st) Q->R v H1):PostE K E H b r R:=by
 cases r with|ok p st=>exact fun v H1 b1 e S r=>h p st v H1 b1 e S r (PostE.ext (show PostE K E H b (k p st) Q from P) e)|ex x st=>exact P|no=>exact P
theorem PostE.bindT{K:W.Frag}{E:XK}{H:Hp}{b:Bz}{r:Rs PV}{k:PV->qC->Rs Bool}{Q:Bool->Hp->Prop}{R:VK}(P:PostT K E H b (r.bind k) Q)
  (h:∀p st v H1 b1,Ext H b H1 b1->SR K H1 b1 st->RV K H1 b1 p v->PostT K E H1 b1 (k p st) Q->R v H1):PostE K E H b r R:=by
 cases r with|ok p st=>exact fun v H1 b1 e S r=>h p st v H1 b1 e S r (PostT.ext (show PostT K E H b (k p st) Q from P) e)|ex x st=>exact P|no=>exact P
theorem PostT.bindT{K:W.Frag}{E:XK}{H:Hp}{b:Bz}{r:Rs Bool}{k:Bool->qC->Rs Bool}{Q R:Bool->Hp->Prop}(P:PostT K E H b (r.bind k) Q)
  (h:∀p st H1 b1,Ext H b H1 b1->SR K H1 b1 st->PostT K E H1 b1 (k p st) Q->R p H1):PostT K E H b r R:=by
 cases r with|ok p st=>exact fun H1 b1 e S=>h p st H1 b1 e S (PostT.ext (show PostT K E H b (k p st) Q from P) e)|ex x st=>exact P|no=>exact P
theorem PostA.bind{K:W.Frag}{E:XK}{H:Hp}{b:Bz}{r:Rs (List PV)}{k:List PV->qC->Rs PV}{Q:VK}{R:List V->Hp->Prop}(P:PostE K E H b (r.bind k) Q)
  (h:∀p st v H1 b1,Ext H b H1 b1->SR K H1 b1 st->RVs K H1 b1 p v->PostE K E H1 b1 (k p st) Q->R v H1):PostA K E H b r R:=by
 cases r with|ok p st=>exact fun v H1 b1 e S r=>h p st v H1 b1 e S r (PostE.ext (show PostE K E H b (k p st) Q from P) e)|ex x st=>exact P|no=>exact P
theorem PostE.bindA{K:W.Frag}{E:XK}{H:Hp}{b:Bz}{r:Rs PV}{k:PV->qC->Rs (List PV)}{Q:List V->Hp->Prop}{R:VK}(P:PostA K E H b (r.bind k) Q)
  (h:∀p st v H1 b1,Ext H b H1 b1->SR K H1 b1 st->RV K H1 b1 p v->PostA K E H1 b1 (k p st) Q->R v H1):PostE K E H b r R:=by
 cases r with|ok p st=>exact fun v H1 b1 e S r=>h p st v H1 b1 e S r (PostA.ext (show PostA K E H b (k p st) Q from P) e)|ex x st=>exact P|no=>exact P
theorem PostA.bindA{K:W.Frag}{E:XK}{H:Hp}{b:Bz}{r:Rs (List PV)}{k:List PV->qC->Rs (List PV)}{Q R:List V->Hp->Prop}(P:PostA K E H b (r.bind k) Q)
  (h:∀p st v H1 b1,Ext H b H1 b1->SR K H1 b1 st->RVs K H1 b1 p v->PostA K E H1 b1 (k p st) Q->R v H1):PostA K E H b r R:=by
 cases r with|ok p st=>exact fun v H1 b1 e S r=>h p st v H1 b1 e S r (PostA.ext (show PostA K E H b (k p st) Q from P) e)|ex x st=>exact P|no=>exact P
def Rs.bindS{α:Type}(r:Rs α)(k:α->qC->RS):RS:=match r with| .ok a st=>k a st| .ex x st=>.ex x st| .no=>.no
theorem PostE.bindS{K:W.Frag}{E:XK}{H:Hp}{b:Bz}{r:Rs PV}{k:PV->qC->RS}{D:Ends}{R:VK}(P:PostS K E H b (r.bindS k) D)
  (h:∀p st v H1 b1,Ext H b H1 b1->SR K H1 b1 st->RV K H1 b1 p v->PostS K E H1 b1 (k p st) D->R v H1):PostE K E H b r R:=by
 cases r with|ok p st=>exact fun v H1 b1 e S r=>h p st v H1 b1 e S r (PostS.ext (show PostS K E H b (k p st) D from P) e)|ex x st=>exact P|no=>exact P
theorem PostT.bindS{K:W.Frag}{E:XK}{H:Hp}{b:Bz}{r:Rs Bool}{k:Bool->qC->RS}{D:Ends}{R:Bool->Hp->Prop}(P:PostS K E H b (r.bindS k) D)
  (h:∀p st H1 b1,Ext H b H1 b1->SR K H1 b1 st->PostS K E H1 b1 (k p st) D->R p H1):PostT K E H b r R:=by
 cases r with|ok p st=>exact fun H1 b1 e S=>h p st H1 b1 e S (PostS.ext (show PostS K E H b (k p st) D from P) e)|ex x st=>exact P|no=>exact P
def asL(st:qC):PV->Option (List PV)
 | .lst l=>some l
 | .ref i=>match st[i]? with|some (.l xs)=>some xs|_=>none
 |_=>none
def asT:PV->Option (List PV)| .tup l=>some l|_=>none
def ZM(st:qC)(p:PV):Option (List PV):=match p with| .tup l=>some l|p=>asL st p
section
variable{K:W.Frag}{H:Hp}{b:Bz}{st:qC}{p:PV}{v:V}{l:List PV}
theorem we(S:SR K H b st)(r:RV K H b p v)(h:asL st p=some l):∃a xs,v= .ref a∧SqL K H a xs∧RVs K H b l xs:=by
 cases p with
 |lst m=>unfold RV at r;obtain⟨a,xs,h1,h2,h3⟩:=r;have e:m=l:=Ac h;subst e;exact⟨a,xs,h1,h2.sq,h3⟩
 |ref i =>
  unfold RV at r;obtain⟨a,h1,h2⟩:=r;unfold asL at h;dsimp only at h;cases q:st[i]? with
  |none=>rw[q]at h;cases h
  |some o =>
   cases o with|l ys=>rw[q]at h;have e:ys=l:=Ac h;subst e;obtain⟨a',o,e1,e2,vs,e3,e4⟩:=S.at_ i _ q;rw[h2]at e1;cases e1;subst e3;exact⟨a,vs,h1,SqL.of e2,e4⟩|d ys=>rw[q]at h;cases h|z ys=>rw[q]at h;cases h
 |_=>cases h
theorem Za(S:SR K H b st)(r:RV K H b p v)(h:ZM st p=some l):∃a xs,v= .ref a∧(SqL K H a xs∨SqT K H a xs)∧RVs K H b l xs:=by
 cases p with|tup m=>unfold RV at r;obtain⟨a,xs,h1,h2,h3⟩:=r;have e:m=l:=Ac h;subst e;exact⟨a,xs,h1,.inr h2.sq,h3⟩|lst m=>obtain⟨a,xs,h1,h2,h3⟩:=we S r h;exact⟨a,xs,h1,.inl h2,h3⟩|ref i=>obtain⟨a,xs,h1,h2,h3⟩:=we S r h;exact⟨a,xs,h1,.inl h2,h3⟩|_=>cases h
end
abbrev FL:=qk->qC->Rs (List PV)
def PostN(K:W.Frag)(E:XK)(H:Hp)(b:Bz)(r:Rs (List PV))(Q:VK):Prop:=match r with| .ok l st=>∀p xs H' b',Ext H b H' b'->H p=none->H' p=some (.lst xs)->p∉b'.z->SR K H' ⟨b'.b,p::b'.z⟩ st->RVs K H' ⟨b'.b,p::b'.z⟩ l xs->Q (.ref p) H'| .ex x st=>XP K E H b x st| .no=>False
def rdN(K:W.Frag)(E:XK)(f:FL):TE:=fun s H Q=>∃b r st,SR K H b st∧REnv K H b r s∧PostN K E H b (f r st) Q
abbrev VN(X:Cx)(E:XK)(e:Expr)(f:FL):Prop:=PE X e (rdN X.K E f)
def vFz(f:FL):FE:=fun r st=>(f r st).bind fun l s=>.ok (.lst l) s
theorem PostN.of{K:W.Frag}{E:XK}{H:Hp}{b:Bz}{r:Rs (List PV)}{Q:VK}(P:PostE K E H b (r.bind fun l s=>.ok (.lst l) s) Q):PostN K E H b r Q:=by
 cases r with|ok l st=>exact fun p xs H' b' e hn hp hz S r=>P _ H' b' e S.bare (by unfold RV;exact⟨p,xs,rfl,.inl ⟨.inl hp,S.zb p AK,hz⟩,RVs.sh Sh.bare l r⟩)|ex x st=>exact P|no=>exact P
theorem PostN.ext{K:W.Frag}{E:XK}{H H1:Hp}{b b1:Bz}{r:Rs (List PV)}{Q:VK}(h:PostN K E H b r Q)(e:Ext H b H1 b1):PostN K E H1 b1 r Q:=by
 cases r with|ok p st=>exact fun p xs H' b' e' hn=>h p xs H' b' (e.trans e') (e.none_of hn)|ex x st=>exact XP.ext h e|no=>exact h
theorem PostN.lay{K:W.Frag}{E:XK}{H:Hp}{b:Bz}{st:qC}{l:List PV}{xs:List V}{Q:VK}(P:PostN K E H b (.ok l st) Q)(S:SR K H b st)(r:RVs K H b l xs){p:Addr}(h:H p=none):Q (.ref p) (upd H p (.lst xs)) :=
 P p xs _ b (Ext.new h) h qm (S.new_notin h).2 (SR.hide S h) (RV.hide.hds h l r)
theorem PostE.layT{K:W.Frag}{E:XK}{H:Hp}{b:Bz}{st:qC}{l:List PV}{xs:List V}{Q:VK}(P:PostE K E H b (.ok (.tup l) st) Q)(S:SR K H b st)(r:RVs K H b l xs){p:Addr}(h:H p=none):Q (.ref p) (upd H p (.tup xs)) :=
 P _ _ b (Ext.new h) (S.new h) (by unfold RV;exact⟨p,xs,rfl,.inl ⟨qm,S.new_notin h⟩,RVs.ext (Ext.new h) l r⟩)
theorem PostE.here{K:W.Frag}{E:XK}{H:Hp}{b:Bz}{st:qC}{p:PV}{v:V}{Q:VK}(P:PostE K E H b (.ok p st) Q)(S:SR K H b st)(r:RV K H b p v):Q v H:=P v H b (Ext.refl H b) S r
section
variable{X:Cx}{E:XK}{e a c d:Expr}{es:List Expr}{f fa fb fc:FE}{pos:Pos}
theorem qx{f:FL}(h:VN X E e f):VE X E e (vFz f):=PE.imp h fun s H Q ⟨b,r,st,S,R,P⟩=>⟨b,r,st,S,R,PostN.of P⟩
def vC(p:PV):FE:=fun _ st=>.ok p st
def qB(i:Nat):FE:=fun r st=>match r[i]? with|some (some p)=>.ok p st|_=>.no
theorem qBE{p:PV}{v:V}(h:PE X e (tC v))(hv:∀H b,RV X.K H b p v):VE X E e (vC p):=PE.imp h fun s H Q ⟨b,r,st,S,R,P⟩=>PostE.here P S (hv H b)
theorem qK{i:Int}{j pos}:VE X E (.Constant (.int i) j pos) (vC (.int i)):=qBE qJV fun _ _=>by unfold RV;rfl
theorem w6{i:Bool}{j pos}:VE X E (.Constant (.bool i) j pos) (vC (.bl i)):=qBE qKN fun _ _=>by unfold RV;rfl
theorem qB2{j pos}:VE X E (.Constant .none j pos) (vC .non):=qBE qIe fun _ _=>by unfold RV;rfl
theorem QT{x:Str}{j pos}:VE X E (.Constant (.str x) j pos) (vC (.str x)):=qBE qE1 fun _ _=>by unfold RV;rfl
theorem W5{x:Str}{i:Int}{t:Tok}{pos:Pos}(hg:Gl X x)(hm:X.mg x=some (.int i t))(hd:(x==("__debug__":Str))=false:=by decide):VE X E (.Name x pos) (vC (.int i)) :=
 qBE (qCD (v:=.int i) hg hm ⟨t,rfl⟩ hd) fun _ _=>by unfold RV;rfl
theorem qLA{i:Nat}(h:PE X e (jE i)):VE X E e (qB i):=PE.imp h fun s H Q ⟨b,r,st,S,R,P⟩=>by
 unfold qB at P;cases q:r[i]? with
 |none=>rw[q]at P;exact False.elim P
 |some o =>
  cases o with|none=>rw[q]at P;exact False.elim P|some p=>rw[q]at P;obtain⟨v,h1,h2⟩:=R.2 i p q;exact⟨v,h1,PostE.here P S h2⟩
def qJ(g:PV->PV->qC->Rs PV)(fa fb:FE):FE:=fun r st=>(fa r st).bind fun p s1=>(fb r s1).bind fun q s2=>g p q s2
def OpG(X:Cx)(E:XK)(t:R2)(g:PV->PV->qC->Rs PV):Prop :=
 ∀(H:Hp) (b:Bz) (st:qC) (p q:PV) (u v:V) (Q:VK),SR X.K H b st->RV X.K H b p u->RV X.K H b q v->PostE X.K E H b (g p q st) Q->t u v H Q
theorem JA{t:R2}{g:PV->PV->qC->Rs PV}(hg:OpG X E t g):∀s H Q,rd X.K E (qJ g fa fb) s H Q->tOp t (rd X.K E fa) (rd X.K E fb) s H Q:=fun s H Q ⟨b,r,st,S,R,P⟩ =>
 ⟨b,r,st,S,R,PostE.bind P fun p s1 u H1 b1 e1 S1 r1 P1=>⟨b1,r,s1,S1,R.ext e1,PostE.bind P1 fun q s2 v H2 b2 e2 S2 r2 P2=>hg H2 b2 s2 p q u v Q S2 (RV.ext e2 p r1) r2 P2⟩⟩
theorem yH{op:Operator}{t:R2}{g:PV->PV->qC->Rs PV}(ho:OpR X (binaryOp op) t)(hg:OpG X E t g)(ha:VE X E a fa)(hb:VE X E c fb):VE X E (.BinOp a op c pos) (qJ g fa fb):=PE.imp (qH1 ho ha hb) (JA hg)
theorem JC{op:CmpOp}{t:R2}{g:PV->PV->qC->Rs PV}(ho:OpR X (compareOp op) t)(hg:OpG X E t g)(ha:VE X E a fa)(hb:VE X E c fb)(hm:behindInMarks op c=false:=by first|exact qBB _|with_unfolding_all rfl):VE X E (.Compare a [op] [c] pos) (qJ g fa fb):=PE.imp (qGz ho ha hb hm) (JA hg)
def gI(g:Int->Int->Option PV):PV->PV->qC->Rs PV:=fun p q st=>match p,q with
 | .int i,.int j=>match g i j with|some z=>.ok z st|none=>.no
 |_,_=>.no
theorem qE8{C:Int->Int->Prop}{h:Int->Int->V}{g:Int->Int->Option PV}(hg:∀i j z,g i j=some z->C i j∧∀H b,RV X.K H b z (h i j)):OpG X E (rI C h) (gI g):=by
 intro H b st p q u v Q S rp rq P;unfold gI at P;split at P
 ·rename_i i j;unfold RV at rp rq;split at P;rename_i z e;obtain⟨c,r⟩:=hg i j z e;exact⟨i,j,rp,rq,c,PostE.here P S (r H b)⟩;exact P.elim
 ·exact P.elim
theorem qAU{h:Int->Int->V}{g:Int->Int->PV}(hg:∀i j H b,RV X.K H b (g i j) (h i j)):OpG X E (rI0 h) (gI fun i j=>some (g i j)):=by
 intro H b st p q u v Q S rp rq P;unfold gI at P;split at P;rename_i i j;unfold RV at rp rq;exact⟨i,j,rp,rq,PostE.here P S (hg i j H b)⟩;exact P.elim
theorem QS{K:W.Frag}{H:Hp}{b:Bz}{i:Int}:RV K H b (.int i) (.int i):=by unfold RV;rfl
theorem W7{K:W.Frag}{H:Hp}{b:Bz}{i:Bool}:RV K H b (.bl i) (.bl i):=by unfold RV;rfl
def JU:=gI fun i j=>some (.int (i-j))
def WA:=gI fun i j=>if (-(2 ^ 64)<i∧i<2 ^ 64)∨(-(2 ^ 64)<j∧j<2 ^ 64) then some (.int (i*j)) else none
def qDU:=gI fun i j=>if 0<j∧j<1073741824 then some (.int (i/j)) else none
def Ww:=gI fun i j=>if 0<j then some (.int (i%j)) else none
def qDb:=gI fun i j=>if 0≤j∧j≤1000000∧i.natAbs<2 ^ 64 then some (.int (i ^ j.toNat)) else none
theorem qBc(ha:VE X E a fa)(hb:VE X E c fb):VE X E (.BinOp a .Sub c pos) (qJ JU fa fb):=yH qJ8 (qAU fun _ _ _ _=>QS) ha hb
theorem WC(ha:VE X E a fa)(hb:VE X E c fb):VE X E (.BinOp a .Mult c pos) (qJ WA fa fb):=yH qIw (qE8 fun i j z e=>by
 split at e;rename_i h;cases e;exact⟨h,fun _ _=>QS⟩;cases e) ha hb
theorem qBb(ha:VE X E a fa)(hb:VE X E c fb):VE X E (.BinOp a .FloorDiv c pos) (qJ qDU fa fb):=yH qG6 (qE8 fun i j z e=>by
 split at e;rename_i h;cases e;exact⟨h,fun _ _=>QS⟩;cases e) ha hb
theorem ZN(ha:VE X E a fa)(hb:VE X E c fb):VE X E (.BinOp a .Mod c pos) (qJ Ww fa fb):=yH qJZ (qE8 fun i j z e=>by
 split at e;rename_i h;cases e;exact⟨h,fun _ _=>QS⟩;cases e) ha hb
theorem qBu(ha:VE X E a fa)(hb:VE X E c fb):VE X E (.BinOp a .Pow c pos) (qJ qDb fa fb):=yH qIR (qE8 fun i j z e=>by
 split at e;rename_i h;cases e;exact⟨h,fun _ _=>QS⟩;cases e) ha hb
def QA:=gI fun i j=>some (.int (i+j))
theorem qy(ha:VE X E a fa)(hb:VE X E c fb):VE X E (.BinOp a .Add c pos) (qJ QA fa fb):=yH qIv (qAU fun _ _ _ _=>QS) ha hb
def yn:PV->PV->qC->Rs PV:=fun p q st=>match p,q with| .str x,.str y=>if x.length+y.length≤sizeLine then .ok (.str (x++y)) st else .no|_,_=>.no
theorem ZY(ha:VE X E a fa)(hb:VE X E c fb):VE X E (.BinOp a .Add c pos) (qJ yn fa fb):=yH qBv (fun H b st p q u v Q S rp rq P=>by
 unfold yn at P;split at P
 ·rename_i x y;unfold RV at rp rq;split at P;rename_i h;exact⟨x,y,rp,rq,h,PostE.here P S (by unfold RV;rfl)⟩;exact P.elim
 ·exact P.elim) ha hb
def gLt:=gI fun i j=>some (.bl (decide (i<j)))
def gLe:=gI fun i j=>some (.bl (decide (i≤j)))
def gGt:=gI fun i j=>some (.bl (decide (j<i)))
theorem qCs:OpG X E (rI0 fun i j=>.bl (decide (i<j))) gLt:=qAU fun _ _ _ _=>W7
theorem Zj:OpG X E (rI0 fun i j=>.bl (decide (i≤j))) gLe:=qAU fun _ _ _ _=>W7
theorem qIC:OpG X E (rI0 fun i j=>.bl (decide (j<i))) gGt:=qAU fun _ _ _ _=>W7
theorem qKl(ha:VE X E a fa)(hb:VE X E c fb):VE X E (.Compare a [.LtE] [c] pos) (qJ gLe fa fb):=JC Zf Zj ha hb
def Qf(g g':PV->PV->qC->Rs PV)(fa fb fc:FE):FE:=fun r st=>(fa r st).bind fun p s1=>(fb r s1).bind fun q s2=>(g p q s2).bind fun z s3=>match z with| .bl true=>(fc r s3).bind fun w s4=>g' q w s4| .bl false=>.ok (.bl false) s3|_=>.no
theorem zP{op op':CmpOp}{t t':R2}{g g':PV->PV->qC->Rs PV}(ho:OpR X (compareOp op) t)(ho':OpR X (compareOp op') t')(hg:OpG X E t g)(hg':OpG X E t' g')(ha:VE X E a fa)(hb:VE X E c fb)(hc:VE X E d fc)
  (hm:lastMarks [op,op'] [c,d]=false:=by with_unfolding_all rfl):VE X E (.Compare a [op,op'] [c,d] pos) (Qf g g' fa fb fc):=by
 refine PE.imp (qEW ho ho' ha hb hc hm) fun s H Q ⟨b,r,st,S,R,P⟩=>?_;refine⟨b,r,st,S,R,PostE.bind P fun p s1 u H1 b1 e1 S1 r1 P1=>⟨b1,r,s1,S1,R.ext e1,PostE.bind P1 fun q s2 v H2 b2 e2 S2 r2 P2=>?_⟩⟩;refine hg H2 b2 s2 p q u v _ S2 (RV.ext e2 p r1) r2 (PostE.bind P2 fun z s3 zv H3 b3 e3 S3 r3 P3=>?_);split at P3;unfold RV at r3;refine⟨true,r3,qD1 ⟨b3,r,s3,S3,((R.ext e1).ext e2).ext e3,PostE.bind P3 fun w s4 wv H4 b4 e4 S4 r4 P4=>?_⟩⟩;exact hg' H4 b4 s4 q w v wv Q S4 (RV.ext e4 q (RV.ext e3 q r2)) r4 P4;unfold RV at r3;exact⟨false,r3,qDW (PostE.here P3 S3 W7)⟩;exact P3.elim
def qGL(st:qC):PV->Option Bool| .non=>some false| .bl x=>some x| .int i=>some (i != 0)| .tup l=>some (!l.isEmpty)| .lst l=>some (!l.isEmpty)| .ref i=>(asL st (.ref i)).map fun l=> !l.isEmpty|_=>none
theorem qGK{K:W.Frag}{H:Hp}{b:Bz}{st:qC}{p:PV}{v:V}{k:Bool}(S:SR K H b st)(r:RV K H b p v)(h:qGL st p=some k):qHt K v H k:=by
 have emp:∀{l:List PV} {xs:List V},RVs K H b l xs->(!l.isEmpty)= !xs.isEmpty:=fun {l xs} q=>by
  have:=q.length
  cases l <;> cases xs <;> first|rfl|(simp at this)
 cases p with
 |non=>unfold RV at r;subst r;exact (Ac h).symm
 |bl x=>unfold RV at r;subst r;exact (Ac h).symm
 |int x=>unfold RV at r;subst r;exact (Ac h).symm
 |tup l=>unfold RV at r;obtain⟨a,xs,rfl,h2,h3⟩:=r;exact .inr (.inl ⟨xs,h2.sq,by rw[←emp h3];exact (Ac h).symm⟩)
 |lst l=>obtain⟨a,xs,rfl,h2,h3⟩:=we S r rfl;exact .inl ⟨xs,h2,by rw[←emp h3];exact (Ac h).symm⟩
 |ref i =>
  unfold qGL at h;dsimp only at h;cases q:asL st (.ref i) with|none=>rw[q]at h;cases h|some l=>rw[q]at h;obtain⟨a,xs,rfl,h2,h3⟩:=we S r q;exact .inl ⟨xs,h2,by rw[←emp h3];exact (Ac h).symm⟩
 |_=>cases h
def ql(f:FE):FT:=fun r st=>(f r st).bind fun p s=>match qGL s p with|some k=>.ok k s|none=>.no
theorem qGB{R:Bool->Hp->Prop}{s:L2.St}{H:Hp}(h:rdT X.K E (ql f) s H R):rd X.K E f s H fun x H'=>∃k,qHt X.K x H' k∧R k H':=by
 obtain⟨b,r,st,S,RE,P⟩:=h;refine⟨b,r,st,S,RE,PostE.bindT P fun p s1 u H1 b1 e1 S1 r1 P1=>?_⟩;split at P1;rename_i k e;exact⟨k,qGK S1 r1 e,P1 H1 b1 (Ext.refl _ _) S1⟩;exact P1.elim
theorem wN(h:VE X E e f)(he:∀whole,isTrue e X.env whole=(do let v ← whole;standAt e.pos;holding [v] (truthy v)):=by intro _;rfl):VT X E e (ql f):=PT.imp (qEK h he) fun s H Q q=>qGB q
def vTB(f:FE):FT:=fun r st=>(f r st).bind fun p s=>match p with| .bl k=>.ok k s|_=>.no
theorem qIE{R:Bool->Hp->Prop}{s:L2.St}{H:Hp}(h:rdT X.K E (vTB f) s H R):rd X.K E f s H fun x H'=>∃k,x= .bl k∧R k H':=by
 obtain⟨b,r,st,S,RE,P⟩:=h;refine⟨b,r,st,S,RE,PostE.bindT P fun p s1 u H1 b1 e1 S1 r1 P1=>?_⟩;split at P1;rename_i k;unfold RV at r1;exact⟨k,r1,P1 H1 b1 (Ext.refl _ _) S1⟩;exact P1.elim
theorem Qh{op:CmpOp}{t:R2}{g:PV->PV->qC->Rs PV}(ho:OpR X (compareOp op) t)(hg:OpG X E t g)(ha:VE X E a fa)(hb:VE X E c fb)(hm:behindInMarks op c=false:=by first|exact qBB _|with_unfolding_all rfl):VT X E (.Compare a [op] [c] pos) (vTB (qJ g fa fb)) :=
 PT.imp (qGP ho ha hb hm) fun s H Q q=>JA hg s H _ (qIE q)
theorem qFK{op op':CmpOp}{t t':R2}{g g':PV->PV->qC->Rs PV}(ho:OpR X (compareOp op) t)(ho':OpR X (compareOp op') t')(hg:OpG X E t g)(hg':OpG X E t' g')(ha:VE X E a fa)(hb:VE X E c fb)(hc:VE X E d fc)
  (hm:lastMarks [op,op'] [c,d]=false:=by with_unfolding_all rfl):VT X E (.Compare a [op,op'] [c,d] pos) (vTB (Qf g g' fa fb fc)):=by
 refine PT.imp (qFC ho ho' ha hb hc hm) fun s H Q q=>?_;obtain⟨b,r,st,S,R,P⟩:=qIE q;refine⟨b,r,st,S,R,PostE.bind P fun p s1 u H1 b1 e1 S1 r1 P1=>⟨b1,r,s1,S1,R.ext e1,PostE.bind P1 fun q s2 v H2 b2 e2 S2 r2 P2=>?_⟩⟩;refine hg H2 b2 s2 p q u v _ S2 (RV.ext e2 p r1) r2 (PostE.bind P2 fun z s3 zv H3 b3 e3 S3 r3 P3=>?_);split at P3;unfold RV at r3;refine⟨true,r3,qD1 ⟨b3,r,s3,S3,((R.ext e1).ext e2).ext e3,PostE.bind P3 fun w s4 wv H4 b4 e4 S4 r4 P4=>?_⟩⟩;exact hg' H4 b4 s4 q w v wv _ S4 (RV.ext e4 q (RV.ext e3 q r2)) r4 P4;unfold RV at r3;exact⟨false,r3,qDW (PostE.here P3 S3 W7)⟩;exact P3.elim
def Q1(f:FT):FT:=fun r st=>(f r st).bind fun k s=>.ok (!k) s
theorem wf{f:FT}(h:VT X E a f):VT X E (.UnaryOp .Not a pos) (Q1 f):=PT.imp (qI2 h) fun s H Q ⟨b,r,st,S,R,P⟩=>⟨b,r,st,S,R,PostT.bindT P fun k s1 H1 b1 e1 S1 P1=>P1 H1 b1 (Ext.refl _ _) S1⟩
abbrev VW(X:Cx)(E:XK)(e:Expr)(f:FT):Prop:=PW X e (rdT X.K E f)
theorem PW.imp{X:Cx}{e:Expr}{t t':TT}(h:PW X e t)(i:∀s H Q,t' s H Q->t s H Q):PW X e t':=fun w pins s σ H Q I q=>h w pins s σ H Q I (i _ _ _ q)
def wK(f g:FT):FT:=fun r st=>(f r st).bind fun k s=>if k=true then g r s else .ok false s
def zM(f g:FT):FT:=fun r st=>(f r st).bind fun k s=>if k=true then .ok true s else g r s
theorem JZ{f:FT}(h:VT X E a f):VW X E (.BoolOp .And [a] pos) f:=qHf h
theorem zG{f:FT}(h:VT X E a f):VW X E (.BoolOp .Or [a] pos) f:=qIT h
theorem Yx{f g:FT}{rest:List Expr}(h:VT X E a f)(h2:VW X E (.BoolOp .And (c::rest) pos) g):VW X E (.BoolOp .And (a::c::rest) pos) (wK f g):=PW.imp (qJj h h2) fun s H Q ⟨b,r,st,S,R,P⟩ =>
 ⟨b,r,st,S,R,PostT.bindT P fun k s1 H1 b1 e1 S1 P1=>by
  cases k with
  |true=>exact qD1 ⟨b1,r,s1,S1,R.ext e1,P1⟩
  |false=>exact qDW (P1 H1 b1 (Ext.refl _ _) S1)⟩
theorem zz{f g:FT}{rest:List Expr}(h:VT X E a f)(h2:VW X E (.BoolOp .Or (c::rest) pos) g):VW X E (.BoolOp .Or (a::c::rest) pos) (zM f g):=PW.imp (qKK h h2) fun s H Q ⟨b,r,st,S,R,P⟩ =>
 ⟨b,r,st,S,R,PostT.bindT P fun k s1 H1 b1 e1 S1 P1=>by
  cases k with
  |true=>exact qD1 (P1 H1 b1 (Ext.refl _ _) S1)
  |false=>exact qDW ⟨b1,r,s1,S1,R.ext e1,P1⟩⟩
theorem yU{f:FT}(h:VW X E e f):VT X E e f:=h.pt
def qJ7(f:FE):FE:=fun r st=>(f r st).bind fun p s=>match p with| .bl k=>.ok (.bl (!k)) s|_=>.no
theorem qFw(h:VE X E a fa):VE X E (.UnaryOp .Not a pos) (qJ7 fa):=PE.imp (qIh h) fun s H Q ⟨b,r,st,S,R,P⟩ =>
 ⟨b,r,st,S,R,PostE.bind P fun p s1 u H1 b1 e1 S1 r1 P1=>by
  split at P1;rename_i k;unfold RV at r1;exact⟨k,r1,PostE.here P1 S1 W7⟩;exact P1.elim⟩
def yo(f g:FE):FE:=fun r st=>(f r st).bind fun p s=>match p with| .bl true=>g r s| .bl false=>.ok (.bl false) s|_=>.no
theorem YX{op}(h:VE X E a fa):VE X E (.BoolOp op [a] pos) fa:=qJr h
theorem yY{rest:List Expr}(h:VE X E a fa)(h2:VE X E (.BoolOp .And (c::rest) pos) fb):VE X E (.BoolOp .And (a::c::rest) pos) (yo fa fb):=PE.imp (qJG h h2) fun s H Q ⟨b,r,st,S,R,P⟩ =>
 ⟨b,r,st,S,R,PostE.bind P fun p s1 u H1 b1 e1 S1 r1 P1=>by
  split at P1;unfold RV at r1;exact⟨true,r1,qD1 ⟨b1,r,s1,S1,R.ext e1,P1⟩⟩;unfold RV at r1;exact⟨false,r1,qDW (PostE.here P1 S1 W7)⟩;exact P1.elim⟩
def qD:FA:=fun _ st=>.ok [] st
def qA(f:FE)(g:FA):FA:=fun r st=>(f r st).bind fun p s=>(g r s).bind fun ps s'=>.ok (p::ps) s'
theorem qF:VA X E [] qD:=PA.imp yO fun s H Q ⟨b,r,st,S,R,P⟩=>P [] H b (Ext.refl _ _) S RVs.nil
theorem Q4{f:FE}{g:FA}(h:VE X E e f)(h2:VA X E es g)(hs:starEach (e::es) X.env=(false,eval e X.env)::starEach es X.env:=by rfl):VA X E (e::es) (qA f g):=PA.imp (zr h h2 hs) fun s H Q ⟨b,r,st,S,R,P⟩ =>
 ⟨b,r,st,S,R,PostE.bindA P fun p s1 u H1 b1 e1 S1 r1 P1=>⟨b1,r,s1,S1,R.ext e1,PostA.bindA P1 fun ps s2 us H2 b2 e2 S2 r2 P2=>P2 (u::us) H2 b2 (Ext.refl _ _) S2 (RVs.cons (RV.ext e2 p r1) r2)⟩⟩
def QC(g:FA):FE:=fun r st=>(g r st).bind fun ps s=>if ps.length≤sizeLine then .ok (.tup ps) s else .no
theorem qg{g:FA}{x1}(h:VA X E es g):VE X E (.Tuple es x1 pos) (QC g):=PE.imp (qJn h) fun s H Q ⟨b,r,st,S,R,P⟩ =>
 ⟨b,r,st,S,R,PostA.bind P fun ps s1 us H1 b1 e1 S1 r1 P1=>by
  split at P1;rename_i hl;exact⟨by rw[←r1.length];exact hl,fun p hp=>PostE.layT P1 S1 r1 hp⟩;exact P1.elim⟩
def wR(g:FA):FL:=fun r st=>(g r st).bind fun ps s=>if ps.length≤sizeLine then .ok ps s else .no
theorem PostA.bindN{K:W.Frag}{E:XK}{H:Hp}{b:Bz}{r:Rs (List PV)}{k:List PV->qC->Rs (List PV)}{Q:VK}{R:List V->Hp->Prop}(P:PostN K E H b (r.bind k) Q)
  (h:∀p st v H1 b1,Ext H b H1 b1->SR K H1 b1 st->RVs K H1 b1 p v->PostN K E H1 b1 (k p st) Q->R v H1):PostA K E H b r R:=by
 cases r with|ok p st=>exact fun v H1 b1 e S r=>h p st v H1 b1 e S r (PostN.ext (show PostN K E H b (k p st) Q from P) e)|ex x st=>exact P|no=>exact P
theorem PostE.bindN{K:W.Frag}{E:XK}{H:Hp}{b:Bz}{r:Rs PV}{k:PV->qC->Rs (List PV)}{Q:VK}{R:VK}(P:PostN K E H b (r.bind k) Q)
  (h:∀p st v H1 b1,Ext H b H1 b1->SR K H1 b1 st->RV K H1 b1 p v->PostN K E H1 b1 (k p st) Q->R v H1):PostE K E H b r R:=by
 cases r with|ok p st=>exact fun v H1 b1 e S r=>h p st v H1 b1 e S r (PostN.ext (show PostN K E H b (k p st) Q from P) e)|ex x st=>exact P|no=>exact P
theorem QU{g:FA}(h:VA X E es g):VN X E (.List es pos) (wR g):=PE.imp (qIb h) fun s H Q ⟨b,r,st,S,R,P⟩ =>
 ⟨b,r,st,S,R,PostA.bindN P fun ps s1 us H1 b1 e1 S1 r1 P1=>by
  split at P1;rename_i hl;exact⟨by rw[←r1.length];exact hl,fun p hp=>PostN.lay P1 S1 r1 hp⟩;exact P1.elim⟩
theorem qGq{K:W.Frag}{H:Hp}{b:Bz}{l:List PV}{xs:List V}{i:Int}{p:PV}(r:RVs K H b l xs)(h:atI l i=some p):∃x,atI xs i=some x∧RV K H b p x:=by
 unfold atI at h ⊢;rw[←r.length];cases q:ixN l.length i with|none=>rw[q]at h;cases h|some j=>rw[q]at h;exact r.get h
def gIx:PV->PV->qC->Rs PV:=fun p q st=>match q with
 | .int i=>match ZM st p with
  |some l=>match atI l i with|some z=>.ok z st|none=>.no
  |none=>.no
 |_=>.no
theorem qr(ha:VE X E a fa)(hb:VE X E c fb)(hs:qB3 c:=by exact fun _ _=>rfl):VE X E (.Subscript a c pos) (qJ gIx fa fb):=PE.imp (qK5 qJD ha hb hs) (JA fun H b st p q u v Q S rp rq P=>by
 unfold gIx at P;split at P
 ·rename_i i;unfold RV at rq;split at P
  ·rename_i l e;split at P
   ·rename_i z ez;obtain⟨x1,xs,h1,h2,h3⟩:=Za S rp e;obtain⟨x,h4,h5⟩:=qGq h3 ez;rcases h2 with h2|h2
    ·exact .inl ⟨x1,xs,i,x,h1,rq,h2,h4,PostE.here P S h5⟩
    ·exact .inr (.inl ⟨x1,xs,i,x,h1,rq,h2,h4,PostE.here P S h5⟩)
   ·exact P.elim
  ·exact P.elim
 ·exact P.elim)
def qH(g:List PV->qC->Rs PV)(t:FA):FE:=fun r st=>(t r st).bind fun ps s=>g ps s
def spG(K:W.Frag)(n:Nat)(g:List PV->qC->Rs PV):Sp:=fun vs H Q E=>vs.length=n∧∃b ps st,SR K H b st∧RVs K H b ps vs∧PostE K E H b (g ps st) Q
def qJz(X:Cx)(E:XK)(x:Str)(g:List PV->qC->Rs PV):Prop:=∀(p pos:Pos) (e:Expr) (es:List Expr) (t:FA),VA X E (e::es) t->starEach (e::es) X.env=(false,eval e X.env)::starEach es X.env->(backTo pos (starEach es X.env)).any (·.1)=false->VE X E (.Call (.Name x p) (e::es) [] pos) (qH g t)
theorem qW{x:Str}{g:List PV->qC->Rs PV}{t:FA}{p:Pos}(hc:qJz X E x g)(ha:VA X E (e::es) t)(he:starEach (e::es) X.env=(false,eval e X.env)::starEach es X.env:=by rfl)(hpl:(backTo pos (starEach es X.env)).any (·.1)=false:=by rfl):VE X E (.Call (.Name x p) (e::es) [] pos) (qH g t):=hc p pos e es t ha he hpl
theorem qLV{CX:CXT}{k n:Nat}{fa:Addr}{fd:FuncData}{ps:List Str}{x:Str}{g:List PV->qC->Rs PV}(F:FnOk X.prog X.w X.K X.mg X.base CX k fa fd ps (spG X.K ps.length g))(hr:Room k X.A)(hg:Gl X x)(hm:X.mg x=some (.ref fa))(hk:W.keepIn X.K (.ref fa)=true)
  (hb:Binds X.K fd ps []) (hx:ZO CX X E) (hlen:∀l st,g l st≠ .no->l.length=ps.length) (hdb:(x==("__debug__":Str))=false:=by decide):qJz X E x g:=fun p pos e es t ha he hpl =>
 PE.imp (qHX F hr hg hm hk hb .nil hx ha hdb he hpl) fun s H Q ⟨b,r,st,S,R,P⟩=>⟨b,r,st,S,R,PostA.bind P fun l s1 us H1 b1 e1 S1 r1 P1=>by
  have hne:g l s1≠ .no:=fun z=>by rw[z]at P1;exact P1
  rw[Au];exact⟨by rw[←r1.length];exact hlen l s1 hne,b1,l,s1,S1,r1,P1⟩⟩
def Zy(X:Cx)(E:XK)(t:List V->Hp->VK->Prop)(g:List PV->qC->Rs PV):Prop :=
 ∀(H:Hp) (b:Bz) (st:qC) (ps:List PV) (vs:List V) (Q:VK),SR X.K H b st->RVs X.K H b ps vs->PostE X.K E H b (g ps st) Q->t vs H Q
theorem Wc{x:Str}{id:String}{t:List V->Hp->VK->Prop}{g:List PV->qC->Rs PV}{ta:FA}{p:Pos}(hc:Wh X (.builtin id) t)(hG:Zy X E t g)(hg:Gl X x)(hm:X.mg x=none)(hv:bootBuiltins x=some (.builtin id))(ha:VA X E (e::es) ta)(hn:x ≠ "__name__" :=by decide)(hdb:(x==("__debug__":Str))=false:=by decide)
  (he:starEach (e::es) X.env=(false,eval e X.env)::starEach es X.env:=by rfl) (hpl:(backTo pos (starEach es X.env)).any (·.1)=false:=by rfl):VE X E (.Call (.Name x p) (e::es) [] pos) (qH g ta) :=
 PE.imp (qGI hc hg hm hv ha hn hdb he hpl) fun s H Q ⟨b,r,st,S,R,P⟩=>⟨b,r,st,S,R,PostA.bind P fun l s1 us H1 b1 e1 S1 r1 P1=>hG H1 b1 s1 l us Q S1 r1 P1⟩
theorem Zc{x:Str}{T:String}{t:List V->Hp->VK->Prop}{g:List PV->qC->Rs PV}{ta:FA}{p:Pos}(hc:Wh X (.type T) t)(hG:Zy X E t g)(hg:Gl X x)(hm:X.mg x=none)(hv:bootBuiltins x=some (.type T))(ha:VA X E (e::es) ta)(hn:x ≠ "__name__" :=by decide)(hdb:(x==("__debug__":Str))=false:=by decide)
  (he:starEach (e::es) X.env=(false,eval e X.env)::starEach es X.env:=by rfl) (hpl:(backTo pos (starEach es X.env)).any (·.1)=false:=by rfl):VE X E (.Call (.Name x p) (e::es) [] pos) (qH g ta) :=
 PE.imp (jW hc hg hm hv ha hn hdb he hpl) fun s H Q ⟨b,r,st,S,R,P⟩=>⟨b,r,st,S,R,PostA.bind P fun l s1 us H1 b1 e1 S1 r1 P1=>hG H1 b1 s1 l us Q S1 r1 P1⟩
theorem RVs.one{K:W.Frag}{H:Hp}{b:Bz}{p:PV}{vs:List V}(h:RVs K H b [p] vs):∃v,vs=[v]∧RV K H b p v:=by unfold RVs at h;obtain⟨x,r,rfl,h2,h3⟩:=h;unfold RVs at h3;subst h3;exact⟨x,rfl,h2⟩
theorem RVs.two{K:W.Frag}{H:Hp}{b:Bz}{p q:PV}{vs:List V}(h:RVs K H b [p,q] vs):∃v w,vs=[v,w]∧RV K H b p v∧RV K H b q w:=by unfold RVs at h;obtain⟨x,r,rfl,h2,h3⟩:=h;obtain⟨y,rfl,h4⟩:=RVs.one h3;exact⟨x,y,rfl,h2,h4⟩
def wu:List PV->qC->Rs PV:=fun ps st=>match ps with
 |[p]=>match ZM st p with|some l=>.ok (.int l.length) st|none=>.no
 |_=>.no
theorem qJl:Zy X E (fun xs H Q=>∃p ys,xs=[.ref p]∧(SqL X.K H p ys∨SqT X.K H p ys)∧Q (.int ys.length) H) wu:=by
 intro H b st ps vs Q S r P;unfold wu at P;split at P
 ·rename_i p;obtain⟨v,rfl,r1⟩:=RVs.one r;split at P;rename_i l e;obtain⟨a,xs,rfl,h2,h3⟩:=Za S r1 e;refine⟨a,xs,rfl,h2,?_⟩;rw[←h3.length];exact PostE.here P S QS;exact P.elim
 ·exact P.elim
def WM:List PV->qC->Rs PV:=fun ps st=>match ps with
 |[p]=>match ZM st p with|some l=>.ok (.tup l) st|none=>.no
 |_=>.no
theorem qEd:Zy X E (fun xs H Q=>∃p ys,xs=[.ref p]∧((SqL X.K H p ys∧∀l,H l=none->Q (.ref l) (upd H l (.tup ys)))∨(SqT X.K H p ys∧Q (.ref p) H))) WM:=by
 intro H b st ps vs Q S r P;unfold WM at P;split at P
 ·rename_i p;obtain⟨v,rfl,r1⟩:=RVs.one r;split at P
  ·rename_i l e;cases p with|tup m=>have e':m=l:=Ac e;subst e';have r0:=r1;unfold RV at r1;obtain⟨a,xs,rfl,h2,h3⟩:=r1;exact⟨a,xs,rfl,.inr ⟨h2.sq,PostE.here P S r0⟩⟩|lst m=>obtain⟨a,xs,rfl,h2,h3⟩:=we S r1 e;exact⟨a,xs,rfl,.inl ⟨h2,fun p hp=>PostE.layT P S h3 hp⟩⟩|ref i=>obtain⟨a,xs,rfl,h2,h3⟩:=we S r1 e;exact⟨a,xs,rfl,.inl ⟨h2,fun p hp=>PostE.layT P S h3 hp⟩⟩|_=>cases e
  ·exact P.elim
 ·exact P.elim
def qBn:List PV->qC->Rs PV:=fun ps st=>match ps with|[.int i]=>.ok (.int i) st|[.bl k]=>.ok (.int (if k then 1 else 0)) st|_=>.no
theorem qJd:Zy X E (fun xs H Q=>(∃i,xs=[.int i]∧Q (.int i) H)∨∃k,xs=[.bl k]∧Q (.int (if k then 1 else 0)) H) qBn:=by
 intro H b st ps vs Q S r P;unfold qBn at P;split at P;obtain⟨v,rfl,r1⟩:=RVs.one r;unfold RV at r1;subst r1;exact .inl ⟨_,rfl,PostE.here P S QS⟩;obtain⟨v,rfl,r1⟩:=RVs.one r;unfold RV at r1;subst r1;exact .inr ⟨_,rfl,PostE.here P S QS⟩;exact P.elim
def qEr:List PV->qC->Rs PV:=fun ps st=>match ps with|[.int i,.int j]=>.ok (.int (if j>i then j else i)) st|_=>.no
def J8:List PV->qC->Rs PV:=fun ps st=>match ps with|[.int i,.int j]=>.ok (.int (if j<i then j else i)) st|_=>.no
theorem qI6:Zy X E (fun xs H Q=>∃i j,xs=[.int i,.int j]∧Q (.int (if j>i then j else i)) H) qEr:=by
 intro H b st ps vs Q S r P;unfold qEr at P;split at P;obtain⟨v,w,rfl,r1,r2⟩:=RVs.two r;unfold RV at r1 r2;subst r1;subst r2;exact⟨_,_,rfl,PostE.here P S QS⟩;exact P.elim
theorem qJb:Zy X E (fun xs H Q=>∃i j,xs=[.int i,.int j]∧Q (.int (if j<i then j else i)) H) J8:=by
 intro H b st ps vs Q S r P;unfold J8 at P;split at P;obtain⟨v,w,rfl,r1,r2⟩:=RVs.two r;unfold RV at r1 r2;subst r1;subst r2;exact⟨_,_,rfl,PostE.here P S QS⟩;exact P.elim
def qH6:PV->qC->Rs (List PV):=fun p st=>match ZM st p with|some l=>.ok l st|none=>.no
def yB(f:FE):FL:=fun r st=>(f r st).bind qH6
theorem qHZ{p:Pos}(hg:Gl X "list")(hm:X.mg "list" = none)(hv:bootBuiltins "list" = some (.type "list"))(ha:VE X E e f)
  (he:starEach [e] X.env=(false,eval e X.env)::starEach [] X.env:=by rfl) (hpl:(backTo pos (starEach [] X.env)).any (·.1)=false:=by rfl):VN X E (.Call (.Name "list" p) [e] [] pos) (yB f) :=
 PE.imp (jW jv hg hm hv (zr ha yO he) (he:=he) (hpl:=hpl)) fun s H Q ⟨b,r,st,S,R,P⟩=>⟨b,r,st,S,R,PostE.bindN P fun q s1 u H1 b1 e1 S1 r1 P1=>by
  unfold qH6 at P1;split at P1;rename_i l el;obtain⟨a,xs,rfl,h2,h3⟩:=Za S1 r1 el;exact⟨a,xs,rfl,h2,fun p hp=>PostN.lay P1 S1 h3 hp⟩;exact P1.elim⟩
end
def QV:FS:=fun r st=>.nx r st
def qV(F G:FS):FS:=fun r st=>match F r st with| .nx r' st'=>G r' st'|o=>o
section
variable{X:Cx}{E:XK}{e a c d:Expr}{es:List Expr}{f fa fb fc:FE}{pos:Pos}{F G:FS}{s1:Stmt}{ss:List Stmt}
theorem QG:VSs X E [] QV:=PSs.imp qHn fun D s H ⟨b,r,st,S,R,P⟩=>P s H b (Ext.refl _ _) S R
theorem PostS.seq{K:W.Frag}{E:XK}{H:Hp}{b:Bz}{o:RS}{G:FS}{D:Ends}(P:PostS K E H b (match o with | .nx r' st'=>G r' st' |o=>o) D):PostS K E H b o { D with nx:=rdS K E G D }:=by
 cases o with|nx r st=>exact fun s H' b' e S R=>⟨b',r,st,S,R,PostS.ext (show PostS K E H b (G r st) D from P) e⟩|rt p st=>exact P|bk p st=>exact P|ct p st=>exact P|ex x st=>exact P|no=>exact P
theorem qO(h1:VS X E s1 F)(h2:VSs X E ss G):VSs X E (s1::ss) (qV F G):=PSs.imp (YY h1 h2) fun D s H ⟨b,r,st,S,R,P⟩=>⟨b,r,st,S,R,PostS.seq P⟩
theorem qS(h1:VS X E s1 F):VSs X E [s1] F:=qCt h1
def Wu(f:FE):FS:=fun r st=>(f r st).bindS fun _ s=>.nx r s
theorem JE(h:VE X E e f)(hs:swapsWith e none pos.line X.env=pure false:=by rfl):VS X E (.Expr e pos) (Wu f):=PS.imp (jn h hs) fun D s H ⟨b,r,st,S,R,P⟩ =>
 ⟨b,r,st,S,R,PostE.bindS P fun p s1 u H1 b1 e1 S1 r1 P1=>P1 s H1 b1 (Ext.refl _ _) S1 (R.ext e1)⟩
def qh(f:FE):FS:=fun r st=>(f r st).bindS fun p s=>.rt p s
theorem qf(h:VE X E e f):VS X E (.Return (some e) pos) (qh f):=PS.imp (qFA h) fun D s H ⟨b,r,st,S,R,P⟩ =>
 ⟨b,r,st,S,R,PostE.bindS P fun p s1 u H1 b1 e1 S1 r1 P1=>P1 u H1 b1 (Ext.refl _ _) S1 r1⟩
def yW(f:FL):FS:=fun r st=>(f r st).bindS fun l s=>.rt (.ref s.length) (s++[.l l])
def Qz(t:FT)(F G:FS):FS:=fun r st=>(t r st).bindS fun k s=>if k=true then F r s else G r s
theorem wG{t:FT}{bs cs:List Stmt}(hc:VT X E e t)(ha:VSs X E bs F)(hb:VSs X E cs G):VS X E (.If e bs cs pos) (Qz t F G):=PS.imp (qKC hc ha hb) fun D s H ⟨b,r,st,S,R,P⟩ =>
 ⟨b,r,st,S,R,PostT.bindS P fun k s1 H1 b1 e1 S1 P1=>by
  cases k with
  |true=>exact qD1 ⟨b1,r,s1,S1,R.ext e1,P1⟩
  |false=>exact qDW ⟨b1,r,s1,S1,R.ext e1,P1⟩⟩
def qb(i:Nat)(f:FE):FS:=fun r st=>(f r st).bindS fun p s=>.nx (r.set i (some p)) s
theorem qj(i:Nat){x:Str}{p':Pos}(hN:X.N.Nodup)(h:VE X E e f)(hi:X.N[i]? = some x:=by rfl)(hx:Loc X.env.scope x:=by first|exact Or.inl rfl|exact Or.inr rfl)(hs:swapsWith e (some (.Name x p')) pos.line X.env=pure false:=by rfl)(hf:X.fn x=true∨X.env.scope.names.lookup x=some .local:=by first|exact .inl rfl|exact .inr rfl|assumption) :
  VS X E (.Assign [.Name x p'] e pos) (qb i f):=PS.imp (qGH hN hi hx h hs hf) fun D s H ⟨b,r,st,S,R,P⟩ =>
 ⟨b,r,st,S,R,PostE.bindS P fun p s1 u H1 b1 e1 S1 r1 P1=>P1 _ H1 b1 (Ext.refl _ _) S1 ((R.ext e1).set r1 i)⟩
def zj(i:Nat)(f:FL):FS:=fun r st=>(f r st).bindS fun l s=>.nx (r.set i (some (.ref s.length))) (s++[.l l])
theorem Ext.adopt{H H':Hp}{b b':Bz}{p:Addr}(e:Ext H b H' b')(hn:H p=none):Ext H b H' ⟨b'.b++[p],b'.z⟩:=by
 obtain⟨n,hb,hh⟩:=e.more;refine⟨⟨⟨n++[p],by rw[hb,Av],fun a ha=>?_⟩,e.zm,e.keep,e.dom⟩,e.same,e.hid,e.fz⟩;rcases A1.mp ha with ha|ha
 ·exact hh a ha
 ·rw[Al.mp ha];exact hn
theorem PostN.bindS{K:W.Frag}{E:XK}{H:Hp}{b:Bz}{r:Rs (List PV)}{k:PV->qC->RS}{D:Ends}{R:VK}(P:PostS K E H b (r.bindS fun l s=>k (.ref s.length) (s++[.l l])) D)
  (h:∀q st v H1 b1,Ext H b H1 b1->SR K H1 b1 st->RV K H1 b1 q v->PostS K E H1 b1 (k q st) D->R v H1):PostN K E H b r R:=by
 cases r with|ok l st=>intro p xs H' b' e hn hp hz S rs;have e':=e.adopt hn;have hl:b'.b.length=st.length:=S.len;refine h (.ref st.length) (st++[.l l]) (.ref p) H' ⟨b'.b++[p],b'.z⟩ e' (S.slot (x:=.l l) hz hp ⟨xs,rfl,rs⟩) ?_ (PostS.ext (show PostS K E H b (k (.ref st.length) (st++[.l l])) D from P) e');unfold RV;exact⟨p,rfl,by show (b'.b++[p])[st.length]? = some p;rw[←hl];simp⟩|ex x st=>exact P|no=>exact P
theorem YB(i:Nat){f:FL}{x:Str}{p':Pos}(hN:X.N.Nodup)(h:VN X E e f)(hi:X.N[i]? = some x:=by rfl)(hx:Loc X.env.scope x:=by first|exact Or.inl rfl|exact Or.inr rfl)(hs:swapsWith e (some (.Name x p')) pos.line X.env=pure false:=by rfl)(hf:X.fn x=true∨X.env.scope.names.lookup x=some .local:=by first|exact .inl rfl|exact .inr rfl|assumption) :
  VS X E (.Assign [.Name x p'] e pos) (zj i f):=PS.imp (qGH hN hi hx h hs hf) fun D s H ⟨b,r,st,S,R,P⟩ =>
 ⟨b,r,st,S,R,PostN.bindS (k:=fun q s=>.nx (r.set i (some q)) s) P fun p s1 u H1 b1 e1 S1 r1 P1=>P1 _ H1 b1 (Ext.refl _ _) S1 ((R.ext e1).set r1 i)⟩
theorem qB4{f:FL}(h:VN X E e f):VS X E (.Return (some e) pos) (yW f):=PS.imp (qFA h) fun D s H ⟨b,r,st,S,R,P⟩ =>
 ⟨b,r,st,S,R,PostN.bindS (k:=fun q s=>.rt q s) P fun p s1 u H1 b1 e1 S1 r1 P1=>P1 u H1 b1 (Ext.refl _ _) S1 r1⟩
abbrev FG:=PV->qk->Option qk
abbrev FGs:=List PV->qk->Option qk
def rdG(K:W.Frag)(g:FG):TG:=fun v s H Q=>∃b r p st,SR K H b st∧REnv K H b r s∧RV K H b p v∧∃r',g p r=some r'∧∀s',REnv K H b r' s'->Q s' H
def qLd(K:W.Frag)(g:FGs):TGs:=fun v s H Q=>∃b r p st,SR K H b st∧REnv K H b r s∧RVs K H b p v∧∃r',g p r=some r'∧∀s',REnv K H b r' s'->Q s' H
abbrev VG(X:Cx)(e:Expr)(g:FG):Prop:=PG X e (rdG X.K g)
abbrev VGs(X:Cx)(e:List Expr)(g:FGs):Prop:=PGs X e (qLd X.K g)
theorem PG.imp{X:Cx}{e:Expr}{t t':TG}(h:PG X e t)(i:∀v s H Q,t' v s H Q->t v s H Q):PG X e t':=fun pins s σ H v u Q I r q=>h pins s σ H v u Q I r (i _ _ _ _ q)
theorem PGs.imp{X:Cx}{e:List Expr}{t t':TGs}(h:PGs X e t)(i:∀v s H Q,t' v s H Q->t v s H Q):PGs X e t':=fun pins s σ H v u Q I r q=>h pins s σ H v u Q I r (i _ _ _ _ q)
def QH(i:Nat):FG:=fun p r=>some (r.set i (some p))
theorem QK(i:Nat){x:Str}(hN:X.N.Nodup)(hi:X.N[i]? = some x:=by rfl)(hx:Loc X.env.scope x:=by first|exact Or.inl rfl|exact Or.inr rfl)(hf:X.fn x=true∨X.env.scope.names.lookup x=some .local:=by first|exact .inl rfl|exact .inr rfl|assumption):VG X (.Name x pos) (QH i) :=
 PG.imp (qGe hN hi hx hf) fun v s H Q ⟨b,r,p,st,S,R,rv,r',e,q⟩=>q _ (by cases e;exact R.set rv i)
def qHw:FGs:=fun l r=>match l with|[]=>some r|_=>none
def zy(g:FG)(gs:FGs):FGs:=fun l r=>match l with
 |p::ps=>match g p r with|some r'=>gs ps r'|none=>none
 |[]=>none
theorem j0:VGs X [] qHw:=PGs.imp qCR fun v s H Q ⟨b,r,p,st,S,R,rv,r',e,q⟩=>by
 cases p with|nil=>unfold RVs at rv;subst rv;cases e;exact⟨rfl,q s R⟩|cons _ _=>cases e
theorem wq{g:FG}{gs:FGs}(h1:VG X e g)(h2:VGs X es gs)(hs:(assignEach (e::es) X.env).map (·.2)=assign e X.env::(assignEach es X.env).map (·.2):=by rfl):VGs X (e::es) (zy g gs) :=
 PGs.imp (YS h1 h2 hs) fun v s H Q ⟨b,r,p,st,S,R,rv,r',e,q⟩=>by
  cases p with
  |nil=>cases e
  |cons p ps =>
   unfold RVs at rv;obtain⟨x,xr,rfl,h3,h4⟩:=rv;unfold zy at e;dsimp only at e;cases e2:g p r with|none=>rw[e2]at e;cases e|some r2=>rw[e2]at e;exact⟨x,xr,rfl,b,r,p,st,S,R,h3,r2,e2,fun s' R'=>⟨b,r2,ps,st,S,R',h4,r',e,q⟩⟩
def qEz(n:Nat)(gs:FGs):FG:=fun p r=>match p with| .tup l=>if l.length=n then gs l r else none|_=>none
theorem qBQ{k:Nat}{n:Nat}{gs:FGs}(hc:X.calm=true)(h:VGs X es gs)(hn:(assignEach es X.env).length=n:=by rfl)(hst:(assignEach es X.env).findIdx? (·.1)=none:=by rfl):VG X (.Tuple es k pos) (qEz n gs) :=
 PG.imp (qE6 hc h hn hst) fun v s H Q ⟨b,r,p,st,S,R,rv,r',e,q⟩=>by
  unfold qEz at e;split at e
  ·rename_i l;split at e;rename_i hl;unfold RV at rv;obtain⟨a,xs,rfl,h2,h3⟩:=rv;exact⟨a,xs,rfl,h2.sq,by rw[←h3.length];exact hl,b,r,l,st,S,R,h3,r',e,q⟩;cases e
  ·cases e
def jM(f:FE)(g:FG):FS:=fun r st=>(f r st).bindS fun p s=>match g p r with|some r'=>.nx r' s|none=>.no
theorem qAz{g:FG}(h:VE X E e f)(hg:VG X d g)(hs:swapsWithSole [d] e pos.line X.env=pure false:=by rfl)(hw:swappedStores [d] e X.env=pure none:=by rfl)
  (h1:(assignEach [d] X.env).map (·.2)=[assign d X.env]:=by rfl):VS X E (.Assign [d] e pos) (jM f g):=PS.imp (qA3 h hg hs hw h1) fun D s H ⟨b,r,st,S,R,P⟩ =>
 ⟨b,r,st,S,R,PostE.bindS P fun p s1 u H1 b1 e1 S1 r1 P1=>by
  cases e2:g p r with
  |none=>rw[e2]at P1;exact P1.elim
  |some r'=>rw[e2]at P1;exact⟨b1,r,p,s1,S1,R.ext e1,r1,r',e2,fun s' R'=>P1 s' H1 b1 (Ext.refl _ _) S1 R'⟩⟩
def qLw(i j:Nat)(t:FA):FS:=fun r st=>(t r st).bindS fun l s=>match l with|[p,q]=>.nx ((r.set i (some p)).set j (some q)) s|_=>.no
def WY(st:qC)(o i v:PV):Option qC:=match o,i with
 | .ref n,.int k=>match st[n]? with
  |some (.l xs)=>match ixN xs.length k with|some j=>some (st.set n (.l (xs.set j v)))|none=>none
  |_=>none
 |_,_=>none
def qCO(fo fi f:FE):FS:=fun r st=>(f r st).bindS fun p s1=>(fo r s1).bindS fun o s2=>(fi r s2).bindS fun i s3=>match WY s3 o i p with|some s4=>.nx r s4|none=>.no
theorem YI{K:W.Frag}{H:Hp}{b:Bz}{st st':qC}{o i p:PV}{ov iv v:V}{Q:Hp->Prop}(S:SR K H b st)(ro:RV K H b o ov)(ri:RV K H b i iv)(rp:RV K H b p v)(e:WY st o i p=some st')
  (q:∀H' b',Ext H b H' b'->SR K H' b' st'->Q H'):qII ov iv v H Q:=by
 unfold WY at e;split at e
 ·rename_i n k;split at e
  ·rename_i xs e1;split at e
   ·rename_i j e2;cases e;unfold RV at ro ri;obtain⟨a,rfl,ha⟩:=ro;obtain⟨a',o',h1,h2,vs,rfl,h4⟩:=S.at_ n _ e1;rw[ha]at h1;cases h1;have hm:a∈b.b:=Aq ha;refine⟨a,vs,k,j,rfl,ri,h2,by rw[←h4.length];exact e2,q _ b (Ext.wr hm S.zb (qI4 h2)) (S.wr (x:=.l (xs.set j p)) ha ⟨_,rfl,?_⟩)⟩;have ew:Ext H b (upd H a (.lst (vs.set j v))) b:=Ext.wr hm S.zb (qI4 h2);exact RVs.set (RV.ext ew p rp) j (RVs.ext ew xs h4)
   ·cases e
  ·cases e
 ·cases e
theorem qIZ{fo fi:FE}{o i:Expr}{tpos:Pos}(ho:VE X E o fo)(hi:VE X E i fi)(h:VE X E e f)
  (hs:swapsWithSole [.Subscript o i tpos] e pos.line X.env=pure false:=by rfl) (hw:swappedStores [.Subscript o i tpos] e X.env=pure none:=by rfl) (h1:(assignEach [.Subscript o i tpos] X.env).map (·.2)=[assign (.Subscript o i tpos) X.env]:=by rfl)
  (ha:∀v,assign (.Subscript o i tpos) X.env v=(do
   let ov ← holding [v] (eval o X.env);let iv ← holding [v,ov] (eval i X.env)
   standAt tpos
   holding [v,ov,iv] (setItem ov iv v)
   release [v,ov,iv] []):=by intro _;rfl):VS X E (.Assign [.Subscript o i tpos] e pos) (qCO fo fi f) :=
 PS.imp (qA3 h (qBL ho hi Yw ha) hs hw h1) fun D s H ⟨b,r,st,S,R,P⟩=>⟨b,r,st,S,R,PostE.bindS P fun p s1 u H1 b1 e1 S1 r1 P1 =>
  ⟨b1,r,s1,S1,R.ext e1,PostE.bindS P1 fun o s2 ou H2 b2 e2 S2 r2 P2=>⟨b2,r,s2,S2,(R.ext e1).ext e2,PostE.bindS P2 fun i s3 iu H3 b3 e3 S3 r3 P3=>by
   split at P3;rename_i s4 e4;exact YI S3 (RV.ext e3 o r2) r3 (RV.ext e3 p (RV.ext e2 p r1)) e4 fun H' b' e' S'=>P3 s H' b' e' S' ((((R.ext e1).ext e2).ext e3).ext e');exact P3.elim⟩⟩⟩
structure ItP where
 l:List PV
 G:qC->Prop
def Fz(H H':Hp):Prop:=∀a o u,H a=some (.frz o u)->H' a=some (.frz o u)
def yQ(K:W.Frag)(H0:Hp)(b0:Bz)(J:It)(w:ItP):Prop:=∀H1 b1 st1,WE H0 b0 H1 b1->Fz H0 H1->SR K H1 b1 st1->w.G st1 ->
 (∀(i:Nat) (p:PV),w.l[i]? = some p->J.go i H1∧∀x H2,J.yld i H1 x H2->Same H1 H2∧SR K H2 b1 st1∧RV K H2 b1 p x)∧∀i,w.l.length≤i->J.stop i H1
def PostI(K:W.Frag)(E:XK)(H:Hp)(b:Bz)(r:Rs ItP)(R:It->Hp->Prop):Prop:=match r with| .ok w st=>∀J H' b',Ext H b H' b'->SR K H' b' st->yQ K H' b' J w->R J H'| .ex x st=>XP K E H b x st| .no=>False
abbrev FI:=qk->qC->Rs ItP
def rdI(K:W.Frag)(E:XK)(f:FI):TI:=fun s H R=>∃b r st,SR K H b st∧REnv K H b r s∧PostI K E H b (f r st) R
abbrev VI(X:Cx)(E:XK)(tg e:Expr)(f:FI):Prop:=PI X tg e (rdI X.K E f)
theorem PostI.ext{K:W.Frag}{E:XK}{H H1:Hp}{b b1:Bz}{r:Rs ItP}{R:It->Hp->Prop}(h:PostI K E H b r R)(e:Ext H b H1 b1):PostI K E H1 b1 r R:=by
 cases r with|ok p st=>exact fun J H' b' e'=>h J H' b' (e.trans e')|ex x st=>exact XP.ext h e|no=>exact h
theorem PostE.bindI{K:W.Frag}{E:XK}{H:Hp}{b:Bz}{r:Rs PV}{k:PV->qC->Rs ItP}{Q:It->Hp->Prop}{R:VK}(P:PostI K E H b (r.bind k) Q)
  (h:∀p st v H1 b1,Ext H b H1 b1->SR K H1 b1 st->RV K H1 b1 p v->PostI K E H1 b1 (k p st) Q->R v H1):PostE K E H b r R:=by
 cases r with|ok p st=>exact fun v H1 b1 e S r=>h p st v H1 b1 e S r (PostI.ext (show PostI K E H b (k p st) Q from P) e)|ex x st=>exact P|no=>exact P
theorem PostA.bindI{K:W.Frag}{E:XK}{H:Hp}{b:Bz}{r:Rs (List PV)}{k:List PV->qC->Rs ItP}{Q:It->Hp->Prop}{R:List V->Hp->Prop}(P:PostI K E H b (r.bind k) Q)
  (h:∀p st v H1 b1,Ext H b H1 b1->SR K H1 b1 st->RVs K H1 b1 p v->PostI K E H1 b1 (k p st) Q->R v H1):PostA K E H b r R:=by
 cases r with|ok p st=>exact fun v H1 b1 e S r=>h p st v H1 b1 e S r (PostI.ext (show PostI K E H b (k p st) Q from P) e)|ex x st=>exact P|no=>exact P
def qHr(p:PV)(st:qC):Rs ItP:=match p with
 | .ref i=>match asL st (.ref i) with|some l=>.ok ⟨l,fun s=>s[i]? = some (.l l)⟩ st|none=>.no
 |p=>match ZM st p with|some l=>.ok ⟨l,fun _=>True⟩ st|none=>.no
def QM(f:FE):FI:=fun r st=>(f r st).bind qHr
theorem qFn{l tg:Expr}{tl:TE}(hl:PE X l tl):PI X tg l (fun σ H R=>tl σ H fun x H1=>∃a,x= .ref a∧(((∃xs,SqL X.K H1 a xs)∧R (Itl X.K a) H1)∨((∃xs,SqT X.K H1 a xs)∧R (Itt X.K a) H1))):=by
 intro pins s σ H R I h;refine thn (hl pins s σ H _ I h) fun v s1 ⟨x,H1,I1,r1,q1⟩=>?_;obtain⟨a,e,q⟩:=q1;subst e;cases r1;rcases q with⟨⟨xs,hq⟩,q⟩|⟨⟨xs,hq⟩,q⟩
 ·obtain⟨its,rv,p,hz⟩:=I1.list hq;refine wpAny_pyIter_list p.isList ?_;refine⟨s1.heap.objs.size,[s1.heap.objs.size],_,_,H1,rfl,I1.kept (t':=s1.toks) fun b o e=>AD _ e,qD6 a _,⟨_,AW _ rfl,rfl,rfl⟩,fun b hb=>?_,q⟩;have e:b=s1.heap.objs.size:=by simpa using hb
  subst e;exact I1.fpOk (AG _) (I1.hok.fresh (AG _))
 ·obtain⟨its,rv,p,hz⟩:=I1.tuple hq;refine wpAny_pyIter_tuple (show s1.heap.IsTuple a its.toArray from p) ?_;refine⟨s1.heap.objs.size,[s1.heap.objs.size],_,_,H1,rfl,I1.kept (t':=s1.toks) fun b o e=>AD _ e,qBF a _,⟨_,AW _ rfl,rfl,rfl⟩,fun b hb=>?_,q⟩;have e:b=s1.heap.objs.size:=by simpa using hb
  subst e;exact I1.fpOk (AG _) (I1.hok.fresh (AG _))
theorem jc{K:W.Frag}{H0:Hp}{b0:Bz}{a:Addr}{l:List PV}{G:qC->Prop}
  (h:∀H1 b1 st1,WE H0 b0 H1 b1->SR K H1 b1 st1->G st1->∃xs,SqL K H1 a xs∧RVs K H1 b1 l xs):yQ K H0 b0 (Itl K a) ⟨l,G⟩:=by
 intro H1 b1 st1 e _ S g;obtain⟨xs,hq,r⟩:=h H1 b1 st1 e S g;refine⟨fun i p hp=>?_,fun i hi=>⟨xs,hq,by rw[←r.length];exact hi⟩⟩;obtain⟨x,hx,rx⟩:=r.get hp;exact⟨⟨xs,x,hq,hx⟩,fun y H2 ⟨e2,hy⟩=>by
  subst e2
  have:=hy xs hq
  rw[hx]at this;cases this;exact⟨Same.refl _,S,rx⟩⟩
theorem qAY{K:W.Frag}{H0:Hp}{b0:Bz}{a:Addr}{l:List PV}{G:qC->Prop}
  (h:∀H1 b1 st1,WE H0 b0 H1 b1->SR K H1 b1 st1->G st1->∃xs,SqT K H1 a xs∧RVs K H1 b1 l xs):yQ K H0 b0 (Itt K a) ⟨l,G⟩:=by
 intro H1 b1 st1 e _ S g;obtain⟨xs,hq,r⟩:=h H1 b1 st1 e S g;refine⟨fun i p hp=>?_,fun i hi=>⟨xs,hq,by rw[←r.length];exact hi⟩⟩;obtain⟨x,hx,rx⟩:=r.get hp;exact⟨⟨xs,x,hq,hx⟩,fun y H2 ⟨e2,hy⟩=>by
  subst e2
  have:=hy xs hq
  rw[hx]at this;cases this;exact⟨Same.refl _,S,rx⟩⟩
theorem WL{tg:Expr}(h:VE X E e f):VI X E tg e (QM f):=fun pins s σ H R I q=>qFn h pins s σ H R I (by
 obtain⟨b,r,st,S,RE,P⟩:=q;refine⟨b,r,st,S,RE,PostE.bindI P fun p s1 u H1 b1 e1 S1 r1 P1=>?_⟩;unfold qHr at P1;split at P1
 ·rename_i i;split at P1;rename_i l el;have r0:=r1;unfold RV at r1;obtain⟨a,rfl,ha⟩:=r1;obtain⟨a',xs,e2,hq,hr⟩:=we S1 r0 el;cases e2;refine⟨a,rfl,.inl ⟨⟨xs,hq⟩,P1 _ H1 b1 (Ext.refl _ _) S1 (jc fun H2 b2 st2 e2 S2 g2=>?_)⟩⟩;obtain⟨a'',o,k1,k2,vs,rfl,k4⟩:=S2.at_ i _ g2;rw[e2.ix ha]at k1;cases k1;exact⟨vs,SqL.of k2,k4⟩;exact P1.elim
 ·split at P1
  ·rename_i l el;cases p with|tup m=>have em:m=l:=Ac el;subst em;unfold RV at r1;obtain⟨a,xs,rfl,h2,h3⟩:=r1;exact⟨a,rfl,.inr ⟨⟨xs,h2.sq⟩,P1 _ H1 b1 (Ext.refl _ _) S1 (qAY fun H2 b2 st2 e2 S2 _=>⟨xs,(h2.wext e2).sq,RVs.wext e2 m h3⟩)⟩⟩|lst m=>have em:m=l:=Ac el;subst em;unfold RV at r1;obtain⟨a,xs,rfl,h2,h3⟩:=r1;exact⟨a,rfl,.inl ⟨⟨xs,h2.sq⟩,P1 _ H1 b1 (Ext.refl _ _) S1 (jc fun H2 b2 st2 e2 S2 _=>⟨xs,(h2.wext e2).sq,RVs.wext e2 m h3⟩)⟩⟩|ref i=>rename_i hx;exact (hx i rfl).elim|_=>cases el
  ·exact P1.elim)
def yb(lo hi:Int):List PV:=(List.range (hi-lo).toNat).map fun (i:Nat)=>PV.int (lo+(i:Int))
def Jc(l:List PV)(st:qC):Rs ItP:=match l with|[.int j]=>if -(2 ^ 62)≤j∧j<2 ^ 62 then .ok ⟨yb 0 j,fun _=>True⟩ st else .no|_=>.no
def jp(l:List PV)(st:qC):Rs ItP:=match l with|[.int i,.int j]=>if -(2 ^ 62)≤i∧i<2 ^ 62∧ -(2 ^ 62)≤j∧j<2 ^ 62 then .ok ⟨yb i j,fun _=>True⟩ st else .no|_=>.no
theorem qAu{K:W.Frag}{H0:Hp}{b0:Bz}{lo hi:Int}:yQ K H0 b0 (Itr lo (hi-lo).toNat) ⟨yb lo hi,fun _=>True⟩:=by
 intro H1 b1 st1 e _ S g;have hl:(yb lo hi).length=(hi-lo).toNat:=by simp[yb]
 refine⟨fun i p hp=>?_,fun i hi'=>by rw[show (ItP.mk (yb lo hi) fun _=>True).l.length=(hi-lo).toNat from hl]at hi';exact hi'⟩;have hi':i<(hi-lo).toNat:=by
  have:=(AQ.mp hp).1
  rw[←hl];exact this
 unfold yb at hp;dsimp only at hp;rw[A3,List.getElem?_range hi']at hp;cases hp;exact⟨hi',fun x H2 ⟨e1,e2⟩=>by subst e1;subst e2;exact⟨Same.refl _,S,QS⟩⟩
def Qx(t:FA):FI:=fun r st=>(t r st).bind Jc
def Jf(t:FA):FI:=fun r st=>(t r st).bind jp
theorem Qm{tg:Expr}{t:FA}{p:Pos}(hg:Gl X "range")(hm:X.mg "range" = none)(ha:VA X E [a] t)(hs:starEach [a] X.env=[(false,eval a X.env)]:=by rfl):VI X E tg (.Call (.Name "range" p) [a] [] pos) (Qx t):=fun pins s σ H R I q=>qDv hg hm ha hs pins s σ H R I (by
 obtain⟨b,r,st,S,RE,P⟩:=q;refine⟨b,r,st,S,RE,PostA.bindI P fun l s1 us H1 b1 e1 S1 r1 P1=>?_⟩;unfold Jc at P1;split at P1
 ·obtain⟨u,rfl,h1⟩:=RVs.one r1;unfold RV at h1;subst h1;split at P1
  ·rename_i j hj;refine⟨j,rfl,hj.1,hj.2,?_⟩
   have:=P1 (Itr 0 (j-0).toNat) H1 b1 (Ext.refl _ _) S1 qAu
   rw[Int.sub_zero]at this;exact this
  ·exact P1.elim
 ·exact P1.elim)
theorem qCy{tg:Expr}{t:FA}{p:Pos}(hg:Gl X "range")(hm:X.mg "range" = none)(ha:VA X E [a,c] t)(hs:starEach [a,c] X.env=[(false,eval a X.env),(false,eval c X.env)]:=by rfl)(hs2:starEach [c] X.env=[(false,eval c X.env)]:=by rfl):VI X E tg (.Call (.Name "range" p) [a,c] [] pos) (Jf t):=fun pins s σ H R I q=>qDd hg hm ha hs hs2 pins s σ H R I (by
 obtain⟨b,r,st,S,RE,P⟩:=q;refine⟨b,r,st,S,RE,PostA.bindI P fun l s1 us H1 b1 e1 S1 r1 P1=>?_⟩;unfold jp at P1;split at P1
 ·obtain⟨u,v,rfl,h1,h2⟩:=RVs.two r1;unfold RV at h1 h2;subst h1;subst h2;split at P1;rename_i i j hj;exact⟨i,j,rfl,hj,P1 _ H1 b1 (Ext.refl _ _) S1 qAu⟩;exact P1.elim
 ·exact P1.elim)
theorem PSs.unbare{X:Cx}{st:List Stmt}{t:TS}(h:PSs X.nox st t){pins:List (Addr×Obj)}{s:Shared}{σ:L2.St}{H:Hp}{D:Ends}{E:Value->Shared->Prop}(I:L2.Inv X pins σ H s)(q:t D σ H):wpAny (model X.prog X.w) X.A (execs st X.env) (SP X pins D) E s :=
 wpAny_noRaise (thn (h pins s σ H D (I.wish _) q) fun f s' hs=>hs.unwish)
theorem PG.unbare{X:Cx}{tg:Expr}{t:TG}(h:PG X.nox tg t){pins:List (Addr×Obj)}{s:Shared}{σ:L2.St}{H:Hp}{v:V}{u:Value}{Q:L2.St->Hp->Prop}{E:Value->Shared->Prop}(I:L2.Inv X pins σ H s)(r:RelV v u)(q:t v σ H Q):wpAny (model X.prog X.w) X.A (assign tg X.env u) (fun _ s'=>∃σ' H',L2.Inv X pins σ' H' s'∧Q σ' H') E s :=
 wpAny_noRaise (thn (h pins s σ H v u Q (I.wish _) r q) fun f s' ⟨σ',H',I',q'⟩=>⟨σ',H',I'.unwish,q'⟩)
theorem qG2{tg iter:Expr}{body:List Stmt}{wi:TI}{g:TG}{tb:TS}{pos:Pos}(hi:PI X tg iter wi)(hg:PG X.nox tg g)(hb:PSs X.nox body tb)
  (hs:∀x,foldedSetIterable iter X.env x=pure x:=by intro _;rfl):PS X (.For tg iter body [] pos) (qLS wi g tb):=by
 intro pins s σ H D I h;refine wpAny_For (thn (hi pins s σ H _ I h) fun v s1 h1=>thn h1 fun itv s2 h2=>?_) hs;obtain⟨it,fp,tn,J,H2,e,I2,T,st2,f2,W,⟨m0,w0⟩,turn⟩:=h2;subst e;have stat:∀{H':Hp},(∀b∈fp,H' b=none)->∀b∈fp,Z0 X pins H' b:=fun hn b hb=>⟨hn b hb,(f2 b hb).2⟩;refine codeAny_forLoop_any (fun n s'=>∃i σ' H',L2.Inv X pins σ' H' s'∧tn i s'.heap∧(∀b∈fp,H' b=none)∧W i n σ' H') ?_ m0 ⟨0,σ,H2,I2,st2,fun b hb=>(f2 b hb).1,w0⟩;rintro n s3 ⟨i,σ3,H3,I3,st3,fr3,w3⟩;rcases turn i n σ3 H3 w3 with⟨stop,qn⟩|⟨go,N,hN,step⟩
 ·refine thn (T.done X rfl rfl rfl rfl i pins s3 σ3 H3 _ I3 (stat fr3) st3 stop) fun r s4 ⟨hr,I4⟩=>?_;subst hr;exact wpAny_execs_nil ⟨σ3,H3,I4,qn⟩
 ·refine thn (T.item X rfl rfl rfl rfl i pins s3 σ3 H3 _ I3 (stat fr3) st3 go) fun r s4 ⟨u,hr,h4⟩=>?_;subst hr;refine thn h4 fun _ s5 ⟨x,H5,I5,r5,y5,st5,fr5⟩=>?_;have I5':=I5.pinned (stat fr5) (T.obj _ _ st5);refine thn (PG.unbare hg I5' r5 (step x H5 y5)) fun _ s6 ⟨σ6,H6,I6,q6⟩=>?_;refine thn (PSs.unbare hb I6 q6) fun f s7 q7=>?_;have again:∀{σ7:L2.St} {H7:Hp},L2.Inv X (pins++Zk fp s5.heap) σ7 H7 s7->N σ7 H7->∃m,m<n∧∃i σ' H',L2.Inv X pins σ' H' s7∧tn i s7.heap∧(∀b∈fp,H' b=none)∧W i m σ' H':=fun {σ7 H7} I7 n7=>by obtain⟨m',hm,w7⟩:=hN σ7 H7 n7;refine⟨m',hm,i+1,σ7,H7,I7.unpinned,T.keep _ _ _ st5 fun b hb o e=>(I7.pin (b,o) (Aw _ (Aw _ (zu hb e)))).1,fun b hb=>?_,w7⟩;obtain⟨o,e,d⟩:=T.obj _ _ st5 b hb;exact (I7.pin (b,o) (Aw _ (Aw _ (zu hb e)))).2.1
  cases f with|next=>obtain⟨σ7,H7,I7,n7⟩:=q7;exact again I7 n7|cont=>obtain⟨σ7,H7,I7,n7⟩:=q7;exact again I7 n7|brk=>obtain⟨σ7,H7,I7,q7⟩:=q7;exact⟨σ7,H7,I7.unpinned,q7⟩|ret v=>obtain⟨x7,σ7,H7,I7,r7,q7⟩:=q7;exact⟨x7,σ7,H7,I7.unpinned,r7,q7⟩
open Classical in
noncomputable def Qj(G:qC->Prop)(g:FG)(F:FS):List PV->qk->qC->RS
 |[],r,st=>if G st then .nx r st else .no
 |p::ps,r,st=>if G st then
   match g p r with
   |none=>.no
   |some r1=>match F r1 st with| .nx r2 s2=>Qj G g F ps r2 s2| .ct r2 s2=>Qj G g F ps r2 s2| .bk r2 s2=>.nx r2 s2| .rt v s2=>.rt v s2| .ex _ _=>.no| .no=>.no
  else .no
noncomputable def w4(fi:FI)(g:FG)(F:FS):FS:=fun r st=>(fi r st).bindS fun w s=>Qj w.G g F w.l r s
theorem PostI.bindS{K:W.Frag}{E:XK}{H:Hp}{b:Bz}{r:Rs ItP}{k:ItP->qC->RS}{D:Ends}{R:It->Hp->Prop}(P:PostS K E H b (r.bindS k) D)
  (h:∀w st J H1 b1,Ext H b H1 b1->SR K H1 b1 st->yQ K H1 b1 J w->PostS K E H1 b1 (k w st) D->R J H1):PostI K E H b r R:=by
 cases r with|ok p st=>exact fun J H1 b1 e S r=>h p st J H1 b1 e S r (PostS.ext (show PostS K E H b (k p st) D from P) e)|ex x st=>exact P|no=>exact P
theorem We{tg iter:Expr}{body:List Stmt}{fi:FI}{g:FG}(hi:VI X E tg iter fi)(hg:VG X.nox tg g)(hb:VSs X.nox E0 body F)(hs:∀x,foldedSetIterable iter X.env x=pure x:=by intro _;rfl):VS X E (.For tg iter body [] pos) (w4 fi g F):=by
 refine PS.imp (qG2 hi hg hb hs) fun D s H ⟨b,r,st,S,R,P⟩=>?_;refine⟨b,r,st,S,R,PostI.bindS P fun w st1 J H1 b1 e1 S1 it P1=>?_⟩;refine⟨fun i m σ' H'=>∃b2 r2 st2,Ext H1 b1 H' b2∧SR X.K H' b2 st2∧REnv X.K H' b2 r2 σ'∧m=w.l.length+1-i∧i≤w.l.length∧PostS X.K E H' b2 (Qj w.G g F (w.l.drop i) r2 st2) D,⟨w.l.length+1,b1,r,st1,Ext.refl _ _,S1,R.ext e1,by omega,A6 _,by simpa using P1⟩,?_⟩;rintro i m σ' H' ⟨b2,r2,st2,e2,S2,R2,hm,hi',P2⟩;by_cases hlt:i<w.l.length
 ·have hd:w.l.drop i=w.l[i]::w.l.drop (i+1):=List.drop_eq_getElem_cons hlt;rw[hd]at P2;unfold Qj at P2;by_cases hG:w.G st2
  ·rw[AE hG]at P2;obtain⟨h1,h2⟩:=it H' b2 st2 e2.toWE e2.fz S2 hG;obtain⟨go,yl⟩:=h1 i w.l[i] (AM hlt);refine .inr ⟨go,fun σ3 H3=>∃b3 r3 st3,Ext H1 b1 H3 b3∧SR X.K H3 b3 st3∧REnv X.K H3 b3 r3 σ3∧PostS X.K E H3 b3 (Qj w.G g F (w.l.drop (i+1)) r3 st3) D,?_,?_⟩
   ·rintro σ3 H3 ⟨b3,r3,st3,k1,k2,k3,k4⟩;exact⟨w.l.length+1-(i+1),by omega,b3,r3,st3,k1,k2,k3,rfl,hlt,k4⟩
   ·intro x H3 hx;obtain⟨e3',S3,r3⟩:=yl x H3 hx;have e3:Ext H' b2 H3 b2:=Ext.of_same e3';cases eg:g w.l[i] r2 with
    |none=>rw[eg]at P2;exact P2.elim
    |some r4 =>
     rw[eg]at P2;refine⟨b2,r2,w.l[i],st2,S3,R2.ext e3,r3,r4,eg,fun s4 R4=>⟨b2,r4,st2,S3,R4,?_⟩⟩;have P3:=PostS.ext P2 e3;dsimp only at P3;have e13:=e2.trans e3;cases eF:F r4 st2 with|nx r5 s5=>rw[eF]at P3;exact fun s6 H6 b6 e6 S6 R6=>⟨b6,r5,s5,e13.trans e6,S6,R6,PostS.ext P3 e6⟩|ct r5 s5=>rw[eF]at P3;exact fun s6 H6 b6 e6 S6 R6=>⟨b6,r5,s5,e13.trans e6,S6,R6,PostS.ext P3 e6⟩|bk r5 s5=>rw[eF]at P3;exact P3|rt v s5=>rw[eF]at P3;exact P3|ex x s5=>rw[eF]at P3;exact P3.elim|no=>rw[eF]at P3;exact P3.elim
  ·rw[AF hG]at P2;exact P2.elim
 ·have hl:i=w.l.length:=by omega
  subst hl;rw[List.drop_length]at P2;unfold Qj at P2;by_cases hG:w.G st2;rw[AE hG]at P2;obtain⟨h1,h2⟩:=it H' b2 st2 e2.toWE e2.fz S2 hG;exact .inl ⟨h2 _ (AG _),P2 σ' H' b2 (Ext.refl _ _) S2 R2⟩;rw[AF hG]at P2;exact P2.elim
end
theorem QY{x n:Str}{a c:Addr}{r:List (Str×Addr)}(h:List.lookup x ((n,a)::r)=some c):(x=n∧a=c)∨(x≠n∧List.lookup x r=some c):=by
 rw[Ap]at h;cases hb:x==n with|true=>rw[hb]at h;exact .inl ⟨BC.mp hb,Ac h⟩|false=>rw[hb]at h;exact .inr ⟨fun z=>(by rw[BC.mpr z]at hb;cases hb),h⟩
theorem Q7{x:Str}{c:Addr}:∀{names:List (Str×NameKind)} {n:Nat} {acc:List (Str×Addr)},(cellsFrom n names acc).lookup x=some c->(n≤c∧(x,NameKind.cell)∈names)∨acc.lookup x=some c
 |[],_,_,h=>.inr h
 |(nm,k)::r,n,acc,h=>by
  unfold cellsFrom at h;split at h
  ·rename_i hk;have hk':k= .cell:=by simpa using hk
   rcases Q7 h with⟨h1,h2⟩|h1
   ·exact .inl ⟨Nat.le_of_succ_le h1,AI _ h2⟩
   ·rcases QY h1 with⟨e1,e2⟩|⟨_,e2⟩
    ·exact .inl ⟨Nat.le_of_eq e2,by rw[e1,hk'];exact AK⟩
    ·exact .inr e2
  ·rcases Q7 h with⟨h1,h2⟩|h1
   ·exact .inl ⟨h1,AI _ h2⟩
   ·exact .inr h1
theorem zI{x:Str}{c:Addr}{n0:Nat}:∀{names:List (Str×NameKind)} {n:Nat} {acc:List (Str×Addr)},n0≤n->((∃a,acc.lookup x=some a∧n0≤a)∨(x,NameKind.cell)∈names)->(cellsFrom n names acc).lookup x=some c->n0≤c
 |[],_,acc,_,h,e=>by
  rcases h with⟨a,h1,h2⟩|h
  ·have:acc.lookup x=some c:=e
   rw[h1]at this;cases this;exact h2
  ·exact absurd h (by simp)
 |(nm,k)::r,n,acc,hn,h,e=>by
  unfold cellsFrom at e;split at e
  ·rename_i hk;refine zI (n:=n+1) (Nat.le_succ_of_le hn) ?_ e;by_cases hx:x=nm;exact .inl ⟨n,by rw[Ap,hx,Aj],hn⟩
   ·rcases h with⟨a,h1,h2⟩|h
    ·exact .inl ⟨a,by rw[Ap,Bt hx];exact h1,h2⟩
    ·rcases AH.mp h with q|q
     ·exact absurd (CL q).1 hx
     ·exact .inr q
  ·rename_i hk;refine zI hn ?_ e;rcases h with h|h
   ·exact .inl h
   ·rcases AH.mp h with q|q
    ·exact absurd (by rw[←(CL q).2];rfl) hk
    ·exact .inr q
theorem zH{x y:Str}{c:Addr}:∀{names:List (Str×NameKind)} {n:Nat} {acc:List (Str×Addr)},(∀z a,acc.lookup z=some a->a<n)->(cellsFrom n names acc).lookup x=some c->(cellsFrom n names acc).lookup y=some c ->
  x=y∨(acc.lookup x=some c∧acc.lookup y=some c)
 |[],_,_,_,h1,h2=>.inr ⟨h1,h2⟩
 |(nm,k)::r,n,acc,hb,h1,h2=>by
  unfold cellsFrom at h1 h2;split at h1
  ·rename_i hk;rw[AE hk]at h2;have hb':∀z a,List.lookup z ((nm,n)::acc)=some a->a<n+1:=fun z a h=>by
    rcases QY h with⟨_,e⟩|⟨_,e⟩
    ·rw[←e];exact Nat.lt_succ_self _
    ·exact BL (hb z a e)
   rcases zH hb' h1 h2 with e|⟨e1,e2⟩
   ·exact .inl e
   ·rcases QY e1 with⟨p1,p2⟩|⟨p1,p2⟩ <;> rcases QY e2 with⟨q1,q2⟩|⟨q1,q2⟩
    ·exact .inl (p1.trans q1.symm)
    ·exact absurd (hb y c q2) (by rw[←p2];exact BP _)
    ·exact absurd (hb x c p2) (by rw[←q2];exact BP _)
    ·exact .inr ⟨p2,q2⟩
  ·rename_i hk;rw[AF hk]at h2;exact zH hb h1 h2
theorem WX{x:Str}:∀{names:List (Str×NameKind)} {n:Nat} {acc:List (Str×Addr)},((∃a,acc.lookup x=some a)∨(x,NameKind.cell)∈names)->∃c,(cellsFrom n names acc).lookup x=some c
 |[],_,_,h=>h.elim (fun h=>h) fun h=>absurd h (by simp)
 |(nm,k)::r,n,acc,h=>by
  unfold cellsFrom;split
  ·rename_i hk;refine WX ?_;by_cases hx:x=nm;exact .inl ⟨n,by rw[Ap,hx,Aj]⟩
   ·rcases h with⟨a,h1⟩|h
    ·exact .inl ⟨a,by rw[Ap,Bt hx];exact h1⟩
    ·rcases AH.mp h with q|q
     ·exact absurd (CL q).1 hx
     ·exact .inr q
  ·rename_i hk;refine WX ?_;rcases h with h|h
   ·exact .inl h
   ·rcases AH.mp h with q|q
    ·exact absurd (by rw[←(CL q).2];rfl) hk
    ·exact .inr q
theorem Wq{x:Str}{c:Addr}:∀{names:List (Str×NameKind)} {h:Heap} {acc:List (Str×Addr)},(cellsFrom h.objs.size names acc).lookup x=some c->(∃o,acc.lookup x=some c∧o=())∨(pushCells h names).IsCell c none
 |[],_,_,e=>.inl ⟨(),e,rfl⟩
 |(nm,k)::r,h,acc,e=>by
  unfold cellsFrom at e;unfold pushCells;split at e
  ·rename_i hk;rw[AE hk];have e':(cellsFrom (h.push { cls:=.type "cell",data:=.cell none }).objs.size r ((nm,h.objs.size)::acc)).lookup x=some c:=by rw[Bn];exact e
   rcases Wq e' with⟨_,q,_⟩|q
   ·rcases QY q with⟨_,e2⟩|⟨_,e2⟩
    ·subst e2;exact .inr ⟨_,CP _ _ _ _ (AW _ rfl),rfl⟩
    ·exact .inl ⟨(),e2,rfl⟩
   ·exact .inr q
  ·rename_i hk;rw[AF hk];exact Wq e
def clF(env:Env):List (Str×NameKind)->List (Str×Addr)->List (Str×Addr)|[],acc=>acc|(n,k)::r,acc=>if k == .free then clF env r ((n,(env.cells.lookup n).getD 0)::acc) else clF env r acc
theorem qEJ{env:Env}(f:Str×NameKind->List (Str×Addr)->Sem (ForInStep (List (Str×Addr))))
  (hf:∀n k acc,f (n,k) acc=if k == .free then (do let a ← cellOf env n;pure (.yield ((n,a)::acc))) else pure (.yield acc)) :
  ∀(names:List (Str×NameKind)) (acc:List (Str×Addr)),(∀x∈names,x.2= .free->∃c,env.cells.lookup x.1=some c)->forIn names acc f=(pure (clF env names acc):Sem _)
 |[],acc,_=>by rw[List.forIn_nil];rfl
 |(n,k)::r,acc,h=>by
  rw[List.forIn_cons,hf];unfold clF;have ih:=fun a=>qEJ f hf r a fun x hx=>h x (AI _ hx);split
  ·rename_i hk;have hk':k= .free:=by simpa using hk
   obtain⟨c,e⟩:=h (n,k) AK hk';have ec:cellOf env n=pure c:=by unfold cellOf;rw[show env.cells.lookup n=some c from e]
   rw[ec];simp only[pure_bind];rw[ih,show env.cells.lookup n=some c from e];rfl
  ·simp only[pure_bind];exact ih acc
theorem Yv{scope:Scope}{env:Env}(h:∀x∈scope.names,x.2= .free->∃c,env.cells.lookup x.1=some c):closureFor scope env=pure (clF env scope.names []):=by
 unfold closureFor;dsimp only;rw[qEJ _ (fun n k acc=>by cases hk:k==NameKind.free <;> simp[hk]) _ _ h];rfl
theorem YH{env:Env}{x:Str}{c:Addr}:∀{names:List (Str×NameKind)} {acc:List (Str×Addr)},(∀y∈names,y.2= .free->∃c,env.cells.lookup y.1=some c)->(clF env names acc).lookup x=some c->env.cells.lookup x=some c∨acc.lookup x=some c
 |[],_,_,e=>.inr e
 |(n,k)::r,acc,h,e=>by
  unfold clF at e;have h':=fun y hy=>h y (AI _ hy);split at e
  ·rename_i hk;have hk':k= .free:=by simpa using hk
   obtain⟨a,ea⟩:=h (n,k) AK hk';rcases YH h' e with q|q
   ·exact .inl q
   ·rcases QY q with⟨e1,e2⟩|⟨_,e2⟩
    ·rw[show env.cells.lookup n=some a from ea]at e2;exact .inl (by rw[e1,show env.cells.lookup n=some a from ea];exact Bv some e2)
    ·exact .inr e2
  ·exact YH h' e
theorem yw{env:Env}{x:Str}:∀{names:List (Str×NameKind)} {acc:List (Str×Addr)},((x,NameKind.free)∈names∨∃a,acc.lookup x=some a)->∃c,(clF env names acc).lookup x=some c
 |[],_,h=>h.elim (fun h=>absurd h (by simp)) fun h=>h
 |(n,k)::r,acc,h=>by
  unfold clF;split
  ·refine yw ?_;by_cases hx:x=n;exact .inr ⟨_,by rw[Ap,hx,Aj]⟩
   ·rcases h with h|⟨a,h⟩
    ·rcases AH.mp h with q|q
     ·exact absurd (CL q).1 hx
     ·exact .inl q
    ·exact .inr ⟨a,by rw[Ap,Bt hx];exact h⟩
  ·rename_i hk;refine yw ?_;rcases h with h|h
   ·rcases AH.mp h with q|q
    ·exact absurd (by rw[←(CL q).2];rfl) hk
    ·exact .inl q
   ·exact .inr h
def qLO(X:Cx)(scope:Scope)(C:Addr):Env :=
 { scope:=relabel scope X.env,locals:=C,globals:=X.env.globals,cells:=cellsFrom (C+1) scope.names (clF X.env scope.names []),qual:=X.env.qual,func:=none,code:=X.env.code,frame:=X.env.frame,builtins:=X.env.builtins }
def cCx(X:Cx)(scope:Scope)(N:List Str)(s:Shared)(H:Hp)(fp:List Addr)(pn:List (Addr×Obj)):Cx where
 prog:=X.prog
 w:=X.w
 K:=X.K
 mg:=X.mg
 base:=X.base
 A:=X.A
 N:=N
 s₀:=s
 H₀:=H
 env:=qLO X scope s.heap.objs.size
 outer:=X.stack
 stack:=X.stack
 ex:=fp
 fn:=fun x=>scope.names.lookup x==some .cell
 calm:=X.calm
 pn:=pn
 xe:=fun _ _=>False
structure CSc (X:Cx) (scope:Scope) (capN locN:List Str) (caps:List Nat):Prop where
 kind:scope.kind= .function
 nd:(scope.names.map (·.1)).Nodup
 fr:∀x∈scope.names,x.2= .free->(X.env.kindOf x.1=some .cell∨X.env.kindOf x.1=some .free)
 len:capN.length=caps.length
 cap:∀(i:Nat) (x:Str) (j:Nat),capN[i]? = some x->caps[i]? = some j->X.N[j]? = some x∧(x,NameKind.free)∈scope.names
theorem Wx{x:Str}{k:NameKind}:∀{names:List (Str×NameKind)},(names.map (·.1)).Nodup->(x,k)∈names->names.lookup x=some k
 |(n,k')::r,nd,h=>by
  rw[Aa,A2]at nd;rw[Ap];rcases AH.mp h with q|q
  ·obtain⟨rfl,rfl⟩:=CL q;rw[Aj]
  ·have hne:x≠n:=fun z=>nd.1 (by rw[←z];exact Ai.mpr ⟨(x,k),q,rfl⟩);rw[Bt hne];exact Wx nd.2 q
theorem WH{env:Env}{x:Str}:∀{names:List (Str×NameKind)},
  (names.map fun (n,k)=>if (k==NameKind.free&&env.scope.kind == .function&&env.kindOf n==some .cell) then (n,NameKind.cell) else (n,k)).lookup x=(names.lookup x).map fun k=>if (k==NameKind.free&&env.scope.kind == .function&&env.kindOf x==some .cell) then NameKind.cell else k
 |[]=>rfl
 |(n,k)::r=>by
  rw[Aa,Ap];show List.lookup x ((if (k==NameKind.free&&env.scope.kind == .function&&env.kindOf n==some .cell)=true then (n,NameKind.cell) else (n,k))::_)=_;cases hx:x==n with
  |true =>
   have hx':x=n:=BC.mp hx;subst hx';by_cases hc:(k==NameKind.free&&env.scope.kind == .function&&env.kindOf x==some .cell)=true;rw[AE hc];simp only[Ap,Aj,Option.map_some];rw[AE hc];rw[AF hc];simp only[Ap,Aj,Option.map_some];rw[AF hc]
  |false =>
   by_cases hc:(k==NameKind.free&&env.scope.kind == .function&&env.kindOf n==some .cell)=true;rw[AE hc];simp only[Ap,hx];exact WH;rw[AF hc];simp only[Ap,hx];exact WH
theorem YF{X:Cx}{scope:Scope}{capN locN:List Str}{caps:List Nat}(cs:CSc X scope capN locN caps){pins:List (Addr×Obj)}{σ:L2.St}{H:Hp}{s s4:Shared}{fp:List Addr}(I:L2.Inv X pins σ H s)(hf:∀b∈fp,Z0 X pins H b)(hlt:∀b∈fp,b<s.heap.objs.size)
  (h4:s4={ s with heap:=pushCells (s.heap.push { cls:=.type "dict",data:=.dict #[] }) scope.names }) :
  L2.Inv (cCx X scope (capN++locN) s H fp (X.pn++pins)) [] ((caps.map fun j=>(σ[j]?).join)++List.replicate locN.length none) H s4:=by
 have hfree:∀x∈scope.names,x.2= .free->∃c,X.env.cells.lookup x.1=some c:=fun x hx hk=>I.ok.has x.1 (cs.fr x hx hk);have keep:∀b o,s.heap.get? b=some o->s4.heap.get? b=some o:=fun b o e=>by subst h4;exact CP _ _ _ _ (AD _ e)
 have clook:∀x c,(clF X.env scope.names []).lookup x=some c->X.env.cells.lookup x=some c:=fun x c e=>(YH hfree e).elim (fun q=>q) fun q=>by cases q
 have clt:∀x c,(clF X.env scope.names []).lookup x=some c->c<s.heap.objs.size:=fun x c e=>by obtain⟨v,q⟩:=I.cell x c (clook x c e);exact q.lt
 have cases':∀x c,(cellsFrom (s.heap.objs.size+1) scope.names (clF X.env scope.names [])).lookup x=some c->(s.heap.objs.size+1≤c)∨(c<s.heap.objs.size∧X.env.cells.lookup x=some c):=fun x c e=>by
  rcases Q7 e with⟨q,_⟩|q
  ·exact .inl q
  ·exact .inr ⟨clt x c q,clook x c q⟩
 have isfree:∀x,(X.env.kindOf x=some .cell∨X.env.kindOf x=some .free)->True:=fun _ _=>trivial;refine⟨⟨I.ok.mod,cs.kind,I.ok.glob,I.ok.blt,AG _,fun x y c h1 h2=>?_,fun x hx=>?_,fun x c hx e=>?_,I.ok.hd,I.ok.frames,.inl rfl,fun b hb=>⟨Ab (hlt b hb),fun x c e=>?_⟩,fun b o e=>I.bs b o e,Ag I.ok.bsz I.sz,fun b o e hb=>?_,fun b hb hm=>?_,I.stack,I.stkFree⟩,
  by subst h4;rfl,by subst h4;exact I.bare,Un.kept keep,?_,fun x c e=>?_,I.hok.fresh (AG _),fun x c e=>?_,fun p hp=>?_,I.hok.kept keep,?_,I.hnd⟩
 ·rcases zH (fun z a e=>BL (clt z a e)) h1 h2 with e|⟨e1,e2⟩
  ·exact e
  ·exact I.ok.inj x y c (clook x c e1) (clook y c e2)
 ·refine WX ?_;have hx':(relabel scope X.env).names.lookup x=some .cell∨(relabel scope X.env).names.lookup x=some .free:=hx;have e:(relabel scope X.env).names.lookup x=(scope.names.lookup x).map fun k=>if (k==NameKind.free&&X.env.scope.kind == .function&&X.env.kindOf x==some .cell) then NameKind.cell else k:=WH;rw[e]at hx';cases q:scope.names.lookup x with
  |none=>rw[q]at hx';rcases hx' with z|z <;> cases z
  |some k =>
   rw[q]at hx';have hm:=BV q;by_cases hk:k= .free;subst hk;exact .inl (yw (.inl hm))
   ·have hkf:(k==NameKind.free)=false:=by simpa using hk
    simp only[Option.map_some,hkf,BE,A0,Bb]at hx';rcases hx' with z|z
    ·cases z;exact .inr hm
    ·cases z;exact absurd rfl hk
 ·have hx':scope.names.lookup x=some .cell:=by simpa[cCx] using hx
  exact Nat.le_of_succ_le (zI (n0:=s.heap.objs.size+1) (AG _) (.inr (BV hx')) e)
 ·rcases cases' x c e with q|⟨q,q'⟩
  ·exact fun z=>by rw[z]at q;exact absurd (hlt b hb) (Nat.not_lt.mpr (Nat.le_of_succ_le q))
  ·exact (hf b hb).2.2.2.2.1 x c q'
 ·obtain⟨_,_,_,h3,_⟩:=hf b hb;rcases h3 with q|q
  ·exact I.ok.noex b o e q
  ·exact absurd (AU e) (Nat.not_lt.mpr (Ag I.ok.bsz q))
 ·obtain⟨_,h1,h2,_⟩:=hf b hb;exact (AH.mp (I.stkSub b hm)).elim h1 h2
 ·refine⟨fun _=>none,?_,fun i x v e1 e2 e3=>?_⟩;subst h4;exact (Heap.Ns.new s.heap (.type "dict")).keeps (CP _ _)
  ·have hi:i<caps.length:=by
    by_cases hi:i<caps.length;exact hi
    ·rw[At (by simpa using hi),Bl]at e2;split at e2 <;> cases e2
   rw[Ae (by simpa using hi),A3]at e2;have e1':(capN++locN)[i]? = some x:=e1;rw[Ae (by rw[cs.len];exact hi)]at e1';cases ej:caps[i]? with
   |none=>rw[ej]at e2;cases e2
   |some j =>
    rw[ej]at e2;obtain⟨k1,k2⟩:=cs.cap i x j e1' ej;have e2':σ[j]? = some (some v):=by
     have e2'':(σ[j]?).join=some v:=Ac e2;cases q:σ[j]? with|none=>rw[q]at e2'';cases e2''|some o=>rw[q]at e2'';exact Bv some e2''
    have hk:=cs.fr _ k2 rfl;obtain⟨m,hn,hl⟩:=I.loc;obtain⟨u,ru,lu⟩:=hl j x v k1 e2' (hk.elim (fun z=>.inr (.inl z)) fun z=>.inr (.inr z));refine⟨u,ru,.inr ?_⟩;have hc:∃c,X.env.cells.lookup x=some c∧s.heap.IsCell c (some u):=by
     rcases lu with⟨z,_⟩|⟨_,z⟩
     ·rcases hk with y|y <;> · rw[z]at y;cases y
     ·exact z
    obtain⟨c,c1,c2⟩:=hc;obtain⟨c',e'⟩:=yw (env:=X.env) (acc:=[]) (.inl k2);have e2:=clook x c' e';rw[c1]at e2;cases e2;have hlk:scope.names.lookup x=some .free:=Wx cs.nd k2;refine⟨?_,c,?_,c2.keeps keep⟩
    ·show (relabel scope X.env).names.lookup x=some .cell∨(relabel scope X.env).names.lookup x=some .free;have e:(relabel scope X.env).names.lookup x=(scope.names.lookup x).map fun k=>if (k==NameKind.free&&X.env.scope.kind == .function&&X.env.kindOf x==some .cell) then NameKind.cell else k:=WH;rw[e,hlk];simp only[Option.map_some];split;exact .inl rfl;exact .inr rfl
    ·obtain⟨d,hd⟩:=WX (names:=scope.names) (n:=s.heap.objs.size+1) (acc:=clF X.env scope.names []) (x:=x) (.inl ⟨c,e'⟩);rcases Q7 hd with⟨q,q'⟩|q
     ·have:=Wx cs.nd q'
      rw[hlk]at this;cases this
     ·rw[e']at q;cases q;exact hd
 ·rcases Q7 e with⟨q,_⟩|q
  ·have e':(cellsFrom (s.heap.push { cls:=.type "dict",data:=.dict #[] }).objs.size scope.names (clF X.env scope.names [])).lookup x=some c:=by rw[Bn];exact e
   rcases Wq e' with⟨_,z,_⟩|z
   ·obtain⟨v,y⟩:=I.cell x c (clook x c z);exact⟨v,y.keeps keep⟩
   ·subst h4;exact⟨none,z⟩
  ·obtain⟨v,y⟩:=I.cell x c (clook x c q);exact⟨v,y.keeps keep⟩
 ·rcases cases' x c e with q|⟨q,q'⟩
  ·exact I.hok.fresh (Nat.le_of_succ_le q)
  ·exact I.freeC x c q'
 ·have hp':p∈X.pn++pins:=by simpa[cCx] using hp
  obtain⟨k1,k2,k3,k4,k5⟩:=I.pin p hp';exact⟨keep _ _ k1,k2,Ab (AU k1),fun z=>(AH.mp (I.stkSub p.1 z)).elim k3 k4,k5⟩
 ·show ((caps.map fun j=>(σ[j]?).join)++List.replicate locN.length none).length=(capN++locN).length;rw[AO,AN,List.length_replicate,AO,cs.len]
theorem qAS{X:Cx}{scope:Scope}{N:List Str}{pins:List (Addr×Obj)}{σ σ':L2.St}{H H':Hp}{s s':Shared}{h'':Heap}{fp:List Addr}(I:L2.Inv X pins σ H s)(hf:∀b∈fp,Z0 X pins H b)
  (J:L2.Inv (cCx X scope N s H fp (X.pn++pins)) [] σ' H' s') (sb:Heap.SameBut s.heap.objs.size s'.heap h''):L2.Inv X pins σ H' { s' with heap:=h'' }:=by
 have hos:s'.os=s.os:=J.os;have hC:∀b o,s.heap.get? b=some o->b≠s.heap.objs.size:=fun b o e=>Ab (AU e);have u:Un (frs X.stack) fp H H' s.heap h'':=by have u0:=J.base;exact⟨fun b o e n h1 h2=>sb.extBut b o (hC b o e) (u0.keep b o e n h1 h2),fun b o e n h1 h2=>(u0.slot b o e n h1 h2).elim fun sl q=>⟨sl,sb.extBut b _ (hC b o e) q⟩,u0.free,fun b o e h2=>(u0.there b o e h2).elim fun o' q=>⟨o',sb.extBut b o' (hC b o e) q⟩,u0.tups,u0.frzs,u0.tbls⟩
 have hok:HOk X.prog X.w H' h'':=fun a o e=>by
  refine (J.hok a o e).stay (fun b v hb q=>sb.extBut b v ?_ q) (fun _ q=>q) fun _ _ q=>q;have hn:H' s.heap.objs.size=none:=J.free;rcases hb with z|z
  ·rw[z];exact qU e hn
  ·exact qU z hn
 obtain⟨hh,g,d,t,os'⟩:=s';obtain rfl:os'=s.os:=hos;have fin:=L2.Inv.call (s:=s) (h':=h'') (g':=g) (d':=d) (t':=t) (ch:=fp) I u hok J.bare fun b hb=>by obtain⟨k0,k1,k2,k3,k4,k5⟩:=hf b hb;exact⟨k3,k1,k4,k5⟩
 exact fin
theorem jA{elt:Expr}{gens:List Comprehension}{scope:Scope}{pos:Pos}{d:Nat}{it acc:Value}{env:Env}{g:Comprehension}(hg:gens[d]? = some g)(ha:g.is_async=0)(hn:gens[d+1]? = none) :
  compTurn (.ListComp elt gens scope pos) d it acc env=(standAt g.iter.pos >>= fun _=>pyNext it >>= fun r=>match r with
   |none=>pure (.done .next)
   |some v=>letOwnedTupleGo g.target it v >>= fun _=>assign g.target env v >>= fun _ =>
    (forIn g.ifs true fun c r=>if r=true then do let ok ← isTrue c env (eval c env);pure (ForInStep.yield ok) else pure (ForInStep.yield r)) >>= fun ok =>
    if ok=true then (eval elt env >>= fun x=>call (.builtin "list.append") [acc,x] >>= fun _=>pure ()) >>= fun _=>again (.compLoop (.ListComp elt gens scope pos) d it acc env)
    else again (.compLoop (.ListComp elt gens scope pos) d it acc env)):=by unfold compTurn;dsimp only;rw[hg];dsimp only;rw[hn,ha];rfl
theorem jC{elt:Expr}{gens:List Comprehension}{scope:Scope}{pos:Pos}{d:Nat}{it acc:Value}{env:Env}{g g':Comprehension}(hg:gens[d]? = some g)(ha:g.is_async=0)(hn:gens[d+1]? = some g')(ha':g'.is_async=0) :
  compTurn (.ListComp elt gens scope pos) d it acc env=(standAt g.iter.pos >>= fun _=>pyNext it >>= fun r=>match r with
   |none=>pure (.done .next)
   |some v=>letOwnedTupleGo g.target it v >>= fun _=>assign g.target env v >>= fun _ =>
    (forIn g.ifs true fun c r=>if r=true then do let ok ← isTrue c env (eval c env);pure (ForInStep.yield ok) else pure (ForInStep.yield r)) >>= fun ok =>
    if ok=true then (eval g'.iter env >>= fun x=>standAt g'.iter.pos >>= fun _=>foldedSetIterable g'.iter env x >>= fun x=>holding [x] (pyIter x) >>= fun it'=>runOwn (.compStart (.ListComp elt gens scope pos) (d+1) it' acc env) env >>= fun _=>again (.compLoop (.ListComp elt gens scope pos) d it acc env))
    else again (.compLoop (.ListComp elt gens scope pos) d it acc env)):=by unfold compTurn;dsimp only;rw[hg];dsimp only;rw[hn,ha];dsimp only;rw[ha'];rfl
theorem zY{prog:Program}{w:World}{A:Around}{R:Result->Shared->Prop}{s:Shared}{elt:Expr}{gens:List Comprehension}{scope:Scope}{pos:Pos}{d:Nat}{it acc:Value}{env:Env}{g:Comprehension}(hg:gens[d]? = some g)(ha:g.is_async=0)
  (h0:codeAny (model prog w) A (.compLoop (.ListComp elt gens scope pos) d it acc env) R s)
  (h:wpAny (model prog w) A (pyIter it) (fun it' s'=>codeAny (model prog w) A (.compLoop (.ListComp elt gens scope pos) d it' acc env) R s') (notedBy (model prog w) A env fun x s'=>R (.error x) s') s) :
  codeAny (model prog w) A (.compStart (.ListComp elt gens scope pos) d it acc env) R s:=by
 refine codeAny_of_tree ?_;show wpAny _ _ ((compStart (.ListComp elt gens scope pos) d it acc env).onRaise (fun x=>do noteFrame x env;standAt theWindowsPlace)) _ _ s;refine wpAny_notedAt ?_;unfold compStart;have e1:(clausesOf (.ListComp elt gens scope pos))[d]? = some g:=hg;rw[e1];simp only[Option.elim_some,ha];refine AA (wpAny_askSetting (wpAny_ite ?_));split;exact AA (AB (AB (And.intro rfl h0)));exact AA (wpAny_rule (AA (B3 (AA (BJ h (fun it' s' h'=>AB (And.intro rfl h')) fun _ _ x=>x)))))
structure GenF where
 fi:FI
 g:FG
 ts:List FT
def zJ:List FT->FT|[],_,st=>.ok true st|t::ts,r,st=>(t r st).bind fun k s=>if k=true then zJ ts r s else .ok false s
open Classical in
noncomputable def QO(G:qC->Prop)(k:PV->qC->Rs (List PV)):List PV->qC->Rs (List PV)|[],st=>if G st then .ok [] st else .no|p::ps,st=>if G st then (k p st).bind fun l s=>(QO G k ps s).bind fun m s'=>.ok (l++m) s' else .no
def Q0(g:GenF)(rest:FL)(r:qk)(p:PV)(s:qC):Rs (List PV):=match g.g p r with|none=>.no|some r'=>(zJ g.ts r' s).bind fun k s1=>if k=true then rest r' s1 else .ok [] s1
noncomputable def wo:List GenF->FE->FL|[],f=>fun r st=>(f r st).bind fun p s=>.ok [p] s|g::gs,f=>fun r st=>(g.fi r st).bind fun w s=>QO w.G (Q0 g (wo gs f) r) w.l s
def Le(r r':qk):Prop:=r.length=r'.length∧∀(i:Nat) (p:PV),r[i]? = some (some p)->r'[i]? = some (some p)
theorem REnv.le{K:W.Frag}{H:Hp}{b:Bz}{r r':qk}{s:L2.St}(h:REnv K H b r' s)(l:Le r r'):REnv K H b r s:=⟨l.1.trans h.1,fun i p e=>h.2 i p (l.2 i p e)⟩
def qH7(g:FG):Prop:=∀p r r',g p r=some r'->Le r r'
inductive TsOk (X:Cx):List Expr->List FT->Prop where|nil:TsOk X [] []|cons {e:Expr} {t:FT} {es:List Expr} {ts:List FT} (h:VT X E0 e t) (r:TsOk X es ts):TsOk X (e::es) (t::ts)
theorem qAV{X:Cx}(hx:∀e s,X.xe e s->False):∀{es:List Expr} {ts:List FT},TsOk X es ts->∀{pins:List (Addr×Obj)} {s:Shared} {σ:L2.St} {H:Hp} {b:Bz} {r:qk} {st st':qC} {k:Bool} {Q:Bool->Shared->Prop} {E:Value->Shared->Prop},L2.Inv X pins σ H s->SR X.K H b st->REnv X.K H b r σ->zJ ts r st= .ok k st' ->
  (∀s' H' b',L2.Inv X pins σ H' s'->Ext H b H' b'->SR X.K H' b' st'->Q k s') ->
  wpAny (model X.prog X.w) X.A (forIn es true fun c r=>if r=true then do let ok ← isTrue c X.env (eval c X.env);pure (ForInStep.yield ok) else pure (ForInStep.yield r)) Q E s
 |_,_,.nil,pins,s,σ,H,b,r,st,st',k,Q,E,I,S,R,e,q=>by cases e;exact wpAny_tests_nil (q s H b I (Ext.refl _ _) S)
 |_,_,@TsOk.cons _ c t es ts h hr,pins,s,σ,H,b,r,st,st',k,Q,E,I,S,R,e,q=>by
  rw[List.forIn_cons];simp only[B9];unfold zJ at e;cases et:t r st with
  |no=>rw[et]at e;cases e
  |ex x s1=>rw[et]at e;cases e
  |ok k1 s1 =>
   rw[et]at e;have e:(if k1=true then zJ ts r s1 else .ok false s1)= .ok k st':=e;refine AA (AA (BJ (h pins s σ H (fun k' H'=>k'=k1∧∃b',Ext H b H' b'∧SR X.K H' b' s1) I ⟨b,r,st,S,R,by rw[et];exact fun H' b' e' S'=>⟨rfl,b',e',S'⟩⟩) (fun k' s2 hq=>?_) fun e' s' z=>(hx e' s' z).elim));obtain⟨H2,I2,rfl,b2,e2,S2⟩:=hq;refine AB ?_;dsimp only;cases k' with
   |true=>rw[AE rfl]at e;exact qAV hx hr I2 S2 (R.ext e2) e fun s' H' b' I' e' S'=>q s' H' b' I' (e2.trans e') S'
   |false =>
    rw[AF Bd]at e;cases e;have skip:∀(es:List Expr),wpAny (model X.prog X.w) X.A (forIn es false fun c r=>if r=true then do let ok ← isTrue c X.env (eval c X.env);pure (ForInStep.yield ok) else pure (ForInStep.yield r)) Q E s2:=by
     intro es;induction es with|nil=>rw[List.forIn_nil];exact AB (q s2 H2 b2 I2 e2 S2)|cons c es ih=>rw[List.forIn_cons];simp only[A0,Bb];exact AA (AB ih)
    exact skip es
structure GOk (X:Cx) (c:Comprehension) (g:GenF):Prop where
 tg:VG X c.target g.g
 fr:qH7 g.g
 ts:TsOk X c.ifs g.ts
 asy:c.is_async=0
structure GOk' (X:Cx) (c:Comprehension) (g:GenF):Prop extends GOk X c g where
 it:VI X E0 c.target c.iter g.fi
 fold:∀x,foldedSetIterable c.iter X.env x=pure x
inductive GsOk (X:Cx):List Comprehension->List GenF->Prop where|nil:GsOk X [] []|cons {c:Comprehension} {g:GenF} {cs:List Comprehension} {gs:List GenF} (h:GOk' X c g) (r:GsOk X cs gs):GsOk X (c::cs) (g::gs)
theorem qDK{X:Cx}(hx:∀e s,X.xe e s->False){pins:List (Addr×Obj)}{s:Shared}{σ:L2.St}{H:Hp}{D:Addr}{xs:List V}{y:V}{u:Value}{Q:Value->Shared->Prop}{E:Value->Shared->Prop}(I:L2.Inv X pins σ H s)(hD:H D=some (.lst xs))(hl:xs.length<sizeLine)(ry:RelV y u)
  (q:∀v s',L2.Inv X pins σ (upd H D (.lst (xs++[y]))) s'->Q v s'):wpAny (model X.prog X.w) X.A (call (.builtin "list.append") [.ref D,u]) Q E s :=
 BJ (jU pins s σ H (.ref D) [y] (.ref D) [u] (fun v H'=>H'=upd H D (.lst (xs++[y]))) I rfl (.cons ry .nil) ⟨D,xs,y,rfl,rfl,hD,hl,rfl⟩) (fun v s' ⟨x,H',I',r',e⟩=>by subst e;exact q v s' I') fun e' s' z=>(hx e' s' z).elim
structure DE (D:Addr) (H:Hp) (b:Bz) (H':Hp) (b':Bz):Prop extends WE H b H' b' where
 same:b'.z=b.z
 hid:∀a o,a∈b.z->a≠D->H a=some o->H' a=some o
 fz:∀a o u,a≠D->H a=some (.frz o u)->H' a=some (.frz o u)
theorem DE.of{D:Addr}{H H':Hp}{b b':Bz}(e:Ext H b H' b'):DE D H b H' b':=⟨e.toWE,e.same,fun a o ha _ h=>e.hid a o ha h,fun a o u _ h=>e.fz a o u h⟩
theorem DE.trans{D:Addr}{H H1 H2:Hp}{b b1 b2:Bz}(e:DE D H b H1 b1)(f:DE D H1 b1 H2 b2):DE D H b H2 b2:=⟨e.toWE.trans f.toWE,f.same.trans e.same,fun a o ha hn h=>f.hid a o (by rw[e.same];exact ha) hn (e.hid a o ha hn h),fun a o u n h=>f.fz a o u n (e.fz a o u n h)⟩
theorem DE.wr{D:Addr}{H:Hp}{b:Bz}{o:HO}(h:D∈b.z):DE D H b (upd H D o) b:=⟨WE.wr (.inr h),rfl,fun a u ha hn e=>by rw[qT hn];exact e,fun a u v hn e=>by rw[qT hn];exact e⟩
def qLh(X:Cx)(D:Addr)(c:Code)(inner:Sem Fin)(rest:FL):Prop :=
 ∀(pins:List (Addr×Obj)) (s:Shared) (σ:L2.St) (H:Hp) (b:Bz) (r:qk) (st st':qC) (l:List PV) (accV:List V) (QF:Fin->Shared->Prop) (E:Value->Shared->Prop),L2.Inv X pins σ H s->SR X.K H b st->REnv X.K H b r σ->D∈b.z->H D=some (.lst accV) ->
  rest r st= .ok l st'->accV.length+l.length≤sizeLine ->
  (∀s' σ' H' b' lV,L2.Inv X pins σ' H' s'->DE D H b H' b'->SR X.K H' b' st'->REnv X.K H' b' r σ'->H' D=some (.lst (accV++lV))->RVs X.K H' b' l lV->QF (.again c) s')->wpAny (model X.prog X.w) X.A inner QF E s
theorem qAR{X:Cx}(hx:∀e s,X.xe e s->False){elt:Expr}{gens:List Comprehension}{scope:Scope}{pos:Pos}{d:Nat}{it D:Addr}{c:Comprehension}{g:GenF}(hg:GOk X c g){inner:Sem Fin}{rest:FL}(hin:qLh X D (.compLoop (.ListComp elt gens scope pos) d (.ref it) (.ref D) X.env) inner rest)
  (hturn:compTurn (.ListComp elt gens scope pos) d (.ref it) (.ref D) X.env=(standAt c.iter.pos >>= fun _=>pyNext (.ref it) >>= fun r=>match r with
   |none=>pure (.done .next)
   |some v=>letOwnedTupleGo c.target (.ref it) v >>= fun _=>assign c.target X.env v >>= fun _ =>
    (forIn c.ifs true fun c r=>if r=true then do let ok ← isTrue c X.env (eval c X.env);pure (ForInStep.yield ok) else pure (ForInStep.yield r)) >>= fun ok =>
    if ok=true then inner else again (.compLoop (.ListComp elt gens scope pos) d (.ref it) (.ref D) X.env)))
  {pins:List (Addr×Obj)} {s:Shared} {σ:L2.St} {H:Hp} {b:Bz} {r:qk} {st st':qC} {fp:List Addr} {tn:Nat->Heap->Prop} {J:It} {w:ItP} {accV:List V} {l:List PV} {R:Result->Shared->Prop}
  (I:L2.Inv X pins σ H s) (S:SR X.K H b st) (RE:REnv X.K H b r σ) (hDz:D∈b.z) (hD:H D=some (.lst accV)) (T:Turn X.prog X.w X.K X.A c.target J fp it tn) (t0:tn 0 s.heap) (hf:∀a∈fp,Z0 X pins H a)
  (hit:yQ X.K H b J w)
  (hv:QO w.G (Q0 g rest r) w.l st= .ok l st') (hsz:accV.length+l.length≤sizeLine)
  (hR:∀s' σ' H' b' lV,L2.Inv X pins σ' H' s'->DE D H b H' b'->SR X.K H' b' st'->REnv X.K H' b' r σ'->H' D=some (.lst (accV++lV))->RVs X.K H' b' l lV->R (.ok .next) s') :
  codeAny (model X.prog X.w) X.A (.compLoop (.ListComp elt gens scope pos) d (.ref it) (.ref D) X.env) R s:=by
 have stat:∀{H':Hp},(∀a∈fp,H' a=none)->∀a∈fp,Z0 X pins H' a:=fun hn a ha=>⟨hn a ha,(hf a ha).2⟩;refine codeAny_loop rfl (fun n s1=>∃i σ1 H1 b1 st1 done doneV m,n=w.l.length+1-i∧i≤w.l.length∧L2.Inv X pins σ1 H1 s1∧DE D H b H1 b1∧SR X.K H1 b1 st1∧REnv X.K H1 b1 r σ1∧H1 D=some (.lst (accV++doneV))∧RVs X.K H1 b1 done doneV∧tn i s1.heap∧(∀a∈fp,H1 a=none) ∧
  QO w.G (Q0 g rest r) (w.l.drop i) st1= .ok m st'∧done++m=l) ?_ (w.l.length+1)
  ⟨0,σ,H,b,st,[],[],l,by omega,A6 _,I,DE.of (Ext.refl _ _),S,RE,by simpa using hD,RVs.nil,t0,fun a ha=>(hf a ha).1,by simpa using hv,rfl⟩
 rintro n s1 ⟨i,σ1,H1,b1,st1,done,doneV,m,hn,hi,I1,e1,S1,R1,hD1,rd1,t1,fr1,hv1,hm⟩;show wpAny _ X.A ((compTurn (.ListComp elt gens scope pos) d (.ref it) (.ref D) X.env).onRaise (fun x=>do noteFrame x X.env;theTreesLotGoes x)) _ _ s1;refine wpAny_noted ?_;rw[hturn];refine AA (B3 (AA ?_));have hz1:D∈b1.z:=by rw[e1.same];exact hDz
 by_cases hlt:i<w.l.length
 ·have hd:w.l.drop i=w.l[i]::w.l.drop (i+1):=List.drop_eq_getElem_cons hlt;rw[hd]at hv1;unfold QO at hv1;by_cases hG:w.G st1
  ·rw[AE hG]at hv1;obtain⟨h1,h2⟩:=hit H1 b1 st1 e1.toWE (fun a o u h=>e1.fz a o u (fun z=>by rw[z,hD]at h;cases h) h) S1 hG;obtain⟨go,yl⟩:=h1 i w.l[i] (AM hlt);cases ek:Q0 g rest r w.l[i] st1 with
   |no=>rw[ek]at hv1;cases hv1
   |ex x s5=>rw[ek]at hv1;cases hv1
   |ok l1 s5 =>
    rw[ek]at hv1;have hv1:(QO w.G (Q0 g rest r) (w.l.drop (i+1)) s5).bind (fun m s'=>.ok (l1++m) s')= .ok m st':=hv1;cases ek2:QO w.G (Q0 g rest r) (w.l.drop (i+1)) s5 with
    |no=>rw[ek2]at hv1;cases hv1
    |ex x s6=>rw[ek2]at hv1;cases hv1
    |ok m2 s6 =>
     rw[ek2]at hv1;have hv1:Rs.ok (l1++m2) s6= .ok m st':=hv1;injection hv1 with hv1a hv1b;subst hv1a;subst hv1b;refine thn (T.item X rfl rfl rfl rfl i pins s1 σ1 H1 _ I1 (stat fr1) t1 go) fun rr s2 ⟨u,hr,h4⟩=>?_;subst hr;refine AA (thn h4 fun _ s3 ⟨x,H3,I3,r3,y3,t3,fr3⟩=>?_);obtain⟨sm3,S3,rx3⟩:=yl x H3 y3;have e3:Ext H1 b1 H3 b1:=Ext.of_same sm3;have hD3:=sm3 _ _ hD1;unfold Q0 at ek;cases eg:g.g w.l[i] r with
     |none=>rw[eg]at ek;cases ek
     |some r' =>
      rw[eg]at ek;have ek:(zJ g.ts r' st1).bind (fun k s1=>if k=true then rest r' s1 else .ok [] s1)= .ok l1 s5:=ek;cases et:zJ g.ts r' st1 with
      |no=>rw[et]at ek;cases ek
      |ex x s7=>rw[et]at ek;cases ek
      |ok k s7 =>
       rw[et]at ek;have ek:(if k=true then rest r' s7 else .ok [] s7)= .ok l1 s5:=ek;have I3':=I3.pinned (stat fr3) (T.obj _ _ t3);refine AA (BJ (hg.tg _ s3 σ1 H3 x u (fun σ' H'=>H'=H3∧REnv X.K H3 b1 r' σ') I3' r3 ⟨b1,r,w.l[i],st1,S3,R1.ext e3,rx3,r',eg,fun s' R'=>⟨rfl,R'⟩⟩) (fun _ s4 hq=>?_) fun e' s' z=>(hx e' s' z).elim);obtain⟨σ4,H4,I4,rfl,R4⟩:=hq;refine AA (qAV hx hg.ts I4 S3 R4 et fun s5' H5 b5 I5 e5 S5=>?_);have hz5:D∈b5.z:=by rw[e5.same];exact hz1
       have hD5:=e5.hid _ _ hz1 hD3;have e15:DE D H b H5 b5:=(e1.trans (DE.of e3)).trans (DE.of e5);have back:∀{s7':Shared} {σ7:L2.St} {H7:Hp} {b7:Bz} {l1V:List V},L2.Inv X (pins++Zk fp s3.heap) σ7 H7 s7'->DE D H5 b5 H7 b7->SR X.K H7 b7 s5->REnv X.K H7 b7 r' σ7->H7 D=some (.lst (accV++doneV++l1V))->RVs X.K H7 b7 l1 l1V ->
         ∃m,m<n∧∃i σ1 H1 b1 st1 done doneV mm,m=w.l.length+1-i∧i≤w.l.length∧L2.Inv X pins σ1 H1 s7'∧DE D H b H1 b1∧SR X.K H1 b1 st1∧REnv X.K H1 b1 r σ1∧H1 D=some (.lst (accV++doneV))∧RVs X.K H1 b1 done doneV∧tn i s7'.heap∧(∀a∈fp,H1 a=none) ∧
         QO w.G (Q0 g rest r) (w.l.drop i) st1= .ok mm s6∧done++mm=l:=fun {s7' σ7 H7 b7 l1V} I7 e7 S7 R7 hD7 rl7=>by
        refine⟨w.l.length+1-(i+1),by omega,i+1,σ7,H7,b7,s5,done++l1,doneV++l1V,m2,rfl,hlt,I7.unpinned,e15.trans e7,S7,R7.le (hg.fr _ _ _ eg),by rw[hD7,Av],?_,T.keep _ _ _ t3 fun a ha o e=>(I7.pin (a,o) (Aw _ (Aw _ (zu ha e)))).1,fun a ha=>?_,ek2,by rw[Av];exact hm⟩;exact RVs.append (RVs.wext e7.toWE done (RVs.ext e5 done (RVs.ext e3 done rd1))) rl7;obtain⟨o,e,_⟩:=T.obj _ _ t3 a ha;exact (I7.pin (a,o) (Aw _ (Aw _ (zu ha e)))).2.1
       cases k with
       |false=>rw[AF Bd]at ek ⊢;injection ek with ek1 ek2';subst ek1;subst ek2';refine AB ⟨rfl,back I5 (DE.of (Ext.refl _ _)) S5 (R4.ext e5) (by rw[Au];exact hD5) RVs.nil⟩
       |true =>
        rw[AE rfl]at ek ⊢;refine hin _ s5' σ4 H5 b5 r' s7 s5 l1 (accV++doneV) _ _ I5 S5 (R4.ext e5) hz5 hD5 ek ?_ fun s8 σ8 H8 b8 lV I8 e8 S8 R8 hD8 r8=>⟨rfl,back I8 e8 S8 R8 hD8 r8⟩;have h1:=rd1.length;have h2:l.length=done.length+(l1.length+m2.length):=by rw[←hm,AO,AO]
        rw[AO];omega
  ·rw[AF hG]at hv1;cases hv1
 ·have hl:i=w.l.length:=by omega
  subst hl;rw[List.drop_length]at hv1;unfold QO at hv1;by_cases hG:w.G st1
  ·rw[AE hG]at hv1;injection hv1 with k1 k2;subst k1;subst k2;obtain⟨h1,h2⟩:=hit H1 b1 st1 e1.toWE (fun a o u h=>e1.fz a o u (fun z=>by rw[z,hD]at h;cases h) h) S1 hG;refine thn (T.done X rfl rfl rfl rfl _ pins s1 σ1 H1 _ I1 (stat fr1) t1 (h2 _ (AG _))) fun r2 s2 ⟨hr,I2⟩=>?_;subst hr;rw[Au]at hm;subst hm;exact AB (hR s2 σ1 H1 b1 doneV I2 e1 S1 R1 hD1 rd1)
  ·rw[AF hG]at hv1;cases hv1
theorem jR{X:Cx}(hx:∀e s,X.xe e s->False){elt:Expr}{gens:List Comprehension}{scope:Scope}{pos:Pos}{f:FE}{D:Addr}(he:VE X E0 elt f) :
  ∀(gs:List GenF) (cs:List Comprehension) (d:Nat) (c:Comprehension) (g:GenF),gens.drop d=c::cs->GOk X c g->GsOk X cs gs ->
  ∀(pins:List (Addr×Obj)) (s:Shared) (σ:L2.St) (H:Hp) (b:Bz) (r:qk) (st st':qC) (it:Addr) (fp:List Addr) (tn:Nat->Heap->Prop) (J:It) (w:ItP) (accV:List V) (l:List PV) (R:Result->Shared->Prop),
  L2.Inv X pins σ H s->SR X.K H b st->REnv X.K H b r σ->D∈b.z->H D=some (.lst accV)->Turn X.prog X.w X.K X.A c.target J fp it tn->tn 0 s.heap->(∀a∈fp,Z0 X pins H a)->yQ X.K H b J w ->
  QO w.G (Q0 g (wo gs f) r) w.l st= .ok l st'->accV.length+l.length≤sizeLine ->
  (∀s' σ' H' b' lV,L2.Inv X pins σ' H' s'->DE D H b H' b'->SR X.K H' b' st'->REnv X.K H' b' r σ'->H' D=some (.lst (accV++lV))->RVs X.K H' b' l lV->R (.ok .next) s') ->
  codeAny (model X.prog X.w) X.A (.compLoop (.ListComp elt gens scope pos) d (.ref it) (.ref D) X.env) R s:=by
 intro gs;induction gs with
 |nil =>
  intro cs d c g hdr hg hgs pins s σ H b r st st' it fp tn J w accV l R I S RE hDz hD T t0 hf hit hv hsz hR;cases hgs;have hgd:gens[d]? = some c:=by
   have:(gens.drop d)[0]? = some c:=by rw[hdr];rfl
   simpa using this
  have hgn:gens[d+1]? = none:=by
   have:(gens.drop d)[1]? = none:=by rw[hdr];rfl
   simpa using this
  refine qAR hx hg ?_ (jA hgd hg.asy hgn) I S RE hDz hD T t0 hf hit hv hsz hR;intro pins s σ H b r st st' l accV QF E I S RE hDz hD hv hsz q;have hv:(f r st).bind (fun p s=>.ok [p] s)= .ok l st':=hv;cases ef:f r st with
  |no=>rw[ef]at hv;cases hv
  |ex x s1=>rw[ef]at hv;cases hv
  |ok p s1 =>
   rw[ef]at hv;have hv:Rs.ok [p] s1= .ok l st':=hv;injection hv with h1 h2;subst h1;subst h2;refine AA (AA (BJ (he pins s σ H (fun v H'=>∃b',Ext H b H' b'∧SR X.K H' b' s1∧RV X.K H' b' p v) I ⟨b,r,st,S,RE,by rw[ef];exact fun v H' b' e' S' r'=>⟨b',e',S',r'⟩⟩) (fun u s2 hq=>?_) fun e' s' z=>(hx e' s' z).elim));obtain⟨v,H2,I2,rv,b2,e2,S2,r2⟩:=hq;have hz2:D∈b2.z:=by rw[e2.same];exact hDz
   refine AA (qDK hx I2 (e2.hid _ _ hDz hD) (by rw[Am]at hsz;omega) rv fun _ s3 I3=>AB (AB ?_));have dw:DE D H2 b2 (upd H2 D (.lst (accV++[v]))) b2:=DE.wr hz2;exact q s3 σ _ b2 [v] I3 ((DE.of e2).trans dw) (SR.wrz S2 hz2) ((RE.ext e2).wext dw.toWE) qm (RVs.cons (RV.wext dw.toWE p r2) RVs.nil)
 |cons g2 gs ih =>
  intro cs d c g hdr hg hgs pins s σ H b r st st' it fp tn J w accV l R I S RE hDz hD T t0 hf hit hv hsz hR;cases hgs with
  | @cons c2 _ cs _ h2 hr2 =>
   have hgd:gens[d]? = some c:=by
    have:(gens.drop d)[0]? = some c:=by rw[hdr];rfl
    simpa using this
   have hgn:gens[d+1]? = some c2:=by
    have:(gens.drop d)[1]? = some c2:=by rw[hdr];rfl
    simpa using this
   have hdr2:gens.drop (d+1)=c2::cs:=by
    have:(gens.drop d).drop 1=c2::cs:=by rw[hdr];rfl
    rwa[List.drop_drop]at this
   refine qAR hx hg ?_ (jC hgd hg.asy hgn h2.asy) I S RE hDz hD T t0 hf hit hv hsz hR;intro pins s σ H b r st st' l accV QF E I S RE hDz hD hv hsz q;have hv:(g2.fi r st).bind (fun w s=>QO w.G (Q0 g2 (wo gs f) r) w.l s)= .ok l st':=hv;cases ef:g2.fi r st with
   |no=>rw[ef]at hv;cases hv
   |ex x s1=>rw[ef]at hv;cases hv
   |ok w2 s1 =>
    rw[ef]at hv;have hv:QO w2.G (Q0 g2 (wo gs f) r) w2.l s1= .ok l st':=hv;have hi:=h2.it pins s σ H (fun J H'=>∃b',Ext H b H' b'∧SR X.K H' b' s1∧yQ X.K H' b' J w2) I ⟨b,r,st,S,RE,by rw[ef];exact fun J H' b' e' S' i'=>⟨b',e',S',i'⟩⟩;refine AA (BJ hi (fun u s2 hq=>?_) fun e' s' z=>(hx e' s' z).elim);refine AA (B3 (AA (An (h2.fold u) (AA (Ak (BJ hq (fun itv s3 hq3=>?_) fun e' s' z=>(hx e' s' z).elim))))));obtain⟨it2,fp2,tn2,J2,H3,rfl,I3,T2,t2,f2,b3,e3,S3,i3⟩:=hq3;have hz3:D∈b3.z:=by rw[e3.same];exact hDz
    have hD3:=e3.hid _ _ hDz hD;refine AA (wpAny_runOwn ?_);have loop:=ih cs (d+1) c2 g2 hdr2 h2.toGOk hr2 pins s3 σ H3 b3 r s1 st' it2 fp2 tn2 J2 w2 accV l (fun r s'=>match r with
     | .ok f=>wpAny (model X.prog X.w) X.A (again (.compLoop (.ListComp elt gens scope pos) d (.ref it) (.ref D) X.env)) QF E s'
     | .error e=>cameBackBy (model X.prog X.w) X.A X.env E e s') I3 S3 (RE.ext e3) hz3 hD3 T2 t2 f2 i3 hv hsz
     fun s' σ' H' b' lV I' e' S' R' hD' r'=>AB (q s' σ' H' b' lV I' ((DE.of e3).trans e') S' R' hD' r')
    exact zY hgn h2.asy loop (T2.self X.A 0 s3 _ _ t2 loop)
theorem Ji{M:Model}{A:Around}{E:Value->Shared->Prop}{s:Shared}{scope:Scope}{env:Env}{cl:List (Str×Addr)}{Q:Env->Shared->Prop}
  (h:Q { scope:=scope,locals:=s.heap.objs.size,globals:=env.globals,cells:=cellsFrom (s.heap.objs.size+1) scope.names cl,qual:=env.qual,func:=none,code:=env.code,frame:=env.frame,builtins:=env.builtins } { s with heap:=pushCells (s.heap.push { cls:=.type "dict",data:=.dict #[] }) scope.names }) :
  wpAny M A (newFunctionEnv scope env.globals cl [] env.qual none .none (some env)) Q E s:=by
 simp only[newFunctionEnv,Option.isSome_some,B9];refine AA (wpAny_alloc ?_);refine AA (wpAny_layCells _ (fun name kind cells=>by cases hkc:kind==NameKind.cell <;> simp[hkc]) _ _ _ _ ?_);rw[show ({ s with heap:=s.heap.push { cls:=.type "dict",data:=.dict #[] } }:Shared).heap.objs.size=s.heap.objs.size+1 from Bn ..];exact AA (AB (AB h))
def Wd(caps:List Nat)(n:Nat)(r:qk):qk:=(caps.map fun j=>(r[j]?).join)++List.replicate n none
noncomputable def QD(caps:List Nat)(n:Nat)(fi:FI)(g:FG)(ts:List FT)(gs:List GenF)(f:FE):FL:=fun r st=>(fi r st).bind fun w s=>match QO w.G (Q0 ⟨fi,g,ts⟩ (wo gs f) (Wd caps n r)) w.l s with| .ok l s'=>if l.length≤sizeLine then .ok l s' else .no|_=>.no
theorem qAc{K:W.Frag}{H:Hp}{b:Bz}{r:qk}{σ:L2.St}{caps:List Nat}{n:Nat}(R:REnv K H b r σ):REnv K H b (Wd caps n r) ((caps.map fun j=>(σ[j]?).join)++List.replicate n none):=by
 refine⟨by simp[Wd],fun i p e=>?_⟩;unfold Wd at e;by_cases hi:i<caps.length
 ·rw[Ae (by simpa using hi),A3]at e;rw[Ae (by simpa using hi),A3];cases ej:caps[i]? with
  |none=>rw[ej]at e;cases e
  |some j =>
   rw[ej]at e;have e':(r[j]?).join=some p:=Ac e;have e2:r[j]? = some (some p):=by
    cases q:r[j]? with|none=>rw[q]at e';cases e'|some o=>rw[q]at e';exact Bv some e'
   obtain⟨v,h1,h2⟩:=R.2 j p e2;refine⟨v,?_,h2⟩;show some (σ[j]?).join=some (some v);rw[h1];rfl
 ·rw[At (by simpa using hi),Bl]at e;split at e <;> cases e
theorem jk{K:W.Frag}{H:Hp}{b:Bz}{J:It}{w:ItP}{D:Addr}{o:HO}(h:yQ K H b J w)(hD:H D=none):yQ K (upd H D o) ⟨b.b,D::b.z⟩ J w:=fun H1 b1 st1 e f S g=>h H1 b1 st1 ((WE.hide hD).trans e) (fun a o u q=>f a o u (by rw[qT (qU q hD)];exact q)) S g
theorem wI{X:Cx}{E:XK}{elt:Expr}{c:Comprehension}{cs:List Comprehension}{scope:Scope}{pos:Pos}{capN locN:List Str}{caps:List Nat}{fi:FI}{g:FG}{ts:List FT}{gs:List GenF}{f:FE}(hcs:CSc X scope capN locN caps)
  (hi:VI X E c.target c.iter fi) (sub:∀s H fp pn,VE (cCx X scope (capN++locN) s H fp pn) E0 elt f∧GOk (cCx X scope (capN++locN) s H fp pn) c ⟨fi,g,ts⟩∧GsOk (cCx X scope (capN++locN) s H fp pn) cs gs)
  (hs:∀x,foldedSetIterable c.iter X.env x=pure x:=by intro _;rfl):VN X E (.ListComp elt (c::cs) scope pos) (QD caps locN.length fi g ts gs f):=by
 intro pins s σ H Q I hq;obtain⟨b,r,st,S,RE,P⟩:=hq;have hfree:∀x∈scope.names,x.2= .free->∃c,X.env.cells.lookup x.1=some c:=fun x hx hk=>I.ok.has x.1 (hcs.fr x hx hk);obtain⟨c1,c2,c3,c4⟩:=c;have hasy:c4=0:=(sub s H [] []).2.1.asy;subst hasy;rw[eval_ListComp];refine wpAny_comprehension_free (use:=none) rfl hs (Yv hfree) hcs.kind (fun x hx hl=>Wx hcs.nd (by rw[←hl];exact hx)) ?_;show wpAny _ _ (eval c2 X.env) _ _ s;unfold QD at P;cases ef:fi r st with
 |no=>rw[ef]at P;exact P.elim
 |ex x s1 =>
  rw[ef]at P;refine thn (hi pins s σ H (fun _ _=>False) I ⟨b,r,st,S,RE,by rw[ef];exact P⟩) fun v s2 h2=>thn h2 fun itv s3 h3=>?_;obtain⟨_,_,_,_,_,_,_,_,_,_,z⟩:=h3;exact z.elim
 |ok w s1 =>
  rw[ef]at P;refine thn (hi pins s σ H (fun J H'=>∃b',Ext H b H' b'∧SR X.K H' b' s1∧yQ X.K H' b' J w) I ⟨b,r,st,S,RE,by rw[ef];exact fun J H' b' e' S' i'=>⟨b',e',S',i'⟩⟩) fun v s2 h2=>thn h2 fun itv s3 h3=>?_;obtain⟨it,fp,tn,J,H2,rfl,I2,T,t2,f2,b2,e2,S2,i2⟩:=h3;have P:PostN X.K E H b (match QO w.G (Q0 ⟨fi,g,ts⟩ (wo gs f) (Wd caps locN.length r)) w.l s1 with | .ok l s'=>if l.length≤sizeLine then .ok l s' else .no|_=>.no) Q:=P;cases ev:QO w.G (Q0 ⟨fi,g,ts⟩ (wo gs f) (Wd caps locN.length r)) w.l s1 with
  |no=>rw[ev]at P;exact P.elim
  |ex x s4=>rw[ev]at P;exact P.elim
  |ok l st' =>
   rw[ev]at P;have P:PostN X.K E H b (if l.length≤sizeLine then .ok l st' else .no) Q:=P;by_cases hl:l.length≤sizeLine
   ·rw[AE hl]at P;have hfr:H2 s3.heap.objs.size=none:=I2.hok.fresh (AG _);refine CY ?_;generalize hs3:({ s3 with heap:=s3.heap.push { cls:=.type "list",data:=.seq ([]:List Value).toArray } }:Shared)=s3';have I3:L2.Inv X pins σ (upd H2 s3.heap.objs.size (.lst [])) s3':=by rw[←hs3];exact I2.laid (t':=s3.toks) (fun a u e=>AD _ e) (AG _) (show ObjOk X.prog X.w _ _ _ (.lst []) from⟨A6 _,[],0,.nil,AW _ rfl⟩)
    have k3:∀a o,s3.heap.get? a=some o->s3'.heap.get? a=some o:=fun a o e=>by rw[←hs3];exact AD _ e
    have hlt:∀a∈fp,a<s3.heap.objs.size:=fun a ha=>by obtain⟨o,e,_⟩:=T.obj _ _ t2 a ha;exact AU e
    have f3:∀a∈fp,Z0 X pins (upd H2 s3.heap.objs.size (.lst [])) a:=fun a ha=>⟨by rw[qT (Ab (hlt a ha))];exact (f2 a ha).1,(f2 a ha).2⟩;have hlt3:∀a∈fp,a<s3'.heap.objs.size:=fun a ha=>by obtain⟨o,e,_⟩:=T.obj _ _ t2 a ha;exact AU (k3 a o e)
    generalize hD:s3.heap.objs.size=D at I3 f3 hfr;refine Ji ?_;have J0:=YF hcs I3 f3 hlt3 rfl;obtain⟨he,hg,hgs⟩:=sub s3' (upd H2 D (.lst [])) fp (X.pn++pins);have k4:∀a o,s3'.heap.get? a=some o->(pushCells (s3'.heap.push { cls:=.type "dict",data:=.dict #[] }) scope.names).get? a=some o:=fun a o e=>CP _ _ _ _ (AD _ e);have hDz:D∉b2.z:=(S2.new_notin hfr).2;have loop:=jR (X:=cCx X scope (capN++locN) s3' (upd H2 D (.lst [])) fp (X.pn++pins)) (fun _ _ z=>z) (gens:=⟨c1,c2,c3,0⟩::cs) (scope:=scope) (pos:=pos) (D:=D) he gs cs 0 ⟨c1,c2,c3,0⟩ ⟨fi,g,ts⟩ rfl hg hgs [] _ _ _ ⟨b2.b,D::b2.z⟩ (Wd caps locN.length r) s1 st' it fp tn J w [] l
     (compPost (model X.prog X.w) X.A X.xe none (EP X pins σ Q) (.ref D) s3'.heap.objs.size) J0 (SR.hide S2 hfr) (qAc ((RE.ext e2).wext (WE.hide hfr))) AK qm T (T.keep _ _ _ t2 fun a ha o e=>k4 a o (k3 a o e))
     (fun a ha=>⟨(f3 a ha).1,(J0.ok.exf a ha).1,J0.ok.exfs a ha,.inl ha,(J0.ok.exf a ha).2,fun p hp=>(f3 a ha).2.2.2.2.2 p (by simpa[cCx] using hp)⟩) (jk i2 hfr) ev (by simpa using hl)
     (fun s' σ' H' b' lV I' e' S' R' hD' r'=>by
      obtain⟨m,hn,_⟩:=I'.loc;refine⟨m,hn,fun h'' sb=>?_⟩;have fin:=qAS I3 f3 I' sb;have hz':b'.z=D::b2.z:=e'.same;refine⟨.ref D,H',fin,rfl,?_⟩;have ex:Ext H2 b2 H' ⟨b'.b,b2.z⟩:=by
       refine⟨⟨?_,⟨[],rfl,by simp⟩,fun a o ha ho=>?_,fun a o ha=>?_⟩,rfl,fun a o hz ha=>?_,fun a o u ha=>e'.fz a o u (qU ha hfr) (by rw[qT (qU ha hfr)];exact ha)⟩
       ·obtain⟨n,hb,hh⟩:=e'.more;exact⟨n,hb,fun a ha=>by
         have:=hh a ha
         by_cases q:a=D;rw[q];exact hfr;rwa[qT q]at this⟩
       ·have hne:a≠D:=qU ha hfr;exact e'.keep a o (by rw[qT hne];exact ha) ⟨ho.1,fun z=>(AH.mp z).elim hne ho.2⟩
       ·have hne:a≠D:=qU ha hfr;exact e'.dom a o (by rw[qT hne];exact ha)
       ·have hne:a≠D:=qU ha hfr;exact e'.hid a o (AI _ hz) hne (by rw[qT hne];exact ha)
      have hb':(⟨b'.b,D::b2.z⟩:Bz)=b':=by rw[←hz']
      refine P D lV H' ⟨b'.b,b2.z⟩ (e2.trans ex) (e2.none_of hfr) (by simpa using hD') hDz ?_ ?_;show SR X.K H' ⟨b'.b,D::b2.z⟩ st';rw[hb'];exact S';show RVs X.K H' ⟨b'.b,D::b2.z⟩ l lV;rw[hb'];exact r')
    exact zY rfl rfl loop (T.self X.A 0 _ _ _ (T.keep _ _ _ t2 fun a ha o e=>k4 a o (k3 a o e)) loop)
   ·rw[AF hl]at P;exact P.elim
def qv(n:Nat)(l:List PV):qk:=l.map some++List.replicate (n-l.length) none
def qG7:RS->Rs PV| .nx _ st=>.ok .non st| .rt v st=>.ok v st| .ex x st=>.ex x st|_=>.no
def Refn(n:Nat)(r r':Rs PV):Prop:=∀(K:W.Frag) (E:XK) (H:Hp) (b:Bz) (Q:VK),b.b.length=n->PostE K E H b r' Q->PostE K E H b r Q
theorem Refn.refl{n:Nat}{r:Rs PV}:Refn n r r:=fun _ _ _ _ _ _ h=>h
theorem REnv.init{K:W.Frag}{H:Hp}{b:Bz}{N:List Str}{l:List PV}{vs:List V}(h:RVs K H b l vs):REnv K H b (qv N.length l) (start N vs):=by
 have hl:=h.length;refine⟨by simp[qv,L2.start,hl],fun i p e=>?_⟩;unfold qv at e;unfold L2.start;by_cases hi:i<l.length
 ·rw[Ae (by simpa using hi),A3]at e;rw[Ae (by simpa[←hl] using hi),A3];cases q:l[i]? with|none=>rw[q]at e;cases e|some p'=>rw[q]at e;cases e;obtain⟨v,h1,h2⟩:=h.get q;exact⟨v,by rw[h1];rfl,h2⟩
 ·rw[At (by simpa using hi),Bl]at e;split at e <;> cases e
section
variable{P:Program}{w:World}{K:W.Frag}{mg:Str->Option Value}{base:Heap}
theorem okV{CX:CXT}{x qual:Str}{st:Stmt}{f:Addr}{fd:FuncData}{N ps:List Str}{k:Nat}{g:List PV->qC->Rs PV}(F:Fun K x qual st f fd)(S:FnScope N ps (qI st))
  (body:∀(cdv:Value) (A:Around) (outer:List Env) (s:Shared) (H:Hp) (E:XK),Room k (A.deeper (envOfC qual (qI st) s.heap.objs.size f cdv))->(0<k->A.handled=none) ->
   ∃B:FS,VSs (Qq CX P w K mg base N qual (qI st) f cdv A outer s H E) E (qY st) B∧∀l s0,l.length=ps.length->g l s0≠ .no->Refn s0.length (qG7 (B (qv N.length l) s0)) (g l s0)):FnOk P w K mg base CX (k+1) f fd ps (spG K ps.length g):=by
 obtain⟨oc,od,kV,doc,pm,an,cdv,ct,osl,rfl,lk,hcd⟩:=F.ex;refine qIL lk hcd S (fun vs H Q E h=>h.1) fun A outer s H vs Q E hr hcm hsp=>?_;obtain⟨B,hB,hg⟩:=body cdv A outer s H E hr hcm;obtain⟨hl,b,l,st0,S0,r0,P0⟩:=hsp;refine⟨_,hB,b,qv N.length l,st0,S0,REnv.init r0,?_⟩;have hne:g l st0≠ .no:=fun z=>by rw[z]at P0;exact P0
 have P1:=hg l st0 (by rw[r0.length];exact hl) hne K E H b Q S0.len P0;cases e:B (qv N.length l) st0 with|nx r st=>rw[e]at P1;exact fun s H' b' e' S' R'=>P1 .non H' b' e' S' (by unfold RV;rfl)|rt v st=>rw[e]at P1;exact P1|bk r st=>rw[e]at P1;exact P1.elim|ct r st=>rw[e]at P1;exact P1.elim|ex x st=>rw[e]at P1;exact P1|no=>rw[e]at P1;exact P1.elim
end
mutual
def peq:PV->PV->Bool| .non,.non=>true| .bl a,.bl c=>a==c| .int a,.int c=>a==c| .bl a,.int c=>(if a then 1 else 0)==c| .int a,.bl c=>a==(if c then 1 else 0)| .str a,.str c=>a==c| .tup l,.tup m=>peqs l m| .lst l,.lst m=>peqs l m|_,_=>false
def peqs:List PV->List PV->Bool|[],[]=>true|p::ps,q::qs=>peq p q&&peqs ps qs|_,_=>false
end
mutual
def nr:PV->Bool| .tup l=>nrs l| .lst l=>nrs l| .ref _=>false| .dct=>false| .ty _=>false| .fn _=>false| .exc _ _=>false|_=>true
def nrs:List PV->Bool|[]=>true|p::ps=>nr p&&nrs ps
end
mutual
def dep:PV->Nat| .tup l=>deps l+1| .lst l=>deps l+1|_=>0
def deps:List PV->Nat|[]=>0|p::ps=>max (dep p) (deps ps)
end
mutual
def RW(K:W.Frag)(H:Hp):PV->V->Prop| .non,v=>v= .non| .bl x,v=>v= .bl x| .int i,v=>v= .int i| .str x,v=>v= .str x| .tup l,v=>∃a xs,v= .ref a∧SqT K H a xs∧RWs K H l xs| .lst l,v=>∃a xs,v= .ref a∧SqL K H a xs∧RWs K H l xs|_,_=>False
def RWs(K:W.Frag)(H:Hp):List PV->List V->Prop|[],xs=>xs=[]|p::ps,xs=>∃x r,xs=x::r∧RW K H p x∧RWs K H ps r
end
mutual
theorem RV.rw{K:W.Frag}{H:Hp}{b:Bz}:∀(p:PV) {v:V},nr p=true->RV K H b p v->RW K H p v| .non,_,_,h=>by unfold RV at h;unfold RW;exact h| .bl _,_,_,h=>by unfold RV at h;unfold RW;exact h| .int _,_,_,h=>by unfold RV at h;unfold RW;exact h| .str _,_,_,h=>by unfold RV at h;unfold RW;exact h| .tup l,_,n,h=>by unfold RV at h;unfold RW;unfold nr at n;obtain⟨a,xs,h1,h2,h3⟩:=h;exact⟨a,xs,h1,h2.sq,RVs.rws l n h3⟩| .lst l,_,n,h=>by unfold RV at h;unfold RW;unfold nr at n;obtain⟨a,xs,h1,h2,h3⟩:=h;exact⟨a,xs,h1,h2.sq,RVs.rws l n h3⟩| .ref _,_,n,_=>by unfold nr at n;cases n| .dct,_,n,_=>by unfold nr at n;cases n| .ty _,_,n,_=>by unfold nr at n;cases n| .fn _,_,n,_=>by unfold nr at n;cases n| .exc _ _,_,n,_=>by unfold nr at n;cases n
theorem RVs.rws{K:W.Frag}{H:Hp}{b:Bz}:∀(l:List PV) {xs:List V},nrs l=true->RVs K H b l xs->RWs K H l xs|[],_,_,h=>by unfold RVs at h;unfold RWs;exact h|p::ps,_,n,h=>by unfold RVs at h;unfold RWs;unfold nrs at n;rw[AX]at n;obtain⟨x,r,h1,h2,h3⟩:=h;exact⟨x,r,h1,RV.rw p n.1 h2,RVs.rws ps n.2 h3⟩
end
theorem RWs.length{K:W.Frag}{H:Hp}:∀{l:List PV} {xs:List V},RWs K H l xs->l.length=xs.length|[],_,h=>by unfold RWs at h;rw[h];rfl|p::ps,_,h=>by unfold RWs at h;obtain⟨x,r,rfl,_,h3⟩:=h;rw[AJ,AJ,RWs.length h3]
section
variable{X:Cx}{pins:List (Addr×Obj)}{σ:L2.St}{H:Hp}{s:Shared}
theorem Z5(I:L2.Inv X pins σ H s){a:Addr}{xs ys:List V}(h1:SqL X.K H a xs)(h2:SqT X.K H a ys):False:=by obtain⟨its,_,p,_⟩:=I.list h1;obtain⟨its',_,q,_⟩:=I.tuple h2;obtain⟨o,ho,hc,n,hd⟩:=p.isList;obtain⟨o',ho',hc',_⟩:=q;rw[ho]at ho';cases ho';rw[hc]at hc';injection hc' with z;exact absurd z (by decide)
mutual
theorem RW.same(I:L2.Inv X pins σ H s):∀(p q:PV) {v:V},RW X.K H p v->RW X.K H q v->peq p q=true
 | .non,q,v,h,g=>by unfold RW at h;subst h;cases q <;> unfold RW at g <;> first|rfl|exact (g:False).elim|(obtain⟨_,_,e,_⟩:=g;cases e)|cases g
 | .bl x,q,v,h,g=>by unfold RW at h;subst h;cases q <;> unfold RW at g <;> first|(obtain⟨_,_,e,_⟩:=g;cases e)|(cases g;simp[peq];done)|exact (g:False).elim|cases g
 | .int x,q,v,h,g=>by unfold RW at h;subst h;cases q <;> unfold RW at g <;> first|(obtain⟨_,_,e,_⟩:=g;cases e)|(cases g;simp[peq];done)|exact (g:False).elim|cases g
 | .str x,q,v,h,g=>by unfold RW at h;subst h;cases q <;> unfold RW at g <;> first|(obtain⟨_,_,e,_⟩:=g;cases e)|(cases g;simp[peq];done)|exact (g:False).elim|cases g
 | .tup l,q,v,h,g=>by
  unfold RW at h;obtain⟨a,xs,rfl,h2,h3⟩:=h;cases q with
  |tup m =>
   unfold RW at g;obtain⟨a',ys,e,g2,g3⟩:=g;cases e
   have:=I.tuple_inj h2 g2
   subst this;unfold peq;exact RWs.same I l m h3 g3
  |lst m=>unfold RW at g;obtain⟨a',ys,e,g2,g3⟩:=g;cases e;exact (Z5 I g2 h2).elim
  |ref _=>unfold RW at g;exact g.elim
  |dct=>unfold RW at g;exact g.elim
  |ty _=>unfold RW at g;exact g.elim
  |fn _=>unfold RW at g;exact g.elim
  |exc _ _=>unfold RW at g;exact g.elim
  |non=>unfold RW at g;cases g
  |bl _=>unfold RW at g;cases g
  |int _=>unfold RW at g;cases g
  |str _=>unfold RW at g;cases g
 | .lst l,q,v,h,g=>by
  unfold RW at h;obtain⟨a,xs,rfl,h2,h3⟩:=h;cases q with
  |lst m =>
   unfold RW at g;obtain⟨a',ys,e,g2,g3⟩:=g;cases e
   have:=I.list_inj h2 g2
   subst this;unfold peq;exact RWs.same I l m h3 g3
  |tup m=>unfold RW at g;obtain⟨a',ys,e,g2,g3⟩:=g;cases e;exact (Z5 I h2 g2).elim
  |ref _=>unfold RW at g;exact g.elim
  |dct=>unfold RW at g;exact g.elim
  |ty _=>unfold RW at g;exact g.elim
  |fn _=>unfold RW at g;exact g.elim
  |exc _ _=>unfold RW at g;exact g.elim
  |non=>unfold RW at g;cases g
  |bl _=>unfold RW at g;cases g
  |int _=>unfold RW at g;cases g
  |str _=>unfold RW at g;cases g
 | .ref _,_,_,h,_=>by unfold RW at h;exact h.elim
 | .dct,_,_,h,_=>by unfold RW at h;exact h.elim
 | .ty _,_,_,h,_=>by unfold RW at h;exact h.elim
 | .fn _,_,_,h,_=>by unfold RW at h;exact h.elim
 | .exc _ _,_,_,h,_=>by unfold RW at h;exact h.elim
theorem RWs.same(I:L2.Inv X pins σ H s):∀(l m:List PV) {xs:List V},RWs X.K H l xs->RWs X.K H m xs->peqs l m=true
 |[],m,xs,h,g=>by
  unfold RWs at h;subst h;cases m with|nil=>rfl|cons _ _=>unfold RWs at g;obtain⟨_,_,e,_⟩:=g;cases e
 |p::ps,m,xs,h,g=>by
  unfold RWs at h;obtain⟨x,r,rfl,h2,h3⟩:=h;cases m with|nil=>unfold RWs at g;cases g|cons q qs=>unfold RWs at g;obtain⟨y,t,e,g2,g3⟩:=g;cases e;unfold peqs;rw[RW.same I p q h2 g2,RWs.same I ps qs h3 g3];rfl
end
def eqN(l m:List PV)(j:Nat):Bool:=match l[j]?,m[j]? with|some p,some q=>peq p q|_,_=>false
theorem zq:∀(l m:List PV),l.length=m.length->(List.range l.length).all (eqN l m)=peqs l m
 |[],[],_=>rfl
 |p::ps,q::qs,h=>by
  have ih:=zq ps qs (by simpa using h);rw[AJ,List.range_succ_eq_map,List.all_cons,List.all_map];unfold peqs;have e0:eqN (p::ps) (q::qs) 0=peq p q:=rfl;have e1:(eqN (p::ps) (q::qs) ∘ Nat.succ)=eqN ps qs:=by funext j;rfl
  rw[e0,e1,ih]
 |[],_::_,h=>by simp at h
 |_::_,[],h=>by simp at h
theorem Wr:∀(l m:List PV),l.length≠m.length->peqs l m=false|[],[],h=>absurd rfl h|[],_::_,_=>rfl|_::_,[],_=>rfl|p::ps,q::qs,h=>by unfold peqs;rw[Wr ps qs (by intro z;apply h;rw[AJ,AJ,z]),Bo]
theorem RWs.get'{K:W.Frag}{H:Hp}:∀{l:List PV} {xs:List V} {i:Nat} {x:V},RWs K H l xs->xs[i]? = some x->∃p,l[i]? = some p∧RW K H p x
 |[],_,_,_,h,e=>by unfold RWs at h;subst h;simp at e
 |p::ps,_,0,x,h,e=>by unfold RWs at h;obtain⟨y,r,rfl,h2,h3⟩:=h;simp at e;subst e;exact⟨p,rfl,h2⟩
 |p::ps,_,i+1,x,h,e=>by
  unfold RWs at h;obtain⟨y,r,rfl,h2,h3⟩:=h;obtain⟨q,e1,e2⟩:=RWs.get' (i:=i) h3 (by simpa using e);exact⟨q,by simpa using e1,e2⟩
theorem Vals.get2:∀{xs:List V} {us:List Value} {i:Nat} {u:Value},Vals xs us->us[i]? = some u->∃x,xs[i]? = some x∧RelV x u
 |_,_,_,_,.nil,e=>by simp at e
 |_,_,0,_,.cons r _,e=>by simp at e;subst e;exact⟨_,rfl,r⟩
 |_,_,i+1,u,.cons _ t,e=>by
  obtain⟨x,h1,h2⟩:=Vals.get2 (i:=i) (u:=u) t (by simpa using e);exact⟨x,by simpa using h1,h2⟩
theorem Q9(I:L2.Inv X pins σ H s)(p q:PV){v u:V}{uv uu:Value}{A:Around}(hd:dep p=0)(hu':A.units<cLine)(hp:RW X.K H p v)(hq:RW X.K H q u)(rv:RelV v uv)(ru:RelV u uu):SeqAt.EqAt A s uv uu (peq p q):=by
 cases p with
 |tup l=>unfold dep at hd;omega
 |lst l=>unfold dep at hd;omega
 |ref _=>unfold RW at hp;exact hp.elim
 |dct=>unfold RW at hp;exact hp.elim
 |ty _=>unfold RW at hp;exact hp.elim
 |fn _=>unfold RW at hp;exact hp.elim
 |exc _ _=>unfold RW at hp;exact hp.elim
 |non =>
  unfold RW at hp;subst hp;cases rv;cases q with|non=>unfold RW at hq;subst hq;cases ru;exact SeqAt.EqAt.same _|bl _=>unfold RW at hq;subst hq;cases ru;exact SeqAt.EqAt.none_bool _|int _=>unfold RW at hq;subst hq;obtain⟨t,rfl⟩:=ru;exact SeqAt.EqAt.none_int _ _|str _=>unfold RW at hq;subst hq;obtain⟨t,rfl⟩:=ru;exact SeqAt.EqAt.none_str _ _|tup _=>unfold RW at hq;obtain⟨a,xs,rfl,h2,_⟩:=hq;cases ru;obtain⟨its,_,t,_⟩:=I.tuple h2;exact SeqAt.EqAt.none_tuple t hu'|lst _=>unfold RW at hq;obtain⟨a,xs,rfl,h2,_⟩:=hq;cases ru;obtain⟨its,_,t,_⟩:=I.list h2;exact SeqAt.EqAt.none_list t.isList hu'|ref _=>unfold RW at hq;exact hq.elim|dct=>unfold RW at hq;exact hq.elim|ty _=>unfold RW at hq;exact hq.elim|fn _=>unfold RW at hq;exact hq.elim|exc _ _=>unfold RW at hq;exact hq.elim
 |bl x =>
  unfold RW at hp;subst hp;cases rv;cases q with|non=>unfold RW at hq;subst hq;cases ru;exact SeqAt.EqAt.bool_none _|bl _=>unfold RW at hq;subst hq;cases ru;exact SeqAt.EqAt.bool_bool _ _|int _=>unfold RW at hq;subst hq;obtain⟨t,rfl⟩:=ru;exact SeqAt.EqAt.bool_int _ _ _|str _=>unfold RW at hq;subst hq;obtain⟨t,rfl⟩:=ru;exact SeqAt.EqAt.bool_str _ _ _|tup _=>unfold RW at hq;obtain⟨a,xs,rfl,h2,_⟩:=hq;cases ru;obtain⟨its,_,t,_⟩:=I.tuple h2;exact SeqAt.EqAt.bool_tuple _ t hu'|lst _=>unfold RW at hq;obtain⟨a,xs,rfl,h2,_⟩:=hq;cases ru;obtain⟨its,_,t,_⟩:=I.list h2;exact SeqAt.EqAt.bool_list _ t.isList hu'|ref _=>unfold RW at hq;exact hq.elim|dct=>unfold RW at hq;exact hq.elim|ty _=>unfold RW at hq;exact hq.elim|fn _=>unfold RW at hq;exact hq.elim|exc _ _=>unfold RW at hq;exact hq.elim
 |int x =>
  unfold RW at hp;subst hp;obtain⟨t0,rfl⟩:=rv;cases q with|non=>unfold RW at hq;subst hq;cases ru;exact SeqAt.EqAt.int_none _ _|bl _=>unfold RW at hq;subst hq;cases ru;exact SeqAt.EqAt.int_bool _ _ _|int _=>unfold RW at hq;subst hq;obtain⟨t,rfl⟩:=ru;exact SeqAt.EqAt.int_int _ _ _ _|str _=>unfold RW at hq;subst hq;obtain⟨t,rfl⟩:=ru;exact SeqAt.EqAt.int_str _ _ _ _|tup _=>unfold RW at hq;obtain⟨a,xs,rfl,h2,_⟩:=hq;cases ru;obtain⟨its,_,t,_⟩:=I.tuple h2;exact SeqAt.EqAt.int_tuple _ _ t hu'|lst _=>unfold RW at hq;obtain⟨a,xs,rfl,h2,_⟩:=hq;cases ru;obtain⟨its,_,t,_⟩:=I.list h2;exact SeqAt.EqAt.int_list _ _ t.isList hu'|ref _=>unfold RW at hq;exact hq.elim|dct=>unfold RW at hq;exact hq.elim|ty _=>unfold RW at hq;exact hq.elim|fn _=>unfold RW at hq;exact hq.elim|exc _ _=>unfold RW at hq;exact hq.elim
 |str x =>
  unfold RW at hp;subst hp;obtain⟨t0,rfl⟩:=rv;cases q with|non=>unfold RW at hq;subst hq;cases ru;exact SeqAt.EqAt.str_none _ _|bl _=>unfold RW at hq;subst hq;cases ru;exact SeqAt.EqAt.str_bool _ _ _|int _=>unfold RW at hq;subst hq;obtain⟨t,rfl⟩:=ru;exact SeqAt.EqAt.str_int _ _ _ _|str _=>unfold RW at hq;subst hq;obtain⟨t,rfl⟩:=ru;exact SeqAt.EqAt.str_str _ _ _ _|tup _=>unfold RW at hq;obtain⟨a,xs,rfl,h2,_⟩:=hq;cases ru;obtain⟨its,_,t,_⟩:=I.tuple h2;exact SeqAt.EqAt.str_tuple _ _ t hu'|lst _=>unfold RW at hq;obtain⟨a,xs,rfl,h2,_⟩:=hq;cases ru;obtain⟨its,_,t,_⟩:=I.list h2;exact SeqAt.EqAt.str_list _ _ t.isList hu'|ref _=>unfold RW at hq;exact hq.elim|dct=>unfold RW at hq;exact hq.elim|ty _=>unfold RW at hq;exact hq.elim|fn _=>unfold RW at hq;exact hq.elim|exc _ _=>unfold RW at hq;exact hq.elim
theorem zT:∀{l:List PV} {i:Nat} {p:PV},l[i]? = some p->dep p≤deps l|[],_,_,h=>by simp at h|q::qs,0,p,h=>by simp at h;subst h;unfold deps;exact Nat.le_max_left _ _|q::qs,i+1,p,h=>by unfold deps;exact Ag (zT (l:=qs) (i:=i) (by simpa using h)) (Nat.le_max_right _ _)
theorem qAA(I:L2.Inv X pins σ H s):∀(n:Nat) (p q:PV) (v u:V) (uv uu:Value) (A:Around),dep p≤n->A.units+n<cLine->RW X.K H p v->RW X.K H q u->RelV v uv->RelV u uu->SeqAt.EqAt A s uv uu (peq p q):=by
 intro n;induction n with
 |zero=>intro p q v u uv uu A hd hu hp hq rv ru;exact Q9 I p q (Nat.le_zero.mp hd) hu hp hq rv ru
 |succ n ih =>
  intro p q v u uv uu A hd hu hp hq rv ru;have hu':A.units<cLine:=Bq (Nat.le_add_right _ _) hu;have hin:A.in1.units+n<cLine:=by show A.units+1+n<cLine;omega
  have elt:∀{l m:List PV} {xs ys:List V} {its its2:List Value},deps l≤n->RWs X.K H l xs->RWs X.K H m ys->Vals xs its->Vals ys its2->∀j (h1:j<its.toArray.size) (h2:j<its2.toArray.size),SeqAt.EqAt A.in1 s its.toArray[j] its2.toArray[j] (eqN l m j):=fun {l m xs ys its its2} hdl hl hm vl vm j h1 h2=>by
   have e1:its[j]? = some its.toArray[j]:=by simp
   have e2:its2[j]? = some its2.toArray[j]:=by simp
   obtain⟨x,hx,rx⟩:=Vals.get2 vl e1;obtain⟨y,hy,ry⟩:=Vals.get2 vm e2;obtain⟨p',hp',rp'⟩:=RWs.get' hl hx;obtain⟨q',hq',rq'⟩:=RWs.get' hm hy
   have:eqN l m j=peq p' q':=by unfold eqN;rw[hp',hq']
   rw[this];exact ih p' q' x y _ _ A.in1 (Ag (zT hp') hdl) hin rp' rq' rx ry
  cases p with
  |tup l =>
   have hp0:=hp;unfold RW at hp;unfold dep at hd;obtain⟨a,xs,rfl,h2,h3⟩:=hp;cases rv;obtain⟨its,vl,tl,_⟩:=I.tuple h2;cases q with
   |non=>unfold RW at hq;subst hq;cases ru;exact SeqAt.EqAt.tuple_none tl hu'
   |bl _=>unfold RW at hq;subst hq;cases ru;exact SeqAt.EqAt.tuple_bool _ tl hu'
   |int _=>unfold RW at hq;subst hq;obtain⟨t,rfl⟩:=ru;exact SeqAt.EqAt.tuple_int _ _ tl hu'
   |str _=>unfold RW at hq;subst hq;obtain⟨t,rfl⟩:=ru;exact SeqAt.EqAt.tuple_str _ _ tl hu'
   |lst _=>unfold RW at hq;obtain⟨a,xs,rfl,h2,_⟩:=hq;cases ru;obtain⟨its,_,t,_⟩:=I.list h2;exact SeqAt.EqAt.tuple_list tl t.isList hu'
   |ref _=>unfold RW at hq;exact hq.elim
   |dct=>unfold RW at hq;exact hq.elim
   |ty _=>unfold RW at hq;exact hq.elim
   |fn _=>unfold RW at hq;exact hq.elim
   |exc _ _=>unfold RW at hq;exact hq.elim
   |tup m =>
    have hq0:=hq;unfold RW at hq;obtain⟨a2,ys,rfl,g2,g3⟩:=hq;cases ru;obtain⟨its2,vm,tm,_⟩:=I.tuple g2;by_cases ha:a=a2;subst ha;rw[RW.same I _ _ hp0 hq0];exact SeqAt.EqAt.same _
    ·refine SeqAt.EqAt.of_refs ha ?_;have rc:=SeqAt.RcAt.tuples (e:=eqN l m) tl tm hu' (elt (by omega) h3 g3 vl vm);have hl1:its.toArray.size=l.length:=by rw[AR,←vl.length,h3.length]
     have hl2:its2.toArray.size=m.length:=by rw[AR,←vm.length,g3.length]
     rw[hl1,hl2]at rc;have e:((List.range (min l.length m.length)).all (eqN l m)&&l.length==m.length)=peq (.tup l) (.tup m):=by
      unfold peq;by_cases hlm:l.length=m.length;rw[←hlm,Nat.min_self,zq l m hlm,Aj,Bool.and_true];rw[Wr l m hlm,Bt hlm,Bo]
     rw[e]at rc;exact rc
  |lst l =>
   have hp0:=hp;unfold RW at hp;unfold dep at hd;obtain⟨a,xs,rfl,h2,h3⟩:=hp;cases rv;obtain⟨its,vl,tl',_⟩:=I.list h2;have tl:=tl'.isList;cases q with
   |non=>unfold RW at hq;subst hq;cases ru;exact SeqAt.EqAt.list_none tl hu'
   |bl _=>unfold RW at hq;subst hq;cases ru;exact SeqAt.EqAt.list_bool _ tl hu'
   |int _=>unfold RW at hq;subst hq;obtain⟨t,rfl⟩:=ru;exact SeqAt.EqAt.list_int _ _ tl hu'
   |str _=>unfold RW at hq;subst hq;obtain⟨t,rfl⟩:=ru;exact SeqAt.EqAt.list_str _ _ tl hu'
   |tup _=>unfold RW at hq;obtain⟨a,xs,rfl,h2,_⟩:=hq;cases ru;obtain⟨its,_,t,_⟩:=I.tuple h2;exact SeqAt.EqAt.list_tuple tl t hu'
   |ref _=>unfold RW at hq;exact hq.elim
   |dct=>unfold RW at hq;exact hq.elim
   |ty _=>unfold RW at hq;exact hq.elim
   |fn _=>unfold RW at hq;exact hq.elim
   |exc _ _=>unfold RW at hq;exact hq.elim
   |lst m =>
    have hq0:=hq;unfold RW at hq;obtain⟨a2,ys,rfl,g2,g3⟩:=hq;cases ru;obtain⟨its2,vm,tm',_⟩:=I.list g2;have tm:=tm'.isList;by_cases ha:a=a2;subst ha;rw[RW.same I _ _ hp0 hq0];exact SeqAt.EqAt.same _
    ·refine SeqAt.EqAt.of_refs ha ?_;have hl1:its.toArray.size=l.length:=by rw[AR,←vl.length,h3.length]
     have hl2:its2.toArray.size=m.length:=by rw[AR,←vm.length,g3.length]
     unfold peq;by_cases hlm:l.length=m.length
     ·have rc:=SeqAt.RcAt.lists (e:=eqN l m) tl tm (by rw[hl1,hl2,hlm]) hu' (elt (by omega) h3 g3 vl vm);rw[hl1,zq l m hlm]at rc;exact rc
     ·rw[Wr l m hlm];exact SeqAt.RcAt.lists_lengths tl tm (by rw[hl1,hl2];exact bne_iff_ne.mpr hlm) hu'
  |non=>exact Q9 I _ q rfl hu' hp hq rv ru
  |bl _=>exact Q9 I _ q rfl hu' hp hq rv ru
  |int _=>exact Q9 I _ q rfl hu' hp hq rv ru
  |str _=>exact Q9 I _ q rfl hu' hp hq rv ru
  |ref _=>exact Q9 I _ q rfl hu' hp hq rv ru
  |dct=>exact Q9 I _ q rfl hu' hp hq rv ru
  |ty _=>exact Q9 I _ q rfl hu' hp hq rv ru
  |fn _=>exact Q9 I _ q rfl hu' hp hq rv ru
  |exc _ _=>exact Q9 I _ q rfl hu' hp hq rv ru
end
section
variable{X:Cx}{pins:List (Addr×Obj)}{σ:L2.St}{H:Hp}{s:Shared}
mutual
theorem RW.det(I:L2.Inv X pins σ H s):∀(p q:PV) {v:V},RW X.K H p v->RW X.K H q v->p=q
 | .non,q,v,h,g=>by unfold RW at h;subst h;cases q <;> unfold RW at g <;> first|rfl|exact (g:False).elim|(obtain⟨_,_,e,_⟩:=g;cases e)|cases g
 | .bl x,q,v,h,g=>by unfold RW at h;subst h;cases q <;> unfold RW at g <;> first|(obtain⟨_,_,e,_⟩:=g;cases e)|(cases g;rfl)|exact (g:False).elim|cases g
 | .int x,q,v,h,g=>by unfold RW at h;subst h;cases q <;> unfold RW at g <;> first|(obtain⟨_,_,e,_⟩:=g;cases e)|(cases g;rfl)|exact (g:False).elim|cases g
 | .str x,q,v,h,g=>by unfold RW at h;subst h;cases q <;> unfold RW at g <;> first|(obtain⟨_,_,e,_⟩:=g;cases e)|(cases g;rfl)|exact (g:False).elim|cases g
 | .tup l,q,v,h,g=>by
  unfold RW at h;obtain⟨a,xs,rfl,h2,h3⟩:=h;cases q with
  |tup m =>
   unfold RW at g;obtain⟨a',ys,e,g2,g3⟩:=g;cases e
   have:=I.tuple_inj h2 g2
   subst this;rw[RWs.det I l m h3 g3]
  |lst m=>unfold RW at g;obtain⟨a',ys,e,g2,g3⟩:=g;cases e;exact (Z5 I g2 h2).elim
  |ref _=>unfold RW at g;exact g.elim
  |dct=>unfold RW at g;exact g.elim
  |ty _=>unfold RW at g;exact g.elim
  |fn _=>unfold RW at g;exact g.elim
  |exc _ _=>unfold RW at g;exact g.elim
  |non=>unfold RW at g;cases g
  |bl _=>unfold RW at g;cases g
  |int _=>unfold RW at g;cases g
  |str _=>unfold RW at g;cases g
 | .lst l,q,v,h,g=>by
  unfold RW at h;obtain⟨a,xs,rfl,h2,h3⟩:=h;cases q with
  |lst m =>
   unfold RW at g;obtain⟨a',ys,e,g2,g3⟩:=g;cases e
   have:=I.list_inj h2 g2
   subst this;rw[RWs.det I l m h3 g3]
  |tup m=>unfold RW at g;obtain⟨a',ys,e,g2,g3⟩:=g;cases e;exact (Z5 I h2 g2).elim
  |ref _=>unfold RW at g;exact g.elim
  |dct=>unfold RW at g;exact g.elim
  |ty _=>unfold RW at g;exact g.elim
  |fn _=>unfold RW at g;exact g.elim
  |exc _ _=>unfold RW at g;exact g.elim
  |non=>unfold RW at g;cases g
  |bl _=>unfold RW at g;cases g
  |int _=>unfold RW at g;cases g
  |str _=>unfold RW at g;cases g
 | .ref _,_,_,h,_=>by unfold RW at h;exact h.elim
 | .dct,_,_,h,_=>by unfold RW at h;exact h.elim
 | .ty _,_,_,h,_=>by unfold RW at h;exact h.elim
 | .fn _,_,_,h,_=>by unfold RW at h;exact h.elim
 | .exc _ _,_,_,h,_=>by unfold RW at h;exact h.elim
theorem RWs.det(I:L2.Inv X pins σ H s):∀(l m:List PV) {xs:List V},RWs X.K H l xs->RWs X.K H m xs->l=m
 |[],m,xs,h,g=>by
  unfold RWs at h;subst h;cases m with|nil=>rfl|cons _ _=>unfold RWs at g;obtain⟨_,_,e,_⟩:=g;cases e
 |p::ps,m,xs,h,g=>by
  unfold RWs at h;obtain⟨x,r,rfl,h2,h3⟩:=h;cases m with|nil=>unfold RWs at g;cases g|cons q qs=>unfold RWs at g;obtain⟨y,t,e,g2,g3⟩:=g;cases e;rw[RW.det I p q h2 g2,RWs.det I ps qs h3 g3]
end
theorem wT(I:L2.Inv X pins σ H s)(p q:PV){v u:V}{uv uu:Value}{A:Around}(hd:dep p=0)(hu':A.units<cLine)(hp:RW X.K H p v)(hq:RW X.K H q u)(rv:RelV v uv)(ru:RelV u uu):SeqAt.RcAt A s uv uu (peq p q):=by
 cases p with
 |tup l=>unfold dep at hd;omega
 |lst l=>unfold dep at hd;omega
 |ref _=>unfold RW at hp;exact hp.elim
 |dct=>unfold RW at hp;exact hp.elim
 |ty _=>unfold RW at hp;exact hp.elim
 |fn _=>unfold RW at hp;exact hp.elim
 |exc _ _=>unfold RW at hp;exact hp.elim
 |non =>
  unfold RW at hp;subst hp;cases rv;cases q with|non=>unfold RW at hq;subst hq;cases ru;exact SeqAt.RcAt.none_none|bl _=>unfold RW at hq;subst hq;cases ru;exact SeqAt.RcAt.none_bool _|int _=>unfold RW at hq;subst hq;obtain⟨t,rfl⟩:=ru;exact SeqAt.RcAt.none_int _ _|str _=>unfold RW at hq;subst hq;obtain⟨t,rfl⟩:=ru;exact SeqAt.RcAt.none_str _ _|tup _=>unfold RW at hq;obtain⟨a,xs,rfl,h2,_⟩:=hq;cases ru;obtain⟨its,_,t,_⟩:=I.tuple h2;exact SeqAt.RcAt.none_tuple t hu'|lst _=>unfold RW at hq;obtain⟨a,xs,rfl,h2,_⟩:=hq;cases ru;obtain⟨its,_,t,_⟩:=I.list h2;exact SeqAt.RcAt.none_list t.isList hu'|ref _=>unfold RW at hq;exact hq.elim|dct=>unfold RW at hq;exact hq.elim|ty _=>unfold RW at hq;exact hq.elim|fn _=>unfold RW at hq;exact hq.elim|exc _ _=>unfold RW at hq;exact hq.elim
 |bl x =>
  unfold RW at hp;subst hp;cases rv;cases q with|non=>unfold RW at hq;subst hq;cases ru;exact SeqAt.RcAt.bool_none _|bl _=>unfold RW at hq;subst hq;cases ru;exact SeqAt.RcAt.bool_bool _ _|int _=>unfold RW at hq;subst hq;obtain⟨t,rfl⟩:=ru;exact SeqAt.RcAt.bool_int _ _ _|str _=>unfold RW at hq;subst hq;obtain⟨t,rfl⟩:=ru;exact SeqAt.RcAt.bool_str _ _ _|tup _=>unfold RW at hq;obtain⟨a,xs,rfl,h2,_⟩:=hq;cases ru;obtain⟨its,_,t,_⟩:=I.tuple h2;exact SeqAt.RcAt.bool_tuple _ t hu'|lst _=>unfold RW at hq;obtain⟨a,xs,rfl,h2,_⟩:=hq;cases ru;obtain⟨its,_,t,_⟩:=I.list h2;exact SeqAt.RcAt.bool_list _ t.isList hu'|ref _=>unfold RW at hq;exact hq.elim|dct=>unfold RW at hq;exact hq.elim|ty _=>unfold RW at hq;exact hq.elim|fn _=>unfold RW at hq;exact hq.elim|exc _ _=>unfold RW at hq;exact hq.elim
 |int x =>
  unfold RW at hp;subst hp;obtain⟨t0,rfl⟩:=rv;cases q with|non=>unfold RW at hq;subst hq;cases ru;exact SeqAt.RcAt.int_none _ _|bl _=>unfold RW at hq;subst hq;cases ru;exact SeqAt.RcAt.int_bool _ _ _|int _=>unfold RW at hq;subst hq;obtain⟨t,rfl⟩:=ru;exact SeqAt.RcAt.int_int _ _ _ _|str _=>unfold RW at hq;subst hq;obtain⟨t,rfl⟩:=ru;exact SeqAt.RcAt.int_str _ _ _ _|tup _=>unfold RW at hq;obtain⟨a,xs,rfl,h2,_⟩:=hq;cases ru;obtain⟨its,_,t,_⟩:=I.tuple h2;exact SeqAt.RcAt.int_tuple _ _ t hu'|lst _=>unfold RW at hq;obtain⟨a,xs,rfl,h2,_⟩:=hq;cases ru;obtain⟨its,_,t,_⟩:=I.list h2;exact SeqAt.RcAt.int_list _ _ t.isList hu'|ref _=>unfold RW at hq;exact hq.elim|dct=>unfold RW at hq;exact hq.elim|ty _=>unfold RW at hq;exact hq.elim|fn _=>unfold RW at hq;exact hq.elim|exc _ _=>unfold RW at hq;exact hq.elim
 |str x =>
  unfold RW at hp;subst hp;obtain⟨t0,rfl⟩:=rv;cases q with|non=>unfold RW at hq;subst hq;cases ru;exact SeqAt.RcAt.str_none _ _|bl _=>unfold RW at hq;subst hq;cases ru;exact SeqAt.RcAt.str_bool _ _ _|int _=>unfold RW at hq;subst hq;obtain⟨t,rfl⟩:=ru;exact SeqAt.RcAt.str_int _ _ _ _|str _=>unfold RW at hq;subst hq;obtain⟨t,rfl⟩:=ru;exact SeqAt.RcAt.str_str _ _ _ _|tup _=>unfold RW at hq;obtain⟨a,xs,rfl,h2,_⟩:=hq;cases ru;obtain⟨its,_,t,_⟩:=I.tuple h2;exact SeqAt.RcAt.str_tuple _ _ t hu'|lst _=>unfold RW at hq;obtain⟨a,xs,rfl,h2,_⟩:=hq;cases ru;obtain⟨its,_,t,_⟩:=I.list h2;exact SeqAt.RcAt.str_list _ _ t.isList hu'|ref _=>unfold RW at hq;exact hq.elim|dct=>unfold RW at hq;exact hq.elim|ty _=>unfold RW at hq;exact hq.elim|fn _=>unfold RW at hq;exact hq.elim|exc _ _=>unfold RW at hq;exact hq.elim
theorem wa(I:L2.Inv X pins σ H s)(p q:PV){v u:V}{uv uu:Value}{A:Around}(hd:dep p=0)(hu':A.units<cLine)(hp:RW X.K H p v)(hq:RW X.K H q u)(rv:RelV v uv)(ru:RelV u uu):SeqAt.RcNeAt A s uv uu (!peq p q):=by
 cases p with
 |tup l=>unfold dep at hd;omega
 |lst l=>unfold dep at hd;omega
 |ref _=>unfold RW at hp;exact hp.elim
 |dct=>unfold RW at hp;exact hp.elim
 |ty _=>unfold RW at hp;exact hp.elim
 |fn _=>unfold RW at hp;exact hp.elim
 |exc _ _=>unfold RW at hp;exact hp.elim
 |non =>
  unfold RW at hp;subst hp;cases rv;cases q with|non=>unfold RW at hq;subst hq;cases ru;exact SeqAt.RcNeAt.none_none|bl _=>unfold RW at hq;subst hq;cases ru;exact SeqAt.RcNeAt.none_bool _|int _=>unfold RW at hq;subst hq;obtain⟨t,rfl⟩:=ru;exact SeqAt.RcNeAt.none_int _ _|str _=>unfold RW at hq;subst hq;obtain⟨t,rfl⟩:=ru;exact SeqAt.RcNeAt.none_str _ _|tup _=>unfold RW at hq;obtain⟨a,xs,rfl,h2,_⟩:=hq;cases ru;obtain⟨its,_,t,_⟩:=I.tuple h2;exact SeqAt.RcNeAt.none_tuple t hu'|lst _=>unfold RW at hq;obtain⟨a,xs,rfl,h2,_⟩:=hq;cases ru;obtain⟨its,_,t,_⟩:=I.list h2;exact SeqAt.RcNeAt.none_list t.isList hu'|ref _=>unfold RW at hq;exact hq.elim|dct=>unfold RW at hq;exact hq.elim|ty _=>unfold RW at hq;exact hq.elim|fn _=>unfold RW at hq;exact hq.elim|exc _ _=>unfold RW at hq;exact hq.elim
 |bl x =>
  unfold RW at hp;subst hp;cases rv;cases q with|non=>unfold RW at hq;subst hq;cases ru;exact SeqAt.RcNeAt.bool_none _|bl _=>unfold RW at hq;subst hq;cases ru;exact SeqAt.RcNeAt.bool_bool _ _|int _=>unfold RW at hq;subst hq;obtain⟨t,rfl⟩:=ru;exact SeqAt.RcNeAt.bool_int _ _ _|str _=>unfold RW at hq;subst hq;obtain⟨t,rfl⟩:=ru;exact SeqAt.RcNeAt.bool_str _ _ _|tup _=>unfold RW at hq;obtain⟨a,xs,rfl,h2,_⟩:=hq;cases ru;obtain⟨its,_,t,_⟩:=I.tuple h2;exact SeqAt.RcNeAt.bool_tuple _ t hu'|lst _=>unfold RW at hq;obtain⟨a,xs,rfl,h2,_⟩:=hq;cases ru;obtain⟨its,_,t,_⟩:=I.list h2;exact SeqAt.RcNeAt.bool_list _ t.isList hu'|ref _=>unfold RW at hq;exact hq.elim|dct=>unfold RW at hq;exact hq.elim|ty _=>unfold RW at hq;exact hq.elim|fn _=>unfold RW at hq;exact hq.elim|exc _ _=>unfold RW at hq;exact hq.elim
 |int x =>
  unfold RW at hp;subst hp;obtain⟨t0,rfl⟩:=rv;cases q with|non=>unfold RW at hq;subst hq;cases ru;exact SeqAt.RcNeAt.int_none _ _|bl _=>unfold RW at hq;subst hq;cases ru;exact SeqAt.RcNeAt.int_bool _ _ _|int _=>unfold RW at hq;subst hq;obtain⟨t,rfl⟩:=ru;exact SeqAt.RcNeAt.int_int _ _ _ _|str _=>unfold RW at hq;subst hq;obtain⟨t,rfl⟩:=ru;exact SeqAt.RcNeAt.int_str _ _ _ _|tup _=>unfold RW at hq;obtain⟨a,xs,rfl,h2,_⟩:=hq;cases ru;obtain⟨its,_,t,_⟩:=I.tuple h2;exact SeqAt.RcNeAt.int_tuple _ _ t hu'|lst _=>unfold RW at hq;obtain⟨a,xs,rfl,h2,_⟩:=hq;cases ru;obtain⟨its,_,t,_⟩:=I.list h2;exact SeqAt.RcNeAt.int_list _ _ t.isList hu'|ref _=>unfold RW at hq;exact hq.elim|dct=>unfold RW at hq;exact hq.elim|ty _=>unfold RW at hq;exact hq.elim|fn _=>unfold RW at hq;exact hq.elim|exc _ _=>unfold RW at hq;exact hq.elim
 |str x =>
  unfold RW at hp;subst hp;obtain⟨t0,rfl⟩:=rv;cases q with|non=>unfold RW at hq;subst hq;cases ru;exact SeqAt.RcNeAt.str_none _ _|bl _=>unfold RW at hq;subst hq;cases ru;exact SeqAt.RcNeAt.str_bool _ _ _|int _=>unfold RW at hq;subst hq;obtain⟨t,rfl⟩:=ru;exact SeqAt.RcNeAt.str_int _ _ _ _|str _=>unfold RW at hq;subst hq;obtain⟨t,rfl⟩:=ru;exact SeqAt.RcNeAt.str_str _ _ _ _|tup _=>unfold RW at hq;obtain⟨a,xs,rfl,h2,_⟩:=hq;cases ru;obtain⟨its,_,t,_⟩:=I.tuple h2;exact SeqAt.RcNeAt.str_tuple _ _ t hu'|lst _=>unfold RW at hq;obtain⟨a,xs,rfl,h2,_⟩:=hq;cases ru;obtain⟨its,_,t,_⟩:=I.list h2;exact SeqAt.RcNeAt.str_list _ _ t.isList hu'|ref _=>unfold RW at hq;exact hq.elim|dct=>unfold RW at hq;exact hq.elim|ty _=>unfold RW at hq;exact hq.elim|fn _=>unfold RW at hq;exact hq.elim|exc _ _=>unfold RW at hq;exact hq.elim
theorem qKs(I:L2.Inv X pins σ H s)(p q:PV){v u:V}{uv uu:Value}{A:Around}(hu:A.units+(dep p+1)<cLine)(hp:RW X.K H p v)(hq:RW X.K H q u)(rv:RelV v uv)(ru:RelV u uu):SeqAt.RcAt A s uv uu (peq p q):=by
 have hu':A.units<cLine:=Bq (Nat.le_add_right _ _) hu;have elt:∀{n:Nat} {l m:List PV} {xs ys:List V} {its its2:List Value},A.in1.units+n<cLine->deps l≤n->RWs X.K H l xs->RWs X.K H m ys->Vals xs its->Vals ys its2->∀j (h1:j<its.toArray.size) (h2:j<its2.toArray.size),SeqAt.EqAt A.in1 s its.toArray[j] its2.toArray[j] (eqN l m j):=fun {n l m xs ys its its2} hin hdl hl hm vl vm j h1 h2=>by
  have e1:its[j]? = some its.toArray[j]:=by simp
  have e2:its2[j]? = some its2.toArray[j]:=by simp
  obtain⟨x,hx,rx⟩:=Vals.get2 vl e1;obtain⟨y,hy,ry⟩:=Vals.get2 vm e2;obtain⟨p',hp',rp'⟩:=RWs.get' hl hx;obtain⟨q',hq',rq'⟩:=RWs.get' hm hy
  have:eqN l m j=peq p' q':=by unfold eqN;rw[hp',hq']
  rw[this];exact qAA I n p' q' x y _ _ A.in1 (Ag (zT hp') hdl) hin rp' rq' rx ry
 cases p with
 |tup l =>
  have hp0:=hp;unfold RW at hp;obtain⟨a,xs,rfl,h2,h3⟩:=hp;cases rv;obtain⟨its,vl,tl,_⟩:=I.tuple h2;unfold dep at hu;cases q with
  |non=>unfold RW at hq;subst hq;cases ru;exact SeqAt.RcAt.tuple_none tl hu'
  |bl _=>unfold RW at hq;subst hq;cases ru;exact SeqAt.RcAt.tuple_bool _ tl hu'
  |int _=>unfold RW at hq;subst hq;obtain⟨t,rfl⟩:=ru;exact SeqAt.RcAt.tuple_int _ _ tl hu'
  |str _=>unfold RW at hq;subst hq;obtain⟨t,rfl⟩:=ru;exact SeqAt.RcAt.tuple_str _ _ tl hu'
  |lst _=>unfold RW at hq;obtain⟨a,xs,rfl,h2,_⟩:=hq;cases ru;obtain⟨its,_,t,_⟩:=I.list h2;exact SeqAt.RcAt.tuple_list tl t.isList hu'
  |ref _=>unfold RW at hq;exact hq.elim
  |dct=>unfold RW at hq;exact hq.elim
  |ty _=>unfold RW at hq;exact hq.elim
  |fn _=>unfold RW at hq;exact hq.elim
  |exc _ _=>unfold RW at hq;exact hq.elim
  |tup m =>
   unfold RW at hq;obtain⟨a2,ys,rfl,g2,g3⟩:=hq;cases ru;obtain⟨its2,vm,tm,_⟩:=I.tuple g2;have rc:=SeqAt.RcAt.tuples (e:=eqN l m) tl tm hu' (elt (n:=deps l) (by show A.units+1+deps l<cLine;omega) (AG _) h3 g3 vl vm);have hl1:its.toArray.size=l.length:=by rw[AR,←vl.length,h3.length]
   have hl2:its2.toArray.size=m.length:=by rw[AR,←vm.length,g3.length]
   rw[hl1,hl2]at rc;have e:((List.range (min l.length m.length)).all (eqN l m)&&l.length==m.length)=peq (.tup l) (.tup m):=by
    unfold peq;by_cases hlm:l.length=m.length;rw[←hlm,Nat.min_self,zq l m hlm,Aj,Bool.and_true];rw[Wr l m hlm,Bt hlm,Bo]
   rw[e]at rc;exact rc
 |lst l =>
  have hp0:=hp;unfold RW at hp;obtain⟨a,xs,rfl,h2,h3⟩:=hp;cases rv;obtain⟨its,vl,tl',_⟩:=I.list h2;have tl:=tl'.isList;unfold dep at hu;cases q with
  |non=>unfold RW at hq;subst hq;cases ru;exact SeqAt.RcAt.list_none tl hu'
  |bl _=>unfold RW at hq;subst hq;cases ru;exact SeqAt.RcAt.list_bool _ tl hu'
  |int _=>unfold RW at hq;subst hq;obtain⟨t,rfl⟩:=ru;exact SeqAt.RcAt.list_int _ _ tl hu'
  |str _=>unfold RW at hq;subst hq;obtain⟨t,rfl⟩:=ru;exact SeqAt.RcAt.list_str _ _ tl hu'
  |tup _=>unfold RW at hq;obtain⟨a,xs,rfl,h2,_⟩:=hq;cases ru;obtain⟨its,_,t,_⟩:=I.tuple h2;exact SeqAt.RcAt.list_tuple tl t hu'
  |ref _=>unfold RW at hq;exact hq.elim
  |dct=>unfold RW at hq;exact hq.elim
  |ty _=>unfold RW at hq;exact hq.elim
  |fn _=>unfold RW at hq;exact hq.elim
  |exc _ _=>unfold RW at hq;exact hq.elim
  |lst m =>
   unfold RW at hq;obtain⟨a2,ys,rfl,g2,g3⟩:=hq;cases ru;obtain⟨its2,vm,tm',_⟩:=I.list g2;have tm:=tm'.isList;have hl1:its.toArray.size=l.length:=by rw[AR,←vl.length,h3.length]
   have hl2:its2.toArray.size=m.length:=by rw[AR,←vm.length,g3.length]
   unfold peq;by_cases hlm:l.length=m.length
   ·have rc:=SeqAt.RcAt.lists (e:=eqN l m) tl tm (by rw[hl1,hl2,hlm]) hu' (elt (n:=deps l) (by show A.units+1+deps l<cLine;omega) (AG _) h3 g3 vl vm);rw[hl1,zq l m hlm]at rc;exact rc
   ·rw[Wr l m hlm];exact SeqAt.RcAt.lists_lengths tl tm (by rw[hl1,hl2];exact bne_iff_ne.mpr hlm) hu'
 |non=>exact wT I _ q rfl hu' hp hq rv ru
 |bl _=>exact wT I _ q rfl hu' hp hq rv ru
 |int _=>exact wT I _ q rfl hu' hp hq rv ru
 |str _=>exact wT I _ q rfl hu' hp hq rv ru
 |ref _=>exact wT I _ q rfl hu' hp hq rv ru
 |dct=>exact wT I _ q rfl hu' hp hq rv ru
 |ty _=>exact wT I _ q rfl hu' hp hq rv ru
 |fn _=>exact wT I _ q rfl hu' hp hq rv ru
 |exc _ _=>exact wT I _ q rfl hu' hp hq rv ru
theorem qKc(I:L2.Inv X pins σ H s)(p q:PV){v u:V}{uv uu:Value}{A:Around}(hu:A.units+(dep p+1)<cLine)(hp:RW X.K H p v)(hq:RW X.K H q u)(rv:RelV v uv)(ru:RelV u uu):SeqAt.RcNeAt A s uv uu (!peq p q):=by
 have hu':A.units<cLine:=Bq (Nat.le_add_right _ _) hu;have elt:∀{n:Nat} {l m:List PV} {xs ys:List V} {its its2:List Value},A.in1.units+n<cLine->deps l≤n->RWs X.K H l xs->RWs X.K H m ys->Vals xs its->Vals ys its2->∀j (h1:j<its.toArray.size) (h2:j<its2.toArray.size),SeqAt.EqAt A.in1 s its.toArray[j] its2.toArray[j] (eqN l m j):=fun {n l m xs ys its its2} hin hdl hl hm vl vm j h1 h2=>by
  have e1:its[j]? = some its.toArray[j]:=by simp
  have e2:its2[j]? = some its2.toArray[j]:=by simp
  obtain⟨x,hx,rx⟩:=Vals.get2 vl e1;obtain⟨y,hy,ry⟩:=Vals.get2 vm e2;obtain⟨p',hp',rp'⟩:=RWs.get' hl hx;obtain⟨q',hq',rq'⟩:=RWs.get' hm hy
  have:eqN l m j=peq p' q':=by unfold eqN;rw[hp',hq']
  rw[this];exact qAA I n p' q' x y _ _ A.in1 (Ag (zT hp') hdl) hin rp' rq' rx ry
 cases p with
 |tup l =>
  have hp0:=hp;unfold RW at hp;obtain⟨a,xs,rfl,h2,h3⟩:=hp;cases rv;obtain⟨its,vl,tl,_⟩:=I.tuple h2;unfold dep at hu;cases q with
  |non=>unfold RW at hq;subst hq;cases ru;exact SeqAt.RcNeAt.tuple_none tl hu'
  |bl _=>unfold RW at hq;subst hq;cases ru;exact SeqAt.RcNeAt.tuple_bool _ tl hu'
  |int _=>unfold RW at hq;subst hq;obtain⟨t,rfl⟩:=ru;exact SeqAt.RcNeAt.tuple_int _ _ tl hu'
  |str _=>unfold RW at hq;subst hq;obtain⟨t,rfl⟩:=ru;exact SeqAt.RcNeAt.tuple_str _ _ tl hu'
  |lst _=>unfold RW at hq;obtain⟨a,xs,rfl,h2,_⟩:=hq;cases ru;obtain⟨its,_,t,_⟩:=I.list h2;exact SeqAt.RcNeAt.tuple_list tl t.isList hu'
  |ref _=>unfold RW at hq;exact hq.elim
  |dct=>unfold RW at hq;exact hq.elim
  |ty _=>unfold RW at hq;exact hq.elim
  |fn _=>unfold RW at hq;exact hq.elim
  |exc _ _=>unfold RW at hq;exact hq.elim
  |tup m =>
   unfold RW at hq;obtain⟨a2,ys,rfl,g2,g3⟩:=hq;cases ru;obtain⟨its2,vm,tm,_⟩:=I.tuple g2;have rc:=SeqAt.RcNeAt.tuples (e:=eqN l m) tl tm hu' (elt (n:=deps l) (by show A.units+1+deps l<cLine;omega) (AG _) h3 g3 vl vm);have hl1:its.toArray.size=l.length:=by rw[AR,←vl.length,h3.length]
   have hl2:its2.toArray.size=m.length:=by rw[AR,←vm.length,g3.length]
   rw[hl1,hl2]at rc;have e:((List.range (min l.length m.length)).all (eqN l m)&&l.length==m.length)=peq (.tup l) (.tup m):=by
    unfold peq;by_cases hlm:l.length=m.length;rw[←hlm,Nat.min_self,zq l m hlm,Aj,Bool.and_true];rw[Wr l m hlm,Bt hlm,Bo]
   rw[e]at rc;exact rc
 |lst l =>
  have hp0:=hp;unfold RW at hp;obtain⟨a,xs,rfl,h2,h3⟩:=hp;cases rv;obtain⟨its,vl,tl',_⟩:=I.list h2;have tl:=tl'.isList;unfold dep at hu;cases q with
  |non=>unfold RW at hq;subst hq;cases ru;exact SeqAt.RcNeAt.list_none tl hu'
  |bl _=>unfold RW at hq;subst hq;cases ru;exact SeqAt.RcNeAt.list_bool _ tl hu'
  |int _=>unfold RW at hq;subst hq;obtain⟨t,rfl⟩:=ru;exact SeqAt.RcNeAt.list_int _ _ tl hu'
  |str _=>unfold RW at hq;subst hq;obtain⟨t,rfl⟩:=ru;exact SeqAt.RcNeAt.list_str _ _ tl hu'
  |tup _=>unfold RW at hq;obtain⟨a,xs,rfl,h2,_⟩:=hq;cases ru;obtain⟨its,_,t,_⟩:=I.tuple h2;exact SeqAt.RcNeAt.list_tuple tl t hu'
  |ref _=>unfold RW at hq;exact hq.elim
  |dct=>unfold RW at hq;exact hq.elim
  |ty _=>unfold RW at hq;exact hq.elim
  |fn _=>unfold RW at hq;exact hq.elim
  |exc _ _=>unfold RW at hq;exact hq.elim
  |lst m =>
   unfold RW at hq;obtain⟨a2,ys,rfl,g2,g3⟩:=hq;cases ru;obtain⟨its2,vm,tm',_⟩:=I.list g2;have tm:=tm'.isList;have hl1:its.toArray.size=l.length:=by rw[AR,←vl.length,h3.length]
   have hl2:its2.toArray.size=m.length:=by rw[AR,←vm.length,g3.length]
   unfold peq;by_cases hlm:l.length=m.length
   ·have rc:=SeqAt.RcNeAt.lists (e:=eqN l m) tl tm (by rw[hl1,hl2,hlm]) hu' (elt (n:=deps l) (by show A.units+1+deps l<cLine;omega) (AG _) h3 g3 vl vm);rw[hl1,zq l m hlm]at rc;exact rc
   ·rw[Wr l m hlm];exact SeqAt.RcNeAt.lists_lengths tl tm (by rw[hl1,hl2];exact bne_iff_ne.mpr hlm) hu'
 |non=>exact wa I _ q rfl hu' hp hq rv ru
 |bl _=>exact wa I _ q rfl hu' hp hq rv ru
 |int _=>exact wa I _ q rfl hu' hp hq rv ru
 |str _=>exact wa I _ q rfl hu' hp hq rv ru
 |ref _=>exact wa I _ q rfl hu' hp hq rv ru
 |dct=>exact wa I _ q rfl hu' hp hq rv ru
 |ty _=>exact wa I _ q rfl hu' hp hq rv ru
 |fn _=>exact wa I _ q rfl hu' hp hq rv ru
 |exc _ _=>exact wa I _ q rfl hu' hp hq rv ru
end
def res(st:qC)(p:PV):PV:=match asL st p with|some l=>.lst l|none=>p
theorem Zn{K:W.Frag}{H:Hp}{b:Bz}{st:qC}{p:PV}{v:V}(S:SR K H b st)(r:RV K H b p v)(h:nr (res st p)=true):RW K H (res st p) v:=by
 unfold res at h ⊢;cases e:asL st p with|none=>rw[e]at h;exact RV.rw p h r|some l=>rw[e]at h;obtain⟨a,xs,rfl,h2,h3⟩:=we S r e;dsimp only at h ⊢;unfold nr at h;unfold RW;exact⟨a,xs,rfl,h2,RVs.rws l h h3⟩
abbrev Z6:Nat:=60
def Yk(p q:PV):Bool:=nr p&&nr q&&decide (dep p≤Z6)
def gEq:PV->PV->qC->Rs PV:=fun p q st=>if Yk (res st p) (res st q)=true then .ok (.bl (peq (res st p) (res st q))) st else .no
def gNe:PV->PV->qC->Rs PV:=fun p q st=>if Yk (res st p) (res st q)=true then .ok (.bl (!peq (res st p) (res st q))) st else .no
section
variable{X:Cx}{E:XK}{e a c d:Expr}{es:List Expr}{f fa fb fc:FE}{pos:Pos}
def qHI(K:W.Frag)(neg:Bool):R2:=fun u v H Q=>∃p q,RW K H p u∧RW K H q v∧dep p≤Z6∧Q (.bl (if neg then !peq p q else peq p q)) H
theorem WT(hr:X.A.units+64<cLine):OpR X (compareOp .Eq) (qHI X.K false):=by intro pins s σ H x y v u Q I rx ry h;obtain⟨p,q,hp,hq,hd,h⟩:=h;exact qKs I p q (by have:dep p≤60:=hd;omega) hp hq rx ry _ _ _ _ ⟨.bl _,H,I,rfl,h⟩
theorem zc(hr:X.A.units+64<cLine):OpR X (compareOp .NotEq) (qHI X.K true):=by intro pins s σ H x y v u Q I rx ry h;obtain⟨p,q,hp,hq,hd,h⟩:=h;exact qKc I p q (by have:dep p≤60:=hd;omega) hp hq rx ry _ _ _ _ ⟨.bl _,H,I,rfl,h⟩
theorem YT{p q:PV}(h:Yk p q=true):nr p=true∧nr q=true∧dep p≤Z6:=by unfold Yk at h;rw[AX,AX]at h;exact⟨h.1.1,h.1.2,of_decide_eq_true h.2⟩
theorem zO:OpG X E (qHI X.K false) gEq:=by
 intro H b st p q u v Q S rp rq P;unfold gEq at P;split at P;rename_i h;obtain⟨h1,h2,h3⟩:=YT h;exact⟨_,_,Zn S rp h1,Zn S rq h2,h3,PostE.here P S W7⟩;exact P.elim
theorem yA:OpG X E (qHI X.K true) gNe:=by
 intro H b st p q u v Q S rp rq P;unfold gNe at P;split at P;rename_i h;obtain⟨h1,h2,h3⟩:=YT h;exact⟨_,_,Zn S rp h1,Zn S rq h2,h3,PostE.here P S W7⟩;exact P.elim
theorem qHz(hr:X.A.units+64<cLine)(ha:VE X E a fa)(hb:VE X E c fb):VE X E (.Compare a [.Eq] [c] pos) (qJ gEq fa fb):=JC (WT hr) zO ha hb
def pin(x:PV):List PV->Bool|[]=>false|y::ys=>peq y x||pin x ys
def gIn(neg:Bool):PV->PV->qC->Rs PV:=fun p q st=>match ZM st q with|some l=>if nrs l=true∧nr (res st p)=true∧deps l≤Z6 then .ok (.bl (if neg then !pin (res st p) l else pin (res st p) l)) st else .no|none=>.no
def qGf(K:W.Frag)(neg:Bool):R2:=fun u v H Q=>∃p l a xs,v= .ref a∧(SqL K H a xs∨SqT K H a xs)∧RW K H p u∧RWs K H l xs∧deps l≤Z6∧Q (.bl (if neg then !pin p l else pin p l)) H
theorem yu{X:Cx}{pins:List (Addr×Obj)}{σ:L2.St}{H:Hp}{s:Shared}(I:L2.Inv X pins σ H s){A:Around}{p:PV}{u:V}{uu:Value}(hp:RW X.K H p u)(ru:RelV u uu)(hA:A.units+60<cLine)
  {l:List PV} {xs:List V} {its:List Value} (hl:RWs X.K H l xs) (vl:Vals xs its) (hd:deps l≤Z6):∃g:Value->Bool,(∀y∈its,SeqAt.EqAt A s y uu (g y))∧its.any g=pin p l:=by
 classical
 have key:∀(q:PV) (x:V) (y:Value),RW X.K H q x->RelV x y->decide (∃q x,RW X.K H q x∧RelV x y∧peq q p=true)=peq q p:=fun q x y h1 h2=>by
  by_cases hb:peq q p=true;rw[hb];exact AV ⟨q,x,h1,h2,hb⟩
  ·rw[show peq q p=false by simpa using hb];refine AY fun⟨q',x',k1,k2,k3⟩=>hb ?_;have ex:x'=x:=k2.inj h2;subst ex;rw[RW.det I q q' h1 k1];exact k3
 refine⟨fun y=>decide (∃q x,RW X.K H q x∧RelV x y∧peq q p=true),fun y hy=>?_,?_⟩;obtain⟨i,hi⟩:=BK hy;obtain⟨x,hx,rx⟩:=Vals.get2 vl hi;obtain⟨q,hq,rq⟩:=RWs.get' hl hx;dsimp only;rw[key q x y rq rx];exact qAA I 60 q p x u y uu A (Ag (zT hq) hd) hA rq hp rx ru
 ·have go:∀(l:List PV) (xs:List V) (its:List Value),RWs X.K H l xs->Vals xs its->its.any (fun y=>decide (∃q x,RW X.K H q x∧RelV x y∧peq q p=true))=pin p l:=by
   intro l;induction l with
   |nil=>intro xs its h v;unfold RWs at h;subst h;cases v;rfl
   |cons q qs ih =>
    intro xs its h v;unfold RWs at h;obtain⟨x,r,rfl,h2,h3⟩:=h;cases v with|cons rv vr=>rw[List.any_cons,key q x _ h2 rv,ih _ _ h3 vr];rfl
  exact go l xs its hl vl
theorem qIu(hr:X.A.units+64<cLine):OpR X (compareOp .In) (qGf X.K false):=by
 intro pins s σ H x y v u Q I rx ry h;obtain⟨p,l,a,xs,rfl,hs,hp,hl,hd,h⟩:=h;cases ry;have hA:X.A.in1.units+60<cLine:=by show X.A.units+1+60<cLine;omega
 rcases hs with hs|hs
 ·obtain⟨its,vl,t,_⟩:=I.list hs;obtain⟨g,h1,h2⟩:=yu I hp rx hA hl vl hd;exact SeqAt.in_listAt g t.isList (fun y hy=>h1 y (by simpa using hy)) ⟨.bl _,H,I,by show _=_;rw[List.any_toArray,h2];rfl,h⟩
 ·obtain⟨its,vl,t,_⟩:=I.tuple hs;obtain⟨g,h1,h2⟩:=yu I hp rx hA hl vl hd;exact SeqAt.in_tupleAt g t (fun y hy=>h1 y (by simpa using hy)) ⟨.bl _,H,I,by show _=_;rw[List.any_toArray,h2];rfl,h⟩
theorem qC5(hr:X.A.units+64<cLine):OpR X (compareOp .NotIn) (qGf X.K true):=by
 intro pins s σ H x y v u Q I rx ry h;obtain⟨p,l,a,xs,rfl,hs,hp,hl,hd,h⟩:=h;cases ry;have hA:X.A.in1.units+60<cLine:=by show X.A.units+1+60<cLine;omega
 rcases hs with hs|hs
 ·obtain⟨its,vl,t,_⟩:=I.list hs;obtain⟨g,h1,h2⟩:=yu I hp rx hA hl vl hd;exact SeqAt.notIn_listAt g t.isList (fun y hy=>h1 y (by simpa using hy)) ⟨.bl _,H,I,by show _=_;rw[List.any_toArray,h2];rfl,h⟩
 ·obtain⟨its,vl,t,_⟩:=I.tuple hs;obtain⟨g,h1,h2⟩:=yu I hp rx hA hl vl hd;exact SeqAt.notIn_tupleAt g t (fun y hy=>h1 y (by simpa using hy)) ⟨.bl _,H,I,by show _=_;rw[List.any_toArray,h2];rfl,h⟩
theorem qLL{neg:Bool}:OpG X E (qGf X.K neg) (gIn neg):=by
 intro H b st p q u v Q S rp rq P;unfold gIn at P;split at P
 ·rename_i l el;split at P;rename_i hh;obtain⟨h1,h2,h3⟩:=hh;obtain⟨a,xs,rfl,k2,k3⟩:=Za S rq el;exact⟨_,l,a,xs,rfl,k2,Zn S rp h2,RVs.rws l h1 k3,h3,PostE.here P S W7⟩;exact P.elim
 ·exact P.elim
end
end EV
end
section
namespace EV
open PySem PySem.Spec PyProof.Rows L2 EX
section
variable{X:Cx}{E:XK}{e a c d:Expr}{es:List Expr}{f fa fb fc:FE}{pos:Pos}{F G:FS}
def Zz(C:Addr)(t:FA):FS:=fun r st=>match t r st with| .ok ps s=>if ps.length≤sizeLine then .ex ⟨C,[]⟩ s else .no| .ex x s=>.ex x s| .no=>.no
theorem qAj{x:Str}{C:Addr}{t:FA}{np cpos:Pos}(hz:Rz X E)(hc:X.calm=true)(hg:Gl X x)(hm:X.mg x=some (.ref C))(q:W.excIn X.K C bmV "ValueError.__new__" = true)(ha:VA X E (e::es) t)(hdb:(x==("__debug__":Str))=false:=by decide)
  (he:starEach (e::es) X.env=(false,eval e X.env)::starEach es X.env:=by rfl) (hpl:(backTo cpos (starEach es X.env)).any (·.1)=false:=by rfl):VS X E (.Raise (some (.Call (.Name x np) (e::es) [] cpos)) none pos) (Zz C t) :=
 PS.imp (qGA hz hc hg hm q ha hdb he hpl) fun D s H ⟨b,r,st,S,R,P⟩=>⟨b,r,st,S,R,by
  unfold Zz at P;cases ef:t r st with
  |no=>rw[ef]at P;exact P.elim
  |ex x s1=>rw[ef]at P;exact P
  |ok ps s1 =>
   rw[ef]at P;dsimp only at P;by_cases hl:ps.length≤sizeLine;rw[AE hl]at P;exact fun vs H' b' e' S' r'=>⟨by rw[←r'.length];exact hl,P (.ref C) none H' b' e' S' ⟨rfl,.inl ⟨rfl,rfl⟩⟩⟩;rw[AF hl]at P;exact P.elim⟩
theorem REnv.lose{K:W.Frag}{H:Hp}{b:Bz}{r:qk}{s:L2.St}(h:REnv K H b r s)(i:Nat):REnv K H b (r.set i none) (s.set i none):=by
 refine⟨by simp[h.1],fun j q hq=>?_⟩;by_cases hj:i=j
 ·subst hj;by_cases hl:i<r.length;rw[A5 hl]at hq;cases hq;rw[Be (by simpa using hl)]at hq;cases hq
 ·rw[BB hj]at hq ⊢;exact h.2 j q hq
def Yy(i n:Nat)(cs:List Addr)(Fb Fh:FS):FS:=fun r st=>match Fb r st with
 | .ex x s=>if x.cls∈cs then (match Fh ((List.replicate n none).set i (some (.exc x.cls x.fs))) s with
  | .nx r' s'=>.nx (r'.set i none) s'
  | .bk r' s'=>.bk (r'.set i none) s'
  | .ct r' s'=>.ct (r'.set i none) s'
  | .rt v s'=>.rt v s'
  | .ex _ _=>.no
  | .no=>.no) else .no
 |o=>o
theorem qIm{x n:Str}{Bx:Addr}{dd:Option Addr}{cd:ClassData}{sl:Array (Option Value)}{body:List Stmt}{b0:Stmt}{suite:List Stmt}{np hpos:Pos}{cs:List Addr}{Fb Fh:FS}(i:Nat)(FX:FrameX X)(hc:X.calm=true)(hN:X.N.Nodup)
  (hg:Gl X x) (hm:X.mg x=some (.ref Bx)) (o1:X.K.lookup Bx=some ⟨.type "type",dd,.cls cd,sl⟩) (m1:W.mroIn X.K Bx (.type "BaseException")=some true) (hcs:∀C∈cs,W.mroIn X.K C (.ref Bx)=some true)
  (hb:∀(pins:List (Addr×Obj)) (xe:Value->Shared->Prop) (E':XK),ZO (CXF X.prog X.w) (qAh X pins xe) E'->VSs (qAh X pins xe) E' body Fb) (hh:∀ea,VSs (suX X ea) E0 (b0::suite) Fh)
  (hi:X.N[i]? = some n:=by rfl) (hl:X.env.scope.names.lookup n=some .local:=by rfl) (hdb:(x==("__debug__":Str))=false:=by decide) :
  VS X E (.Try body [.ExceptHandler (some (.Name x np)) (some n) (b0::suite) hpos] [] [] pos) (Yy i X.N.length cs Fb Fh):=by
 refine PS.imp (qJm (ok:=fun v=>∃C∈cs,v= .ref C) (tb:=fun E'=>rdS X.K E' Fb) (th:=rdS X.K E0 Fh) FX hc hN hi hl hg hm o1 m1 (fun v ⟨C,hC,e⟩=>⟨C,e,hcs C hC⟩) hb hh hdb) fun D σ H ⟨b,r,st,S,R,P⟩=>⟨b,r,st,S,R,?_⟩;unfold Yy at P;cases eb:Fb r st with
 |nx r' s'=>rw[eb]at P;exact P
 |rt r' s'=>rw[eb]at P;exact P
 |bk r' s'=>rw[eb]at P;exact P
 |ct r' s'=>rw[eb]at P;exact P
 |no=>rw[eb]at P;exact P
 |ex x s1 =>
  rw[eb]at P;dsimp only at P;by_cases hx:x.cls∈cs
  ·rw[AE hx]at P;intro c d H' b' e' S' rx;obtain⟨rc,rf⟩:=rx;refine⟨⟨x.cls,hx,rc⟩,fun σ' ea oe hlen hn hcls hdict hdata=>⟨b',(List.replicate X.N.length none).set i (some (.exc x.cls x.fs)),s1,S'.new hn,⟨by simp[hlen],fun j p hp=>?_⟩,?_⟩⟩
   ·by_cases hj:i=j
    ·subst hj;have hl':i<X.N.length:=(AQ.mp hi).1;rw[A5 (by simpa using hl')]at hp;cases hp;refine⟨.ref ea,by rw[A5 (by rw[hlen];exact hl')],?_⟩;unfold RV;refine⟨ea,oe,_,rfl,qm,S'.new_notin hn,hcls.trans rc,hdata,rf.imp (fun q=>⟨q.1,hdict.trans q.2⟩) fun⟨a,q1,q2,q3⟩=>⟨a,hdict.trans q1,by rw[qT (qU q2 hn)];exact q2,q3⟩⟩
    ·rw[BB hj,Bl]at hp;split at hp <;> cases hp
   ·have P2:=PostS.ext P (e'.trans (Ext.new (o:=.frz oe qE9) hn));cases eh:Fh ((List.replicate X.N.length none).set i (some (.exc x.cls x.fs))) s1 with|nx r' s'=>rw[eh]at P2;exact fun s2 H2 b2 e2 S2 R2=>P2 _ H2 b2 e2 S2 (R2.lose i)|bk r' s'=>rw[eh]at P2;exact fun s2 H2 b2 e2 S2 R2=>P2 _ H2 b2 e2 S2 (R2.lose i)|ct r' s'=>rw[eh]at P2;exact fun s2 H2 b2 e2 S2 R2=>P2 _ H2 b2 e2 S2 (R2.lose i)|rt v s'=>rw[eh]at P2;exact P2|ex y s'=>rw[eh]at P2;exact P2.elim|no=>rw[eh]at P2;exact P2.elim
  ·rw[AF hx]at P;exact P.elim
def tyP:PV->Option Value| .non=>some (.type "NoneType")| .bl _=>some (.type "bool")| .int _=>some (.type "int")| .str _=>some (.type "str")| .tup _=>some (.type "tuple")| .lst _=>some (.type "list")| .ref _=>some (.type "list")| .dct=>some (.type "dict")| .exc c _=>some (.ref c)|_=>none
def clP:PV->Option Value| .ty n=>some (.type n)| .fn a=>some (.ref a)|_=>none
def qDC(kit:Value->Value->Option Bool)(p c:PV):Option Bool:=match tyP p,clP c with|some t,some c=>kit t c|_,_=>none
def qAt(kit:Value->Value->Option Bool)(p:PV):List PV->Option Bool
 |[]=>some false
 |c::r=>match qDC kit p c with|some true=>some true|some false=>qAt kit p r|none=>none
def qKi(kit:Value->Value->Option Bool)(p:PV):PV->Option Bool| .tup cs=>if (tyP p).isSome then qAt kit p cs else none|c=>qDC kit p c
structure KitOk (K:W.Frag) (kit:Value->Value->Option Bool):Prop where
 one:∀t c b,kit t c=some b->W.kitOne K t c=some b
 exc:∀a c b,kit (.ref a) c=some b->ExcK K a
end
end EV
end
section
namespace EX
open PySem PySem.Spec PyProof.Rows L2
section
variable{X:Cx}
def qLH(K:W.Frag):R2:=fun x y H Q=>∃l b xs zs,x= .ref l∧y= .ref b∧SqL K H l xs∧SqL K H b zs∧xs.length+zs.length≤sizeLine∧∀p,H p=none->Q (.ref p) (upd H p (.lst (xs++zs)))
theorem qGX:OpR X (binaryOp .Add) (qLH X.K):=by
 intro pins s σ H x y v u Q I rx ry h;obtain⟨l,b,xs,zs,rfl,rfl,h1,h2,hz,q⟩:=h;cases rx;cases ry;obtain⟨us,r1,p1,_⟩:=I.list h1;obtain⟨ws,r2,p2,_⟩:=I.list h2;obtain⟨⟨c1,d1,a1,s1⟩,o1,e1,m1,f1⟩:=id p1.isList;obtain⟨⟨c2,d2,a2,s2⟩,o2,e2,m2,f2⟩:=id p2.isList;have e1:c1=_:=e1;have e2:c2=_:=e2;have f1:a1=_:=f1;have f2:a2=_:=f2;subst e1;subst e2;subst f1;subst f2;have z:us.length+ws.length≤sizeLine:=by rw[←r1.length,←r2.length];exact hz
 refine concat_meets ⟨_,o1,rfl⟩ ⟨_,o2,rfl⟩ noFill_list_add seq_list_add F.slot_list_add F.entry_list_add (F.args_list_add_2 _ _) (list_addW l b us.toArray ws.toArray m1 m2 d1 d2 s1 s2 (by simpa using z)) ⟨o1,o2,?_⟩;rw[show us.toArray++ws.toArray=(us++ws).toArray by simp];exact⟨.ref _,_,I.lnew (t':=s.toks) (r1.append r2) (by rw[AO];exact hz),rfl,q _ I.fresh⟩
def qJQ(K:W.Frag):R2:=fun x y H Q=>∃a b xs ys,x= .ref a∧y= .ref b∧SqT K H a xs∧SqT K H b ys∧xs.length+ys.length≤sizeLine ∧
 (xs=[]->Q (.ref b) H)∧(xs≠[]->ys=[]->Q (.ref a) H)∧(xs≠[]->ys≠[]->∀p,H p=none->Q (.ref p) (upd H p (.tup (xs++ys))))
theorem qF5:OpR X (binaryOp .Add) (qJQ X.K):=by
 intro pins s σ H x y v u Q I rx ry h;obtain⟨a,b,xs,ys,rfl,rfl,ha,hb,hz,q0,q1,q2⟩:=h;by_cases hx:xs=[];cases rx;cases ry;obtain⟨us,r1,p1,_⟩:=I.tuple ha;obtain⟨ws,r2,p2,_⟩:=I.tuple hb;obtain⟨⟨c1,d1,a1,s1⟩,o1,e1,m1,f1⟩:=id p1;obtain⟨⟨c2,d2,a2,s2⟩,o2,e2,m2,f2⟩:=id p2;have e1:c1=_:=e1;have e2:c2=_:=e2;have f1:a1=_:=f1;have f2:a2=_:=f2;subst e1;subst e2;subst f1;subst f2;exact concat_meets ⟨_,o1,rfl⟩ ⟨_,o2,rfl⟩ noFill_tuple_add seq_tuple_add F.slot_tuple_add F.entry_tuple_add (F.args_tuple_add_2 _ _) (tuple_addW0 a b us.toArray ws.toArray m1 m2 d1 d2 s1 s2 (by simp[r1.nil_iff.mpr hx])) ⟨o1,o2,.ref b,H,I,rfl,q0 hx⟩;exact qHq pins s σ H _ _ v u Q I rx ry ⟨a,b,xs,ys,rfl,rfl,ha,hb,hx,hz,q1 hx,q2 hx⟩
def qLi(K:W.Frag):V->Option Int->Option Int->Hp->VK->Prop:=fun x lo hi H Q=>∃a xs,x= .ref a∧SqT K H a xs∧HT.sIx xs.length 0 lo=0∧HT.sIx xs.length xs.length hi=xs.length∧Q (.ref a) H
theorem qEb:SlR X (qLi X.K):=by
 intro pins s σ H x v vl vu lo hi sl Q I rx hs pl pu h;obtain⟨a,xs,rfl,hx,w1,w2,q⟩:=h;cases rx;obtain⟨its,r,ht,hz⟩:=I.tuple hx;have hlen:its.toArray.size=xs.length:=by rw[AR];exact r.length.symm
 refine⟨"tuple",_,PyProof.Rows.slot_tuple_getitem.lookup,ht.typeIs,?_⟩;obtain⟨os,hos,hcs,hds⟩:=id hs;have hTs:s.TypeIs (.ref sl) "slice" :=⟨os,hos,hcs⟩;unfold getItem;try with_reducible refine Ak ?_
 first|refine AA (AB ?_)|skip
 refine AA (wpAny_sequenceKey ht.typeIs (by decide) ?_);refine AA (BI (name:=Str.ofString "__getitem__") ht.typeIs A9 (Bm A9 ht.typeIs PyProof.Rows.entry_tuple_getitem ?_ (PyProof.Rows.args_tuple_getitem _ _)));show wpAny _ _ (Builtin.Tuple.tupleItemsOf (.ref a) >>= _) _ _ s;refine AA (tupleItemsOf_ ht ?_);refine AA (BX hTs ?_);rw[AE (by decide)];refine AA (HT.sliceApplied_gen hs pl pu ?_);rw[hlen,w1,w2];dsimp only;rw[AE (show ((((0:Nat):Int)==0&&(1:Int)==1&&xs.length-0==xs.length)=true) by simp)];unfold Builtin.Tuple.tupleIsExact;refine AA (AA (BX ht.typeIs (AB ?_)));rw[AE (by simp)];exact AA (wpAny_rule (AB ⟨_,rfl,AB ⟨.ref a,H,I,rfl,q⟩⟩))
def PJ(X:Cx)(es:List Expr)(t:Str->L2.St->Hp->(Str->Hp->Prop)->Prop):Prop:=∀(out:Str) (pins:List (Addr×Obj)) (s:Shared) (σ:L2.St) (H:Hp) (Q:Str->Hp->Prop),L2.Inv X pins σ H s->t out σ H Q ->
 wpAny (model X.prog X.w) X.A (joinParts out (evalEach es X.env)) (fun u s'=>∃x H',L2.Inv X pins σ H' s'∧(∃t,u= .str x t)∧Q x H') X.xe s
theorem qEt:PJ X [] (fun out _ H Q=>out.length≤sizeLine∧Q out H):=fun out pins s σ H Q I h=>joinParts_nil ⟨out,H,I.tok _,⟨_,rfl⟩,h.2⟩ h.1
theorem yy{e:Expr}{es:List Expr}{te:TE}{t:Str->L2.St->Hp->(Str->Hp->Prop)->Prop}(h1:PE X e te)(h2:PJ X es t):PJ X (e::es) (fun out σ H Q=>te σ H fun v H1=>∃y,v= .str y∧(out++y).length≤sizeLine∧t (out++y) σ H1 Q) :=
 fun out pins s σ H Q I h=>joinParts_cons (thn (h1 pins s σ H _ I h) fun u s1 ⟨v,H1,I1,r1,y,e,z,q⟩=>by
  subst e;obtain⟨t',rfl⟩:=r1;exact⟨z,h2 (out++y) pins s1 σ H1 Q I1 q⟩)
theorem qBa{e:Expr}{te:TE}{pos:Pos}(h:PE X e te):PE X (.FormattedValue e (-1) none pos) (fun σ H Q=>te σ H fun v H1=>∃i,v= .int i∧i.natAbs.log2<1920∧Q (.str (toString i)) H1) :=
 fun pins s σ H Q I q=>FormattedValue_plain (thn (h pins s σ H _ I q) fun u s1 ⟨v,H1,I1,r1,i,e,z,q⟩=>by
  subst e;obtain⟨t',rfl⟩:=r1;exact wpAny_formatField_int z ⟨.str _,H1,I1.tok _,⟨_,rfl⟩,q⟩)
theorem qCb{e1 e2:Expr}{es:List Expr}{t:Str->L2.St->Hp->(Str->Hp->Prop)->Prop}{pos:Pos}(h:PJ X (e1::e2::es) t):PE X (.JoinedStr (e1::e2::es) pos) (fun σ H Q=>t Str.empty σ H fun x H1=>Q (.str x) H1) :=
 fun pins s σ H Q I q=>JoinedStr_many (thn (h Str.empty pins s σ H _ I q) fun u s1 ⟨x,H1,I1,r1,q1⟩=>⟨.str x,H1,I1,r1,q1⟩)
end
end EX
end
section
namespace EV
open PySem PySem.Spec PyProof.Rows L2 EX
section
variable{X:Cx}{E:XK}{e a c d:Expr}{es:List Expr}{f fa fb fc:FE}{pos:Pos}{F G:FS}
theorem ZE{x:Str}{n:String}{pos:Pos}(hg:Gl X x)(hm:X.mg x=none)(hv:bootBuiltins x=some (.type n))(hn:x ≠ "__name__" :=by decide)(hd:(x==("__debug__":Str))=false:=by decide):VE X E (.Name x pos) (vC (.ty n)) :=
 qBE (qHK (v:=.ty n) hg hm hv rfl hn hd) fun _ _=>by unfold RV;rfl
theorem zC{x:Str}{a:Addr}{pos:Pos}(hg:Gl X x)(hm:X.mg x=some (.ref a))(hd:(x==("__debug__":Str))=false:=by decide):VE X E (.Name x pos) (vC (.fn a)) :=
 qBE (qCD (v:=.ref a) hg hm rfl hd) fun _ _=>by unfold RV;rfl
def lk(st:qC):PV->Bool
 | .ref i=>match st[i]? with|some (.l _)=>true|_=>false
 |_=>true
theorem qFm{kit:Value->Value->Option Bool}(hk:KitOk X.K kit){pins:List (Addr×Obj)}{σ:L2.St}{H:Hp}{s:Shared}(I:L2.Inv X pins σ H s){b:Bz}{st:qC}(S:SR X.K H b st){p:PV}{v:V}{u t:Value}(r:RV X.K H b p v)(ru:RelV v u)(ht:tyP p=some t)(hlk:lk st p=true)(hx:∀a,t= .ref a->ExcK X.K a) :
  ∃Hh,W.KitX X.K u t Hh∧Hh s.heap∧u≠ .builtin "__main__.__loader__#opaque" :=by
 cases p with
 |non=>unfold RV at r;subst r;cases ht;cases (show u=Value.none from ru);exact⟨_,W.kitx_none,trivial,fun z=>nomatch z⟩
 |bl x=>unfold RV at r;subst r;cases ht;cases (show u=Value.bool x from ru);exact⟨_,W.kitx_bool,trivial,fun z=>nomatch z⟩
 |int x=>unfold RV at r;subst r;cases ht;obtain⟨t,rfl⟩:=(show ∃t,u=Value.int x t from ru);exact⟨_,W.kitx_int,trivial,fun z=>nomatch z⟩
 |str x=>unfold RV at r;subst r;cases ht;obtain⟨t,rfl⟩:=(show ∃t,u=Value.str x t from ru);exact⟨_,W.kitx_str,trivial,fun z=>nomatch z⟩
 |tup l=>unfold RV at r;obtain⟨a,xs,rfl,h2,h3⟩:=r;cases ht;cases (show u=Value.ref a from ru);obtain⟨its,_,⟨o,h4,h5,_⟩,_⟩:=I.tuple h2.sq;exact⟨_,W.kitx_tuple,⟨o,h4,h5⟩,fun z=>nomatch z⟩
 |lst l=>unfold RV at r;obtain⟨a,xs,rfl,h2,h3⟩:=r;cases ht;cases (show u=Value.ref a from ru);obtain⟨its,_,⟨o,n,h4,h5,_⟩,_⟩:=I.list h2.sq;exact⟨_,W.kitx_list,⟨o,h4,h5⟩,fun z=>nomatch z⟩
 |ref i =>
  unfold RV at r;obtain⟨a,rfl,h2⟩:=r;cases ht;cases (show u=Value.ref a from ru);have hl:i<st.length:=by rw[←S.len];exact (AQ.mp h2).1
  obtain⟨a',o,h3,h4,h5⟩:=S.at_ i _ (AM hl);rw[h2]at h3;cases h3;have hq:∃vs,o= .lst vs:=by
   cases hx:st[i] with|l xs=>rw[hx]at h5;obtain⟨vs,e,_⟩:=h5;exact⟨vs,e⟩|z xs=>unfold lk at hlk;dsimp only at hlk;rw[AM hl,hx]at hlk;cases hlk|d xs=>unfold lk at hlk;dsimp only at hlk;rw[AM hl,hx]at hlk;cases hlk
  obtain⟨vs,rfl⟩:=hq;obtain⟨its,_,⟨o,n,h6,h7,_⟩,_⟩:=I.list (SqL.of h4);exact⟨_,W.kitx_list,⟨o,h6,h7⟩,fun z=>nomatch z⟩
 |dct=>unfold RV at r;obtain⟨a,rfl,h2,h3⟩:=r;cases ht;cases (show u=Value.ref a from ru);obtain⟨_,_,vs,_,o,_,_,h4,h5,_⟩:=(show ObjOk X.prog X.w H s.heap a (.dK []) from I.hok a _ h2);exact⟨_,W.kitx_dict,⟨o,h4,h5.1⟩,fun z=>nomatch z⟩
 |exc c fs =>
  unfold RV at r;obtain⟨a,o,w,rfl,h2,h3,h4,⟨vs,h6⟩,h5⟩:=r;cases ht;cases (show u=Value.ref a from ru);have ho:s.heap.get? a=some o:=(I.hok a _ h2).1;have hn:W.notCls o=true:=by obtain⟨c',d',dt,sl⟩:=o;have h6:dt=_:=h6;subst h6;rfl
  refine⟨_,qGF (hx c rfl),?_,fun z=>nomatch z⟩;rcases h5 with⟨_,h5⟩|⟨d,h5,h7,h8⟩
  ·exact⟨o,none,ho,h4,hn,by rw[h5];trivial⟩
  ·obtain⟨od,h9⟩:=got (I.hok d _ h7);exact⟨o,some od,ho,h4,hn,by rw[h5];exact h9⟩
 |ty n=>cases ht
 |fn n=>cases ht
theorem qH5{K:W.Frag}{H:Hp}{b:Bz}{c:PV}{v:V}{u t:Value}(r:RV K H b c v)(ru:RelV v u)(ht:clP c=some t):u=t:=by
 cases c with|ty n=>unfold RV at r;subst r;cases ht;exact ru|fn a=>unfold RV at r;subst r;cases ht;exact ru|_=>cases ht
theorem qAM{kit:Value->Value->Option Bool}(hk:KitOk X.K kit){H:Hp}{b:Bz}{p:PV}{t:Value}(ht:tyP p=some t):∀{cs:List PV} {xs:List V} {us:List Value} {k:Bool},RVs X.K H b cs xs->Vals xs us->qAt kit p cs=some k->W.kitAny X.K t us=some k
 |[],_,_,k,h,r,e=>by unfold RVs at h;subst h;cases r;exact e
 |c::cs,_,_,k,h,r,e=>by
  unfold RVs at h;obtain⟨x,xs,rfl,h1,h2⟩:=h;cases r with
  | @cons _ u _ us r1 r2 =>
   unfold qAt qDC at e;rw[ht]at e;cases hc:clP c with
   |none=>rw[hc]at e;cases e
   |some c' =>
    rw[hc]at e;have eu:=qH5 h1 r1 hc;subst eu;dsimp only at e;unfold W.kitAny;cases q:kit t u with
    |none=>rw[q]at e;cases e
    |some bb =>
     rw[q]at e;rw[hk.one _ _ _ q];cases bb with|true=>exact e|false=>exact qAM hk ht h2 r2 e
theorem qGJ{kit:Value->Value->Option Bool}(hk:KitOk X.K kit){p:PV}{t:Value}(ht:tyP p=some t):∀{cs:List PV} {k:Bool},cs≠[]->qAt kit p cs=some k->∀a,t= .ref a->ExcK X.K a
 |[],_,h,_,_,_=>absurd rfl h
 |c::cs,k,_,e,a,ha=>by
  unfold qAt qDC at e;rw[ht]at e;cases hc:clP c with
  |none=>rw[hc]at e;cases e
  |some c' =>
   rw[hc]at e;dsimp only at e;cases q:kit t c' with|none=>rw[q]at e;cases e|some bb=>subst ha;exact hk.exc _ _ _ q
theorem qFi{kit:Value->Value->Option Bool}(hk:KitOk X.K kit):Wh X (.builtin "isinstance") (fun vs H Q=>∃b st p c k,SR X.K H b st∧RVs X.K H b [p,c] vs∧(∀cs,c= .tup cs->cs≠[])∧lk st p=true∧qKi kit p c=some k∧Q (.bl k) H):=by
 intro pins s σ H xs us Q I r h;obtain⟨b,st,p,c,k,S,rs,hne,hlk,e,q⟩:=h;obtain⟨x,y,rfl,r1,r2⟩:=RVs.two rs;obtain⟨u,v,rfl,ru,rv⟩:=qCG r;by_cases hc:∃cs,c= .tup cs
 ·obtain⟨cs,rfl⟩:=hc;have e:(if (tyP p).isSome then qAt kit p cs else none)=some k:=e;cases ht:tyP p with|none=>rw[ht]at e;cases e|some t=>rw[ht]at e;have e:qAt kit p cs=some k:=e;obtain⟨Hh,Z,hh,hx⟩:=qFm hk I S r1 ru ht hlk (qGJ hk ht (hne cs rfl) e);unfold RV at r2;obtain⟨a,ys,rfl,h2,h3⟩:=r2;cases (show v=Value.ref a from rv);obtain⟨its,r',⟨o,h4,h5,n,h6⟩,_⟩:=I.tuple h2.sq;obtain⟨c1,d1,dt,sl⟩:=o;have h5:c1=_:=h5;have h6:dt=_:=h6;subst h5;subst h6;exact W.kia_tup Z I.kIn hh h4 (qAM hk ht h3 r' e) hx fun tk=>⟨.bl k,H,I.tok _,rfl,q⟩
 ·have e:qDC kit p c=some k:=by cases c <;> first|exact e|exact (hc ⟨_,rfl⟩).elim
  unfold qDC at e;cases ht:tyP p with
  |none=>rw[ht]at e;cases e
  |some t =>
   cases hc2:clP c with
   |none=>rw[ht,hc2]at e;cases e
   |some c' =>
    rw[ht,hc2]at e;have eu:=qH5 r2 rv hc2;subst eu;obtain⟨Hh,Z,hh,hx⟩:=qFm hk I S r1 ru ht hlk (fun a ha=>by subst ha;exact hk.exc _ _ _ e);exact W.kia_one Z I.kIn hh (hk.one _ _ _ e) hx fun tk=>⟨.bl k,H,I.tok _,rfl,q⟩
def Qb(kit:Value->Value->Option Bool):List PV->qC->Rs PV:=fun ps st=>match ps with
 |[p,c]=>match c with
  | .tup []=>.no
  |c=>match qKi kit p c with|some b=>if lk st p=true then .ok (.bl b) st else .no|none=>.no
 |_=>.no
theorem Qr{kit:Value->Value->Option Bool}{ta:FA}{p:Pos}(hk:KitOk X.K kit)(hm:X.mg "isinstance" = none)(ha:VA X E (e::es) ta)(hg:Gl X "isinstance" :=by rfl)
  (he:starEach (e::es) X.env=(false,eval e X.env)::starEach es X.env:=by rfl) (hpl:(backTo pos (starEach es X.env)).any (·.1)=false:=by rfl):VE X E (.Call (.Name "isinstance" p) (e::es) [] pos) (qH (Qb kit) ta) :=
 Wc (qFi hk) (fun H b st ps vs Q S r P=>by
  unfold Qb at P;split at P
  ·rename_i p c;split at P;exact P.elim
   ·rename_i hc;split at P
    ·rename_i k hk';split at P;rename_i hlk;exact⟨b,st,p,c,k,S,r,fun cs e z=>by subst e;subst z;exact hc rfl,hlk,hk',PostE.here P S W7⟩;exact P.elim
    ·exact P.elim
  ·exact P.elim) hg hm PyProof.Rows.boot_isinstance ha (he:=he) (hpl:=hpl)
end
def pbl:PV->Option Bool| .bl b=>some b|_=>none
def qHL:PV->Option Int| .int i=>some i|_=>none
def wc{α:Type}(f:PV->Option α):List PV->Option (List α)
 |[]=>some []
 |p::ps=>match f p with
  |some a=>match wc f ps with|some r=>some (a::r)|none=>none
  |none=>none
section
variable{X:Cx}{E:XK}{e a c d:Expr}{es:List Expr}{f fa fb fc:FE}{pos:Pos}{F G:FS}
theorem qEL{K:W.Frag}{H:Hp}{b:Bz}:∀{l:List PV} {xs:List V} {bs:List Bool},RVs K H b l xs->wc pbl l=some bs->xs=bs.map V.bl
 |[],_,_,h,e=>by unfold RVs at h;subst h;cases e;rfl
 |p::ps,_,bs,h,e=>by
  unfold RVs at h;obtain⟨x,r,rfl,h1,h2⟩:=h;unfold wc at e;cases p with
  |bl k =>
   unfold RV at h1;subst h1;cases q:wc pbl ps with|none=>rw[q]at e;cases e|some r'=>rw[q]at e;cases e;rw[qEL h2 q];rfl
  |_=>cases e
theorem jx{K:W.Frag}{H:Hp}{b:Bz}:∀{l:List PV} {xs:List V} {bs:List Int},RVs K H b l xs->wc qHL l=some bs->xs=bs.map V.int
 |[],_,_,h,e=>by unfold RVs at h;subst h;cases e;rfl
 |p::ps,_,bs,h,e=>by
  unfold RVs at h;obtain⟨x,r,rfl,h1,h2⟩:=h;unfold wc at e;cases p with
  |int k =>
   unfold RV at h1;subst h1;cases q:wc qHL ps with|none=>rw[q]at e;cases e|some r'=>rw[q]at e;cases e;rw[jx h2 q];rfl
  |_=>cases e
def qEG{α:Type}(k:PV->Option α)(g:List α->PV):List PV->qC->Rs PV:=fun ps st=>match ps with
 |[p]=>match asL st p with
  |some l=>match wc k l with|some r=>.ok (g r) st|none=>.no
  |none=>.no
 |_=>.no
def Wz:=qEG pbl fun bs=>.bl (bs.all id)
theorem qJu:Zy X E (fun xs H Q=>∃(p:Addr) (bs:List Bool),xs=[.ref p]∧SqL X.K H p (bs.map V.bl)∧Q (.bl (bs.all id)) H) Wz:=by
 intro H b st ps vs Q S r P;unfold Wz qEG at P;split at P
 ·obtain⟨v,rfl,r1⟩:=RVs.one r;split at P
  ·rename_i l e;split at P;rename_i bs eb;obtain⟨a,xs,rfl,h2,h3⟩:=we S r1 e;rw[qEL h3 eb]at h2;exact⟨a,bs,rfl,h2,PostE.here P S W7⟩;exact P.elim
  ·exact P.elim
 ·exact P.elim
section
variable{ta:FA}{p:Pos}(ha:VA X E (e::es) ta)
include ha
theorem zl(hm:X.mg "all" = none)(hg:Gl X "all" :=by rfl)(he:starEach (e::es) X.env=(false,eval e X.env)::starEach es X.env:=by rfl)(hpl:(backTo pos (starEach es X.env)).any (·.1)=false:=by rfl):VE X E (.Call (.Name "all" p) (e::es) [] pos) (qH Wz ta) :=
 Wc qDg qJu hg hm Boot.«all» ha (he:=he) (hpl:=hpl)
theorem Q3(hm:X.mg "len" = none)(hg:Gl X "len" :=by rfl)(he:starEach (e::es) X.env=(false,eval e X.env)::starEach es X.env:=by rfl)(hpl:(backTo pos (starEach es X.env)).any (·.1)=false:=by rfl):VE X E (.Call (.Name "len" p) (e::es) [] pos) (qH wu ta) :=
 Wc yJ qJl hg hm Boot.«len» ha (he:=he) (hpl:=hpl)
theorem qGZ(hc:X.calm=true)(hm:X.mg "max" = none)(hg:Gl X "max" :=by rfl)(he:starEach (e::es) X.env=(false,eval e X.env)::starEach es X.env:=by rfl)(hpl:(backTo pos (starEach es X.env)).any (·.1)=false:=by rfl):VE X E (.Call (.Name "max" p) (e::es) [] pos) (qH qEr ta) :=
 Wc (qDk hc) qI6 hg hm Boot.«max» ha (he:=he) (hpl:=hpl)
theorem JO(hc:X.calm=true)(hm:X.mg "min" = none)(hg:Gl X "min" :=by rfl)(he:starEach (e::es) X.env=(false,eval e X.env)::starEach es X.env:=by rfl)(hpl:(backTo pos (starEach es X.env)).any (·.1)=false:=by rfl):VE X E (.Call (.Name "min" p) (e::es) [] pos) (qH J8 ta) :=
 Wc (qC7 hc) qJb hg hm Boot.«min» ha (he:=he) (hpl:=hpl)
theorem ZX(hm:X.mg "tuple" = none)(hg:Gl X "tuple" :=by rfl)(he:starEach (e::es) X.env=(false,eval e X.env)::starEach es X.env:=by rfl)(hpl:(backTo pos (starEach es X.env)).any (·.1)=false:=by rfl):VE X E (.Call (.Name "tuple" p) (e::es) [] pos) (qH WM ta) :=
 Zc Y8 qEd hg hm Boot.«tuple» ha (he:=he) (hpl:=hpl)
theorem qGk(hm:X.mg "int" = none)(hg:Gl X "int" :=by rfl)(he:starEach (e::es) X.env=(false,eval e X.env)::starEach es X.env:=by rfl)(hpl:(backTo pos (starEach es X.env)).any (·.1)=false:=by rfl):VE X E (.Call (.Name "int" p) (e::es) [] pos) (qH qBn ta) :=
 Zc qDe qJd hg hm Boot.«int» ha (he:=he) (hpl:=hpl)
end
theorem YU{p:Pos}(hm:X.mg "list" = none)(ha:VE X E e f)(hg:Gl X "list" :=by rfl)(he:starEach [e] X.env=(false,eval e X.env)::starEach [] X.env:=by rfl)(hpl:(backTo pos (starEach [] X.env)).any (·.1)=false:=by rfl):VN X E (.Call (.Name "list" p) [e] [] pos) (yB f) :=
 qHZ hg hm Boot.«list» ha he hpl
def Z2(fa fb:FE):FL:=fun r st=>(fa r st).bind fun p s1=>(fb r s1).bind fun q s2=>match asL s2 p with
 |some l=>match asL s2 q with|some m=>if l.length+m.length≤sizeLine then .ok (l++m) s2 else .no|none=>.no
 |none=>.no
theorem Zt(ha:VE X E a fa)(hb:VE X E c fb):VN X E (.BinOp a .Add c pos) (Z2 fa fb):=PE.imp (qH1 qGX ha hb) fun s H Q ⟨b,r,st,S,R,P⟩ =>
 ⟨b,r,st,S,R,PostE.bindN P fun p s1 u H1 b1 e1 S1 r1 P1=>⟨b1,r,s1,S1,R.ext e1,PostE.bindN P1 fun q s2 v H2 b2 e2 S2 r2 P2=>by
  split at P2
  ·rename_i l el;split at P2
   ·rename_i m em;split at P2;rename_i hl;obtain⟨x,xs,rfl,h2,h3⟩:=we S2 (RV.ext e2 p r1) el;obtain⟨y,ys,rfl,h4,h5⟩:=we S2 r2 em;exact⟨x,y,xs,ys,rfl,rfl,h2,h4,by rw[←h3.length,←h5.length];exact hl,fun z hz=>PostN.lay P2 S2 (h3.append h5) hz⟩;exact P2.elim
   ·exact P2.elim
  ·exact P2.elim⟩⟩
end
section
variable{X:Cx}{E:XK}{e a c d:Expr}{es:List Expr}{f fa fb fc:FE}{fl:FL}{pos:Pos}{F G:FS}
def wm:PV->PV->qC->Rs PV:=fun p q st=>match p,q with| .tup l,.tup m=>if l.length+m.length≤sizeLine then .ok (.tup (l++m)) st else .no|_,_=>.no
theorem Wi(ha:VE X E a fa)(hb:VE X E c fb):VE X E (.BinOp a .Add c pos) (qJ wm fa fb):=yH qF5 (fun H b st p q u v Q S rp rq P=>by
 unfold wm at P;split at P
 ·rename_i l m;split at P
  ·rename_i hl;have rp0:=rp;have rq0:=rq;unfold RV at rp rq;obtain⟨x,xs,rfl,h2,h3⟩:=rp;obtain⟨y,ys,rfl,h4,h5⟩:=rq;have n1:=h3.length;have n2:=h5.length;refine⟨x,y,xs,ys,rfl,rfl,h2.sq,h4.sq,by rw[←n1,←n2];exact hl,fun z=>?_,fun _ z=>?_,fun _ _ w hw=>PostE.layT P S (h3.append h5) hw⟩
   ·have:l=[]:=List.length_eq_zero_iff.mp (by rw[n1,z];rfl)
    subst this;exact PostE.here P S rq0
   ·have:m=[]:=List.length_eq_zero_iff.mp (by rw[n2,z];rfl)
    subst this;rw[Au]at P;exact PostE.here P S rp0
  ·exact P.elim
 ·exact P.elim) ha hb
abbrev FO:=qk->qC->Rs (Option Int)
def PostO(K:W.Frag)(E:XK)(H:Hp)(b:Bz)(r:Rs (Option Int))(Q:Option Int->Hp->Prop):Prop:=match r with| .ok k st=>∀H' b',Ext H b H' b'->SR K H' b' st->Q k H'| .ex x st=>XP K E H b x st| .no=>False
def rdO(K:W.Frag)(E:XK)(f:FO):TO:=fun s H Q=>∃b r st,SR K H b st∧REnv K H b r s∧PostO K E H b (f r st) Q
abbrev VO(X:Cx)(E:XK)(e:Option Expr)(f:FO):Prop:=PO X e (rdO X.K E f)
def QP:FO:=fun _ st=>.ok none st
def QN(f:FE):FO:=fun r st=>(f r st).bind fun p s=>match p with| .int i=>.ok (some i) s|_=>.no
theorem wE:VO X E none QP:=fun pins s σ H Q I ⟨b,r,st,S,R,P⟩=>qG8 pins s σ H Q I (P H b (Ext.refl _ _) S)
theorem wV(h:VE X E e f):VO X E (some e) (QN f):=fun pins s σ H Q I ⟨b,r,st,S,R,P⟩=>qHU h pins s σ H Q I ⟨b,r,st,S,R,by
 unfold QN at P;cases ef:f r st with
 |no=>rw[ef]at P;exact P.elim
 |ex x s1=>rw[ef]at P;exact P
 |ok p s1 =>
  rw[ef]at P;intro v H1 b1 e1 S1 r1;dsimp only[Rs.bind]at P;split at P;rename_i i;unfold RV at r1;exact⟨i,r1,P H1 b1 e1 S1⟩;exact P.elim⟩
def wk(l:List PV)(lo hi:Option Int):List PV:=(l.drop (HT.sIx l.length 0 lo)).take (HT.sIx l.length l.length hi-HT.sIx l.length 0 lo)
def zn(f:FE)(lo hi:FO):FE:=fun r st=>(f r st).bind fun p s1=>(lo r s1).bind fun a s2=>(hi r s2).bind fun c s3=>match p with| .tup l=>.ok (.tup (wk l a c)) s3|_=>.no
theorem PostO.bind{K:W.Frag}{E:XK}{H:Hp}{b:Bz}{r:Rs (Option Int)}{k:Option Int->qC->Rs PV}{Q:VK}{R:Option Int->Hp->Prop}(P:PostE K E H b (r.bind k) Q)
  (h:∀p st H1 b1,Ext H b H1 b1->SR K H1 b1 st->PostE K E H1 b1 (k p st) Q->R p H1):PostO K E H b r R:=by
 cases r with|ok p st=>exact fun H1 b1 e S=>h p st H1 b1 e S (PostE.ext (show PostE K E H b (k p st) Q from P) e)|ex x st=>exact P|no=>exact P
theorem zF{lo hi:Option Expr}{flo fhi:FO}{p2:Pos}(h:VE X E e f)(hl:VO X E lo flo)(hh:VO X E hi fhi):VE X E (.Subscript e (.Slice lo hi none p2) pos) (zn f flo fhi) :=
 PE.imp (Jz (sl_tup.or qEb) h hl hh) fun s H Q ⟨b,r,st,S,R,P⟩=>⟨b,r,st,S,R,PostE.bind P fun p s1 u H1 b1 e1 S1 r1 P1=>⟨b1,r,s1,S1,R.ext e1,PostO.bind P1 fun k s2 H2 b2 e2 S2 P2=>⟨b2,r,s2,S2,(R.ext e1).ext e2,PostO.bind P2 fun m s3 H3 b3 e3 S3 P3=>by
  split at P3
  ·rename_i l;have r3:=RV.ext e3 _ (RV.ext e2 _ r1);have r0:=r3;unfold RV at r3;obtain⟨x,xs,rfl,h2,h3⟩:=r3;have hlen:=h3.length;by_cases hw:HT.sIx xs.length 0 k=0∧HT.sIx xs.length xs.length m=xs.length
   ·refine .inr ⟨x,xs,rfl,h2.sq,hw.1,hw.2,?_⟩
    have:wk l k m=l:=by unfold wk;rw[hlen,hw.1,hw.2,List.drop_zero,Nat.sub_zero,←hlen,List.take_length]
    rw[this]at P3;exact PostE.here P3 S3 r0
   ·refine .inl ⟨x,xs,rfl,h2.sq,hw,fun z hz=>?_⟩;have hc:RVs X.K H3 b3 (wk l k m) (Y7 xs k m):=by unfold wk Y7;rw[hlen];exact (h3.drop _).take _
    exact PostE.layT P3 S3 hc hz
  ·exact P3.elim⟩⟩⟩
def Wa(fo f:FE):FS:=fun r st=>(fo r st).bindS fun o s1=>match o with
 | .ref n=>if lk s1 (.ref n)=true then (f r s1).bindS fun p s2=>match s2[n]? with|some (.l xs)=>if xs.length<sizeLine then .nx r (s2.set n (.l (xs++[p]))) else .no|_=>.no else .no
 |_=>.no
theorem yM{fo:FE}{o:Expr}{apos cpos:Pos}(ho:VE X E o fo)(h:VE X E e f)(hs:swapsWith (.Call (.Attribute o "append" apos) [e] [] cpos) none pos.line X.env=pure false:=by rfl)
  (hbase:attributeBase o "append" X.env (eval o X.env)=eval o X.env:=by rfl)
  (hfew:((backTo cpos (starEach [e] X.env)).all (fun x=> !x.1)&&(backToKw cpos (keywordEach [] X.env)).all (fun x=>x.1.isSome)&&decide ([e].length+([]:List Keyword).length+(if ([]:List Keyword).isEmpty then 0 else 1)<30))=true:=by rfl)
  (hline:(apos.endLine==cpos.line)=true:=by rfl) (h1:starEach [e] X.env=(false,eval e X.env)::starEach [] X.env:=by rfl) (hplain:(backTo cpos (starEach [] X.env)).any (·.1)=false:=by rfl) :
  VS X E (.Expr (.Call (.Attribute o "append" apos) [e] [] cpos) pos) (Wa fo f) :=
 PS.imp (jn (qEN PySem.F.plainAttrs_list PySem.F.slot_list_append PySem.F.type_list_append jU ho (zr h yO h1) hbase hfew hline h1 hplain) hs) fun D s H ⟨b,r,st,S,R,P⟩=>⟨b,r,st,S,R,PostE.bindS P fun o s1 u H1 b1 e1 S1 r1 P1=>by
  have key:∀{n:Nat},o= .ref n->lk s1 (.ref n)=true->tyV X.K "list" u H1:=fun {n} ho hlk=>by
   subst ho;unfold RV at r1;obtain⟨x,rfl,hx⟩:=r1;have hl:n<s1.length:=by rw[←S1.len];exact (AQ.mp hx).1
   obtain⟨a',o',h3,h4,h5⟩:=S1.at_ n _ (AM hl);rw[hx]at h3;cases h3;cases hq:s1[n] with|l xs=>rw[hq]at h5;obtain⟨vs,e,_⟩:=h5;subst e;exact .inl ⟨rfl,vs,SqL.of h4⟩|z xs=>unfold lk at hlk;dsimp only at hlk;rw[AM hl,hq]at hlk;cases hlk|d xs=>unfold lk at hlk;dsimp only at hlk;rw[AM hl,hq]at hlk;cases hlk
  cases o with
  |ref n =>
   have P1:PostS X.K E H1 b1 (if lk s1 (.ref n)=true then ((f r s1).bindS fun p s2=>match s2[n]? with|some (.l xs)=>if xs.length<sizeLine then .nx r (s2.set n (.l (xs++[p]))) else .no|_=>.no) else .no) D:=P1;by_cases hlk:lk s1 (.ref n)=true
   rotate_left
   ·rw[AF hlk]at P1;exact P1.elim
   rw[AE hlk]at P1;refine⟨key rfl hlk,b1,r,s1,S1,R.ext e1,?_⟩;cases eb:f r s1 with
   |no=>rw[eb]at P1;exact P1.elim
   |ex x s2=>rw[eb]at P1;exact P1
   |ok p s2 =>
    rw[eb]at P1;intro v H2 b2 e2 S2 r2;have P2:PostS X.K E H1 b1 (match s2[n]? with|some (.l xs)=>if xs.length<sizeLine then .nx r (s2.set n (.l (xs++[p]))) else .no|_=>.no) D:=P1;split at P2
    ·rename_i xs ex;split at P2
     ·rename_i hl;have r1':=RV.ext e2 _ r1;unfold RV at r1';obtain⟨x,rfl,hx⟩:=r1';obtain⟨x',o',h1,h2,vs,rfl,h4⟩:=S2.at_ n _ ex;rw[hx]at h1;cases h1;refine⟨x,vs,v,rfl,rfl,h2,by rw[←h4.length];exact hl,?_⟩;have hm:x∈b2.b:=Aq hx;have ew:Ext H2 b2 (upd H2 x (.lst (vs++[v]))) b2:=Ext.wr hm S2.zb (qI4 h2);exact P2 s _ b2 (e2.trans ew) (S2.wr (x:=.l (xs++[p])) hx ⟨_,rfl,(RVs.ext ew xs h4).append (RVs.cons (RV.ext ew p r2) RVs.nil)⟩) (((R.ext e1).ext e2).ext ew)
     ·exact P2.elim
    ·exact P2.elim
  |_=>exact P1.elim⟩
def qDS(p:PV):List PV->Option Nat|[]=>none|q::qs=>if peq q p=true then some 0 else (qDS p qs).map (· + 1)
theorem jH(p:PV):∀{l:List PV} {j:Nat},qDS p l=some j->(∃q,l[j]? = some q∧peq q p=true)∧∀m,m<j->∃q,l[m]? = some q∧peq q p=false
 |[],_,h=>by cases h
 |q::qs,j,h=>by
  unfold qDS at h;split at h;rename_i hq;cases h;exact⟨⟨q,rfl,hq⟩,fun m hm=>by omega⟩
  ·rename_i hq;cases e:qDS p qs with
   |none=>rw[e]at h;cases h
   |some k =>
    rw[e]at h;cases h;obtain⟨⟨q',h1,h2⟩,h3⟩:=jH p e;refine⟨⟨q',by simpa using h1,h2⟩,fun m hm=>?_⟩;cases m with|zero=>exact⟨q,rfl,by simpa using hq⟩|succ m=>obtain⟨q2,h4,h5⟩:=h3 m (by have hm:m+1<k+1:=hm;omega);exact⟨q2,by simpa using h4,h5⟩
theorem qE0{pins:List (Addr×Obj)}{σ:L2.St}{H:Hp}{s:Shared}(I:L2.Inv X pins σ H s){A:Around}{p:PV}{u:V}{uu:Value}(hp:RW X.K H p u)(ru:RelV u uu)(hA:A.units+60<cLine)
  {l:List PV} {xs:List V} {its:List Value} (hl:RWs X.K H l xs) (vl:Vals xs its) (hd:deps l≤Z6):∃g:Value->Bool,(∀y∈its,SeqAt.EqAt A s y uu (g y))∧∀(i:Nat) (q:PV) (y:Value),l[i]? = some q->its[i]? = some y->g y=peq q p:=by
 classical
 have key:∀(q:PV) (x:V) (y:Value),RW X.K H q x->RelV x y->decide (∃q x,RW X.K H q x∧RelV x y∧peq q p=true)=peq q p:=fun q x y h1 h2=>by
  by_cases hb:peq q p=true;rw[hb];exact AV ⟨q,x,h1,h2,hb⟩
  ·rw[show peq q p=false by simpa using hb];refine AY fun⟨q',x',k1,k2,k3⟩=>hb ?_;have ex:x'=x:=k2.inj h2;subst ex;rw[RW.det I q q' h1 k1];exact k3
 refine⟨fun y=>decide (∃q x,RW X.K H q x∧RelV x y∧peq q p=true),fun y hy=>?_,fun i q y hq hy=>?_⟩;obtain⟨i,hi⟩:=BK hy;obtain⟨x,hx,rx⟩:=Vals.get2 vl hi;obtain⟨q,hq,rq⟩:=RWs.get' hl hx;dsimp only;rw[key q x y rq rx];exact qAA I 60 q p x u y uu A (Ag (zT hq) hd) hA rq hp rx ru;obtain⟨x,hx,rx⟩:=Vals.get2 vl hy;obtain⟨q',hq',rq⟩:=RWs.get' hl hx;rw[hq]at hq';cases hq';exact key q x y rq rx
theorem qFU(hr:X.A.units+64<cLine):MtM X "list.index" (fun x vs H Q=>∃l xs a p v j,x= .ref a∧vs=[v]∧SqL X.K H a xs∧RWs X.K H l xs∧RW X.K H p v∧deps l≤Z6∧qDS p l=some j∧Q (.int j) H):=by
 intro pins s σ H x vs v us Q I rx rv h;obtain⟨l,xs,ad,p,y,j,rfl,rfl,hs,hl,hp,hd,hj,q⟩:=h;cases rx;obtain⟨u,rfl,ru⟩:=rv.one;obtain⟨its,r',pl,hz⟩:=I.list hs;obtain⟨⟨c1,d1,a1,s1⟩,o1,e1,m1,f1⟩:=id pl.isList;have e1:c1=_:=e1;have f1:a1=_:=f1;subst e1;subst f1;have hA:X.A.in1.units+60<cLine:=by show X.A.units+1+60<cLine;omega
 obtain⟨g,g1,g2⟩:=qE0 I hp ru hA hl r' hd;obtain⟨⟨q1,k1,k2⟩,k3⟩:=jH p hj;have n1:l.length=its.length:=by rw[hl.length,r'.length]
 have jl:j<l.length:=(AQ.mp k1).1;have ji:j<its.length:=by rw[←n1];exact jl
 refine call_meets F.slot_list_index ⟨_,o1,rfl⟩ F.entry_list_index (F.args_list_index_2 _ _) (SeqAt.list_indexAt ad its.toArray m1 d1 s1 u g j (by simpa using ji) ?_ ?_ fun m hm hlt=>?_) ⟨o1,fun y hy=>g1 y (by simpa using hy),⟨.int j,H,I.tok _,⟨_,rfl⟩,q⟩⟩
 ·have:its.length≤sizeLine:=by rw[←r'.length];exact hz
  have h2:(sizeLine:Nat)<2 ^ 62:=by decide
  omega
 ·rw[show its.toArray[j]=its[j] by simp,g2 j q1 _ k1 (AM ji)];exact k2
 ·obtain⟨q2,k4,k5⟩:=k3 m hlt;have mi:m<its.length:=by simpa using hm
  rw[show its.toArray[m]=its[m] by simp,g2 m q2 _ k4 (AM mi)];exact k5
def qK6(fo f:FE):FE:=fun r st=>(fo r st).bind fun o s1=>match asL s1 o with
 |some _=>(f r s1).bind fun p s2=>match asL s2 o with|some l=>if nrs l=true∧nr p=true∧deps l≤Z6 then (match qDS p l with|some j=>.ok (.int j) s2|none=>.no) else .no|none=>.no
 |none=>.no
theorem qFD{fo:FE}{o:Expr}{apos cpos:Pos}(hr:X.A.units+64<cLine)(ho:VE X E o fo)(h:VE X E e f)(hbase:attributeBase o "index" X.env (eval o X.env)=eval o X.env:=by rfl)
  (hfew:((backTo cpos (starEach [e] X.env)).all (fun x=> !x.1)&&(backToKw cpos (keywordEach [] X.env)).all (fun x=>x.1.isSome)&&decide ([e].length+([]:List Keyword).length+(if ([]:List Keyword).isEmpty then 0 else 1)<30))=true:=by rfl)
  (hline:(apos.endLine==cpos.line)=true:=by rfl) (h1:starEach [e] X.env=(false,eval e X.env)::starEach [] X.env:=by rfl) (hplain:(backTo cpos (starEach [] X.env)).any (·.1)=false:=by rfl) :
  VE X E (.Call (.Attribute o "index" apos) [e] [] cpos) (qK6 fo f) :=
 PE.imp (qEN PySem.F.plainAttrs_list PySem.F.slot_list_index PySem.F.type_list_index (qFU hr) ho (zr h yO h1) hbase hfew hline h1 hplain) fun s H Q ⟨b,r,st,S,R,P⟩=>⟨b,r,st,S,R,PostE.bind P fun o s1 u H1 b1 e1 S1 r1 P1=>by
  split at P1
  ·rename_i l1 el1;obtain⟨x,xs,rfl,h2,h3⟩:=we S1 r1 el1;refine⟨.inl ⟨rfl,xs,h2⟩,b1,r,s1,S1,R.ext e1,PostE.bind P1 fun p s2 v H2 b2 e2 S2 r2 P2=>?_⟩;split at P2
   ·rename_i l el;split at P2
    ·rename_i hc;split at P2;rename_i j hj;obtain⟨x',ys,ex,h4,h5⟩:=we S2 (RV.ext e2 o r1) el;cases ex;exact⟨l,ys,x,p,v,j,rfl,rfl,h4,RVs.rws l hc.1 h5,RV.rw p hc.2.1 r2,hc.2.2,hj,PostE.here P2 S2 QS⟩;exact P2.elim
    ·exact P2.elim
   ·exact P2.elim
  ·exact P1.elim⟩
def qLk(i:Int):Str:=toString i
def qEu(f:FE):FE:=fun r st=>(f r st).bind fun p s=>match p with| .int i=>if i.natAbs.log2<1920 then .ok (.str (qLk i)) s else .no|_=>.no
theorem qA2(h:VE X E e f):VE X E (.FormattedValue e (-1) none pos) (qEu f):=PE.imp (qBa h) fun s H Q ⟨b,r,st,S,R,P⟩=>⟨b,r,st,S,R,PostE.bind P fun p s1 u H1 b1 e1 S1 r1 P1=>by
 split at P1
 ·rename_i i;split at P1;rename_i hi;unfold RV at r1;exact⟨i,r1,hi,PostE.here P1 S1 (by unfold RV;rfl)⟩;exact P1.elim
 ·exact P1.elim⟩
def vJ:List FE->Str->qk->qC->Rs PV
 |[],out,_,st=>if out.length≤sizeLine then .ok (.str out) st else .no
 |f::fs,out,r,st=>(f r st).bind fun p s=>match p with| .str y=>if (out++y).length≤sizeLine then vJ fs (out++y) r s else .no|_=>.no
def VJ(X:Cx)(E:XK)(es:List Expr)(fs:List FE):Prop:=PJ X es (fun out σ H Q=>∃b r st,SR X.K H b st∧REnv X.K H b r σ∧PostE X.K E H b (vJ fs out r st) (fun v H'=>∃x,v= .str x∧Q x H'))
theorem qFz:VJ X E [] []:=fun out pins s σ H Q I ⟨b,r,st,S,R,P⟩=>qEt out pins s σ H Q I (by
 unfold vJ at P;split at P
 ·rename_i h;obtain⟨x,e,q⟩:=PostE.here P S (by unfold RV;rfl);cases e;exact⟨h,q⟩
 ·exact P.elim)
theorem ZP{fs:List FE}(h1:VE X E e f)(h2:VJ X E es fs):VJ X E (e::es) (f::fs):=fun out pins s σ H Q I ⟨b,r,st,S,R,P⟩=>yy h1 h2 out pins s σ H Q I (by
 unfold vJ at P;refine⟨b,r,st,S,R,PostE.bind P fun p s1 u H1 b1 e1 S1 r1 P1=>?_⟩;split at P1
 ·rename_i y;split at P1;rename_i h;unfold RV at r1;exact⟨y,r1,h,b1,r,s1,S1,R.ext e1,P1⟩;exact P1.elim
 ·exact P1.elim)
theorem qCe{e1 e2:Expr}{fs:List FE}(h:VJ X E (e1::e2::es) fs):VE X E (.JoinedStr (e1::e2::es) pos) (vJ fs Str.empty):=fun pins s σ H Q I ⟨b,r,st,S,R,P⟩=>qCb h pins s σ H Q I ⟨b,r,st,S,R,by
 cases e:vJ fs Str.empty r st with
 |ex x s1=>rw[e]at P;exact P
 |no=>rw[e]at P;exact P
 |ok p s1 =>
  rw[e]at P;intro v H' b' e' S' r';have q:=P v H' b' e' S' r';have hp:∃y,p= .str y:=by
   have key:∀(fs:List FE) (out:Str) (st:qC) (p:PV) (s1:qC),vJ fs out r st= .ok p s1->∃y,p= .str y:=by
    intro fs;induction fs with
    |nil=>intro out st p s1 h;unfold vJ at h;split at h;(cases h;exact⟨_,rfl⟩);cases h
    |cons g gs ih =>
     intro out st p s1 h;unfold vJ at h;cases eg:g r st with
     |no=>rw[eg]at h;cases h
     |ex x s2=>rw[eg]at h;cases h
     |ok p2 s2 =>
      rw[eg]at h;dsimp only[Rs.bind]at h;split at h
      ·split at h;exact ih _ _ _ _ h;cases h
      ·cases h
   exact key _ _ _ _ _ e
  obtain⟨y,rfl⟩:=hp;unfold RV at r';exact⟨y,r',by rw[r']at q;exact q⟩⟩
theorem qq{P:Program}{w:World}(X:Cx):ZO (CXF P w) X E0:=fun pins σ H s e s' I h=>by obtain⟨_,_,_,_,_,_,_,_,_,_,_,_,q⟩:=h;exact q.elim
def Qc(i:Nat):FG:=fun p r=>match r[i]? with|some none=>some (r.set i (some p))|_=>none
theorem qCQ{i:Nat}{p:PV}{r r':qk}(h:Qc i p r=some r'):r[i]? = some none∧r'=r.set i (some p):=by
 unfold Qc at h;split at h;rename_i e;cases h;exact⟨e,rfl⟩;cases h
theorem wL(i:Nat){x:Str}(hN:X.N.Nodup)(hi:X.N[i]? = some x:=by rfl)(hx:Loc X.env.scope x:=by first|exact Or.inl rfl|exact Or.inr rfl)(hf:X.fn x=true∨X.env.scope.names.lookup x=some .local:=by first|exact .inl rfl|exact .inr rfl|assumption):VG X (.Name x pos) (Qc i) :=
 PG.imp (QK i hN hi hx hf) fun v s H Q ⟨b,r,p,st,S,R,rv,r',e,q⟩=>⟨b,r,p,st,S,R,rv,r',by rw[(qCQ e).2];rfl,q⟩
theorem QE(i:Nat):qH7 (Qc i):=fun p r r' h=>by
 obtain⟨h1,rfl⟩:=qCQ h;refine⟨by simp,fun j q e=>?_⟩;by_cases hj:i=j;subst hj;rw[h1]at e;cases e;rw[BB hj];exact e
end
structure DefG (P:Program) (w:World) (K:W.Frag) (mg:Str->Option Value) (base:Heap) (k:Nat) (x:Str) (fa:Addr) (n:Nat) (g:List PV->qC->Rs PV):Prop where
 ok:∃fd ps,ps.length=n∧FnOk P w K mg base (CXF P w) k fa fd ps (spG K ps.length g)∧L2.Binds K fd ps []∧∀l st,g l st≠ .no->l.length=ps.length
 mg:mg x=some (.ref fa)
 kp:W.keepIn K (.ref fa)=true
section
variable{X:Cx}{E:XK}{e a c d:Expr}{es:List Expr}{f fa fb fc:FE}{fl:FL}{pos:Pos}{F G:FS}
theorem DefG.call{k n:Nat}{x:Str}{fa:Addr}{g:List PV->qC->Rs PV}(D:DefG X.prog X.w X.K X.mg X.base k x fa n g)(hr:Room k X.A)(hx:ZO (CXF X.prog X.w) X E)(hg:Gl X x:=by rfl)(hdb:(x==("__debug__":Str))=false:=by decide):qJz X E x g:=by obtain⟨fd,ps,_,F,B,hl⟩:=D.ok;exact qLV (n:=n) F hr hg D.mg D.kp B hx hl hdb
end
def qo(n N:Nat)(B:FS):List PV->qC->Rs PV:=fun l st=>if l.length=n then qG7 (B (qv N l) st) else .no
theorem wY{n N:Nat}{B:FS}{l:List PV}{st:qC}(h:qo n N B l st≠ .no):l.length=n:=by
 unfold qo at h;split at h;assumption;exact absurd rfl h
section
variable{X:Cx}{E:XK}{e a c d:Expr}{f fa fb fc:FE}{pos:Pos}
def qBg(f:FE):FE:=fun r st=>(f r st).bind fun p s=>match p with| .int i=>.ok (.int (-i)) s|_=>.no
theorem JK(h:VE X E e f):VE X E (.UnaryOp .USub e pos) (qBg f):=PE.imp (qKo qJF h) fun s H Q ⟨b,r,st,S,R,P⟩=>⟨b,r,st,S,R,PostE.bind P fun p s1 u H1 b1 e1 S1 r1 P1=>by
 split at P1;rename_i i;unfold RV at r1;exact⟨i,r1,PostE.here P1 S1 QS⟩;exact P1.elim⟩
end
theorem qHx{k:Nat}{A:Around}{v:Option Value}(h:Room k A)(hk:1≤k:=by omega):Room 1 (A.mark v) :=
 ⟨fun z=>absurd z (by decide),by have:=h.dp;show A.depth+3*1+5<recursionLimit;omega,by have:=h.un;show A.units+16*1+200<cLine;omega,h.gd⟩
theorem wA{n N m:Nat}{B:FS}{l:List PV}{s0:qC}(hl:l.length=n):Refn m (qG7 (B (qv N l) s0)) (qo n N B l s0):=by unfold qo;rw[AE hl];exact Refn.refl
section
variable{P:Program}{w:World}{K:W.Frag}{mg:Str->Option Value}{base:Heap}
theorem Z9{x:Str}{st:Stmt}{fa:Addr}{fd:FuncData}{N ps:List Str}{k:Nat}{B:FS}{g:List PV->qC->Rs PV}(F:Fun K x x st fa fd)(S:FnScope N ps (qI st))(b:L2.Binds K fd ps [])(m:mg x=some (.ref fa))(hlen:∀l s,g l s≠ .no->l.length=ps.length)
  (body:∀(cdv:Value) (A:Around) (outer:List Env) (s:Shared) (H:Hp) (E:XK),Room k (A.deeper (envOfC x (qI st) s.heap.objs.size fa cdv))->(0<k->A.handled=none)->VSs (Qq (CXF P w) P w K mg base N x (qI st) fa cdv A outer s H E) E (qY st) B)
  (hg:∀l s0,l.length=ps.length->g l s0≠ .no->Refn s0.length (qG7 (B (qv N.length l) s0)) (g l s0)):DefG P w K mg base (k+1) x fa ps.length g :=
 ⟨⟨fd,ps,rfl,okV F S fun cdv A outer s H E hr hc=>⟨B,body cdv A outer s H E hr hc,hg⟩,b,hlen⟩,m,F.kp⟩
end
section
variable{X:Cx}{E:XK}{es:List Expr}{f:FE}{g:FA}{pos:Pos}
theorem qc{c:Const}{j:Nat}(h:VE X E (.Constant c j pos) f)(h2:VA X E es g):VA X E (.Constant c j pos::es) (qA f g):=Q4 h h2 rfl
theorem qR{x:Str}(h:VE X E (.Name x pos) f)(h2:VA X E es g):VA X E (.Name x pos::es) (qA f g):=Q4 h h2 rfl
theorem ww{a b c}(h:VE X E (.Call a b c pos) f)(h2:VA X E es g):VA X E (.Call a b c pos::es) (qA f g):=Q4 h h2 rfl
theorem Wy{a b c}(h:VE X E (.BinOp a b c pos) f)(h2:VA X E es g):VA X E (.BinOp a b c pos::es) (qA f g):=Q4 h h2 rfl
theorem WF{a b}(h:VE X E (.Tuple a b pos) f)(h2:VA X E es g):VA X E (.Tuple a b pos::es) (qA f g):=Q4 h h2 rfl
theorem qHs{a}(h:VE X E (.List a pos) f)(h2:VA X E es g):VA X E (.List a pos::es) (qA f g):=Q4 h h2 rfl
theorem yt{a b}(h:VE X E (.Subscript a b pos) f)(h2:VA X E es g):VA X E (.Subscript a b pos::es) (qA f g):=Q4 h h2 rfl
theorem qJk{a b}(h:VE X E (.UnaryOp a b pos) f)(h2:VA X E es g):VA X E (.UnaryOp a b pos::es) (qA f g):=Q4 h h2 rfl
theorem qLq{a b c}(h:VE X E (.Compare a b c pos) f)(h2:VA X E es g):VA X E (.Compare a b c pos::es) (qA f g):=Q4 h h2 rfl
theorem jD{a b c}(h:VE X E (.ListComp a b c pos) f)(h2:VA X E es g):VA X E (.ListComp a b c pos::es) (qA f g):=Q4 h h2 rfl
theorem qKM{a}(h:VE X E (.JoinedStr a pos) f)(h2:VA X E es g):VA X E (.JoinedStr a pos::es) (qA f g):=Q4 h h2 rfl
theorem qLy{a b c}(h:VE X E (.IfExp a b c pos) f)(h2:VA X E es g):VA X E (.IfExp a b c pos::es) (qA f g):=Q4 h h2 rfl
theorem qLx{a b}(h:VE X E (.BoolOp a b pos) f)(h2:VA X E es g):VA X E (.BoolOp a b pos::es) (qA f g):=Q4 h h2 rfl
end
section
variable{X:Cx}{E:XK}{e a c d:Expr}{es:List Expr}{f fa fb fc:FE}{fl:FL}{pos:Pos}{F G:FS}
theorem qAE:Wh X (.builtin "divmod") (fun xs H Q=>∃i j:Int,xs=[.int i,.int j]∧0<j∧j<1073741824∧∀p,H p=none->Q (.ref p) (upd H p (.tup [.int (i/j),.int (i%j)]))):=by
 intro pins s σ H xs us Q I r h;obtain⟨i,j,rfl,h1,h2,q⟩:=h;obtain⟨u,w',rfl,⟨t,rfl⟩,⟨t',rfl⟩⟩:=qCG r;refine divmod_int (by omega) ?_ (.inl (PyProof.noPylong_small (by omega)));rw[Int.fdiv_eq_ediv_of_nonneg i (by omega),Int.fmod_eq_emod_of_nonneg i (by omega)];refine⟨.ref s.heap.objs.size,_,I.laid (t':=s.toks+1+1) (o:=.tup [.int (i/j),.int (i%j)]) (fun b ob q=>AD _ q) (AG _) ?_,rfl,q _ (I.hok.fresh (AG _))⟩;exact⟨show 2≤sizeLine by decide,_,.cons ⟨_,rfl⟩ (.cons ⟨_,rfl⟩ .nil),IsTup.new _ _⟩
def Z4:List PV->qC->Rs PV:=fun ps st=>match ps with|[.int i,.int j]=>if 0<j∧j<1073741824 then .ok (.tup [.int (i/j),.int (i%j)]) st else .no|_=>.no
theorem qEB{ta:FA}{p:Pos}(ha:VA X E (e::es) ta)(hm:X.mg "divmod" = none)(hg:Gl X "divmod" :=by rfl)(he:starEach (e::es) X.env=(false,eval e X.env)::starEach es X.env:=by rfl)(hpl:(backTo pos (starEach es X.env)).any (·.1)=false:=by rfl):VE X E (.Call (.Name "divmod" p) (e::es) [] pos) (qH Z4 ta) :=
 Wc qAE (fun H b st ps vs Q S r P=>by
  unfold Z4 at P;split at P
  ·rename_i i j;split at P;rename_i hc;obtain⟨v,w,rfl,r1,r2⟩:=RVs.two r;unfold RV at r1 r2;subst r1;subst r2;exact⟨i,j,rfl,hc.1,hc.2,fun p hp=>PostE.layT P S (RVs.cons QS (RVs.cons QS RVs.nil)) hp⟩;exact P.elim
  ·exact P.elim) hg hm PyProof.Rows.boot_divmod ha (he:=he) (hpl:=hpl)
def qDT(p:PV):List PV->Nat|[]=>0|q::qs=>(if peq q p=true then 1 else 0)+qDT p qs
theorem jX{p:PV}{g:Value->Bool}:∀{l:List PV} {its:List Value},l.length=its.length->(∀(i:Nat) (q:PV) (y:Value),l[i]? = some q->its[i]? = some y->g y=peq q p)->its.countP g=qDT p l
 |[],[],_,_=>rfl
 |q::qs,y::ys,hl,h=>by
  rw[List.countP_cons,jX (l:=qs) (its:=ys) (by simpa using hl) fun i q' y' h1 h2=>h (i+1) q' y' (by simpa using h1) (by simpa using h2),h 0 q y rfl rfl];show _=(if peq q p=true then 1 else 0)+qDT p qs;rw[Nat.add_comm]
 |[],_::_,hl,_=>by simp at hl
 |_::_,[],hl,_=>by simp at hl
theorem qGN(hr:X.A.units+64<cLine):MtM X "list.count" (fun x vs H Q=>∃l xs a p v,x= .ref a∧vs=[v]∧SqL X.K H a xs∧RWs X.K H l xs∧RW X.K H p v∧deps l≤Z6∧Q (.int (qDT p l)) H):=by
 intro pins s σ H x vs v us Q I rx rv h;obtain⟨l,xs,ad,p,y,rfl,rfl,hs,hl,hp,hd,q⟩:=h;cases rx;obtain⟨u,rfl,ru⟩:=rv.one;obtain⟨its,r',pl,hz⟩:=I.list hs;obtain⟨⟨c1,d1,a1,s1⟩,o1,e1,m1,f1⟩:=id pl.isList;have e1:c1=_:=e1;have f1:a1=_:=f1;subst e1;subst f1;have hA:X.A.in1.units+60<cLine:=by show X.A.units+1+60<cLine;omega
 obtain⟨g,g1,g2⟩:=qE0 I hp ru hA hl r' hd;have n1:l.length=its.length:=by rw[hl.length,r'.length]
 refine call_meets F.slot_list_count ⟨_,o1,rfl⟩ F.entry_list_count (F.args_list_count_2 _ _) (SeqAt.list_countAt ad its.toArray m1 d1 s1 u g) ⟨o1,fun y hy=>g1 y (by simpa using hy),⟨.int (qDT p l),H,I.tok _,⟨s.toks,?_⟩,q⟩⟩;show Value.int ((its.toArray.toList.countP g:Nat):Int) s.toks=_;rw[show its.toArray.toList=its from rfl,jX (its:=its) n1 g2]
def qBk(fo f:FE):FE:=fun r st=>(fo r st).bind fun o s1=>match asL s1 o with
 |some _=>(f r s1).bind fun p s2=>match asL s2 o with|some l=>if nrs l=true∧nr p=true∧deps l≤Z6 then .ok (.int (qDT p l)) s2 else .no|none=>.no
 |none=>.no
theorem qFR{fo:FE}{o:Expr}{apos cpos:Pos}(hr:X.A.units+64<cLine)(ho:VE X E o fo)(h:VE X E e f)(hbase:attributeBase o "count" X.env (eval o X.env)=eval o X.env:=by rfl)
  (hfew:((backTo cpos (starEach [e] X.env)).all (fun x=> !x.1)&&(backToKw cpos (keywordEach [] X.env)).all (fun x=>x.1.isSome)&&decide ([e].length+([]:List Keyword).length+(if ([]:List Keyword).isEmpty then 0 else 1)<30))=true:=by rfl)
  (hline:(apos.endLine==cpos.line)=true:=by rfl) (h1:starEach [e] X.env=(false,eval e X.env)::starEach [] X.env:=by rfl) (hplain:(backTo cpos (starEach [] X.env)).any (·.1)=false:=by rfl) :
  VE X E (.Call (.Attribute o "count" apos) [e] [] cpos) (qBk fo f) :=
 PE.imp (qEN PySem.F.plainAttrs_list PySem.F.slot_list_count PySem.F.type_list_count (qGN hr) ho (zr h yO h1) hbase hfew hline h1 hplain) fun s H Q ⟨b,r,st,S,R,P⟩=>⟨b,r,st,S,R,PostE.bind P fun o s1 u H1 b1 e1 S1 r1 P1=>by
  split at P1
  ·rename_i l1 el1;obtain⟨x,xs,rfl,h2,h3⟩:=we S1 r1 el1;refine⟨.inl ⟨rfl,xs,h2⟩,b1,r,s1,S1,R.ext e1,PostE.bind P1 fun p s2 v H2 b2 e2 S2 r2 P2=>?_⟩;split at P2
   ·rename_i l el;split at P2;rename_i hc;obtain⟨x',ys,ex,h4,h5⟩:=we S2 (RV.ext e2 o r1) el;cases ex;exact⟨l,ys,x,p,v,rfl,rfl,h4,RVs.rws l hc.1 h5,RV.rw p hc.2.1 r2,hc.2.2,PostE.here P2 S2 QS⟩;exact P2.elim
   ·exact P2.elim
  ·exact P1.elim⟩
theorem qKA:VE X E (.Dict [] [] pos) (vC .dct):=PE.imp qEv fun s H Q ⟨b,r,st,S,R,P⟩ p hp=>by refine P (.ref p) _ b (Ext.new hp) (S.new hp) ?_;unfold RV;exact⟨p,rfl,qm,S.new_notin hp⟩
end
section
variable{X:Cx}{E:XK}{es:List Expr}{f:FE}{g:FA}{pos:Pos}
theorem qLP{a b}(h:VE X E (.Dict a b pos) f)(h2:VA X E es g):VA X E (.Dict a b pos::es) (qA f g):=Q4 h h2 rfl
end
section
variable{X:Cx}{E:XK}{e a c d:Expr}{es:List Expr}{f fa fb fc:FE}{pos:Pos}
def CMulB(i j:Int):Prop:=Builtin.Int.intBits i+Builtin.Int.intBits j≤bitsLine
theorem CMulB.ok{i j:Int}(h:CMulB i j):IntMulOk i j:=by
 unfold IntMulOk Builtin.Int.intTooBig;have h':¬(((Builtin.Int.intBits i:Int)+(Builtin.Int.intBits j:Int))>(bitsLine:Int)):=by unfold CMulB at h;omega
 rw[AY h'];simp
theorem qHQ:OpR X (binaryOp .Mult) (rI CMulB fun i j=>.int (i*j)):=opI fun _ _ _ _ _ _ _ hc q=>mul_int q hc.ok
def qCf:=gI fun i j=>if Builtin.Int.intBits i+Builtin.Int.intBits j≤bitsLine then some (.int (i*j)) else none
theorem qGS(ha:VE X E a fa)(hb:VE X E c fb):VE X E (.BinOp a .Mult c pos) (qJ qCf fa fb):=yH qHQ (qE8 fun i j z e=>by
 split at e;rename_i hc;cases e;exact⟨hc,fun _ _=>QS⟩;cases e) ha hb
theorem qJv{i j:Int}{st:qC}(h:Builtin.Int.intBits i+Builtin.Int.intBits j≤bitsLine):qCf (.int i) (.int j) st= .ok (.int (i*j)) st:=by unfold qCf gI;dsimp only;rw[AE h]
theorem jo{x:Int}{n:Nat}(h:x.natAbs<2 ^ n):Builtin.Int.intBits x≤n:=by
 unfold Builtin.Int.intBits;by_cases h0:x=0;subst h0;exact A6 _
 ·rw[AF (by simpa using h0)]
  have:x.natAbs≠0:=by omega
  exact (Nat.log2_lt this).mpr h
theorem qGw{x:Int}{n:Nat}(h:Builtin.Int.intBits x≤n):x.natAbs<2 ^ n:=by
 unfold Builtin.Int.intBits at h;by_cases h0:x=0;subst h0;exact Nat.two_pow_pos n
 ·rw[AF (by simpa using h0)]at h
  have:x.natAbs≠0:=by omega
  exact (Nat.log2_lt this).mp (by omega)
end
end EV
end
section
namespace Att
open PySem PySem.W PySem.Calls PyProof.Rows
theorem Yr:∀{ns:List Int} {n:Int},n∈ns->WData.weight (.int n)≤WData.weightAll (ns.map WData.int)
 |m::ns,n,h=>by
  show _≤WData.weight (.int m)+1+WData.weightAll (ns.map WData.int);rcases AH.mp h with rfl|h
  ·omega
  ·have:=Yr h;omega
theorem J5{ns:List Int}(h:WData.layableAll [WData.list (ns.map WData.int)]=true):∀n∈ns,Builtin.Int.intBits n≤2 ^ 20:=by
 intro n hn;unfold WData.layableAll at h;have h1:WData.layable (WData.list (ns.map WData.int))=true:=by simpa using h
 unfold WData.layable at h1;rw[AX]at h1;have h2:WData.weight (WData.list (ns.map WData.int))≤2 ^ 20:=of_decide_eq_true h1.2;have h3:WData.weightAll (ns.map WData.int)≤2 ^ 20:=h2;exact Ag (Yr hn) h3
theorem attach_callB{l:OpenLaw}{n:Nat}{q:Program}{loose:List Str}{XP:(Str->Option Value)->Heap->Prop}{YP:World->Heap->Prop}{d:DefRec}
  (hn:l.most=some n) (hdf:d.params.defaults=[])
  (call:∀(w:World) (s₀ s₁:Shared) (mg mb:Str->Option Value) (fa:Addr) (o:Obj) (pm cd doc:Value) (a:Addr) (vs:List Value) (ns:List Int),
   Ground q loose [] XP w s₀ mg mb s₁.heap->YP w s₁.heap ->
   s₁.heap.get? fa=some o->o.data= .func (docDef d.name d.params d.body d.scope pm cd doc)->s₁.heap.CodeRec cd d.name->mg d.name=some (.ref fa) ->
   s₁.heap.get? a=some { cls:=.type "list",data:=.seq vs.toArray }->IntsAre vs ns->ns.length≤n->(∀k∈ns,Builtin.Int.intBits k≤2 ^ 20)->s₁.gens = #[] ->
   codeAny (model l.prog w) callerA (.call (.ref fa) ⟨[.ref a],[]⟩) (fun r s'=>r= .ok (.ret (.bool true))∧OldK s₁.heap s'.heap∧s'.os=s₁.os∧AllBare s'.gens) s₁) :
  WalkO q loose XP YP l.row.toRowW d [] (fun f vs=>PySem.call f vs):=by intro w s₀ s₁ mg mb G Y fa o pm cd doc dV kV ho hd hcd hD hmg hg args vals as hpre hlay hrd hwl hlo;obtain rfl:dV= .none:=Dflts.none hD hdf;obtain rfl:kV= .none:=Dflts.noKw hD;obtain⟨a,vs,ns,rfl,rfl,hobj,hints,hlen⟩:=qDH hn hpre hwl;refine enter_call (codeAny_mono (call w s₀ s₁ mg mb fa o pm cd doc a vs ns G Y ho (fd_plain hd) hcd hmg hobj hints hlen (J5 hlay) hg) fun r s' hq=>?_);obtain⟨rfl,h2,h3,h4⟩:=hq;exact⟨.inl ⟨.bool true,.bool true,[],rfl,fun _=>rfl,.bool true,qDf l _,fun _=>⟨List.Pairwise.nil,fun _ hm=>(nomatch hm)⟩⟩,h2,h3,h4⟩
end Att
end
section
namespace EX
open PySem PySem.Spec PyProof.Rows L2
end EX
namespace EV
open PySem PySem.Spec PyProof.Rows L2 EX
end EV
end
section
namespace HT
open PySem PySem.Spec PyProof.Rows L2
section
variable{prog:Program}{w:World}{A:Around}{E:Value->Shared->Prop}{s:Shared}
def cutS{α:Type}(l:List α)(lo hi:Option Int)(st:Int):List α :=
 (List.range (Builtin.Slice.slicePlaces (Builtin.Slice.sliceAdjust lo hi st l.length).1 (Builtin.Slice.sliceAdjust lo hi st l.length).2 st)).filterMap fun (m:Nat)=>l[((Builtin.Slice.sliceAdjust lo hi st l.length).1+(m:Int)*st).toNat]?
theorem yF{sl:Addr}{vl vu vs:Value}{lo hi:Option Int}{st:Int}{n:Nat}{Q:Int×Int×Nat->Shared->Prop}(hs:s.heap.IsSliceOf sl vl vu vs)(pl:IsPart vl lo)(pu:IsPart vu hi)(ps:IsPart vs (some st))(h0:st≠0)
  (h:Q ((Builtin.Slice.sliceAdjust lo hi st n).1,st,Builtin.Slice.slicePlaces (Builtin.Slice.sliceAdjust lo hi st n).1 (Builtin.Slice.sliceAdjust lo hi st n).2 st) s):wpAny (model prog w) A (Builtin.Slice.sliceApplied (.ref sl) (pure (n:Int))) Q E s:=by
 obtain⟨os,hos,hcs,hds⟩:=id hs;unfold Builtin.Slice.sliceApplied Builtin.Slice.sliceFields;refine AA (AA (A4 hos hds (x:=vl) rfl (AA (A4 hos hds (x:=vu) rfl (AA (A4 hos hds (x:=vs) rfl (AB ?_)))))));refine AA (Wv ps ?_);show wpAny _ _ (if (st==0)=true then _ else _) _ _ s;rw[AF (by simpa using h0)];refine AA (Wv pl (AA (Wv pu (AA (AB ?_)))));exact AB h
theorem getItem_tuple_step{t sl:Addr}{items:Array Value}{vl vu vs:Value}{lo hi:Option Int}{st:Int}{Q:Value->Shared->Prop}(ht:IsTup s.heap t items)(hs:s.heap.IsSliceOf sl vl vu vs)(pl:IsPart vl lo)(pu:IsPart vu hi)(ps:IsPart vs (some st))(h0:st<0)
  (h:Q (.ref s.heap.objs.size) { s with heap:=s.heap.push { cls:=.type "tuple",data:=.seq (cutS items.toList lo hi st).toArray } })
  (hsz:(cutS items.toList lo hi st).length≤sizeLine):wpAny (model prog w) A (getItem (.ref t) (.ref sl)) Q E s:=by
 have htake:sizeOk (.seq (cutS items.toList lo hi st).toArray):=by show (cutS items.toList lo hi st).toArray.size≤sizeLine;rw[AR];exact hsz
 obtain⟨os,hos,hcs,hds⟩:=id hs;have hTs:s.TypeIs (.ref sl) "slice" :=⟨os,hos,hcs⟩;unfold getItem;try with_reducible refine Ak ?_
 first|refine AA (AB ?_)|skip
 refine AA (wpAny_sequenceKey ht.typeIs (by decide) ?_);refine AA (BI (name:=Str.ofString "__getitem__") ht.typeIs A9
  (Bm A9 ht.typeIs entry_tuple_getitem ?_ (args_tuple_getitem _ _)))
 show wpAny _ _ (Builtin.Tuple.tupleItemsOf (.ref t) >>= _) _ _ s;refine AA (tupleItemsOf_ ht ?_);refine AA (BX hTs ?_);rw[AE (by decide)];refine AA (yF hs pl pu ps (by omega) ?_);have hno:¬(((Builtin.Slice.sliceAdjust lo hi st items.size).1==0&&st==1&&Builtin.Slice.slicePlaces (Builtin.Slice.sliceAdjust lo hi st items.size).1 (Builtin.Slice.sliceAdjust lo hi st items.size).2 st==items.size)=true):=by intro q;rw[AX,AX]at q;have q1:st=1:=eq_of_beq q.1.2;omega
 show wpAny _ _ (if ((Builtin.Slice.sliceAdjust lo hi st items.size).1==0&&st==1&&Builtin.Slice.slicePlaces (Builtin.Slice.sliceAdjust lo hi st items.size).1 (Builtin.Slice.sliceAdjust lo hi st items.size).2 st==items.size)=true then _ else _) _ _ s;rw[AF hno];have e:((List.range (Builtin.Slice.slicePlaces (Builtin.Slice.sliceAdjust lo hi st items.size).1 (Builtin.Slice.sliceAdjust lo hi st items.size).2 st)).filterMap fun (m:Nat)=>items[((Builtin.Slice.sliceAdjust lo hi st items.size).1+(m:Int)*st).toNat]?).toArray=(cutS items.toList lo hi st).toArray:=by unfold cutS;rw[AZ];congr 2;funext m;rw[Ax]
 rw[e];first
  |exact AA (m:=Builtin.Tuple.tupleExact _) (A8 (AB ⟨_,rfl,AB h⟩) htake)
  |exact AA (m:=Builtin.Tuple.tupleExact _) (A8 (AA (AB (AB ⟨_,rfl,AB h⟩))) htake)
  |exact AA (AA (m:=Builtin.Tuple.tupleExact _) (A8 (AB (AB ⟨_,rfl,AB h⟩)) htake))
  |exact AA (AA (m:=Builtin.Tuple.tupleExact _) (A8 (AB ⟨_,rfl,AB h⟩) htake))
end
end HT
namespace L2
open PySem PySem.Spec PyProof.Rows
section
variable{X:Cx}{e:Expr}{te:TE}{lo hi:Option Expr}{tl th tt:TO}{sp:Expr}{p2 pos:Pos}
theorem Vals.pick{xs:List V}{us:List Value}(r:Vals xs us)(f:Nat->Nat):∀js:List Nat,Vals (js.filterMap fun m=>xs[f m]?) (js.filterMap fun m=>us[f m]?)
 |[]=>.nil
 |j::js=>by
  have hl:=r.length;rw[A7,A7];by_cases hj:f j<xs.length
  ·obtain⟨u,hu,ru⟩:∃u,us[f j]? = some u∧RelV (xs[f j]) u:=by
    have hju:f j<us.length:=by rw[←hl];exact hj
    obtain⟨x,hx,rx⟩:=EV.Vals.get2 r (AM hju);rw[AM hj]at hx;cases hx;exact⟨_,AM hju,rx⟩
   rw[hu,AM hj];exact .cons ru (Vals.pick r f js)
  ·rw[Be (by omega),Be (by omega)];exact Vals.pick r f js
def qLY(K:W.Frag)(te:TE)(tl th tt:TO):TE:=fun σ H Q=>te σ H fun x H1=>tl σ H1 fun l H2=>th σ H2 fun u H3=>tt σ H3 fun o H4=>∃st a xs,o=some st∧st<0∧x= .ref a∧SqT K H4 a xs∧(HT.cutS xs l u st).length≤sizeLine∧∀p,H4 p=none->Q (.ref p) (upd H4 p (.tup (HT.cutS xs l u st)))
theorem qDn(he:PE X e te)(hl:PO X lo tl)(hu:PO X hi th)(hp:PO X (some sp) tt):PE X (.Subscript e (.Slice lo hi (some sp) p2) pos) (qLY X.K te tl th tt):=by
 intro pins s σ H Q I h;refine Subscript_ (thn (he pins s σ H _ I h) fun v s1 ⟨x,H1,I1,r1,q1⟩=>?_);refine wpAny_Slice (thn (hl pins s1 σ H1 _ I1 q1) fun vl s2 ⟨l,H2,I2,pl,q2⟩=>thn (hu pins s2 σ H2 _ I2 q2) fun vu s3 ⟨u,H3,I3,pu,q3⟩=>thn (hp pins s3 σ H3 _ I3 q3) fun vs s4 ⟨o,H4,I4,po,st,a,xs,eo,h0,ex,hx,hz,q⟩=>?_);subst eo;subst ex;cases r1;have I5:Inv X pins σ H4 { s4 with heap:=s4.heap.push { cls:=.type "slice",data:=.fields #[vl,vu,vs] } }:=I4.kept (t':=s4.toks) fun b ob q=>AD _ q;obtain⟨its,r,ht,hz2⟩:=I5.tuple hx;have hlen:=r.length;have hc:Vals (HT.cutS xs l u st) (HT.cutS its l u st):=by unfold HT.cutS;rw[←hlen];exact Vals.pick r _ _
 show wpAny (model X.prog X.w) X.A (subscriptTail e (.Slice lo hi (some sp) p2) (.ref a) (.ref s4.heap.objs.size)) (EP X pins σ Q) X.xe { s4 with heap:=s4.heap.push { cls:=.type "slice",data:=.fields #[vl,vu,vs] } };refine tail_any (T := "tuple") (id := "tuple.__getitem__") (ops:=[.ref a,.ref s4.heap.objs.size]) ht.typeIs ?_ (HT.getItem_tuple_step ht (Heap.IsSliceOf.new ..) pl pu po h0 ?_ ?_) (by with_unfolding_all rfl);exact PyProof.Rows.slot_tuple_getitem.lookup;refine⟨.ref _,_,I5.laid (t':=s4.toks) (o:=.tup (HT.cutS xs l u st)) (fun b ob q=>AD _ q) (AG _) ?_,rfl,q _ (I5.hok.fresh (AG _))⟩;exact⟨hz,_,hc,IsTup.new _ _⟩
 ·have:=hc.length
  rw[←this];exact hz
end
end L2
end
section
namespace EV
open PySem PySem.Spec PyProof.Rows L2 EX
section
variable{X:Cx}{E:XK}{e a c d:Expr}{es:List Expr}{f fa fb fc:FE}{fl:FL}{pos:Pos}{F G:FS}
theorem RVs.pick{K:W.Frag}{H:Hp}{b:Bz}{l:List PV}{xs:List V}(r:RVs K H b l xs)(f:Nat->Nat):∀js:List Nat,RVs K H b (js.filterMap fun m=>l[f m]?) (js.filterMap fun m=>xs[f m]?)
 |[]=>RVs.nil
 |j::js=>by
  have hl:=r.length;rw[A7,A7];by_cases hj:f j<l.length;obtain⟨x,hx,rx⟩:=r.get (AM hj);rw[hx,AM hj];exact RVs.cons rx (RVs.pick r f js)
  ·rw[Be (by omega),Be (by omega)];exact RVs.pick r f js
def qCw(f:FE)(lo hi sp:FO):FE:=fun r st=>(f r st).bind fun p s1=>(lo r s1).bind fun a s2=>(hi r s2).bind fun c s3=>(sp r s3).bind fun o s4=>match p,o with| .tup l,some k=>if k<0∧(HT.cutS l a c k).length≤sizeLine then .ok (.tup (HT.cutS l a c k)) s4 else .no|_,_=>.no
theorem qGt{lo hi:Option Expr}{sp:Expr}{flo fhi fsp:FO}{p2:Pos}(h:VE X E e f)(hl:VO X E lo flo)(hh:VO X E hi fhi)(hs:VO X E (some sp) fsp):VE X E (.Subscript e (.Slice lo hi (some sp) p2) pos) (qCw f flo fhi fsp) :=
 PE.imp (qDn h hl hh hs) fun s H Q ⟨b,r,st,S,R,P⟩=>⟨b,r,st,S,R,PostE.bind P fun p s1 u H1 b1 e1 S1 r1 P1=>⟨b1,r,s1,S1,R.ext e1,PostO.bind P1 fun k s2 H2 b2 e2 S2 P2=>⟨b2,r,s2,S2,(R.ext e1).ext e2,PostO.bind P2 fun m s3 H3 b3 e3 S3 P3=>⟨b3,r,s3,S3,((R.ext e1).ext e2).ext e3,PostO.bind P3 fun o s4 H4 b4 e4 S4 P4=>by
  split at P4
  ·rename_i l k';split at P4
   ·rename_i hc;have r3:=RV.ext e4 _ (RV.ext e3 _ (RV.ext e2 _ r1));unfold RV at r3;obtain⟨x,xs,rfl,h2,h3⟩:=r3;have hlen:=h3.length;have hr:RVs X.K H4 b4 (HT.cutS l k m k') (HT.cutS xs k m k'):=by unfold HT.cutS;rw[←hlen];exact RVs.pick h3 _ _
    exact⟨k',x,xs,rfl,hc.1,rfl,h2.sq,by rw[←hr.length];exact hc.2,fun z hz=>PostE.layT P4 S4 hr hz⟩
   ·exact P4.elim
  ·exact P4.elim⟩⟩⟩⟩
end
end EV
end
section
namespace EV
open PySem PySem.Spec PyProof.Rows L2
theorem qHP{X:Cx}{E:XK}(i:Nat){x:Str}{p' pos2:Pos}{elt:Expr}{c:Comprehension}{cs:List Comprehension}{scope:Scope}{pos:Pos}{capN locN:List Str}{caps:List Nat}{fi:FI}{g:FG}{ts:List FT}{gs:List GenF}{f:FE}(hN:X.N.Nodup)(hi':X.N[i]? = some x)(hx:Loc X.env.scope x)(hf:X.fn x=true∨X.env.scope.names.lookup x=some .local)(hsw:swapsWith (.ListComp elt (c::cs) scope pos) (some (.Name x p')) pos2.line X.env=pure true)(hcs:CSc X scope capN locN caps)
  (hi:VI X E c.target c.iter fi) (sub:∀s H fp pn,VE (cCx X scope (capN++locN) s H fp pn) E0 elt f∧GOk (cCx X scope (capN++locN) s H fp pn) c ⟨fi,g,ts⟩∧GsOk (cCx X scope (capN++locN) s H fp pn) cs gs)
  (hs:∀x,foldedSetIterable c.iter X.env x=pure x):PS X (.Assign [.Name x p'] (.ListComp elt (c::cs) scope pos) pos2) (qJ2 (rdN X.K E (QD caps locN.length fi g ts gs f)) (qFy i)):=by
 intro pins s σ H D0 I hq;obtain⟨b,r,st,S,RE,P⟩:=hq;have hfree:∀x∈scope.names,x.2= .free->∃c,X.env.cells.lookup x.1=some c:=fun x hx hk=>I.ok.has x.1 (hcs.fr x hx hk);obtain⟨c1,c2,c3,c4⟩:=c;have hasy:c4=0:=(sub s H [] []).2.1.asy;subst hasy;rw[exec_Assign_Name_used x p' _ pos2 hsw];refine AA (B3 ?_);refine AA (BJ (Q:=fun _ s'=>∃v H',L2.Inv X pins (σ.set i (some v)) H' s'∧D0.nx (σ.set i (some v)) H') ?_ (fun _ s' ⟨v,H',I',q'⟩=>AB ⟨_,H',I',q'⟩) fun _ _ z=>z);rw[arm_evalThenUse_ListComp];refine AA (BJ (Q:=fun _ s'=>∃v H',L2.Inv X pins (σ.set i (some v)) H' s'∧D0.nx (σ.set i (some v)) H') ?_ (fun _ s' q'=>AB q') fun _ _ z=>z);refine wpAny_comprehension_free (e:= .ListComp elt (⟨c1,c2,c3,0⟩::cs) scope pos) (use:=some (assign (.Name x p') X.env)) rfl hs (Yv hfree) hcs.kind (fun x hx hl=>Wx hcs.nd (by rw[←hl];exact hx)) ?_;show wpAny _ _ (eval c2 X.env) _ _ s;unfold QD at P;cases ef:fi r st with
 |no=>rw[ef]at P;exact P.elim
 |ex xx s1 =>
  rw[ef]at P;refine thn (hi pins s σ H (fun _ _=>False) I ⟨b,r,st,S,RE,by rw[ef];exact P⟩) fun v s2 h2=>thn h2 fun itv s3 h3=>?_;obtain⟨_,_,_,_,_,_,_,_,_,_,z⟩:=h3;exact z.elim
 |ok w s1 =>
  rw[ef]at P;refine thn (hi pins s σ H (fun J H'=>∃b',Ext H b H' b'∧SR X.K H' b' s1∧yQ X.K H' b' J w) I ⟨b,r,st,S,RE,by rw[ef];exact fun J H' b' e' S' i'=>⟨b',e',S',i'⟩⟩) fun v s2 h2=>thn h2 fun itv s3 h3=>?_;obtain⟨it,fp,tn,J,H2,rfl,I2,T,t2,f2,b2,e2,S2,i2⟩:=h3;have P:PostN X.K E H b (match QO w.G (Q0 ⟨fi,g,ts⟩ (wo gs f) (Wd caps locN.length r)) w.l s1 with | .ok l s'=>if l.length≤sizeLine then .ok l s' else .no|_=>.no) (fun v H'=>D0.nx (σ.set i (some v)) H'):=P;cases ev:QO w.G (Q0 ⟨fi,g,ts⟩ (wo gs f) (Wd caps locN.length r)) w.l s1 with
  |no=>rw[ev]at P;exact P.elim
  |ex xx s4=>rw[ev]at P;exact P.elim
  |ok l st' =>
   rw[ev]at P;have P:PostN X.K E H b (if l.length≤sizeLine then .ok l st' else .no) (fun v H'=>D0.nx (σ.set i (some v)) H'):=P;by_cases hl:l.length≤sizeLine
   ·rw[AE hl]at P;have hfr:H2 s3.heap.objs.size=none:=I2.hok.fresh (AG _);refine CY ?_;generalize hs3:({ s3 with heap:=s3.heap.push { cls:=.type "list",data:=.seq ([]:List Value).toArray } }:Shared)=s3';have I3:L2.Inv X pins σ (upd H2 s3.heap.objs.size (.lst [])) s3':=by rw[←hs3];exact I2.laid (t':=s3.toks) (fun a u e=>AD _ e) (AG _) (show ObjOk X.prog X.w _ _ _ (.lst []) from⟨A6 _,[],0,.nil,AW _ rfl⟩)
    have k3:∀a o,s3.heap.get? a=some o->s3'.heap.get? a=some o:=fun a o e=>by rw[←hs3];exact AD _ e
    have hlt:∀a∈fp,a<s3.heap.objs.size:=fun a ha=>by obtain⟨o,e,_⟩:=T.obj _ _ t2 a ha;exact AU e
    have f3:∀a∈fp,Z0 X pins (upd H2 s3.heap.objs.size (.lst [])) a:=fun a ha=>⟨by rw[qT (Ab (hlt a ha))];exact (f2 a ha).1,(f2 a ha).2⟩;have hlt3:∀a∈fp,a<s3'.heap.objs.size:=fun a ha=>by obtain⟨o,e,_⟩:=T.obj _ _ t2 a ha;exact AU (k3 a o e)
    generalize hD:s3.heap.objs.size=D at I3 f3 hfr;refine Ji ?_;have J0:=YF hcs I3 f3 hlt3 rfl;obtain⟨he,hg,hgs⟩:=sub s3' (upd H2 D (.lst [])) fp (X.pn++pins);have k4:∀a o,s3'.heap.get? a=some o->(pushCells (s3'.heap.push { cls:=.type "dict",data:=.dict #[] }) scope.names).get? a=some o:=fun a o e=>CP _ _ _ _ (AD _ e);have hDz:D∉b2.z:=(S2.new_notin hfr).2;have loop:=jR (X:=cCx X scope (capN++locN) s3' (upd H2 D (.lst [])) fp (X.pn++pins)) (fun _ _ z=>z) (gens:=⟨c1,c2,c3,0⟩::cs) (scope:=scope) (pos:=pos) (D:=D) he gs cs 0 ⟨c1,c2,c3,0⟩ ⟨fi,g,ts⟩ rfl hg hgs [] _ _ _ ⟨b2.b,D::b2.z⟩ (Wd caps locN.length r) s1 st' it fp tn J w [] l
     (compPost (model X.prog X.w) X.A X.xe (some (assign (.Name x p') X.env)) (fun _ s'=>∃v H',L2.Inv X pins (σ.set i (some v)) H' s'∧D0.nx (σ.set i (some v)) H') (.ref D) s3'.heap.objs.size) J0 (SR.hide S2 hfr) (qAc ((RE.ext e2).wext (WE.hide hfr))) AK qm T (T.keep _ _ _ t2 fun a ha o e=>k4 a o (k3 a o e))
     (fun a ha=>⟨(f3 a ha).1,(J0.ok.exf a ha).1,J0.ok.exfs a ha,.inl ha,(J0.ok.exf a ha).2,fun p hp=>(f3 a ha).2.2.2.2.2 p (by simpa[cCx] using hp)⟩) (jk i2 hfr) ev (by simpa using hl)
     (fun s' σ' H' b' lV I' e' S' R' hD' r'=>by
      obtain⟨m,hn,_⟩:=I'.loc;have hn:s'.heap.Ns s3'.heap.objs.size m:=hn;have fin:L2.Inv X pins σ H' s':=qAS I3 f3 I' ⟨rfl,fun _ _=>rfl⟩;have hC:H' s3'.heap.objs.size=none:=I'.free;have fpC:Z0 X pins H' s3'.heap.objs.size:=I3.fpOk (AG _) hC;obtain⟨oC,esC,epC,hoC,hdC,hkC⟩:=id hn;have finp:=fin.pinned (fp:=[s3'.heap.objs.size]) (fun b hb=>by rw[Al.mp hb];exact fpC) (fun b hb=>by rw[Al.mp hb];exact⟨oC,hoC,fun v z=>by rw[hdC]at z;cases z⟩);have hz':b'.z=D::b2.z:=e'.same;show wpAny (model X.prog X.w) X.A (assign (.Name x p') X.env (.ref D)) _ _ s';refine wpAny_assign_Name ?_;refine Z7 finp hN hi' hx (v:=.ref D) rfl (fun s'' I''=>?_) hf;have hpin:s''.heap.get? s3'.heap.objs.size=some oC:=by
       have hm:(s3'.heap.objs.size,oC)∈X.pn++(pins++Zk [s3'.heap.objs.size] s'.heap):=by unfold Zk;simp[hoC]
       exact (I''.pin _ hm).1
      refine⟨m,⟨oC,esC,epC,hpin,hdC,hkC⟩,fun h'' sb=>⟨.ref D,H',(I''.unpinned).turned (t':=s''.toks) (fun b o hb e=>sb.extBut b o hb e) fpC.1 fpC.2.1 fpC.2.2.2.1 fpC.2.2.2.2.1 (fun p hp=>fpC.2.2.2.2.2 p hp),?_⟩⟩;have ex:Ext H2 b2 H' ⟨b'.b,b2.z⟩:=by
       refine⟨⟨?_,⟨[],rfl,by simp⟩,fun a o ha ho=>?_,fun a o ha=>?_⟩,rfl,fun a o hz ha=>?_,fun a o u ha=>e'.fz a o u (qU ha hfr) (by rw[qT (qU ha hfr)];exact ha)⟩
       ·obtain⟨n,hb,hh⟩:=e'.more;exact⟨n,hb,fun a ha=>by
         have:=hh a ha
         by_cases q:a=D;rw[q];exact hfr;rwa[qT q]at this⟩
       ·have hne:a≠D:=qU ha hfr;exact e'.keep a o (by rw[qT hne];exact ha) ⟨ho.1,fun z=>(AH.mp z).elim hne ho.2⟩
       ·have hne:a≠D:=qU ha hfr;exact e'.dom a o (by rw[qT hne];exact ha)
       ·have hne:a≠D:=qU ha hfr;exact e'.hid a o (AI _ hz) hne (by rw[qT hne];exact ha)
      have hb':(⟨b'.b,D::b2.z⟩:Bz)=b':=by rw[←hz']
      refine P D lV H' ⟨b'.b,b2.z⟩ (e2.trans ex) (e2.none_of hfr) (by simpa using hD') hDz ?_ ?_;show SR X.K H' ⟨b'.b,D::b2.z⟩ st';rw[hb'];exact S';show RVs X.K H' ⟨b'.b,D::b2.z⟩ l lV;rw[hb'];exact r')
    exact zY rfl rfl loop (T.self X.A 0 _ _ _ (T.keep _ _ _ t2 fun a ha o e=>k4 a o (k3 a o e)) loop)
   ·rw[AF hl]at P;exact P.elim
end EV
namespace EV
open PySem PySem.Spec PyProof.Rows L2
section
variable{X:Cx}{E:XK}{x:Str}{p' pos2:Pos}{elt:Expr}{c:Comprehension}{cs:List Comprehension}{scope:Scope}{pos:Pos}{capN locN:List Str}{caps:List Nat}{fi:FI}{g:FG}{ts:List FT}{gs:List GenF}{f:FE}
theorem qCX(i:Nat)(hN:X.N.Nodup)(hcs:CSc X scope capN locN caps)
  (hi:VI X E c.target c.iter fi) (sub:∀s H fp pn,VE (cCx X scope (capN++locN) s H fp pn) E0 elt f∧GOk (cCx X scope (capN++locN) s H fp pn) c ⟨fi,g,ts⟩∧GsOk (cCx X scope (capN++locN) s H fp pn) cs gs)
  (hi':X.N[i]? = some x:=by rfl) (hx:Loc X.env.scope x:=by first|exact Or.inl rfl|exact Or.inr rfl) (hf:X.fn x=true∨X.env.scope.names.lookup x=some .local:=by first|exact .inl rfl|exact .inr rfl|assumption)
  (hsw:swapsWith (.ListComp elt (c::cs) scope pos) (some (.Name x p')) pos2.line X.env=pure true:=by rfl) (hs:∀x,foldedSetIterable c.iter X.env x=pure x:=by intro _;rfl) :
  VS X E (.Assign [.Name x p'] (.ListComp elt (c::cs) scope pos) pos2) (qb i (vFz (QD caps locN.length fi g ts gs f))) :=
 PS.imp (qHP i hN hi' hx hf hsw hcs hi sub hs) fun D s H ⟨b,r,st,S,R,P⟩=>⟨b,r,st,S,R,PostN.of (PostE.bindS P fun p s1 u H1 b1 e1 S1 r1 P1=>P1 _ H1 b1 (Ext.refl _ _) S1 ((R.ext e1).set r1 i))⟩
end
end EV
end
section
namespace EX
open PySem PySem.Spec PyProof.Rows L2
end EX
namespace EV
open PySem PySem.Spec PyProof.Rows L2 EX
end EV
end
section
namespace EV
open PySem PySem.Spec PyProof.Rows L2 EX
section
variable{X:Cx}{E:XK}
def qI3(sc:Scope)(x:Str):Bool:=match sc.names.lookup x with|some .local=>true|some .cell=>true|some .free=>true|_=>false
theorem qI9{sc:Scope}{x:Str}(h:qI3 sc x=true):Vis sc x:=by
 unfold qI3 at h;unfold Vis;split at h;rename_i e;exact .inl e;rename_i e;exact .inr (.inl e);rename_i e;exact .inr (.inr e);cases h
theorem qG(i:Nat){x:Str}{pos:Pos}(hN:X.N[i]? = some x:=by rfl)(hv:qI3 X.env.scope x=true:=by rfl)(hd:((x==("__debug__":Str))||(x==("__classdict__":Str)))=false:=by rfl):VE X E (.Name x pos) (qB i):=by rw[Bool.or_eq_false_iff]at hd;exact qLA (pv i hN (qI9 hv) hd.1 hd.2)
def frB(X:Cx):List (Str×NameKind)->Bool|[]=>true|(x,.free)::l=>(match X.env.kindOf x with|some .cell=>true|some .free=>true|_=>false)&&frB X l|_::l=>frB X l
theorem qES:∀{l:List (Str×NameKind)},frB X l=true->∀x∈l,x.2= .free->(X.env.kindOf x.1=some .cell∨X.env.kindOf x.1=some .free)
 |[],_,x,hx,_=>by cases hx
 |(y,k)::l,h,x,hx,hk=>by
  rcases AH.mp hx with rfl|hx
  ·have hk:k= .free:=hk;subst hk;unfold frB at h;rw[AX]at h;have h:=h.1;split at h;rename_i e;exact .inl e;rename_i e;exact .inr e;cases h
  ·refine qES (l:=l) ?_ x hx hk;unfold frB at h;split at h;rename_i he;cases he;rename_i he;cases he;rw[AX]at h;exact h.2;rename_i he;cases he;exact h
def qG4(X:Cx)(l:List (Str×NameKind)):List Str->List Nat->Prop|x::xs,j::js=>(X.N[j]? = some x∧l.lookup x=some .free)∧qG4 X l xs js|_,_=>True
theorem YK{x:Str}{k:NameKind}:∀{l:List (Str×NameKind)},l.lookup x=some k->(x,k)∈l
 |[],h=>by cases h
 |(y,q)::l,h=>by
  rw[Ap]at h;split at h;rename_i e;cases h;rw[eq_of_beq e];exact AK;exact AI _ (YK h)
theorem qCK{l:List (Str×NameKind)}:∀{xs:List Str} {js:List Nat},qG4 X l xs js->∀(i:Nat) (x:Str) (j:Nat),xs[i]? = some x->js[i]? = some j->X.N[j]? = some x∧(x,NameKind.free)∈l
 |[],_,_,i,x,j,h1,_=>by cases h1
 |_::_,[],_,i,x,j,_,h2=>by cases h2
 |a::xs,b::js,h,i,x,j,h1,h2=>by
  unfold qG4 at h;cases i with|zero=>cases h1;cases h2;exact⟨h.1.1,YK h.1.2⟩|succ i=>exact qCK h.2 i x j h1 h2
theorem wj{scope:Scope}{capN locN:List Str}{caps:List Nat}(h1:scope.kind= .function)(h2:(scope.names.map (·.1)).Nodup)(h3:frB X scope.names=true)(h4:capN.length=caps.length)(h5:qG4 X scope.names capN caps):CSc X scope capN locN caps :=
 ⟨h1,h2,qES h3,h4,qCK h5⟩
end
end EV
end
section
namespace EX
open PySem PySem.Spec PyProof.Rows L2
def qJJ(lo c:Int)(n:Nat):It:=⟨fun i _=>i<n,fun i H x H'=>H'=H∧x= .int (lo+i*c),fun i _=>n≤i⟩
theorem qAe{P:Program}{w:World}{K:W.Frag}{A:Around}{tg:Expr}(it:Addr)(lo c:Int)(n:Nat):Turn P w K A tg (qJJ lo c n) [it] it (fun i h=>IsRangeIter h it (lo+(i:Nat)*c) ((n:Int)-(i:Nat)) c) where
 mem:=by simp
 obj:=fun i h st b hb=>by
  have e:b=it:=by simpa using hb
  subst e;exact⟨_,st,fun v z=>by cases (show Data.fields _=Data.cell v from z)⟩
 keep:=fun i h h' st k=>k it (by simp) _ st
 item:=by
  intro X hP hw hK _ i pins s σ H E I hf st hg;subst hP hw hK;obtain⟨f0,f1,f2,f3,f4,f5⟩:=hf it (by simp);refine wpAny_pyNext_range_item st (by have:i<n:=hg;omega) fun h' st' sb=>?_;have I1:Inv X pins σ H { s with heap:=h',toks:=s.toks+1 }:=I.turned (fun b o hb e=>(sb.2 b hb).trans e) f0 f1 f3 f4 f5;have st2:IsRangeIter h' it (lo+((i+1:Nat):Int)*c) ((n:Int)-((i+1:Nat):Int)) c:=by
   have q1:lo+(i:Int)*c+c=lo+((i+1:Nat):Int)*c:=by rw[show ((i+1:Nat):Int)=(i:Int)+1 by omega,Int.add_mul,Int.one_mul,Int.add_assoc]
   have q2:(n:Int)-(i:Int)-1=(n:Int)-((i+1:Nat):Int):=by omega
   rw[←q1,←q2];exact st'
  exact⟨_,rfl,qCB (s:={ s with heap:=h',toks:=s.toks+1 }) (n := "range_iterator") st2 rfl rfl (by decide) ⟨.int (lo+i*c),H,I1,⟨s.toks,rfl⟩,⟨rfl,rfl⟩,st2,fun b hb=>(hf b hb).1⟩⟩
 done:=by
  intro X hP hw hK _ i pins s σ H E I hf st hg;subst hP hw hK;obtain⟨f0,f1,f2,f3,f4,f5⟩:=hf it (by simp);exact EX.range_end I.hndH st (by have:n≤i:=hg;omega) fun h' eb=>⟨rfl,I.turned (t':=s.toks) (fun b o hb e=>eb b o e) f0 f1 f3 f4 f5⟩
 self:=fun _ _ _ _ _ st h=>wpAny_pyIter_rangeiter st h
def Wg(lo hi c:Int):Nat:=(Builtin.Range.rangeSize lo hi c).toNat
theorem qCA{lo hi c:Int}(h:0<c):0≤Builtin.Range.rangeSize lo hi c:=by
 unfold Builtin.Range.rangeSize;rw[AE h];split
 ·have:=Int.ediv_nonneg (show 0≤hi-lo-1 by omega) (Int.le_of_lt h);omega
 ·exact Int.le_refl _
theorem qHO{lo hi c:Int}(h:0<c):Builtin.Range.rangeSize lo hi c≤max 0 (hi-lo):=by
 unfold Builtin.Range.rangeSize;rw[AE h];split
 ·have:=Int.ediv_le_self (a:=hi-lo-1) c (by omega);omega
 ·omega
section
variable{X:Cx}{tg:Expr}
def qK1(ta:TA):TI:=fun σ H R=>ta σ H fun vs H1=>∃i j c:Int,vs=[.int i,.int j,.int c]∧(-(2 ^ 40)≤i∧i<2 ^ 40∧ -(2 ^ 40)≤j∧j<2 ^ 40∧0<c∧c<1000000)∧R (qJJ i c (Wg i j c)) H1
theorem qCz{a b c:Expr}{ta:TA}{p pos:Pos}(hg:Gl X "range")(hm:X.mg "range" = none)(ha:PA X [a,b,c] ta)(hs:starEach [a,b,c] X.env=(false,eval a X.env)::starEach [b,c] X.env:=by rfl)(hpl:(backTo pos (starEach [b,c] X.env)).any (·.1)=false:=by rfl) :
  PI X tg (.Call (.Name "range" p) [a,b,c] [] pos) (qK1 ta):=by
 intro pins s σ H R I h;refine BO (zZ I hg hm boot_range (BS (thn (ha pos pins s σ H _ I h) fun us s1 ⟨vs,H1,I1,r1,q1⟩=>?_) hs hpl));obtain⟨lo,hi,st,e,⟨q1,q2,q3,q4,q5,q6⟩,q⟩:=q1;subst e;cases r1 with
 |cons r rr =>
  cases rr with
  |cons r' rr =>
   cases rr with
   |cons r'' rr =>
    cases rr;obtain⟨t,rfl⟩:=r;obtain⟨t',rfl⟩:=r';obtain⟨t'',rfl⟩:=r'';refine call_range_3 (by omega) ?_ (Or.inl (PyProof.noPylong_small (by omega)));refine wpAny_pyIter_range (IsRange.new ..) ?_ ?_;have h1:=qCA (lo:=lo) (hi:=hi) q5;have h2:=qHO (lo:=lo) (hi:=hi) q5;unfold Builtin.Range.small;simp only[Builtin.Range.rangeFitsLong,AX,Bool.or_eq_true,BR,BC,show st>0 from q5,B9];omega;have I2:L2.Inv X pins σ H1 { s1 with heap:=s1.heap.push { cls:=.type "range",data:=.fields #[.int lo t,.int hi t',.int st t''] } }:=I1.kept (t':=s1.toks) fun b o e=>AD _ e;refine⟨(s1.heap.push { cls:=.type "range",data:=.fields #[.int lo t,.int hi t',.int st t''] }).objs.size,[(s1.heap.push { cls:=.type "range",data:=.fields #[.int lo t,.int hi t',.int st t''] }).objs.size],_,_,H1,rfl,
     I2.kept (t':=s1.toks) fun b o e=>AD _ e,qAe _ lo st (Wg lo hi st),?_,fun b hb=>?_,q⟩
    ·have e1:lo+((0:Nat):Int)*st=lo:=by simp
     have e2:((Wg lo hi st:Nat):Int)-((0:Nat):Int)=Builtin.Range.rangeSize lo hi st:=by
      have:=qCA (lo:=lo) (hi:=hi) q5
      unfold Wg;omega
     show IsRangeIter _ _ (lo+((0:Nat):Int)*st) (((Wg lo hi st:Nat):Int)-((0:Nat):Int)) st;rw[e1,e2];exact AW _ rfl
    ·have e:b=(s1.heap.push { cls:=.type "range",data:=.fields #[.int lo t,.int hi t',.int st t''] }).objs.size:=by simpa using hb
     subst e;exact I2.fpOk (AG _) (I2.hok.fresh (AG _))
end
end EX
namespace EV
open PySem PySem.Spec PyProof.Rows L2 EX
section
variable{X:Cx}{E:XK}{e a c d:Expr}{pos:Pos}
def qAm(lo hi st:Int):List PV:=(List.range (Wg lo hi st)).map fun (i:Nat)=>PV.int (lo+(i:Int)*st)
def qFT(l:List PV)(st:qC):Rs ItP:=match l with|[.int i,.int j,.int k]=>if -(2 ^ 40)≤i∧i<2 ^ 40∧ -(2 ^ 40)≤j∧j<2 ^ 40∧0<k∧k<1000000 then .ok ⟨qAm i j k,fun _=>True⟩ st else .no|_=>.no
theorem qDE{K:W.Frag}{H0:Hp}{b0:Bz}{lo hi st:Int}:yQ K H0 b0 (qJJ lo st (Wg lo hi st)) ⟨qAm lo hi st,fun _=>True⟩:=by
 intro H1 b1 st1 e _ S g;have hl:(qAm lo hi st).length=Wg lo hi st:=by simp[qAm]
 refine⟨fun i p hp=>?_,fun i hi'=>by rw[show (ItP.mk (qAm lo hi st) fun _=>True).l.length=Wg lo hi st from hl]at hi';exact hi'⟩;have hi':i<Wg lo hi st:=by
  have:=(AQ.mp hp).1
  rw[←hl];exact this
 unfold qAm at hp;dsimp only at hp;rw[A3,List.getElem?_range hi']at hp;cases hp;exact⟨hi',fun x H2 ⟨e1,e2⟩=>by subst e1;subst e2;exact⟨Same.refl _,S,QS⟩⟩
def qCP(t:FA):FI:=fun r st=>(t r st).bind qFT
theorem RVs.three{K:W.Frag}{H:Hp}{b:Bz}{p q z:PV}{vs:List V}(h:RVs K H b [p,q,z] vs):∃v w y,vs=[v,w,y]∧RV K H b p v∧RV K H b q w∧RV K H b z y:=by unfold RVs at h;obtain⟨x,r,rfl,h2,h3⟩:=h;obtain⟨y,w,rfl,h4,h5⟩:=RVs.two h3;exact⟨x,y,w,rfl,h2,h4,h5⟩
theorem qEA{tg:Expr}{t:FA}{p:Pos}(hg:Gl X "range")(hm:X.mg "range" = none)(ha:VA X E [a,c,d] t)(hs:starEach [a,c,d] X.env=(false,eval a X.env)::starEach [c,d] X.env:=by rfl)(hpl:(backTo pos (starEach [c,d] X.env)).any (·.1)=false:=by rfl):VI X E tg (.Call (.Name "range" p) [a,c,d] [] pos) (qCP t):=fun pins s σ H R I q=>qCz hg hm ha hs hpl pins s σ H R I (by
 obtain⟨b,r,st,S,RE,P⟩:=q;refine⟨b,r,st,S,RE,PostA.bindI P fun l s1 us H1 b1 e1 S1 r1 P1=>?_⟩;unfold qFT at P1;split at P1
 ·obtain⟨u,v,w,rfl,h1,h2,h3⟩:=RVs.three r1;unfold RV at h1 h2 h3;subst h1;subst h2;subst h3;split at P1;rename_i i j k hj;exact⟨i,j,k,rfl,hj,P1 _ H1 b1 (Ext.refl _ _) S1 qDE⟩;exact P1.elim
 ·exact P1.elim)
end
end EV
end
section
namespace EX
open PySem PySem.Spec PyProof.Rows L2
def ExO(a C:Addr)(d:Option Addr):HO:=.ext fun h=>∃vs,h.get? a=some ⟨.ref C,d,.fields vs,#[]⟩∧vs.size=6∧vs[1]? = some Value.none∧vs[2]? = some Value.none∧∃t0,vs[0]? = some (Value.ref t0)
def DxO(d:Addr)(fs:List (Str×V)):HO:=.ext fun h=>∃mA,h.Ns1 d mA∧(∀f,RelO (fs.lookup f) (mA f))∧PySem.Within mA (fs.map (·.1))
section
variable{P:Program}{w:World}{H:Hp}{h:Heap}{a C d:Addr}{fs:List (Str×V)}
theorem qBj{dd:Option Addr}{vs:Array Value}(e:h.get? a=some ⟨.ref C,dd,.fields vs,#[]⟩)(z:vs.size=6)(e1:vs[1]? = some Value.none)(e2:vs[2]? = some Value.none)(e0:∃t0,vs[0]? = some (Value.ref t0)):ObjOk P w H h a (ExO a C dd) :=
 ⟨⟨vs,e,z,e1,e2,e0⟩,⟨_,e⟩,fun h1 h2 ⟨vs,q,r⟩ k=>⟨vs,k _ q,r⟩⟩
theorem qBi{mA:Str->Option Value}(n:h.Ns1 d mA)(r:∀f,RelO (fs.lookup f) (mA f))(wi:PySem.Within mA (fs.map (·.1))):ObjOk P w H h d (DxO d fs) :=
 ⟨⟨mA,n,r,wi⟩,(let ⟨o,_,_,e,_⟩:=n;⟨o,e⟩),fun h1 h2 ⟨mA,n,r⟩ k=>⟨mA,n.at k,r⟩⟩
end
def qF1:List Value->Bool| .ref _::r=>qF1 r|l=>l==bmV
theorem ze(self:Value):∀{l:List Value},qF1 l=true->refuseLoop self "__setattr__" l=pure ()
 | .ref c::r,e=>by rw[refuseLoop_ref];exact ze self (l:=r) e
 |[],e=>by cases e
 | .none::r,e=>by rw[show (Value.none::r)=bmV from BC.mp e];exact PySem.F.store_ValueError.passes self
 | .bool b::r,e=>by rw[show (Value.bool b::r)=bmV from BC.mp e];exact PySem.F.store_ValueError.passes self
 | .type b::r,e=>by rw[show (Value.type b::r)=bmV from BC.mp e];exact PySem.F.store_ValueError.passes self
 |v::r,e=>by
  cases v <;> first
   |(rw[refuseLoop_ref];exact ze self (l:=r) e)
   |(rw[show (_::r)=bmV from BC.mp e];exact PySem.F.store_ValueError.passes self)
structure ExC (K:W.Frag) (C:Addr):Prop where
 sa:W.findIn K (.ref C) "__setattr__" = some (some (.builtin "object.__setattr__"))
 ov:∃cd,W.clsIn K C=some cd∧cd.hasDict=true∧qF1 cd.mro=true
 mo:W.mroIn K C (.type "object")=some true
section
open Builtin Builtin.ObjectAttr
variable{prog:Program}{w:World}{A:Around}{s:Shared}{K:W.Frag}{x C:Addr}{ox:Obj}{od:Option Obj}{name:Str}{tk:Tok}{v:Value}{R:Result->Shared->Prop}
theorem qCr(X:K.In s.heap)(I:W.InstAt s.heap x ox C od)(c:ExC K C)(ht:W.findIn K (.ref C) name=some none)
  (h:∀b,wpAny (model prog w) A.in1 (storeInOwnDict (.ref x) (.ref C) (.str name tk) name v b)
   (fun fin s'=>match fin with | .done f=>R (.ok f) s' | .again c'=>c'.quiet=true∧codeAny (model prog w) A c' R s') (fun e s'=>R (.error e) s') s) :
  codeAny (model prog w) A (.call (.builtin "object.__setattr__") ⟨[.ref x,.str name tk,v],[]⟩) R s:=by have SF:=PySem.F.store_object;obtain⟨cd,hc,_,ho⟩:=c.ov;have sub:W.Looks (model prog w) s.heap (isInstance (.ref x) (.type "object")) true:=I.type.andThen (B2 X c.mo);refine BQ SF.slot.plain SF.entry (@W.check_slot (model prog w) _ _ s "object.__setattr__" "object" "__setattr__" (.ref x) [.str name tk,v] [] _ SF.kind SF.split sub (SF.args (.ref x) (.str name tk) v) ?_);have hm:W.Looks (model prog w) s.heap (mroOf (.ref C)) cd.mro:=(W.looks_clsIn X hc).andThen .now;have L3:W.Looks (model prog w) s.heap (storeTaker? none) none:=.now;rw[W.osa_eq,refuse_eq];refine AA (AA (I.type.here (AA (hm.here ?_))));rw[ze _ ho];refine AB (AA (I.type.here (AA ((Bw X ht).here (AA (L3.here ?_))))));exact h _
end
section
open Builtin Builtin.ObjectAttr
variable{X:Cx}{pins:List (Addr×Obj)}{σ:L2.St}{H:Hp}{s:Shared}{a C d:Addr}{fs:List (Str×V)}{f:Str}{y:V}{u:Value}{A:Around}{E:Value->Shared->Prop}{Q:Unit->Shared->Prop}
theorem Yd{P:Program}{w:World}{h:Heap}{dd:Option Addr}(hok:HOk P w H h)(e:H a=some (ExO a C dd)):∃vs,h.get? a=some ⟨.ref C,dd,.fields vs,#[]⟩∧vs.size=6∧vs[1]? = some Value.none∧vs[2]? = some Value.none∧∃t0,vs[0]? = some (Value.ref t0):=(show ObjOk P w H h a (ExO a C dd) from hok a _ e).1
theorem qFM{P:Program}{w:World}{h:Heap}(hok:HOk P w H h)(e:H d=some (DxO d fs)):∃mA,h.Ns1 d mA∧(∀f,RelO (fs.lookup f) (mA f))∧PySem.Within mA (fs.map (·.1)):=(show ObjOk P w H h d (DxO d fs) from hok d _ e).1
theorem qFu(I:L2.Inv X pins σ H s)(e:H a=some (ExO a C none))(c:ExC X.K C)(n:Zq X.K C f)(ry:RelV y u)
  (h:∀d s',H d=none->d≠a->L2.Inv X pins σ (upd (upd (upd H d (DxO d [])) a (ExO a C (some d))) d (DxO d [(f,y)])) s'->Q () s'):wpAny (model X.prog X.w) A (setAttr (.ref a) f u) Q E s:=by
 obtain⟨vs,ha,z,v1,v2,v0⟩:=Yd I.hok e;have J:W.InstAt s.heap a ⟨.ref C,none,.fields vs,#[]⟩ C none:=⟨ha,rfl,rfl,True.intro⟩;refine W.set_plain I.kIn J c.sa (qCr (s:={ s with toks:=s.toks+1 }) I.kIn J c n fun b=>?_);obtain⟨cd,hc,hd',_⟩:=c.ov;refine AA (AB (AA (AA (wpAny_loadPart ha (AA (W.Looks.here (s:={ s with toks:=s.toks+1 }) (W.looks_clsIn I.kIn hc) ?_))))));rw[hd'];have nx:a≠s.heap.objs.size:=Ab (AU ha);refine AA (wpAny_alloc (o:={ cls:=.type "dict",data:=.dict #[] }) ?_);have a1:(s.heap.push { cls:=.type "dict",data:=.dict #[] }).get? a=some ⟨.ref C,none,.fields vs,#[]⟩:=AD _ ha;have d1:(s.heap.push { cls:=.type "dict",data:=.dict #[] }).get? s.heap.objs.size=some { cls:=.type "dict",data:=.dict #[] }:=AW s.heap rfl;refine AA (wpAny_update a1 ?_);refine AB ?_;have n0:(s.heap.push { cls:=.type "dict",data:=.dict #[] }).Ns1 s.heap.objs.size (fun _=>none):=Heap.Ns1.of_empty ⟨_,#[],_,d1,rfl,(fun e he=>absurd he (by simp)),fun _=>rfl⟩;have I1:=I.laid (a:=s.heap.objs.size) (o:=DxO s.heap.objs.size []) (h':=s.heap.push { cls:=.type "dict",data:=.dict #[] }) (t':=s.toks+1) (fun b u q=>AD _ q) (AG _) (qBi n0 (fun _=>True.intro) fun y hy=>absurd rfl hy);have f1:H s.heap.objs.size=none:=I.hok.fresh (AG _);have e1:upd H s.heap.objs.size (DxO s.heap.objs.size []) a=some (ExO a C none):=by rw[qT nx];exact e
 have a2:=BD (fun o:Obj=>{ o with dict:=some s.heap.objs.size }) a1 (by rfl);have I2:=I1.write (x:=a) (e:=a) (o:=ExO a C (some s.heap.objs.size)) (h':=(s.heap.push { cls:=.type "dict",data:=.dict #[] }).update a fun o=>{ o with dict:=some s.heap.objs.size }) (t':=s.toks+1) (by rw[e1];exact True.intro) (.inl rfl)
  (fun b q hb z=>(Ao _ _ (Ne.symm hb)).trans z) ⟨_,a2⟩ (qBj a2 z v1 v2 v0)
 have n1:((s.heap.push { cls:=.type "dict",data:=.dict #[] }).update a fun o=>{ o with dict:=some s.heap.objs.size }).Ns1 s.heap.objs.size (fun _=>none):=n0.at fun o q=>(Ao _ _ nx).trans q;show wpAny _ _ (storeInDict s.heap.objs.size (.str f _) f u) _ _ _;unfold storeInDict newKeyGuard;refine AA (AB (AA (wpAny_nsSet1 n1 fun h' hn' hs=>?_)));obtain⟨oD,esD,epD,hoD,hdD,hcD⟩:=hn'.count (Within.cons f u Within.nil);refine AA (wpAny_lookBehind hoD (by rw[hdD];exact pastItsLine_dict (Ag hcD (by rw[AJ,Bs,Bf];omega))) ?_);refine AB (h s.heap.objs.size _ f1 (Ne.symm nx) ?_);refine I2.write (x:=s.heap.objs.size) (e:=s.heap.objs.size) (by rw[qT (Ne.symm nx),qm];exact True.intro) (.inl rfl) (fun b q hb z=>(hs.2 b hb).trans z) ⟨_,hoD⟩ (qBi hn' (fun g=>?_) fun g hg=>?_)
 ·show RelO (List.lookup g [(f,y)]) (if g=f then some u else none);rw[Ap];by_cases q:g=f;rw[AE q,q,Aj];exact ry;rw[AF q,show (g==f)=false from AC.mpr q];exact True.intro
 ·by_cases q:g=f;rw[q];exact AK;exact absurd (show (if g=f then some u else none)=none by rw[AF q]) hg
theorem qF2(I:L2.Inv X pins σ H s)(e:H a=some (ExO a C (some d)))(e2:H d=some (DxO d fs))(hda:d≠a)(hz:fs.length<1000)(c:ExC X.K C)(n:Zq X.K C f)(ry:RelV y u)
  (h:∀s',L2.Inv X pins σ (upd H d (DxO d (fs++[(f,y)]))) s'->Q () s') (hf:f∉fs.map (·.1)):wpAny (model X.prog X.w) A (setAttr (.ref a) f u) Q E s:=by
 obtain⟨vs,ha,z,v1,v2,v0⟩:=Yd I.hok e;obtain⟨mA,n1,r,wi⟩:=qFM I.hok e2;obtain⟨od,es,ep,hd1,hd2⟩:=id n1;have J:W.InstAt s.heap a ⟨.ref C,some d,.fields vs,#[]⟩ C (some od):=⟨ha,rfl,rfl,hd1⟩;refine W.set_plain I.kIn J c.sa (qCr (s:={ s with toks:=s.toks+1 }) I.kIn J c n fun b=>?_);obtain⟨cd,hc,hd',_⟩:=c.ov;refine AA (AB (AA (AA (wpAny_loadPart ha (AA (W.Looks.here (s:={ s with toks:=s.toks+1 }) (W.looks_clsIn I.kIn hc) ?_))))));rw[hd'];refine AB (a:=some d) ?_;show wpAny _ _ (storeInDict d (.str f _) f u) _ _ _;unfold storeInDict newKeyGuard;refine AA (AB (AA (wpAny_nsSet1 (s:={ s with toks:=s.toks+1 }) n1 fun h' hn' hs=>?_)));obtain⟨oD,esD,epD,hoD,hdD,hcD⟩:=hn'.count (Within.cons f u wi);refine AA (wpAny_lookBehind hoD (by rw[hdD];exact pastItsLine_dict (Ag hcD (by rw[AJ,AN,Bf];omega))) ?_);refine AB (h _ ?_);refine I.write (x:=d) (e:=d) (by rw[e2];exact True.intro) (.inl rfl) (fun b q hb z=>(hs.2 b hb).trans z) ⟨_,hoD⟩ (qBi hn' (fun g=>?_) fun g hg=>?_)
 ·show RelO (List.lookup g (fs++[(f,y)])) (if g=f then some u else mA g);rw[List.lookup_append];by_cases q:g=f
  ·have:fs.lookup f=none:=by rw[List.lookup_eq_none_iff];intro p hp;exact bne_iff_ne.mpr fun z=>hf (by rw[z];exact List.mem_map_of_mem hp)
   rw[AE q,q,this];show RelO (List.lookup f [(f,y)]) _;rw[Ap,Aj];exact ry
  ·rw[AF q,Ap,show (g==f)=false from AC.mpr q];show RelO ((fs.lookup g).or none) _;rw[Option.or_none];exact r g
 ·rw[BT];by_cases q:g=f;rw[q];exact Aw _ AK;exact CC _ (wi g fun z=>hg (by show (if g=f then some u else mA g)=none;rw[AF q];exact z))
end
structure MkX (K:W.Frag) (C f:Addr):Prop where
 at_:∃dd cd sl k0 k1 k2 k3 k5 bm,K.lookup C=some ⟨.type "type",dd,.cls cd,sl⟩∧cd.mro= .ref C::bm∧sl.toList=[k0,k1,k2,k3,some (.builtin "ValueError.__new__"),k5]∧cd.hasDel=false∧W.tailIn K bmV bm=true ∧
  W.nsOkIn K cd.ns=true∧W.nsIn K cd.ns "__init__" = some (some (.ref f))
 fn:W.isFn K (.ref f)=true
 kp:W.keepIn K (.ref C)=true
 x:ExC K C
theorem qBG{K:W.Frag}{h:Heap}{N:Addr}{mN:Str->Option Value}{n:Str}{v:Value}(X:K.In h)(G:h.Ns N mN)(e:W.nsIn K N n=some (some v)):mN n=some v:=by
 obtain⟨ob,es,ep,hob,hdt,_,hfind⟩:=G;unfold W.nsIn at e;split at e
 ·rename_i c d es2 n2 sl q;have z:=X _ _ q;rw[hob]at z;cases z;cases hdt;split at e;rename_i en hen;cases e;rw[←hfind];unfold nsFind findBy;rw[←Array.find?_toList,hen];rfl;split at e <;> cases e
 ·cases e
theorem JB{K:W.Frag}{h:Heap}{C f:Addr}(X:K.In h)(M:MkX K C f) :
  ∃bm N nm qn bs hd sn sb ab co dd k0 k1 k2 k3 k5 mN,h.get? C=some (excClassObj nm qn C N bs bm hd sn sb ab co dd k0 k1 k2 k3 k5 "ValueError.__new__")∧h.Ns N mN∧mN "__init__" = some (.ref f)∧OwnTail h bmV bm:=by obtain⟨dd,cd,sl,k0,k1,k2,k3,k5,bm,ho,hm,hs,hdel,ht,hn,hi⟩:=M.at_;obtain⟨nm,bs,mro,ns,qn,hd,sn,sb,ab,co,del⟩:=cd;obtain⟨sl⟩:=sl;have hm:mro=_:=hm;have hs:sl=_:=hs;have hdel:del=false:=hdel;subst hm;subst hs;subst hdel;exact⟨bm,ns,nm,qn,bs,hd,sn,sb,ab,co,dd,k0,k1,k2,k3,k5,_,X _ _ ho,.of_isNs (W.isNs_of_in X hn),qBG X (.of_isNs (W.isNs_of_in X hn)) hi,W.tail_of_in X ht⟩
section
variable{prog:Program}{w:World}{A:Around}{E:Value->Shared->Prop}{h:Heap}{g:Array GenState}{d:Drawn}{t:Nat}{os:OsState}
variable{nm q:Str}{C N:Addr}{bs bm:List Value}{hdct:Bool}{sn:List Str}{sub:List Value}{ab:Bool}{col:Option Bool}{dd:Option Addr}{k0 k1 k2 k3 k5:Option Value}
theorem qDl{e t0:Addr}{od:Option Addr}{vs:Array Value}{rest:List Value}{Q:Value->Shared->Prop}(T:OwnTail h bmV bm)(hC:h.get? C=some (excClassObj nm q C N bs bm hdct sn sub ab col dd k0 k1 k2 k3 k5 "ValueError.__new__"))
  (he:h.get? e=some ⟨.ref C,od,.fields vs,#[]⟩) (hz:vs.size=6) (h0:vs[0]? = some (.ref t0)) (hrest:rest.length≤sizeLine)
  (hq:∀h' vs',h'.get? e=some ⟨.ref C,od,.fields vs',#[]⟩->vs'.size=6->(∃t1,vs'[0]? = some (Value.ref t1))->vs'[1]? = vs[1]? ->vs'[2]? = vs[2]? ->(∀b o,b≠e->h.get? b=some o->h'.get? b=some o)->Q .none ⟨h',g,d,t,os⟩) :
  wpAny (model prog w) A (call (.builtin "ValueError.__init__") (.ref e::rest)) Q E ⟨h,g,d,t,os⟩:=by
 have F:=CF;refine BY (BQ F.init.plain F.initEntry (wpAny_check_init_subU F T hC he rfl ?_))
 wp_walk
 rw[h0];refine AB ?_;have e1:(h.push { cls:=.type "tuple",data:=.seq rest.toArray }).get? e=some ⟨.ref C,od,.fields vs,#[]⟩:=AD _ he;refine AA (By e1 rfl (by rw[hz];decide) ?_)
 wp_walk
 refine hq _ (vs.setIfInBounds 0 (.ref h.objs.size)) ?_ (by rw[Array.size_setIfInBounds,hz]) ⟨h.objs.size,?_⟩ (Array.getElem?_setIfInBounds_ne (by decide)) (Array.getElem?_setIfInBounds_ne (by decide)) fun b o hb q=>?_;exact BD _ e1 rfl;rw[Array.getElem?_setIfInBounds_self_of_lt (by rw[hz];decide)];exact (Ao _ _ (Ne.symm hb)).trans (AD _ q)
theorem qFr{mN:Str->Option Value}{rest:List Value}{fI:Addr}{oI:Obj}{Q:Value->Shared->Prop}(T:OwnTail h bmV bm)
  (hC:h.get? C=some (excClassObj nm q C N bs bm hdct sn sub ab col dd k0 k1 k2 k3 k5 "ValueError.__new__")) (hn:h.Ns N mN) (hi:mN "__init__" = some (.ref fI)) (hfI:h.get? fI=some oI) (hfc:oI.cls= .type "function") (hrest:rest.length≤sizeLine)
  (hq:wpAny (model prog w) (A.under (.builtin "type.__call__" ⟨.ref C::rest,[]⟩)) (call (.ref fI) (.ref (h.objs.size+1)::rest)) (fun r s'=>r= .none∧Q (.ref (h.objs.size+1)) s') E
   ⟨(h.push { cls:=.type "tuple",data:=.seq rest.toArray }).push { cls:=.ref C,data:=.fields #[.ref h.objs.size,.none,.none,.none,.bool false,.none] },g,d,t,os⟩) :
  wpAny (model prog w) A (call (.ref C) rest) Q E ⟨h,g,d,t,os⟩:=by
 have F:=CF;have f1:=tc_lookup;have f2:=tc_bind (.ref C);have hT:(⟨h,g,d,t,os⟩:Shared).TypeIs (.ref C) "type" :=⟨_,hC,rfl⟩;refine BY (codeAny_of_tree ?_);show wpAny _ _ (callAny (.ref C) _) _ _ _;repeat (any_goals (first|assumption|with_reducible refine Bj hC ?_|wp_step))
 refine⟨rfl,?_⟩;refine codeAny_call_builtin_at (B5 _ (by decide +kernel)) entry_typeCall (wpAny_check_type_call_sub hC ?_);repeat (first|with_reducible refine Bj hC ?_|with_reducible refine wpAny_madeBy_exc hC ?_|wp_step)
 refine codeAny_call_builtin_code (B5 _ F.quiet) (wpAny_check_new_subU F F.hasB T hC ?_);refine codeAny_exc_new_subU F F.hasB F T hC ?_ hrest;change wpAny _ _ _ _ _ ⟨(h.push { cls:=.type "tuple",data:=.seq rest.toArray }).push { cls:=.ref C,data:=.fields #[.ref h.objs.size,.none,.none,.none,.bool false,.none] },g,d,t,os⟩;generalize hh:(h.push { cls:=.type "tuple",data:=.seq rest.toArray }).push { cls:=.ref C,data:=.fields #[.ref h.objs.size,.none,.none,.none,.bool false,.none] }=h1 at hq ⊢;have kp:∀b o,h.get? b=some o->h1.get? b=some o:=fun b o z=>by rw[←hh];exact AD _ (AD _ z)
 have hget:h1.get? (h.objs.size+1)=some { cls:=.ref C,data:=.fields #[.ref h.objs.size,.none,.none,.none,.bool false,.none] }:=by
  rw[←hh]
  have:=AW (h.push { cls:=.type "tuple",data:=.seq rest.toArray }) (o:={ cls:=.ref C,data:=.fields #[.ref h.objs.size,.none,.none,.none,.bool false,.none] }) rfl
  rwa[Bn]at this
 have hC1:=kp _ _ hC;have hfI1:=kp _ _ hfI;have hn1:h1.Ns N mN:=let ⟨o,es,ep,e,r⟩:=hn;⟨o,es,ep,kp _ _ e,r⟩
 have T1:=T.keeps kp;have hcC:(Value.ref C::bm).contains (.ref C)=true:=by simp
 unfold isInstance;repeat (first|with_reducible refine Bj hget ?_|(with_reducible refine wpAny_isSubtype_exc hC1 ?_;rw[hcC])|wp_step)
 show wpAny _ _ (typeLookup (.ref C) _) _ _ _;refine wpAny_typeLookup_tail hC1 hn1 T1 F.mroIs F.init.lookup ?_;rw[hi];refine Ak (AA ?_);unfold bindSpecial;refine AA (BX (T := "function") ⟨_,hfI1,hfc⟩ ?_);rw[AE (by decide)];refine AB (AA (BJ hq (fun r s' hr=>?_) fun _ _ x=>x));obtain⟨rfl,hQ⟩:=hr
 wp_walk
 exact hQ
end
section
variable{X:Cx}{pins:List (Addr×Obj)}{σ:L2.St}{H:Hp}{s:Shared}{C f:Addr}
theorem qJ3{a:Addr}{o:HO}(e:H a=some o):upd H a o=H:=by
 funext b;unfold upd;by_cases z:b=a;rw[AE z,z,e];rw[AF z]
theorem qEY{pl:Sem Bool}{B:Addr}{bn:Str}{np apos pos:Pos}{e:Expr}{es:List Expr}{t:TA}(hg:Gl X bn)(hm:X.mg bn=some (.ref B))(hr:W.readsIn X.K B (.type "type")=true)
  (hf:W.findCls X.K (.ref B) (.type "type") "__init__" = some (.val (.builtin "ValueError.__init__"))) (hs:W.specialIn X.K (.ref B) "__getattribute__" = some (some (.builtin "type.__getattribute__"))) (M:MkX X.K C f) (ha:PA X (e::es) t)
  (hdb:(bn==("__debug__":Str))=false:=by decide) (he:starEach (e::es) X.env=(false,eval e X.env)::starEach es X.env:=by rfl) (hpl:(backTo pos (starEach es X.env)).any (·.1)=false:=by rfl)
  (ht:eval (.Call (.Attribute (.Name bn np) "__init__" apos) (e::es) [] pos) X.env=(do
   let ov ← eval (.Name bn np) X.env
   standAt apos.atName
   let (f,first) ← holding [ov] (getMethod ov "__init__" pl)
   callWith pos f first (backTo pos (starEach (e::es) X.env)) (backToKw pos (keywordEach [] X.env))):=by rfl) :
  PE X (.Call (.Attribute (.Name bn np) "__init__" apos) (e::es) [] pos) (fun σ H Q=>t σ H fun vs H1=>∃a x,vs=[.ref a,.str x]∧H1 a=some (ExO a C none)∧Q .non H1):=by
 intro pins s σ H Q I h;refine W.methodCall_KW (pl:=pl) (Zv I hg hm (W.method_cls I.kIn hs (W.cls_value I.kIn hr hf rfl ?_)) hdb) ht;have ha':=ha pos pins _ σ H _ (I.tok (s.toks+1)) h;show wpAny _ _ (callWith pos (.builtin "ValueError.__init__") [] (backTo pos (starEach (e::es) X.env)) []) _ _ _;rw[he]at ha' ⊢;refine Calls.callWith_builtin (by show (false||(backTo pos (starEach es X.env)).any (·.1))=false;rw[hpl];rfl) (Calls.evalArgs_plain (thn ha' fun us s1 ⟨vs,H1,I1,r1,a,x,ev,ea,q⟩=>?_));subst ev;cases r1 with|cons r1 r2=>cases r2 with|cons r2 r3=>cases r3 with|nil =>
 obtain⟨tx,rfl⟩:=r2;obtain rfl:=r1;obtain⟨bm,N,nm,qn,bs,hd,sn,sb,ab,co,dd,k0,k1,k2,k3,k5,mN,o1,o2,o3,o4⟩:=JB I1.kIn M;obtain⟨ws,g1,g2,g3,g4,t0,g5⟩:=Yd I1.hok ea;obtain⟨hh,g,d,tk,os⟩:=s1;refine qDl o4 o1 g1 g2 g5 (show 1≤sizeLine by decide) fun h' ws' q1 q2 q3 q4 q5 q6=>⟨.non,H1,?_,rfl,q⟩
 have:=I1.write (x:=a) (e:=a) (o:=ExO a C none) (h':=h') (t':=tk) (by rw[ea];exact True.intro) (.inl rfl) (fun b u hb z=>q6 b u hb z) ⟨_,q1⟩ (qBj q1 q2 (q4.trans g3) (q5.trans g4) q3)
 rwa[qJ3 ea]at this
def spI(C:Addr)(n1 n2:Str)(ok:Int->Int->Bool):Sp:=fun vs H Q _=>∃e m n,vs=[.ref e,.int m,.int n]∧H e=some (ExO e C none)∧ok m n=true ∧
 ∀d H',H d=none->d≠e->H' e=some (ExO e C (some d))->H' d=some (DxO d [(n1,.int m),(n2,.int n)])->(∀b,b≠e->b≠d->H' b=H b)->Q .non H'
theorem qGs{k:Nat}{fd:FuncData}{ps:List Str}{n1 n2:Str}{ok:Int->Int->Bool}{m n:Int}{us:List Value}{Q:Value->Shared->Prop}(M:MkX X.K C f)(F:FnOk X.prog X.w X.K X.mg X.base (CXF X.prog X.w) k f fd ps (spI C n1 n2 ok))(hr:Room (k+1) X.A)(hb:Binds X.K fd ps [])
  (I:L2.Inv X pins σ H s) (r:Vals [.int m,.int n] us) (hok:ok m n=true)
  (h:∀e d H' s',s.heap.objs.size≤e->H e=none->H d=none->d≠e->H' e=some (ExO e C (some d))->H' d=some (DxO d [(n1,.int m),(n2,.int n)])->(∀b,b≠e->b≠d->H' b=H b)->L2.Inv X pins σ H' s'->Q (.ref e) s') :
  wpAny (model X.prog X.w) X.A (call (.ref C) us) Q X.xe s:=by
 obtain⟨bm,N,nm,qn,bs,hd,sn,sb,ab,co,dd,k0,k1,k2,k3,k5,mN,o1,o2,o3,o4⟩:=JB I.kIn M;obtain⟨oI,f1,f2⟩:∃oI,s.heap.get? f=some oI∧oI.cls= .type "function" :=by have z:(List.lookup f X.K).map (fun o=>o.cls)=some (.type "function"):=BC.mp M.fn;obtain⟨oI,h1,h2⟩:=Option.map_eq_some_iff.mp z;exact⟨oI,I.kIn _ _ h1,h2⟩
 obtain⟨hh,g,d,tk,os⟩:=s;have hz:us.length≤sizeLine:=by rw[←r.length];exact (by decide:2≤sizeLine)
 refine qFr o4 o1 o2 o3 f1 f2 hz ?_;generalize hh1:(hh.push { cls:=.type "tuple",data:=.seq us.toArray }).push { cls:=.ref C,data:=.fields #[.ref hh.objs.size,.none,.none,.none,.bool false,.none] }=h1;have kp:∀b o,hh.get? b=some o->h1.get? b=some o:=fun b o z=>by rw[←hh1];exact AD _ (AD _ z)
 have e1:h1.get? (hh.objs.size+1)=some { cls:=.ref C,data:=.fields #[.ref hh.objs.size,.none,.none,.none,.bool false,.none] }:=by
  rw[←hh1]
  have:=AW (hh.push { cls:=.type "tuple",data:=.seq us.toArray }) (o:={ cls:=.ref C,data:=.fields #[.ref hh.objs.size,.none,.none,.none,.bool false,.none] }) rfl
  rwa[Bn]at this
 have fr:H (hh.objs.size+1)=none:=I.hok.fresh (CM _);have I2:=I.laid (a:=hh.objs.size+1) (o:=ExO (hh.objs.size+1) C none) (h':=h1) (t':=tk) kp (CM _) (qBj e1 rfl rfl rfl ⟨_,rfl⟩);have r2:Vals (V.ref (hh.objs.size+1)::[.int m,.int n]) (Value.ref (hh.objs.size+1)::us):=.cons rfl r;have sp:spI C n1 n2 ok (V.ref (hh.objs.size+1)::[.int m,.int n]) (upd H (hh.objs.size+1) (ExO (hh.objs.size+1) C none)) (fun v H'=>v= .non∧∃d,H d=none∧d≠hh.objs.size+1∧H' (hh.objs.size+1)=some (ExO (hh.objs.size+1) C (some d))∧H' d=some (DxO d [(n1,.int m),(n2,.int n)])∧∀b,b≠hh.objs.size+1->b≠d->H' b=H b) (fun _ _ _=>False):=by refine⟨_,m,n,rfl,qm,hok,fun d H' q1 q2 q3 q4 q5=>⟨rfl,d,by rwa[qT q2]at q1,q2,q3,q4,fun b z1 z2=>by rw[q5 b z1 z2,qT z1]⟩⟩
 have hl:(Value.ref (hh.objs.size+1)::us).length=ps.length:=by rw[←r2.length];exact F.len _ _ _ _ sp
 refine BY (codeAny_mono (F.run _ X.stack _ _ ⟨Value.ref (hh.objs.size+1)::us,[]⟩ (Value.ref (hh.objs.size+1)::us) _ _ _ (hr.make C us []) (I2.env0.make C us []) (by have:=hb ⟨h1,g,d,tk,os⟩ (Value.ref (hh.objs.size+1)::us) I2.kIn (by rw[Au];exact hl);rwa[Au]at this) r2 sp) fun rr s' hq'=>?_);cases rr with
 |error e=>obtain⟨_,_,_,_,_,_,_,_,_,_,_,_,q⟩:=hq';exact q.elim
 |ok fl =>
  cases fl with|ret u=>obtain⟨v,H',I3,rv,ev,d,q1,q2,q3,q4,q5⟩:=I2.after hq';subst ev;exact⟨rv,h _ d H' s' (CM _) fr q1 q2 q3 q4 q5 I3⟩|next=>exact False.elim hq'|brk=>exact False.elim hq'|cont=>exact False.elim hq'
end
section
variable{M:Model}{A:Around}{E:Value->Shared->Prop}{env:Env}
variable{nm q:Str}{C N:Addr}{bs bm:List Value}{hdct:Bool}{sn:List Str}{sub:List Value}{ab:Bool}{col:Option Bool}{dd:Option Addr}{k0 k1 k2 k3 k5:Option Value}{newId:String}
theorem qFZ{s:Shared}{x:Sem Value}{Q:Flow->Shared->Prop}(hbase:bm.contains (.type "BaseException")=true)(hh:A.handled=none)
  (h:wpAny M A x (fun v s₁=>∃e od vs,v= .ref e∧s₁.heap.get? C=some (excClassObj nm q C N bs bm hdct sn sub ab col dd k0 k1 k2 k3 k5 newId)∧s₁.heap.get? e=some ⟨.ref C,od,.fields vs,#[]⟩∧vs[1]? = some Value.none∧E (.ref e) s₁) E s) :
  wpAny M A (raiseStmt env (some x) none) Q E s:=by
 have hcB:(Value.ref C::bm).contains (.type "BaseException")=true:=by rw[List.contains_cons,hbase,Bool.or_true]
 unfold raiseStmt;refine AA (BJ h (fun v s₁ h₁=>?_) fun _ _ x=>x);obtain⟨e,od,vs,rfl,hC,he,h1,hE⟩:=h₁;obtain⟨hp,g,d,tk,os⟩:=s₁;repeat (first|with_reducible refine Bj he ?_|with_reducible refine Bj hC ?_|(with_reducible refine wpAny_isSubtype_exc hC ?_;rw[hcB])|wp_step)
 rw[h1];refine AB ?_;rw[AF (show ¬((Value.none != Value.none)=true) by decide)];exact AB (wpAny_raiseNew_none hh hE)
end
section
variable{P:Program}{w:World}{K:W.Frag}{mg:Str->Option Value}{base:Heap}{N:List Str}{qual:Str}{scope:Scope}{f:Addr}{cd:Value}{A:Around}{outer:List Env}{s₀:Shared}{H₀:Hp}{E:XK}
def Y4(H:Hp)(e d:Addr)(fs:List (Str×V)):Hp:=fun b=>if b=e then none else if b=d then some (.xd fs) else H b
theorem qAw{pins:List (Addr×Obj)}{σ:L2.St}{H:Hp}{s:Shared}{C e d:Addr}{fs:List (Str×V)}(I:L2.Inv (Qq (CXF P w) P w K mg base N qual scope f cd A outer s₀ H₀ E) pins σ H s)(he:H e=some (ExO e C (some d)))(hd:H d=some (DxO d fs))(hde:d≠e)
  (hn:s₀.heap.get? e=none) (q:E (.ref C) (some d) (Y4 H e d fs)):(Qq (CXF P w) P w K mg base N qual scope f cd A outer s₀ H₀ E).xe (.ref e) s:=by
 have hfr:(envOfC qual scope s₀.heap.objs.size f cd).frame=some s₀.heap.objs.size:=rfl;have ef:frs (Qq (CXF P w) P w K mg base N qual scope f cd A outer s₀ H₀ E).stack=s₀.heap.objs.size::frs outer:=Yn hfr;have Ib:Un (frs outer) [] H₀ H s₀.heap s.heap:=I.base;have ne:∀b o,s₀.heap.get? b=some o->b≠s₀.heap.objs.size:=fun b o e=>Ab (AU e);have nee:∀b o,s₀.heap.get? b=some o->b≠e:=fun b o z1 z2=>by rw[z2,hn]at z1;cases z1
 generalize hB:W.hideAll s.heap (e::frs (Qq (CXF P w) P w K mg base N qual scope f cd A outer s₀ H₀ E).stack)=B;have toB:∀b o,s.heap.get? b=some o->b≠e->b∉frs (Qq (CXF P w) P w K mg base N qual scope f cd A outer s₀ H₀ E).stack->B.get? b=some o:=fun b o z1 z2 z3=>by rw[←hB];exact W.hideAll_get _ z1 fun z=>(AH.mp z).elim z2 z3
 have ofB:∀b o,B.get? b=some o->s.heap.get? b=some o:=fun b o e=>by rw[←hB]at e;exact W.of_hideAll _ e
 have trk:∀b u,H b=some u->b∉frs (Qq (CXF P w) P w K mg base N qual scope f cd A outer s₀ H₀ E).stack:=fun b u e z=>by rw[I.stkFree b z]at e;cases e
 have fun1:s.heap.FunFrames B (Qq (CXF P w) P w K mg base N qual scope f cd A outer s₀ H₀ E).stack:=by
  have:=W.funFrames_hide (as:=e::frs (Qq (CXF P w) P w K mg base N qual scope f cd A outer s₀ H₀ E).stack) I.stack fun env he a ha=>AI _ (Bp.mpr ⟨env,he,ha⟩)
  rwa[hB]at this
 have eB:B.get? e=none:=by rw[←hB];exact W.hideAll_none _ AK
 obtain⟨vs,g1,g2,g3,g4,g5⟩:=Yd I.hok he;have noE:∀b u,H b=some u->(∀φ,u≠ .ext φ)->b≠e∧b≠d:=fun b u z n=>⟨fun y=>by rw[y,he]at z;cases z;exact n _ rfl,fun y=>by rw[y,hd]at z;cases z;exact n _ rfl⟩;have fl:∀b u,H b=some u->(∀φ,u≠ .ext φ)->Y4 H e d fs b=some u:=fun b u z n=>by unfold Y4;rw[AF (noE b u z n).1,AF (noE b u z n).2,z]
 refine Zu (s:=s) I.ok.frames fun1 hfr (fun b o z=>ofB b o z) eB g1 rfl g3 g4 fun h2 x u=>⟨e,.ref C,some d,B,Y4 H e d fs,rfl,x,?_,I.os,I.bare,?_,fun b hb o e1=>?_,q⟩
 ·intro b u e1;unfold Y4 at e1;by_cases z1:b=e;rw[AE z1]at e1;cases e1;rw[AF z1]at e1;by_cases z2:b=d;rw[AE z2]at e1;cases e1;subst z2;obtain⟨mA,n1,r,wi⟩:=qFM I.hok hd;exact⟨mA,n1.at fun o z=>toB b o z z1 (trk b _ hd),r⟩;rw[AF z2]at e1;exact (I.hok b u e1).stay (fun c v hc z=>toB c v z (hc.elim (fun y=>by rw[y];exact z1) fun y=>(noE c _ y (fun _=>nofun)).1) (hc.elim (fun z=>by rw[z];exact trk b u e1) fun z=>trk c _ z)) (fun c z=>fl c _ z (fun _=>nofun)) fun c xs z=>fl c _ z (fun _=>nofun)
 ·refine⟨fun b o z n hb=>?_,fun b o z n=>?_,fun b o z hb=>?_,fun b xs z=>fl b _ (Ib.tups b xs z) (fun _=>nofun),fun b o u z=>fl b _ (Ib.frzs b o u z) (fun _=>nofun),fun b ps z=>?_⟩;exact toB b o (Ib.keep b o z n hb (by simp)) (nee b o z) (by rw[ef];intro y;exact (AH.mp y).elim (ne b o z) hb)
  ·have y:=Ib.free b o z n (by simp);unfold Y4;rw[AF (nee b o z),AF (fun y2=>by rw[y2,hd]at y;cases y)];exact y
  ·obtain⟨o',e'⟩:=Ib.there b o z (by simp);exact⟨o',toB b o' e' (nee b o z) (by rw[ef];intro y;exact (AH.mp y).elim (ne b o z) hb)⟩
  ·obtain⟨more,y⟩:=Ib.tbls b ps z;exact⟨more,fl b _ y (fun _=>nofun)⟩
 ·obtain⟨sl1,e2⟩:=Ib.slot b o e1 (I.ok.frf b hb) hb (by simp);have nf:∀vs,o.data≠ .fields vs:=by obtain⟨_,o2,ho2,nf⟩:=I.ok.funs.mem hb;have e1:(Qq (CXF P w) P w K mg base N qual scope f cd A outer s₀ H₀ E).s₀.heap.get? b=some o:=e1;rw[e1]at ho2;cases ho2;exact nf
  obtain⟨sl3,e3⟩:=u b _ e2 nf;exact⟨sl3,e3⟩
def RzI(X:Cx)(E:XK):Prop:=∀(pins:List (Addr×Obj)) (σ:L2.St) (H:Hp) (s:Shared) (C e d:Addr) (fs:List (Str×V)),L2.Inv X pins σ H s->H e=some (ExO e C (some d))->H d=some (DxO d fs)->d≠e->X.s₀.heap.get? e=none->E (.ref C) (some d) (Y4 H e d fs)->X.xe (.ref e) s
theorem qJw:RzI (Qq (CXF P w) P w K mg base N qual scope f cd A outer s₀ H₀ E) E:=fun _ _ _ _ _ _ _ _ I he hd hde hn q=>qAw I he hd hde hn q
end
section
variable{X:Cx}{E:XK}{x:Str}{C f:Addr}{e:Expr}{es:List Expr}{t:TA}{np cpos pos:Pos}{n1 n2:Str}{ok:Int->Int->Bool}
theorem qDt{k:Nat}{fd:FuncData}{ps:List Str}(hz:RzI X E)(hc:X.calm=true)(hg:Gl X x)(hm:X.mg x=some (.ref C))(M:MkX X.K C f)(F:FnOk X.prog X.w X.K X.mg X.base (CXF X.prog X.w) k f fd ps (spI C n1 n2 ok))(hr:Room (k+1) X.A)(hb:Binds X.K fd ps [])(ha:PA X (e::es) t)
  (hdb:(x==("__debug__":Str))=false:=by decide) (he:starEach (e::es) X.env=(false,eval e X.env)::starEach es X.env:=by rfl) (hpl:(backTo cpos (starEach es X.env)).any (·.1)=false:=by rfl) :
  PS X (.Raise (some (.Call (.Name x np) (e::es) [] cpos)) none pos) (fun D σ H=>t σ H fun vs H1=>∃m n,vs=[.int m,.int n]∧ok m n=true∧∀ea d,H1 d=none->H1 ea=none->d≠ea->∀H',H' d=some (.xd [(n1,.int m),(n2,.int n)])->H' ea=none->(∀b,b≠ea->b≠d->H' b=H1 b)->E (.ref C) (some d) H'):=by
 intro pins s σ H D I h;obtain⟨bm,N,nm,qn,bs,hd,sn,sb,ab,co,dd,k0,k1,k2,k3,k5,mN,o1,o2,o3,o4⟩:=JB I.ok.mod.kin M;have hbase:bm.contains (.type "BaseException")=true:=o4.hasType PySem.F.excBase_ValueError.hasBase;rw[arm_exec_Raise];refine AA (B3 (qFZ (C:=C) (nm:=nm) (q:=qn) (N:=N) (bs:=bs) (bm:=bm) (hdct:=hd) (sn:=sn) (sub:=sb) (ab:=ab) (col:=co) (dd:=dd) (k0:=k0) (k1:=k1) (k2:=k2) (k3:=k3) (k5:=k5) (newId := "ValueError.__new__") hbase (I.ok.hd hc) (AA (BJ (BO (Zv I hg hm ?_ hdb)) (fun v s₃ h₃=>AA (B3 (AB h₃))) fun _ _ x=>x))));refine W.callWith_K (h₀:=X.base) I.ok.mod.kin M.kp (thn (ha cpos pins s σ H _ I h) fun us s1 ⟨vs,H1,I1,r1,m,n,ev,hm1,q⟩=>⟨I1.kIn,?_⟩) he hpl;subst ev;refine qGs M F hr hb I1 r1 hm1 fun ea d H' s' z0 z1 z2 z3 z4 z5 z6 I2=>?_;obtain⟨ws,g1,g2,g3,g4⟩:=Yd I2.hok z4;have h0:X.s₀.heap.get? ea=none:=Heap.get?_none_of_le (Ag I1.sz z0);refine⟨ea,some d,ws,rfl,I2.bk _ _ o1,g1,g3,hz pins σ H' s' C ea d _ I2 z4 z5 z3 h0 (q ea d z2 z1 z3 _ ?_ ?_ fun b y1 y2=>?_)⟩;unfold Y4;rw[AF z3,AE rfl];unfold Y4;rw[AE rfl];unfold Y4;rw[AF y1,AF y2,z6 b y1 y2]
end
section
variable{P:Program}{w:World}{K:W.Frag}{mg:Str->Option Value}{base:Heap}{C f:Addr}
theorem qCg{X : Cx}{o value : Expr}{n : Str}{pos' pos : Pos}{ta tv : TE}(ha : PE X o ta)(hv : PE X value tv)(c : ExC X.K C)(na : Zq X.K C n)(hs : swapsWith value (some (.Attribute o n pos')) pos.line X.env=pure false) :
    PS X (.Assign [.Attribute o n pos'] value pos) (fun D σ H=>tv σ H fun y H1=>ta σ H1 fun x H2=>∃a, x= .ref a ∧
      ((H2 a=some (ExO a C none)∧∀d, H2 d=none->d≠a->D.nx σ (upd (upd (upd H2 d (DxO d [])) a (ExO a C (some d))) d (DxO d [(n, y)]))) ∨
       ∃d fs, H2 a=some (ExO a C (some d))∧H2 d=some (DxO d fs)∧d≠a∧fs.length<1000∧n∉fs.map (·.1)∧D.nx σ (upd H2 d (DxO d (fs++[(n, y)]))))):=by
  intro pins s σ H D I h;refine plainObj_wpAny_Assign_Attribute (thn (hv pins s σ H _ I h) fun u s1 ⟨y, H1, I1, ry, q⟩=>thn (ha pins s1 σ H1 _ I1 q) fun ov s2 ⟨x, H2, I2, rx, a, ex, q2⟩=>?_) hs;subst ex;obtain rfl : ov=Value.ref a:=rx;rcases q2 with⟨e1, q3⟩|⟨d, fs, e1, e2, hde, hz, hf, q3⟩
  · exact qFu I2 e1 c na ry fun d s3 z1 z2 I3=>⟨σ, _, I3, q3 d z1 z2⟩
  · exact qF2 I2 e1 e2 hde hz c na ry (fun s3 I3=>⟨σ, _, I3, q3⟩) hf
def qIN(C : Addr)(n : Str)(ta tv : TE) : TS:=fun D σ H=>tv σ H fun y H1=>ta σ H1 fun x H2=>∃a, x= .ref a ∧
      ((H2 a=some (ExO a C none)∧∀d, H2 d=none->d≠a->D.nx σ (upd (upd (upd H2 d (DxO d [])) a (ExO a C (some d))) d (DxO d [(n, y)]))) ∨
       ∃d fs, H2 a=some (ExO a C (some d))∧H2 d=some (DxO d fs)∧d≠a∧fs.length<1000∧n∉fs.map (·.1)∧D.nx σ (upd H2 d (DxO d (fs++[(n, y)]))))
def qIY(C:Addr)(t:TA):TE:=fun σ H Q=>t σ H fun vs H1=>∃a x,vs=[.ref a,.str x]∧H1 a=some (ExO a C none)∧Q .non H1
def qLK(te:TE):TE:=fun σ H Q=>te σ H fun v H1=>∃i,v= .int i∧i.natAbs.log2<1920∧Q (.str (toString i)) H1
abbrev TJ:=Str->L2.St->Hp->(Str->Hp->Prop)->Prop
def qLI:TJ:=fun out _ H Q=>out.length≤sizeLine∧Q out H
def qBA(te:TE)(t:TJ):TJ:=fun out σ H Q=>te σ H fun v H1=>∃y,v= .str y∧(out++y).length≤sizeLine∧t (out++y) σ H1 Q
def qK2(t:TJ):TE:=fun σ H Q=>t Str.empty σ H fun x H1=>Q (.str x) H1
def okI(x1:Str)(m n:Int):Bool:=decide (m.natAbs.log2<1920)&&decide (n.natAbs.log2<1920)&&decide ((Str.empty++(toString m:Str)).length≤sizeLine)&&decide ((Str.empty++(toString m:Str)++x1).length≤sizeLine)&&decide ((Str.empty++(toString m:Str)++x1++(toString n:Str)).length≤sizeLine)
def qKd(C:Addr)(n1 n2 x1:Str):TS:=qIs (qIB (qIY C (qEh (jE 0) (qEh (qK2 (qBA (qLK (jE 1)) (qBA (tC (.str x1)) (qBA (qLK (jE 2)) qLI)))) qKX)))) (qIs (qIN C n1 (jE 0) (jE 1)) (qIN C n2 (jE 0) (jE 2)))
theorem qFV{n1 n2 x1 qual:Str}{st:Stmt}{fd:FuncData}(FF:Fun K "__init__" qual st f fd)(S:FnScope ["self",n1,n2] ["self",n1,n2] (qI st))(hne:n2∉[n1])
  (hb:∀(cdv:Value) (A:Around) (outer:List Env) (s:Shared) (H:Hp) (E:XK),PSs (Qq (CXF P w) P w K mg base ["self",n1,n2] qual (qI st) f cdv A outer s H E) (qY st) (qKd C n1 n2 x1)):FnOk P w K mg base (CXF P w) 1 f fd ["self",n1,n2] (spI C n1 n2 (okI x1)):=by
 obtain⟨oc,od,kV,doc,pm,an,cdv,ct,osl,rfl,lk,hcd⟩:=FF.ex;refine qIL lk hcd S (fun vs H Q E ⟨e,m,n,z,_⟩=>by rw[z];rfl) fun A outer s H vs Q E hr0 hcm ⟨e,m,n,ev,he,hok,q⟩=>?_;subst ev;unfold okI at hok;simp only[AX,BR]at hok;obtain⟨⟨⟨⟨k1,k2⟩,k3⟩,k4⟩,k5⟩:=hok;refine⟨_,hb cdv A outer s H E,?_⟩;refine⟨_,rfl,_,rfl,m,rfl,k1,_,rfl,k3,_,rfl,k4,_,rfl,n,rfl,k2,_,rfl,k5,k5,?_⟩;refine⟨e,_,rfl,he,?_⟩;refine⟨_,rfl,_,rfl,e,rfl,.inl ⟨he,fun d z1 z2=>?_⟩⟩;refine⟨_,rfl,_,rfl,e,rfl,.inr ⟨d,[(n1,.int m)],by rw[qT (Ne.symm z2),qm],qm,z2,(show 1<1000 by decide),hne,?_⟩⟩;refine q d _ z1 z2 (by rw[qT (Ne.symm z2),qT (Ne.symm z2),qm]) qm fun b y1 y2=>?_;rw[qT y2,qT y2,qT y1,qT y2]
end
end EX
end
section
namespace EV
open PySem PySem.Spec PyProof.Rows L2 EX
section
variable{X:Cx}{E:XK}{e:Expr}{es:List Expr}{pos:Pos}
def qJq:Stmt->Stmt| .ClassDef _ _ _ (b::_) _ _ _ _ _ _ _=>b|s=>s
def xcI(C:Addr)(n1 n2:Str)(ok:Int->Int->Bool):List PV->qC->RS|[.int m,.int n],s=>if ok m n=true then .ex ⟨C,[(n1,m),(n2,n)]⟩ s else .no|_,_=>.no
def Z8(C:Addr)(n1 n2:Str)(ok:Int->Int->Bool)(t:FA):FS:=fun r st=>match t r st with| .ok ps s=>xcI C n1 n2 ok ps s| .ex x s=>.ex x s| .no=>.no
theorem qD2{x:Str}{C f:Addr}{n1 n2:Str}{ok:Int->Int->Bool}{t:FA}{np cpos:Pos}{k:Nat}{fd:FuncData}{ps:List Str}(hz:RzI X E)(hc:X.calm=true)(hg:Gl X x)(hm:X.mg x=some (.ref C))(M:MkX X.K C f)(F:FnOk X.prog X.w X.K X.mg X.base (CXF X.prog X.w) k f fd ps (spI C n1 n2 ok))(hr:Room (k+1) X.A)(hb:L2.Binds X.K fd ps [])(ha:VA X E (e::es) t)(hdb:(x==("__debug__":Str))=false:=by decide)
  (he:starEach (e::es) X.env=(false,eval e X.env)::starEach es X.env:=by rfl) (hpl:(backTo cpos (starEach es X.env)).any (·.1)=false:=by rfl):VS X E (.Raise (some (.Call (.Name x np) (e::es) [] cpos)) none pos) (Z8 C n1 n2 ok t) :=
 PS.imp (qDt hz hc hg hm M F hr hb ha hdb he hpl) fun D s H ⟨b,r,st,S,R,P⟩=>⟨b,r,st,S,R,by
  unfold Z8 at P;cases ef:t r st with
  |no=>rw[ef]at P;exact P.elim
  |ex x s1=>rw[ef]at P;exact P
  |ok ps s1 =>
   rw[ef]at P;dsimp only at P;unfold xcI at P;split at P
   ·rename_i m n;by_cases hl:ok m n=true
    ·rw[AE hl]at P;intro vs H' b' e' S' r';obtain⟨v1,v2,rfl,r1,r2⟩:=RVs.two r';unfold RV at r1 r2;subst r1;subst r2;refine⟨m,n,rfl,hl,fun ea d z1 z2 z3 H2 q1 q2 q3=>?_⟩;have eH:H2=upd H' d (.xd [(n1,.int m),(n2,.int n)]):=by
      funext y;by_cases y1:y=d;rw[y1,qm,q1]
      ·rw[qT y1];by_cases y2:y=ea;rw[y2,q2,z2];exact q3 y y2 y1
     subst eH;exact P (.ref C) (some d) _ b' (e'.trans (Ext.new z1)) (S'.new z1) ⟨rfl,.inr ⟨d,rfl,qm,S'.new_notin z1⟩⟩
    ·rw[AF hl]at P;exact P.elim
   ·exact P.elim⟩
theorem qEj{prog:Program}{w:World}{A:Around}{E:Value->Shared->Prop}{s:Shared}{K:W.Frag}{x D:Addr}{ox od:Obj}{name:Str}{v:Value}{Q:Value->Shared->Prop}(C:ExcK K D)(X:K.In s.heap)(I:W.InstAt s.heap x ox D (some od))(hf:W.findObj K D (some od) name=some (.value v))(hv:W.handedIn v=true)
  (h:Q v { s with toks:=s.toks+1 }):wpAny (model prog w) A (getAttr (.ref x) name true) Q E s:=by
 obtain⟨hh,g,d,t,os⟩:=s;have L0:=I.type (M:=model prog w);have L1:=Bw (M:=model prog w) X C.ga;have L2:=Bw (M:=model prog w) X C.gn;have L3:=W.looks_find (M:=model prog w) X I hf;have L4:=B2 (M:=model prog w) X C.mb;have LI:W.Looks (model prog w) hh (isInstance (.ref x) (.type "BaseException")) true:=L0.andThen L4;have f3:=F.attr_ValueError.ga.bind (.ref x);unfold getAttr getAttrBy;refine AA (wpAny_mkText (Ak (AA (L0.at (AA (L1.at ?_))))));show wpAny _ _ (getAttrByItsOwn _ _ _ _ _ _) _ _ _;unfold getAttrByItsOwn;refine AA (L2.at (AA (CK (Ak ?_))));show wpAny _ _ (boundAndCalled _ _ _) _ _ _;unfold boundAndCalled;refine AA (An f3 ?_);refine BY (BQ F.attr_ValueError.ga.plain F.entry_bexc_ga ?_);have hk:builtinKind "BaseException.__getattribute__" = some .slot:=by decide +kernel
 have hsp:splitId "BaseException.__getattribute__" = some ("BaseException","__getattribute__"):=by decide +kernel
 have ha:=F.args_bexc_ga (.ref x) (.str name t);simp only[checkBuiltinCall,hk,hsp];refine AA (LI.at ?_);rw[AF (show ¬((!true)=true) by decide)];refine An (a:=()) ha ?_;show wpAny _ A.in1 (Builtin.«object.__getattribute__» ⟨[.ref x,.str name t],[]⟩) _ _ _;unfold Builtin.«object.__getattribute__»;refine AA (AB ?_);refine AA (AB ?_);refine AA (L0.at (AA (L3.at ?_)));refine AB ?_;show wpAny _ _ (handedOut v) _ _ _;rw[W.handedOut_of hv];exact AB h
theorem qGb{C:Addr}{n:Str}{te:TE}(hk:ExcK X.K C)(hd:W.hasDictIn X.K C=true)(hn:Zq X.K C n)(he:PE X e te)(hb:attributeBase e n X.env (eval e X.env)=eval e X.env) :
  PE X (.Attribute e n pos) (fun σ H Q=>te σ H fun v H1=>∃a o u d fs i,v= .ref a∧H1 a=some (.frz o u)∧o.cls= .ref C∧(∃vs,o.data= .fields vs)∧o.dict=some d∧H1 d=some (.xd fs)∧fs.lookup n=some (.int i)∧Q (.int i) H1):=by
 intro pins s σ H Q I h;refine qHp hb (thn (he pins s σ H _ I h) fun u s1 ⟨x,H1,I1,rx,a,o,u2,d,fs,i,ex,ea,q1,⟨vs,q2⟩,q3,q4,q5,q6⟩=>?_);subst ex;obtain rfl:u=Value.ref a:=rx;obtain⟨g1,_⟩:=(show ObjOk X.prog X.w H1 s1.heap a (.frz o u2) from I1.hok a _ ea);obtain⟨mA,n1,r⟩:=(show ObjOk X.prog X.w H1 s1.heap d (.xd fs) from I1.hok d _ q4);obtain⟨od,hod,hl⟩:=qDJ n1;obtain⟨u,hu,ru⟩:=RelO.some_of (v:=.int i) (o:=mA n) (by rw[←q5];exact r n);obtain⟨oc,odi,oda,osl⟩:=o;dsimp only at q1 q2 q3;subst q1;subst q2;subst q3;exact qEj hk I1.kIn (ox:=⟨.ref C,some d,.fields vs,osl⟩) (od:=od) ⟨g1,rfl,rfl,hod⟩ (W.findObj_own hd hn rfl (by rw[hl,hu])) (qDi ru) ⟨.int i,H1,I1.tok _,ru,q6⟩
def qB8(C:Addr)(n:Str):PV->Option Int| .exc c fs=>if c=C then fs.lookup n else none|_=>none
def jK(C:Addr)(n:Str)(f:FE):FE:=fun r st=>(f r st).bind fun v s=>match qB8 C n v with|some i=>.ok (.int i) s|none=>.no
theorem yf(n:Str):∀fs:List (Str×Int),(fs.map fun p=>(p.1,V.int p.2)).lookup n=(fs.lookup n).map V.int
 |[]=>rfl
 |(k,v)::r=>by
  rw[Aa,Ap,Ap];cases n==k;exact yf n r;rfl
theorem qCj{C:Addr}{n:Str}{f:FE}(hk:ExcK X.K C)(hd:W.hasDictIn X.K C=true)(hn:Zq X.K C n)(h:VE X E e f)(hb:attributeBase e n X.env (eval e X.env)=eval e X.env:=by rfl):VE X E (.Attribute e n pos) (jK C n f) :=
 PE.imp (qGb hk hd hn h hb) fun s H Q ⟨b,r,st,S,R,P⟩=>⟨b,r,st,S,R,by
  unfold jK at P;cases ef:f r st with
  |no=>rw[ef]at P;exact P.elim
  |ex x s1=>rw[ef]at P;exact P
  |ok v s1 =>
   rw[ef]at P;cases v with
   |exc c fs =>
    change PostE X.K E H b (match (if c=C then fs.lookup n else none) with|some i=>Rs.ok (.int i) s1|none=>.no) Q at P;by_cases z:c=C
    ·rw[AE z]at P;subst z;cases el:fs.lookup n with
     |none=>rw[el]at P;exact P.elim
     |some i =>
      rw[el]at P;intro v H' b' e' S' r';unfold RV at r';obtain⟨a,o,u,rfl,q1,_,q3,q4,q5⟩:=r';rcases q5 with⟨z,_⟩|⟨d,q6,q7,_⟩
      ·rw[z]at el;cases el
      ·exact⟨a,o,u,d,_,i,rfl,q1,q3,q4,q6,q7,by rw[yf,el];rfl,P _ H' b' e' S' QS⟩
    ·rw[AF z]at P;exact P.elim
   |_=>exact P.elim⟩
theorem qKT{a:Expr}{n:Str}{f:FE}{g:FA}(h:VE X E (.Attribute a n pos) f)(h2:VA X E es g):VA X E (.Attribute a n pos::es) (qA f g):=Q4 h h2 rfl
end
end EV
end
section
namespace EX
open PySem PySem.Spec PyProof.Rows L2
structure RawAt (h:Heap) (d:Addr) (es:Array DictEntry) (ep:Nat):Prop where
 ex:∃o,h.get? d=some o∧o.ExactDict∧o.data= .dict es ep
section
variable{prog:Program}{w:World}{A:Around}{E:Value->Shared->Prop}{s:Shared}{d it:Addr}{es:Array DictEntry}{ep i:Nat}
theorem RawAt.typeIs(m:RawAt s.heap d es ep):s.TypeIs (.ref d) "dict" :=let ⟨o,h,c,_⟩:=m.ex;⟨o,h,c.1⟩
end
end EX
end
section
namespace EV
open PySem PySem.Spec PyProof.Rows L2 EX
def jj:PV->Option (List L2.Key)
 | .tup (p::l)=>match wc qHL (p::l) with|some ns=>some (ns.map Sum.inl)|none=>none
 |_=>none
def qHD(K:W.Frag):Prop:=∀a ns,KT K a (ns.map V.int)->ns=[]
theorem qEo(K:W.Frag):qHD K:=fun a ns h=>by
 cases ns with|nil=>rfl|cons i ns=>exact absurd rfl (h.2 i _)
section
variable{X:Cx}{E:XK}{e a c d o:Expr}{es:List Expr}{f fa fb fc fd fk fx:FE}{pos:Pos}{F G:FS}
theorem qJH{K:W.Frag}{H:Hp}{b:Bz}{p:PV}{v:V}{k:List L2.Key}(nk:qHD K)(r:RV K H b p v)(h:jj p=some k):∃a,v= .ref a∧H a=some (.tup (k.map kV)):=by
 unfold jj at h;split at h
 ·rename_i p l;split at h
  ·rename_i ns hn;cases h;unfold RV at r;obtain⟨a,xs,rfl,h2,h3⟩:=r
   have:=jx h3 hn
   subst this;refine⟨a,rfl,?_⟩;rcases h2 with q|q
   ·rw[q.1];congr 2;simp[kV]
   ·have:=nk a ns q
    subst this
    have:=h3.length
    cases this
  ·cases h
 ·cases h
theorem Ext.newS{H:Hp}{b:Bz}{p:Addr}{o:HO}(h:H p=none):Ext H b (upd H p o) ⟨b.b++[p],b.z⟩ :=
 ⟨⟨⟨[p],rfl,fun a ha=>by rw[Al.mp ha];exact h⟩,⟨[],rfl,by simp⟩,fun a u e _=>by rw[qT (qU e h)];exact e,fun a u e=>⟨u,by rw[qT (qU e h)];exact e⟩⟩,rfl,fun a u _ e=>by rw[qT (qU e h)];exact e,fun a u _ e=>by rw[qT (qU e h)];exact e⟩
theorem SR.newS{K:W.Frag}{H:Hp}{b:Bz}{st:qC}(S:SR K H b st){p:Addr}{o:HO}{x:SO}(h:H p=none)(hx:SOk K (upd H p o) ⟨b.b++[p],b.z⟩ x o):SR K (upd H p o) ⟨b.b++[p],b.z⟩ (st++[x]):=by
 have hn:=S.new_notin h;refine⟨by simp[S.len],?_,fun i y hy=>?_,fun a ha=>?_,fun a ha hm=>?_⟩;exact List.nodup_append.mpr ⟨S.nd,by simp,fun a ha c hc=>by rw[Al.mp hc];intro z;subst z;exact hn.1 ha⟩
 ·by_cases hi:i<st.length;rw[Ae hi]at hy;obtain⟨a,u,h1,h2,h3⟩:=S.at_ i y hy;exact⟨a,u,(Ext.newS (b:=b) (o:=o) h).ix h1,by rw[qT (qU h2 h)];exact h2,h3.ext (Ext.newS h)⟩
  ·have hi':i=st.length:=by
    have:=(AQ.mp hy).1
    rw[AO,Am]at this;omega
   subst hi';have e1:(st++[x])[st.length]? = some x:=by simp
   rw[e1]at hy;cases hy;exact⟨p,o,by show (b.b++[p])[st.length]? = some p;rw[←S.len];simp,qm,hx⟩
 ·obtain⟨u,e⟩:=S.zo a ha;exact⟨u,by rw[qT (qU e h)];exact e⟩
 ·rcases A1.mp hm with q|q
  ·exact S.zb a ha q
  ·rw[Al.mp q]at ha;exact hn.2 ha
theorem qHG{K:W.Frag}{H H':Hp}{b:Bz}{st:qC}(S:SR K H b st){p:Addr}:RV K H' ⟨b.b++[p],b.z⟩ (.ref st.length) (.ref p):=by unfold RV;exact⟨p,rfl,by show (b.b++[p])[st.length]? = some p;rw[←S.len];simp⟩
def qIH:FE:=fun _ st=>.ok (.ref st.length) (st++[.d []])
theorem qHj:VE X E (.Dict [] [] pos) qIH:=PE.imp qFa fun s H Q ⟨b,r,st,S,R,P⟩ p hp =>
 P (.ref p) _ ⟨b.b++[p],b.z⟩ (Ext.newS hp) (S.newS (x:=.d []) hp ⟨[],rfl,rfl,RVs.nil⟩) (qHG S)
def qLc(kvs:List (List L2.Key×PV))(k:List L2.Key):Option PV:=(kvs.find? fun kv=>decide (kv.1=k)).map (·.2)
def qAs(kvs:List (List L2.Key×PV))(k:List L2.Key)(v:PV):List (List L2.Key×PV) :=
 if (kvs.any fun kv=>decide (kv.1=k))=true then kvs.map (fun kv=>if kv.1=k then (kv.1,v) else kv) else kvs++[(k,v)]
theorem qHC{k:List L2.Key}{kvs:List (List L2.Key×PV)}{vs:List (List L2.Key×V)}(h:kvs.map (·.1)=vs.map (·.1)):(kvs.any fun kv=>decide (kv.1=k))=(vs.any fun kv=>decide (kv.1=k)):=by
 have h1:(kvs.any fun kv=>decide (kv.1=k))=(kvs.map (·.1)).any fun x=>decide (x=k):=by rw[List.any_map];rfl
 have h2:(vs.any fun kv=>decide (kv.1=k))=(vs.map (·.1)).any fun x=>decide (x=k):=by rw[List.any_map];rfl
 rw[h1,h2,h]
theorem qAp{K:W.Frag}{H:Hp}{b:Bz}{k:List L2.Key}{p:PV}{v:V}(rp:RV K H b p v):∀{kvs:List (List L2.Key×PV)} {vs:List (List L2.Key×V)},kvs.map (·.1)=vs.map (·.1)->RVs K H b (kvs.map (·.2)) (vs.map (·.2)) ->
  (kvs.map (fun kv=>if kv.1=k then (kv.1,p) else kv)).map (·.1)=(vs.map (fun kv=>if kv.1=k then (kv.1,v) else kv)).map (·.1) ∧
  RVs K H b ((kvs.map (fun kv=>if kv.1=k then (kv.1,p) else kv)).map (·.2)) ((vs.map (fun kv=>if kv.1=k then (kv.1,v) else kv)).map (·.2))
 |[],[],_,_=>⟨rfl,RVs.nil⟩
 |[],_::_,h,_=>by cases h
 |_::_,[],h,_=>by cases h
 |(k1,q)::r,(k2,w)::vs,h,hr=>by
  rw[Aa,Aa]at h hr;obtain⟨h1,h2⟩:=List.cons.inj h;unfold RVs at hr;obtain⟨x,xs,e1,e2,e3⟩:=hr;obtain⟨rfl,rfl⟩:=List.cons.inj e1;have h1:k1=k2:=h1;subst h1;obtain⟨i1,i2⟩:=qAp (k:=k) rp h2 e3;by_cases e:k1=k;exact⟨by simp only[Aa,e,B9]at i1 ⊢;rw[i1],by simp only[Aa,e,B9];exact RVs.cons rp i2⟩;exact⟨by simp only[Aa,e,Bb]at i1 ⊢;rw[i1],by simp only[Aa,e,Bb];exact RVs.cons e2 i2⟩
theorem qHY{K:W.Frag}{H:Hp}{b:Bz}{k:List L2.Key}{p:PV}{v:V}(rp:RV K H b p v){kvs:List (List L2.Key×PV)}{vs:List (List L2.Key×V)}(h:kvs.map (·.1)=vs.map (·.1))(hr:RVs K H b (kvs.map (·.2)) (vs.map (·.2))) :
  (qAs kvs k p).map (·.1)=(Zp vs k v).map (·.1)∧RVs K H b ((qAs kvs k p).map (·.2)) ((Zp vs k v).map (·.2)):=by
 unfold qAs Zp;rw[qHC h];by_cases q:(vs.any fun kv=>decide (kv.1=k))=true;rw[AE q,AE q];exact qAp rp h hr
 ·rw[AF q,AF q];refine⟨by rw[BT,BT,h];rfl,?_⟩;rw[BT,BT];exact hr.append (RVs.cons rp RVs.nil)
def dAt(st:qC)(i:Nat):Option (List (List L2.Key×PV)):=match st[i]? with|some (.d kvs)=>some kvs|some (.z kvs)=>some kvs|_=>none
def qLz:PV->PV->qC->Rs PV:=fun p q st=>match p with
 | .ref i=>match jj q,dAt st i with
  |some k,some kvs=>match qLc kvs k with|some v=>.ok v st|none=>.no
  |_,_=>.no
 |_=>.no
def YJ(fd fk f:FE):FS:=fun r st=>(f r st).bindS fun p s1=>(fd r s1).bindS fun o s2=>(fk r s2).bindS fun q s3=>match o with
 | .ref i=>match jj q,s3[i]? with|some k,some (.d kvs)=>if kvs.length<sizeLine then .nx r (s3.set i (.d (qAs kvs k p))) else .no|_,_=>.no
 |_=>.no
theorem qHk{tpos:Pos}(hu:X.A.units+1<cLine)(nk:qHD X.K)(ho:VE X E o fd)(hi:VE X E c fk)(h:VE X E e f)(hs:swapsWith e (some (.Subscript o c tpos)) pos.line X.env=pure false:=by rfl) :
  VS X E (.Assign [.Subscript o c tpos] e pos) (YJ fd fk f) :=
 PS.imp (qG0 hu ho hi h hs) fun D s H ⟨b,r,st,S,R,P⟩=>⟨b,r,st,S,R,PostE.bindS P fun p s1 u H1 b1 e1 S1 r1 P1 =>
  ⟨b1,r,s1,S1,R.ext e1,PostE.bindS P1 fun o s2 w H2 b2 e2 S2 r2 P2=>⟨b2,r,s2,S2,(R.ext e1).ext e2,PostE.bindS P2 fun q s3 y H3 b3 e3 S3 r3 P3=>by
   split at P3
   ·rename_i i;split at P3
    ·rename_i k kvs hk hd;split at P3
     ·rename_i hl;have r2':=RV.ext e3 _ r2;unfold RV at r2';obtain⟨x,rfl,hx⟩:=r2';obtain⟨c1,rfl,hy⟩:=qJH nk r3 hk;obtain⟨a',o',g1,g2,vs,rfl,g3,g4⟩:=S3.at_ i _ hd;rw[hx]at g1;cases g1;have hlen:kvs.length=vs.length:=by have:=Bv List.length g3;simpa using this
      have hm:x∈b3.b:=Aq hx;have ew:Ext H3 b3 (upd H3 x (.dT (Zp vs k u))) b3:=Ext.wr hm S3.zb (nfz g2 fun _ _ z=>nomatch z);refine⟨x,_,rfl,DPut.t g2 hy (by rw[←hlen];exact hl),?_⟩;obtain⟨q1,q2⟩:=qHY (k:=k) (RV.ext ew _ (RV.ext e3 _ (RV.ext e2 _ r1))) g3 (RVs.ext ew _ g4);exact P3 s _ b3 ew (S3.wr (x:=.d (qAs kvs k p)) hx ⟨_,rfl,q1,q2⟩) ((((R.ext e1).ext e2).ext e3).ext ew)
     ·exact P3.elim
    ·exact P3.elim
   ·exact P3.elim⟩⟩⟩
end
end EV
end
section
namespace EX
open PySem PySem.Spec PyProof.Rows L2
end EX
namespace EV
open PySem PySem.Spec PyProof.Rows L2 EX
end EV
end
section
namespace EX
open PySem PySem.Spec PyProof.Rows L2
end EX
namespace EV
open PySem PySem.Spec PyProof.Rows L2 EX
end EV
end
section
namespace EX
open PySem PySem.Spec PyProof.Rows L2
end EX
namespace EV
open PySem PySem.Spec PyProof.Rows L2 EX
end EV
end
section
namespace EV
open PySem PySem.Spec PyProof.Rows L2 EX
section
variable{X:Cx}{E:XK}{e a c d:Expr}{es:List Expr}{f fa fb fc:FE}{fl:FL}{pos:Pos}{F G:FS}
def j5(f:FE)(lo hi:FO):FE:=fun r st=>(f r st).bind fun p s1=>(lo r s1).bind fun k s2=>(hi r s2).bind fun m s3=>match asL s3 p with|some l=>.ok (.lst (wk l k m)) s3|none=>.no
theorem yx{l:List PV}{xs:List V}(h:l.length=xs.length){K:W.Frag}{H:Hp}{b:Bz}(r:RVs K H b l xs)(k m:Option Int):RVs K H b (wk l k m) (Y7 xs k m):=by unfold wk Y7;rw[h];exact RVs.take _ (RVs.drop _ r)
theorem qE4{lo hi:Option Expr}{flo fhi:FO}{p2:Pos}(h:VE X E e f)(hl:VO X E lo flo)(hh:VO X E hi fhi):VE X E (.Subscript e (.Slice lo hi none p2) pos) (j5 f flo fhi) :=
 PE.imp (Jz qHB h hl hh) fun s H Q ⟨b,r,st,S,R,P⟩=>⟨b,r,st,S,R,PostE.bind P fun p s1 u H1 b1 e1 S1 r1 P1=>⟨b1,r,s1,S1,R.ext e1,PostO.bind P1 fun k s2 H2 b2 e2 S2 P2=>⟨b2,r,s2,S2,(R.ext e1).ext e2,PostO.bind P2 fun m s3 H3 b3 e3 S3 P3=>by
  split at P3;rename_i l el;obtain⟨x,xs,rfl,h2,h3⟩:=we S3 (RV.ext e3 _ (RV.ext e2 _ r1)) el;refine⟨x,xs,rfl,h2,fun p hp=>PostN.lay (PostN.of (r:=.ok (wk l k m) s3) P3) S3 (yx h3.length h3 k m) hp⟩;exact P3.elim⟩⟩⟩
def j1(f:FE)(o1 i1 o2 i2:FE):FS:=fun r st=>(f r st).bindS fun t s=>match t with
 | .tup [p,q]=>(o1 r s).bindS fun o s1=>(i1 r s1).bindS fun i s2=>match WY s2 o i p with
  |some s3=>(o2 r s3).bindS fun o' s4=>(i2 r s4).bindS fun i' s5=>match WY s5 o' i' q with|some s6=>.nx r s6|none=>.no
  |none=>.no
 |_=>.no
theorem qHW{o1 i1 o2 i2:Expr}{fo1 fi1 fo2 fi2:FE}{k:Nat}{tp tp1 tp2:Pos}(hc:X.calm=true)(h:VE X E e f)(ho1:VE X E o1 fo1)(hi1:VE X E i1 fi1)(ho2:VE X E o2 fo2)(hi2:VE X E i2 fi2)
  (hs:swapsWithSole [.Tuple [.Subscript o1 i1 tp1,.Subscript o2 i2 tp2] k tp] e pos.line X.env=pure false:=by rfl) (hw:swappedStores [.Tuple [.Subscript o1 i1 tp1,.Subscript o2 i2 tp2] k tp] e X.env=pure none:=by rfl)
  (h1:(assignEach [.Tuple [.Subscript o1 i1 tp1,.Subscript o2 i2 tp2] k tp] X.env).map (·.2)=[assign (.Tuple [.Subscript o1 i1 tp1,.Subscript o2 i2 tp2] k tp) X.env]:=by rfl)
  (hn:(assignEach [.Subscript o1 i1 tp1,.Subscript o2 i2 tp2] X.env).length=2:=by rfl) (hst:(assignEach [.Subscript o1 i1 tp1,.Subscript o2 i2 tp2] X.env).findIdx? (·.1)=none:=by rfl)
  (q1:(assignEach [.Subscript o1 i1 tp1,.Subscript o2 i2 tp2] X.env).map (·.2)=assign (.Subscript o1 i1 tp1) X.env::(assignEach [.Subscript o2 i2 tp2] X.env).map (·.2):=by rfl)
  (q2:(assignEach [.Subscript o2 i2 tp2] X.env).map (·.2)=assign (.Subscript o2 i2 tp2) X.env::(assignEach [] X.env).map (·.2):=by rfl)
  (a1:∀v,assign (.Subscript o1 i1 tp1) X.env v=(do
   let ov ← holding [v] (eval o1 X.env);let iv ← holding [v,ov] (eval i1 X.env)
   standAt tp1
   holding [v,ov,iv] (setItem ov iv v)
   release [v,ov,iv] []):=by intro _;rfl)
  (a2:∀v,assign (.Subscript o2 i2 tp2) X.env v=(do
   let ov ← holding [v] (eval o2 X.env);let iv ← holding [v,ov] (eval i2 X.env)
   standAt tp2
   holding [v,ov,iv] (setItem ov iv v)
   release [v,ov,iv] []):=by intro _;rfl):VS X E (.Assign [.Tuple [.Subscript o1 i1 tp1,.Subscript o2 i2 tp2] k tp] e pos) (j1 f fo1 fi1 fo2 fi2) :=
 PS.imp (qA3 h (qE6 hc (YS (qBL ho1 hi1 Yw a1) (YS (qBL ho2 hi2 Yw a2) qCR q2) q1) hn hst) hs hw h1) fun D s H ⟨b,r,st,S,R,P⟩=>⟨b,r,st,S,R,PostE.bindS P fun t s1 u H1 b1 e1 S1 r1 P1=>by
  split at P1
  ·rename_i p q;unfold RV at r1;obtain⟨x,xs,rfl,h2,h3⟩:=r1;obtain⟨y1,y2,rfl,rp,rq⟩:=RVs.two h3;have R1:=R.ext e1;refine⟨x,_,rfl,h2.sq,rfl,y1,[y2],rfl,b1,r,s1,S1,R1,PostE.bindS P1 fun o s2 ou H2 b2 e2 S2 r2 P2=>⟨b2,r,s2,S2,R1.ext e2,PostE.bindS P2 fun i s3 iu H3 b3 e3 S3 r3 P3=>?_⟩⟩;split at P3
   ·rename_i s4 e4;have R3:=(R1.ext e2).ext e3;refine YI S3 (RV.ext e3 o r2) r3 (RV.ext e3 p (RV.ext e2 p rp)) e4 fun H4 b4 e5 S4=>?_;refine⟨y2,[],rfl,b4,r,s4,S4,R3.ext e5,PostE.bindS (PostS.ext P3 e5) fun o' s5 ou' H5 b5 e6 S5 r5 P5=>⟨b5,r,s5,S5,(R3.ext e5).ext e6,PostE.bindS P5 fun i' s6 iu' H6 b6 e7 S6 r6 P6=>?_⟩⟩;split at P6;rename_i s7 e8;refine YI S6 (RV.ext e7 o' r5) r6 (RV.ext e7 q (RV.ext e6 q (RV.ext e5 q (RV.ext e3 q (RV.ext e2 q rq))))) e8 fun H7 b7 e9 S7=>⟨rfl,?_⟩;exact P6 s H7 b7 e9 S7 ((((R3.ext e5).ext e6).ext e7).ext e9);exact P6.elim
   ·exact P3.elim
  ·exact P1.elim⟩
end
end EV
end
section
namespace EX
open PySem PySem.Spec PyProof.Rows L2
end EX
namespace EV
open PySem PySem.Spec PyProof.Rows L2 EX
end EV
end
section
namespace EX
open PySem PySem.Spec PyProof.Rows L2
def byT(w:World):Bool:=w.params.followText "set-order"
section
variable{prog:Program}{w:World}{A:Around}{E:Value->Shared->Prop}{s:Shared}
theorem qCl{a:Value}{Q:Value->Shared->Prop}(h:Q (.ref s.heap.objs.size) { s with heap:=s.heap.push { cls:=.type "set",data:=.set #[] 0 (SetTable.fresh 0 0 (!byT w)) } }) :
  codeAny (model prog w) A (.call (.builtin "set.__new__") ⟨[.type "set",a],[]⟩) (wants Q E) s:=by
 refine BQ F.plain_set_new F.entry_set_new (An (F.newCall_set_1 a) ?_);unfold Builtin.«set.__new__» Builtin.Frozenset.newClass;dsimp only;refine AA (AA (An (a:=true) rfl ?_));rw[AF (by decide)];refine AA (An sub_set_self ?_);rw[AF (by decide)];refine AB (AA ?_);unfold newSet setsByText;refine AA (AA (wpAny_askSetting (AB ?_)));dsimp only;unfold newObj;dsimp only;rw[AF (by decide)];unfold newObjAsIs;refine AA (wpAny_alloc ?_);dsimp only;exact AB (AB h)
end
end EX
namespace EV
open PySem PySem.Spec PyProof.Rows L2 EX
section
variable{X:Cx}{E:XK}{e:Expr}{f:FE}{p p2 pos pos2:Pos}
theorem ZH{K:W.Frag}{H:Hp}{b:Bz}:∀(ns:List Int),RVs K H b (ns.map PV.int) (ns.map V.int)|[]=>RVs.nil|n::ns=>RVs.cons QS (ZH ns)
end
end EV
end
section
namespace EX
open PySem PySem.Spec PyProof.Rows L2
inductive LexG (A:Around) (s:Shared) (r:Bool):List Value->List Value->Prop where|nn:r=false->LexG A s r [] []|nc {w ws}:r=true->LexG A s r [] (w::ws)|cn {v vs}:r=false->LexG A s r (v::vs) []|eq {v vs w ws}:SeqAt.EqAt A s v w true->LexG A s r vs ws->LexG A s r (v::vs) (w::ws)|ne {v vs w ws}:SeqAt.EqAt A s v w false->(∀(prog:Program) (wd:World) (E:Value->Shared->Prop) (Q:Value->Shared->Prop),Q (.bool r) s->wpAny (model prog wd) A (richCompare .Lt v w) Q E s)->LexG A s r (v::vs) (w::ws)
section
open PySem.SeqAt
open PySem.AutoSeq1 (wpAny_loadPart')
open PySem.MeetsSeq PySem.MeetsSeq2 PySem.MeetsSeq3
theorem j7(l b:Addr)(items items2:Array Value)(n n2:Nat)(dd dd2:Option Addr)(sl sl2:Array (Option Value))(r:Bool) :
  Meets (Builtin.«tuple.__lt__» ⟨[.ref l,.ref b],[]⟩)
   (fun A R s=>s.heap.get? l=some { cls:=.type "tuple",dict:=dd,data:=.seq items n,slots:=sl }∧s.heap.get? b=some { cls:=.type "tuple",dict:=dd2,data:=.seq items2 n2,slots:=sl2 }∧LexG A.in1 s r items.toList items2.toList ∧
    R (.ok (.ret (.bool r))) s) :=
 .of_wp fun prog w A R s h=>by
  obtain⟨hp,g,d,tk,os⟩:=s;obtain⟨hl,hb,hG,h⟩:=h;have f2:=AutoSeq1.sub_tuple_tuple
  wp_walk using wpAny_loadPart' hl,wpAny_loadPart' hb,wpAny_forIn_list _ (fun rest b s'=>b.1=none∧s'=⟨hp,g,d,tk,os⟩∧∃(vs ws:List Value),rest=vs.zip ws∧LexG A.in1 ⟨hp,g,d,tk,os⟩ r vs ws ∧
   vs.length+items2.size=ws.length+items.size) _
  case turn =>
   rintro⟨y,x⟩ rest b s' ⟨hb',rfl,vs,ws,hz,hG',hlen⟩;cases hG' with
   |nn _=>cases hz
   |nc _=>cases hz
   |cn _=>rw[List.zip_nil_right]at hz;cases hz
   |eq he hG2 =>
    rw[BH]at hz;injection hz with hyx hrest;injection hyx with hy hx;subst hy hx;simp only[AJ]at hlen;refine AA (he prog w _ _ ?_)
    wp_walk
    exact⟨rfl,rfl,_,_,hrest,hG2,by omega⟩
   |ne he hc =>
    rw[BH]at hz;injection hz with hyx hrest;injection hyx with hy hx;subst hy hx;refine AA (he prog w _ _ ?_);have hri:=hc prog w
    wp_walk using hri
    exact⟨_,rfl,by simpa using h⟩
  case fin =>
   rintro⟨b1,b2⟩ s' ⟨hb',rfl,vs,ws,hz,hG',hlen⟩;simp only at hb';subst hb';have hv:r=decide (items.size<items2.size):=by
    cases hG' with|nn hr=>simp only[Bs]at hlen;rw[hr];exact (AY (by omega)).symm|nc hr=>simp only[Bs,AJ]at hlen;rw[hr];exact (AV (by omega)).symm|cn hr=>simp only[Bs,AJ]at hlen;rw[hr];exact (AY (by omega)).symm|eq he hG2=>rw[BH]at hz;cases hz|ne he hc=>rw[BH]at hz;cases hz
   rw[hv]at h
   wp_walk
   exact⟨_,rfl,by simpa[Builtin.Tuple.tupleCompareSizes] using h⟩
  case h=>exact⟨rfl,rfl,items.toList,items2.toList,rfl,hG,by simp;omega⟩
end
end EX
namespace EV
open PySem PySem.Spec PyProof.Rows L2 EX
mutual
def plt:PV->PV->Option Bool| .int i,.int j=>some (decide (i<j))| .tup l,.tup m=>plts l m|_,_=>none
def plts:List PV->List PV->Option Bool|[],[]=>some false|[],_::_=>some true|_::_,[]=>some false|p::ps,q::qs=>if peq p q=true then plts ps qs else plt p q
end
section
variable{X:Cx}{pins:List (Addr×Obj)}{σ:L2.St}{H:Hp}{s:Shared}
def qKb(X:Cx)(H:Hp)(s:Shared)(A:Around)(p q:PV):Prop:=∀{v u:V} {uv uu:Value} {r:Bool},RW X.K H p v->RW X.K H q u->RelV v uv->RelV u uu->plt p q=some r ->
  ∀(prog:Program) (wd:World) (E:Value->Shared->Prop) (Q:Value->Shared->Prop),Q (.bool r) s->wpAny (model prog wd) A (richCompare .Lt uv uu) Q E s
theorem qJM(I:L2.Inv X pins σ H s){n:Nat}{A:Around}{r:Bool}(hu:A.units+n<cLine)(ih:∀p q,dep p≤n->qKb X H s A p q):∀{l m:List PV} {xs ys:List V} {its its2:List Value},deps l≤n->RWs X.K H l xs->RWs X.K H m ys->Vals xs its->Vals ys its2->plts l m=some r->LexG A s r its its2:=by
 intro l;induction l with
 |nil =>
  intro m xs ys its its2 _ h1 h2 r1 r2 e;unfold RWs at h1;subst h1;cases r1;cases m with|nil=>unfold RWs at h2;subst h2;cases r2;unfold plts at e;cases e;exact .nn rfl|cons q qs=>unfold RWs at h2;obtain⟨y,yr,rfl,_,_⟩:=h2;cases r2;unfold plts at e;cases e;exact .nc rfl
 |cons p ps ihl =>
  intro m xs ys its its2 hd h1 h2 r1 r2 e;unfold RWs at h1;obtain⟨x,xr,rfl,hx,hxs⟩:=h1;unfold deps at hd;cases r1 with
  |cons rx rxs =>
   cases m with
   |nil=>unfold RWs at h2;subst h2;cases r2;unfold plts at e;cases e;exact .cn rfl
   |cons q qs =>
    unfold RWs at h2;obtain⟨y,yr,rfl,hy,hys⟩:=h2;cases r2 with
    |cons ry rys =>
     have he:=qAA I n p q x y _ _ A (by omega) hu hx hy rx ry;unfold plts at e;cases hq:peq p q with|true=>rw[hq]at e he;exact .eq he (ihl (by omega) hxs hys rxs rys e)|false=>rw[hq]at e he;exact .ne he (ih p q (by omega) hx hy rx ry e)
theorem qKE(I:L2.Inv X pins σ H s):∀(n:Nat) (p q:PV) (A:Around),dep p≤n->A.units+n<cLine->qKb X H s A p q:=by
 intro n;induction n with
 |zero =>
  intro p q A hd hu v u uv uu r hp hq rv ru e prog wd E Q h;cases p with
  |int i =>
   cases q with|int j=>unfold RW at hp hq;subst hp;subst hq;obtain⟨t,rfl⟩:=rv;obtain⟨t',rfl⟩:=ru;unfold plt at e;cases e;exact HT.rcLt_int A s i t j t' prog wd E Q h|_=>simp[plt]at e
  |tup l=>unfold dep at hd;omega
  |_=>cases q <;> simp[plt]at e
 |succ n ih =>
  intro p q A hd hu v u uv uu r hp hq rv ru e prog wd E Q h;cases p with
  |int i =>
   cases q with|int j=>unfold RW at hp hq;subst hp;subst hq;obtain⟨t,rfl⟩:=rv;obtain⟨t',rfl⟩:=ru;unfold plt at e;cases e;exact HT.rcLt_int A s i t j t' prog wd E Q h|_=>simp[plt]at e
  |tup l =>
   cases q with
   |tup m =>
    unfold RW at hp hq;obtain⟨a,xs,rfl,h2,h3⟩:=hp;obtain⟨a',ys,rfl,k2,k3⟩:=hq;cases rv;cases ru;obtain⟨its,r1,t1,_⟩:=I.tuple h2;obtain⟨its2,r2,t2,_⟩:=I.tuple k2;unfold plt at e;unfold dep at hd;obtain⟨⟨cls,dd,data,sl⟩,ho,hc,n1,hda⟩:=id t1;obtain⟨⟨cls2,dd2,data2,sl2⟩,ho2,hc2,n2,hda2⟩:=id t2;simp only at hc hda hc2 hda2;subst hc hda hc2 hda2;have hu1:A.in1.units+n<cLine:=by show A.units+1+n<cLine;omega
    have G:=qJM I (n:=n) (A:=A.in1) hu1 (fun p q hd=>ih p q A.in1 hd hu1) (by omega) h3 k3 r1 r2 e;exact richCompare_meets_room (op:= .Lt) ⟨_,ho,rfl⟩ ⟨_,ho2,rfl⟩ PySem.F.slot_tuple_lt PySem.F.entry_tuple_lt (PySem.F.args_tuple_lt_2 _ _) (j7 _ _ its.toArray its2.toArray n1 n2 dd dd2 sl sl2 r)
     ⟨ho,ho2,by simpa using G,show Value.bool r≠Value.notImplemented∧Q (.bool r) s from⟨(fun x=>nomatch x),h⟩⟩ (by omega)
   |_=>simp[plt]at e
  |_=>cases q <;> simp[plt]at e
end
section
variable{X:Cx}{E:XK}{a c:Expr}{fa fb:FE}{pos:Pos}
def qKg(K:W.Frag):R2:=fun u v H Q=>∃p q r,RW K H p u∧RW K H q v∧dep p≤Z6∧plt p q=some r∧Q (.bl r) H
theorem qFJ(hr:X.A.units+64<cLine):OpR X (compareOp .Lt) (qKg X.K):=by intro pins s σ H x y v u Q I rx ry h;obtain⟨p,q,r,hp,hq,hd,e,h⟩:=h;exact qKE I 60 p q X.A hd (by omega) hp hq rx ry e _ _ _ _ ⟨.bl _,H,I,rfl,h⟩
def qAB:PV->PV->qC->Rs PV:=fun p q st=>if Yk (res st p) (res st q)=true then (match plt (res st p) (res st q) with|some r=>.ok (.bl r) st|none=>.no) else .no
theorem qEq:OpG X E (qKg X.K) qAB:=by
 intro H b st p q u v Q S rp rq P;unfold qAB at P;split at P
 ·rename_i h;obtain⟨h1,h2,h3⟩:=YT h;split at P;rename_i r hr;exact⟨_,_,r,Zn S rp h1,Zn S rq h2,h3,hr,PostE.here P S W7⟩;exact P.elim
 ·exact P.elim
theorem qJe(hu:X.A.units+64<cLine)(ha:VE X E a fa)(hb:VE X E c fb):VE X E (.Compare a [.Lt] [c] pos) (qJ qAB fa fb):=JC (qFJ hu) qEq ha hb
end
end EV
end
section
namespace ET
open PySem
def Rz(xs:Array Nat):Prop:=∀i k,i<k->k<xs.size->xs.getD i 0<xs.getD k 0
theorem qGR{xs:Array Nat}{i a b:Nat}(h:i<xs.size):xs.getD i a=xs.getD i b:=by rw[AL,AL,AS h];rfl
theorem YV{xs:Array Nat}{j:Nat}(R:Rz xs):∀(f lo hi:Nat),lo≤hi->hi≤xs.size->hi-lo≤f->(∀i,i<lo->xs.getD i 0<j)->(∀i,hi≤i->i<xs.size->j≤xs.getD i 0) ->
  (∀i,i<SetTable.below.go xs j f lo hi->xs.getD i 0<j)∧(∀i,SetTable.below.go xs j f lo hi≤i->i<xs.size->j≤xs.getD i 0)∧SetTable.below.go xs j f lo hi≤xs.size
 |0,lo,hi,h1,h2,h3,h4,h5=>by
  have:lo=hi:=by omega
  subst this;exact⟨h4,h5,h2⟩
 |f+1,lo,hi,h1,h2,h3,h4,h5=>by
  unfold SetTable.below.go;by_cases hl:lo<hi
  ·rw[AE hl];have hm1:lo≤(lo+hi)/2:=by omega
   have hm2:(lo+hi)/2<hi:=by omega
   dsimp only;rw[qGR (b:=0) (show (lo+hi)/2<xs.size by omega)];by_cases hq:xs.getD ((lo+hi)/2) 0<j
   ·rw[AE hq];refine YV R f _ _ (by omega) h2 (by omega) (fun i hi'=>?_) h5;by_cases he:i=(lo+hi)/2;rw[he];exact hq;exact CU (R i _ (by omega) (by omega)) hq
   ·rw[AF hq];refine YV R f _ _ (by omega) (by omega) (by omega) h4 (fun i hi' hs=>?_);by_cases he:i=(lo+hi)/2;rw[he];omega
    ·have:=R _ i (show (lo+hi)/2<i by omega) hs
     omega
  ·rw[AF hl]
   have:lo=hi:=by omega
   subst this;exact⟨h4,h5,h2⟩
theorem zp{xs:Array Nat}(R:Rz xs)(j:Nat):(∀i,i<SetTable.below xs j->xs.getD i 0<j)∧(∀i,SetTable.below xs j≤i->i<xs.size->j≤xs.getD i 0)∧SetTable.below xs j≤xs.size :=
 YV R _ _ _ (A6 _) (AG _) (AG _) (fun i h=>absurd h (BG _)) (fun i h1 h2=>absurd h2 (by omega))
theorem qFS{xs:Array Nat}(R:Rz xs){i:Nat}(h:i<xs.size):SetTable.below xs (xs.getD i 0)=i:=by
 obtain⟨h1,h2,h3⟩:=zp R (xs.getD i 0);by_cases hq:SetTable.below xs (xs.getD i 0)=i;exact hq
 ·rcases Nat.lt_or_gt_of_ne hq with q|q
  ·have:=h2 _ (AG _) (by omega)
   have:=R _ _ q h
   omega
  ·have:=h1 i q;omega
theorem mem_getD{xs:Array Nat}{j:Nat}:j∈xs.toList ↔ ∃i,i<xs.size∧xs.getD i 0=j:=by
 constructor
 ·intro h;obtain⟨i,hi,e⟩:=List.getElem_of_mem h;refine⟨i,by simpa using hi,?_⟩;rw[AL,AS (by simpa using hi)];simpa using e
 ·rintro⟨i,hi,rfl⟩;rw[AL,AS hi];exact CD.mpr (Array.getElem_mem hi)
theorem qCZ(j:Nat):SetTable.has #[] j=false:=by unfold SetTable.has;simp
theorem jd{t:SetTable}(R:Rz t.place){i:Nat}(h:i<t.place.size):t.slot (t.place.getD i 0)= .live i:=by unfold SetTable.slot;rw[qFS R h];dsimp only;rw[AE];rw[AL,AS h];simp
theorem qA6{t:SetTable}(hd:t.dummies = #[]){j:Nat}(h:j∉t.place.toList):t.slot j= .empty:=by
 unfold SetTable.slot;dsimp only;rw[AF,hd,qCZ];simp;intro q;refine h (mem_getD.mpr ⟨SetTable.below t.place j,?_⟩);have q:=eq_of_beq q;obtain⟨h1,h2⟩:=BZ.mp q;refine⟨h1,?_⟩;rw[AL,q];rfl
def qBq(mask:Nat)(p:SetTable.Probe):SetTable.Probe :=
 if p.more>0 then { p with j:=p.j+1,more:=p.more-1 } else
 { p with j:=(SetTable.leap mask p.i p.perturb).1,more:=SetTable.runEnd mask (SetTable.leap mask p.i p.perturb).1-(SetTable.leap mask p.i p.perturb).1,i:=(SetTable.leap mask p.i p.perturb).1,perturb:=(SetTable.leap mask p.i p.perturb).2 }
theorem qIQ(t:SetTable)(p:SetTable.Probe):t.advance p=qBq t.mask p:=rfl
def sq(mask:Nat)(h:Int):Nat->SetTable.Probe|0=>⟨SetTable.bits h%(mask+1),SetTable.runEnd mask (SetTable.bits h%(mask+1))-SetTable.bits h%(mask+1),SetTable.bits h%(mask+1),SetTable.bits h,none⟩|n+1=>qBq mask (sq mask h n)
def lp(mask:Nat)(h:Int):Nat->Nat×Nat|0=>(SetTable.bits h%(mask+1),SetTable.bits h)|n+1=>SetTable.leap mask (lp mask h n).1 (lp mask h n).2
def rn(mask i:Nat):Nat:=SetTable.runEnd mask i-i
def lpN(mask:Nat)(h:Int):Nat->Nat|0=>0|n+1=>lpN mask h n+rn mask (lp mask h n).1+1
theorem qA1{mask:Nat}{h:Int}{m n:Nat}(e:sq mask h n=⟨(lp mask h m).1,rn mask (lp mask h m).1,(lp mask h m).1,(lp mask h m).2,none⟩):∀k,k≤rn mask (lp mask h m).1->sq mask h (n+k)=⟨(lp mask h m).1+k,rn mask (lp mask h m).1-k,(lp mask h m).1,(lp mask h m).2,none⟩
 |0,_=>e
 |k+1,hk=>by
  rw[←Nat.add_assoc,sq,qA1 e k (by omega)];unfold qBq;rw[AE (show rn mask (lp mask h m).1-k>0 by omega)];show SetTable.Probe.mk _ _ _ _ _=_;rw[show rn mask (lp mask h m).1-k-1=rn mask (lp mask h m).1-(k+1) by omega,Nat.add_assoc]
theorem qCC{mask:Nat}{h:Int}:∀m,sq mask h (lpN mask h m)=⟨(lp mask h m).1,rn mask (lp mask h m).1,(lp mask h m).1,(lp mask h m).2,none⟩
 |0=>rfl
 |m+1=>by
  rw[lpN,sq,qA1 (qCC m) _ (AG _)];unfold qBq;rw[AF (show ¬rn mask (lp mask h m).1-rn mask (lp mask h m).1>0 by omega)];rfl
theorem qH9{mask:Nat}{h:Int}{m k:Nat}(hk:k≤rn mask (lp mask h m).1):(sq mask h (lpN mask h m+k)).j=(lp mask h m).1+k:=by rw[qA1 (qCC m) k hk]
theorem qK7(mask i:Nat):rn mask i≤9:=by unfold rn SetTable.runEnd;split <;> omega
theorem qE5{mask:Nat}{h:Int}:∀m,lpN mask h m≤10*m
 |0=>AG _
 |m+1=>by
  have:=qE5 (mask:=mask) (h:=h) m
  have:=qK7 mask (lp mask h m).1
  rw[lpN];omega
theorem qKH{mask:Nat}{h:Int}:∀m,(lp mask h m).1≤mask|0=>Nat.le_of_lt_succ (Nat.mod_lt _ (Nat.succ_pos _))|m+1=>Nat.le_of_lt_succ (Nat.mod_lt _ (Nat.succ_pos _))
theorem qCv{mask:Nat}{h:Int}:∀m,(lp mask h m).2=SetTable.bits h/32 ^ m|0=>by simp[lp]|m+1=>by show (lp mask h m).2/32=_;rw[qCv m,Nat.div_div_eq_div_mul,Nat.pow_succ]
theorem jo(h:Int):SetTable.bits h<2 ^ 64:=by
 unfold SetTable.bits
 have:=Int.emod_lt_of_pos h (show (0:Int)<2 ^ 64 by decide)
 have:=Int.emod_nonneg h (show (2 ^ 64:Int)≠0 by decide)
 omega
theorem qJs{mask:Nat}{h:Int}(m:Nat)(hm:13≤m):(lp mask h m).2=0:=by rw[qCv];refine Nat.div_eq_of_lt (Ah (jo h) ?_);exact Ag (show 2 ^ 64≤32 ^ 13 by decide) (Nat.pow_le_pow_right (by decide) hm)
def cy(mask:Nat)(a:Nat):Nat->Nat|0=>a|n+1=>(cy mask a n*5+1)%(mask+1)
theorem YO{mask a:Nat}(m:Nat):∀n,cy mask (cy mask a m) n=cy mask a (m+n)|0=>rfl|n+1=>by rw[←Nat.add_assoc,cy,cy,YO m n]
def Cyc(mask:Nat):Prop:=∀a,a≤mask->∀e,e≤mask->∃k,k≤mask∧cy mask a k=e
def cyl(mask:Nat):Nat->Nat->List Nat|0,_=>[]|n+1,a=>a::cyl mask n ((a*5+1)%(mask+1))
theorem qCm{mask:Nat}:∀(n a i:Nat),i<n->(cyl mask n a)[i]? = some (cy mask a i)
 |0,_,_,h=>absurd h (BG _)
 |n+1,a,0,_=>rfl
 |n+1,a,i+1,h=>by
  rw[cyl,List.getElem?_cons_succ,qCm n _ i (by omega)]
  have:=YO (mask:=mask) (a:=a) 1 i
  rw[show i+1=1+i by omega,←this];rfl
theorem qB5{mask:Nat}:∀(n a:Nat),(cyl mask n a).length=n|0,_=>rfl|n+1,a=>by rw[cyl,AJ,qB5 n]
def qKL(mask:Nat):Bool:=Nat.beq (cy mask 0 (mask+1)) 0&&(List.range (mask+1)).all fun e=>(cyl mask (mask+1) 0).any fun x=>Nat.beq x e
theorem JJ{mask:Nat}(h:qKL mask=true):Cyc mask:=by
 unfold qKL at h;rw[AX,Ay]at h;obtain⟨h0,hall⟩:=h;have h0:=Nat.eq_of_beq_eq_true h0;have hat:∀e,e≤mask->∃k,k≤mask∧cy mask 0 k=e:=fun e he=>by
  obtain⟨x,hx,q⟩:=List.any_eq_true.mp (hall e (BA.mpr (by omega)));have q:=Nat.eq_of_beq_eq_true q;obtain⟨k,hk⟩:=BK hx;have hl:=(AQ.mp hk).1;rw[qB5]at hl;rw[qCm _ _ _ hl]at hk;cases hk;exact⟨k,by omega,q⟩
 intro a ha e he;obtain⟨k1,h1,e1⟩:=hat a ha;obtain⟨k2,h2,e2⟩:=hat e he;by_cases hq:k1≤k2
 ·refine⟨k2-k1,by omega,?_⟩;rw[←e1,YO,show k1+(k2-k1)=k2 by omega,e2]
 ·refine⟨k2+(mask+1)-k1,by omega,?_⟩;rw[←e1,YO,show k1+(k2+(mask+1)-k1)=(mask+1)+k2 by omega,←YO,h0,e2]
theorem qLQ:Cyc 7:=JJ (by decide +kernel)
theorem qLJ:Cyc 31:=JJ (by decide +kernel)
theorem qJ4:Cyc 127:=JJ (by decide +kernel)
theorem qJi:Cyc 511:=JJ (by decide +kernel)
theorem qH4{mask:Nat}{h:Int}:∀n,(lp mask h (13+n)).1=cy mask (lp mask h 13).1 n
 |0=>rfl
 |n+1=>by
  show ((lp mask h (13+n)).1*5+1+(lp mask h (13+n)).2/32)%(mask+1)=_;rw[qJs _ (by omega),qH4 n];rfl
theorem qEP{mask:Nat}{h:Int}(C:Cyc mask){e:Nat}(he:e≤mask):∃m,m≤mask+13∧(lp mask h m).1=e:=by obtain⟨k,hk,q⟩:=C _ (qKH (mask:=mask) (h:=h) 13) e he;exact⟨13+k,by omega,by rw[qH4,q]⟩
theorem qIk{mask:Nat}{h:Int}(C:Cyc mask){e:Nat}(he:e≤mask):∃n,n<10*SetTable.turns mask∧(sq mask h n).j=e:=by
 obtain⟨m,hm,q⟩:=qEP (h:=h) C he;refine⟨lpN mask h m,?_,?_⟩
 ·have:=qE5 (mask:=mask) (h:=h) m
  unfold SetTable.turns;omega
 ·rw[qCC];exact q
structure TbG (t:SetTable) (n:Nat):Prop where
 dum:t.dummies = #[]
 sz:t.place.size=n
 ris:Rz t.place
 le:∀j∈t.place.toList,j≤t.mask
 room:n≤t.mask
theorem qBS:∀(n:Nat) (l:List Nat),l.length<n->∃e,e<n∧e∉l
 |0,l,h=>absurd h (BG _)
 |n+1,l,h=>by
  by_cases hn:n∈l
  ·obtain⟨e,he,hq⟩:=qBS n (l.filter (· ≠ n)) (by
    have:(l.filter (· ≠ n)).length<l.length:=by apply List.length_filter_lt_length_iff_exists.mpr;exact⟨n,hn,by simp⟩
    omega)
   refine⟨e,by omega,fun q=>hq (List.mem_filter.mpr ⟨q,by simp;omega⟩)⟩
  ·exact⟨n,by omega,hn⟩
theorem TbG.free{t:SetTable}{n:Nat}(T:TbG t n):∃e,e≤t.mask∧e∉t.place.toList:=by
 obtain⟨e,h1,h2⟩:=qBS (t.mask+1) t.place.toList (by rw[AZ,T.sz];have:=T.room;omega);exact⟨e,by omega,h2⟩
theorem Je{P:Nat->Prop}(hd:∀n,Decidable (P n)):∀{n:Nat},P n->∃k,k≤n∧P k∧∀m,m<k->¬P m
 |0,h=>⟨0,AG _,h,fun m hm=>absurd hm (BG _)⟩
 |n+1,h=>by
  by_cases hq:∃m,m≤n∧P m
  ·obtain⟨m,hm,hp⟩:=hq
   have:∀(f:Nat) (m:Nat),m≤f->P m->∃k,k≤m∧P k∧∀m',m'<k->¬P m':=by
    intro f;induction f with
    |zero =>
     intro m hm hp
     have:m=0:=by omega
     subst this;exact⟨0,AG _,hp,fun m hm=>absurd hm (BG _)⟩
    |succ f ih =>
     intro m hm hp;by_cases hz:∃m',m'<m∧P m'
     ·obtain⟨m',h1,h2⟩:=hz;obtain⟨k,k1,k2,k3⟩:=ih m' (by omega) h2;exact⟨k,by omega,k2,k3⟩
     ·exact⟨m,AG _,hp,fun m' h1 h2=>hz ⟨m',h1,h2⟩⟩
   obtain⟨k,k1,k2,k3⟩:=this m m (AG _) hp;exact⟨k,by omega,k2,k3⟩
  ·exact⟨n+1,AG _,h,fun m hm hp=>hq ⟨m,by omega,hp⟩⟩
theorem TbG.first{t:SetTable}{n:Nat}(T:TbG t n)(C:Cyc t.mask)(h:Int):∃k,k<10*SetTable.turns t.mask∧(sq t.mask h k).j∉t.place.toList∧∀m,m<k->(sq t.mask h m).j∈t.place.toList:=by
 obtain⟨e,he,hq⟩:=T.free;obtain⟨k,hk,hj⟩:=qIk (h:=h) C he;obtain⟨k',k1,k2,k3⟩:=Je (P:=fun k=>(sq t.mask h k).j∉t.place.toList) (fun _=>inferInstance) (n:=k) (by rw[hj];exact hq);exact⟨k',by omega,k2,fun m hm=>Decidable.not_not.mp (k3 m hm)⟩
theorem YL(mask:Nat)(h:Int):∀n,(sq mask h n).dummy=none
 |0=>rfl
 |n+1=>by
  rw[sq];unfold qBq;split;exact YL mask h n;exact YL mask h n
theorem qAf{t:SetTable}{n:Nat}(T:TbG t n)(f:Nat->Int)(h:Int){k:Nat}(hk:(sq t.mask h k).j∉t.place.toList)(hb:∀m,m<k->(sq t.mask h m).j∈t.place.toList):∀(F m:Nat),m≤k->k-m<F ->
  ((∀x,m≤x->x<k->∀i,t.place.getD i 0=(sq t.mask h x).j->i<t.place.size->f i≠h)∧SetTable.probe.go t f h F (sq t.mask h m)=some (.empty (sq t.mask h k).j none)) ∨
  ∃x i,m≤x∧x<k∧i<t.place.size∧t.place.getD i 0=(sq t.mask h x).j∧f i=h∧(∀y,m≤y->y<x->∀i,t.place.getD i 0=(sq t.mask h y).j->i<t.place.size->f i≠h)∧SetTable.probe.go t f h F (sq t.mask h m)=some (.candidate (sq t.mask h x).j i (sq t.mask h (x+1)))
 |0,m,_,h2=>absurd h2 (BG _)
 |F+1,m,h1,h2=>by
  rw[SetTable.probe.go];by_cases he:m=k
  ·subst he;left;refine⟨fun x a b=>absurd b (by omega),?_⟩;rw[qA6 T.dum hk,YL]
  ·have hm:=hb m (by omega);obtain⟨i,hi,e⟩:=mem_getD.mp hm;have hsl:t.slot (sq t.mask h m).j= .live i:=by rw[←e];exact jd T.ris hi
   rw[hsl];dsimp only;have uniq:∀i',t.place.getD i' 0=(sq t.mask h m).j->i'<t.place.size->i'=i:=fun i' e' h'=>by
    rcases Nat.lt_trichotomy i' i with q|q|q
    ·have:=T.ris _ _ q hi;omega
    ·exact q
    ·have:=T.ris _ _ q h';omega
   by_cases hf:f i=h
   ·rw[AE (by rw[hf];exact Aj h)];right;exact⟨m,i,AG _,by omega,hi,e,hf,fun y a b=>absurd b (by omega),rfl⟩
   ·rw[AF (by simpa using hf)]
    have:=qAf T f h hk hb F (m+1) (by omega) (by omega)
    rw[qIQ];have hs:qBq t.mask (sq t.mask h m)=sq t.mask h (m+1):=rfl;rw[hs];rcases this with⟨a,b⟩|⟨x,i',a,b,c,d,e1,e2,e3⟩
    ·left;refine⟨fun x h1 h2 i' e' h'=>?_,b⟩;by_cases hx:x=m;subst hx;rw[uniq i' e' h'];exact hf;exact a x (by omega) h2 i' e' h'
    ·right;refine⟨x,i',by omega,b,c,d,e1,fun y h1 h2 i'' e' h'=>?_,e3⟩;by_cases hx:y=m;subst hx;rw[uniq i'' e' h'];exact hf;exact e2 y (by omega) h2 i'' e' h'
def Rch{α:Type}(t:SetTable)(es:List (Int×α)):Prop:=∀q∈t.place.toList.zip es,∃m,(sq t.mask q.2.1 m).j=q.1∧∀m',m'<m->(sq t.mask q.2.1 m').j∈t.place.toList
theorem qGW{α:Type}(xs:Array α)(p:Nat)(x:α):(SetTable.insertAt xs p x).toList=xs.toList.take p++x::xs.toList.drop p:=by unfold SetTable.insertAt;simp[Array.toList_append,List.take_of_length_le]
theorem ris_list{xs:Array Nat}:Rz xs ↔ xs.toList.Pairwise (· < ·):=by
 rw[List.pairwise_iff_getElem];constructor
 ·intro R i j hi hj hij
  have:=R i j hij (by simpa using hj)
  rw[AL,AL,AS (by simpa using hi),AS (by simpa using hj)]at this;simpa using this
 ·intro R i k hik hk
  have:=R i k (by simp;omega) (by simpa using hk) hik
  rw[AL,AL,AS (by omega),AS hk];simpa using this
theorem qHa{xs:Array Nat}(R:Rz xs){j:Nat}:∀x∈xs.toList.take (SetTable.below xs j),x<j:=by
 intro x hx;obtain⟨i,hi,e⟩:=List.getElem_of_mem hx;rw[Ba,AZ]at hi
 have:=(zp R j).1 i (by omega)
 rw[AL,AS (by omega)]at this;rw[List.getElem_take]at e;simp at e this;omega
theorem qCW{xs:Array Nat}(R:Rz xs){j:Nat}:∀x∈xs.toList.drop (SetTable.below xs j),j≤x:=by
 intro x hx;obtain⟨i,hi,e⟩:=List.getElem_of_mem hx;rw[Bc,AZ]at hi
 have:=(zp R j).2.1 (SetTable.below xs j+i) (by omega) (by omega)
 rw[AL,AS (by omega)]at this;rw[List.getElem_drop]at e;simp at e this;omega
theorem qHN{xs:Array Nat}(R:Rz xs){j:Nat}(h:j∉xs.toList):Rz (SetTable.insertAt xs (SetTable.below xs j) j):=by
 rw[ris_list,qGW];have P:=ris_list.mp R;rw[List.pairwise_append];refine⟨P.sublist (List.take_sublist _ _),?_,?_⟩
 ·rw[B6];refine⟨fun x hx=>?_,P.sublist (List.drop_sublist _ _)⟩
  have:=qCW R x hx
  have:x≠j:=fun q=>h (by rw[←q];exact CG hx)
  omega
 ·intro a ha b hb;have h1:=qHa R a ha;rcases AH.mp hb with q|q
  ·omega
  ·have:=qCW R b q;omega
theorem qGY{α β:Type}{xs:List α}{ys:List β}{p:Nat}{x:α}{y:β}(hl:xs.length=ys.length):(xs.take p++x::xs.drop p).zip (ys.take p++y::ys.drop p)=(xs.zip ys).take p++(x,y)::(xs.zip ys).drop p:=by rw[List.zip_append (by simp[hl]),BH,List.zip_eq_zipWith,List.zip_eq_zipWith,List.zip_eq_zipWith,List.take_zipWith,List.drop_zipWith]
theorem qIi{α:Type}{t:SetTable}{es:Array (Int×α)}{h:Int}{x:α}{k:Nat}(T:TbG t es.size)(hr:es.size+1≤t.mask)(R:Rch t es.toList)(hjm:(sq t.mask h k).j≤t.mask)(hk:(sq t.mask h k).j∉t.place.toList)(hb:∀m,m<k->(sq t.mask h m).j∈t.place.toList) :
  TbG (t.put (sq t.mask h k).j).1 (es.size+1)∧Rch (t.put (sq t.mask h k).j).1 (SetTable.insertAt es (t.put (sq t.mask h k).j).2 (h,x)).toList∧(SetTable.insertAt es (t.put (sq t.mask h k).j).2 (h,x)).toList.Perm ((h,x)::es.toList):=by
 have hp:(t.put (sq t.mask h k).j).1.place.toList=t.place.toList.take (SetTable.below t.place (sq t.mask h k).j)++(sq t.mask h k).j::t.place.toList.drop (SetTable.below t.place (sq t.mask h k).j):=qGW _ _ _;have hmem:∀j,j∈(t.put (sq t.mask h k).j).1.place.toList ↔ j=(sq t.mask h k).j∨j∈t.place.toList:=by
  intro j;rw[hp,A1,AH];constructor
  ·rintro (q|q|q);exact .inr (List.mem_of_mem_take q);exact .inl q;exact .inr (CG q)
  ·rintro (q|q);exact .inr (.inl q)
   ·rw[←List.take_append_drop (SetTable.below t.place (sq t.mask h k).j) t.place.toList,A1]at q;rcases q with q|q
    ·exact .inl q
    ·exact .inr (.inr q)
 refine⟨⟨?_,?_,qHN T.ris hk,?_,hr⟩,?_,?_⟩;show (if SetTable.has t.dummies _=true then SetTable.eraseAt t.dummies _ else t.dummies) = #[];rw[T.dum,qCZ];rfl
 ·rw[←AZ,hp]
  have:=(zp T.ris (sq t.mask h k).j).2.2
  rw[AO,Ba,AJ,Bc,AZ,T.sz]at *;omega
 ·intro j hj;rcases (hmem j).mp hj with q|q
  ·rw[q];exact hjm
  ·exact T.le j q
 ·intro q hq;rw[hp,qGW]at hq;have hq:q∈(t.place.toList.take (SetTable.below t.place (sq t.mask h k).j)++(sq t.mask h k).j::t.place.toList.drop (SetTable.below t.place (sq t.mask h k).j)).zip (es.toList.take (SetTable.below t.place (sq t.mask h k).j)++(h,x)::es.toList.drop (SetTable.below t.place (sq t.mask h k).j)):=hq;rw[qGY (by rw[AZ,AZ,T.sz]),A1,AH]at hq;have old:q∈t.place.toList.zip es.toList->∃m,(sq t.mask q.2.1 m).j=q.1∧∀m',m'<m->(sq t.mask q.2.1 m').j∈(t.put (sq t.mask h k).j).1.place.toList:=fun hq=>by obtain⟨m,h1,h2⟩:=R q hq;exact⟨m,h1,fun m' hm=>(hmem _).mpr (.inr (h2 m' hm))⟩
  rcases hq with hq|hq|hq
  ·exact old (List.mem_of_mem_take hq)
  ·subst hq;exact⟨k,rfl,fun m' hm=>(hmem _).mpr (.inr (hb m' hm))⟩
  ·exact old (CG hq)
 ·rw[qGW];refine List.perm_middle.trans ?_;rw[List.take_append_drop]
structure Ow (mask:Nat) (owner:Array (Option Nat)) (hs:List Int) (js:List Nat):Prop where
 size:owner.size=mask+1
 len:js.length=hs.length
 iff:∀(j k:Nat),owner[j]? = some (some k) ↔ js[k]? = some j
 way:∀(k:Nat) (h:Int) (j:Nat),hs[k]? = some h->js[k]? = some j->∃m,(sq mask h m).j=j∧∀m',m'<m->(sq mask h m').j∈js
 le:∀j∈js,j≤mask
theorem Jk{mask:Nat}{h:Int}{a:Nat}:∀{b:Nat},a≤b->lpN mask h a≤lpN mask h b
 |0,q=>by
  have:a=0:=by omega
  subst this;exact AG _
 |b+1,q=>by
  by_cases e:a=b+1;subst e;exact AG _
  ·have:=Jk (mask:=mask) (h:=h) (a:=a) (b:=b) (by omega)
   rw[lpN];omega
theorem qIW{mask:Nat}{h:Int}{a b:Nat}(q:a<b):lpN mask h a<lpN mask h b:=by
 have:=Jk (mask:=mask) (h:=h) (show a+1≤b by omega)
 rw[lpN]at this;omega
theorem qCU{mask:Nat}{owner:Array (Option Nat)}{hs:List Int}{js:List Nat}(O:Ow mask owner hs js){h:Int}{k0:Nat}(hk:(sq mask h k0).j∉js)(hkm:(sq mask h k0).j≤mask)(hb:∀m,m<k0->(sq mask h m).j∈js) :
  ∀(F m:Nat),lpN mask h m≤k0->k0<lpN mask h (m+F)->SetTable.layClean.free mask owner F (lp mask h m).1 (lp mask h m).2=some (sq mask h k0).j
 |0,m,h1,h2=>by rw[Nat.add_zero]at h2;omega
 |F+1,m,h1,h2=>by
  rw[SetTable.layClean.free];have hrn:SetTable.runEnd mask (lp mask h m).1+1-(lp mask h m).1=rn mask (lp mask h m).1+1:=by unfold rn SetTable.runEnd;split <;> omega
  have occ:∀k,k≤rn mask (lp mask h m).1->lpN mask h m+k<k0->(owner.getD ((lp mask h m).1+k) (some 0)).isNone=false:=fun k a b=>by
   have:=hb _ b
   rw[qH9 a]at this;obtain⟨i,hi⟩:=BK this
   have:=(O.iff _ _).mpr hi
   rw[AL,this];rfl
  rw[hrn];by_cases hq:k0≤lpN mask h m+rn mask (lp mask h m).1
  ·have ej:(sq mask h k0).j=(lp mask h m).1+(k0-lpN mask h m):=by
    have:=qH9 (mask:=mask) (h:=h) (m:=m) (k:=k0-lpN mask h m) (by omega)
    rw[show lpN mask h m+(k0-lpN mask h m)=k0 by omega]at this;exact this
   have hf:(List.range (rn mask (lp mask h m).1+1)).find? (fun k=>(owner.getD ((lp mask h m).1+k) (some 0)).isNone)=some (k0-lpN mask h m):=by
    rw[List.find?_range_eq_some];refine⟨?_,BA.mpr (by omega),fun j hj=>?_⟩
    ·rw[←ej,AL,AS (by rw[O.size];omega)];cases hx:owner[(sq mask h k0).j]'(by rw[O.size];omega) with|none=>rfl|some k'=>exfalso;refine hk (Aq ((O.iff _ k').mp ?_));rw[AS (by rw[O.size];omega),hx]
    ·rw[occ j (by omega) (by omega)];rfl
   rw[hf,ej]
  ·have hf:(List.range (rn mask (lp mask h m).1+1)).find? (fun k=>(owner.getD ((lp mask h m).1+k) (some 0)).isNone)=none:=by
    rw[List.find?_eq_none];intro k hk';rw[occ k (by have:=BA.mp hk';omega) (by have:=BA.mp hk';omega)];simp
   rw[hf];exact qCU O hk hkm hb F (m+1) (by rw[lpN];omega) (by rw[show m+1+F=m+(F+1) by omega];exact h2)
theorem qH2{mask:Nat}{h:Int}(n:Nat):(sq mask h n).j≤mask:=by
 have:∀n,(sq mask h n).j+(sq mask h n).more≤mask∧(sq mask h n).i≤mask:=by
  intro n;have key:∀i,i≤mask->i+(SetTable.runEnd mask i-i)≤mask:=fun i hi=>by unfold SetTable.runEnd;split <;> omega
  induction n with
  |zero=>have hi:SetTable.bits h%(mask+1)≤mask:=Nat.le_of_lt_succ (Nat.mod_lt _ (Nat.succ_pos _));exact⟨key _ hi,hi⟩
  |succ n ih =>
   rw[sq];unfold qBq;split;rename_i hm;exact⟨by show (sq mask h n).j+1+((sq mask h n).more-1)≤mask;omega,ih.2⟩;have hi:(SetTable.leap mask (sq mask h n).i (sq mask h n).perturb).1≤mask:=Nat.le_of_lt_succ (Nat.mod_lt _ (Nat.succ_pos _));exact⟨key _ hi,hi⟩
 have:=(this n).1
 omega
theorem Ow.step{mask:Nat}{owner:Array (Option Nat)}{hs:List Int}{js:List Nat}(O:Ow mask owner hs js)(C:Cyc mask)(hl:hs.length≤mask)(h:Int):∃j,SetTable.layClean.free mask owner (SetTable.turns mask) (SetTable.bits h%(mask+1)) (SetTable.bits h)=some j∧Ow mask (owner.setIfInBounds j (some hs.length)) (hs++[h]) (js++[j]):=by
 obtain⟨e,he,hq⟩:=qBS (mask+1) js (by rw[O.len];omega);obtain⟨m,hm,q⟩:=qEP (h:=h) C (show e≤mask by omega);obtain⟨k0,k1,k2,k3⟩:=Je (P:=fun k=>(sq mask h k).j∉js) (fun _=>inferInstance) (n:=lpN mask h m) (by rw[qCC,q];exact hq);have hb:∀m,m<k0->(sq mask h m).j∈js:=fun m hm=>Decidable.not_not.mp (k3 m hm);have hj:=qH2 (mask:=mask) (h:=h) k0;refine⟨_,qCU O k2 hj hb (SetTable.turns mask) 0 (A6 _) ?_,?_⟩;rw[Nat.zero_add];refine Bq k1 (qIW ?_);unfold SetTable.turns;omega
 ·have hmem:∀x,x∈js++[(sq mask h k0).j] ↔ x∈js∨x=(sq mask h k0).j:=fun x=>by simp
  refine⟨by simp[O.size],by simp[O.len],fun j k=>?_,fun k h' j h1 h2=>?_,fun j hj'=>?_⟩
  ·rw[Array.getElem?_setIfInBounds];by_cases hjj:(sq mask h k0).j=j
   ·rw[AE hjj,AE (by rw[O.size];omega)];constructor
    ·intro z;cases z;rw[At (by rw[O.len];exact AG _),O.len,Nat.sub_self];simp[hjj]
    ·intro z;by_cases hkl:k<js.length;rw[Ae hkl]at z;exact absurd (by rw[hjj];exact Aq z) k2
     ·rw[At (by omega)]at z
      have:k-js.length=0:=by
       have:=(AQ.mp z).1
       simp at this;omega
      rw[show k=hs.length by have:=O.len;omega]
   ·rw[AF hjj,O.iff];constructor;intro z;rw[Ae (AQ.mp z).1];exact z
    ·intro z;by_cases hkl:k<js.length;rwa[Ae hkl]at z
     ·rw[At (by omega)]at z;have h0:=(AQ.mp z).1
      have:k-js.length=0:=by simp at h0;omega
      rw[this]at z;simp at z;exact absurd z hjj
  ·by_cases hkl:k<js.length
   ·rw[Ae hkl]at h2;rw[Ae (by rw[←O.len];exact hkl)]at h1;obtain⟨m,a,b⟩:=O.way k h' j h1 h2;exact⟨m,a,fun m' hm'=>(hmem _).mpr (.inl (b m' hm'))⟩
   ·rw[At (by omega)]at h2;rw[At (by have:=O.len;omega)]at h1;have h0:=(AQ.mp h2).1;have z:k-js.length=0:=by simp at h0;omega
    rw[←O.len,z]at h1;rw[z]at h2;simp at h1 h2;subst h1;subst h2;exact⟨k0,rfl,fun m' hm'=>(hmem _).mpr (.inl (hb m' hm'))⟩
  ·rcases (hmem j).mp hj' with q|q
   ·exact O.le j q
   ·rw[q];exact hj
theorem qAv{mask:Nat}(C:Cyc mask):∀(r hs:List Int) (owner:Array (Option Nat)) (js:List Nat),Ow mask owner hs js->hs.length+r.length≤mask+1 ->
  ∃owner' js',r.foldl (fun acc h=>do
   let (owner,k) ← acc;let j ← SetTable.layClean.free mask owner (SetTable.turns mask) (SetTable.bits h%(mask+1)) (SetTable.bits h)
   pure (owner.setIfInBounds j (some k),k+1)) (some (owner,hs.length))=some (owner',(hs++r).length)∧Ow mask owner' (hs++r) js'
 |[],hs,owner,js,O,_=>⟨owner,js,by simp,by simpa using O⟩
 |h::r,hs,owner,js,O,hl=>by
  rw[AJ]at hl;obtain⟨j,e,O'⟩:=O.step C (by omega) h;obtain⟨ow,js',e2,O2⟩:=qAv C r (hs++[h]) _ _ O' (by rw[AO,Am];omega);refine⟨ow,js',?_,by simpa using O2⟩;rw[List.foldl_cons]
  have:(do
   let (owner,k) ← some (owner,hs.length);let j ← SetTable.layClean.free mask owner (SetTable.turns mask) (SetTable.bits h%(mask+1)) (SetTable.bits h)
   pure (owner.setIfInBounds j (some k),k+1))=some (owner.setIfInBounds j (some hs.length),hs.length+1):=by
   show (do
    let j ← SetTable.layClean.free mask owner (SetTable.turns mask) (SetTable.bits h%(mask+1)) (SetTable.bits h)
    pure (owner.setIfInBounds j (some hs.length),hs.length+1))=_
   rw[e];rfl
  rw[this];simpa using e2
theorem qFe{mask:Nat}(C:Cyc mask)(hashes:Array Int)(hl:hashes.size≤mask+1):∃owner js,SetTable.layClean mask hashes=some owner∧Ow mask owner hashes.toList js:=by
 obtain⟨owner,js,e,O⟩:=qAv C hashes.toList [] (Array.replicate (mask+1) none) [] ⟨by simp,rfl,fun j k=>by
  constructor;intro z;rw[Array.getElem?_replicate]at z;split at z <;> simp at z;intro z;simp at z,fun k h j h1 h2=>by simp at h1,fun j h=>by simp at h⟩ (by simpa using hl)
 refine⟨owner,js,?_,by simpa using O⟩;unfold SetTable.layClean;rw[←Array.foldl_toList];have e':=e;simp only[CQ]at e';have h0:(some (Array.replicate (mask+1) none,([]:List Int).length):Option (Array (Option Nat)×Nat))=some (Array.replicate (mask+1) none,0):=rfl;rw[h0]at e';rw[e'];rfl
theorem Zh{α:Type}[DecidableEq α]:∀{l m:List α},l.Nodup->m.Nodup->(∀x,x∈l ↔ x∈m)->l.Perm m
 |[],m,_,_,h=>by
  cases m with|nil=>exact .refl _|cons y m=>exact absurd ((h y).mpr AK) (by simp)
 |x::l,m,h1,h2,h=>by
  have hx:=(h x).mp AK;refine List.Perm.trans ?_ (List.perm_cons_erase hx).symm;refine List.Perm.cons x (Zh (A2.mp h1).2 (h2.erase x) fun y=>?_);rw[h2.mem_erase_iff];constructor;intro hy;exact⟨fun z=>(A2.mp h1).1 (by rw[←z];exact hy),(h y).mp (AI _ hy)⟩
  ·rintro⟨a,b⟩;rcases AH.mp ((h y).mpr b) with q|q
   ·exact absurd q a
   ·exact q
theorem qEc{α:Type}(l:List α):(List.range l.length).filterMap (fun i=>l[i]?)=l:=by
 induction l with|nil=>rfl|cons x l ih=>rw[AJ,List.range_succ_eq_map,A7];show x::((List.range l.length).map Nat.succ).filterMap _=_;rw[List.filterMap_map];congr 1
theorem qFG{α β:Type}{f:α->Option β}{g:α->β}:∀{l:List α},(∀x∈l,f x=some (g x))->l.filterMap f=l.map g|[],_=>rfl|x::l,h=>by rw[A7,h x AK,Aa,qFG fun y hy=>h y (AI _ hy)]
theorem qHc{α:Type}[Inhabited α]{mask finger moves:Nat}{led plain:Bool}(C:Cyc mask){es:Array (Int×α)}(hl:es.size≤mask):∃t order,SetTable.laid mask finger moves led plain (es.map (·.1))=some (t,order)∧t.mask=mask∧t.led=led∧t.plain=plain ∧
  (order.filterMap (es[·]?)).toList.Perm es.toList∧TbG t es.size∧Rch t (order.filterMap (es[·]?)).toList:=by
 obtain⟨owner,js,e,O⟩:=qFe C (es.map (·.1)) (by simp;omega);refine⟨_,_,by unfold SetTable.laid;rw[e];rfl,rfl,rfl,rfl,?_⟩;generalize hL:(List.range (mask+1)).filterMap (fun j=>(owner.getD j none).map (j,·))=L;have hmem:∀q,q∈L ↔ js[q.2]? = some q.1:=by
  intro⟨j,k⟩;rw[←hL,Bp];constructor
  ·rintro⟨a,ha,hb⟩;have ha:=BA.mp ha;rw[AL,AS (by rw[O.size];omega)]at hb;cases hx:owner[a]'(by rw[O.size];omega) with|none=>rw[hx]at hb;simp at hb|some k'=>rw[hx]at hb;simp at hb;obtain⟨rfl,rfl⟩:=hb;exact (O.iff _ _).mp (by rw[AS (by rw[O.size];omega),hx])
  ·intro z;have z':=(O.iff _ _).mpr z;refine⟨j,BA.mpr (by have:=O.le j (Aq z);omega),?_⟩;rw[AL,z'];rfl
 have hlen:js.length=es.size:=by rw[O.len];simp
 have hinj:∀a b j,js[a]? = some j->js[b]? = some j->a=b:=fun a b j h1 h2=>by have h1:=(O.iff j a).mpr h1;have h2:=(O.iff j b).mpr h2;rw[h1]at h2;cases h2;rfl
 have hpw:L.Pairwise (fun p q=>p.1<q.1):=by rw[←hL,List.pairwise_filterMap];refine List.Pairwise.imp ?_ List.pairwise_lt_range;intro a b hab x hx y hy;simp only[Option.map_eq_some_iff]at hx hy;obtain⟨_,_,rfl⟩:=hx;obtain⟨_,_,rfl⟩:=hy;exact hab
 have hnd:(L.map (·.2)).Nodup:=by
  rw[List.nodup_iff_pairwise_ne,List.pairwise_map];refine List.Pairwise.imp_of_mem (R:=fun p q=>p.1<q.1) ?_ hpw;intro a b ha hb hab z;have h1:=(hmem a).mp ha;have h2:=(hmem b).mp hb;rw[z,h2]at h1
  have:=Ac h1
  omega
 have hperm:(L.map (·.2)).Perm (List.range es.size):=by
  refine Zh hnd List.nodup_range fun k=>?_;rw[BA,Ai];constructor
  ·rintro⟨q,hq,rfl⟩
   have:=(AQ.mp ((hmem q).mp hq)).1
   omega
  ·intro hk
   have:js[k]? = some (js[k]'(by omega)):=AM _
   exact⟨(js[k]'(by omega),k),(hmem _).mpr this,rfl⟩
 have hLl:L.length=es.size:=by have:=hperm.length_eq;simpa using this
 have hfm:(((L.map (·.2)).toArray.filterMap (es[·]?)).toList)=L.map fun q=>es.toList.getD q.2 (0,default):=by
  rw[List.filterMap_toArray];show (L.map (·.2)).filterMap (fun i=>es[i]?)=_;rw[List.filterMap_map];refine qFG fun q hq=>?_
  have:=(AQ.mp ((hmem q).mp hq)).1
  show es[q.2]? = _;rw[AS (by omega),Ar,Ax,AS (by omega)];rfl
 refine⟨?_,⟨rfl,by simp[hLl],?_,?_,hl⟩,?_⟩
 ·have h1:((L.map (·.2)).toArray.filterMap (es[·]?)).toList=(L.map (·.2)).filterMap (fun i=>es.toList[i]?):=by rw[List.filterMap_toArray];simp
  rw[h1];refine (hperm.filterMap _).trans ?_
  have:=qEc es.toList
  rw[AZ]at this;rw[this]
 ·rw[ris_list];show (L.map (·.1)).Pairwise _;rw[List.pairwise_map];exact hpw
 ·intro j hj;have hj:j∈L.map (·.1):=hj;obtain⟨q,hq,rfl⟩:=Ai.mp hj;exact O.le _ (Aq ((hmem q).mp hq))
 ·intro q hq;rw[hfm]at hq;have hq:q∈(L.map (·.1)).zip (L.map fun q=>es.toList.getD q.2 (0,default)):=hq;rw[List.zip_map,Ai]at hq;obtain⟨⟨u,v⟩,huv,rfl⟩:=hq;have huv':u=v∧u∈L:=by
   have:∀(l:List (Nat×Nat)) (p:(Nat×Nat)×(Nat×Nat)),p∈l.zip l->p.1=p.2∧p.1∈l:=by
    intro l;induction l with
    |nil=>intro p hp;simp at hp
    |cons a l ih =>
     intro p hp;rw[BH]at hp;rcases AH.mp hp with z|z
     ·subst z;exact⟨rfl,AK⟩
     ·exact⟨(ih p z).1,AI _ (ih p z).2⟩
   exact this L _ huv
  obtain⟨rfl,hu⟩:=huv';have hj:=(hmem u).mp hu;have hlt:=(AQ.mp hj).1;have hh:(es.map (·.1)).toList[u.2]? = some (es.toList.getD u.2 (0,default)).1:=by
   rw[Ar,Ax,Ax,Array.getElem?_map,AS (show u.2<es.size by omega)];rfl
  obtain⟨m,h1,h2⟩:=O.way _ _ _ hh hj;refine⟨m,h1,fun m' hm'=>?_⟩
  have:=h2 m' hm'
  obtain⟨i,hi⟩:=BK this;show _∈L.map (·.1);exact Ai.mpr ⟨((sq mask (es.toList.getD u.2 (0,default)).1 m').j,i),(hmem _).mpr hi,rfl⟩
end ET
end
section
namespace ET
open PySem PySem.Spec PyProof.Rows L2 EX
section
variable{prog:Program}{w:World}{A:Around}{E:Value->Shared->Prop}{s:Shared}
abbrev TK(prog:Program)(w:World)(h:Heap)(ks:List Int)(b:Addr):Prop:=IsTupleKey (intKind prog w) h ks b
abbrev hsT(prog:Program)(w:World)(ks:List Int):Int:=tupleKeyHash (intKind prog w) ks
theorem ZI{ks:List Int}{vs:List Value}(h:ItemsAre (intKind prog w) ks vs):∀v∈vs,∃n t,v=Value.int n t:=by
 induction h with
 |nil=>intro v hv;cases hv
 | @cons k v ks vs h1 _ ih =>
  intro u hu;rcases AH.mp hu with q|q
  ·subst q;cases u with|int n t=>exact⟨n,t,rfl⟩|_=>exact Bool.noConfusion (show false=true from h1)
  ·exact ih u q
theorem TK.keep{h h':Heap}{ks:List Int}{b:Addr}(k:TK prog w h ks b)(e:∀o,h.get? b=some o->h'.get? b=some o):TK prog w h' ks b:=by obtain⟨o,its,n,h1,h2⟩:=k;exact⟨o,its,n,e o h1,h2⟩
theorem hbv{ks:List Int}{b:Addr}{Q:Bool->Shared->Prop}(k:TK prog w s.heap ks b)(h:Q true s):wpAny (model prog w) A (hashByValue 8 (.ref b)) Q E s:=by
 have hT:=k.typeIs;obtain⟨o,items,n,ho,_,hd,hi⟩:=k;unfold hashByValue;refine AA (wpAny_specialOf hT F.slot_tuple_hash.lookup ?_);dsimp only;refine AA (wpAny_seqItems ho hd ?_);show wpAny _ _ (forIn items _ _ >>= _) _ _ s;refine AA ?_;rw[←Array.forIn_toList];refine wpAny_forIn_list _ (fun rest r s'=>r.1=none∧s'=s∧∀v∈rest,∃n t,v=Value.int n t) _ ?_ ?_ _ _ ⟨rfl,rfl,ZI hi⟩
 ·rintro v rest r s' ⟨hr,rfl,hall⟩;obtain⟨n,t,rfl⟩:=hall v AK;refine AA (An (a:=true) (by rw[hashByValue_scannable 7 (x:=.int n t) rfl];rfl) ?_);simp only[Bool.not_true,A0,Bb];exact AB ⟨rfl,rfl,fun u hu'=>hall u (AI _ hu')⟩
 ·rintro⟨r1,r2⟩ s' ⟨hr,rfl,_⟩;simp only at hr;subst hr;exact AB h
theorem oac{ks:List Int}{b:Addr}{Q:Bool->Shared->Prop}(k:TK prog w s.heap ks b)(h:Q false s):wpAny (model prog w) A (ofAClassStatement 8 (.ref b)) Q E s:=by
 have hT:=k.typeIs;obtain⟨o,items,n,ho,_,hd,hi⟩:=k;unfold ofAClassStatement;refine AA (BX hT ?_);dsimp only;rw[AE (by decide)];refine AA (AB ?_);rw[AF (by decide)];refine AA (wpAny_seqItems ho hd ?_);dsimp only;refine AA ?_;rw[←Array.forIn_toList];refine wpAny_forIn_list _ (fun rest r s'=>r.1=none∧s'=s∧∀v∈rest,∃n t,v=Value.int n t) _ ?_ ?_ _ _ ⟨rfl,rfl,ZI hi⟩
 ·rintro v rest r s' ⟨hr,rfl,hall⟩;obtain⟨n,t,rfl⟩:=hall v AK;refine AA (An (a:=false) (by unfold ofAClassStatement;rfl) ?_);rw[AF (by decide)];exact AB ⟨rfl,rfl,fun u hu'=>hall u (AI _ hu')⟩
 ·rintro⟨r1,r2⟩ s' ⟨hr,rfl,_⟩;simp only at hr;subst hr;exact AB h
theorem qLZ{ks:List Int}{b:Addr}{Q:Bool->Shared->Prop}(k:TK prog w s.heap ks b)(l:List Value)(hl:∀v∈l,∃c ks',v= .ref c∧TK prog w s.heap ks' c)(h:Q false s):wpAny (model prog w) A (searchCouldBeSeen (.ref b) l) Q E s:=by
 unfold searchCouldBeSeen;refine AA ?_;refine wpAny_forIn_list _ (fun rest r s'=>r.1=none∧s'=s∧∀v∈rest,∃c ks',v= .ref c∧TK prog w s.heap ks' c) _ ?_ ?_ _ _ ⟨rfl,rfl,hl⟩
 ·rintro v rest r s' ⟨hr,rfl,hall⟩;obtain⟨c,ks',rfl,k'⟩:=hall v AK;dsimp only;by_cases hbc:(b==c||(carriedByValue (.ref b)&&carriedByValue (.ref c)))=true;rw[AE hbc];exact AB ⟨rfl,rfl,fun u hu'=>hall u (AI _ hu')⟩
  ·rw[AF hbc];refine AA (wpAny_eqIsQuiet_tuple k ?_);rw[AF (by decide)];refine AA (wpAny_eqIsQuiet_tuple k' ?_);rw[AF (by decide)];refine AA (oac k ?_);rw[AF (by decide)];refine AA (oac k' ?_);rw[AF (by decide)];exact AB ⟨rfl,rfl,fun u hu'=>hall u (AI _ hu')⟩
 ·rintro⟨r1,r2⟩ s' ⟨hr,rfl,_⟩;simp only at hr;subst hr;exact AB h
inductive EsT (prog:Program) (w:World) (h:Heap):List (Int×Value)->List (List Int)->Prop
 |nil:EsT prog w h [] []
 |cons {ks:List Int} {b:Addr} {l:List (Int×Value)} {kss:List (List Int)}:TK prog w h ks b->EsT prog w h l kss->EsT prog w h ((hsT prog w ks,.ref b)::l) (ks::kss)
theorem EsT.len{h:Heap}{l:List (Int×Value)}{kss:List (List Int)}(e:EsT prog w h l kss):l.length=kss.length:=by
 induction e with|nil=>rfl|cons _ _ ih=>rw[AJ,AJ,ih]
theorem EsT.keep{h h':Heap}{l:List (Int×Value)}{kss:List (List Int)}(e:EsT prog w h l kss)(k:∀b ks,TK prog w h ks b->TK prog w h' ks b):EsT prog w h' l kss:=by
 induction e with|nil=>exact .nil|cons a _ ih=>exact .cons (k _ _ a) ih
theorem EsT.get{h:Heap}{l:List (Int×Value)}{kss:List (List Int)}(e:EsT prog w h l kss):∀{i:Nat} {x:Int×Value},l[i]? = some x->∃ks b,kss[i]? = some ks∧x=(hsT prog w ks,.ref b)∧TK prog w h ks b:=by
 induction e with
 |nil=>intro i x hx;simp at hx
 | @cons ks b l kss a _ ih =>
  intro i x hx;cases i with|zero=>simp at hx;exact⟨ks,b,rfl,hx.symm,a⟩|succ i=>simp at hx;simpa using ih hx
theorem EsT.get'{h:Heap}{l:List (Int×Value)}{kss:List (List Int)}(e:EsT prog w h l kss):∀{i:Nat} {ks:List Int},kss[i]? = some ks->∃b,l[i]? = some (hsT prog w ks,.ref b)∧TK prog w h ks b:=by
 induction e with
 |nil=>intro i x hx;simp at hx
 | @cons ks b l kss a _ ih =>
  intro i x hx;cases i with|zero=>simp at hx;subst hx;exact⟨b,rfl,a⟩|succ i=>simp at hx;simpa using ih hx
theorem EsT.perm{h:Heap}{l l':List (Int×Value)}(p:l.Perm l'):∀{kss:List (List Int)},EsT prog w h l kss->∃kss',kss.Perm kss'∧EsT prog w h l' kss':=by
 induction p with
 |nil=>intro kss e;exact⟨kss,.refl _,e⟩
 |cons x _ ih =>
  intro kss e;cases e with|cons a e=>obtain⟨k',q,r⟩:=ih e;exact⟨_,q.cons _,.cons a r⟩
 |swap x y l =>
  intro kss e;cases e with
  |cons a e =>
   cases e with|cons b e=>exact⟨_,.swap _ _ _,.cons b (.cons a e)⟩
 |trans _ _ ih1 ih2=>intro kss e;obtain⟨k1,q1,r1⟩:=ih1 e;obtain⟨k2,q2,r2⟩:=ih2 r1;exact⟨k2,q1.trans q2,r2⟩
theorem EsT.mem{h:Heap}{l:List (Int×Value)}{kss:List (List Int)}(e:EsT prog w h l kss):∀x∈l,∃ks b,ks∈kss∧x=(hsT prog w ks,.ref b)∧TK prog w h ks b:=by intro x hx;obtain⟨i,hi⟩:=BK hx;obtain⟨ks,b,h1,h2,h3⟩:=e.get hi;exact⟨ks,b,Aq h1,h2,h3⟩
def Lv(mask n:Nat):Prop:=(mask=7∧n≤4)∨(mask=31∧n≤18)∨(mask=127∧n≤76)∨(mask=511∧n≤306)
theorem Lv.cyc{mask n:Nat}(h:Lv mask n):Cyc mask:=by
 rcases h with⟨rfl,_⟩|⟨rfl,_⟩|⟨rfl,_⟩|⟨rfl,_⟩
 ·exact qLQ
 ·exact qLJ
 ·exact qJ4
 ·exact qJi
structure TbT (w:World) (t:SetTable) (es:Array (Int×Value)):Prop where
 g:TbG t es.size
 r:Rch t es.toList
 lv:Lv t.mask es.size
 led:t.led= !byT w
 pl:t.plain=true
structure SetT (prog:Program) (w:World) (h:Heap) (a:Addr) (es:Array (Int×Value)) (ep:Nat) (t:SetTable) (kss:List (List Int)):Prop where
 ex:∃o,h.get? a=some o∧o.ExactSet∧o.data=Data.set es ep t
 el:EsT prog w h es.toList kss
 nd:kss.Nodup
 tb:TbT w t es
theorem j6{t:SetTable}{n:Nat}(T:TbG t n):t.fits n=true:=by
 unfold SetTable.fits;rw[AX];refine⟨by rw[T.sz];exact Aj _,AV ?_⟩;unfold SetTable.fill;rw[T.dum,T.sz];exact T.room
theorem qGC{t:SetTable}{n:Nat}(h:Lv t.mask n):t.gaveWay=false:=by unfold SetTable.gaveWay;rcases h with⟨h,_⟩|⟨h,_⟩|⟨h,_⟩|⟨h,_⟩ <;> rw[h] <;> rfl
theorem qEn{a:Addr}{es:Array (Int×Value)}{ep:Nat}{t:SetTable}{kss:List (List Int)}{ks:List Int}{b:Addr}{adding:Bool}{Q:SetFound->Shared->Prop}(hu:A.units<cLine)(S:SetT prog w s.heap a es ep t kss)(k:TK prog w s.heap ks b){k0:Nat}
  (hk:(sq t.mask (hsT prog w ks) k0).j∉t.place.toList) (hb:∀m,m<k0->(sq t.mask (hsT prog w ks) m).j∈t.place.toList) (hk0:k0<10*SetTable.turns t.mask)
  (h1:ks∈kss->∀oi,(adding=false->oi.isSome=true)->Q (.there oi) s) (h2:ks∉kss->Q (.free (sq t.mask (hsT prog w ks) k0).j false) s) :
  ∀(f m:Nat) (st:Option SetTable.Probe),m≤k0->k0-m<f->st.getD (t.probeStart (hsT prog w ks))=sq t.mask (hsT prog w ks) m->(∀y,y<m->∀i,t.place.getD i 0=(sq t.mask (hsT prog w ks) y).j->i<t.place.size->kss[i]? ≠ some ks) ->
   wpAny (model prog w) A (setSearchFrom a (.ref b) (hsT prog w ks) adding f st) Q E s
 |0,m,st,_,hf,_,_=>absurd hf (BG _)
 |f+1,m,st,hm,hf,hst,hn=>by
  obtain⟨o,ho,hx,hd⟩:=S.ex;have hfit:=j6 S.tb.g;have hsz:t.place.size=es.size:=S.tb.g.sz;have hkl:es.size=kss.length:=by rw[←S.el.len,AZ]
  rw[setSearchFrom];refine AA (Bk ho hd hfit ?_);dsimp only;rw[qGC S.tb.lv];simp only[A0,Bb];rw[hst];have hp:=qAf S.tb.g (fun i=>(es[i]?.map (·.1)).getD 0) (hsT prog w ks) hk hb (10*SetTable.turns t.mask) m hm (by omega);rcases hp with⟨hall,e⟩|⟨x,i,hx1,hx2,hi,hpl,hfi,hall,e⟩
  ·generalize hg:t.probe _ (hsT prog w ks) (sq t.mask (hsT prog w ks) m)=pr;have e2:=hg.symm.trans e;subst e2;dsimp only;refine AB (h2 fun hmem=>?_);obtain⟨i,hi⟩:=BK hmem;have hil:i<es.size:=by rw[hkl];exact (AQ.mp hi).1
   obtain⟨c,hc,_⟩:=S.el.get' hi;have hz:(t.place.getD i 0,(hsT prog w ks,Value.ref c))∈t.place.toList.zip es.toList:=by
    refine Aq (i:=i) ?_;rw[List.getElem?_zip_eq_some];refine⟨?_,hc⟩;rw[Ax,AS (by omega),AL,AS (by omega)];rfl
   obtain⟨y,hy1,hy2⟩:=S.tb.r _ hz;have hyk:y<k0:=by
    rcases Nat.lt_trichotomy y k0 with q|q|q
    ·exact q
    ·subst q;exact absurd (by rw[hy1];exact mem_getD.mpr ⟨i,by omega,rfl⟩) hk
    ·exact absurd (hy2 k0 q) hk
   by_cases hym:y<m;exact hn y hym i hy1.symm (by omega) hi
   ·refine hall y (by omega) hyk i hy1.symm (by omega) ?_;show (es[i]?.map (·.1)).getD 0=_;rw[←Ax,hc];rfl
  ·generalize hg:t.probe _ (hsT prog w ks) (sq t.mask (hsT prog w ks) m)=pr;have e2:=hg.symm.trans e;subst e2;dsimp only;have hie:i<es.size:=by omega
   obtain⟨ks',c,hks',hc,kc⟩:=S.el.get (i:=i) (x:=es[i]) (by rw[Ax,AS hie]);have hsl:t.slot (sq t.mask (hsT prog w ks) x).j= .live i:=by rw[←hpl];exact jd S.tb.g.ris hi
   cases hled:t.led
   case' true=>simp only[Bool.not_true,A0,Bb]
   case' false =>
    simp only[Bool.not_false,B9];refine AA (qLZ k _ (fun v hv=>(by
     obtain⟨e',he',rfl⟩:=Ai.mp hv;have he':e'∈es.toList:=CD.mpr (Array.mem_filter.mp (CD.mp he')).1;obtain⟨ks'',c',_,hh,kk⟩:=S.el.mem _ he';exact⟨c',ks'',by rw[hh],kk⟩)) ?_)
    simp only[A0,Bb]
   all_goals
    rw[AS hie,hc];dsimp only;refine AA (Ak (wpAny_eqBool_tuple hu kc k ?_));refine AA (Bk ho hd hfit ?_);dsimp only;by_cases hq:ks'=ks
    ·subst hq;rw[AV rfl];have hmem:ks'∈kss:=Aq hks';cases adding with
     |true=>exact AB (h1 hmem none fun z=>by cases z)
     |false =>
      simp only[BE,A0,Bb];rw[show t.sameMemory t.moves t.mask=some true by unfold SetTable.sameMemory;rw[AE (Aj _)]];dsimp only;rw[AE rfl,hsl];dsimp only;rw[AS hie,hc];dsimp only;refine AA (wpAny_isSame_ref_self (AA (AB ?_)));rw[AE rfl];dsimp only;exact AB (h1 hmem (some i) fun _=>rfl)
    ·rw[AY hq];rw[Bo];simp only[A0,Bb];rw[show t.sameMemory t.moves t.mask=some true by unfold SetTable.sameMemory;rw[AE (Aj _)]];dsimp only;rw[AE rfl,hsl];dsimp only;rw[AS hie,hc];dsimp only;refine AA (wpAny_isSame_ref_self (AA (AB ?_)));rw[AE rfl];dsimp only;refine qEn hu S k hk hb hk0 h1 h2 f (x+1) _ (by omega) (by omega) rfl fun y hy j hj hjl=>?_;by_cases hym:y<m;exact hn y hym j hj hjl
     ·have uniq:t.place.getD j 0=t.place.getD i 0->j=i:=fun e'=>by
       rcases Nat.lt_trichotomy j i with q|q|q
       ·have:=S.tb.g.ris _ _ q hi;omega
       ·exact q
       ·have:=S.tb.g.ris _ _ q hjl;omega
      by_cases hyx:y=x;subst hyx;rw[uniq (hj.trans hpl.symm),hks'];intro z;cases z;exact hq rfl
      ·intro z;refine hall y (by omega) (by omega) j hj hjl ?_;obtain⟨c',hc',_⟩:=S.el.get' z;show (es[j]?.map (·.1)).getD 0=_;rw[←Ax,hc'];rfl
theorem SetT.first{h:Heap}{a:Addr}{es:Array (Int×Value)}{ep:Nat}{t:SetTable}{kss:List (List Int)}(S:SetT prog w h a es ep t kss)(hs:Int):∃k,k<10*SetTable.turns t.mask∧(sq t.mask hs k).j∉t.place.toList∧∀m,m<k->(sq t.mask hs m).j∈t.place.toList:=S.tb.g.first S.tb.lv.cyc hs
theorem J4{mask n:Nat}(h:Lv mask n):10*SetTable.turns mask<100000:=by unfold SetTable.turns;rcases h with⟨h,_⟩|⟨h,_⟩|⟨h,_⟩|⟨h,_⟩ <;> omega
theorem qGr{a:Addr}{es:Array (Int×Value)}{ep:Nat}{t:SetTable}{kss:List (List Int)}{ks:List Int}{b:Addr}{adding:Bool}{Q:SetFound->Shared->Prop}(hu:A.units<cLine)(S:SetT prog w s.heap a es ep t kss)(k:TK prog w s.heap ks b)
  (h1:ks∈kss->∀oi,(adding=false->oi.isSome=true)->Q (.there oi) s)
  (h2:ks∉kss->∀k0,(sq t.mask (hsT prog w ks) k0).j∉t.place.toList->(∀m,m<k0->(sq t.mask (hsT prog w ks) m).j∈t.place.toList)->Q (.free (sq t.mask (hsT prog w ks) k0).j false) s) :
  wpAny (model prog w) A (setSearch a (.ref b) (hsT prog w ks) adding) Q E s:=by
 obtain⟨k0,hk0,hk,hb⟩:=S.first (hsT prog w ks)
 have:=J4 S.tb.lv
 exact qEn hu S k hk hb hk0 h1 (fun q=>h2 q k0 hk hb) 100000 0 none (A6 _) (by omega) rfl fun y hy=>absurd hy (BG _)
theorem qGy{mask n:Nat}(h:Lv mask n)(hn:n+1≤300)(hf:¬(n+1)*5≥mask*3):Lv mask (n+1):=by
 rcases h with⟨rfl,h⟩|⟨rfl,h⟩|⟨rfl,h⟩|⟨rfl,h⟩
 ·exact .inl ⟨rfl,by omega⟩
 ·exact .inr (.inl ⟨rfl,by omega⟩)
 ·exact .inr (.inr (.inl ⟨rfl,by omega⟩))
 ·exact .inr (.inr (.inr ⟨rfl,by omega⟩))
theorem qGT{mask n:Nat}(h:Lv mask n)(hn:n+1≤300)(hf:(n+1)*5≥mask*3):Lv (SetTable.sizeAbove (SetTable.grown (n+1))-1) (n+1)∧SetTable.sizeAbove (SetTable.grown (n+1))≤512:=by
 rcases h with⟨rfl,h⟩|⟨rfl,h⟩|⟨rfl,h⟩|⟨rfl,h⟩
 ·have:n=4:=by omega
  subst this;exact⟨.inr (.inl ⟨by decide,by omega⟩),by decide⟩
 ·have:n=18:=by omega
  subst this;exact⟨.inr (.inr (.inl ⟨by decide,by omega⟩)),by decide⟩
 ·have:n=76:=by omega
  subst this;exact⟨.inr (.inr (.inr ⟨by decide,by omega⟩)),by decide⟩
 ·omega
theorem qCI{mask n:Nat}(h:Lv mask n):n+1≤mask:=by rcases h with⟨rfl,h⟩|⟨rfl,h⟩|⟨rfl,h⟩|⟨rfl,h⟩ <;> omega
theorem qKF{a:Addr}{es:Array (Int×Value)}{ep:Nat}{t:SetTable}{kss:List (List Int)}{ks:List Int}{b:Addr}{Q:Bool->Shared->Prop}(hu:A.units<cLine)(S:SetT prog w s.heap a es ep t kss)(k:TK prog w s.heap ks b)(hn:kss.length+1≤300)
  (h:∀(h':Heap) (es':Array (Int×Value)) (ep':Nat) (t':SetTable) (kss':List (List Int)),Heap.SameBut a s.heap h'->SetT prog w h' a es' ep' t' kss'->kss'.Perm (if ks∈kss then kss else kss++[ks])->(∀e∈es'.toList,e∈es.toList∨e.2= .ref b)->Q (decide (ks∉kss)) { s with heap:=h' }) :
  wpAny (model prog w) A (setAddHashed a (.ref b) (hsT prog w ks)) Q E s:=by
 obtain⟨o,ho,hx,hd⟩:=S.ex;have hfit:=j6 S.tb.g;have hlen:es.size=kss.length:=by rw[←S.el.len,AZ]
 unfold setAddHashed;refine Ak ?_;rw[setAddHashedIn.eq_def];refine AA (Bk ho hd hfit ?_);dsimp only;rw[AF (by unfold byScan;exact fun q=>Bool.noConfusion (show false=true from q))];refine AA (qGr (adding:=true) hu S k (fun q oi _=>?_) fun q k0 hk hb=>?_)
 ·dsimp only;refine AB ?_
  have:=h s.heap es ep t kss ⟨rfl,fun _ _=>rfl⟩ S (by rw[AE q]) (fun e he=>.inl he)
  rw[AY (not_not_intro q)]at this;exact this
 ·dsimp only;refine AA (Bk ho hd hfit ?_);dsimp only;have hne:∀ks' c,TK prog w s.heap ks' c->c≠a:=fun ks' c kc z=>by subst z;obtain⟨o',_,_,g1,g2,g3,_⟩:=kc;rw[ho]at g1;cases g1;rw[hd]at g3;cases g3
  obtain⟨T1,R1,P1⟩:=qIi (x:=Value.ref b) S.tb.g (qCI S.tb.lv) S.tb.r (qH2 k0) hk hb;generalize ht:t.put (sq t.mask (hsT prog w ks) k0).j=tp at T1 R1 P1 ⊢;obtain⟨t1,p1⟩:=tp;dsimp only at T1 R1 P1 ⊢;have hm1:t1.mask=t.mask:=by have:=Bv (fun x=>x.1.mask) ht;exact this.symm
  have hl1:t1.led=t.led:=by have:=Bv (fun x=>x.1.led) ht;exact this.symm
  have hp1:t1.plain=t.plain:=by have:=Bv (fun x=>x.1.plain) ht;exact this.symm
  rw[AE (hp1.trans S.tb.pl)];refine AA (hbv k ?_);rw[AE rfl];have hsz1:(SetTable.insertAt es p1 (hsT prog w ks,Value.ref b)).size=es.size+1:=by
   have:=P1.length_eq
   simpa using this
  refine AA (wpAny_storeSet_of ho hd ?_ (by rw[hsz1];exact Ag (show es.size+1≤300 by omega) (by decide)));obtain⟨oc,od,odt,osl⟩:=o;have hd:odt=Data.set es ep t:=hd;subst hd;have hu1:(s.heap.update a (Obj.putSet (SetTable.insertAt es p1 (hsT prog w ks,.ref b)) t1)).get? a=some ⟨oc,od,Data.set (SetTable.insertAt es p1 (hsT prog w ks,.ref b)) (ep+1) t1,osl⟩:=by rw[BD _ ho rfl];rfl
  have hsb:Heap.SameBut a s.heap (s.heap.update a (Obj.putSet (SetTable.insertAt es p1 (hsT prog w ks,.ref b)) t1)):=⟨CH ..,fun c hc=>Heap.get?_update_ne _ _ _ _ hc⟩;generalize s.heap.update a (Obj.putSet (SetTable.insertAt es p1 (hsT prog w ks,.ref b)) t1)=h1 at hu1 hsb ⊢;have keep:∀c ks',TK prog w s.heap ks' c->TK prog w h1 ks' c:=fun c ks' kc=>kc.keep fun o' ho'=>(hsb.2 c (hne ks' c kc)).trans ho';have E1:EsT prog w h1 ((hsT prog w ks,Value.ref b)::es.toList) (ks::kss):=.cons (keep _ _ k) (S.el.keep keep);obtain⟨kss1,q1,E2⟩:=E1.perm P1.symm;have nd1:kss1.Nodup:=q1.nodup_iff.mp (A2.mpr ⟨q,S.nd⟩);have qp:kss1.Perm (if ks∈kss then kss else kss++[ks]):=by rw[AF q];exact q1.symm.trans (List.perm_append_comm (l₁:=[ks]) (l₂:=kss))
  have hfull:t1.tooFull=decide ((es.size+1)*5≥t.mask*3):=by unfold SetTable.tooFull SetTable.fill;rw[T1.dum,T1.sz,hm1];rfl
  rw[hfull];have fresh1:∀e∈(SetTable.insertAt es p1 (hsT prog w ks,Value.ref b)).toList,e∈es.toList∨e.2= .ref b:=fun e he=>by
   rcases AH.mp (P1.mem_iff.mp he) with z|z
   ·exact .inr (by rw[z])
   ·exact .inl z
  have fin:∀(h2:Heap),(∀es' ep' t' kss',Heap.SameBut a s.heap h2->SetT prog w h2 a es' ep' t' kss'->kss'.Perm (if ks∈kss then kss else kss++[ks])->(∀e∈es'.toList,e∈es.toList∨e.2= .ref b)->Q true { s with heap:=h2 }):=fun h2 es' ep' t' kss' a1 a2 a3 a4=>by
   have:=h h2 es' ep' t' kss' a1 a2 a3 a4
   rw[AV q]at this;exact this
  by_cases hf:(es.size+1)*5≥t.mask*3
  ·rw[AV hf];simp only[Bool.not_false,Bool.and_self,B9];obtain⟨L1,L2⟩:=qGT S.tb.lv (by omega) hf;unfold setRelay;refine AA ?_;refine AA (Bk (s:={ s with heap:=h1 }) hu1 rfl (by rw[hsz1];exact j6 T1) ?_);dsimp only;rw[AF (by rw[Bf];omega)];obtain⟨t2,order,e2,m2,l2,p2,P2,T2,R2⟩:=qHc (finger:=t1.finger) (moves:=t1.movedTo (SetTable.sizeAbove (SetTable.grown (es.size+1))-1)) (led:=t1.led) (plain:=t1.plain) L1.cyc (es:=SetTable.insertAt es p1 (hsT prog w ks,Value.ref b)) (by rw[hsz1];have:=qCI L1;omega);have e2:t1.relaid ((SetTable.insertAt es p1 (hsT prog w ks,Value.ref b)).map (·.1)) (SetTable.grown (es.size+1))=some (t2,order):=e2;rw[e2];have hsz2:(order.filterMap ((SetTable.insertAt es p1 (hsT prog w ks,Value.ref b))[·]?)).size=es.size+1:=by
    have:=P2.length_eq
    rw[AZ,AZ,hsz1]at this;exact this
   refine AA (An (a:=(order.filterMap ((SetTable.insertAt es p1 (hsT prog w ks,Value.ref b))[·]?),t2)) ?_ ?_);show (if ((order.filterMap ((SetTable.insertAt es p1 (hsT prog w ks,Value.ref b))[·]?)).size != (SetTable.insertAt es p1 (hsT prog w ks,Value.ref b)).size)=true then _ else pure _)=pure _;rw[AF (by rw[hsz2,hsz1];simp)]
   ·dsimp only;refine wpAny_storeSet_of (s:={ s with heap:=h1 }) hu1 rfl ?_ (by rw[hsz2];exact Ag (show es.size+1≤300 by omega) (by decide));have hu2:(h1.update a (Obj.putSet (order.filterMap ((SetTable.insertAt es p1 (hsT prog w ks,Value.ref b))[·]?)) t2)).get? a=some ⟨oc,od,Data.set (order.filterMap ((SetTable.insertAt es p1 (hsT prog w ks,Value.ref b))[·]?)) (ep+1+1) t2,osl⟩:=by rw[BD _ hu1 rfl];rfl
    have hsb2:Heap.SameBut a h1 (h1.update a (Obj.putSet (order.filterMap ((SetTable.insertAt es p1 (hsT prog w ks,Value.ref b))[·]?)) t2)):=⟨CH ..,fun c hc=>Heap.get?_update_ne _ _ _ _ hc⟩;refine AB ?_;generalize h1.update a (Obj.putSet (order.filterMap ((SetTable.insertAt es p1 (hsT prog w ks,Value.ref b))[·]?)) t2)=h2 at hu2 hsb2 ⊢;obtain⟨kss2,q2,E3⟩:=E2.perm P2.symm;have E4:EsT prog w h2 (order.filterMap ((SetTable.insertAt es p1 (hsT prog w ks,Value.ref b))[·]?)).toList kss2:=E3.keep fun c ks' kc=>kc.keep fun o' ho'=>(hsb2.2 c (fun z=>by
     subst z;obtain⟨o',_,_,g1,g2,g3,_⟩:=kc;rw[hu1]at g1;cases g1;cases g3)).trans ho'
    refine fin h2 _ _ _ kss2 ⟨hsb2.1.trans hsb.1,fun c hc=>(hsb2.2 c hc).trans (hsb.2 c hc)⟩ ⟨⟨_,hu2,hx,rfl⟩,E4,q2.nodup_iff.mp nd1,⟨?_,R2,?_,?_,?_⟩⟩ (q2.symm.trans qp) (fun e he=>fresh1 e (P2.mem_iff.mp he));rw[hsz2,←hsz1];exact T2;rw[hsz2,m2];exact L1;rw[l2,hl1];exact S.tb.led;rw[p2,hp1];exact S.tb.pl
  ·rw[AY hf];simp only[Bool.not_false,Bo,A0,Bb];refine AB (fin h1 _ _ _ kss1 hsb ⟨⟨_,hu1,hx,rfl⟩,E2,nd1,⟨?_,R1,?_,?_,?_⟩⟩ qp fresh1);rw[hsz1];exact T1;rw[hsz1,hm1];exact qGy S.tb.lv (by omega) hf;rw[hl1];exact S.tb.led;rw[hp1];exact S.tb.pl
end
end ET
end
section
namespace ET
open PySem PySem.Spec PyProof.Rows L2 EX PySem.W
section
variable{O:KeyOrd}{key:Nat->O.α}{n:Nat}
def kOk(key:Nat->O.α)(n:Nat){α:Type}:KasT α->(α->Prop)->Prop| .ret a,P=>P a| .ask i j k,P=>i<n∧j<n∧kOk key n (k (O.blt (key i) (key j))) P
theorem zL{α β:Type}{f:α->KasT β}{P:β->Prop}:∀{t:KasT α},kOk key n t (fun a=>kOk key n (f a) P)->kOk key n (t.bind f) P| .ret a,h=>h| .ask i j k,h=>⟨h.1,h.2.1,zL h.2.2⟩
theorem qAI{α:Type}{cmp:Nat->Nat->(Bool->Shared->Prop)->Shared->Prop}{s:Shared}(hc:∀i j C,i<n->j<n->C (O.blt (key i) (key j)) s->cmp i j C s){P:α->Prop}{Q:α->Shared->Prop}(hq:∀a,P a->Q a s):∀(t:KasT α),kOk key n t P->t.kasWp cmp Q s| .ret a,h=>hq a h| .ask i j k,h=>hc i j _ h.1 h.2.1 (qAI hc hq _ h.2.2)
structure PB (n:Nat) (p:Array Nat):Prop where
 perm:p.Perm (List.range n).toArray
theorem PB.size{p:Array Nat}(h:PB n p):p.size=n:=by
 have:=h.perm.size_eq;simpa using this
theorem PB.lt{p:Array Nat}(h:PB n p){k:Nat}(hk:k<n):p.getD k 0<n:=by
 have hs:=h.size;rw[AL,AS (by omega)]
 have:p[k]∈(List.range n).toArray.toList:=(Array.perm_iff_toList_perm.mp h.perm).mem_iff.mp (by simp)
 simpa using this
def kq(key:Nat->O.α)(p:Array Nat)(k:Nat):O.α:=key (p.getD k 0)
def Srt(key:Nat->O.α)(p:Array Nat)(k:Nat):Prop:=∀i j,i≤j->j<k->O.kle (kq key p i) (kq key p j)
def Nin(key:Nat->O.α)(p:Array Nat)(k:Nat):Prop:=∀i j,i≤j->j<k->O.kle (kq key p j) (kq key p i)
theorem yZ{p:Array Nat}{i j:Nat}(hj:j≤p.size)(k:Nat):kq key (kas_rev p i j) k=if i≤k∧k<j then kq key p (i+j-1-k) else kq key p k:=by
 have e:=getElem?_mirror_all (i:=i) hj k;unfold kq kas_rev;rw[AL,e];split;rw[AL];rw[AL]
theorem WI{p:Array Nat}{i j:Nat}(hj:j≤p.size)(heq:∀k,i≤k->k<j->kq key p k=kq key p (j-1))(k:Nat):kq key (kas_rev p i j) k=kq key p k:=by
 rw[yZ hj];split;rw[heq _ (by omega) (by omega),heq k (by omega) (by omega)];rfl
theorem jh{p:Array Nat}{src d:Nat}(hs:src<p.size)(hd:d≤src)(k:Nat):kq key (bubble p src d) k=if k=src-d then kq key p src else if src-d<k∧k≤src then kq key p (k-1) else kq key p k:=by
 have e:=getElem?_bubble hs d hd k;unfold kq;rw[AL,AL,AL,AL,e];split;rfl;split <;> rfl
theorem PB.rev{p:Array Nat}(h:PB n p)(i j:Nat):PB n (kas_rev p i j):=⟨(mirror_perm _ _ _ _).trans h.perm⟩
theorem qBd{p:Array Nat}(B:PB n p){nrem:Nat}(hn:nrem≤n){P:Nat->Prop}(h:∀m,1≤m->m≤nrem->Srt key p m->(m=nrem∨O.klt (kq key p m) (kq key p (m-1)))->P m):∀(f a:Nat),1≤a->a+f=nrem->Srt key p a->kOk key n (kas_asc p f a) P
 |0,a,h1,h2,hs=>h a h1 (by omega) hs (.inl (by omega))
 |f+1,a,h1,h2,hs=>by
  refine⟨B.lt (by omega),B.lt (by omega),?_⟩;show kOk key n (if O.blt (kq key p a) (kq key p (a-1))=true then .ret a else kas_asc p f (a+1)) P;cases hl:O.blt (kq key p a) (kq key p (a-1)) with
  |true=>rw[AE rfl];exact h a h1 (by omega) hs (.inr hl)
  |false =>
   rw[AF (by simp)];refine qBd B hn h f (a+1) (by omega) (by omega) fun i j hij hj=>?_;by_cases hja:j<a;exact hs i j hij hja
   ·have:j=a:=by omega
    subst this;by_cases hi':i=j;subst hi';exact BU _;exact CI (hs i (j-1) (by omega) (by omega)) hl
theorem J3{p:Array Nat}(B:PB n p){nrem m:Nat}(hn:nrem≤n)(h1:1≤m)(hm:m≤nrem)(hs:Nin key p m){P:Nat×Array Nat->Prop}(h:∀m' p',PB n p'->1≤m'->m'≤nrem->Srt key p' m'->P (m',p')):kOk key n (kas_tail3 m nrem p) P:=by
 unfold kas_tail3;have hsz:m≤p.size:=by rw[B.size];omega
 refine zL (qBd (B.rev 0 m) hn (fun m' a b c _=>h m' _ (B.rev 0 m) a b c) _ _ h1 (by omega) fun i j hij hj=>?_);rw[yZ hsz,yZ hsz,AE (by omega),AE (by omega)];exact hs _ _ (by omega) (by omega)
theorem y0{nrem:Nat}(hn:nrem≤n){P:Array Nat×Nat×Nat->Prop}
  (h:∀m neq p',PB n p'->1≤m->m≤nrem->Nin key p' m->neq+1≤m->(∀i,m-(neq+1)≤i->i<m->kq key p' i=kq key p' (m-1))->P (p',m,neq)) :
  ∀(f:Nat) (p:Array Nat) (x neq:Nat),PB n p->1≤x->x+f=nrem->Nin key p x->neq+1≤x->(∀i,x-(neq+1)≤i->i<x->kq key p i=kq key p (x-1))->kOk key n (kas_desc f p x neq) P
 |0,p,x,neq,B,h1,h2,hs,hq,he=>h x neq p B h1 (by omega) hs hq he
 |f+1,p,x,neq,B,h1,h2,hs,hq,he=>by
  have hsz:x≤p.size:=by rw[B.size];omega
  refine⟨B.lt (by omega),B.lt (by omega),?_⟩;show kOk key n (if O.blt (kq key p x) (kq key p (x-1))=true then (if neq>0 then kas_desc f (kas_rev p (x-(neq+1)) x) (x+1) 0 else kas_desc f p (x+1) 0) else .ask (p.getD (x-1) 0) (p.getD x 0) fun d=>if d=true then .ret (p,x,neq) else kas_desc f p (x+1) (neq+1)) P;cases hl:O.blt (kq key p x) (kq key p (x-1)) with
  |true =>
   rw[AE rfl];have step1:∀p':Array Nat,(∀k,kq key p' k=kq key p k)->Nin key p' (x+1):=by
    intro p' hk i j hij hj;rw[hk,hk];by_cases hjx:j<x;exact hs i j hij hjx
    ·have hj':j=x:=by omega
     subst hj';by_cases hi':i=j;subst hi';exact BU _;exact CI (B7 hl) (hs i (j-1) (by omega) (by omega))
   by_cases hneq:neq>0;rw[AE hneq];exact y0 hn h f _ _ _ (B.rev _ _) (by omega) (by omega) (step1 _ (WI hsz he)) (by omega) fun i h1 h2=>by congr 1;omega
   ·rw[AF hneq];exact y0 hn h f _ _ _ B (by omega) (by omega) (step1 _ fun _=>rfl) (by omega) fun i h1 h2=>by congr 1;omega
  |false =>
   rw[AF (by simp)];refine⟨B.lt (by omega),B.lt (by omega),?_⟩;show kOk key n (if O.blt (kq key p (x-1)) (kq key p x)=true then .ret (p,x,neq) else kas_desc f p (x+1) (neq+1)) P;cases hg:O.blt (kq key p (x-1)) (kq key p x) with
   |true=>rw[AE rfl];exact h x neq p B h1 (by omega) hs hq he
   |false =>
    rw[AF (by simp)];have heqx:kq key p x=kq key p (x-1):=KeyOrd.kle_antisymm hg hl;refine y0 hn h f _ _ _ B (by omega) (by omega) (fun i j hij hj=>?_) (by omega) fun i h1 h2=>?_
    ·by_cases hjx:j<x;exact hs i j hij hjx
     ·have hj':j=x:=by omega
      subst hj';by_cases hi':i=j;subst hi';exact BU _;rw[heqx];exact hs i (j-1) (by omega) (by omega)
    ·rw[show x+1-1=x by omega];by_cases hix:i=x;subst hix;rfl;rw[heqx];exact he i (by omega) (by omega)
theorem yk{p:Array Nat}(B:PB n p){nrem m:Nat}(hn:nrem≤n)(hm:m+1≤nrem)(hs:Nin key p (m+1)){P:Nat×Array Nat->Prop}(h:∀m' p',PB n p'->1≤m'->m'≤nrem->Srt key p' m'->P (m',p')):kOk key n (kas_descPart m nrem p) P:=by
 unfold kas_descPart;refine zL (y0 hn (fun m' neq p' B' a1 a2 hs' hq he=>?_) _ _ _ _ B (by omega) (by omega) hs (by omega) fun i h1 h2=>by congr 1;omega);dsimp only;have hsz:m'≤p'.size:=by rw[B'.size];omega
 by_cases hneq:neq>0;rw[AE hneq];refine J3 (B'.rev _ _) hn a1 a2 (fun i j hij hj=>?_) h;rw[WI hsz he,WI hsz he];exact hs' i j hij hj;rw[AF hneq];exact J3 B' hn a1 a2 hs' h
theorem qF8{p:Array Nat}(B:PB n p)(h1:1≤n){P:Nat×Array Nat->Prop}(h:∀m' p',PB n p'->1≤m'->m'≤n->Srt key p' m'->P (m',p')):kOk key n (kas_count n p) P:=by
 unfold kas_count;refine zL (qBd B (AG n) (fun m hm1 hm2 hsn hor=>?_) _ _ (AG 1) (by omega) fun i j hij hj=>by have:i=j:=(by omega);subst this;exact BU _);by_cases hnn:m=n
 ·rw[AE (by simpa using hnn)];exact h m p B hm1 hm2 hsn
 ·rw[AF (by simpa using hnn)];have hlt:O.klt (kq key p m) (kq key p (m-1)):=hor.resolve_left hnn;have hsz:m≤p.size:=by rw[B.size];omega
  by_cases hgt:m>1
  ·rw[AE hgt];refine⟨B.lt (by omega),B.lt (by omega),?_⟩;show kOk key n (if O.blt (kq key p 0) (kq key p (m-1))=true then .ret (m,p) else kas_descPart m n (kas_rev p 0 m)) P;cases hrose:O.blt (kq key p 0) (kq key p (m-1)) with
   |true=>rw[AE rfl];exact h m p B hm1 hm2 hsn
   |false =>
    rw[AF (by simp)];have hall:∀k,0≤k->k<m->kq key p k=kq key p (m-1):=by
     intro k _ hk;have a1:=hsn 0 k (by omega) hk;have a2:=hsn k (m-1) (by omega) (by omega);exact KeyOrd.kle_antisymm a2 (CI hrose a1)
    refine yk (B.rev _ _) (AG n) (by omega) (fun i j hij hj=>?_) h;rw[WI hsz hall,WI hsz hall];by_cases hjn:j<m;rw[hall i (by omega) (by omega),hall j (by omega) hjn];exact BU _
    ·have hj':j=m:=by omega
     subst hj';by_cases hi':i=j;subst hi';exact BU _;rw[hall i (by omega) (by omega)];exact B7 hlt
  ·rw[AF hgt];have hn1':m=1:=by omega
   subst hn1';refine yk B (AG n) (by omega) (fun i j hij hj=>?_) h;by_cases hi':i=j;subst hi';exact BU _
   ·have hi0:i=0:=by omega
    have hj1:j=1:=by omega
    subst hi0;subst hj1;exact B7 hlt
theorem YW{p:Array Nat}(B:PB n p){k:Nat}(hk:k<n)(hs:Srt key p k){P:Nat->Prop}(h:∀l,l≤k->(∀i,i<l->O.kle (kq key p i) (kq key p k))->(∀i,l≤i->i<k->O.klt (kq key p k) (kq key p i))->P l) :
  ∀(f l r:Nat),l≤r->r≤k->r-l≤f->(∀i,i<l->O.kle (kq key p i) (kq key p k))->(∀i,r≤i->i<k->O.klt (kq key p k) (kq key p i))->kOk key n (kas_place p k f l r) P
 |0,l,r,h1,h2,h3,h4,h5=>by
  have:l=r:=by omega
  subst this;exact h l h2 h4 h5
 |f+1,l,r,h1,h2,h3,h4,h5=>by
  unfold kas_place;by_cases hge:l≥r
  ·rw[AE hge]
   have:l=r:=by omega
   subst this;exact h l h2 h4 h5
  ·rw[AF hge];refine⟨B.lt hk,B.lt (by omega),?_⟩;show kOk key n (if O.blt (kq key p k) (kq key p ((l+r)/2))=true then kas_place p k f l ((l+r)/2) else kas_place p k f ((l+r)/2+1) r) P;cases hless:O.blt (kq key p k) (kq key p ((l+r)/2)) with
   |true=>rw[AE rfl];exact YW B hk hs h f _ _ (by omega) (by omega) (by omega) h4 fun i a b=>KeyOrd.klt_of_klt_of_kle hless (hs _ _ a b)
   |false =>
    rw[AF (by simp)];exact YW B hk hs h f _ _ (by omega) (by omega) (by omega) (fun i a=>CI (hs i ((l+r)/2) (by omega) (by omega)) (show O.kle _ _ from hless)) h5
theorem JG{P:Array Nat->Prop}(h:∀p,PB n p->Srt key p n->P p):∀(f:Nat) (p:Array Nat) (k:Nat),PB n p->k+f=n->Srt key p k->kOk key n (kas_bin f p k) P
 |0,p,k,B,h1,hs=>h p B (by
  have:k=n:=by omega
  subst this;exact hs)
 |f+1,p,k,B,h1,hs=>by
  unfold kas_bin;refine zL (YW B (by omega) hs (fun l hlk hlo hhi=>?_) k 0 k (by omega) (AG _) (by omega) (fun i hi=>absurd hi (BG _)) fun i a b=>absurd b (by omega));refine JG h f _ (k+1) ⟨(bubble_perm _ _ _).trans B.perm⟩ (by omega) fun i j hij hj=>?_;have hks:k<p.size:=by rw[B.size];omega
  rw[jh hks (by omega),jh hks (by omega),show k-(k-l)=l by omega]
  repeat' split
  all_goals first
   |(exfalso;omega)
   |exact BU _
   |exact hlo _ (by omega)
   |exact B7 (hhi _ (by omega) (by omega))
   |exact hs _ _ (by omega) (by omega)
theorem qHJ(h1:1≤n):kOk key n (kas_sort n) fun p=>PB n p∧Srt key p n:=by
 unfold kas_sort;refine zL (qF8 ⟨Array.Perm.refl _⟩ h1 fun m p B a b hs=>?_);dsimp only;by_cases hlt:m<n
 ·rw[AE hlt,show max m 1=m by omega];exact JG (fun p B hs=>⟨B,hs⟩) _ _ _ B (by omega) hs
 ·rw[AF hlt]
  have:m=n:=by omega
  subst this;exact⟨B,hs⟩
end
section
variable{prog:Program}{w:World}{A:Around}{E:Value->Shared->Prop}{s:Shared}{O:KeyOrd}
theorem qDa{vs:List Value}(hsz:vs.toArray.size=vs.length)(h2:vs.toArray.size<2):List.toArray ((List.range vs.length).toArray.toList.map fun i=>vs.getD i Value.none)=(vs.toArray.zip vs.toArray).map (·.2):=by
 match vs,hsz,h2 with|[],_,_=>simp|[v],_,_=>simp|v₁::v₂::rest,hsz,h2=>rw[hsz,AJ,AJ]at h2;omega
theorem qGQ{a:Addr}{vs:List Value}{n:Nat}{P:PySem.Fin->Shared->Prop}{key:Nat->O.α}{κ:SortKind}(ho:s.heap.get? a=some (seqObj "list" vs.toArray n))(h64:vs.length<64)
  (hk:2≤vs.length->∀(h6:Heap) (Q:SortKind->Shared->Prop),(∀b o,b≠a->s.heap.get? b=some o->h6.get? b=some o)->Q κ { s with heap:=h6 }->wpAny (model prog w) A (keyKind' vs.toArray) Q E { s with heap:=h6 })
  (hc:∀(h6:Heap) (i j:Nat) (C:Bool->Shared->Prop),(∀b o,b≠a->s.heap.get? b=some o->h6.get? b=some o)->i<vs.length->j<vs.length->C (O.blt (key i) (key j)) { s with heap:=h6 }->wpAny (model prog w) A (keyLt' κ (vs.getD i Value.none) (vs.getD j Value.none)) C (fun _ _=>False) { s with heap:=h6 })
  (h:∀p:Array Nat,PB vs.length p->Srt key p vs.length->P (.done (.ret .none)) { s with heap:=sortedHeap s.heap a vs (List.toArray (p.toList.map fun i=>vs.getD i Value.none)) }) :
  wpAny (model prog w) A (Builtin.«list.sort» ⟨[.ref a],[]⟩) P E s:=by
 rw[list_sort_plain];have ha:a<s.heap.objs.size:=AU ho;refine AA (listItems_at ho rfl ?_);refine AA (listUpdate_at ho rfl ?_);obtain⟨e1,ho1⟩:∃e1,(s.heap.update a (Obj.mapSeq fun _ => #[])).get? a=some (seqObj "list" #[] e1):=⟨_,get?_update_seq ho (fun _ => #[])⟩;refine AA (seqEpoch_at ho1 rfl ?_);refine AA (wpAny_newTuple ?_);refine AA (CY ?_);refine Ak ?_;have ho6:(((s.heap.update a (Obj.mapSeq fun _ => #[])).push (seqObj "tuple" vs.toArray 0)).push (seqObj "list" #[] 0)).get? a=some (seqObj "list" #[] e1):=by
  rw[Heap.get?_push_ne _ _ _ (by rw[size_push',CH];exact Ab (BL ha)),Heap.get?_push_ne _ _ _ (by rw[CH];exact Ab ha)];exact ho1
 have keep:∀b o,b≠a->s.heap.get? b=some o->(((s.heap.update a (Obj.mapSeq fun _ => #[])).push (seqObj "tuple" vs.toArray 0)).push (seqObj "list" #[] 0)).get? b=some o:=fun b o hb q =>
  AD _ (AD _ ((Ao _ _ (Ne.symm hb)).trans q))
 show wpAny (model prog w) A _ P E { s with heap:=((s.heap.update a (Obj.mapSeq fun _ => #[])).push (seqObj "tuple" vs.toArray 0)).push (seqObj "list" #[] 0) };dsimp only;have hsz:vs.toArray.size=vs.length:=by simp
 by_cases h2:vs.toArray.size<2
 ·rw[AE h2,AE h2];refine AA (AB ?_);rw[StateT.run_pure];refine AA (AB ?_);dsimp only;refine AA (seqEpoch_at ho6 rfl ?_);refine AA (listUpdate_at ho6 rfl ?_ (hsz2:=by rw[Array.size_map];show (pairsOf vs).size≤_;rw[pairsOf_size,Bf];omega));simp only[bne_self_eq_false,A0,Bb];refine AB ?_
  have:=h (List.range vs.length).toArray ⟨Array.Perm.refl _⟩ fun i j hij hj=>by
   have:i=j:=by omega
   subst this;exact BU _
  have e:List.toArray ((List.range vs.length).toArray.toList.map fun i=>vs.getD i Value.none)=(arrOf (SortSt.mk' general' (vs.toArray.zip vs.toArray) #[] 7 none)).map (·.2):=qDa hsz h2;rw[e]at this;exact this
 ·rw[AF h2,AF h2];have h2':2≤vs.length:=by omega
  refine AA (hk h2' _ _ keep ?_);have hw:(kas_sort vs.length).kasWp (kas_ask prog w A κ vs) (fun p s'=>s'={ s with heap:=((s.heap.update a (Obj.mapSeq fun _ => #[])).push (seqObj "tuple" vs.toArray 0)).push (seqObj "list" #[] 0) }∧PB vs.length p∧Srt key p vs.length) { s with heap:=((s.heap.update a (Obj.mapSeq fun _ => #[])).push (seqObj "tuple" vs.toArray 0)).push (seqObj "list" #[] 0) } :=
   qAI (O:=O) (key:=key) (n:=vs.length) (fun i j C hi hj hC=>hc _ i j C keep hi hj hC) (P:=fun p=>PB vs.length p∧Srt key p vs.length) (fun p hp=>⟨rfl,hp⟩) _ (qHJ (by omega))
  refine AA (BJ (kat_run (Q:=fun st' s'=>∃p:Array Nat,p.size=vs.length∧arrOf st'=p.map (kas_item (vs.toArray.zip vs.toArray))∧failedOf st'=none∧s'={ s with heap:=((s.heap.update a (Obj.mapSeq fun _ => #[])).push (seqObj "tuple" vs.toArray 0)).push (seqObj "list" #[] 0) }∧PB vs.length p∧Srt key p vs.length)
   rfl h2' h64 (fun p' st' s' a1 a2 a3 a4=>⟨p',a1,a2,a3,a4⟩) hw) ?_ fun _ _ e=>e)
  rintro⟨⟨⟩,st'⟩ s' ⟨p,hp,har,hf,rfl,B,S⟩;dsimp only;have hout:=kat_snds rfl har;refine AA (seqEpoch_at ho6 rfl ?_);refine AA (listUpdate_at ho6 rfl ?_ (hsz2:=by rw[hout,AR,AN,AZ,hp,Bf];omega));rw[hf];simp only[bne_self_eq_false,A0,Bb];rw[hout];exact AB (h p B S)
theorem qAH{l:Addr}{vs:List Value}{Q:List Value->Shared->Prop}(hl:∃o,s.heap.get? l=some o∧o.cls= .type "tuple" ∧∃n,o.data= .seq vs.toArray n)(hz:vs.length≤sizeLine)
  (h:Q vs { s with heap:=(s.heap.push (seqObj "list" #[] 0)).update s.heap.objs.size (Obj.mapSeq (· ++ vs.toArray)) }):wpAny (model prog w) A (collect (.ref l)) Q E s:=by
 obtain⟨ob,g1,g2,nn,g3⟩:=hl;unfold collect;refine AA (wpAny_runValue (Br entry_proto_collect' ?_));show wpAny _ _ (do again (.builtin "list.__iadd__" ⟨[←newList [],.ref l],[]⟩)) _ _ s;refine AA (CY (AB ⟨B5 _ (by decide +kernel),Br entry_list_iadd' ?_⟩));show wpAny _ _ (Builtin.List.listExtendWith (.ref s.heap.objs.size) (.ref l) (.ref s.heap.objs.size)) _ _ { s with heap:=s.heap.push (seqObj "list" #[] 0) };unfold Builtin.List.listExtendWith;have g4:(s.heap.push (seqObj "list" #[] 0)).get? l=some ob:=AD _ g1;refine AA (BX (T := "tuple") ⟨ob,g4,g2⟩ ?_);have g5:(Value.type "tuple" == Value.type "tuple")=true:=by rfl
 rw[AE (by rw[g5];simp)];refine AA (listItems_at g4 g3 ?_);refine AA (listItems_at (xs := #[]) (n:=0) (AW _ rfl) rfl ?_);rw[AF (by simp)];refine AA (listUpdate_at (xs := #[]) (n:=0) (AW _ rfl) rfl ?_ (A6 _) (by show (#[]++vs.toArray).size≤sizeLine+1;simp only[Array.size_append,AR,Bs];omega));refine AB ?_;show wpAny _ _ (load s.heap.objs.size >>= _) Q E _;refine AA (wpAny_load (get?_update_seq (AW _ rfl) _) ?_);show wpAny _ _ (pure ((#[]:Array Value)++vs.toArray).toList) Q E _;rw[show ((#[]:Array Value)++vs.toArray).toList=vs by simp];exact AB h
theorem qDz{l:Addr}{vs:List Value}{Q:Value->Shared->Prop}{key:Nat->O.α}{κ:SortKind}(hcol:∀{E':Value->Shared->Prop} {Q':List Value->Shared->Prop},Q' vs { s with heap:=(s.heap.push (seqObj "list" #[] 0)).update s.heap.objs.size (Obj.mapSeq (· ++ vs.toArray)) }->wpAny (model prog w) A.in1 (collect (.ref l)) Q' E' s)(h64:vs.length<64)
  (hk:2≤vs.length->∀(A':Around) (E':Value->Shared->Prop) (h6:Heap) (Q:SortKind->Shared->Prop),(∀b o,s.heap.get? b=some o->h6.get? b=some o)->Q κ { s with heap:=h6 }->wpAny (model prog w) A' (keyKind' vs.toArray) Q E' { s with heap:=h6 })
  (hc:∀(h6:Heap) (i j:Nat) (C:Bool->Shared->Prop),(∀b o,s.heap.get? b=some o->h6.get? b=some o)->i<vs.length->j<vs.length->C (O.blt (key i) (key j)) { s with heap:=h6 }->wpAny (model prog w) A.in1.in1 (keyLt' κ (vs.getD i Value.none) (vs.getD j Value.none)) C (fun _ _=>False) { s with heap:=h6 })
  (h:∀p:Array Nat,PB vs.length p->Srt key p vs.length->Q (.ref (s.heap.objs.size+1)) { s with heap:=sortedAll s.heap vs (List.toArray (p.toList.map fun i=>vs.getD i Value.none)) }) :
  wpAny (model prog w) A (call (.builtin "sorted") [.ref l]) Q E s:=by
 refine Calls.call_function_entry kind_sorted plain_sorted entry_sorted (args_sorted1 _) ?_;unfold Builtin.«sorted»;refine AA (m:=checkCount "sorted" 1 1 _) (AB ?_);refine AA (hcol ?_);refine AA (CY ?_ (by rw[Bf];omega));have hsz:((s.heap.push (seqObj "list" #[] 0)).update s.heap.objs.size (Obj.mapSeq (· ++ vs.toArray))).objs.size=s.heap.objs.size+1:=by rw[CH,size_push']
 have hoL:(((s.heap.push (seqObj "list" #[] 0)).update s.heap.objs.size (Obj.mapSeq (· ++ vs.toArray))).push (seqObj "list" vs.toArray 0)).get? (s.heap.objs.size+1)=some (seqObj "list" vs.toArray 0):=by rw[←hsz];exact AW _ rfl
 have keep:∀b o,s.heap.get? b=some o->(((s.heap.push (seqObj "list" #[] 0)).update s.heap.objs.size (Obj.mapSeq (· ++ vs.toArray))).push (seqObj "list" vs.toArray 0)).get? b=some o:=fun b o q=>by
  have hlt:b<s.heap.objs.size:=AU q;rw[Heap.get?_push_ne _ _ _ (by rw[hsz];exact Ab (BL hlt)),Heap.get?_update_ne _ _ _ _ (Ab hlt),Heap.get?_push_ne _ _ _ (Ab hlt)];exact q
 show wpAny _ _ _ _ _ { s with heap:=((s.heap.push (seqObj "list" #[] 0)).update s.heap.objs.size (Obj.mapSeq (· ++ vs.toArray))).push (seqObj "list" vs.toArray 0) };rw[hsz];have hne:∀b o,s.heap.get? b=some o->b≠s.heap.objs.size+1:=fun b o q=>Ab (BL (AU q));refine AA (Ak (Bm slot_list_sort ⟨_,hoL,rfl⟩ entry_list_sort (qGQ (O:=O) (key:=key) (κ:=κ) hoL h64 (fun h2 h6 Q' k q=>hk h2 _ _ h6 Q' (fun b o hb=>k b o (hne b o hb) (keep b o hb)) q) (fun h6 i j C k hi hj q=>hc h6 i j C (fun b o hb=>k b o (hne b o hb) (keep b o hb)) hi hj q) fun p a1 a2=>⟨_,rfl,?_⟩) (args_list_sort _)));exact AB ⟨_,rfl,h p a1 a2⟩
end
def lxb:List Int->List Int->Bool|_,[]=>false|[],_::_=>true|a::l,b::m=>if a<b then true else if b<a then false else lxb l m
theorem YC:∀l,lxb l l=false|[]=>rfl|a::l=>by rw[lxb,AF (Int.lt_irrefl a),AF (Int.lt_irrefl a)];exact YC l
theorem qBZ:∀a b c,lxb a b=true->lxb b c=true->lxb a c=true
 |_,_,[],_,h=>by cases ‹List Int› <;> simp[lxb]at h
 |_,[],_::_,h,_=>by simp[lxb]at h
 |[],_::_,_::_,_,_=>rfl
 |x::l,y::m,z::n,h1,h2=>by
  unfold lxb at h1 h2 ⊢;by_cases hxy:x<y
  ·by_cases hyz:y<z;rw[AE (by omega)]
   ·rw[AF hyz]at h2;by_cases hzy:z<y;rw[AE hzy]at h2;cases h2;rw[AE (by omega)]
  ·rw[AF hxy]at h1;by_cases hyx:y<x;rw[AE hyx]at h1;cases h1
   ·rw[AF hyx]at h1;by_cases hyz:y<z;rw[AE (by omega)]
    ·rw[AF hyz]at h2;by_cases hzy:z<y;rw[AE hzy]at h2;cases h2
     ·rw[AF hzy]at h2;rw[AF (by omega),AF (by omega)];exact qBZ l m n h1 h2
theorem yv:∀a b,lxb a b=false->lxb b a=false->a=b
 |[],[],_,_=>rfl
 |[],_::_,h,_=>by cases h
 |_::_,[],_,h=>by cases h
 |x::l,y::m,h1,h2=>by
  unfold lxb at h1 h2;by_cases hxy:x<y;rw[AE hxy]at h1;cases h1
  ·by_cases hyx:y<x;rw[AE hyx]at h2;cases h2
   ·rw[AF hxy,AF hyx]at h1;rw[AF hyx,AF hxy]at h2
    have:x=y:=by omega
    rw[this,yv l m h1 h2]
def lxO:KeyOrd where
 α:=List Int
 blt:=lxb
 irrefl:=YC
 trans:=qBZ
 total:=yv
 negTrans:=fun a b c h=>by
  cases h1:lxb a b with
  |true=>exact .inl rfl
  |false =>
   right;cases h2:lxb b a with|true=>exact qBZ b a c h2 h|false=>rw[←yv a b h1 h2];exact h
section
variable{prog:Program}{w:World}{A:Around}{E:Value->Shared->Prop}{s:Shared}
theorem qHg(b:Bool){x y:Int}{t u:Tok}{Q:Bool->Shared->Prop}(h:Q (decide (x<y)) s):wpAny (model prog w) A (oneLt' b (.int x t) (.int y u)) Q E s:=by
 cases b with|true=>exact oneLt_int h|false=>exact kat_one _ _ (wpAny_lt_int h)
theorem qIx{b fin:Bool}{Q:Bool->Shared->Prop}{ks:List Int}{vs:List Value}(hx:ItemsAre (intKind prog w) ks vs):∀{ks':List Int} {us:List Value} (i:Nat),ItemsAre (intKind prog w) ks' us->decide (vs.length<us.length)=fin->Q (lxb ks ks') s->KatLex prog w A b fin Q (vs.zip us) i s:=by
 induction hx with
 |nil =>
  intro ks' us i hy hf h;refine kat_nil ?_;cases hy with|nil=>rw[←hf];exact h|cons _ _=>rw[←hf,Bs,AJ,AV (Nat.succ_pos _)];exact h
 | @cons k v ks vs h1 h2 ih =>
  intro ks' us i hy hf h;cases hy with
  |nil=>refine kat_nil ?_;rw[←hf];exact h
  | @cons k' u ks' us g1 g2 =>
   rw[BH];refine kat_cons ((intKind prog w).eqBool h1 g1 ?_);obtain⟨n1,t1,rfl⟩:=ZI (.cons h1 h2) v AK;obtain⟨n2,t2,rfl⟩:=ZI (.cons g1 g2) u AK;have e1:n1=k:=(intKind prog w).inj _ _ _ (intKind_is prog w n1 t1) h1;have e2:n2=k':=(intKind prog w).inj _ _ _ (intKind_is prog w n2 t2) g1;subst e1;subst e2;unfold lxb at h;by_cases hq:n1=n2
   ·rw[AV hq];rw[AF (by omega),AF (by omega)]at h;exact kat_yes (ih (i+1) g2 (by simpa using hf) h)
   ·rw[AY hq];refine kat_no (qHg _ ?_);by_cases hl:n1<n2;rw[AE hl]at h;rw[AV hl];exact h;rw[AF hl,AE (by omega)]at h;rw[AY hl];exact h
theorem qKR{b:Bool}{ks ks':List Int}{x y:Addr}{Q:Bool->Shared->Prop}(hx:TK prog w s.heap ks x)(hy:TK prog w s.heap ks' y)(h:Q (lxb ks ks') s):wpAny (model prog w) A (keyLt' (tuples' b) (.ref x) (.ref y)) Q E s:=by obtain⟨ox,xs,n,h1,_,h3,h4⟩:=hx;obtain⟨oy,ys,m,g1,_,g3,g4⟩:=hy;exact kat_lt h1 h3 g1 g3 (qIx h4 0 g4 (by simp) h)
inductive TsV (prog:Program) (w:World) (h:Heap):List Value->List (List Int)->Prop
 |nil:TsV prog w h [] []
 |cons {ks:List Int} {b:Addr} {vs:List Value} {kss:List (List Int)}:TK prog w h ks b->ks≠[]->TsV prog w h vs kss->TsV prog w h (.ref b::vs) (ks::kss)
theorem TsV.len{h:Heap}{vs:List Value}{kss:List (List Int)}(e:TsV prog w h vs kss):vs.length=kss.length:=by
 induction e with|nil=>rfl|cons _ _ _ ih=>rw[AJ,AJ,ih]
theorem TsV.keep{h h':Heap}{vs:List Value}{kss:List (List Int)}(e:TsV prog w h vs kss)(k:∀b o,(∃ks,TK prog w h ks b)->h.get? b=some o->h'.get? b=some o):TsV prog w h' vs kss:=by
 induction e with|nil=>exact .nil|cons a ne _ ih=>exact .cons (a.keep fun o=>k _ o ⟨_,a⟩) ne ih
theorem TsV.get{h:Heap}{vs:List Value}{kss:List (List Int)}(e:TsV prog w h vs kss):∀{i:Nat},i<vs.length->∃b,vs.getD i Value.none= .ref b∧TK prog w h (kss.getD i []) b:=by
 induction e with
 |nil=>intro i hi;exact absurd hi (BG _)
 | @cons ks b vs kss a _ _ ih =>
  intro i hi;cases i with|zero=>exact⟨b,rfl,a⟩|succ i=>simpa using ih (i:=i) (by simpa using hi)
theorem TsV.kat{h:Heap}{vs:List Value}{kss:List (List Int)}(e:TsV prog w h vs kss):∃fs:List Value,KatTups h vs fs∧fs.length=vs.length∧∀v∈fs,∃n t,v=Value.int n t:=by
 induction e with
 |nil=>exact⟨[],KatTups.nil,rfl,fun v hv=>(Af hv).elim⟩
 | @cons ks b vs kss a ne _ ih =>
  obtain⟨fs,h1,h2,h3⟩:=ih;obtain⟨o,its,n,g1,g2,g3,g4⟩:=a;have hv:=ZI g4;cases hq:its.toList with
  |nil=>rw[hq]at g4;cases g4;exact absurd rfl ne
  |cons f r =>
   have hf:its[0]? = some f:=by rw[←Ax,hq];rfl
   refine⟨f::fs,KatTups.cons g1 g2 g3 hf h1,by rw[AJ,AJ,h2],fun v hv'=>?_⟩;rcases AH.mp hv' with q|q
   ·rw[q];exact hv f (by rw[hq];exact AK)
   ·exact h3 v q
theorem qI0{vs:List Value}{kss:List (List Int)}{Q:SortKind->Shared->Prop}(e:TsV prog w s.heap vs kss)(h2:2≤vs.length)(h:Q (tuples' true) s):wpAny (model prog w) A (keyKind' vs.toArray) Q E s:=by
 obtain⟨fs,h1,h3,h4⟩:=e.kat;refine kat_kind (T:=.type "int") h1 (by omega) (fun v hv=>?_) (by decide) ?_;obtain⟨n,t,rfl⟩:=h4 v hv;exact .now;rw[show (Value.type "int" != Value.type "tuple")=true by decide];exact h
def srt(kss:List (List Int)):List (List Int):=kss.mergeSort fun a b=> !lxb b a
theorem Ya(kss:List (List Int)):(srt kss).Perm kss:=List.mergeSort_perm _ _
theorem qI5(kss:List (List Int)):(srt kss).Pairwise fun a b=>lxb b a=false:=by
 have:=List.pairwise_mergeSort (le:=fun a b:List Int=> !lxb b a) (fun a b c h1 h2=>by
  simp only[Bool.not_eq_eq_eq_not,Bool.not_true]at h1 h2 ⊢;exact CI (O:=lxO) h1 h2) (fun a b=>by
  cases h:lxb b a with
  |false=>simp
  |true =>
   have:lxb a b=false:=B7 (O:=lxO) (a:=b) (b:=a) h
   simp[this]) kss
 exact this.imp fun h=>by simpa using h
theorem qID:∀{l m:List (List Int)},l.Pairwise (fun a b=>lxb b a=false)->m.Pairwise (fun a b=>lxb b a=false)->l.Perm m->l=m
 |[],m,_,_,p=>(List.Perm.eq_nil p.symm).symm
 |x::l,[],_,_,p=>by have:=p.length_eq;simp at this
 |x::l,y::m,hl,hm,p=>by
  have hx:x∈y::m:=p.mem_iff.mp AK;have hy:y∈x::l:=p.mem_iff.mpr AK;have e:x=y:=by
   have h1:lxb y x=false:=by
    rcases AH.mp hy with q|q
    ·rw[q];exact YC _
    ·exact (B6.mp hl).1 y q
   have h2:lxb x y=false:=by
    rcases AH.mp hx with q|q
    ·rw[q];exact YC _
    ·exact (B6.mp hm).1 x q
   exact yv _ _ h2 h1
  subst e;rw[qID (B6.mp hl).2 (B6.mp hm).2 (List.Perm.cons_inv p)]
theorem qKQ{h:Heap}{vs:List Value}{kss:List (List Int)}(e:TsV prog w h vs kss){p:Array Nat}(B:PB vs.length p)(S:Srt (O:=lxO) (fun i=>kss.getD i []) p vs.length):p.toList.map (fun i=>kss.getD i [])=srt kss:=by
 have hsz:=B.size;refine qID ?_ (qI5 kss) ?_
 ·rw[List.pairwise_map,List.pairwise_iff_getElem];intro i j hi hj hij
  have:=S i j (by omega) (by rw[AZ]at hj;omega)
  unfold kq at this;rw[AL,AL,AS (by simpa using hi),AS (by simpa using hj)]at this;exact this
 ·refine ((Array.perm_iff_toList_perm.mp B.perm).map _).trans (.trans ?_ (Ya kss).symm)
  have:(List.range vs.length).map (fun i=>kss.getD i [])=kss:=by
   rw[e.len];refine List.ext_getElem (by simp) fun i h1 h2=>?_;simp[Ar,AM h2]
  show ((List.range vs.length).map fun i=>kss.getD i []).Perm kss;rw[this]
end
end ET
end
section
namespace ET
open PySem PySem.Spec PyProof.Rows L2
open EX
def Wf(acc:List (List Int))(k:List Int):List (List Int):=if k∈acc then acc else acc++[k]
def ddT(kss:List (List Int)):List (List Int):=kss.foldl Wf []
theorem qFl{kss:List (List Int)}{i:Nat}(h:i<kss.length):ddT (kss.take (i+1))=Wf (ddT (kss.take i)) (kss.getD i []):=by unfold ddT;rw[List.take_succ_eq_append_getElem h,List.foldl_append,Ar,AM h];rfl
theorem qC0{a b:List (List Int)}{k:List Int}(h:a.Perm b):(if k∈a then a else a++[k]).Perm (Wf b k):=by
 unfold Wf;by_cases q:k∈a;rw[AE q,AE (h.mem_iff.mp q)];exact h;rw[AF q,AF (fun z=>q (h.mem_iff.mpr z))];exact h.append_right _
theorem YE:∀(kss acc:List (List Int)),(kss.foldl Wf acc).length≤acc.length+kss.length
 |[],acc=>AG _
 |k::vs,acc=>by
  rw[List.foldl_cons,AJ];have h:=YE vs (Wf acc k)
  have:(Wf acc k).length≤acc.length+1:=by
   unfold Wf;split;omega;rw[AO];exact AG _
  omega
section
variable{prog:Program}{w:World}{A:Around}{E:Value->Shared->Prop}{R:Result->Shared->Prop}
theorem SetT.same{h h':Heap}{a:Addr}{es:Array (Int×Value)}{ep:Nat}{t:SetTable}{kss:List (List Int)}(S:SetT prog w h a es ep t kss)(e:∀b o,(b=a∨∃ks,TK prog w h ks b)->h.get? b=some o->h'.get? b=some o):SetT prog w h' a es ep t kss:=by obtain⟨⟨o,h1,h2⟩,el,nd,tb⟩:=S;exact⟨⟨o,e a o (.inl rfl) h1,h2⟩,el.keep fun b ks k=>k.keep fun o' ho'=>e b o' (.inr ⟨ks,k⟩) ho',nd,tb⟩
theorem qBN{h:Heap}{b:Addr}{o:Obj}(ho:h.get? b=some o)(hc:o.cls≠ .type "tuple"):∀ks,¬TK prog w h ks b:=fun ks ⟨o',_,_,h1,h2,_⟩=>by rw[ho]at h1;cases h1;exact hc h2
theorem SetT.not{h:Heap}{a:Addr}{es:Array (Int×Value)}{ep:Nat}{t:SetTable}{kss:List (List Int)}(S:SetT prog w h a es ep t kss)(ks:List Int):¬TK prog w h ks a:=by obtain⟨o,ho,hx,_⟩:=S.ex;exact qBN ho (by rw[hx.1];decide) ks
theorem Jh{I:Addr}{fp wr:List Addr}{n:Nat}{P:Nat->Value->Prop}{St:Nat->Heap->Prop}(W:Walks prog w A.in1 I fp wr n P St)(hwr:∀i h,St i h->∀b∈wr,∀ks,¬TK prog w h ks b)(hu:A.in1.units<cLine){Sa:Addr}(hS:Sa∉fp){its:List Value}{kss:List (List Int)}(hn:its.length=n)(h3:n≤299)(hv:∀i v,P i v->its[i]? = some v) :
  ∀(k i:Nat) (s:Shared) (es:Array (Int×Value)) (ep:Nat) (t:SetTable) (ks1:List (List Int)),n-i=k->i≤n->St i s.heap->TsV prog w s.heap its kss->SetT prog w s.heap Sa es ep t ks1->(∀e∈es.toList,e.2∈its)->ks1.Perm (ddT (kss.take i)) ->
   (∀(h':Heap) (tk:Nat) (es':Array (Int×Value)) (ep':Nat) (t':SetTable) (ks':List (List Int)),(∀b o,b∉Sa::wr->s.heap.get? b=some o->h'.get? b=some o)->SetT prog w h' Sa es' ep' t' ks'->ks'.Perm (ddT kss)->(∀e∈es'.toList,e.2∈its)->R (.ok (.ret .none)) { s with heap:=h',toks:=tk }) ->
   codeAny (model prog w) A (.builtin "set.update.loop" ⟨[.ref Sa,.ref I],[]⟩) R s:=by
 intro k;induction k with
 |zero =>
  intro i s es ep t ks1 hk hi hSt V S hE hp h
  have:i=n:=by omega
  subst this;refine Br F.entry_set_update_loop ?_;rw[Around.under_plainId F.plain_set_update_loop];unfold Builtin.«set.update.loop»;refine AA (W.done _ _ _ hSt fun h' tk hk'=>?_);dsimp only;refine AB ?_;refine h h' tk es ep t ks1 (fun b o hb'=>hk' b o fun q=>hb' (AI _ q)) (S.same fun b o hb=>hk' b o fun q=>hb.elim (fun z=>hS (W.sub _ (by rw[←z];exact q))) fun⟨ks,z⟩=>hwr _ _ hSt b q ks z) ?_ ?_;rw[←hn,V.len,List.take_length]at hp;exact hp;exact hE
 |succ k ih =>
  intro i s es ep t ks1 hk hi hSt V S hE hp h;have hi':i<n:=by omega
  refine Br F.entry_set_update_loop ?_;rw[Around.under_plainId F.plain_set_update_loop];unfold Builtin.«set.update.loop»;refine AA (W.item i _ _ _ hi' hSt fun v h' tk hP hSt' hk'=>?_);obtain⟨b,hb,kb⟩:=V.get (i:=i) (by omega);have hvi:=hv i v hP;have evb:v= .ref b:=by rw[Ar,hvi]at hb;exact hb
  subst evb;have low:∀c o,(∃ks,TK prog w s.heap ks c)->s.heap.get? c=some o->h'.get? c=some o:=fun c o ⟨ks,z⟩=>hk' c o fun q=>hwr _ _ hSt c q ks z;have kb':TK prog w h' (kss.getD i []) b:=kb.keep fun o=>low b o ⟨_,kb⟩;have S':SetT prog w h' Sa es ep t ks1:=S.same fun c o hc=>hc.elim (fun z=>hk' c o fun q=>hS (W.sub _ (by rw[←z];exact q))) fun z=>low c o z;have V':TsV prog w h' its kss:=V.keep low;dsimp only;refine AA (Ak ?_);unfold setAdd;refine Ak (AA (wpAny_pyHash_tuple (s:={ s with heap:=h',toks:=tk }) hu kb' ?_));have hl:ks1.length+1≤300:=by
   have:=YE (kss.take i) []
   have e:(ddT (kss.take i)).length≤i:=by have q:=List.length_take_le i kss;unfold ddT;have z:([]:List (List Int)).length=0:=rfl;omega
   rw[hp.length_eq];omega
  refine qKF (s:={ s with heap:=h',toks:=tk+((kss.getD i []).length+1) }) hu S' kb' hl fun h2 es2 ep2 t2 ks2 hs2 S2 hp2 he2=>?_;refine AB ⟨plainId_quiet F.plain_set_update_loop _,?_⟩;refine ih (i+1) _ es2 ep2 t2 ks2 (by omega) (by omega) (W.frame _ _ _ hSt' fun b hbf o ho=>by
   rw[hs2.2 b (fun z=>hS (by rw[←z];exact hbf))];exact ho) ?_ S2 (fun e he=>(he2 e he).elim (hE e) fun z=>by rw[z];exact Aq hvi) ?_ fun h3 tk3 es3 ep3 t3 ks3 hh S3 hp3 hE3=>?_
  ·exact V'.keep fun c o ⟨ks,z⟩ ho=>(hs2.2 c (fun e=>S'.not ks (by rw[←e];exact z))).trans ho
  ·rw[qFl (by rw[←V.len];omega)];exact hp2.trans (qC0 hp)
  ·exact h h3 tk3 es3 ep3 t3 ks3 (fun b o hbn ho=>hh b o hbn (by
    have:b≠Sa:=fun z=>hbn (by rw[z];exact AK)
    rw[hs2.2 b this];exact hk' b o (fun q=>hbn (AI _ q)) ho)) S3 hp3 hE3
theorem qCH{h:Heap}{led:Bool}(hl:led= !byT w):SetT prog w (h.push { cls:=.type "set",data:=.set #[] 0 (SetTable.fresh 0 0 led) }) h.objs.size #[] 0 (SetTable.fresh 0 0 led) [] :=
 ⟨⟨_,AW _ rfl,⟨rfl,rfl,rfl⟩,rfl⟩,.nil,List.nodup_nil,⟨⟨rfl,rfl,fun i k _ hk=>absurd hk (BG _),fun j hj=>(Af hj).elim,A6 _⟩,fun q hq=>(Af hq).elim,.inl ⟨rfl,A6 _⟩,hl,rfl⟩⟩
theorem qBO{s:Shared}{l:Addr}{items:Array Value}{kss:List (List Int)}{Q:Value->Shared->Prop}(hh:A.handled=none)(hu:A.units+8<cLine)(hl:s.heap.IsList l items)(V:TsV prog w s.heap items.toList kss)(h3:kss.length≤299)
  (h:∀(h':Heap) (tk:Nat) (es':Array (Int×Value)) (ep':Nat) (t':SetTable) (ks':List (List Int)),SetT prog w h' s.heap.objs.size es' ep' t' ks'->ks'.Perm (ddT kss)->(∀e∈es'.toList,e.2∈items.toList)->(∀b o,b<s.heap.objs.size->s.heap.get? b=some o->h'.get? b=some o)->Q (.ref s.heap.objs.size) { s with heap:=h',toks:=tk }) :
  wpAny (model prog w) A (call (.type "set") [.ref l]) Q E s:=by
 refine BY (codeAny_of_tree (An (a:=Fin.again (.builtin "type.__call__" ⟨[.type "set",.ref l],[]⟩)) rfl ⟨B5 _ (by decide +kernel),?_⟩));refine Br F.entry_type_call ?_;rw[Around.under_plain (weight_type_call_type _ _ _) rfl];unfold Builtin.«type.__call__»;dsimp only;rw[AF (by rw[F.called_set.notType];decide),AF (by rw[F.called_set.canCreate];decide)];refine AA (An (F.typeCall_set_1 _) ?_);obtain⟨c,tl,hm⟩:=F.called_set.mro;refine AA (An hm ?_);rw[AF (by simp)];refine AA (An F.called_set.made ?_);dsimp only;refine AA (AB (AA (Ak (BY (qCl ?_)))));have hT:({ s with heap:=s.heap.push { cls:=.type "set",data:=.set #[] 0 (SetTable.fresh 0 0 (!byT w)) } }:Shared).TypeIs (.ref s.heap.objs.size) "set" :=⟨_,AW _ rfl,rfl⟩;refine AA (BN hT sub_set_self ?_);rw[AF (by decide)];refine AA (Ak ?_);unfold callSpecial?;refine AA (wpAny_specialOf hT F.called_set.init.lookup ?_);dsimp only;refine Ak (AA (An (F.called_set.init.bind _) ?_));dsimp only;refine AA (BY (BQ F.called_set.init.plain F.entry_set_init (check_set_init_1 hT ?_)));unfold Builtin.«set.__init__»;refine AA (An (a:=()) rfl ?_);show wpAny _ _ (do
  let n ← typeNameOfCut 200 (.ref s.heap.objs.size)
  checkCount n 0 1 1
  let a ← Builtin.Frozenset.addrOf (.ref s.heap.objs.size);let u ← setUsed a
  if u=true then do
   Builtin.Frozenset.clearAll a
   Builtin.Frozenset.updateFrom "set.__init__" a (.ref l)
   ret Value.none
  else do
   Builtin.Frozenset.updateFrom "set.__init__" a (.ref l)
   ret Value.none) _ _ _
 unfold typeNameOfCut shownTypeOf;refine AA (AA (AA (BX hT ?_)));rw[AF (by decide)];refine AB (An (a := "set") (by rfl) ?_);refine AA (An (a:=()) rfl ?_);refine AA (An (a:=s.heap.objs.size) rfl ?_);unfold setUsed;have hg:(s.heap.push { cls:=.type "set",data:=.set #[] 0 (SetTable.fresh 0 0 (!byT w)) }).get? s.heap.objs.size=some { cls:=.type "set",data:=.set #[] 0 (SetTable.fresh 0 0 (!byT w)) }:=AW _ rfl;refine AA (AA (Bk hg rfl rfl (AB ?_)));rw[AF (by intro q;exact Bool.noConfusion (show false=true from q))];refine AA ?_;unfold Builtin.Frozenset.updateFrom Builtin.Frozenset.isAnySet;have hl':(s.heap.push { cls:=.type "set",data:=.set #[] 0 (SetTable.fresh 0 0 (!byT w)) }).IsList l items:=hl.push _;refine AA (AA (BN (T := "list") hl'.typeIs F.sub_list_set ?_));show wpAny _ _ (isInstance (.ref l) (.type "frozenset")) _ _ _;refine BN (T := "list") hl'.typeIs F.sub_list_frozenset ?_;rw[AF (by decide)];refine AA (BX (T := "list") hl'.typeIs ?_);rw[AF (by decide)];refine AA (wpAny_pyIter_list hl' (AA (wpAny_runValue ?_)));have hlt:l<s.heap.objs.size:=by obtain⟨o,ho,_⟩:=hl;exact AU ho
 have hS:=qCH (prog:=prog) (w:=w) (h:=s.heap) (led:= !byT w) rfl;have hsz:(s.heap.push { cls:=.type "set",data:=.set #[] 0 (SetTable.fresh 0 0 (!byT w)) }).objs.size=s.heap.objs.size+1:=Bn ..;have hlen:items.size=kss.length:=by rw[←V.len,AZ]
 refine Jh (A:=A.in1.in1) (Walks.list (A:=A.in1.in1.in1) hh (s.heap.push { cls:=.type "set",data:=.set #[] 0 (SetTable.fresh 0 0 (!byT w)) }).objs.size l (by rw[hsz];exact Ab (BL hlt)) items) (fun i h' hst b hb ks=>by
  rw[Al.mp hb];obtain⟨o,ho,hc,_⟩:=hst.1;exact qBN ho (by rw[hc];decide) ks) (by show A.units+3<cLine;omega) (Sa:=s.heap.objs.size) (by
  rw[hsz];intro q;rcases AH.mp q with q|q
  ·exact absurd q (by show ¬s.heap.objs.size=s.heap.objs.size+1;omega)
  ·have:=Al.mp q;exact absurd hlt (by rw[←this];exact BP _)) (its:=items.toList) (kss:=kss) (by rw[AZ]) (by omega) (fun i v hi=>by rw[Ax];exact hi) _ 0 _ #[] 0 _ [] rfl (A6 _) ⟨⟨_,AW _ rfl,rfl,rfl⟩,hl'.push _⟩ (V.keep fun b o _ ho=>AD _ (AD _ ho)) (hS.same fun b o _ ho=>AD _ ho) (fun e he=>(Af he).elim) (by rw[List.take_zero];exact .refl _) fun h' tk es' ep' t' ks' hk S' hp hE'=>?_
 refine AB (AB ?_);refine AB ?_;dsimp only;rw[AF (by decide)];refine AB ?_;refine h h' tk es' ep' t' ks' S' hp hE' fun b o hb' ho=>hk b o (fun q=>?_) (AD _ (AD _ ho));rw[hsz]at q;rcases AH.mp q with q|q
 ·exact absurd hb' (by rw[q];exact BP _)
 ·have:=Al.mp q;exact absurd hb' (by rw[this];exact Nat.not_lt_of_le (CM _))
theorem qBy{s:Shared}{l:Addr}{items:Array Value}{kss:List (List Int)}{Q:Value->Shared->Prop}(hh:A.handled=none)(hu:A.units+8<cLine)(hl:s.heap.IsTuple l items)(V:TsV prog w s.heap items.toList kss)(h3:kss.length≤299)
  (h:∀(h':Heap) (tk:Nat) (es':Array (Int×Value)) (ep':Nat) (t':SetTable) (ks':List (List Int)),SetT prog w h' s.heap.objs.size es' ep' t' ks'->ks'.Perm (ddT kss)->(∀e∈es'.toList,e.2∈items.toList)->(∀b o,b<s.heap.objs.size->s.heap.get? b=some o->h'.get? b=some o)->Q (.ref s.heap.objs.size) { s with heap:=h',toks:=tk }) :
  wpAny (model prog w) A (call (.type "set") [.ref l]) Q E s:=by
 refine BY (codeAny_of_tree (An (a:=Fin.again (.builtin "type.__call__" ⟨[.type "set",.ref l],[]⟩)) rfl ⟨B5 _ (by decide +kernel),?_⟩));refine Br F.entry_type_call ?_;rw[Around.under_plain (weight_type_call_type _ _ _) rfl];unfold Builtin.«type.__call__»;dsimp only;rw[AF (by rw[F.called_set.notType];decide),AF (by rw[F.called_set.canCreate];decide)];refine AA (An (F.typeCall_set_1 _) ?_);obtain⟨c,tl,hm⟩:=F.called_set.mro;refine AA (An hm ?_);rw[AF (by simp)];refine AA (An F.called_set.made ?_);dsimp only;refine AA (AB (AA (Ak (BY (qCl ?_)))));have hT:({ s with heap:=s.heap.push { cls:=.type "set",data:=.set #[] 0 (SetTable.fresh 0 0 (!byT w)) } }:Shared).TypeIs (.ref s.heap.objs.size) "set" :=⟨_,AW _ rfl,rfl⟩;refine AA (BN hT sub_set_self ?_);rw[AF (by decide)];refine AA (Ak ?_);unfold callSpecial?;refine AA (wpAny_specialOf hT F.called_set.init.lookup ?_);dsimp only;refine Ak (AA (An (F.called_set.init.bind _) ?_));dsimp only;refine AA (BY (BQ F.called_set.init.plain F.entry_set_init (check_set_init_1 hT ?_)));unfold Builtin.«set.__init__»;refine AA (An (a:=()) rfl ?_);show wpAny _ _ (do
  let n ← typeNameOfCut 200 (.ref s.heap.objs.size)
  checkCount n 0 1 1
  let a ← Builtin.Frozenset.addrOf (.ref s.heap.objs.size);let u ← setUsed a
  if u=true then do
   Builtin.Frozenset.clearAll a
   Builtin.Frozenset.updateFrom "set.__init__" a (.ref l)
   ret Value.none
  else do
   Builtin.Frozenset.updateFrom "set.__init__" a (.ref l)
   ret Value.none) _ _ _
 unfold typeNameOfCut shownTypeOf;refine AA (AA (AA (BX hT ?_)));rw[AF (by decide)];refine AB (An (a := "set") (by rfl) ?_);refine AA (An (a:=()) rfl ?_);refine AA (An (a:=s.heap.objs.size) rfl ?_);unfold setUsed;have hg:(s.heap.push { cls:=.type "set",data:=.set #[] 0 (SetTable.fresh 0 0 (!byT w)) }).get? s.heap.objs.size=some { cls:=.type "set",data:=.set #[] 0 (SetTable.fresh 0 0 (!byT w)) }:=AW _ rfl;refine AA (AA (Bk hg rfl rfl (AB ?_)));rw[AF (by intro q;exact Bool.noConfusion (show false=true from q))];refine AA ?_;unfold Builtin.Frozenset.updateFrom Builtin.Frozenset.isAnySet;have hl':(s.heap.push { cls:=.type "set",data:=.set #[] 0 (SetTable.fresh 0 0 (!byT w)) }).IsTuple l items:=hl.push _;refine AA (AA (BN (T := "tuple") hl'.typeIs F.sub_tuple_set ?_));show wpAny _ _ (isInstance (.ref l) (.type "frozenset")) _ _ _;refine BN (T := "tuple") hl'.typeIs F.sub_tuple_frozenset ?_;rw[AF (by decide)];refine AA (BX (T := "tuple") hl'.typeIs ?_);rw[AF (by decide)];refine AA (wpAny_pyIter_tuple hl' (AA (wpAny_runValue ?_)));have hlt:l<s.heap.objs.size:=by obtain⟨o,ho,_⟩:=hl;exact AU ho
 have hS:=qCH (prog:=prog) (w:=w) (h:=s.heap) (led:= !byT w) rfl;have hsz:(s.heap.push { cls:=.type "set",data:=.set #[] 0 (SetTable.fresh 0 0 (!byT w)) }).objs.size=s.heap.objs.size+1:=Bn ..;have hlen:items.size=kss.length:=by rw[←V.len,AZ]
 refine Jh (A:=A.in1.in1) (Walks.tuple (A:=A.in1.in1.in1) hh (s.heap.push { cls:=.type "set",data:=.set #[] 0 (SetTable.fresh 0 0 (!byT w)) }).objs.size l (by rw[hsz];exact Ab (BL hlt)) items) (fun i h' hst b hb ks=>by
  rw[Al.mp hb];obtain⟨o,ho,hc,_⟩:=hst.1;exact qBN ho (by rw[hc];decide) ks) (by show A.units+3<cLine;omega) (Sa:=s.heap.objs.size) (by
  rw[hsz];intro q;rcases AH.mp q with q|q
  ·exact absurd q (by show ¬s.heap.objs.size=s.heap.objs.size+1;omega)
  ·have:=Al.mp q;exact absurd hlt (by rw[←this];exact BP _)) (its:=items.toList) (kss:=kss) (by rw[AZ]) (by omega) (fun i v hi=>by rw[Ax];exact hi) _ 0 _ #[] 0 _ [] rfl (A6 _) ⟨⟨_,AW _ rfl,rfl,rfl⟩,hl'.push _⟩ (V.keep fun b o _ ho=>AD _ (AD _ ho)) (hS.same fun b o _ ho=>AD _ ho) (fun e he=>(Af he).elim) (by rw[List.take_zero];exact .refl _) fun h' tk es' ep' t' ks' hk S' hp hE'=>?_
 refine AB (AB ?_);refine AB ?_;dsimp only;rw[AF (by decide)];refine AB ?_;refine h h' tk es' ep' t' ks' S' hp hE' fun b o hb' ho=>hk b o (fun q=>?_) (AD _ (AD _ ho));rw[hsz]at q;rcases AH.mp q with q|q
 ·exact absurd hb' (by rw[q];exact BP _)
 ·have:=Al.mp q;exact absurd hb' (by rw[this];exact Nat.not_lt_of_le (CM _))
end
end ET
end
section
namespace ET
open PySem PySem.Spec PyProof.Rows L2 PySem.W
open EX
section
variable{prog:Program}{w:World}{A:Around}{E:Value->Shared->Prop}{s:Shared}
theorem TsV.pick{h:Heap}{vs:List Value}{kss:List (List Int)}(e:TsV prog w h vs kss)(hne:∀ks∈kss,ks≠[]):∀(l:List Nat),(∀i∈l,i<vs.length)->TsV prog w h (l.map fun i=>vs.getD i Value.none) (l.map fun i=>kss.getD i [])
 |[],_=>.nil
 |i::l,hl=>by
  have hi:=hl i AK;obtain⟨b,h1,h2⟩:=e.get hi;rw[Aa,Aa,h1];refine .cons h2 ?_ (e.pick hne l fun j hj=>hl j (AI _ hj));have hk:i<kss.length:=by rw[←e.len];exact hi
  refine hne _ ?_;rw[Ar,AM hk];exact CJ hk
theorem TsV.ne{h:Heap}{vs:List Value}{kss:List (List Int)}(e:TsV prog w h vs kss):∀ks∈kss,ks≠[]:=by
 induction e with
 |nil=>intro ks hk;cases hk
 |cons _ ne _ ih =>
  intro ks hk;rcases AH.mp hk with q|q
  ·rw[q];exact ne
  ·exact ih ks q
theorem PB.mem{n:Nat}{p:Array Nat}(B:PB n p):∀i∈p.toList,i<n:=fun i hi=>by
 have:=(Array.perm_iff_toList_perm.mp B.perm).mem_iff.mp hi
 simpa using this
end
inductive TsL (K:W.Frag) (H:Hp):List V->List (List Int)->Prop
 |nil:TsL K H [] []
 |cons {a:Addr} {ks:List Int} {xs:List V} {kss:List (List Int)}:SqT K H a (ks.map V.int)->ks≠[]->TsL K H xs kss->TsL K H (.ref a::xs) (ks::kss)
section
variable{X:Cx}{pins:List (Addr×Obj)}{σ:L2.St}{H:Hp}{s:Shared}
theorem qAP{prog:Program}{w:World}:∀{ks:List Int} {its:List Value},Vals (ks.map V.int) its->ItemsAre (intKind prog w) ks its
 |[],its,h=>by
  cases its with|nil=>exact .nil|cons u us=>cases h
 |k::ks,its,h=>by
  rw[Aa]at h;cases h with|cons r t=>obtain⟨tk,rfl⟩:=(show ∃t,_=Value.int k t from r);exact .cons (intKind_is prog w k tk) (qAP t)
theorem qIG(I:L2.Inv X pins σ H s){a:Addr}{ks:List Int}(h:SqT X.K H a (ks.map V.int)):TK X.prog X.w s.heap ks a:=by obtain⟨its,rv,⟨o,h1,h2,n,h3⟩,hz⟩:=I.tuple h;exact⟨o,its.toArray,n,h1,h2,h3,qAP rv⟩
theorem qA5(I:L2.Inv X pins σ H s){xs:List V}{kss:List (List Int)}(h:TsL X.K H xs kss):∀{its:List Value},Vals xs its->TsV X.prog X.w s.heap its kss:=by
 induction h with
 |nil=>intro its hv;cases hv;exact .nil
 | @cons a ks xs kss h1 ne _ ih =>
  intro its hv;cases hv with|cons r t=>obtain rfl:=(show _=Value.ref a from r);exact .cons (qIG I h1) ne (ih t)
theorem TsL.mem{xs:List V}{kss:List (List Int)}(h:TsL X.K H xs kss):∀x∈xs,∃a ks,x= .ref a∧SqT X.K H a (ks.map V.int)∧ks≠[]:=by
 induction h with
 |nil=>intro x hx;cases hx
 |cons h1 ne _ ih =>
  intro x hx;rcases AH.mp hx with q|q
  ·exact⟨_,_,q,h1,ne⟩
  ·exact ih x q
theorem qDo{xs:List V}{its:List Value}(h:Vals xs its):∀b,Value.ref b∈its->(∀x∈xs,∃a,x=V.ref a)->V.ref b∈xs:=by
 induction h with
 |nil=>intro b hb;cases hb
 | @cons x u xs us r t ih =>
  intro b hb hx;obtain⟨a,rfl⟩:=hx _ AK;obtain rfl:=(show u=Value.ref a from r);rcases AH.mp hb with q|q
  ·cases q;exact AK
  ·exact AI _ (ih b q fun y hy=>hx y (AI _ hy))
theorem TsL.zip{xs:List V}{kss:List (List Int)}(h:TsL X.K H xs kss):∀a,V.ref a∈xs->∃ks,(V.ref a,ks)∈xs.zip kss∧SqT X.K H a (ks.map V.int):=by
 induction h with
 |nil=>intro a hx;cases hx
 | @cons b ks xs kss h1 ne _ ih =>
  intro a hx;rw[BH];rcases AH.mp hx with q|q
  ·cases q;exact⟨ks,AK,h1⟩
  ·obtain⟨ks,i1,i2⟩:=ih a q;exact⟨ks,AI _ i1,i2⟩
theorem qJK(I:L2.Inv X pins σ H s){xs:List V}{kss0:List (List Int)}(T:TsL X.K H xs kss0){its:List Value}(rv:Vals xs its){h':Heap}(hk:∀b o,s.heap.get? b=some o->h'.get? b=some o) :
  ∀{out:List Value} {kss:List (List Int)},TsV X.prog X.w h' out kss->(∀v∈out,v∈its)->∃L:List (V×List Int),L.map (·.2)=kss∧Vals (L.map (·.1)) out∧∀q∈L,q∈xs.zip kss0:=by
 intro out kss V;induction V with
 |nil=>intro _;exact⟨[],rfl,.nil,fun y hy=>(Af hy).elim⟩
 | @cons ks b vs kss k ne _ ih =>
  intro hin;obtain⟨L,h1,h2,h3⟩:=ih fun v hv=>hin v (AI _ hv);have hm:=qDo rv b (hin _ AK) fun x hx=>by obtain⟨a,_,e,_⟩:=T.mem x hx;exact⟨a,e⟩
  obtain⟨ks2,hz,hs⟩:=T.zip b hm;have k2:TK X.prog X.w h' ks2 b:=(qIG I hs).keep fun o=>hk b o
  have:=k.inj k2
  subst this;exact⟨(.ref b,ks)::L,by rw[Aa,h1],.cons rfl h2,fun y hy=>(AH.mp hy).elim (fun z=>by rw[z];exact hz) (h3 y)⟩
end
section
variable{X:Cx}{e:Expr}{te:TE}{p p2 pos pos2:Pos}
theorem qET{A:Around}{E:Value->Shared->Prop}{pins:List (Addr×Obj)}{σ:L2.St}{H:Hp}{s:Shared}{Q:Value->Shared->Prop}{a:Addr}{xs:List V}{kss:List (List Int)}(I:L2.Inv X pins σ H s)(hh:A.handled=none)(hu:A.units+8<cLine)(hq:SqL X.K H a xs∨SqT X.K H a xs)(T:TsL X.K H xs kss)(h3:kss.length≤299)
  (h:∀(its:List Value) (h':Heap) (tk:Nat) (es':Array (Int×Value)) (ep':Nat) (t':SetTable) (ks':List (List Int)),Vals xs its->SetT X.prog X.w h' s.heap.objs.size es' ep' t' ks'->ks'.Perm (ddT kss)->(∀e∈es'.toList,e.2∈its)->(∀b o,b<s.heap.objs.size->s.heap.get? b=some o->h'.get? b=some o)->Q (.ref s.heap.objs.size) { s with heap:=h',toks:=tk }) :
  wpAny (model X.prog X.w) A (call (.type "set") [.ref a]) Q E s:=by
 rcases hq with hq|hq
 ·obtain⟨its,rv,ht,hz⟩:=I.list hq;exact qBO hh hu ht.isList (by simpa using qA5 I T rv) h3 fun h' tk es' ep' t' ks' S hp hE hk=>h its h' tk es' ep' t' ks' rv S hp (by simpa using hE) hk
 ·obtain⟨its,rv,ht,hz⟩:=I.tuple hq;exact qBy hh hu ht (by simpa using qA5 I T rv) h3 fun h' tk es' ep' t' ks' S hp hE hk=>h its h' tk es' ep' t' ks' rv S hp (by simpa using hE) hk
def qJh(K:W.Frag)(te:TE):TE:=fun σ H Q=>te σ H fun x H1=>∃a xs kss,x= .ref a∧(SqL K H1 a xs∨SqT K H1 a xs)∧TsL K H1 xs kss∧kss.length≤299∧Q (.int (ddT kss).length) H1
def qJI(K:W.Frag)(te:TE):TE:=fun σ H Q=>te σ H fun x H1=>∃a xs kss,x= .ref a∧(SqL K H1 a xs∨SqT K H1 a xs)∧TsL K H1 xs kss∧kss.length<64∧∀p (L:List (V×List Int)),H1 p=none->(∀q∈L,q∈xs.zip kss)->L.map (·.2)=srt kss->Q (.ref p) (upd H1 p (.lst (L.map (·.1))))
theorem qEX(hu:X.A.units+64<cLine)(hg:Gl X "sorted")(hm:X.mg "sorted" = none)(he:PE X e te)(h1:starEach [e] X.env=(false,eval e X.env)::starEach [] X.env:=by rfl) :
  PE X (.Call (.Name "sorted" p) [e] [] pos) (qJI X.K te):=by
 intro pins s σ H Q I h;refine BO (zZ I hg hm PyProof.Rows.boot_sorted ?_ (by decide) (by decide));refine PyProof.Rows.callWith_builtin1 ?_ h1 rfl;rw[h1];show wpAny _ _ (spliced ((false,eval e X.env)::[])) _ _ s;refine CV (thn (he pins s σ H _ I h) fun u s1 ⟨x,H1,I1,r1,q1⟩=>Calls.spliced_nil ?_);obtain⟨a,xs,kss,rfl,hq,T,h64,q⟩:=q1;cases r1;obtain⟨its,rv,hcol⟩:∃its,Vals xs its∧(its.length<64->∀{E':Value->Shared->Prop} {Q':List Value->Shared->Prop},Q' its { s1 with heap:=(s1.heap.push (seqObj "list" #[] 0)).update s1.heap.objs.size (Obj.mapSeq (· ++ its.toArray)) }->wpAny (model X.prog X.w) X.A.in1 (collect (.ref a)) Q' E' s1):=by
  rcases hq with hq|hq
  ·obtain⟨its,rv,ht,_⟩:=I1.list hq;exact⟨its,rv,fun h _ _ q=>collect_list ht.isList q (by rw[Bf];omega)⟩
  ·obtain⟨its,rv,ht,_⟩:=I1.tuple hq;exact⟨its,rv,fun h _ _ q=>qAH ht (by rw[Bf];omega) q⟩
 have V:=qA5 I1 T rv;have hl:=V.len;refine qDz (O:=lxO) (key:=fun i=>kss.getD i []) (κ:=tuples' true) (s:=s1) (vs:=its) (hcol (by omega)) (by omega) (fun h2 A' E' h6 Q' k q'=>qI0 (s:={ s1 with heap:=h6 }) (V.keep fun b o _ ho=>k b o ho) h2 q') (fun h6 i j C k hi hj q'=>?_) fun pp B S=>?_;obtain⟨b,e1,k1⟩:=V.get hi;obtain⟨c,e2,k2⟩:=V.get hj;rw[e1,e2];exact qKR (s:={ s1 with heap:=h6 }) (k1.keep fun o=>k b o) (k2.keep fun o=>k c o) q'
 ·have V2:=V.pick V.ne pp.toList B.mem;rw[qKQ V B S]at V2;have keep:∀b o,s1.heap.get? b=some o->(sortedAll s1.heap its (List.toArray (pp.toList.map fun i=>its.getD i Value.none))).get? b=some o:=fun b o hb=>sortedAll_old hb;obtain⟨L,lk,rv2,hin2⟩:=qJK I1 T rv keep (V2.keep fun b o _ ho=>keep b o ho) fun v hv=>by obtain⟨i,hi,rfl⟩:=Ai.mp hv;have hi:=B.mem i hi;rw[Ar,AM hi];exact CJ hi
  obtain⟨e',he'⟩:=sortedAll_at s1.heap its (List.toArray (pp.toList.map fun i=>its.getD i Value.none));have hlen:(L.map (·.1)).length≤sizeLine:=by rw[rv2.length,AN,AZ,B.size,Bf];omega
  refine⟨.ref (s1.heap.objs.size+1),_,I1.laid (t':=s1.toks) (o:=.lst (L.map (·.1))) keep (CM _) ⟨hlen,_,e',rv2,he'⟩,rfl,q _ L (I1.hok.fresh (CM _)) hin2 lk⟩
end
open EX
section
variable{X:Cx}{e:Expr}{te:TE}{p p2 pos pos2:Pos}
theorem qFX(hc:X.calm=true)(hu:X.A.units+64<cLine)(hg:Gl X "len")(hm:X.mg "len" = none)(hg2:Gl X "set")(hm2:X.mg "set" = none)(he:PE X e te)
  (h1:starEach [.Call (.Name "set" p2) [e] [] pos2] X.env=(false,eval (.Call (.Name "set" p2) [e] [] pos2) X.env)::starEach [] X.env:=by rfl) (h2:starEach [e] X.env=(false,eval e X.env)::starEach [] X.env:=by rfl) :
  PE X (.Call (.Name "len" p) [.Call (.Name "set" p2) [e] [] pos2] [] pos) (qJh X.K te):=by
 intro pins s σ H Q I h;refine BO (zZ I hg hm PyProof.Rows.Boot.«len» ?_ (by decide) (by decide));refine PyProof.Rows.callWith_builtin1 ?_ h1 rfl;rw[h1];show wpAny _ _ (spliced ((false,eval (.Call (.Name "set" p2) [e] [] pos2) X.env)::[])) _ _ s;refine CV ?_;refine BO (zZ I hg2 hm2 PyProof.Rows.Boot.«set» ?_ (by decide) (by decide));refine BS ?_ h2 rfl;rw[h2];show wpAny _ _ (spliced ((false,eval e X.env)::[])) _ _ s;refine CV (thn (he pins s σ H _ I h) fun u s1 ⟨x,H1,I1,r1,q1⟩=>Calls.spliced_nil ?_);obtain⟨a,xs,kss,rfl,hq,T,h3,q⟩:=q1;cases r1;have hh:X.A.handled=none:=I.ok.hd hc;refine qET I1 hh (by omega) hq T h3 fun its h' tk es' ep' t' ks' rv S hp hE hk=>Calls.spliced_nil ?_;obtain⟨o,ho,hx,hd⟩:=S.ex;have hsz:es'.size=(ddT kss).length:=by rw[←hp.length_eq,←S.el.len,AZ]
 have hdl:(ddT kss).length≤299:=by
  have:=YE kss []
  have z:([]:List (List Int)).length=0:=rfl;unfold ddT;omega
 refine call_len_set (s:={ s1 with heap:=h',toks:=tk }) ho hx hd (j6 S.tb.g) (by omega) ?_;refine⟨.int (ddT kss).length,H1,(I1.kept (h':=h') (t':=tk+1+1) fun b u hb=>hk b u (AU hb) hb),⟨tk+1,by rw[hsz]⟩,q⟩
end
end ET
namespace EV
open PySem PySem.Spec PyProof.Rows L2 EX ET
def yp:PV->Option (List Int)| .tup (p::l)=>wc qHL (p::l)|_=>none
def JD(ks:List Int):PV:=.tup (ks.map PV.int)
section
variable{K:W.Frag}{H:Hp}{b:Bz}
theorem qGo{p:PV}{v:V}{ks:List Int}(r:RV K H b p v)(h:yp p=some ks):∃a,v= .ref a∧SqT K H a (ks.map V.int)∧ks≠[]∧RV K H b (JD ks) v:=by
 unfold yp at h;split at h
 ·rename_i p l;have r':=r;unfold RV at r;obtain⟨a,xs,rfl,h2,h3⟩:=r;have e:=jx h3 h;subst e;refine⟨a,rfl,h2.sq,?_,?_⟩
  ·intro z;subst z
   have:=h3.length
   simp at this
  ·unfold JD RV;exact⟨a,ks.map V.int,rfl,h2,ZH ks⟩
 ·cases h
theorem qBJ:∀{l:List PV} {xs:List V} {kss:List (List Int)},RVs K H b l xs->wc yp l=some kss->TsL K H xs kss∧∀q∈xs.zip kss,RV K H b (JD q.2) q.1
 |[],xs,kss,r,h=>by unfold RVs at r;subst r;cases h;exact⟨.nil,fun q hq=>(Af hq).elim⟩
 |p::l,xs,kss,r,h=>by
  unfold RVs at r;obtain⟨x,t,rfl,h2,h3⟩:=r;unfold wc at h;cases e1:yp p with
  |none=>rw[e1]at h;cases h
  |some ks =>
   rw[e1]at h;dsimp only at h;cases e2:wc yp l with
   |none=>rw[e2]at h;cases h
   |some kss' =>
    rw[e2]at h;cases h;obtain⟨a,rfl,h4,h5,h6⟩:=qGo h2 e1;obtain⟨i1,i2⟩:=qBJ h3 e2;refine⟨.cons h4 h5 i1,fun q hq=>?_⟩;rw[BH]at hq;rcases AH.mp hq with z|z
    ·rw[z];exact h6
    ·exact i2 q z
theorem jO{xs:List V}{kss:List (List Int)}(hr:∀q∈xs.zip kss,RV K H b (JD q.2) q.1):∀{L:List (V×List Int)},(∀q∈L,q∈xs.zip kss)->RVs K H b ((L.map (·.2)).map JD) (L.map (·.1))|[],_=>RVs.nil|q::L,h=>by rw[Aa,Aa,Aa];exact RVs.cons (hr q (h q AK)) (jO hr fun y hy=>h y (AI _ hy))
end
section
variable{X:Cx}{E:XK}{e:Expr}{f:FE}{p p2 pos pos2:Pos}
def qLj:PV->qC->Rs PV:=fun q st=>match ZM st q with
 |some l=>match wc yp l with|some kss=>if kss.length≤299∧(ddT kss).length<64 then .ok (.lst ((srt (ddT kss)).map JD)) st else .no|none=>.no
 |none=>.no
def Ja:PV->qC->Rs PV:=fun q st=>match ZM st q with
 |some l=>match wc yp l with|some kss=>if kss.length≤299 then .ok (.int (ddT kss).length) st else .no|none=>.no
 |none=>.no
def Yg(f:FE):FE:=fun r st=>(f r st).bind Ja
theorem qFN(hc:X.calm=true)(hu:X.A.units+64<cLine)(hm:X.mg "len" = none)(hm2:X.mg "set" = none)(h:VE X E e f)(hg:Gl X "len" :=by rfl)(hg2:Gl X "set" :=by rfl)
  (h1:starEach [.Call (.Name "set" p2) [e] [] pos2] X.env=(false,eval (.Call (.Name "set" p2) [e] [] pos2) X.env)::starEach [] X.env:=by rfl) (h2:starEach [e] X.env=(false,eval e X.env)::starEach [] X.env:=by rfl) :
  VE X E (.Call (.Name "len" p) [.Call (.Name "set" p2) [e] [] pos2] [] pos) (Yg f) :=
 PE.imp (qFX hc hu hg hm hg2 hm2 h h1 h2) fun s H Q ⟨b,r,st,S,R,P⟩=>⟨b,r,st,S,R,PostE.bind P fun q s1 u H1 b1 e1 S1 r1 P1=>by
  unfold Ja at P1;split at P1
  ·rename_i l el;split at P1
   ·rename_i kss ek;split at P1;rename_i hn;obtain⟨x,xs,rfl,h2,h3⟩:=Za S1 r1 el;obtain⟨T,hr⟩:=qBJ h3 ek;exact⟨x,xs,kss,rfl,h2,T,hn,PostE.here P1 S1 QS⟩;exact P1.elim
   ·exact P1.elim
  ·exact P1.elim⟩
def j3:PV->qC->Rs PV:=fun q st=>match ZM st q with
 |some l=>match wc yp l with|some kss=>if kss.length<64 then .ok (.lst ((srt kss).map JD)) st else .no|none=>.no
 |none=>.no
def j4(f:FE):FE:=fun r st=>(f r st).bind j3
theorem qFx(hu:X.A.units+64<cLine)(hm:X.mg "sorted" = none)(h:VE X E e f)(hg:Gl X "sorted" :=by rfl)(h1:starEach [e] X.env=(false,eval e X.env)::starEach [] X.env:=by rfl) :
  VE X E (.Call (.Name "sorted" p) [e] [] pos) (j4 f) :=
 PE.imp (qEX hu hg hm h h1) fun s H Q ⟨b,r,st,S,R,P⟩=>⟨b,r,st,S,R,PostE.bind P fun q s1 u H1 b1 e1 S1 r1 P1=>by
  unfold j3 at P1;split at P1
  ·rename_i l el;split at P1
   ·rename_i kss ek;split at P1;rename_i hn;obtain⟨x,xs,rfl,h2,h3⟩:=Za S1 r1 el;obtain⟨T,hr⟩:=qBJ h3 ek;exact⟨x,xs,kss,rfl,h2,T,hn,fun p L hp hin hL=>PostN.lay (PostN.of (r:=.ok ((srt kss).map JD) s1) P1) S1 (by rw[←hL];exact jO hr hin) hp⟩;exact P1.elim
   ·exact P1.elim
  ·exact P1.elim⟩
end
end EV
end
section
namespace EJ
open PySem PySem.Spec PyProof.Rows L2 PySem.W EX ET
end EJ
namespace EV
open PySem PySem.Spec PyProof.Rows L2 EX ET EJ
end EV
end
section
namespace EX
open PySem PySem.Spec PyProof.Rows L2 PySem.W
end EX
namespace EX
open PySem PySem.Spec PyProof.Rows L2 PySem.W
end EX
namespace EV
open PySem PySem.Spec PyProof.Rows L2 EX
end EV
end
section
namespace EX
open PySem PySem.Spec PyProof.Rows L2 PySem.W
section
variable{X:Cx}
theorem qBU:Wh X (.type "bool") (fun xs H Q=>∃i,xs=[.int i]∧Q (.bl (i != 0)) H):=by intro pins s σ H xs us Q I r h;obtain⟨i,rfl,q⟩:=h;obtain⟨u,rfl,rx⟩:=Z3 r;obtain⟨t,rfl⟩:=(show ∃t,_=Value.int i t from rx);exact call_bool_int ⟨.bl _,H,I,rfl,q⟩
end
end EX
namespace EV
open PySem PySem.Spec PyProof.Rows L2 EX ET
section
variable{X:Cx}{E:XK}{e a c:Expr}{es:List Expr}{fa fb:FE}{pos:Pos}
def qEe:List PV->qC->Rs PV:=fun ps st=>match ps with|[.int i]=>.ok (.bl (i != 0)) st|_=>.no
theorem qF6{ta:FA}{p:Pos}(ha:VA X E (e::es) ta)(hm:X.mg "bool" = none)(hg:Gl X "bool" :=by rfl)(he:starEach (e::es) X.env=(false,eval e X.env)::starEach es X.env:=by rfl)(hpl:(backTo pos (starEach es X.env)).any (·.1)=false:=by rfl):VE X E (.Call (.Name "bool" p) (e::es) [] pos) (qH qEe ta) :=
 Zc qBU (fun H b st ps vs Q S r P=>by
  unfold qEe at P;split at P;rename_i i;obtain⟨v,rfl,r1⟩:=RVs.one r;unfold RV at r1;subst r1;exact⟨i,rfl,PostE.here P S (by unfold RV;rfl)⟩;exact P.elim) hg hm Boot.«bool» ha (he:=he) (hpl:=hpl)
end
end EV
end
section
namespace EX
open PySem PySem.Spec PyProof.Rows L2
section
variable{prog:Program}{w:World}{A:Around}{E:Value->Shared->Prop}{s:Shared}{d:Addr}{es:Array DictEntry}{ep:Nat}
theorem qEm(hd:(d==sysModules)=false):MeetsIn prog w (Builtin.«dict.__len__» ⟨[.ref d],[]⟩) (fun _ R s=>∃es ep,RawAt s.heap d es ep∧R (.ok (.ret (.int es.size s.toks))) { s with toks:=s.toks+1 }) :=
 .of_wp fun A R s ⟨es,ep,m,h⟩=>by obtain⟨o,ho,hc,hdat⟩:=m.ex;show wpAny _ _ (dictSize d >>= _) _ _ s;unfold dictSize;refine AA (AA (wpAny_dictEntries ho hdat (AB ?_)));show wpAny _ _ (Builtin.Dict.pendingCount d >>= _) _ _ s;refine AA (wpAny_pendingCount_other hd ?_);refine wpAny_ret_mkInt ?_;rw[Nat.add_zero];exact h
theorem qHE{Q:Value->Shared->Prop}(hd:(d==sysModules)=false)(m:RawAt s.heap d es ep)(hfit:(es.size:Int)<2 ^ 63)
  (h:Q (.int es.size (s.toks+1)) { s with toks:=s.toks+1+1 }):wpAny (model prog w) A (call (.builtin "len") [.ref d]) Q E s:=by
 refine Calls.call_function_entry kind_len plain_len entry_len (args_len1 _) ?_;unfold Builtin.«len»;refine AA (m:=oneArg "len" _) (AB ?_);refine AA (m:=callSpecial? (.ref d) (Str.ofString "__len__")) (BI (name:=Str.ofString "__len__") m.typeIs F.slot_dict_len
  (call_meetsIn F.slot_dict_len m.typeIs F.entry_dict_len (F.args_dict_len_1 _) (qEm hd) ⟨es,ep,m,?_⟩))
 show wpAny _ _ _ _ _ { s with toks:=s.toks+1 };refine AA (Ak (AB ?_));refine AA (wpAny_letGo ?_);show wpAny _ _ (if ((es.size:Nat):Int)<0 then _ else _) _ _ _;rw[AF (by omega)];show wpAny _ _ (if ((es.size:Nat):Int)≥2 ^ 63 then _ else _) _ _ _;rw[AF (by omega)];exact AA (wpAny_mkInt (AB ⟨_,rfl,h⟩))
end
section
variable{X:Cx}
theorem qD9:Wh X (.builtin "len") (fun xs H Q=>∃a vs,xs=[.ref a]∧H a=some (.dT vs)∧Q (.int vs.length) H):=by
 intro pins s σ H xs us Q I r h;obtain⟨a,vs,rfl,e,q⟩:=h;obtain⟨u,rfl,rx⟩:=Z3 r;cases rx;have ok:ObjOk X.prog X.w H s.heap a (.dT vs):=I.hok a _ e;obtain⟨hz,y,xs,r,o,es,ep,e1,ex,ed,el,nd⟩:=id ok;have hl:es.size=vs.length:=by rw[←AZ,el,AN];exact r.length.symm
 have hs:sizeLine<2 ^ 62:=by decide
 refine qHE y ⟨o,e1,ex,ed⟩ (by omega) ?_;rw[hl];exact⟨.int _,H,(I.tok _).tok _,⟨_,rfl⟩,q⟩
theorem qC3:Wh X (.type "str") (fun xs H Q=>∃i,xs=[.int i]∧i.natAbs.log2<1920∧Q (.str (Str.ofString (toString i))) H):=by intro pins s σ H xs us Q I r h;obtain⟨i,rfl,hi,q⟩:=h;obtain⟨u,rfl,rx⟩:=Z3 r;obtain⟨t,rfl⟩:=(show ∃t,_=Value.int i t from rx);exact P.str_of_int hi ⟨.str _,H,I.tok _,⟨_,rfl⟩,q⟩
end
end EX
namespace EV
open PySem PySem.Spec PyProof.Rows L2 EX
section
variable{X:Cx}{E:XK}{e:Expr}{es:List Expr}{pos:Pos}
def qAq:List PV->qC->Rs PV:=fun ps st=>match ps with
 |[.ref i]=>match st[i]? with|some (.d kvs)=>.ok (.int kvs.length) st|_=>.no
 |_=>.no
theorem qHF{ta:FA}{p:Pos}(ha:VA X E (e::es) ta)(hm:X.mg "len" = none)(hg:Gl X "len" :=by rfl)(he:starEach (e::es) X.env=(false,eval e X.env)::starEach es X.env:=by rfl)(hpl:(backTo pos (starEach es X.env)).any (·.1)=false:=by rfl):VE X E (.Call (.Name "len" p) (e::es) [] pos) (qH qAq ta) :=
 Wc qD9 (fun H b st ps vs Q S r P=>by
  unfold qAq at P;split at P
  ·rename_i i;obtain⟨v,rfl,r1⟩:=RVs.one r;unfold RV at r1;obtain⟨x,rfl,hx⟩:=r1;split at P
   ·rename_i kvs hk;obtain⟨a',o,h1,h2,ws,rfl,h3,h4⟩:=S.at_ i _ hk;rw[hx]at h1;cases h1;refine⟨x,ws,rfl,h2,?_⟩;have hl:kvs.length=ws.length:=by have:=Bv List.length h3;rwa[AN,AN]at this
    rw[←hl];exact PostE.here P S QS
   ·exact P.elim
  ·exact P.elim) hg hm Boot.«len» ha (he:=he) (hpl:=hpl)
def qBV:List PV->qC->Rs PV:=fun ps st=>match ps with|[.int i]=>if i.natAbs.log2<1920 then .ok (.str (Str.ofString (toString i))) st else .no|_=>.no
theorem JV{ta:FA}{p:Pos}(ha:VA X E (e::es) ta)(hm:X.mg "str" = none)(hg:Gl X "str" :=by rfl)(he:starEach (e::es) X.env=(false,eval e X.env)::starEach es X.env:=by rfl)(hpl:(backTo pos (starEach es X.env)).any (·.1)=false:=by rfl):VE X E (.Call (.Name "str" p) (e::es) [] pos) (qH qBV ta) :=
 Zc qC3 (fun H b st ps vs Q S r P=>by
  unfold qBV at P;split at P
  ·rename_i i;obtain⟨v,rfl,r1⟩:=RVs.one r;unfold RV at r1;subst r1;split at P;rename_i hi;exact⟨i,rfl,hi,PostE.here P S (by unfold RV;rfl)⟩;exact P.elim
  ·exact P.elim) hg hm Boot.«str» ha (he:=he) (hpl:=hpl)
end
end EV
end
section
namespace EX
open PySem PySem.Spec PyProof.Rows L2 PySem.W
end EX
namespace EV
open PySem PySem.Spec PyProof.Rows L2 EX
end EV
end
section
namespace EX
open PySem PySem.Spec PyProof.Rows L2 PySem.W
end EX
namespace EV
open PySem PySem.Spec PyProof.Rows L2 EX
end EV
end
section
namespace EV
open PySem PySem.Spec PyProof.Rows L2 EX
section
variable{X:Cx}{E:XK}{e a c d:Expr}{es:List Expr}{f fa fb:FE}{pos:Pos}{ad:Addr}{ns:List Int}
theorem qKI{K:W.Frag}{H:Hp}:∀ns:List Int,RWs K H (ns.map PV.int) (ns.map V.int)|[]=>by unfold RWs;rfl|n::ns=>by rw[Aa,Aa];unfold RWs;exact⟨_,_,rfl,by unfold RW;rfl,qKI ns⟩
theorem qKP{K:W.Frag}{H:Hp}{b:Bz}:∀ns:List Int,RVs K H b (ns.map PV.int) (ns.map V.int)|[]=>RVs.nil|n::ns=>RVs.cons QS (qKP ns)
theorem qFQ:∀ns:List Int,deps (ns.map PV.int)=0|[]=>rfl|n::ns=>by rw[Aa,deps,qFQ ns];rfl
def qHl(neg:Bool)(ad:Addr)(ns:List Int):PV->PV->qC->Rs PV:=fun p q st=>match p,q with| .int k,.fn a=>if a=ad then .ok (.bl (if neg then !pin (.int k) (ns.map PV.int) else pin (.int k) (ns.map PV.int))) st else .no|_,_=>.no
theorem qJC{neg:Bool}(hk:KT0 X.K ad (ns.map V.int)):OpG X E (qGf X.K neg) (qHl neg ad ns):=by
 intro H b st p q u v Q S rp rq P;unfold qHl at P;split at P
 ·split at P;rename_i k a' e;subst e;unfold RV at rp rq;subst rp rq;exact⟨.int k,ns.map PV.int,_,ns.map V.int,rfl,.inr (.inr hk),by unfold RW;rfl,qKI ns,by rw[qFQ];exact A6 _,PostE.here P S W7⟩;exact P.elim
 ·exact P.elim
theorem qJy(hr:X.A.units+64<cLine)(hk:KT0 X.K ad (ns.map V.int))(ha:VE X E a fa)(hb:VE X E c fb)(hm:behindInMarks .In c=false:=by with_unfolding_all rfl):VE X E (.Compare a [.In] [c] pos) (qJ (qHl false ad ns) fa fb):=JC (qIu hr) (qJC hk) ha hb hm
def qCY(ad:Addr)(ns:List Int):List PV->qC->Rs PV:=fun ps st=>match ps with|[.fn a]=>if a=ad then .ok (.int ns.length) st else .no|_=>.no
theorem qGx(hk:KT0 X.K ad (ns.map V.int)):Zy X E (fun xs H Q=>∃p ys,xs=[.ref p]∧(SqL X.K H p ys∨SqT X.K H p ys)∧Q (.int ys.length) H) (qCY ad ns):=by
 intro H b st ps vs Q S r P;unfold qCY at P;split at P
 ·split at P;rename_i a' e;subst e;obtain⟨v,rfl,r1⟩:=RVs.one r;unfold RV at r1;subst r1;refine⟨_,ns.map V.int,rfl,.inr (.inr hk),?_⟩;rw[AN];exact PostE.here P S QS;exact P.elim
 ·exact P.elim
theorem qGc{ta:FA}{p:Pos}(hm:X.mg "len" = none)(hk:KT0 X.K ad (ns.map V.int))(ha:VA X E (e::es) ta)(hg:Gl X "len" :=by rfl)(he:starEach (e::es) X.env=(false,eval e X.env)::starEach es X.env:=by rfl)(hpl:(backTo pos (starEach es X.env)).any (·.1)=false:=by rfl):VE X E (.Call (.Name "len" p) (e::es) [] pos) (qH (qCY ad ns) ta) :=
 Wc yJ (qGx hk) hg hm Boot.«len» ha (he:=he) (hpl:=hpl)
def itG(ad:Addr)(ns:List Int):PV->qC->Rs ItP:=fun p st=>match p with| .fn a=>if a=ad then .ok ⟨ns.map PV.int,fun _=>True⟩ st else .no|_=>.no
def qDA(ad:Addr)(ns:List Int)(f:FE):FI:=fun r st=>(f r st).bind (itG ad ns)
theorem qLW{tg:Expr}(hk:KT0 X.K ad (ns.map V.int))(h:VE X E e f):VI X E tg e (qDA ad ns f):=fun pins s σ H R I q=>qFn h pins s σ H R I (by
 obtain⟨b,r,st,S,RE,P⟩:=q;refine⟨b,r,st,S,RE,PostE.bindI P fun p s1 u H1 b1 e1 S1 r1 P1=>?_⟩;unfold itG at P1;split at P1
 ·split at P1;rename_i a' e;subst e;unfold RV at r1;subst r1;exact⟨_,rfl,.inr ⟨⟨_,.inr hk⟩,P1 _ H1 b1 (Ext.refl _ _) S1 (qAY fun H2 b2 st2 e2 S2 _=>⟨_,.inr hk,qKP ns⟩)⟩⟩;exact P1.elim
 ·exact P1.elim)
end
end EV
end
noncomputable section
namespace K81
open PySem PySem.Spec PyProof.Rows L2 EX EV
structure Ad where
 (Z0 Z1 Z2 Z3 Z4 Z5 Z6 Z7 Z8 Z9 Z10 Z11 TooMany_init ROOM_WAYS:Addr)
 (is_whole is_whole_within are_wholes is_rising is_length is_side need_length is_box need_room many_cells need_small cells_along is_in_room is_room_bar is_room_filling law_cell law_mix law_box law_take law_whole law_odd law_room law_room_cover law_room_cells law_is_room_bar law_is_room_filling law_kind law_said law_filled law_bent law:Addr)
def kitTab:List ((String×String)×Bool):=[(("NoneType","int"),false),(("NoneType","bool"),false),(("NoneType","tuple"),false),(("NoneType","list"),false),(("int","int"),true),(("int","bool"),false),(("int","tuple"),false),(("int","list"),false),(("bool","int"),true),(("bool","bool"),true),(("bool","tuple"),false),(("bool","list"),false),(("str","int"),false),(("str","bool"),false),(("str","tuple"),false),(("str","list"),false),(("tuple","int"),false),(("tuple","bool"),false),(("tuple","tuple"),true),(("tuple","list"),false),(("list","int"),false),(("list","bool"),false),(("list","tuple"),false),(("list","list"),true),(("dict","int"),false),(("dict","bool"),false),(("dict","tuple"),false),(("dict","list"),false)]
def qKy(s T:String):Option Bool:=kitTab.lookup (s,T)
def Ad.kinds(a:Ad):List Addr:=[a.Z1,a.Z2,a.Z3,a.Z4,a.Z5,a.Z6,a.Z7,a.Z8,a.Z9,a.Z10,a.Z11]
def Dist(a:Ad):Prop:=a.kinds.Nodup
instance (a:Ad):Decidable (Dist a):=by unfold Dist;infer_instance
theorem Dist.nd{a:Ad}(h:Dist a):a.kinds.Nodup:=h
def Qo(a:Ad):List Addr:=[a.Z1,a.Z4,a.Z11]
def kit(a:Ad):Value->Value->Option Bool| .type s,.type T=>qKy s T| .ref x,.ref d=>if x∈Qo a∧d∈a.kinds then some (x==d) else none| .ref x,.type T=>if x∈Qo a∧T = "ValueError" then some true else none|_,_=>none
def top(i:Nat):Stmt:=PySem.Challenge.pw_barfloors_k81_room_fillings_looked_at.main.body.getD i (.Pass ⟨0,0,0,0⟩)
abbrev WU:Stmt:=top 17
abbrev QW:Stmt:=top 18
abbrev wb:Stmt:=top 19
abbrev w5:Stmt:=top 20
abbrev w9:Stmt:=top 21
abbrev Wn:Stmt:=top 22
abbrev Qu:Stmt:=top 23
abbrev zU:Stmt:=top 26
abbrev wQ:Stmt:=top 30
abbrev wU:Stmt:=top 31
abbrev Q2:Stmt:=top 32
abbrev wD:Stmt:=top 33
abbrev wX:Stmt:=top 34
abbrev wC:Stmt:=top 35
abbrev QJ:Stmt:=top 36
abbrev WV:Stmt:=top 38
abbrev Wk:Stmt:=top 39
abbrev Wl:Stmt:=top 40
abbrev WQ:Stmt:=top 41
abbrev w8:Stmt:=top 42
abbrev Wm:Stmt:=top 43
abbrev WP:Stmt:=top 44
abbrev Qk:Stmt:=top 45
abbrev Ql:Stmt:=top 46
abbrev QX:Stmt:=top 47
abbrev qz:Stmt:=top 48
abbrev WS:Stmt:=top 49
abbrev wz:Stmt:=top 50
abbrev wZ:Stmt:=top 51
abbrev WK:Stmt:=top 52
abbrev ZA:Stmt:=top 53
abbrev Qy:Stmt:=qJq (top 12)
def qBs(a:Ad):FS:=(qh (yo (qH (Qb (kit a)) (qA (qB 0) (qA (vC (.ty "int")) qD))) (qJ7 (qH (Qb (kit a)) (qA (qB 0) (qA (vC (.ty "bool")) qD))))))
def WR(a:Ad):List PV->qC->Rs PV:=qo 1 1 (qBs a)
def W4(a:Ad):FS:=(qh (yo (qH (WR a) (qA (qB 0) qD)) (Qf gLe gLe (qB 1) (qB 0) (qB 2))))
def wH(a:Ad):List PV->qC->Rs PV:=qo 3 3 (W4 a)
def JM(a:Ad):FS:=(qh (yo (qH (Qb (kit a)) (qA (qB 0) (qA (vC (.ty "tuple")) qD))) (yo (Qf gLe gLe (qB 1) (qH wu (qA (qB 0) qD)) (qB 2)) (qH Wz (qA (vFz (QD [] 1 (QM (qB 0)) (Qc 0) [] [] (qH (WR a) (qA (qB 0) qD)))) qD)))))
def zh(a:Ad):List PV->qC->Rs PV:=qo 3 3 (JM a)
def qAZ(a:Ad):FS:=(qh (qH Wz (qA (vFz (QD [0] 1 (Jf (qA (vC (.int 1)) (qA (qH wu (qA (qB 0) qD)) qD))) (Qc 1) [] [] (qJ qAB (qJ gIx (qB 0) (qJ JU (qB 1) (vC (.int 1)))) (qJ gIx (qB 0) (qB 1))))) qD)))
def W8(a:Ad):List PV->qC->Rs PV:=qo 1 1 (qAZ a)
def ZK(a:Ad):FS:=(qh (qH (wH a) (qA (qB 0) (qA (vC (.int 2)) (qA (vC (.int 5)) qD)))))
def ZG(a:Ad):List PV->qC->Rs PV:=qo 1 1 (ZK a)
def jb(a:Ad):FS:=(qh (qH (wH a) (qA (qB 0) (qA (vC (.int 1)) (qA (vC (.int 1000000000)) qD)))))
def zK(a:Ad):List PV->qC->Rs PV:=qo 1 1 (jb a)
def zD(a:Ad):FS:=(Qz (Q1 (ql (qH (ZG a) (qA (qB 0) qD)))) (Zz a.Z1 (qA (vJ [(vC (.str "a length is a whole number from ")),(qEu (vC (.int 2))),(vC (.str " to ")),(qEu (vC (.int 5)))] Str.empty) qD)) QV)
def wl(a:Ad):List PV->qC->Rs PV:=qo 1 1 (zD a)
def YM(a:Ad):FS:=(qV (Qz (zM (Q1 (ql (qH (Qb (kit a)) (qA (qB 0) (qA (vC (.ty "tuple")) qD))))) (Q1 (vTB (Qf gLe gLe (vC (.int 1)) (qH wu (qA (qB 0) qD)) (vC (.int 3)))))) (qh (vC (.bl false))) QV) (qh (qH Wz (qA (vFz (QD [] 1 (QM (qB 0)) (Qc 0) [] [] (qH (zK a) (qA (qB 0) qD)))) qD))))
def Ys(a:Ad):List PV->qC->Rs PV:=qo 1 1 (YM a)
def ye(a:Ad):FS:=(Qz (zM (Q1 (ql (qH (Ys a) (qA (qB 0) qD)))) (vTB (qJ gNe (qH wu (qA (qB 0) qD)) (qH (qCY a.ROOM_WAYS [0,1,2]) (qA (vC (.fn a.ROOM_WAYS)) qD))))) (Zz a.Z4 (qA (vJ [(vC (.str "a room is a tuple of three whole numbers from 1 to ")),(qEu (vC (.int 1000000000)))] Str.empty) qD)) QV)
def zA(a:Ad):List PV->qC->Rs PV:=qo 1 1 (ye a)
def JR(a:Ad):FS:=(qh (qJ WA (qJ WA (qJ gIx (qB 0) (vC (.int 0))) (qJ gIx (qB 0) (vC (.int 1)))) (qJ gIx (qB 0) (vC (.int 2)))))
def wS(a:Ad):List PV->qC->Rs PV:=qo 1 1 (JR a)
def Zw(a:Ad):FS:=(qV (Wu (qH (zA a) (qA (qB 0) qD))) (qV (Wu (qH (wl a) (qA (qB 1) qD))) (Qz (vTB (qJ gGt (qH (wS a) (qA (qB 0) qD)) (qB 2))) (Z8 a.Z11 "many" "most" (okI " are more than ") (qA (qH (wS a) (qA (qB 0) qD)) (qA (qB 2) qD))) QV)))
def Qg(a:Ad):List PV->qC->Rs PV:=qo 3 3 (Zw a)
def Y0(a:Ad):FS:=(qV (jM (qB 0) (qEz 4 (zy (QH 2) (zy (QH 3) (zy (QH 4) (zy (QH 5) qHw)))))) (qV (Qz (vTB (qJ gEq (qB 5) (vC (.int 0)))) (qh (vFz (QD [3,4,2] 1 (Qx (qA (qB 1) qD)) (Qc 3) [] [] (QC (qA (qJ QA (qB 2) (qB 3)) (qA (qB 0) (qA (qB 1) qD))))))) QV) (qV (Qz (vTB (qJ gEq (qB 5) (vC (.int 1)))) (qh (vFz (QD [2,4,3] 1 (Qx (qA (qB 1) qD)) (Qc 3) [] [] (QC (qA (qB 0) (qA (qJ QA (qB 2) (qB 3)) (qA (qB 1) qD))))))) QV) (qh (vFz (QD [2,3,4] 1 (Qx (qA (qB 1) qD)) (Qc 3) [] [] (QC (qA (qB 0) (qA (qB 1) (qA (qJ QA (qB 2) (qB 3)) qD))))))))))
def Qw(a:Ad):List PV->qC->Rs PV:=qo 2 6 (Y0 a)
def JQ(a:Ad):FS:=(qV (qb 3 (qH (Qw a) (qA (qB 1) (qA (qB 2) qD)))) (qh (qH Wz (qA (vFz (QD [0] 1 (QM (qB 3)) (Qc 1) [] [] (qH Wz (qA (vFz (QD [1,0] 1 (qDA a.ROOM_WAYS [0,1,2] (vC (.fn a.ROOM_WAYS))) (Qc 2) [] [] (Qf gLe gLt (vC (.int 0)) (qJ gIx (qB 0) (qB 2)) (qJ gIx (qB 1) (qB 2))))) qD)))) qD))))
def WG(a:Ad):List PV->qC->Rs PV:=qo 3 4 (JQ a)
def Y3(a:Ad):FS:=(qh (yo (qH (zh a) (qA (qB 0) (qA (vC (.int 4)) (qA (vC (.int 4)) qD)))) (qJ (qHl false a.ROOM_WAYS [0,1,2]) (qJ gIx (qB 0) (vC (.int 3))) (vC (.fn a.ROOM_WAYS)))))
def wn(a:Ad):List PV->qC->Rs PV:=qo 1 1 (Y3 a)
def W9(a:Ad):FS:=(qV (Wu (qH (Qg a) (qA (qB 0) (qA (qB 1) (qA (vC (.int 1000)) qD))))) (qV (Qz (zM (Q1 (ql (qH (Qb (kit a)) (qA (qB 2) (qA (vC (.ty "tuple")) qD))))) (zM (Q1 (ql (qH Wz (qA (vFz (QD [] 1 (QM (qB 2)) (Qc 0) [] [] (qH (wn a) (qA (qB 0) qD)))) qD)))) (Q1 (ql (qH (W8 a) (qA (qB 2) qD)))))) (qh (vC (.bl false))) QV) (qV (Qz (Q1 (ql (qH Wz (qA (vFz (QD [0,1] 1 (QM (qB 2)) (Qc 2) [] [] (qH (WG a) (qA (qB 0) (qA (qB 2) (qA (qB 1) qD)))))) qD)))) (qh (vC (.bl false))) QV) (qV (qb 3 (vFz (QD [1] 2 (QM (qB 2)) (Qc 1) [] [⟨(QM (qH (Qw a) (qA (qB 1) (qA (qB 0) qD)))),(Qc 2),[]⟩] (qB 2)))) (qh (Qf gEq gEq (qH wu (qA (qB 3) qD)) (qH (wS a) (qA (qB 0) qD)) (Yg (qB 3))))))))
def Qt(a:Ad):List PV->qC->Rs PV:=qo 3 4 (W9 a)
def qA4(a:Ad):FS:=(qV (Qz (vTB (qJ gLt (qB 1) (qH wu (qA (qB 0) qD)))) (qh (qJ gIx (qB 0) (qB 1))) QV) (qh (qJ QA (qJ WA (vC (.int 6151)) (qB 1)) (vC (.int 29)))))
def zt(a:Ad):List PV->qC->Rs PV:=qo 2 2 (qA4 a)
def qDu(a:Ad):FS:=(qV (qb 2 (qJ QA (qJ WA (qJ QA (qB 0) (vC (.int 1))) (vC (.int 40692))) (qJ WA (vC (.int 104729)) (qB 1)))) (qV (qb 2 (qJ QA (qJ Ww (qJ qCf (qB 2) (qB 2)) (vC (.int 2147483399))) (qB 1))) (qh (qJ Ww (qJ WA (qB 2) (qJ QA (qB 2) (vC (.int 31)))) (vC (.int 2147483563))))))
def ZV(a:Ad):List PV->qC->Rs PV:=qo 2 3 (qDu a)
def qDw(a:Ad):FS:=(qV (qb 2 (qH (zt a) (qA (qB 0) (qA (qB 1) qD)))) (qV (Qz (vTB (qJ gEq (qJ Ww (qB 2) (vC (.int 2))) (vC (.int 0)))) (yW (wR (qA (qJ qDU (qB 2) (vC (.int 2))) qD))) QV) (qV (qb 3 (vC (.int 0))) (qV (w4 (Qx (qA (vC (.int 24)) qD)) (QH 4) (qb 3 (qJ QA (qJ WA (qB 3) (vC (.int 2147483647))) (qH (ZV a) (qA (qB 2) (qA (qB 4) qD)))))) (yW (wR (qA (qB 3) qD)))))))
def ZW(a:Ad):List PV->qC->Rs PV:=qo 2 5 (qDw a)
def qBh(a:Ad):FS:=(qV (jM (qH Z4 (qA (qJ gIx (qB 0) (vC (.int 0))) (qA (qB 1) qD))) (qEz 2 (zy (QH 2) (zy (QH 3) qHw)))) (qV (qCO (qB 0) (vC (.int 0)) (qB 2)) (qh (qB 3))))
def qd(a:Ad):List PV->qC->Rs PV:=qo 2 4 (qBh a)
def Jo(a:Ad):FS:=(qh (yo (qH (Qb (kit a)) (qA (qB 0) (qA (vC (.ty "int")) qD))) (qJ7 (qH (Qb (kit a)) (qA (qB 0) (qA (vC (.ty "bool")) qD))))))
def WZ(a:Ad):List PV->qC->Rs PV:=qo 1 1 (Jo a)
def qDj(a:Ad):FS:=(qV (qb 1 (vFz (wR (qA (vC .non) (qA (vC (.bl true)) (qA (vC (.bl false)) (qA (qBg (vC (.int 1))) (qA (vC (.int 0)) (qA (vC (.int 1)) (qA (vC (.int 2)) (qA (vC (.int 5)) (qA (vC (.int 6)) (qA (vC (.str "")) (qA (vC (.str "0")) (qA (vC (.str "none")) (qA (QC qD) (qA (QC (qA (vC (.int 0)) qD)) (qA (QC (qA (vC (.int 0)) (qA (vC (.int 0)) qD))) (qA (QC (qA (vC (.int 0)) (qA (vC (.int 0)) (qA (vC (.int 0)) qD)))) (qA (vFz (wR (qA (vC (.int 0)) qD))) (qA (vC .dct) (qA (QC (qA (vC (.int 0)) (qA (vC (.int 0)) (qA (vC (.bl true)) qD)))) qD)))))))))))))))))))))) (qV (qb 1 (vFz (Z2 (qB 1) (vFz (wR (qA (QC (qA (QC (qA (vC (.int 0)) (qA (vC (.int 0)) (qA (vC (.int 0)) qD)))) qD)) (qA (QC (qA (QC (qA (vC (.int 0)) (qA (vC (.int 0)) (qA (vC (.int 1)) qD)))) qD)) (qA (vFz (wR (qA (QC (qA (vC (.int 0)) (qA (vC (.int 0)) (qA (vC (.int 0)) qD)))) qD))) (qA (qJ qDb (vC (.int 10)) (vC (.int 39))) (qA (QC (qA (vC (.int 0)) (qA (vC (.int 0)) (qA (vC (.int 2)) qD)))) (qA (QC (qA (vC (.int 0)) (qA (qBg (vC (.int 1))) (qA (vC (.int 0)) qD)))) (qA (QC (qA (QC (qA (vC (.int 0)) (qA (vC (.int 0)) qD))) qD)) (qA (QC (qA (vC (.int 0)) (qA (vC (.int 0)) (qA (vC (.int 0)) (qA (vC (.int 0)) qD))))) qD))))))))))))) (qh (qJ gIx (qB 1) (qH (qd a) (qA (qB 0) (qA (qH wu (qA (qB 1) qD)) qD)))))))
def zN(a:Ad):List PV->qC->Rs PV:=qo 1 2 (qDj a)
def qAy(a:Ad):FS:=(qV (qb 2 (qJ QA (vC (.int 1)) (qH (qd a) (qA (qB 0) (qA (vC (.int 6)) qD))))) (qV (qb 3 (qJ QA (vC (.int 1)) (qH (qd a) (qA (qB 0) (qA (qH J8 (qA (vC (.int 6)) (qA (qJ qDU (qB 1) (qB 2)) qD))) qD))))) (qV (qb 4 (qJ QA (vC (.int 1)) (qH (qd a) (qA (qB 0) (qA (qH J8 (qA (vC (.int 8)) (qA (qJ qDU (qB 1) (qJ WA (qB 2) (qB 3))) qD))) qD))))) (qV (qb 5 (vFz (wR (qA (qB 2) (qA (qB 3) (qA (qB 4) qD)))))) (qV (qb 6 (qH (qd a) (qA (qB 0) (qA (vC (.int 3)) qD)))) (qh (qH WM (qA (vFz (Z2 (j5 (qB 5) (QN (qB 6)) QP) (j5 (qB 5) QP (QN (qB 6))))) qD))))))))
def zW(a:Ad):List PV->qC->Rs PV:=qo 2 7 (qAy a)
def qFp:FS:=(Wa (qB 2) (qH WM (qA (vFz (QD [0,3] 1 (Qx (qA (vC (.int 3)) qD)) (Qc 2) [] [] (qJ QA (qJ gIx (qB 0) (qB 2)) (qJ WA (qB 1) (qH qBn (qA (qJ gEq (qB 2) (qJ gIx (qB 0) (vC (.int 3)))) qD)))))) qD)))
def yS(a:Ad):FS:=(qV (zj 2 (wR qD)) (qV (w4 (Qx (qA (qB 1) qD)) (QH 3) qFp) (qh (qB 2))))
def WJ(a:Ad):List PV->qC->Rs PV:=qo 2 4 (yS a)
def qA0:FS:=(qb 1 (vFz (Z2 (qB 1) (vFz (QD [2,3] 1 (Qx (qA (qJ gIx (qB 0) (vC (.int 2))) qD)) (Qc 2) [] [] (QC (qA (qB 0) (qA (qB 1) (qA (qB 2) qD)))))))))
def yN(a:Ad):FS:=(qV (qb 1 (vFz (wR qD))) (qV (w4 (Qx (qA (qJ gIx (qB 0) (vC (.int 0))) qD)) (QH 2) (w4 (Qx (qA (qJ gIx (qB 0) (vC (.int 1))) qD)) (QH 3) qA0)) (qh (qB 1))))
def wW(a:Ad):List PV->qC->Rs PV:=qo 1 4 (yN a)
def yI(a:Ad):FS:=(qV (Qz (zM (Q1 (ql (qH (Qb (kit a)) (qA (qB 2) (qA (vC (.ty "tuple")) qD))))) (zM (vTB (qJ gNe (qH wu (qA (qB 2) qD)) (vC (.int 4)))) (Q1 (ql (qH Wz (qA (vFz (QD [] 1 (QM (qB 2)) (Qc 0) [] [] (qH (WZ a) (qA (qB 0) qD)))) qD)))))) (qh (vC (.bl false))) QV) (qV (Qz (zM (vTB (qJ (gIn true) (qJ gIx (qB 2) (vC (.int 3))) (QC (qA (vC (.int 0)) (qA (vC (.int 1)) (qA (vC (.int 2)) qD)))))) (Q1 (ql (qH Wz (qA (vFz (QD [2,0] 1 (Qx (qA (vC (.int 3)) qD)) (Qc 2) [] [] (Qf gLe gLt (vC (.int 0)) (qJ gIx (qB 0) (qB 2)) (qJ gIx (qB 1) (qB 2))))) qD))))) (qh (vC (.bl false))) QV) (qh (qJ gLe (qJ QA (qJ gIx (qB 2) (qJ gIx (qB 2) (vC (.int 3)))) (qB 1)) (qJ gIx (qB 0) (qJ gIx (qB 2) (vC (.int 3))))))))
def wF(a:Ad):List PV->qC->Rs PV:=qo 3 3 (yI a)
def jr(a:Ad):FS:=(qV (Qz (zM (Q1 (ql (qH (wF a) (qA (qB 0) (qA (qB 1) (qA (qJ gIx (qB 2) (qB 4)) qD)))))) (wK (vTB (qJ gGt (qB 4) (vC (.int 0)))) (Q1 (vTB (qJ qAB (qJ gIx (qB 2) (qJ JU (qB 4) (vC (.int 1)))) (qJ gIx (qB 2) (qB 4))))))) (qh (vC (.bl false))) QV) (w4 (QM (qH (WJ a) (qA (qJ gIx (qB 2) (qB 4)) (qA (qB 1) qD)))) (QH 5) (YJ (qB 3) (qB 5) (vC (.bl true)))))
def ZC(a:Ad):FS:=(qV (Qz (zM (Q1 (ql (qH (Qb (kit a)) (qA (qB 2) (qA (vC (.ty "tuple")) qD))))) (vTB (qJ gNe (qJ WA (qH wu (qA (qB 2) qD)) (qB 1)) (qJ WA (qJ WA (qJ gIx (qB 0) (vC (.int 0))) (qJ gIx (qB 0) (vC (.int 1)))) (qJ gIx (qB 0) (vC (.int 2))))))) (qh (vC (.bl false))) QV) (qV (qb 3 qIH) (qV (w4 (Qx (qA (qH wu (qA (qB 2) qD)) qD)) (QH 4) (jr a)) (qh (qJ gEq (qH qAq (qA (qB 3) qD)) (qJ WA (qH wu (qA (qB 2) qD)) (qB 1)))))))
def Qp(a:Ad):List PV->qC->Rs PV:=qo 3 6 (ZC a)
def Ym(a:Ad):FS:=(qV (Qz (ql (qJ gIx (qB 1) (vC (.int 10)))) (qh (qJ yn (qJ yn (qJ yn (vC (.str "! many ")) (qH qBV (qA (jK a.Z11 "many" (qB 0)) qD))) (vC (.str " "))) (qH qBV (qA (jK a.Z11 "most" (qB 0)) qD)))) QV) (qV (qb 2 (vFz (wR (qA (vC (.str "length")) (qA (vC (.str "number")) (qA (vC (.str "bars")) (qA (vC (.str "box")) (qA (vC (.str "weights")) (qA (vC (.str "sorts")) (qA (vC (.str "turn")) (qA (vC (.str "place")) (qA (vC (.str "text")) (qA (vC (.str "row")) qD))))))))))))) (qh (qJ yn (vC (.str "! ")) (qJ gIx (qB 2) (qK6 (qB 1) (vC (.bl true))))))))
def qBX(a:Ad):FS:=(qV (qb 1 (vFz (wR (qA (qH (Qb (kit a)) (qA (qB 0) (qA (vC (.fn a.Z1)) qD))) (qA (qH (Qb (kit a)) (qA (qB 0) (qA (vC (.fn a.Z2)) qD))) (qA (qH (Qb (kit a)) (qA (qB 0) (qA (vC (.fn a.Z3)) qD))) (qA (qH (Qb (kit a)) (qA (qB 0) (qA (vC (.fn a.Z4)) qD))) qD))))))) (qV (qb 1 (vFz (Z2 (qB 1) (vFz (wR (qA (qH (Qb (kit a)) (qA (qB 0) (qA (vC (.fn a.Z5)) qD))) (qA (qH (Qb (kit a)) (qA (qB 0) (qA (vC (.fn a.Z6)) qD))) (qA (qH (Qb (kit a)) (qA (qB 0) (qA (vC (.fn a.Z7)) qD))) (qA (qH (Qb (kit a)) (qA (qB 0) (qA (vC (.fn a.Z8)) qD))) qD))))))))) (qV (qb 1 (vFz (Z2 (qB 1) (vFz (wR (qA (qH (Qb (kit a)) (qA (qB 0) (qA (vC (.fn a.Z9)) qD))) (qA (qH (Qb (kit a)) (qA (qB 0) (qA (vC (.fn a.Z10)) qD))) (qA (qH (Qb (kit a)) (qA (qB 0) (qA (vC (.fn a.Z11)) qD))) qD)))))))) (qV (Qz (zM (Q1 (ql (qH (Qb (kit a)) (qA (qB 0) (qA (vC (.ty "ValueError")) qD))))) (vTB (qJ gNe (qBk (qB 1) (vC (.bl true))) (vC (.int 1))))) (qh (vC (.str "! other"))) QV) (Ym a)))))
def wx(a:Ad):List PV->qC->Rs PV:=qo 1 3 (qBX a)
def YN(a:Ad):FS:=(qV (qb 3 (vC (.str "! other"))) (qV (Yy 4 5 (Qo a) (qb 3 (qH (Qt a) (qA (qB 0) (qA (qB 1) (qA (qB 2) qD))))) (qb 3 (qH (wx a) (qA (qB 4) qD)))) (qh (qB 3))))
def QL(a:Ad):List PV->qC->Rs PV:=qo 3 5 (YN a)
def qEk:FS:=(qV (qb 10 (Qf gLe gLt (qB 6) (qJ gIx (qB 9) (qB 4)) (qJ QA (qB 6) (qB 2)))) (Qz (zM (wK (ql (qB 10)) (wK (vTB (qJ gEq (qB 7) (qB 4))) (vTB (qJ gEq (qJ gIx (qB 9) (qB 4)) (qB 6))))) (wK (ql (qB 10)) (wK (vTB (qJ gNe (qB 7) (qB 4))) (vTB (qJ gEq (qJ Ww (qJ gIx (qB 9) (qB 7)) (qB 2)) (vC (.int 0))))))) (Wa (qB 5) (qJ wm (qB 9) (QC (qA (qB 7) qD)))) QV))
def jm(a:Ad):FS:=(qV (qb 3 (vFz (QD [2,1] 1 (Qx (qA (vC (.int 3)) qD)) (Qc 2) [(vTB (qJ gEq (qJ Ww (qJ gIx (qB 1) (qB 2)) (qB 0)) (vC (.int 0))))] [] (qB 2)))) (qV (Qz (vTB (qJ gEq (qB 3) (vFz (wR qD)))) (qh (QC qD)) QV) (qV (qb 4 (qJ gIx (qB 3) (qH (qd a) (qA (qB 0) (qA (qH wu (qA (qB 3) qD)) qD))))) (qV (zj 5 (wR qD)) (qV (w4 (qCP (qA (vC (.int 0)) (qA (qJ gIx (qB 1) (qB 4)) (qA (qB 2) qD)))) (QH 6) (qV (qb 7 (qB 4)) (qV (qb 8 (qJ Ww (qJ QA (qJ QA (qB 4) (vC (.int 1))) (qH (qd a) (qA (qB 0) (qA (vC (.int 2)) qD)))) (vC (.int 3)))) (qV (Qz (vTB (qJ gEq (qJ Ww (qJ gIx (qB 1) (qB 8)) (qB 2)) (vC (.int 0)))) (qb 7 (qJ gIx (vFz (wR (qA (qB 4) (qA (qB 8) qD)))) (qH (qd a) (qA (qB 0) (qA (vC (.int 2)) qD))))) QV) (w4 (QM (qH (wW a) (qA (qB 1) qD))) (QH 9) qEk))))) (qh (qH WM (qA (j4 (qB 5)) qD))))))))
def Wj(a:Ad):List PV->qC->Rs PV:=qo 3 11 (jm a)
def qE7:FS:=(Wa (qB 10) (qJ wm (qJ wm (zn (qB 1) QP (QN (qB 3))) (QC (qA (qB 12) qD))) (zn (qB 1) (QN (qJ QA (qB 3) (vC (.int 1)))) QP)))
def Yh(a:Ad):FS:=(qV (qb 2 (qH (zN a) (qA (qB 0) qD))) (qV (Qz (vTB (qJ gEq (qB 1) (QC qD))) (qh (qJ gIx (vFz (wR (qA (qB 2) (qA (QC (qA (qB 2) qD)) (qA (vFz (wR qD)) (qA (QC (qA (QC (qA (vC (.int 0)) (qA (vC (.int 0)) (qA (vC (.int 0)) (qA (vC (.int 0)) qD))))) qD)) qD)))))) (qH (qd a) (qA (qB 0) (qA (vC (.int 4)) qD))))) QV) (qV (qb 3 (qH (qd a) (qA (qB 0) (qA (qH wu (qA (qB 1) qD)) qD)))) (qV (qb 4 (qH (qd a) (qA (qB 0) (qA (qH wu (qA (qB 1) qD)) qD)))) (qV (jM (qJ gIx (qB 1) (qB 3)) (qEz 4 (zy (QH 5) (zy (QH 6) (zy (QH 7) (zy (QH 8) qHw)))))) (qV (zj 9 (yB (qB 1))) (qV (j1 (QC (qA (qJ gIx (qB 9) (qB 4)) (qA (qJ gIx (qB 9) (qB 3)) qD))) (qB 9) (qB 3) (qB 9) (qB 4)) (qV (zj 10 (wR (qA (qJ wm (zn (qB 1) QP (QN (qB 3))) (zn (qB 1) (QN (qJ QA (qB 3) (vC (.int 1)))) QP)) (qA (qJ wm (zn (qB 1) QP (QN (qJ QA (qB 3) (vC (.int 1))))) (zn (qB 1) (QN (qB 3)) QP)) (qA (qH WM (qA (qB 9) qD)) (qA (vFz (yB (qB 1))) (qA (qB 2) (qA (qCw (qB 1) QP QP (QN (qBg (vC (.int 1))))) qD)))))))) (qV (qb 11 (vFz (wR (qA (QC (qA (qB 5) (qA (qB 6) (qA (qB 7) (qA (qJ Ww (qJ QA (qB 8) (vC (.int 1))) (vC (.int 3))) qD))))) (qA (QC (qA (qJ QA (qB 5) (vC (.int 1))) (qA (qB 6) (qA (qB 7) (qA (qB 8) qD))))) (qA (QC (qA (qB 5) (qA (qJ QA (qB 6) (vC (.int 1))) (qA (qB 7) (qA (qB 8) qD))))) (qA (QC (qA (qB 5) (qA (qB 6) (qA (qJ JU (qB 7) (vC (.int 1))) (qA (qB 8) qD))))) (qA (qB 2) (qA (QC (qA (qB 5) (qA (qB 6) (qA (qB 7) (qA (vC (.int 3)) qD))))) qD))))))))) (qV (w4 (QM (vFz (Z2 (qB 11) (vFz (wR (qA (QC (qA (qB 5) (qA (qB 6) (qA (qB 7) qD)))) (qA (vFz (wR (qA (qB 5) (qA (qB 6) (qA (qB 7) (qA (qB 8) qD)))))) (qA (QC (qA (qB 5) (qA (qB 6) (qA (qB 7) (qA (qH qEe (qA (qB 8) qD)) qD))))) (qA (QC (qA (qB 5) (qA (qB 6) (qA (qB 7) (qA (qB 8) (qA (vC (.int 0)) qD)))))) qD))))))))) (QH 12) qE7) (qh (qJ gIx (qB 10) (qH (qd a) (qA (qB 0) (qA (vC (.int 16)) qD)))))))))))))))
def wP(a:Ad):List PV->qC->Rs PV:=qo 2 13 (Yh a)
def thB(a:Ad):FS:=(qV (qb 8 (qH (QL a) (qA (qB 4) (qA (qB 3) (qA (qB 7) qD))))) (Qz (zM (Q1 (ql (qH (Qb (kit a)) (qA (qB 8) (qA (vC (.ty "bool")) qD))))) (vTB (qJ gNe (qB 8) (qH (Qp a) (qA (qB 4) (qA (qB 3) (qA (qB 7) qD))))))) (qh (vC (.bl false))) QV))
def bxB(a:Ad):FS:=(Qz (vTB (qJ gNe (qH (QL a) (qA (qB 10) (qA (vC (.int 6)) (qA (qB 6) qD)))) (vC (.str "! box")))) (qh (vC (.bl false))) QV)
def qH3(a:Ad):FS:=(qV (w4 (Qx (qA (qH qEr (qA (vC (.int 1)) (qA (qH J8 (qA (qH wu (qA (qB 0) qD)) (qA (vC (.int 4)) qD))) qD))) qD)) (QH 1) (qV (qb 2 (qH (ZW a) (qA (qB 0) (qA (qB 1) qD)))) (qV (qb 3 (qJ QA (vC (.int 2)) (qH (qd a) (qA (qB 2) (qA (vC (.int 4)) qD))))) (qV (qb 4 (qH (zW a) (qA (qB 2) (qA (vC (.int 36)) qD)))) (qV (qb 5 (qH (Wj a) (qA (qB 2) (qA (qB 4) (qA (qB 3) qD))))) (qV (qb 6 (qH (zN a) (qA (qB 2) qD))) (qV (w4 (QM (vFz (wR (qA (qB 5) (qA (qH (wP a) (qA (qB 2) (qA (qB 5) qD))) (qA (qH (wP a) (qA (qB 2) (qA (qB 5) qD))) (qA (qH (wP a) (qA (qB 2) (qA (qB 5) qD))) (qA (qB 6) (qA (QC qD) qD))))))))) (QH 7) (thB a)) (qV (qb 9 (vFz (wR (qA (zn (qB 4) QP (QN (vC (.int 2)))) (qA (vFz (yB (qB 4))) (qA (qJ wm (qB 4) (QC (qA (vC (.int 1)) qD))) (qA (qJ wm (QC (qA (vC (.int 0)) qD)) (zn (qB 4) (QN (vC (.int 1))) QP)) (qA (qJ wm (zn (qB 4) QP (QN (vC (.int 2)))) (QC (qA (vC (.bl true)) qD))) (qA (qJ wm (zn (qB 4) QP (QN (vC (.int 1)))) (QC (qA (qJ QA (qJ qDb (vC (.int 10)) (vC (.int 9))) (vC (.int 1))) (qA (vC (.int 1)) qD)))) qD))))))))) (qV (w4 (QM (vFz (Z2 (qB 9) (vFz (wR (qA (vC .non) (qA (QC (qA (qBg (vC (.int 1))) (qA (vC (.int 1)) (qA (vC (.int 1)) qD)))) (qA (QC (qA (vC (.str "1")) (qA (vC (.int 1)) (qA (vC (.int 1)) qD)))) (qA (vC (.int 5)) qD))))))))) (QH 10) (bxB a)) (qV (Qz (vTB (qJ gNe (qH (QL a) (qA (qB 4) (qA (qJ gIx (vFz (wR (qA (vC (.int 1)) (qA (vC (.int 6)) (qA (vC (.bl true)) (qA (vC .non) qD)))))) (qH (qd a) (qA (qB 2) (qA (vC (.int 4)) qD)))) (qA (qB 6) qD)))) (vC (.str "! length")))) (qh (vC (.bl false))) QV) (qV (qb 11 (QC (qA (vC (.int 7)) (qA (vC (.int 11)) (qA (qJ QA (vC (.int 13)) (qH (qd a) (qA (qB 2) (qA (qJ qDb (vC (.int 10)) (vC (.int 6))) qD)))) qD))))) (Qz (vTB (qJ gNe (qH (QL a) (qA (qB 11) (qA (qB 3) (qA (qB 6) qD)))) (qJ yn (qJ yn (vC (.str "! many ")) (qH qBV (qA (qJ WA (vC (.int 77)) (qJ gIx (qB 11) (vC (.int 2)))) qD))) (vC (.str " 1000"))))) (qh (vC (.bl false))) QV)))))))))))) (qh (vC (.bl true))))
def Js(a:Ad):List PV->qC->Rs PV:=qo 1 12 (qH3 a)
structure Env (K:W.Frag) (mg:Str->Option Value) (a:Ad):Prop where
 kit:KitOk K (kit a)
 nk:qHD K
 n_ValueError:mg "ValueError" = none
 n_all:mg "all" = none
 n_bool:mg "bool" = none
 n_divmod:mg "divmod" = none
 n_int:mg "int" = none
 n_isinstance:mg "isinstance" = none
 n_len:mg "len" = none
 n_list:mg "list" = none
 n_max:mg "max" = none
 n_min:mg "min" = none
 n_range:mg "range" = none
 n_set:mg "set" = none
 n_sorted:mg "sorted" = none
 n_str:mg "str" = none
 n_tuple:mg "tuple" = none
 c_LEAST_LENGTH:∃t,mg "LEAST_LENGTH" = some (.int 2 t)
 c_MOST_LENGTH:∃t,mg "MOST_LENGTH" = some (.int 5 t)
 c_MOST_SIDE:∃t,mg "MOST_SIDE" = some (.int 1000000000 t)
 c_MOST_SIDES:∃t,mg "MOST_SIDES" = some (.int 3 t)
 c_MOST_LOOKED_AT:∃t,mg "MOST_LOOKED_AT" = some (.int 1000 t)
 t_ROOM_WAYS:mg "ROOM_WAYS" = some (.ref a.ROOM_WAYS)
 kt_ROOM_WAYS:KT0 K a.ROOM_WAYS ([0,1,2].map V.int)
 k_Z0:mg "BarError" = some (.ref a.Z0)
 k_Z1:mg "NoLength" = some (.ref a.Z1)
 k_Z2:mg "NoNumber" = some (.ref a.Z2)
 k_Z3:mg "NoBars" = some (.ref a.Z3)
 k_Z4:mg "NoBox" = some (.ref a.Z4)
 k_Z5:mg "NoWeights" = some (.ref a.Z5)
 k_Z6:mg "NoSorts" = some (.ref a.Z6)
 k_Z7:mg "NoTurn" = some (.ref a.Z7)
 k_Z8:mg "NoPlace" = some (.ref a.Z8)
 k_Z9:mg "NoText" = some (.ref a.Z9)
 k_Z10:mg "NoRow" = some (.ref a.Z10)
 k_Z11:mg "TooMany" = some (.ref a.Z11)
 xf_Z11:∃fd,Fun K "__init__" "TooMany.__init__" Qy a.TooMany_init fd
 xm_Z11:MkX K a.Z11 a.TooMany_init
 xk_Z11:ExcK K a.Z11
 xh_Z11:W.hasDictIn K a.Z11=true
 xa_Z11_many:Zq K a.Z11 "many"
 xa_Z11_most:Zq K a.Z11 "most"
 xr_Z11:W.readsIn K a.Z0 (.type "type")=true
 xc_Z11:W.findCls K (.ref a.Z0) (.type "type") "__init__" = some (.val (.builtin "ValueError.__init__"))
 xg_Z11:W.specialIn K (.ref a.Z0) "__getattribute__" = some (some (.builtin "type.__getattribute__"))
 o_Z11:∃dd cd sl,K.lookup a.Z11=some ⟨.type "type",dd,.cls cd,sl⟩
 b_Z11:W.mroIn K a.Z11 (.type "BaseException")=some true
 e_Z11:W.mroIn K a.Z11 (.ref a.Z0)=some true
 s_Z11:W.mroIn K a.Z11 (.ref a.Z11)=some true
 u_Z1_Z11:W.mroIn K a.Z1 (.ref a.Z11)=some false
 u_Z4_Z11:W.mroIn K a.Z4 (.ref a.Z11)=some false
 x_Z1:W.excIn K a.Z1 bmV "ValueError.__new__" = true
 e_Z1:W.mroIn K a.Z1 (.ref a.Z0)=some true
 x_Z4:W.excIn K a.Z4 bmV "ValueError.__new__" = true
 e_Z4:W.mroIn K a.Z4 (.ref a.Z0)=some true
 o_Z0:∃dd cd sl,K.lookup a.Z0=some ⟨.type "type",dd,.cls cd,sl⟩
 b_Z0:W.mroIn K a.Z0 (.type "BaseException")=some true
 m_is_whole:mg "is_whole" = some (.ref a.is_whole)
 f_is_whole:∃fd,Fun K "is_whole" "is_whole" WU a.is_whole fd
 m_is_whole_within:mg "is_whole_within" = some (.ref a.is_whole_within)
 f_is_whole_within:∃fd,Fun K "is_whole_within" "is_whole_within" QW a.is_whole_within fd
 m_are_wholes:mg "are_wholes" = some (.ref a.are_wholes)
 f_are_wholes:∃fd,Fun K "are_wholes" "are_wholes" wb a.are_wholes fd
 m_is_rising:mg "is_rising" = some (.ref a.is_rising)
 f_is_rising:∃fd,Fun K "is_rising" "is_rising" w5 a.is_rising fd
 m_is_length:mg "is_length" = some (.ref a.is_length)
 f_is_length:∃fd,Fun K "is_length" "is_length" w9 a.is_length fd
 m_is_side:mg "is_side" = some (.ref a.is_side)
 f_is_side:∃fd,Fun K "is_side" "is_side" Wn a.is_side fd
 m_need_length:mg "need_length" = some (.ref a.need_length)
 f_need_length:∃fd,Fun K "need_length" "need_length" Qu a.need_length fd
 m_is_box:mg "is_box" = some (.ref a.is_box)
 f_is_box:∃fd,Fun K "is_box" "is_box" zU a.is_box fd
 m_need_room:mg "need_room" = some (.ref a.need_room)
 f_need_room:∃fd,Fun K "need_room" "need_room" wQ a.need_room fd
 m_many_cells:mg "many_cells" = some (.ref a.many_cells)
 f_many_cells:∃fd,Fun K "many_cells" "many_cells" wU a.many_cells fd
 m_need_small:mg "need_small" = some (.ref a.need_small)
 f_need_small:∃fd,Fun K "need_small" "need_small" Q2 a.need_small fd
 m_cells_along:mg "cells_along" = some (.ref a.cells_along)
 f_cells_along:∃fd,Fun K "cells_along" "cells_along" wD a.cells_along fd
 m_is_in_room:mg "is_in_room" = some (.ref a.is_in_room)
 f_is_in_room:∃fd,Fun K "is_in_room" "is_in_room" wX a.is_in_room fd
 m_is_room_bar:mg "is_room_bar" = some (.ref a.is_room_bar)
 f_is_room_bar:∃fd,Fun K "is_room_bar" "is_room_bar" wC a.is_room_bar fd
 m_is_room_filling:mg "is_room_filling" = some (.ref a.is_room_filling)
 f_is_room_filling:∃fd,Fun K "is_room_filling" "is_room_filling" QJ a.is_room_filling fd
 m_law_cell:mg "_law_cell" = some (.ref a.law_cell)
 f_law_cell:∃fd,Fun K "_law_cell" "_law_cell" WV a.law_cell fd
 m_law_mix:mg "_law_mix" = some (.ref a.law_mix)
 f_law_mix:∃fd,Fun K "_law_mix" "_law_mix" Wk a.law_mix fd
 m_law_box:mg "_law_box" = some (.ref a.law_box)
 f_law_box:∃fd,Fun K "_law_box" "_law_box" Wl a.law_box fd
 m_law_take:mg "_law_take" = some (.ref a.law_take)
 f_law_take:∃fd,Fun K "_law_take" "_law_take" WQ a.law_take fd
 m_law_whole:mg "_law_whole" = some (.ref a.law_whole)
 f_law_whole:∃fd,Fun K "_law_whole" "_law_whole" w8 a.law_whole fd
 m_law_odd:mg "_law_odd" = some (.ref a.law_odd)
 f_law_odd:∃fd,Fun K "_law_odd" "_law_odd" Wm a.law_odd fd
 m_law_room:mg "_law_room" = some (.ref a.law_room)
 f_law_room:∃fd,Fun K "_law_room" "_law_room" WP a.law_room fd
 m_law_room_cover:mg "_law_room_cover" = some (.ref a.law_room_cover)
 f_law_room_cover:∃fd,Fun K "_law_room_cover" "_law_room_cover" Qk a.law_room_cover fd
 m_law_room_cells:mg "_law_room_cells" = some (.ref a.law_room_cells)
 f_law_room_cells:∃fd,Fun K "_law_room_cells" "_law_room_cells" Ql a.law_room_cells fd
 m_law_is_room_bar:mg "_law_is_room_bar" = some (.ref a.law_is_room_bar)
 f_law_is_room_bar:∃fd,Fun K "_law_is_room_bar" "_law_is_room_bar" QX a.law_is_room_bar fd
 m_law_is_room_filling:mg "_law_is_room_filling" = some (.ref a.law_is_room_filling)
 f_law_is_room_filling:∃fd,Fun K "_law_is_room_filling" "_law_is_room_filling" qz a.law_is_room_filling fd
 m_law_kind:mg "_law_kind" = some (.ref a.law_kind)
 f_law_kind:∃fd,Fun K "_law_kind" "_law_kind" WS a.law_kind fd
 m_law_said:mg "_law_said" = some (.ref a.law_said)
 f_law_said:∃fd,Fun K "_law_said" "_law_said" wz a.law_said fd
 m_law_filled:mg "_law_filled" = some (.ref a.law_filled)
 f_law_filled:∃fd,Fun K "_law_filled" "_law_filled" wZ a.law_filled fd
 m_law_bent:mg "_law_bent" = some (.ref a.law_bent)
 f_law_bent:∃fd,Fun K "_law_bent" "_law_bent" WK a.law_bent fd
 m_law:mg "law" = some (.ref a.law)
 f_law:∃fd,Fun K "law" "law" ZA a.law fd
theorem cxc{CX:CXT}{P:Program}{w:World}{K:W.Frag}{mg:Str->Option Value}{base:Heap}{N:List Str}{x:Str}{sc:Scope}{fa:Addr}{cdv:Value}{A:Around}{outer:List PySem.Env}{s:Shared}{H:Hp}{E:XK}(h:A.handled=none):(Qq CX P w K mg base N x sc fa cdv A outer s H E).calm=true:=by show A.handled.isNone=true;rw[h];rfl
theorem scm{N P:List Str}{sc:Scope}(h1:sc.kind= .function:=by rfl)(h2:sc.isCoroutine=false:=by rfl)(h3:sc.isGenerator=false:=by rfl)(h4:N.Nodup:=by decide +kernel)(h5:N.take P.length=P:=by rfl)(h6:∀x∈P,sc.names.lookup x=some .local∨sc.names.lookup x=some .cell:=by decide +kernel)(h7:∀y∈sc.names,y.2≠ .free:=by decide +kernel):FnScope N P sc:=⟨h1,h2,h3,h4,h5,h6,h7⟩
theorem mkB{P:Program}{w:World}{K:W.Frag}{mg:Str->Option Value}{base:Heap}{x:Str}{st:Stmt}{fa:Addr}{N ps:List Str}{k:Nat}{B:FS}(F:∃fd,Fun K x x st fa fd)(S:FnScope N ps (qI st))(m:mg x=some (.ref fa))(body:∀(cdv:Value) (A:Around) (outer:List PySem.Env) (s:Shared) (H:Hp) (E:XK),Room k (A.deeper (envOfC x (qI st) s.heap.objs.size fa cdv))->(0<k->A.handled=none)->(0<k->(Qq (CXF P w) P w K mg base N x (qI st) fa cdv A outer s H E).calm=true)->VSs (Qq (CXF P w) P w K mg base N x (qI st) fa cdv A outer s H E) E (qY st) B)(hb:∀(kV doc pm:Value) (an:Option Addr) (cdv ct:Value) (us:List Value),us.length=ps.length->bindArgs (W.fnOf x x (qa st) (qY st) (qI st) Value.none kV doc pm an cdv ct) { pos:=us }=pure (ps.zip us)):DefG P w K mg base (k+1) x fa ps.length (qo ps.length N.length B):=by obtain⟨fd,F⟩:=F;exact Z9 (B:=B) F S (F.binds (ps:=ps) hb) m (fun l st h=>wY h) (fun cdv A outer s H E hr hcm=>body cdv A outer s H E hr hcm fun h=>cxc (hcm h)) (fun l s0 hl hn=>wA hl)
theorem qAC{P:Program}{w:World}{K:W.Frag}{mg:Str->Option Value}{base:Heap}{x:Str}{st:Stmt}{fa:Addr}{N ps:List Str}{k:Nat}{B:FS}(F:∃fd,Fun K x x st fa fd)(S:FnScope N ps (qI st))(m:mg x=some (.ref fa))(body:∀(cdv:Value) (A:Around) (outer:List PySem.Env) (s:Shared) (H:Hp) (E:XK),Room k (A.deeper (envOfC x (qI st) s.heap.objs.size fa cdv))->(0<k->A.handled=none)->(0<k->(Qq (CXF P w) P w K mg base N x (qI st) fa cdv A outer s H E).calm=true)->VSs (Qq (CXF P w) P w K mg base N x (qI st) fa cdv A outer s H E) E (qY st) B)(hl:ps.length=1:=by rfl)(hb:∀(kV doc pm:Value) (an:Option Addr) (cdv ct u0:Value),bindArgs (W.fnOf x x (qa st) (qY st) (qI st) Value.none kV doc pm an cdv ct) { pos:=[u0] }=pure (ps.zip [u0]):=by intros;rfl):DefG P w K mg base (k+1) x fa ps.length (qo ps.length N.length B) :=
 mkB F S m body fun kV doc pm an cdv ct us hu=>match us,hu.trans hl with|[u0],_=>hb kV doc pm an cdv ct u0
theorem qAa{P:Program}{w:World}{K:W.Frag}{mg:Str->Option Value}{base:Heap}{x:Str}{st:Stmt}{fa:Addr}{N ps:List Str}{k:Nat}{B:FS}(F:∃fd,Fun K x x st fa fd)(S:FnScope N ps (qI st))(m:mg x=some (.ref fa))(body:∀(cdv:Value) (A:Around) (outer:List PySem.Env) (s:Shared) (H:Hp) (E:XK),Room k (A.deeper (envOfC x (qI st) s.heap.objs.size fa cdv))->(0<k->A.handled=none)->(0<k->(Qq (CXF P w) P w K mg base N x (qI st) fa cdv A outer s H E).calm=true)->VSs (Qq (CXF P w) P w K mg base N x (qI st) fa cdv A outer s H E) E (qY st) B)(hl:ps.length=2:=by rfl)(hb:∀(kV doc pm:Value) (an:Option Addr) (cdv ct u0 u1:Value),bindArgs (W.fnOf x x (qa st) (qY st) (qI st) Value.none kV doc pm an cdv ct) { pos:=[u0,u1] }=pure (ps.zip [u0,u1]):=by intros;rfl):DefG P w K mg base (k+1) x fa ps.length (qo ps.length N.length B) :=
 mkB F S m body fun kV doc pm an cdv ct us hu=>match us,hu.trans hl with|[u0,u1],_=>hb kV doc pm an cdv ct u0 u1
theorem qDy{P:Program}{w:World}{K:W.Frag}{mg:Str->Option Value}{base:Heap}{x:Str}{st:Stmt}{fa:Addr}{N ps:List Str}{k:Nat}{B:FS}(F:∃fd,Fun K x x st fa fd)(S:FnScope N ps (qI st))(m:mg x=some (.ref fa))(body:∀(cdv:Value) (A:Around) (outer:List PySem.Env) (s:Shared) (H:Hp) (E:XK),Room k (A.deeper (envOfC x (qI st) s.heap.objs.size fa cdv))->(0<k->A.handled=none)->(0<k->(Qq (CXF P w) P w K mg base N x (qI st) fa cdv A outer s H E).calm=true)->VSs (Qq (CXF P w) P w K mg base N x (qI st) fa cdv A outer s H E) E (qY st) B)(hl:ps.length=3:=by rfl)(hb:∀(kV doc pm:Value) (an:Option Addr) (cdv ct u0 u1 u2:Value),bindArgs (W.fnOf x x (qa st) (qY st) (qI st) Value.none kV doc pm an cdv ct) { pos:=[u0,u1,u2] }=pure (ps.zip [u0,u1,u2]):=by intros;rfl):DefG P w K mg base (k+1) x fa ps.length (qo ps.length N.length B) :=
 mkB F S m body fun kV doc pm an cdv ct us hu=>match us,hu.trans hl with|[u0,u1,u2],_=>hb kV doc pm an cdv ct u0 u1 u2
section
variable{P:Program}{w:World}{K:W.Frag}{mg:Str->Option Value}{base:Heap}{a:Ad}
theorem yq:FnScope ["self","many","most"] ["self","many","most"] (qI Qy):=scm
theorem qD4(V:Env K mg a):∃fd,FnOk P w K mg base (CXF P w) 1 a.TooMany_init fd ["self","many","most"] (spI a.Z11 "many" "most" (okI " are more than "))∧L2.Binds K fd ["self","many","most"] []:=by
 obtain⟨fd,F⟩:=V.xf_Z11;refine⟨fd,qFV F yq (by decide) fun cdv A outer s H E=>?_,F.binds (ps:=["self","many","most"]) fun _ _ _ _ _ _ us hl=>match us,hl with|[_,_,_],_=>rfl⟩;exact YY (jn (qEY rfl V.k_Z0 V.xr_Z11 V.xc_Z11 V.xg_Z11 V.xm_Z11 (zr (ZL (i:=0) rfl (.inl rfl)) (zr (qCb (yy (qBa (ZL (i:=1) rfl (.inl rfl))) (yy qE1 (yy (qBa (ZL (i:=2) rfl (.inl rfl))) qEt)))) yO))))
  (YY (qCg (ZL (i:=0) rfl (.inl rfl)) (ZL (i:=1) rfl (.inl rfl)) V.xm_Z11.x V.xa_Z11_many rfl) (qCt (qCg (ZL (i:=0) rfl (.inl rfl)) (ZL (i:=2) rfl (.inl rfl)) V.xm_Z11.x V.xa_Z11_most rfl)))
theorem qAb:FnScope ["thing"] ["thing"] (qI WU):=scm
theorem Yz(V:Env K mg a):DefG P w K mg base 2 "is_whole" a.is_whole 1 (WR a):=by refine qAC V.f_is_whole qAb V.m_is_whole fun cdv A outer s H E hr hcm hcc=>?_;have hu:=hr.units;exact (qS (qf (yY (Qr V.kit V.n_isinstance (@qR _ _ _ _ _ _ _ (qG 0) (@qR _ _ _ _ _ _ _ (ZE rfl V.n_int Boot.«int») qF))) (YX (qFw (Qr V.kit V.n_isinstance (@qR _ _ _ _ _ _ _ (qG 0) (@qR _ _ _ _ _ _ _ (ZE rfl V.n_bool Boot.«bool») qF))))))))
theorem Zr:FnScope ["thing","least","most"] ["thing","least","most"] (qI QW):=scm
theorem zB(V:Env K mg a):DefG P w K mg base 3 "is_whole_within" a.is_whole_within 3 (wH a):=by refine qDy V.f_is_whole_within Zr V.m_is_whole_within fun cdv A outer s H E hr hcm hcc=>?_;have hu:=hr.units;exact (qS (qf (yY (qW ((Yz V).call (hr.mono (by omega)) qe) (@qR _ _ _ _ _ _ _ (qG 0) qF)) (YX (zP Zf Zf Zj Zj (qG 1) (qG 0) (qG 2))))))
theorem Y6:FnScope ["thing","least","most"] ["thing","least","most"] (qI wb):=scm
theorem JL(V:Env K mg a):DefG P w K mg base 3 "are_wholes" a.are_wholes 3 (zh a):=by refine qDy V.f_are_wholes Y6 V.m_are_wholes fun cdv A outer s H E hr hcm hcc=>?_;have hu:=hr.units;exact (qS (qf (yY (Qr V.kit V.n_isinstance (@qR _ _ _ _ _ _ _ (qG 0) (@qR _ _ _ _ _ _ _ (ZE rfl V.n_tuple Boot.«tuple») qF))) (yY (zP Zf Zf Zj Zj (qG 1) (Q3 (@qR _ _ _ _ _ _ _ (qG 0) qF) V.n_len) (qG 2)) (YX (zl (@jD _ _ _ _ _ _ _ _ _ (qx (wI (capN:=([])) (locN:=(["number"])) (caps:=([])) (by exact wj rfl (by decide +kernel) rfl rfl trivial) (WL (qG 0)) (fun s' H' fp pn=>⟨(qW ((Yz V).call (hr.mono (by omega)) (qq _)) (@qR _ _ _ _ _ _ _ (qG 0) qF)),⟨(wL 0 (show (["number"]:List Str).Nodup by decide +kernel)),(QE 0),TsOk.nil,rfl⟩,GsOk.nil⟩))) qF) V.n_all))))))
theorem JN:FnScope ["things"] ["things"] (qI w5):=scm
theorem qAG(V:Env K mg a):DefG P w K mg base 2 "is_rising" a.is_rising 1 (W8 a):=by refine qAC V.f_is_rising JN V.m_is_rising fun cdv A outer s H E hr hcm hcc=>?_;have hu:=hr.units;exact (qS (qf (zl (@jD _ _ _ _ _ _ _ _ _ (qx (wI (capN:=(["things"])) (locN:=(["at"])) (caps:=([0])) (by exact wj rfl (by decide +kernel) rfl rfl ⟨⟨rfl,rfl⟩,trivial⟩) (qCy rfl V.n_range (@qc _ _ _ _ _ _ _ _ qK (@ww _ _ _ _ _ _ _ _ _ (Q3 (@qR _ _ _ _ _ _ _ (qG 0) qF) V.n_len) qF))) (fun s' H' fp pn=>⟨(qJe hu (qr (qG 0) (qBc (qG 1) qK)) (qr (qG 0) (qG 1))),⟨(wL 1 (show (["things","at"]:List Str).Nodup by decide +kernel)),(QE 1),TsOk.nil,rfl⟩,GsOk.nil⟩))) qF) V.n_all)))
theorem ju:FnScope ["thing"] ["thing"] (qI w9):=scm
theorem qAd(V:Env K mg a):DefG P w K mg base 4 "is_length" a.is_length 1 (ZG a):=by obtain⟨fd,F⟩:=V.f_is_length;obtain⟨_,c_LEAST_LENGTH⟩:=V.c_LEAST_LENGTH;obtain⟨_,c_MOST_LENGTH⟩:=V.c_MOST_LENGTH;refine Z9 (B:=ZK a) F ju (F.binds (ps:=["thing"]) fun _ _ _ _ _ _ us hl=>match us,hl with|[_],_=>rfl) V.m_is_length (fun l st h=>wY h) (fun cdv A outer s H E hr hcm=>?_) (fun l s0 hl hn=>wA hl);have hu:=hr.units;exact (qS (qf (qW ((zB V).call (hr.mono (by omega)) qe) (@qR _ _ _ _ _ _ _ (qG 0) (@qR _ _ _ _ _ _ _ (W5 rfl c_LEAST_LENGTH) (@qR _ _ _ _ _ _ _ (W5 rfl c_MOST_LENGTH) qF))))))
theorem qBR:FnScope ["thing"] ["thing"] (qI Wn):=scm
theorem qDB(V:Env K mg a):DefG P w K mg base 4 "is_side" a.is_side 1 (zK a):=by obtain⟨fd,F⟩:=V.f_is_side;obtain⟨_,c_MOST_SIDE⟩:=V.c_MOST_SIDE;refine Z9 (B:=jb a) F qBR (F.binds (ps:=["thing"]) fun _ _ _ _ _ _ us hl=>match us,hl with|[_],_=>rfl) V.m_is_side (fun l st h=>wY h) (fun cdv A outer s H E hr hcm=>?_) (fun l s0 hl hn=>wA hl);have hu:=hr.units;exact (qS (qf (qW ((zB V).call (hr.mono (by omega)) qe) (@qR _ _ _ _ _ _ _ (qG 0) (@qc _ _ _ _ _ _ _ _ qK (@qR _ _ _ _ _ _ _ (W5 rfl c_MOST_SIDE) qF))))))
theorem Yu:FnScope ["thing"] ["thing"] (qI Qu):=scm
theorem Y1(V:Env K mg a):DefG P w K mg base 5 "need_length" a.need_length 1 (wl a):=by
 obtain⟨fd,F⟩:=V.f_need_length;obtain⟨_,c_LEAST_LENGTH⟩:=V.c_LEAST_LENGTH;obtain⟨_,c_MOST_LENGTH⟩:=V.c_MOST_LENGTH;refine Z9 (B:=zD a) F Yu (F.binds (ps:=["thing"]) fun _ _ _ _ _ _ us hl=>match us,hl with|[_],_=>rfl) V.m_need_length (fun l st h=>wY h) (fun cdv A outer s H E hr hcm=>?_) (fun l s0 hl hn=>wA hl);have hu:=hr.units;have hc:(Qq (CXF P w) P w K mg base ["thing"] "need_length" (qI Qu) a.need_length cdv A outer s H E).calm=true:=by show A.handled.isNone=true;rw[hcm (by omega)];rfl
 exact (qS (wG (wf (wN (qW ((qAd V).call (hr.mono (by omega)) qe) (@qR _ _ _ _ _ _ _ (qG 0) qF)))) (qS (qAj qH8 hc rfl V.k_Z1 V.x_Z1 (@qKM _ _ _ _ _ _ _ (qCe (ZP QT (ZP (qA2 (W5 rfl c_LEAST_LENGTH)) (ZP QT (ZP (qA2 (W5 rfl c_MOST_LENGTH)) qFz))))) qF))) QG))
theorem qDD:FnScope ["thing"] ["thing"] (qI zU):=scm
theorem qGM(V:Env K mg a):DefG P w K mg base 5 "is_box" a.is_box 1 (Ys a):=by obtain⟨fd,F⟩:=V.f_is_box;obtain⟨_,c_MOST_SIDES⟩:=V.c_MOST_SIDES;refine Z9 (B:=YM a) F qDD (F.binds (ps:=["thing"]) fun _ _ _ _ _ _ us hl=>match us,hl with|[_],_=>rfl) V.m_is_box (fun l st h=>wY h) (fun cdv A outer s H E hr hcm=>?_) (fun l s0 hl hn=>wA hl);have hu:=hr.units;exact (qO (wG (yU (zz (wf (wN (Qr V.kit V.n_isinstance (@qR _ _ _ _ _ _ _ (qG 0) (@qR _ _ _ _ _ _ _ (ZE rfl V.n_tuple Boot.«tuple») qF))))) (zG (wf (qFK Zf Zf Zj Zj qK (Q3 (@qR _ _ _ _ _ _ _ (qG 0) qF) V.n_len) (W5 rfl c_MOST_SIDES)))))) (qS (qf w6)) QG) (qS (qf (zl (@jD _ _ _ _ _ _ _ _ _ (qx (wI (capN:=([])) (locN:=(["side"])) (caps:=([])) (by exact wj rfl (by decide +kernel) rfl rfl trivial) (WL (qG 0)) (fun s' H' fp pn=>⟨(qW ((qDB V).call (hr.mono (by omega)) (qq _)) (@qR _ _ _ _ _ _ _ (qG 0) qF)),⟨(wL 0 (show (["side"]:List Str).Nodup by decide +kernel)),(QE 0),TsOk.nil,rfl⟩,GsOk.nil⟩))) qF) V.n_all))))
theorem Jb:FnScope ["thing"] ["thing"] (qI wQ):=scm
theorem qAQ(V:Env K mg a):DefG P w K mg base 6 "need_room" a.need_room 1 (zA a):=by
 obtain⟨fd,F⟩:=V.f_need_room;obtain⟨_,c_MOST_SIDE⟩:=V.c_MOST_SIDE;refine Z9 (B:=ye a) F Jb (F.binds (ps:=["thing"]) fun _ _ _ _ _ _ us hl=>match us,hl with|[_],_=>rfl) V.m_need_room (fun l st h=>wY h) (fun cdv A outer s H E hr hcm=>?_) (fun l s0 hl hn=>wA hl);have hu:=hr.units;have hc:(Qq (CXF P w) P w K mg base ["thing"] "need_room" (qI wQ) a.need_room cdv A outer s H E).calm=true:=by show A.handled.isNone=true;rw[hcm (by omega)];rfl
 exact (qS (wG (yU (zz (wf (wN (qW ((qGM V).call (hr.mono (by omega)) qe) (@qR _ _ _ _ _ _ _ (qG 0) qF)))) (zG (Qh (zc hu) yA (Q3 (@qR _ _ _ _ _ _ _ (qG 0) qF) V.n_len) (qGc V.n_len V.kt_ROOM_WAYS (@qR _ _ _ _ _ _ _ (zC rfl V.t_ROOM_WAYS) qF)))))) (qS (qAj qH8 hc rfl V.k_Z4 V.x_Z4 (@qKM _ _ _ _ _ _ _ (qCe (ZP QT (ZP (qA2 (W5 rfl c_MOST_SIDE)) qFz))) qF))) QG))
theorem Y2:FnScope ["room"] ["room"] (qI wU):=scm
theorem za(V:Env K mg a):DefG P w K mg base 2 "many_cells" a.many_cells 1 (wS a):=by refine qAC V.f_many_cells Y2 V.m_many_cells fun cdv A outer s H E hr hcm hcc=>?_;have hu:=hr.units;exact (qS (qf (WC (WC (qr (qG 0) qK) (qr (qG 0) qK)) (qr (qG 0) qK))))
theorem jF:FnScope ["room","length","most"] ["room","length","most"] (qI Q2):=scm
theorem jz(V:Env K mg a):DefG P w K mg base 7 "need_small" a.need_small 3 (Qg a):=by
 obtain⟨fd,F⟩:=V.f_need_small;obtain⟨_,I_Z11_f,I_Z11_b⟩:=qD4 (P:=P) (w:=w) (base:=base) V;refine Z9 (B:=Zw a) F jF (F.binds (ps:=["room","length","most"]) fun _ _ _ _ _ _ us hl=>match us,hl with|[_,_,_],_=>rfl) V.m_need_small (fun l st h=>wY h) (fun cdv A outer s H E hr hcm=>?_) (fun l s0 hl hn=>wA hl);have hu:=hr.units;have hc:(Qq (CXF P w) P w K mg base ["room","length","most"] "need_small" (qI Q2) a.need_small cdv A outer s H E).calm=true:=by show A.handled.isNone=true;rw[hcm (by omega)];rfl
 exact (qO (JE (qW ((qAQ V).call (hr.mono (by omega)) qe) (@qR _ _ _ _ _ _ _ (qG 0) qF))) (qO (JE (qW ((Y1 V).call (hr.mono (by omega)) qe) (@qR _ _ _ _ _ _ _ (qG 1) qF))) (qS (wG (Qh qH0 qIC (qW ((za V).call (hr.mono (by omega)) qe) (@qR _ _ _ _ _ _ _ (qG 0) qF)) (qG 2)) (qS (qD2 qJw hc rfl V.k_Z11 V.xm_Z11 I_Z11_f (hr.mono (by omega)) I_Z11_b (@ww _ _ _ _ _ _ _ _ _ (qW ((za V).call (hr.mono (by omega)) qe) (@qR _ _ _ _ _ _ _ (qG 0) qF)) (@qR _ _ _ _ _ _ _ (qG 2) qF)))) QG))))
theorem sc_cells_along:FnScope ["bar","length","x","y","z","way"] ["bar","length"] (qI wD):=scm
theorem Zg(V:Env K mg a):DefG P w K mg base 2 "cells_along" a.cells_along 2 (Qw a):=by
 refine qAa V.f_cells_along sc_cells_along V.m_cells_along fun cdv A outer s H E hr hcm hcc=>?_;have hu:=hr.units;have hc:=hcc (by omega);exact (qO (qAz (qG 0) (qBQ hc (wq (QK 2 sc_cells_along.nd) (wq (QK 3 sc_cells_along.nd) (wq (QK 4 sc_cells_along.nd) (wq (QK 5 sc_cells_along.nd) j0)))))) (qO (wG (Qh (WT hu) zO (qG 5) qK) (qS (qf (qx (wI (capN:=(["y","z","x"])) (locN:=(["step"])) (caps:=([3,4,2])) (by exact wj rfl (by decide +kernel) rfl rfl ⟨⟨rfl,rfl⟩,⟨⟨rfl,rfl⟩,⟨⟨rfl,rfl⟩,trivial⟩⟩⟩) (Qm rfl V.n_range (@qR _ _ _ _ _ _ _ (qG 1) qF)) (fun s' H' fp pn=>⟨(qg (@Wy _ _ _ _ _ _ _ _ _ (qy (qG 2) (qG 3)) (@qR _ _ _ _ _ _ _ (qG 0) (@qR _ _ _ _ _ _ _ (qG 1) qF)))),⟨(wL 3 (show (["y","z","x","step"]:List Str).Nodup by decide +kernel)),(QE 3),TsOk.nil,rfl⟩,GsOk.nil⟩))))) QG) (qO (wG (Qh (WT hu) zO (qG 5) qK) (qS (qf (qx (wI (capN:=(["x","z","y"])) (locN:=(["step"])) (caps:=([2,4,3])) (by exact wj rfl (by decide +kernel) rfl rfl ⟨⟨rfl,rfl⟩,⟨⟨rfl,rfl⟩,⟨⟨rfl,rfl⟩,trivial⟩⟩⟩) (Qm rfl V.n_range (@qR _ _ _ _ _ _ _ (qG 1) qF)) (fun s' H' fp pn=>⟨(qg (@qR _ _ _ _ _ _ _ (qG 0) (@Wy _ _ _ _ _ _ _ _ _ (qy (qG 2) (qG 3)) (@qR _ _ _ _ _ _ _ (qG 1) qF)))),⟨(wL 3 (show (["x","z","y","step"]:List Str).Nodup by decide +kernel)),(QE 3),TsOk.nil,rfl⟩,GsOk.nil⟩))))) QG) (qS (qf (qx (wI (capN:=(["x","y","z"])) (locN:=(["step"])) (caps:=([2,3,4])) (by exact wj rfl (by decide +kernel) rfl rfl ⟨⟨rfl,rfl⟩,⟨⟨rfl,rfl⟩,⟨⟨rfl,rfl⟩,trivial⟩⟩⟩) (Qm rfl V.n_range (@qR _ _ _ _ _ _ _ (qG 1) qF)) (fun s' H' fp pn=>⟨(qg (@qR _ _ _ _ _ _ _ (qG 0) (@qR _ _ _ _ _ _ _ (qG 1) (@Wy _ _ _ _ _ _ _ _ _ (qy (qG 2) (qG 3)) qF)))),⟨(wL 3 (show (["x","y","z","step"]:List Str).Nodup by decide +kernel)),(QE 3),TsOk.nil,rfl⟩,GsOk.nil⟩))))))))
theorem sc_is_in_room:FnScope ["room","bar","length","cells"] ["room","bar","length"] (qI wX):=scm
theorem JY(V:Env K mg a):DefG P w K mg base 3 "is_in_room" a.is_in_room 3 (WG a):=by refine qDy V.f_is_in_room sc_is_in_room V.m_is_in_room fun cdv A outer s H E hr hcm hcc=>?_;have hu:=hr.units;exact (qO (qj 3 sc_is_in_room.nd (qW ((Zg V).call (hr.mono (by omega)) qe) (@qR _ _ _ _ _ _ _ (qG 1) (@qR _ _ _ _ _ _ _ (qG 2) qF)))) (qS (qf (zl (@jD _ _ _ _ _ _ _ _ _ (qx (wI (capN:=(["room"])) (locN:=(["cell"])) (caps:=([0])) (by exact wj rfl (by decide +kernel) rfl rfl ⟨⟨rfl,rfl⟩,trivial⟩) (WL (qG 3)) (fun s' H' fp pn=>⟨(zl (@jD _ _ _ _ _ _ _ _ _ (qx (wI (capN:=(["cell","room"])) (locN:=(["way"])) (caps:=([1,0])) (by exact wj rfl (by decide +kernel) rfl rfl ⟨⟨rfl,rfl⟩,⟨⟨rfl,rfl⟩,trivial⟩⟩) (qLW V.kt_ROOM_WAYS (zC rfl V.t_ROOM_WAYS)) (fun s' H' fp pn=>⟨(zP Zf qCJ Zj qCs qK (qr (qG 0) (qG 2)) (qr (qG 1) (qG 2))),⟨(wL 2 (show (["cell","room","way"]:List Str).Nodup by decide +kernel)),(QE 2),TsOk.nil,rfl⟩,GsOk.nil⟩))) qF) V.n_all),⟨(wL 1 (show (["room","cell"]:List Str).Nodup by decide +kernel)),(QE 1),TsOk.nil,rfl⟩,GsOk.nil⟩))) qF) V.n_all))))
theorem YR:FnScope ["thing"] ["thing"] (qI wC):=scm
theorem Y5(V:Env K mg a):DefG P w K mg base 4 "is_room_bar" a.is_room_bar 1 (wn a):=by refine qAC V.f_is_room_bar YR V.m_is_room_bar fun cdv A outer s H E hr hcm hcc=>?_;have hu:=hr.units;exact (qS (qf (yY (qW ((JL V).call (hr.mono (by omega)) qe) (@qR _ _ _ _ _ _ _ (qG 0) (@qc _ _ _ _ _ _ _ _ qK (@qc _ _ _ _ _ _ _ _ qK qF)))) (YX (qJy hu V.kt_ROOM_WAYS (qr (qG 0) qK) (zC rfl V.t_ROOM_WAYS))))))
theorem sc_is_room_filling:FnScope ["room","length","thing","covered"] ["room","length","thing"] (qI QJ):=scm
theorem Zx(V:Env K mg a):DefG P w K mg base 8 "is_room_filling" a.is_room_filling 3 (Qt a):=by
 obtain⟨fd,F⟩:=V.f_is_room_filling;obtain⟨_,c_MOST_LOOKED_AT⟩:=V.c_MOST_LOOKED_AT;refine Z9 (B:=W9 a) F sc_is_room_filling (F.binds (ps:=["room","length","thing"]) fun _ _ _ _ _ _ us hl=>match us,hl with|[_,_,_],_=>rfl) V.m_is_room_filling (fun l st h=>wY h) (fun cdv A outer s H E hr hcm=>?_) (fun l s0 hl hn=>wA hl);have hu:=hr.units;have hc:(Qq (CXF P w) P w K mg base ["room","length","thing","covered"] "is_room_filling" (qI QJ) a.is_room_filling cdv A outer s H E).calm=true:=by show A.handled.isNone=true;rw[hcm (by omega)];rfl
 exact (qO (JE (qW ((jz V).call (hr.mono (by omega)) qe) (@qR _ _ _ _ _ _ _ (qG 0) (@qR _ _ _ _ _ _ _ (qG 1) (@qR _ _ _ _ _ _ _ (W5 rfl c_MOST_LOOKED_AT) qF))))) (qO (wG (yU (zz (wf (wN (Qr V.kit V.n_isinstance (@qR _ _ _ _ _ _ _ (qG 2) (@qR _ _ _ _ _ _ _ (ZE rfl V.n_tuple Boot.«tuple») qF))))) (zz (wf (wN (zl (@jD _ _ _ _ _ _ _ _ _ (qx (wI (capN:=([])) (locN:=(["bar"])) (caps:=([])) (by exact wj rfl (by decide +kernel) rfl rfl trivial) (WL (qG 2)) (fun s' H' fp pn=>⟨(qW ((Y5 V).call (hr.mono (by omega)) (qq _)) (@qR _ _ _ _ _ _ _ (qG 0) qF)),⟨(wL 0 (show (["bar"]:List Str).Nodup by decide +kernel)),(QE 0),TsOk.nil,rfl⟩,GsOk.nil⟩))) qF) V.n_all))) (zG (wf (wN (qW ((qAG V).call (hr.mono (by omega)) qe) (@qR _ _ _ _ _ _ _ (qG 2) qF)))))))) (qS (qf w6)) QG) (qO (wG (wf (wN (zl (@jD _ _ _ _ _ _ _ _ _ (qx (wI (capN:=(["room","length"])) (locN:=(["bar"])) (caps:=([0,1])) (by exact wj rfl (by decide +kernel) rfl rfl ⟨⟨rfl,rfl⟩,⟨⟨rfl,rfl⟩,trivial⟩⟩) (WL (qG 2)) (fun s' H' fp pn=>⟨(qW ((JY V).call (hr.mono (by omega)) (qq _)) (@qR _ _ _ _ _ _ _ (qG 0) (@qR _ _ _ _ _ _ _ (qG 2) (@qR _ _ _ _ _ _ _ (qG 1) qF)))),⟨(wL 2 (show (["room","length","bar"]:List Str).Nodup by decide +kernel)),(QE 2),TsOk.nil,rfl⟩,GsOk.nil⟩))) qF) V.n_all))) (qS (qf w6)) QG) (qO (qCX (capN:=(["length"])) (locN:=(["bar","cell"])) (caps:=([1])) 3 sc_is_room_filling.nd (by exact wj rfl (by decide +kernel) rfl rfl ⟨⟨rfl,rfl⟩,trivial⟩) (WL (qG 2)) (fun s' H' fp pn=>⟨(qG 2),⟨(wL 1 (show (["length","bar","cell"]:List Str).Nodup by decide +kernel)),(QE 1),TsOk.nil,rfl⟩,(GsOk.cons ⟨⟨(wL 2 (show (["length","bar","cell"]:List Str).Nodup by decide +kernel)),(QE 2),TsOk.nil,rfl⟩,(WL (qW ((Zg V).call (hr.mono (by omega)) (qq _)) (@qR _ _ _ _ _ _ _ (qG 1) (@qR _ _ _ _ _ _ _ (qG 0) qF)))),by intro _;rfl⟩ GsOk.nil)⟩)) (qS (qf (zP (WT hu) (WT hu) zO zO (Q3 (@qR _ _ _ _ _ _ _ (qG 3) qF) V.n_len) (qW ((za V).call (hr.mono (by omega)) qe) (@qR _ _ _ _ _ _ _ (qG 0) qF)) (qFN hc hu V.n_len V.n_set (qG 3)))))))))
theorem Jx:FnScope ["_law_script","_law_k"] ["_law_script","_law_k"] (qI WV):=scm
theorem qB1(V:Env K mg a):DefG P w K mg base 2 "_law_cell" a.law_cell 2 (zt a):=by refine qAa V.f_law_cell Jx V.m_law_cell fun cdv A outer s H E hr hcm hcc=>?_;have hu:=hr.units;exact (qO (wG (Qh qCJ qCs (qG 1) (Q3 (@qR _ _ _ _ _ _ _ (qG 0) qF) V.n_len)) (qS (qf (qr (qG 0) (qG 1)))) QG) (qS (qf (qy (WC qK (qG 1)) qK))))
theorem sc_law_mix:FnScope ["_law_cell_here","_law_k","_law_number"] ["_law_cell_here","_law_k"] (qI Wk):=scm
theorem qD7(V:Env K mg a):DefG P w K mg base 2 "_law_mix" a.law_mix 2 (ZV a):=by refine qAa V.f_law_mix sc_law_mix V.m_law_mix fun cdv A outer s H E hr hcm hcc=>?_;have hu:=hr.units;exact (qO (qj 2 sc_law_mix.nd (qy (WC (qy (qG 0) qK) qK) (WC qK (qG 1)))) (qO (qj 2 sc_law_mix.nd (qy (ZN (qGS (qG 2) (qG 2)) qK) (qG 1))) (qS (qf (ZN (WC (qG 2) (qy (qG 2) qK)) qK)))))
theorem sc_law_box:FnScope ["_law_script","_law_k","_law_here","_law_number","_law_j"] ["_law_script","_law_k"] (qI Wl):=scm
theorem qDG(V:Env K mg a):DefG P w K mg base 3 "_law_box" a.law_box 2 (ZW a):=by refine qAa V.f_law_box sc_law_box V.m_law_box fun cdv A outer s H E hr hcm hcc=>?_;have hu:=hr.units;exact (qO (qj 2 sc_law_box.nd (qW ((qB1 V).call (hr.mono (by omega)) qe) (@qR _ _ _ _ _ _ _ (qG 0) (@qR _ _ _ _ _ _ _ (qG 1) qF)))) (qO (wG (Qh (WT hu) zO (ZN (qG 2) qK) qK) (qS (qB4 (QU (@Wy _ _ _ _ _ _ _ _ _ (qBb (qG 2) qK) qF)))) QG) (qO (qj 3 sc_law_box.nd qK) (qO (We (Qm rfl V.n_range (@qc _ _ _ _ _ _ _ _ qK qF)) (QK 4 sc_law_box.nd) (qS (qj 3 sc_law_box.nd (qy (WC (qG 3) qK) (qW ((qD7 V).call (hr.mono (by omega)) (qq _)) (@qR _ _ _ _ _ _ _ (qG 2) (@qR _ _ _ _ _ _ _ (qG 4) qF))))))) (qS (qB4 (QU (@qR _ _ _ _ _ _ _ (qG 3) qF))))))))
theorem sc_law_take:FnScope ["_law_box_here","_law_many","_law_left","_law_digit"] ["_law_box_here","_law_many"] (qI WQ):=scm
theorem QB(V:Env K mg a):DefG P w K mg base 2 "_law_take" a.law_take 2 (qd a):=by
 refine qAa V.f_law_take sc_law_take V.m_law_take fun cdv A outer s H E hr hcm hcc=>?_;have hu:=hr.units;have hc:=hcc (by omega);exact (qO (qAz (qEB (@yt _ _ _ _ _ _ _ _ (qr (qG 0) qK) (@qR _ _ _ _ _ _ _ (qG 1) qF)) V.n_divmod) (qBQ hc (wq (QK 2 sc_law_take.nd) (wq (QK 3 sc_law_take.nd) j0)))) (qO (qIZ (qG 0) qK (qG 2)) (qS (qf (qG 3)))))
theorem JW:FnScope ["_law_found"] ["_law_found"] (qI w8):=scm
theorem qAK(V:Env K mg a):DefG P w K mg base 2 "_law_whole" a.law_whole 1 (WZ a):=by refine qAC V.f_law_whole JW V.m_law_whole fun cdv A outer s H E hr hcm hcc=>?_;have hu:=hr.units;exact (qS (qf (yY (Qr V.kit V.n_isinstance (@qR _ _ _ _ _ _ _ (qG 0) (@qR _ _ _ _ _ _ _ (ZE rfl V.n_int Boot.«int») qF))) (YX (qFw (Qr V.kit V.n_isinstance (@qR _ _ _ _ _ _ _ (qG 0) (@qR _ _ _ _ _ _ _ (ZE rfl V.n_bool Boot.«bool») qF))))))))
theorem sc_law_odd:FnScope ["_law_box_here","_law_some"] ["_law_box_here"] (qI Wm):=scm
theorem jJ(V:Env K mg a):DefG P w K mg base 3 "_law_odd" a.law_odd 1 (zN a):=by refine qAC V.f_law_odd sc_law_odd V.m_law_odd fun cdv A outer s H E hr hcm hcc=>?_;have hu:=hr.units;exact (@qO _ _ _ _ _ _ (@qj _ _ _ _ _ 1 _ _ sc_law_odd.nd (@qx _ _ _ _ (@QU _ _ _ _ _ (@qc _ _ _ _ _ _ _ _ qB2 (@qc _ _ _ _ _ _ _ _ w6 (@qc _ _ _ _ _ _ _ _ w6 (@qJk _ _ _ _ _ _ _ _ (@JK _ _ _ _ _ qK) (@qc _ _ _ _ _ _ _ _ qK (@qc _ _ _ _ _ _ _ _ qK (@qc _ _ _ _ _ _ _ _ qK (@qc _ _ _ _ _ _ _ _ qK (@qc _ _ _ _ _ _ _ _ qK (@qc _ _ _ _ _ _ _ _ QT (@qc _ _ _ _ _ _ _ _ QT (@qc _ _ _ _ _ _ _ _ QT (@WF _ _ _ _ _ _ _ _ (@qg _ _ _ _ _ _ qF) (@WF _ _ _ _ _ _ _ _ (@qg _ _ _ _ _ _ (@qc _ _ _ _ _ _ _ _ qK qF)) (@WF _ _ _ _ _ _ _ _ (@qg _ _ _ _ _ _ (@qc _ _ _ _ _ _ _ _ qK (@qc _ _ _ _ _ _ _ _ qK qF))) (@WF _ _ _ _ _ _ _ _ (@qg _ _ _ _ _ _ (@qc _ _ _ _ _ _ _ _ qK (@qc _ _ _ _ _ _ _ _ qK (@qc _ _ _ _ _ _ _ _ qK qF)))) (@qHs _ _ _ _ _ _ _ (@qx _ _ _ _ (@QU _ _ _ _ _ (@qc _ _ _ _ _ _ _ _ qK qF))) (@qLP _ _ _ _ _ _ _ _ qKA (@WF _ _ _ _ _ _ _ _ (@qg _ _ _ _ _ _ (@qc _ _ _ _ _ _ _ _ qK (@qc _ _ _ _ _ _ _ _ qK (@qc _ _ _ _ _ _ _ _ w6 qF)))) qF))))))))))))))))))))) (by rfl) (by first|exact Or.inl rfl|exact Or.inr rfl) (by rfl) (by first|exact .inl rfl|exact .inr rfl|assumption)) (@qO _ _ _ _ _ _ (@qj _ _ _ _ _ 1 _ _ sc_law_odd.nd (@qx _ _ _ _ (@Zt _ _ _ _ _ _ _ (qG 1) (@qx _ _ _ _ (@QU _ _ _ _ _ (@WF _ _ _ _ _ _ _ _ (@qg _ _ _ _ _ _ (@WF _ _ _ _ _ _ _ _ (@qg _ _ _ _ _ _ (@qc _ _ _ _ _ _ _ _ qK (@qc _ _ _ _ _ _ _ _ qK (@qc _ _ _ _ _ _ _ _ qK qF)))) qF)) (@WF _ _ _ _ _ _ _ _ (@qg _ _ _ _ _ _ (@WF _ _ _ _ _ _ _ _ (@qg _ _ _ _ _ _ (@qc _ _ _ _ _ _ _ _ qK (@qc _ _ _ _ _ _ _ _ qK (@qc _ _ _ _ _ _ _ _ qK qF)))) qF)) (@qHs _ _ _ _ _ _ _ (@qx _ _ _ _ (@QU _ _ _ _ _ (@WF _ _ _ _ _ _ _ _ (@qg _ _ _ _ _ _ (@qc _ _ _ _ _ _ _ _ qK (@qc _ _ _ _ _ _ _ _ qK (@qc _ _ _ _ _ _ _ _ qK qF)))) qF))) (@Wy _ _ _ _ _ _ _ _ _ (@qBu _ _ _ _ _ _ _ qK qK) (@WF _ _ _ _ _ _ _ _ (@qg _ _ _ _ _ _ (@qc _ _ _ _ _ _ _ _ qK (@qc _ _ _ _ _ _ _ _ qK (@qc _ _ _ _ _ _ _ _ qK qF)))) (@WF _ _ _ _ _ _ _ _ (@qg _ _ _ _ _ _ (@qc _ _ _ _ _ _ _ _ qK (@qJk _ _ _ _ _ _ _ _ (@JK _ _ _ _ _ qK) (@qc _ _ _ _ _ _ _ _ qK qF)))) (@WF _ _ _ _ _ _ _ _ (@qg _ _ _ _ _ _ (@WF _ _ _ _ _ _ _ _ (@qg _ _ _ _ _ _ (@qc _ _ _ _ _ _ _ _ qK (@qc _ _ _ _ _ _ _ _ qK qF))) qF)) (@WF _ _ _ _ _ _ _ _ (@qg _ _ _ _ _ _ (@qc _ _ _ _ _ _ _ _ qK (@qc _ _ _ _ _ _ _ _ qK (@qc _ _ _ _ _ _ _ _ qK (@qc _ _ _ _ _ _ _ _ qK qF))))) qF)))))))))))) (by rfl) (by first|exact Or.inl rfl|exact Or.inr rfl) (by rfl) (by first|exact .inl rfl|exact .inr rfl|assumption)) (@qS _ _ _ _ (@qf _ _ _ _ _ (@qr _ _ _ _ _ _ _ (qG 1) (@qW _ _ _ _ _ _ _ _ _ ((QB V).call (hr.mono (by omega)) qe) (@qR _ _ _ _ _ _ _ (qG 0) (@ww _ _ _ _ _ _ _ _ _ (@Q3 _ _ _ _ _ _ _ (@qR _ _ _ _ _ _ _ (qG 1) qF) V.n_len (by rfl) (by rfl) (by rfl)) qF)) (by rfl) (by rfl)) (by exact fun _ _=>rfl))))))
theorem sc_law_room:FnScope ["_law_box_here","_law_most","_law_one","_law_other","_law_last","_law_sides","_law_at"] ["_law_box_here","_law_most"] (qI WP):=scm
theorem qBr(V:Env K mg a):DefG P w K mg base 3 "_law_room" a.law_room 2 (zW a):=by
 refine qAa V.f_law_room sc_law_room V.m_law_room fun cdv A outer s H E hr hcm hcc=>?_;have hu:=hr.units;have hc:=hcc (by omega);exact (qO (qj 2 sc_law_room.nd (qy qK (qW ((QB V).call (hr.mono (by omega)) qe) (@qR _ _ _ _ _ _ _ (qG 0) (@qc _ _ _ _ _ _ _ _ qK qF))))) (qO (qj 3 sc_law_room.nd (qy qK (qW ((QB V).call (hr.mono (by omega)) qe) (@qR _ _ _ _ _ _ _ (qG 0) (@ww _ _ _ _ _ _ _ _ _ (JO (@qc _ _ _ _ _ _ _ _ qK (@Wy _ _ _ _ _ _ _ _ _ (qBb (qG 1) (qG 2)) qF)) hc V.n_min) qF))))) (qO (qj 4 sc_law_room.nd (qy qK (qW ((QB V).call (hr.mono (by omega)) qe) (@qR _ _ _ _ _ _ _ (qG 0) (@ww _ _ _ _ _ _ _ _ _ (JO (@qc _ _ _ _ _ _ _ _ qK (@Wy _ _ _ _ _ _ _ _ _ (qBb (qG 1) (WC (qG 2) (qG 3))) qF)) hc V.n_min) qF))))) (qO (qj 5 sc_law_room.nd (qx (QU (@qR _ _ _ _ _ _ _ (qG 2) (@qR _ _ _ _ _ _ _ (qG 3) (@qR _ _ _ _ _ _ _ (qG 4) qF)))))) (qO (qj 6 sc_law_room.nd (qW ((QB V).call (hr.mono (by omega)) qe) (@qR _ _ _ _ _ _ _ (qG 0) (@qc _ _ _ _ _ _ _ _ qK qF)))) (qS (qf (ZX (@Wy _ _ _ _ _ _ _ _ _ (qx (Zt (qE4 (qG 5) (wV (qG 6)) wE) (qE4 (qG 5) wE (wV (qG 6))))) qF) V.n_tuple))))))))
theorem sc_law_room_cover:FnScope ["_law_bar","_law_length","_law_found","_law_k"] ["_law_bar","_law_length"] (qI Qk):=scm
theorem ya(V:Env K mg a):DefG P w K mg base 2 "_law_room_cover" a.law_room_cover 2 (WJ a):=by refine qAa V.f_law_room_cover sc_law_room_cover V.m_law_room_cover fun cdv A outer s H E hr hcm hcc=>?_;have hu:=hr.units;exact (qO (YB 2 sc_law_room_cover.nd (QU qF)) (qO (We (Qm rfl V.n_range (@qR _ _ _ _ _ _ _ (qG 1) qF)) (QK 3 sc_law_room_cover.nd) (qS (yM (qG 2) (ZX (@jD _ _ _ _ _ _ _ _ _ (qx (wI (capN:=(["_law_bar","_law_k"])) (locN:=(["_law_at"])) (caps:=([0,3])) (by exact wj rfl (by decide +kernel) rfl rfl ⟨⟨rfl,rfl⟩,⟨⟨rfl,rfl⟩,trivial⟩⟩) (Qm rfl V.n_range (@qc _ _ _ _ _ _ _ _ qK qF)) (fun s' H' fp pn=>⟨(qy (qr (qG 0) (qG 2)) (WC (qG 1) (qGk (@qLq _ _ _ _ _ _ _ _ _ (qHz hu (qG 2) (qr (qG 0) qK)) qF) V.n_int))),⟨(wL 2 (show (["_law_bar","_law_k","_law_at"]:List Str).Nodup by decide +kernel)),(QE 2),TsOk.nil,rfl⟩,GsOk.nil⟩))) qF) V.n_tuple)))) (qS (qf (qG 2)))))
theorem sc_law_room_cells:FnScope ["_law_room_here","_law_found","_law_x","_law_y"] ["_law_room_here"] (qI Ql):=scm
theorem yP(V:Env K mg a):DefG P w K mg base 2 "_law_room_cells" a.law_room_cells 1 (wW a):=by refine qAC V.f_law_room_cells sc_law_room_cells V.m_law_room_cells fun cdv A outer s H E hr hcm hcc=>?_;have hu:=hr.units;exact (qO (qj 1 sc_law_room_cells.nd (qx (QU qF))) (qO (We (Qm rfl V.n_range (@yt _ _ _ _ _ _ _ _ (qr (qG 0) qK) qF)) (QK 2 sc_law_room_cells.nd) (qS (We (Qm rfl V.n_range (@yt _ _ _ _ _ _ _ _ (qr (qG 0) qK) qF)) (QK 3 sc_law_room_cells.nd) (qS (qj 1 sc_law_room_cells.nd (qx (Zt (qG 1) (qx (wI (capN:=(["_law_x","_law_y"])) (locN:=(["_law_z"])) (caps:=([2,3])) (by exact wj rfl (by decide +kernel) rfl rfl ⟨⟨rfl,rfl⟩,⟨⟨rfl,rfl⟩,trivial⟩⟩) (Qm rfl V.n_range (@yt _ _ _ _ _ _ _ _ (qr (qG 0) qK) qF)) (fun s' H' fp pn=>⟨(qg (@qR _ _ _ _ _ _ _ (qG 0) (@qR _ _ _ _ _ _ _ (qG 1) (@qR _ _ _ _ _ _ _ (qG 2) qF)))),⟨(wL 2 (show (["_law_x","_law_y","_law_z"]:List Str).Nodup by decide +kernel)),(QE 2),TsOk.nil,rfl⟩,GsOk.nil⟩)))))))))) (qS (qf (qG 1)))))
theorem Zm:FnScope ["_law_room_here","_law_length","_law_thing"] ["_law_room_here","_law_length","_law_thing"] (qI QX):=scm
theorem yC(V:Env K mg a):DefG P w K mg base 3 "_law_is_room_bar" a.law_is_room_bar 3 (wF a):=by refine qDy V.f_law_is_room_bar Zm V.m_law_is_room_bar fun cdv A outer s H E hr hcm hcc=>?_;have hu:=hr.units;exact (qO (wG (yU (zz (wf (wN (Qr V.kit V.n_isinstance (@qR _ _ _ _ _ _ _ (qG 2) (@qR _ _ _ _ _ _ _ (ZE rfl V.n_tuple Boot.«tuple») qF))))) (zz (Qh (zc hu) yA (Q3 (@qR _ _ _ _ _ _ _ (qG 2) qF) V.n_len) qK) (zG (wf (wN (zl (@jD _ _ _ _ _ _ _ _ _ (qx (wI (capN:=([])) (locN:=(["_law_one"])) (caps:=([])) (by exact wj rfl (by decide +kernel) rfl rfl trivial) (WL (qG 2)) (fun s' H' fp pn=>⟨(qW ((qAK V).call (hr.mono (by omega)) (qq _)) (@qR _ _ _ _ _ _ _ (qG 0) qF)),⟨(wL 0 (show (["_law_one"]:List Str).Nodup by decide +kernel)),(QE 0),TsOk.nil,rfl⟩,GsOk.nil⟩))) qF) V.n_all))))))) (qS (qf w6)) QG) (qO (wG (yU (zz (Qh (qC5 hu) qLL (qr (qG 2) qK) (qg (@qc _ _ _ _ _ _ _ _ qK (@qc _ _ _ _ _ _ _ _ qK (@qc _ _ _ _ _ _ _ _ qK qF))))) (zG (wf (wN (zl (@jD _ _ _ _ _ _ _ _ _ (qx (wI (capN:=(["_law_thing","_law_room_here"])) (locN:=(["_law_at"])) (caps:=([2,0])) (by exact wj rfl (by decide +kernel) rfl rfl ⟨⟨rfl,rfl⟩,⟨⟨rfl,rfl⟩,trivial⟩⟩) (Qm rfl V.n_range (@qc _ _ _ _ _ _ _ _ qK qF)) (fun s' H' fp pn=>⟨(zP Zf qCJ Zj qCs qK (qr (qG 0) (qG 2)) (qr (qG 1) (qG 2))),⟨(wL 2 (show (["_law_thing","_law_room_here","_law_at"]:List Str).Nodup by decide +kernel)),(QE 2),TsOk.nil,rfl⟩,GsOk.nil⟩))) qF) V.n_all)))))) (qS (qf w6)) QG) (qS (qf (qKl (qy (qr (qG 2) (qr (qG 2) qK)) (qG 1)) (qr (qG 0) (qr (qG 2) qK)))))))
theorem sc_law_is_room_filling:FnScope ["_law_room_here","_law_length","_law_thing","_law_cells","_law_k","_law_cell_here"] ["_law_room_here","_law_length","_law_thing"] (qI qz):=scm
theorem ZD(V:Env K mg a):DefG P w K mg base 4 "_law_is_room_filling" a.law_is_room_filling 3 (Qp a):=by refine qDy V.f_law_is_room_filling sc_law_is_room_filling V.m_law_is_room_filling fun cdv A outer s H E hr hcm hcc=>?_;have hu:=hr.units;exact (qO (wG (yU (zz (wf (wN (Qr V.kit V.n_isinstance (@qR _ _ _ _ _ _ _ (qG 2) (@qR _ _ _ _ _ _ _ (ZE rfl V.n_tuple Boot.«tuple») qF))))) (zG (Qh (zc hu) yA (WC (Q3 (@qR _ _ _ _ _ _ _ (qG 2) qF) V.n_len) (qG 1)) (WC (WC (qr (qG 0) qK) (qr (qG 0) qK)) (qr (qG 0) qK)))))) (qS (qf w6)) QG) (qO (qj 3 sc_law_is_room_filling.nd qHj) (qO (We (Qm rfl V.n_range (@ww _ _ _ _ _ _ _ _ _ (Q3 (@qR _ _ _ _ _ _ _ (qG 2) qF) V.n_len) qF)) (QK 4 sc_law_is_room_filling.nd) (qO (wG (yU (zz (wf (wN (qW ((yC V).call (hr.mono (by omega)) (qq _)) (@qR _ _ _ _ _ _ _ (qG 0) (@qR _ _ _ _ _ _ _ (qG 1) (@yt _ _ _ _ _ _ _ _ (qr (qG 2) (qG 4)) qF)))))) (zG (yU (Yx (Qh qH0 qIC (qG 4) qK) (JZ (wf (Qh (qFJ hu) qEq (qr (qG 2) (qBc (qG 4) qK)) (qr (qG 2) (qG 4)))))))))) (qS (qf w6)) QG) (qS (We (WL (qW ((ya V).call (hr.mono (by omega)) (qq _)) (@yt _ _ _ _ _ _ _ _ (qr (qG 2) (qG 4)) (@qR _ _ _ _ _ _ _ (qG 1) qF)))) (QK 5 sc_law_is_room_filling.nd) (qS (qHk (Bq (Nat.add_le_add_left (by decide) _) hu) V.nk (qG 3) (qG 5) w6)))))) (qS (qf (qHz hu (qHF (@qR _ _ _ _ _ _ _ (qG 3) qF) V.n_len) (WC (Q3 (@qR _ _ _ _ _ _ _ (qG 2) qF) V.n_len) (qG 1))))))))
theorem sc_law_kind:FnScope ["_law_e","_law_kinds","_law_words"] ["_law_e"] (qI WS):=scm
theorem qBY(V:Env K mg a):DefG P w K mg base 1 "_law_kind" a.law_kind 1 (wx a):=by refine qAC V.f_law_kind sc_law_kind V.m_law_kind fun cdv A outer s H E hr hcm hcc=>?_;have hu:=hr.units;exact (@qO _ _ _ _ _ _ (@qj _ _ _ _ _ 1 _ _ sc_law_kind.nd (@qx _ _ _ _ (@QU _ _ _ _ _ (@ww _ _ _ _ _ _ _ _ _ (Qr V.kit V.n_isinstance (@qR _ _ _ _ _ _ _ (qG 0) (@qR _ _ _ _ _ _ _ (@zC _ _ _ _ _ rfl V.k_Z1 (by decide)) qF))) (@ww _ _ _ _ _ _ _ _ _ (Qr V.kit V.n_isinstance (@qR _ _ _ _ _ _ _ (qG 0) (@qR _ _ _ _ _ _ _ (@zC _ _ _ _ _ rfl V.k_Z2 (by decide)) qF))) (@ww _ _ _ _ _ _ _ _ _ (Qr V.kit V.n_isinstance (@qR _ _ _ _ _ _ _ (qG 0) (@qR _ _ _ _ _ _ _ (@zC _ _ _ _ _ rfl V.k_Z3 (by decide)) qF))) (@ww _ _ _ _ _ _ _ _ _ (Qr V.kit V.n_isinstance (@qR _ _ _ _ _ _ _ (qG 0) (@qR _ _ _ _ _ _ _ (@zC _ _ _ _ _ rfl V.k_Z4 (by decide)) qF))) qF)))))) (by rfl) (by first|exact Or.inl rfl|exact Or.inr rfl) (by rfl) (by first|exact .inl rfl|exact .inr rfl|assumption)) (@qO _ _ _ _ _ _ (@qj _ _ _ _ _ 1 _ _ sc_law_kind.nd (@qx _ _ _ _ (@Zt _ _ _ _ _ _ _ (qG 1) (@qx _ _ _ _ (@QU _ _ _ _ _ (@ww _ _ _ _ _ _ _ _ _ (Qr V.kit V.n_isinstance (@qR _ _ _ _ _ _ _ (qG 0) (@qR _ _ _ _ _ _ _ (@zC _ _ _ _ _ rfl V.k_Z5 (by decide)) qF))) (@ww _ _ _ _ _ _ _ _ _ (Qr V.kit V.n_isinstance (@qR _ _ _ _ _ _ _ (qG 0) (@qR _ _ _ _ _ _ _ (@zC _ _ _ _ _ rfl V.k_Z6 (by decide)) qF))) (@ww _ _ _ _ _ _ _ _ _ (Qr V.kit V.n_isinstance (@qR _ _ _ _ _ _ _ (qG 0) (@qR _ _ _ _ _ _ _ (@zC _ _ _ _ _ rfl V.k_Z7 (by decide)) qF))) (@ww _ _ _ _ _ _ _ _ _ (Qr V.kit V.n_isinstance (@qR _ _ _ _ _ _ _ (qG 0) (@qR _ _ _ _ _ _ _ (@zC _ _ _ _ _ rfl V.k_Z8 (by decide)) qF))) qF)))))))) (by rfl) (by first|exact Or.inl rfl|exact Or.inr rfl) (by rfl) (by first|exact .inl rfl|exact .inr rfl|assumption)) (@qO _ _ _ _ _ _ (@qj _ _ _ _ _ 1 _ _ sc_law_kind.nd (@qx _ _ _ _ (@Zt _ _ _ _ _ _ _ (qG 1) (@qx _ _ _ _ (@QU _ _ _ _ _ (@ww _ _ _ _ _ _ _ _ _ (Qr V.kit V.n_isinstance (@qR _ _ _ _ _ _ _ (qG 0) (@qR _ _ _ _ _ _ _ (@zC _ _ _ _ _ rfl V.k_Z9 (by decide)) qF))) (@ww _ _ _ _ _ _ _ _ _ (Qr V.kit V.n_isinstance (@qR _ _ _ _ _ _ _ (qG 0) (@qR _ _ _ _ _ _ _ (@zC _ _ _ _ _ rfl V.k_Z10 (by decide)) qF))) (@ww _ _ _ _ _ _ _ _ _ (Qr V.kit V.n_isinstance (@qR _ _ _ _ _ _ _ (qG 0) (@qR _ _ _ _ _ _ _ (@zC _ _ _ _ _ rfl V.k_Z11 (by decide)) qF))) qF))))))) (by rfl) (by first|exact Or.inl rfl|exact Or.inr rfl) (by rfl) (by first|exact .inl rfl|exact .inr rfl|assumption)) (@qO _ _ _ _ _ _ (@wG _ _ _ _ _ _ _ _ _ (@yU _ _ _ _ (@zz _ _ _ _ _ _ _ _ (@wf _ _ _ _ _ (@wN _ _ _ _ (Qr V.kit V.n_isinstance (@qR _ _ _ _ _ _ _ (qG 0) (@qR _ _ _ _ _ _ _ (@ZE _ _ _ _ _ rfl V.n_ValueError Boot.«ValueError» (by decide) (by decide)) qF))) (by intro _;rfl))) (@zG _ _ _ _ _ (@Qh _ _ _ _ _ _ _ _ _ _ (zc hu) yA (@qFR _ _ _ _ _ _ _ _ hu (qG 1) w6 (by rfl) (by rfl) (by rfl) (by rfl) (by rfl)) qK (by first|exact qBB _|with_unfolding_all rfl))))) (@qS _ _ _ _ (@qf _ _ _ _ _ QT)) QG) (@qO _ _ _ _ _ _ (@wG _ _ _ _ _ _ _ _ _ (@wN _ _ _ _ (@qr _ _ _ _ _ _ _ (qG 1) qK (by exact fun _ _=>rfl)) (by intro _;rfl)) (@qS _ _ _ _ (@qf _ _ _ _ _ (@ZY _ _ _ _ _ _ _ (@ZY _ _ _ _ _ _ _ (@ZY _ _ _ _ _ _ _ QT (@JV _ _ _ _ _ _ _ (@qKT _ _ _ _ _ _ _ _ (@qCj _ _ _ _ _ _ _ V.xk_Z11 V.xh_Z11 V.xa_Z11_many (qG 0) (by rfl)) qF) V.n_str (by rfl) (by rfl) (by rfl))) QT) (@JV _ _ _ _ _ _ _ (@qKT _ _ _ _ _ _ _ _ (@qCj _ _ _ _ _ _ _ V.xk_Z11 V.xh_Z11 V.xa_Z11_most (qG 0) (by rfl)) qF) V.n_str (by rfl) (by rfl) (by rfl))))) QG) (@qO _ _ _ _ _ _ (@qj _ _ _ _ _ 2 _ _ sc_law_kind.nd (@qx _ _ _ _ (@QU _ _ _ _ _ (@qc _ _ _ _ _ _ _ _ QT (@qc _ _ _ _ _ _ _ _ QT (@qc _ _ _ _ _ _ _ _ QT (@qc _ _ _ _ _ _ _ _ QT (@qc _ _ _ _ _ _ _ _ QT (@qc _ _ _ _ _ _ _ _ QT (@qc _ _ _ _ _ _ _ _ QT (@qc _ _ _ _ _ _ _ _ QT (@qc _ _ _ _ _ _ _ _ QT (@qc _ _ _ _ _ _ _ _ QT qF)))))))))))) (by rfl) (by first|exact Or.inl rfl|exact Or.inr rfl) (by rfl) (by first|exact .inl rfl|exact .inr rfl|assumption)) (@qS _ _ _ _ (@qf _ _ _ _ _ (@ZY _ _ _ _ _ _ _ QT (@qr _ _ _ _ _ _ _ (qG 2) (@qFD _ _ _ _ _ _ _ _ hu (qG 1) w6 (by rfl) (by rfl) (by rfl) (by rfl) (by rfl)) (by exact fun _ _=>rfl)))))))))))
theorem qD8(V:Env K mg a):∀C∈Qo a,W.mroIn K C (.ref a.Z0)=some true:=by
 intro C hC;unfold Qo at hC;rcases AH.mp hC with rfl|hC
 ·exact V.e_Z1
 rcases AH.mp hC with rfl|hC
 ·exact V.e_Z4
 rcases AH.mp hC with rfl|hC
 ·exact V.e_Z11
 cases hC
theorem sc_law_said:FnScope ["_law_room_here","_law_length","_law_thing","_law_found","_law_e"] ["_law_room_here","_law_length","_law_thing"] (qI wz):=scm
theorem zf(V:Env K mg a):DefG P w K mg base 9 "_law_said" a.law_said 3 (QL a):=by
 obtain⟨fd,F⟩:=V.f_law_said;obtain⟨_,_,_,o_Z0⟩:=V.o_Z0;refine Z9 (B:=YN a) F sc_law_said (F.binds (ps:=["_law_room_here","_law_length","_law_thing"]) fun _ _ _ _ _ _ us hl=>match us,hl with|[_,_,_],_=>rfl) V.m_law_said (fun l st h=>wY h) (fun cdv A outer s H E hr hcm=>?_) (fun l s0 hl hn=>wA hl);have hu:=hr.units;have hc:(Qq (CXF P w) P w K mg base ["_law_room_here","_law_length","_law_thing","_law_found","_law_e"] "_law_said" (qI wz) a.law_said cdv A outer s H E).calm=true:=by show A.handled.isNone=true;rw[hcm (by omega)];rfl
 exact (qO (qj 3 sc_law_said.nd QT) (qO (qIm 4 ⟨rfl,rfl,rfl⟩ hc sc_law_said.nd rfl V.k_Z0 o_Z0 V.b_Z0 (qD8 V) (fun pins xe E' hp=>(qS (qj 3 sc_law_said.nd (qW ((Zx V).call (hr.mono (by omega)) hp) (@qR _ _ _ _ _ _ _ (qG 0) (@qR _ _ _ _ _ _ _ (qG 1) (@qR _ _ _ _ _ _ _ (qG 2) qF))))))) (fun ea=>(qS (qj 3 sc_law_said.nd (qW ((qBY V).call (qHx hr) (qq _)) (@qR _ _ _ _ _ _ _ (qG 4) qF)))))) (qS (qf (qG 3)))))
theorem sc_law_filled:FnScope ["_law_box_here","_law_room_here","_law_length","_law_some","_law_at","_law_found","_law_first","_law_along","_law_other","_law_cell_here","_law_inner"] ["_law_box_here","_law_room_here","_law_length"] (qI wZ):=scm
theorem JH(V:Env K mg a):DefG P w K mg base 3 "_law_filled" a.law_filled 3 (Wj a):=by refine qDy V.f_law_filled sc_law_filled V.m_law_filled fun cdv A outer s H E hr hcm hcc=>?_;have hu:=hr.units;exact (qO (qCX (capN:=(["_law_length","_law_room_here"])) (locN:=(["_law_at"])) (caps:=([2,1])) 3 sc_law_filled.nd (by exact wj rfl (by decide +kernel) rfl rfl ⟨⟨rfl,rfl⟩,⟨⟨rfl,rfl⟩,trivial⟩⟩) (Qm rfl V.n_range (@qc _ _ _ _ _ _ _ _ qK qF)) (fun s' H' fp pn=>⟨(qG 2),⟨(wL 2 (show (["_law_length","_law_room_here","_law_at"]:List Str).Nodup by decide +kernel)),(QE 2),(TsOk.cons (Qh (WT hu) zO (ZN (qr (qG 1) (qG 2)) (qG 0)) qK) TsOk.nil),rfl⟩,GsOk.nil⟩)) (qO (wG (Qh (WT hu) zO (qG 3) (qx (QU qF))) (qS (qf (qg qF))) QG) (qO (qj 4 sc_law_filled.nd (qr (qG 3) (qW ((QB V).call (hr.mono (by omega)) qe) (@qR _ _ _ _ _ _ _ (qG 0) (@ww _ _ _ _ _ _ _ _ _ (Q3 (@qR _ _ _ _ _ _ _ (qG 3) qF) V.n_len) qF))))) (qO (YB 5 sc_law_filled.nd (QU qF)) (qO (We (qEA rfl V.n_range (@qc _ _ _ _ _ _ _ _ qK (@yt _ _ _ _ _ _ _ _ (qr (qG 1) (qG 4)) (@qR _ _ _ _ _ _ _ (qG 2) qF)))) (QK 6 sc_law_filled.nd) (qO (qj 7 sc_law_filled.nd (qG 4)) (qO (qj 8 sc_law_filled.nd (ZN (qy (qy (qG 4) qK) (qW ((QB V).call (hr.mono (by omega)) (qq _)) (@qR _ _ _ _ _ _ _ (qG 0) (@qc _ _ _ _ _ _ _ _ qK qF)))) qK)) (qO (wG (Qh (WT hu) zO (ZN (qr (qG 1) (qG 8)) (qG 2)) qK) (qS (qj 7 sc_law_filled.nd (qr (qx (QU (@qR _ _ _ _ _ _ _ (qG 4) (@qR _ _ _ _ _ _ _ (qG 8) qF)))) (qW ((QB V).call (hr.mono (by omega)) (qq _)) (@qR _ _ _ _ _ _ _ (qG 0) (@qc _ _ _ _ _ _ _ _ qK qF)))))) QG) (qS (We (WL (qW ((yP V).call (hr.mono (by omega)) (qq _)) (@qR _ _ _ _ _ _ _ (qG 1) qF))) (QK 9 sc_law_filled.nd) (qO (qj 10 sc_law_filled.nd (zP Zf qCJ Zj qCs (qG 6) (qr (qG 9) (qG 4)) (qy (qG 6) (qG 2)))) (qS (wG (yU (zz (yU (Yx (wN (qG 10)) (Yx (Qh (WT hu) zO (qG 7) (qG 4)) (JZ (Qh (WT hu) zO (qr (qG 9) (qG 4)) (qG 6)))))) (zG (yU (Yx (wN (qG 10)) (Yx (Qh (zc hu) yA (qG 7) (qG 4)) (JZ (Qh (WT hu) zO (ZN (qr (qG 9) (qG 7)) (qG 2)) qK)))))))) (qS (yM (qG 5) (Wi (qG 9) (qg (@qR _ _ _ _ _ _ _ (qG 7) qF))))) QG))))))))) (qS (qf (ZX (@ww _ _ _ _ _ _ _ _ _ (qFx hu V.n_sorted (qG 5)) qF) V.n_tuple))))))))
theorem sc_law_bent:FnScope ["_law_box_here","_law_bars","_law_odd_here","_law_at","_law_to","_law_x","_law_y","_law_z","_law_way","_law_rows","_law_some","_law_news","_law_one"] ["_law_box_here","_law_bars"] (qI WK):=scm
theorem Zo(V:Env K mg a):DefG P w K mg base 4 "_law_bent" a.law_bent 2 (wP a):=by
 refine qAa V.f_law_bent sc_law_bent V.m_law_bent fun cdv A outer s H E hr hcm hcc=>?_;have hu:=hr.units;have hc:=hcc (by omega);exact (qO (qj 2 sc_law_bent.nd (qW ((jJ V).call (hr.mono (by omega)) qe) (@qR _ _ _ _ _ _ _ (qG 0) qF))) (qO (wG (Qh (WT hu) zO (qG 1) (qg qF)) (qS (qf (qr (qx (QU (@qR _ _ _ _ _ _ _ (qG 2) (@WF _ _ _ _ _ _ _ _ (qg (@qR _ _ _ _ _ _ _ (qG 2) qF)) (@qHs _ _ _ _ _ _ _ (qx (QU qF)) (@WF _ _ _ _ _ _ _ _ (qg (@WF _ _ _ _ _ _ _ _ (qg (@qc _ _ _ _ _ _ _ _ qK (@qc _ _ _ _ _ _ _ _ qK (@qc _ _ _ _ _ _ _ _ qK (@qc _ _ _ _ _ _ _ _ qK qF))))) qF)) qF)))))) (qW ((QB V).call (hr.mono (by omega)) qe) (@qR _ _ _ _ _ _ _ (qG 0) (@qc _ _ _ _ _ _ _ _ qK qF)))))) QG) (qO (qj 3 sc_law_bent.nd (qW ((QB V).call (hr.mono (by omega)) qe) (@qR _ _ _ _ _ _ _ (qG 0) (@ww _ _ _ _ _ _ _ _ _ (Q3 (@qR _ _ _ _ _ _ _ (qG 1) qF) V.n_len) qF)))) (qO (qj 4 sc_law_bent.nd (qW ((QB V).call (hr.mono (by omega)) qe) (@qR _ _ _ _ _ _ _ (qG 0) (@ww _ _ _ _ _ _ _ _ _ (Q3 (@qR _ _ _ _ _ _ _ (qG 1) qF) V.n_len) qF)))) (qO (qAz (qr (qG 1) (qG 3)) (qBQ hc (wq (QK 5 sc_law_bent.nd) (wq (QK 6 sc_law_bent.nd) (wq (QK 7 sc_law_bent.nd) (wq (QK 8 sc_law_bent.nd) j0)))))) (qO (YB 9 sc_law_bent.nd (YU V.n_list (qG 1))) (qO (qHW hc (qg (@yt _ _ _ _ _ _ _ _ (qr (qG 9) (qG 4)) (@yt _ _ _ _ _ _ _ _ (qr (qG 9) (qG 3)) qF))) (qG 9) (qG 3) (qG 9) (qG 4)) (qO (YB 10 sc_law_bent.nd (QU (@Wy _ _ _ _ _ _ _ _ _ (Wi (zF (qG 1) wE (wV (qG 3))) (zF (qG 1) (wV (qy (qG 3) qK)) wE)) (@Wy _ _ _ _ _ _ _ _ _ (Wi (zF (qG 1) wE (wV (qy (qG 3) qK))) (zF (qG 1) (wV (qG 3)) wE)) (@ww _ _ _ _ _ _ _ _ _ (ZX (@qR _ _ _ _ _ _ _ (qG 9) qF) V.n_tuple) (@ww _ _ _ _ _ _ _ _ _ (qx (YU V.n_list (qG 1))) (@qR _ _ _ _ _ _ _ (qG 2) (@yt _ _ _ _ _ _ _ _ (qGt (qG 1) wE wE (wV (JK qK))) qF)))))))) (qO (qj 11 sc_law_bent.nd (qx (QU (@WF _ _ _ _ _ _ _ _ (qg (@qR _ _ _ _ _ _ _ (qG 5) (@qR _ _ _ _ _ _ _ (qG 6) (@qR _ _ _ _ _ _ _ (qG 7) (@Wy _ _ _ _ _ _ _ _ _ (ZN (qy (qG 8) qK) qK) qF))))) (@WF _ _ _ _ _ _ _ _ (qg (@Wy _ _ _ _ _ _ _ _ _ (qy (qG 5) qK) (@qR _ _ _ _ _ _ _ (qG 6) (@qR _ _ _ _ _ _ _ (qG 7) (@qR _ _ _ _ _ _ _ (qG 8) qF))))) (@WF _ _ _ _ _ _ _ _ (qg (@qR _ _ _ _ _ _ _ (qG 5) (@Wy _ _ _ _ _ _ _ _ _ (qy (qG 6) qK) (@qR _ _ _ _ _ _ _ (qG 7) (@qR _ _ _ _ _ _ _ (qG 8) qF))))) (@WF _ _ _ _ _ _ _ _ (qg (@qR _ _ _ _ _ _ _ (qG 5) (@qR _ _ _ _ _ _ _ (qG 6) (@Wy _ _ _ _ _ _ _ _ _ (qBc (qG 7) qK) (@qR _ _ _ _ _ _ _ (qG 8) qF))))) (@qR _ _ _ _ _ _ _ (qG 2) (@WF _ _ _ _ _ _ _ _ (qg (@qR _ _ _ _ _ _ _ (qG 5) (@qR _ _ _ _ _ _ _ (qG 6) (@qR _ _ _ _ _ _ _ (qG 7) (@qc _ _ _ _ _ _ _ _ qK qF))))) qF))))))))) (qO (We (WL (qx (Zt (qG 11) (qx (QU (@WF _ _ _ _ _ _ _ _ (qg (@qR _ _ _ _ _ _ _ (qG 5) (@qR _ _ _ _ _ _ _ (qG 6) (@qR _ _ _ _ _ _ _ (qG 7) qF)))) (@qHs _ _ _ _ _ _ _ (qx (QU (@qR _ _ _ _ _ _ _ (qG 5) (@qR _ _ _ _ _ _ _ (qG 6) (@qR _ _ _ _ _ _ _ (qG 7) (@qR _ _ _ _ _ _ _ (qG 8) qF)))))) (@WF _ _ _ _ _ _ _ _ (qg (@qR _ _ _ _ _ _ _ (qG 5) (@qR _ _ _ _ _ _ _ (qG 6) (@qR _ _ _ _ _ _ _ (qG 7) (@ww _ _ _ _ _ _ _ _ _ (qF6 (@qR _ _ _ _ _ _ _ (qG 8) qF) V.n_bool) qF))))) (@WF _ _ _ _ _ _ _ _ (qg (@qR _ _ _ _ _ _ _ (qG 5) (@qR _ _ _ _ _ _ _ (qG 6) (@qR _ _ _ _ _ _ _ (qG 7) (@qR _ _ _ _ _ _ _ (qG 8) (@qc _ _ _ _ _ _ _ _ qK qF)))))) qF))))))))) (QK 12 sc_law_bent.nd) (qS (yM (qG 10) (Wi (Wi (zF (qG 1) wE (wV (qG 3))) (qg (@qR _ _ _ _ _ _ _ (qG 12) qF))) (zF (qG 1) (wV (qy (qG 3) qK)) wE))))) (qS (qf (qr (qG 10) (qW ((QB V).call (hr.mono (by omega)) qe) (@qR _ _ _ _ _ _ _ (qG 0) (@qc _ _ _ _ _ _ _ _ qK qF))))))))))))))))
theorem sc_law:FnScope ["_law_script","_law_k","_law_box_here","_law_length","_law_room_here","_law_bars","_law_odd_here","_law_thing","_law_found","_law_bads","_law_bad","_law_great"] ["_law_script"] (qI ZA):=scm
theorem qKu{fd:FuncData}(V:Env K mg a)(F:Fun K "law" "law" ZA a.law fd):FnOk P w K mg base (CXF P w) 10 a.law fd ["_law_script"] (spG K 1 (Js a)):=by
 refine okV F sc_law fun cdv A outer s H E hr hcm=>⟨qH3 a,?_,fun l s0 hl hn=>wA hl⟩;have hu:=hr.units;have hc:(Qq (CXF P w) P w K mg base ["_law_script","_law_k","_law_box_here","_law_length","_law_room_here","_law_bars","_law_odd_here","_law_thing","_law_found","_law_bads","_law_bad","_law_great"] "law" (qI ZA) a.law cdv A outer s H E).calm=true:=by show A.handled.isNone=true;rw[hcm (by omega)];rfl
 exact (qO (We (Qm rfl V.n_range (@ww _ _ _ _ _ _ _ _ _ (qGZ (@qc _ _ _ _ _ _ _ _ qK (@ww _ _ _ _ _ _ _ _ _ (JO (@ww _ _ _ _ _ _ _ _ _ (Q3 (@qR _ _ _ _ _ _ _ (qG 0) qF) V.n_len) (@qc _ _ _ _ _ _ _ _ qK qF)) hc V.n_min) qF)) hc V.n_max) qF)) (QK 1 sc_law.nd) (qO (qj 2 sc_law.nd (qW ((qDG V).call (hr.mono (by omega)) (qq _)) (@qR _ _ _ _ _ _ _ (qG 0) (@qR _ _ _ _ _ _ _ (qG 1) qF)))) (qO (qj 3 sc_law.nd (qy qK (qW ((QB V).call (hr.mono (by omega)) (qq _)) (@qR _ _ _ _ _ _ _ (qG 2) (@qc _ _ _ _ _ _ _ _ qK qF))))) (qO (qj 4 sc_law.nd (qW ((qBr V).call (hr.mono (by omega)) (qq _)) (@qR _ _ _ _ _ _ _ (qG 2) (@qc _ _ _ _ _ _ _ _ qK qF)))) (qO (qj 5 sc_law.nd (qW ((JH V).call (hr.mono (by omega)) (qq _)) (@qR _ _ _ _ _ _ _ (qG 2) (@qR _ _ _ _ _ _ _ (qG 4) (@qR _ _ _ _ _ _ _ (qG 3) qF))))) (qO (qj 6 sc_law.nd (qW ((jJ V).call (hr.mono (by omega)) (qq _)) (@qR _ _ _ _ _ _ _ (qG 2) qF))) (qO (We (WL (qx (QU (@qR _ _ _ _ _ _ _ (qG 5) (@ww _ _ _ _ _ _ _ _ _ (qW ((Zo V).call (hr.mono (by omega)) (qq _)) (@qR _ _ _ _ _ _ _ (qG 2) (@qR _ _ _ _ _ _ _ (qG 5) qF))) (@ww _ _ _ _ _ _ _ _ _ (qW ((Zo V).call (hr.mono (by omega)) (qq _)) (@qR _ _ _ _ _ _ _ (qG 2) (@qR _ _ _ _ _ _ _ (qG 5) qF))) (@ww _ _ _ _ _ _ _ _ _ (qW ((Zo V).call (hr.mono (by omega)) (qq _)) (@qR _ _ _ _ _ _ _ (qG 2) (@qR _ _ _ _ _ _ _ (qG 5) qF))) (@qR _ _ _ _ _ _ _ (qG 6) (@WF _ _ _ _ _ _ _ _ (qg qF) qF))))))))) (QK 7 sc_law.nd) (qO (qj 8 sc_law.nd (qW ((zf V).call (hr.mono (by omega)) (qq _)) (@qR _ _ _ _ _ _ _ (qG 4) (@qR _ _ _ _ _ _ _ (qG 3) (@qR _ _ _ _ _ _ _ (qG 7) qF))))) (qS (wG (yU (zz (wf (wN (Qr V.kit V.n_isinstance (@qR _ _ _ _ _ _ _ (qG 8) (@qR _ _ _ _ _ _ _ (ZE rfl V.n_bool Boot.«bool») qF))))) (zG (Qh (zc hu) yA (qG 8) (qW ((ZD V).call (hr.mono (by omega)) (qq _)) (@qR _ _ _ _ _ _ _ (qG 4) (@qR _ _ _ _ _ _ _ (qG 3) (@qR _ _ _ _ _ _ _ (qG 7) qF)))))))) (qS (qf w6)) QG)))) (qO (qj 9 sc_law.nd (qx (QU (@yt _ _ _ _ _ _ _ _ (zF (qG 4) wE (wV qK)) (@ww _ _ _ _ _ _ _ _ _ (qx (YU V.n_list (qG 4))) (@Wy _ _ _ _ _ _ _ _ _ (Wi (qG 4) (qg (@qc _ _ _ _ _ _ _ _ qK qF))) (@Wy _ _ _ _ _ _ _ _ _ (Wi (qg (@qc _ _ _ _ _ _ _ _ qK qF)) (zF (qG 4) (wV qK) wE)) (@Wy _ _ _ _ _ _ _ _ _ (Wi (zF (qG 4) wE (wV qK)) (qg (@qc _ _ _ _ _ _ _ _ w6 qF))) (@Wy _ _ _ _ _ _ _ _ _ (Wi (zF (qG 4) wE (wV qK)) (qg (@Wy _ _ _ _ _ _ _ _ _ (qy (qBu qK qK) qK) (@qc _ _ _ _ _ _ _ _ qK qF)))) qF))))))))) (qO (We (WL (qx (Zt (qG 9) (qx (QU (@qc _ _ _ _ _ _ _ _ qB2 (@WF _ _ _ _ _ _ _ _ (qg (@qJk _ _ _ _ _ _ _ _ (JK qK) (@qc _ _ _ _ _ _ _ _ qK (@qc _ _ _ _ _ _ _ _ qK qF)))) (@WF _ _ _ _ _ _ _ _ (qg (@qc _ _ _ _ _ _ _ _ QT (@qc _ _ _ _ _ _ _ _ qK (@qc _ _ _ _ _ _ _ _ qK qF)))) (@qc _ _ _ _ _ _ _ _ qK qF))))))))) (QK 10 sc_law.nd) (qS (wG (Qh (zc hu) yA (qW ((zf V).call (hr.mono (by omega)) (qq _)) (@qR _ _ _ _ _ _ _ (qG 10) (@qc _ _ _ _ _ _ _ _ qK (@qR _ _ _ _ _ _ _ (qG 6) qF)))) QT) (qS (qf w6)) QG))) (qO (wG (Qh (zc hu) yA (qW ((zf V).call (hr.mono (by omega)) (qq _)) (@qR _ _ _ _ _ _ _ (qG 4) (@yt _ _ _ _ _ _ _ _ (qr (qx (QU (@qc _ _ _ _ _ _ _ _ qK (@qc _ _ _ _ _ _ _ _ qK (@qc _ _ _ _ _ _ _ _ w6 (@qc _ _ _ _ _ _ _ _ qB2 qF)))))) (qW ((QB V).call (hr.mono (by omega)) (qq _)) (@qR _ _ _ _ _ _ _ (qG 2) (@qc _ _ _ _ _ _ _ _ qK qF)))) (@qR _ _ _ _ _ _ _ (qG 6) qF)))) QT) (qS (qf w6)) QG) (qO (qj 11 sc_law.nd (qg (@qc _ _ _ _ _ _ _ _ qK (@qc _ _ _ _ _ _ _ _ qK (@Wy _ _ _ _ _ _ _ _ _ (qy qK (qW ((QB V).call (hr.mono (by omega)) (qq _)) (@qR _ _ _ _ _ _ _ (qG 2) (@Wy _ _ _ _ _ _ _ _ _ (qBu qK qK) qF)))) qF))))) (qS (wG (Qh (zc hu) yA (qW ((zf V).call (hr.mono (by omega)) (qq _)) (@qR _ _ _ _ _ _ _ (qG 11) (@qR _ _ _ _ _ _ _ (qG 3) (@qR _ _ _ _ _ _ _ (qG 6) qF)))) (ZY (ZY QT (JV (@Wy _ _ _ _ _ _ _ _ _ (WC qK (qr (qG 11) qK)) qF) V.n_str)) QT)) (qS (qf w6)) QG))))))))))))) (qS (qf w6)))
end
end K81
end
section
namespace EV
open PySem L2 EX
theorem Wb{G:qC->Prop}{k:PV->qC->Rs (List PV)}{st:qC}(hG:G st){F:PV->List PV}:∀{l:List PV},(∀p∈l,k p st= .ok (F p) st)->QO G k l st= .ok (l.flatMap F) st|[],_=>by unfold QO;rw[AE hG];rfl|p::l,h=>by unfold QO;rw[AE hG,h p AK];show (QO G k l st).bind _=_;rw[Wb hG fun q hq=>h q (AI _ hq)];rfl
theorem yh{F:PV->PV}:∀l:List PV,l.flatMap (fun p=>[F p])=l.map F|[]=>rfl|p::l=>by rw[List.flatMap_cons,yh l];rfl
theorem ZF{c:PV->Bool}:∀l:List PV,l.flatMap (fun p=>if c p=true then [p] else [])=l.filter c|[]=>rfl|p::l=>by rw[List.flatMap_cons,ZF l,B1];cases c p <;> rfl
theorem QZ{caps:List Nat}{n:Nat}{fi:FI}{g:FG}{f:FE}{r:qk}{st:qC}{w:ItP}{F:PV->PV}(hfi:fi r st= .ok w st)(hG:w.G st)(hl:w.l.length≤sizeLine)
  (h:∀p∈w.l,∃r',g p (Wd caps n r)=some r'∧f r' st= .ok (F p) st):QD caps n fi g [] [] f r st= .ok (w.l.map F) st:=by
 unfold QD;rw[hfi];show (match QO w.G (Q0 ⟨fi,g,[]⟩ (wo [] f) (Wd caps n r)) w.l st with | .ok l s'=>if l.length≤sizeLine then Rs.ok l s' else Rs.no|_=>Rs.no)=_;rw[Wb (F:=fun p=>[F p]) hG fun p hp=>by
  obtain⟨r',h1,h2⟩:=h p hp;unfold Q0;show (match g p (Wd caps n r) with|none=>_|some r'=>_)=_;rw[h1];show (wo [] f) r' st=_;unfold wo;rw[h2];rfl]
 rw[yh];dsimp only;rw[AE (by rw[AN];exact hl)]
theorem JF{caps:List Nat}{n:Nat}{fi:FI}{g:FG}{t:FT}{f:FE}{r:qk}{st:qC}{w:ItP}{c:PV->Bool}(hfi:fi r st= .ok w st)(hG:w.G st)(hl:w.l.length≤sizeLine)
  (h:∀p∈w.l,∃r',g p (Wd caps n r)=some r'∧t r' st= .ok (c p) st∧f r' st= .ok p st):QD caps n fi g [t] [] f r st= .ok (w.l.filter c) st:=by
 unfold QD;rw[hfi];show (match QO w.G (Q0 ⟨fi,g,[t]⟩ (wo [] f) (Wd caps n r)) w.l st with | .ok l s'=>if l.length≤sizeLine then Rs.ok l s' else Rs.no|_=>Rs.no)=_;rw[Wb (F:=fun p=>if c p=true then [p] else []) hG fun p hp=>by
  obtain⟨r',h1,h2,h3⟩:=h p hp;unfold Q0;show (match g p (Wd caps n r) with|none=>_|some r'=>_)=_;rw[h1];show (zJ [t] r' st).bind _=_;unfold zJ zJ;rw[h2];cases hc:c p;rfl;show (wo [] f) r' st=_;unfold wo;rw[h3];rfl]
 rw[ZF];dsimp only;rw[AE (Ag (CA _ _) hl)]
theorem qDx{G:qC->Prop}{g:FG}{F:FS}{r:qk}{st:qC}(h:G st):Qj G g F [] r st= .nx r st:=by unfold Qj;rw[AE h]
theorem qBz{G:qC->Prop}{g:FG}{F:FS}{r r1 r2:qk}{st s2:qC}{p:PV}{ps:List PV}(h:G st)(h1:g p r=some r1)(h2:F r1 st= .nx r2 s2):Qj G g F (p::ps) r st=Qj G g F ps r2 s2:=by rw[Qj,AE h,h1];dsimp only;rw[h2]
section
variable{F G:FS}{f:FE}{fl:FL}{fi:FI}{g:FG}{t:FT}{r r':qk}{st st':qC}{p:PV}{l:List PV}{w:ItP}{i:Nat}
theorem qJW(h:F r st= .nx r' st'):qV F G r st=G r' st':=by unfold qV;rw[h]
theorem qI8(h:F r st= .rt p st'):qV F G r st= .rt p st':=by unfold qV;rw[h]
theorem qIa{x:Exc}(h:F r st= .ex x st'):qV F G r st= .ex x st':=by unfold qV;rw[h]
theorem qJx{x:Exc}(h:f r st= .ex x st'):Wu f r st= .ex x st':=by unfold Wu;rw[h];rfl
theorem qG9{x:Exc}{n N:Nat}{B:FS}(hl:l.length=n)(h:B (qv N l) st= .ex x st'):qo n N B l st= .ex x st':=by unfold qo;rw[AE hl,h];rfl
theorem qKB(h:f r st= .ok p st'):Wu f r st= .nx r st':=by unfold Wu;rw[h];rfl
theorem qJP(h:f r st= .ok p st'):qb i f r st= .nx (r.set i (some p)) st':=by unfold qb;rw[h];rfl
theorem qHy(h:fl r st= .ok l st'):zj i fl r st= .nx (r.set i (some (.ref st'.length))) (st'++[.l l]):=by unfold zj;rw[h];rfl
theorem qBP(h:f r st= .ok p st'):qh f r st= .rt p st':=by unfold qh;rw[h];rfl
theorem qHh(h:fl r st= .ok l st'):yW fl r st= .rt (.ref st'.length) (st'++[.l l]):=by unfold yW;rw[h];rfl
theorem qJt(h:fi r st= .ok w st'):w4 fi g F r st=Qj w.G g F w.l r st':=by unfold w4;rw[h];rfl
theorem qLp(h:t r st= .ok true st'):Qz t F G r st=F r st':=by unfold Qz;rw[h];rfl
theorem qLl(h:t r st= .ok false st'):Qz t F G r st=G r st':=by unfold Qz;rw[h];rfl
theorem qLC(h:fl r st= .ok l st'):vFz fl r st= .ok (.lst l) st':=by unfold vFz;rw[h];rfl
theorem ZT{k:List PV->qC->Rs PV}{fa:FA}(h:fa r st= .ok l st'):qH k fa r st=k l st':=by unfold qH;rw[h];rfl
theorem qHS{fa:FA}{st2:qC}(h:f r st= .ok p st')(h2:fa r st'= .ok l st2):qA f fa r st= .ok (p::l) st2:=by unfold qA;rw[h];show (fa r st').bind _=_;rw[h2];rfl
theorem JG{k:PV->PV->qC->Rs PV}{fb:FE}{q:PV}{st2:qC}(h:f r st= .ok p st')(h2:fb r st'= .ok q st2):qJ k f fb r st=k p q st2:=by unfold qJ;rw[h];show (fb r st').bind _=_;rw[h2];rfl
theorem qDR{b:Bool}(h:f r st= .ok (.bl b) st'):ql f r st= .ok b st':=by unfold ql;rw[h];rfl
theorem qJU{b:Bool}(h:t r st= .ok b st'):Q1 t r st= .ok (!b) st':=by unfold Q1;rw[h];rfl
theorem qKU{b:Bool}(h:f r st= .ok (.bl b) st'):vTB f r st= .ok b st':=by unfold vTB;rw[h];rfl
theorem j8{n N:Nat}{B:FS}(hl:l.length=n)(h:B (qv N l) st= .rt p st'):qo n N B l st= .ok p st':=by unfold qo;rw[AE hl,h];rfl
end
section
variable{F G:FS}{f fb fo fi2:FE}{fl:FL}{fi:FI}{fa:FA}{g:FG}{t u:FT}{r r1 r':qk}{st s1 s2 s3:qC}{p q z:PV}{l m:List PV}{w:ItP}{i:Nat}{b c:Bool}{x:Exc}{o:RS}{R:Rs PV}
theorem qQ{k:PV->PV->qC->Rs PV}(h:f r st= .ok p s1)(h2:fb r s1= .ok q s2)(h3:k p q s2=R):qJ k f fb r st=R:=by rw[JG h h2];exact h3
theorem qN{k:List PV->qC->Rs PV}(h:fa r st= .ok l s1)(h2:k l s1=R):qH k fa r st=R:=by rw[ZT h];exact h2
theorem qZ:qD r st= .ok [] st:=rfl
theorem qM(h:f r st= .ok p s1)(h2:fa r s1= .ok l s2):qA f fa r st= .ok (p::l) s2:=qHS h h2
theorem ZB(h:fa r st= .ok l s1)(hl:l.length≤sizeLine):QC fa r st= .ok (.tup l) s1:=by unfold QC;rw[h];exact AE hl
theorem W6(h:fa r st= .ok l s1)(hl:l.length≤sizeLine):wR fa r st= .ok l s1:=by unfold wR;rw[h];exact AE hl
theorem wp(h:fl r st= .ok l s1):vFz fl r st= .ok (.lst l) s1:=qLC h
theorem YQ(h:f r st= .ok p s1)(h2:fb r s1= .ok q s2)(e1:asL s2 p=some l)(e2:asL s2 q=some m)(hl:l.length+m.length≤sizeLine):Z2 f fb r st= .ok (l++m) s2:=by unfold Z2;rw[h];show (fb r s1).bind _=_;rw[h2];show (match asL s2 p with|some l=>_|none=>_)=_;rw[e1];dsimp only;rw[e2];dsimp only;rw[AE hl]
theorem Qd(h:f r st= .ok (.bl b) s1):ql f r st= .ok b s1:=qDR h
theorem wg(h:f r st= .ok (.bl b) s1):vTB f r st= .ok b s1:=qKU h
theorem w_not(h:t r st= .ok b s1):Q1 t r st= .ok (!b) s1:=qJU h
theorem zE(h:t r st= .ok true s1):zM t u r st= .ok true s1:=by unfold zM;rw[h];rfl
theorem Qi(h:t r st= .ok false s1)(h2:u r s1= .ok b s2):zM t u r st= .ok b s2:=by unfold zM;rw[h];exact h2
theorem yD(h:t r st= .ok false s1):wK t u r st= .ok false s1:=by unfold wK;rw[h];rfl
theorem zd(h:t r st= .ok true s1)(h2:u r s1= .ok b s2):wK t u r st= .ok b s2:=by unfold wK;rw[h];exact h2
theorem qX(h:F r st= .nx r' s1)(h2:G r' s1=o):qV F G r st=o:=by rw[qJW h];exact h2
theorem qu(h:F r st= .rt p s1):qV F G r st= .rt p s1:=qI8 h
theorem Yt(h:F r st= .ex x s1):qV F G r st= .ex x s1:=qIa h
theorem q9(h:f r st= .ok p s1):qb i f r st= .nx (r.set i (some p)) s1:=qJP h
theorem qGE(h:fl r st= .ok l s1):zj i fl r st= .nx (r.set i (some (.ref s1.length))) (s1++[.l l]):=qHy h
theorem yX(h:f r st= .ok p s1):Wu f r st= .nx r s1:=qKB h
theorem yV(h:f r st= .ex x s1):Wu f r st= .ex x s1:=qJx h
theorem qt(h:f r st= .ok p s1):qh f r st= .rt p s1:=qBP h
theorem qFh(h:fl r st= .ok l s1):yW fl r st= .rt (.ref s1.length) (s1++[.l l]):=qHh h
theorem QR(h:t r st= .ok true s1)(h2:F r s1=o):Qz t F G r st=o:=by rw[qLp h];exact h2
theorem Qn(h:t r st= .ok false s1)(h2:G r s1=o):Qz t F G r st=o:=by rw[qLl h];exact h2
theorem zR(h:fi r st= .ok w s1)(h2:Qj w.G g F w.l r s1=o):w4 fi g F r st=o:=by rw[qJt h];exact h2
theorem Qa{Gd:qC->Prop}(h:Gd st):Qj Gd g F [] r st= .nx r st:=qDx h
theorem WD{Gd:qC->Prop}{ps:List PV}(h:Gd st)(h1:g p r=some r1)(h2:F r1 st= .nx r' s2)(h3:Qj Gd g F ps r' s2=o):Qj Gd g F (p::ps) r st=o:=by rw[qBz h h1 h2];exact h3
theorem qGD{r1:qk}(h:f r st= .ok p s1)(h2:g p r=some r1):jM f g r st= .nx r1 s1:=by unfold jM;rw[h];show (match g p r with|some r'=>RS.nx r' s1|none=>RS.no)=_;rw[h2]
theorem qKh(h:f r st= .ok p s1)(h2:fo r s1= .ok q s2)(h3:fi2 r s2= .ok z s3){s4:qC}(h4:WY s3 q z p=some s4):qCO fo fi2 f r st= .nx r s4:=by unfold qCO;rw[h];show (fo r s1).bindS _=_;rw[h2];show (fi2 r s2).bindS _=_;rw[h3];show (match WY s3 q z p with|some s4=>RS.nx r s4|none=>RS.no)=_;rw[h4]
theorem qi{n N:Nat}{B:FS}(hl:l.length=n)(h:B (qv N l) st= .rt p s1):qo n N B l st= .ok p s1:=j8 hl h
theorem je{n N:Nat}{B:FS}(hl:l.length=n)(h:B (qv N l) st= .nx r1 s1):qo n N B l st= .ok .non s1:=by unfold qo;rw[AE hl,h];rfl
theorem zQ{n N:Nat}{B:FS}(hl:l.length=n)(h:B (qv N l) st= .ex x s1):qo n N B l st= .ex x s1:=qG9 hl h
theorem sz{n:Nat}(h:Nat.ble n 1000=true):n≤sizeLine:=Ag (BM h) (by decide)
theorem JS{i j:Int}(h:-(2 ^ 64)<i∧i<2 ^ 64):WA (.int i) (.int j) st= .ok (.int (i*j)) st:=by unfold WA gI;dsimp only;rw[AE (.inl h)]
theorem zg{i j:Int}(h:-(2 ^ 64)<j∧j<2 ^ 64):WA (.int i) (.int j) st= .ok (.int (i*j)) st:=by unfold WA gI;dsimp only;rw[AE (.inr h)]
theorem yd{i j:Int}(h:0<j):Ww (.int i) (.int j) st= .ok (.int (i%j)) st:=by unfold Ww gI;dsimp only;rw[AE h]
theorem qFc{i j:Int}(h:0<j∧j<1073741824):qDU (.int i) (.int j) st= .ok (.int (i/j)) st:=by unfold qDU gI;dsimp only;rw[AE h]
theorem qEI{i j:Int}(h:0<j∧j<1073741824):Z4 [.int i,.int j] st= .ok (.tup [.int (i/j),.int (i%j)]) st:=by unfold Z4;dsimp only;rw[AE h]
theorem Q6{i j:Int}:QA (.int i) (.int j) st= .ok (.int (i+j)) st:=rfl
theorem qBT{i j:Int}:JU (.int i) (.int j) st= .ok (.int (i-j)) st:=rfl
theorem w_lt{i j:Int}:gLt (.int i) (.int j) st= .ok (.bl (decide (i<j))) st:=rfl
theorem qHV{i j:Int}:gLe (.int i) (.int j) st= .ok (.bl (decide (i≤j))) st:=rfl
theorem qKD{i j:Int}:gGt (.int i) (.int j) st= .ok (.bl (decide (i>j))) st:=rfl
theorem qEU{i j:Int}(h:i>j):gGt (.int i) (.int j) st= .ok (.bl true) st:=by rw[qKD,AV h]
theorem qJT{i j:Int}(h:¬i>j):gGt (.int i) (.int j) st= .ok (.bl false) st:=by rw[qKD,AY h]
theorem qFP{i j:Int}(h:i≤j):gLe (.int i) (.int j) st= .ok (.bl true) st:=by rw[qHV,AV h]
theorem qFs{i j:Int}(h:¬i≤j):gLe (.int i) (.int j) st= .ok (.bl false) st:=by rw[qHV,AY h]
theorem qDO{i:Int}(h:ZM st p=some l)(h2:atI l i=some z):gIx p (.int i) st= .ok z st:=by unfold gIx;simp only[h,h2]
theorem Wo(h:ZM st p=some l){n:Int}(hn:(l.length:Int)=n):wu [p] st= .ok (.int n) st:=by unfold wu;simp only[h];rw[hn]
theorem qAX{n:Nat}(h:st[n]? = some (.l l)):ZM st (.ref n)=some l:=by unfold ZM asL;simp only[h]
theorem qIg{n:Nat}(h:st[n]? = some (.l l)):asL st (.ref n)=some l:=by unfold asL;simp only[h]
theorem zV{n:Nat}(h:r[n]? = some (some p)):qB n r st= .ok p st:=by unfold qB;rw[h]
theorem Jw{n:Nat}(h:fo r st= .ok (.ref n) s1)(hk:lk s1 (.ref n)=true)(h2:f r s1= .ok p s2)(h3:s2[n]? = some (.l l))(hl:l.length<sizeLine):Wa fo f r st= .nx r (s2.set n (.l (l++[p]))):=by unfold Wa;rw[h];show (if lk s1 (.ref n)=true then (f r s1).bindS _ else RS.no)=_;rw[AE hk,h2];show (match s2[n]? with|some (.l xs)=>if xs.length<sizeLine then RS.nx r (s2.set n (.l (xs++[p]))) else .no|_=>.no)=_;rw[h3];exact AE hl
theorem qHi{n j:Nat}{k:Int}{v:PV}(h:st[n]? = some (.l l))(hj:ixN l.length k=some j):WY st (.ref n) (.int k) v=some (st.set n (.l (l.set j v))):=by unfold WY;simp only[h,hj]
theorem Zb{n:Nat}{k:Int}(h0:0≤k)(h1:k<n):ixN n k=some k.toNat:=by unfold ixN;rw[AE h0,AE (by omega)]
theorem qJN(h:g p r=some r')(hf:f r' st= .ok q s1):Q0 ⟨fi,g,[]⟩ (wo [] f) r p st= .ok [q] s1:=by unfold Q0;show (match g p r with|none=>_|some r'=>_)=_;rw[h];show (wo [] f) r' st=_;unfold wo;rw[hf];rfl
theorem qIr{caps:List Nat}{n:Nat}{ts:List FT}{gs:List GenF}(hfi:fi r st= .ok w s1)(h:QO w.G (Q0 ⟨fi,g,ts⟩ (wo gs f) (Wd caps n r)) w.l s1= .ok l s2)(hl:l.length≤sizeLine):QD caps n fi g ts gs f r st= .ok l s2:=by unfold QD;rw[hfi];show (match QO w.G (Q0 ⟨fi,g,ts⟩ (wo gs f) (Wd caps n r)) w.l s1 with | .ok l s'=>if l.length≤sizeLine then Rs.ok l s' else Rs.no|_=>Rs.no)=_;rw[h];exact AE hl
theorem YA(h:ZM st p=some l):WM [p] st= .ok (.tup l) st:=by unfold WM;simp only[h]
theorem WN(h:f r st= .ok (.lst l) s1):QM f r st= .ok ⟨l,fun _=>True⟩ s1:=by unfold QM;rw[h];rfl
theorem WO(h:f r st= .ok (.tup l) s1):QM f r st= .ok ⟨l,fun _=>True⟩ s1:=by unfold QM;rw[h];rfl
end
abbrev CE:=qk->Option PV
section
variable{F G:FS}{f fb fc fo fi2:FE}{fl:FL}{fi:FI}{fa:FL}{g:FG}{t u:FT}{c d e:CE}{co cp:CO}{f1 f2:FO}{r r':qk}{st s1 s2 s3:qC}{p q z:PV}{l:List PV}{n:Nat}{o:RS}
theorem qBD(h:f r st= .ok (.ref n) s1)(h2:s1[n]? = some (.l l)):QM f r st= .ok ⟨l,fun s=>s[n]? = some (.l l)⟩ s1:=by unfold QM;rw[h];show qHr (.ref n) s1=_;unfold qHr;dsimp only;rw[qIg h2]
theorem qKW(h:st[n]? = some (.l l)):lk st (.ref n)=true:=by unfold lk;dsimp only;rw[h]
theorem qIl{kvs:List (List L2.Key×PV)}{k:List L2.Key}(h:f r st= .ok p s1)(h1:fb r s1= .ok (.ref n) s2)(h2:fc r s2= .ok q s3)(hk:jj q=some k)(hd:s3[n]? = some (.d kvs))(hl:kvs.length<sizeLine):YJ fb fc f r st= .nx r (s3.set n (.d (qAs kvs k p))):=by unfold YJ;rw[h];show (fb r s1).bindS _=_;rw[h1];show (fc r s2).bindS _=_;rw[h2];show (match jj q,s3[n]? with|some k,some (.d kvs)=>_|_,_=>_)=_;rw[hk,hd];dsimp only;rw[AE hl]
end
end EV
end
section
namespace EV
open PySem ET
section
variable{F G:FS}{f fb fo fi2:FE}{fl:FL}{fi:FI}{fa:FA}{g:FG}{t u:FT}{r r1 r':qk}{st s1 s2 s3 s4:qC}{p q z:PV}{l m:List PV}{w:ItP}{n:Nat}
theorem qJg(h:f r st= .ok p s1){R:Rs PV}(h2:j3 p s1=R):j4 f r st=R:=by unfold j4;rw[h];exact h2
theorem qJE(h:f r st= .ok p s1){R:Rs PV}(h2:Ja p s1=R):Yg f r st=R:=by unfold Yg;rw[h];exact h2
theorem qIF{a b:Option Int}{f1 f2:FO}(h:f r st= .ok p s1)(h1:f1 r s1= .ok a s2)(h2:f2 r s2= .ok b s3)(h3:asL s3 p=some l):j5 f f1 f2 r st= .ok (.lst (wk l a b)) s3:=by unfold j5;rw[h];show (f1 r s1).bind _=_;rw[h1];show (f2 r s2).bind _=_;rw[h2];show (match asL s3 p with|some l=>_|none=>_)=_;rw[h3]
theorem qEi{i k:Nat}{cs:List Addr}{Fb Fh:FS}(h:Fb r st= .nx r1 s1):Yy i k cs Fb Fh r st= .nx r1 s1:=by unfold Yy;rw[h]
theorem qD5{i k:Nat}{cs:List Addr}{Fb Fh:FS}{x:Exc}(h:Fb r st= .ex x s1)(hx:x.cls∈cs)(h2:Fh ((List.replicate k none).set i (some (.exc x.cls x.fs))) s1= .nx r1 s2):Yy i k cs Fb Fh r st= .nx (r1.set i none) s2:=by unfold Yy;rw[h];dsimp only;rw[AE hx,h2]
theorem jV{Gd:qC->Prop}{ps:List PV}(h:Gd st)(h1:g p r=some r1)(h2:F r1 st= .rt z s2):Qj Gd g F (p::ps) r st= .rt z s2:=by rw[Qj,AE h,h1];dsimp only;rw[h2]
theorem wt{k:Int}(h:f r st= .ok (.int k) s1):QN f r st= .ok (some k) s1:=by unfold QN;rw[h];rfl
end
end EV
end
noncomputable section
namespace K81
open PySem EV
def wM:PV->Bool
 | .non=>true | .bl _=>true | .int _=>true | .str _=>true | .tup _=>true | .lst _=>true | .dct=>true|_=>false
def isInt:PV->Bool| .int _=>true|_=>false
theorem Yp{a:Ad}{v:PV}{st:qC}(h:wM v=true):WR a [v] st= .ok (.bl (isInt v)) st:=by cases v <;> first|rfl|cases h
def WB(lo hi:Int):PV->Bool| .int i=>decide (lo≤i)&&decide (i≤hi)|_=>false
theorem qAn{a:Ad}{v:PV}{st:qC}{lo hi:Int}(h:wM v=true):wH a [v,.int lo,.int hi] st= .ok (.bl (WB lo hi v)) st:=by
 refine j8 rfl ?_;unfold W4;refine (qBP (p:=.bl (WB lo hi v)) (st':=st) ?_);unfold yo;rw[ZT (l:=[v]) (st':=st) rfl,Yp h];cases v with|int i=>show (match (PV.bl (decide (lo≤i))) with | .bl true=>Rs.ok (PV.bl (decide (i≤hi))) st | .bl false=>Rs.ok (.bl false) st|_=>.no)=_;unfold WB;dsimp only;cases decide (lo≤i) <;> rfl|_=>rfl
theorem qAO{a:Ad}{v:PV}{st:qC}(h:wM v=true):ZG a [v] st= .ok (.bl (WB 2 5 v)) st:=by refine j8 rfl ?_;unfold ZK;refine (qBP (p:=.bl (WB 2 5 v)) (st':=st) ?_);rw[ZT (l:=[v,.int 2,.int 5]) (st':=st) rfl];exact qAn h
theorem Ze{a:Ad}{v:PV}{st:qC}(h:wM v=true):wl a [v] st=if WB 2 5 v=true then .ok .non st else .ex ⟨a.Z1,[]⟩ st:=by unfold wl qo;rw[AE (show [v].length=1 from rfl)];unfold zD Qz Q1 ql;rw[ZT (l:=[v]) (st':=st) rfl,qAO h];cases hw:WB 2 5 v <;> rfl
theorem Jv{f:PV->Bool}:∀l:List PV,wc pbl (l.map fun p=>.bl (f p))=some (l.map f)|[]=>rfl|p::l=>by simp only[Aa,wc,pbl,Jv l]
theorem Ws{i j:Int}{st:qC}:gEq (.int i) (.int j) st= .ok (.bl (i==j)) st:=rfl
theorem small{n:Nat}(h:n≤100000):n≤sizeLine:=Ag h (by decide)
def Qe(L:Int):List Int:=(List.range L.toNat).map fun (i:Nat)=>(i:Int)
theorem qFd{L:Int}:yb 0 L=(Qe L).map PV.int:=by unfold yb Qe;rw[BF,Int.sub_zero];refine BW fun i _=>?_;show PV.int (0+(i:Int))=PV.int i;rw[Int.zero_add]
theorem upto_mem{L i:Int}:i∈Qe L ↔ 0≤i∧i<L:=by
 unfold Qe;rw[Ai];constructor;rintro⟨j,hj,rfl⟩;rw[BA]at hj;omega;rintro⟨h1,h2⟩;exact⟨i.toNat,by rw[BA];omega,by omega⟩
theorem Q8{L:Int}:(Qe L).length=L.toNat:=by simp[Qe]
theorem qGg{l:List Int}{L i:Int}(hl:l.length=L.toNat)(h0:0≤i)(h1:i<L):L2.atI (l.map PV.int) i=some (.int (l.getD i.toNat 0)):=by
 unfold L2.atI L2.ixN;rw[AN,AE h0,AE (by omega)];show (l.map PV.int)[i.toNat]? = _;have hi:i.toNat<l.length:=by omega
 rw[A3,AM hi,Ar,AM hi];rfl
theorem qJ0{l:List Int}{L i:Int}{st:qC}(hl:l.length=L.toNat)(h0:0≤i)(h1:i<L):gIx (.lst (l.map PV.int)) (.int i) st= .ok (.int (l.getD i.toNat 0)) st:=by unfold gIx;simp only[ZM,asL,qGg hl h0 h1]
theorem Q5{a:Ad}{st j:qC}{x m:Int}(h:0<m∧m<1073741824):qd a [.ref st.length,.int m] (st ++ .l [.int x]::j)= .ok (.int (x%m)) (st ++ .l [.int (x/m)]::j):=by
 have hs:(st++SO.l [.int x]::j)[st.length]? = some (.l [.int x]):=by simp
 refine qi rfl (qX (qGD (qN (qM (qQ rfl rfl (qDO (qAX hs) rfl)) (qM rfl qZ)) (qEI h)) rfl) (qX (qKh rfl rfl rfl (s4:=st ++ .l [.int (x/m)]::j) ?_) (qt rfl)));unfold WY;simp only[hs];show some ((st++SO.l [.int x]::j).set st.length (.l [.int (x/m)]))=_;rw[Bu _ _ (AG _),Nat.sub_self];rfl
def Z1:Nat:=2 ^ 20
theorem qEO:64≤Z1:=by decide
theorem qFE:Z1+Z1+100≤bitsLine:=by decide
theorem qGu{a:Ad}{ns:List Int}{k:Int}{st:qC}(hb:∀n∈ns,Builtin.Int.intBits n≤2 ^ 20)(h0:0≤k)(h1:k<100):∃c:Int,c.natAbs<2 ^ Z1∧zt a [.lst (ns.map PV.int),.int k] st= .ok (.int c) st:=by
 have e1:vTB (qJ gLt (qB 1) (qH wu (qA (qB 0) qD))) (qv 2 [.lst (ns.map PV.int),.int k]) st= .ok (decide (k<(ns.length:Int))) st :=
  wg (qQ rfl (qN (qM rfl qZ) (Wo (l:=ns.map PV.int) rfl (by rw[AN]))) w_lt)
 by_cases hk:k<(ns.length:Int)
 ·refine⟨ns.getD k.toNat 0,?_,qi rfl (qu (QR (by rw[e1,AV hk]) (qt (qQ rfl rfl (qJ0 (L:=ns.length) (by omega) h0 hk)))))⟩;have hi:k.toNat<ns.length:=by omega
  rw[Ar,AM hi];exact qGw (hb _ (CJ hi))
 ·refine⟨6151*k+29,?_,qi rfl (qX (r':=qv 2 [.lst (ns.map PV.int),.int k]) (s1:=st) (Qn (by rw[e1,AY hk]) rfl) (qt (qQ (qQ rfl rfl (JS (by decide))) rfl Q6)))⟩;refine Ah (m:=2 ^ 64) ?_ (Nat.pow_le_pow_right (by decide) qEO);omega
theorem qId{a:Ad}{c k:Int}{st:qC}(hc:c.natAbs<2 ^ Z1)(h0:0≤k)(h1:k<24):∃m:Int,ZV a [.int c,.int k] st= .ok (.int m) st:=by
 have hn:((c+1)*40692+104729*k).natAbs<2 ^ (Z1+30):=by
  rw[Nat.pow_add];have h2:0<2 ^ Z1:=Nat.two_pow_pos _;generalize 2 ^ Z1=N at hc h2
  have:(2:Nat) ^ 30=1073741824:=by decide
  rw[this];omega
 generalize hN:(c+1)*40692+104729*k=n at hn;have hbits:Builtin.Int.intBits n+Builtin.Int.intBits n≤bitsLine:=by
  have:=jo hn
  have:=qFE
  omega
 have hm1:0≤n*n%2147483399:=Int.emod_nonneg _ (by decide);have hm2:n*n%2147483399<2147483399:=Int.emod_lt_of_pos _ (by decide);refine⟨(n*n%2147483399+k)*(n*n%2147483399+k+31)%2147483563,qi rfl (qX (q9 (p:=.int n) (s1:=st) (qQ (qQ (qQ rfl rfl Q6) rfl (zg (by decide))) (qQ rfl rfl (JS (by decide))) (by rw[Q6,hN]))) (qX (q9 (qQ (qQ (qQ rfl rfl (qJv hbits)) rfl (yd (by decide))) rfl Q6)) (qt (qQ (qQ rfl (qQ rfl rfl Q6) (JS ⟨?_,?_⟩)) rfl (yd (by decide))))))⟩;omega;omega
def qHH(a:Ad):FS:=qb 3 (qJ QA (qJ WA (qB 3) (vC (.int 2147483647))) (qH (ZV a) (qA (qB 2) (qA (qB 4) qD))))
theorem qAo{a:Ad}{s:PV}{c k:Int}{st:qC}(hc:c.natAbs<2 ^ Z1):∀(js:List Int) (n:Int) (x:Option PV),(∀j∈js,0≤j∧j<24)->∃n' x',Qj (fun _=>True) (QH 4) (qHH a) (js.map PV.int) [some s,some (.int k),some (.int c),some (.int n),x] st= .nx [some s,some (.int k),some (.int c),some (.int n'),x'] st|[],n,x,_=>⟨n,x,Qa trivial⟩|j::js,n,x,h=>by have hj:=h j AK;obtain⟨m,hm⟩:=qId (a:=a) (st:=st) hc hj.1 hj.2;obtain⟨n',x',e2⟩:=qAo (a:=a) (s:=s) (k:=k) (st:=st) hc js (n*2147483647+m) (some (.int j)) fun q hq=>h q (AI _ hq);exact⟨n',x',WD trivial rfl (q9 (qQ (qQ rfl rfl (zg (by decide))) (qN (qM rfl (qM rfl qZ)) hm) Q6)) e2⟩
theorem qI1{a:Ad}{ns:List Int}{k:Int}{st:qC}(hb:∀n∈ns,Builtin.Int.intBits n≤2 ^ 20)(h0:0≤k)(h1:k<100):∃x,ZW a [.lst (ns.map PV.int),.int k] st= .ok (.ref st.length) (st++[.l [.int x]]):=by
 obtain⟨c,hc,e⟩:=qGu (a:=a) (st:=st) hb h0 h1;have ht:vTB (qJ gEq (qJ Ww (qB 2) (vC (.int 2))) (vC (.int 0))) [some (.lst (ns.map PV.int)),some (.int k),some (.int c),none,none] st= .ok (c%2==0) st:=wg (qQ (qQ rfl rfl (yd (by decide))) rfl Ws);have e0:qb 2 (qH (zt a) (qA (qB 0) (qA (qB 1) qD))) (qv 5 [.lst (ns.map PV.int),.int k]) st= .nx [some (.lst (ns.map PV.int)),some (.int k),some (.int c),none,none] st:=q9 (qN (qM rfl (qM rfl qZ)) e);cases hp:(c%2==0) with|true=>exact⟨c/2,qi rfl (qX e0 (qu (QR (by rw[ht,hp]) (qFh (W6 (qM (qQ rfl rfl (qFc (by decide))) qZ) (sz rfl))))))⟩|false=>obtain⟨n',x',el⟩:=qAo (a:=a) (s:=.lst (ns.map PV.int)) (k:=k) (st:=st) hc (Qe 24) 0 none fun j hj=>upto_mem.mp hj;exact⟨n',qi rfl (qX e0 (qX (r':=[some (.lst (ns.map PV.int)),some (.int k),some (.int c),none,none]) (s1:=st) (Qn (by rw[ht,hp]) rfl) (qX (q9 rfl) (qX (zR (w:=⟨(Qe 24).map PV.int,fun _=>True⟩) (s1:=st) rfl el) (qFh (W6 (qM rfl qZ) (sz rfl)))))))⟩
theorem Wt{a:Ad}{fs:List (Str×Int)}{x d:Addr}{st:qC}{r:qk}{b:Bool}(h0:r[0]? = some (some (.exc x fs)))(hx:x∈Qo a)(hd:d∈a.kinds)(hb:(x==d)=b):qH (Qb (kit a)) (qA (qB 0) (qA (vC (.fn d)) qD)) r st= .ok (.bl b) st:=by
 rw[ZT (l:=[.exc x fs,.fn d]) (st':=st) (by unfold qA qB;rw[h0];rfl)];show (match (if x∈Qo a∧d∈a.kinds then some (x==d) else none) with|some b=>Rs.ok (PV.bl b) st|none=>.no)=_;rw[AE ⟨hx,hd⟩,hb]
theorem qIn{a:Ad}{fs:List (Str×Int)}{x:Addr}{st:qC}{r:qk}(h0:r[0]? = some (some (.exc x fs)))(hx:x∈Qo a):qH (Qb (kit a)) (qA (qB 0) (qA (vC (.ty "ValueError")) qD)) r st= .ok (.bl true) st:=by
 rw[ZT (l:=[.exc x fs,.ty "ValueError"]) (st':=st) (by unfold qA qB;rw[h0];rfl)];show (match (if x∈Qo a ∧ "ValueError" = "ValueError" then some true else none) with|some b=>Rs.ok (PV.bl b) st|none=>.no)=_;rw[AE ⟨hx,rfl⟩]
theorem qDq(a:Ad):a.Z1∈a.kinds∧a.Z2∈a.kinds∧a.Z3∈a.kinds∧a.Z4∈a.kinds∧a.Z5∈a.kinds∧a.Z6∈a.kinds∧a.Z7∈a.kinds∧a.Z8∈a.kinds∧a.Z9∈a.kinds∧a.Z10∈a.kinds∧a.Z11∈a.kinds:=by unfold Ad.kinds;simp
theorem Yq{a:Ad}{fs:List (Str×Int)}{x:Addr}{st:qC}{v:PV}(hx:x∈Qo a){b0 b1 b2 b3 b4 b5 b6 b7 b8 b9 b10:Bool}(e0:(x==a.Z1)=b0)(e1:(x==a.Z2)=b1)(e2:(x==a.Z3)=b2)(e3:(x==a.Z4)=b3)(e4:(x==a.Z5)=b4)(e5:(x==a.Z6)=b5)(e6:(x==a.Z7)=b6)(e7:(x==a.Z8)=b7)(e8:(x==a.Z9)=b8)(e9:(x==a.Z10)=b9)(e10:(x==a.Z11)=b10)
  (hc:qBk (qB 1) (vC (.bl true)) [some (.exc x fs),some (.lst [.bl b0,.bl b1,.bl b2,.bl b3,.bl b4,.bl b5,.bl b6,.bl b7,.bl b8,.bl b9,.bl b10]),none] st= .ok (.int 1) st)
  (h:Ym a [some (.exc x fs),some (.lst [.bl b0,.bl b1,.bl b2,.bl b3,.bl b4,.bl b5,.bl b6,.bl b7,.bl b8,.bl b9,.bl b10]),none] st= .rt v st):wx a [.exc x fs] st= .ok v st:=by
 obtain⟨m0,m1,m2,m3,m4,m5,m6,m7,m8,m9,m10⟩:=qDq a;exact qi rfl (qX (q9 (wp (W6 (qM (Wt rfl hx m0 e0) (qM (Wt rfl hx m1 e1) (qM (Wt rfl hx m2 e2) (qM (Wt rfl hx m3 e3) qZ)))) (sz rfl))))
  (qX (q9 (wp (YQ (l:=[.bl b0,.bl b1,.bl b2,.bl b3]) rfl (wp (W6 (qM (Wt rfl hx m4 e4) (qM (Wt rfl hx m5 e5) (qM (Wt rfl hx m6 e6) (qM (Wt rfl hx m7 e7) qZ)))) (sz rfl))) rfl rfl (sz rfl))))
  (qX (q9 (wp (YQ (l:=[.bl b0,.bl b1,.bl b2,.bl b3,.bl b4,.bl b5,.bl b6,.bl b7]) rfl (wp (W6 (qM (Wt rfl hx m8 e8) (qM (Wt rfl hx m9 e9) (qM (Wt rfl hx m10 e10) qZ))) (sz rfl))) rfl rfl (sz rfl))))
  (qX (r':=[some (.exc x fs),some (.lst [.bl b0,.bl b1,.bl b2,.bl b3,.bl b4,.bl b5,.bl b6,.bl b7,.bl b8,.bl b9,.bl b10]),none]) (s1:=st) (Qn (Qi (w_not (b:=true) (Qd (qIn rfl hx))) (wg (qQ hc rfl rfl))) rfl) h))))
theorem qAJ{a:Ad}(hd:Dist a){st:qC}:wx a [.exc a.Z1 []] st= .ok (.str "! length") st:=by have nd:=hd;unfold Dist Ad.kinds at nd;simp only[A2,AH,Af,not_or,Bg]at nd;obtain⟨⟨n1,n2,n3,n4,n5,n6,n7,n8,n9,n10⟩,_⟩:=nd;exact Yq (by unfold Qo;simp) (Aj _) (AC.mpr n1) (AC.mpr n2) (AC.mpr n3) (AC.mpr n4) (AC.mpr n5) (AC.mpr n6) (AC.mpr n7) (AC.mpr n8) (AC.mpr n9) (AC.mpr n10) rfl rfl
theorem itN{L:Int}{r:qk}{st s1:qC}{f:FA}(h1:0≤L)(h2:L≤1000)(hf:f r st= .ok [.int L] s1):(Qx f) r st= .ok ⟨(Qe L).map PV.int,fun _=>True⟩ s1:=by unfold Qx;rw[hf];show Jc [.int L] s1=_;unfold Jc;dsimp only;rw[AE (by omega),qFd]
theorem wy{x m:Int}(h:0<m):0≤x%m∧x%m<m:=⟨Int.emod_nonneg _ (by omega),Int.emod_lt_of_pos _ h⟩
theorem qLa{st j:qC}{b:SO}{i:Nat}{o:SO}(h:j[i]? = some o):(st++b::j)[st.length+1+i]? = some o:=by rw[At (by omega),show st.length+1+i-st.length=i+1 by omega,List.getElem?_cons_succ];exact h
theorem qKr{st j:qC}{b o:SO}{i:Nat}(h:i<j.length):(st++b::j).set (st.length+1+i) o=st++b::j.set i o:=by rw[Bu _ _ (by omega),show st.length+1+i-st.length=i+1 by omega,List.set_cons_succ]
def okP:PV->Bool| .tup l=>Nat.ble l.length 1000&&l.all wM|p=>wM p
theorem ZS{v:PV}(h:okP v=true):wM v=true:=by cases v <;> first|rfl|exact h
def okV:PV->Bool| .tup l=>Nat.ble l.length 59&&l.all okP|p=>wM p
theorem jI{v:PV}(h:okV v=true):wM v=true:=by cases v <;> first|rfl|exact h
theorem j9{a:Ad}{v:PV}{st:qC}(h:wM v=true):Qb (kit a) [v,.ty "tuple"] st= .ok (.bl (match v with | .tup _=>true|_=>false)) st:=by cases v <;> first|rfl|cases h
theorem qAx{f g:FE}{r:qk}{st s1:qC}{R:Rs PV}(h:f r st= .ok (.bl true) s1)(h2:g r s1=R):yo f g r st=R:=by unfold yo;rw[h];exact h2
theorem yE{f g:FE}{r:qk}{st s1:qC}(h:f r st= .ok (.bl false) s1):yo f g r st= .ok (.bl false) s1:=by unfold yo;rw[h];rfl
theorem len_ne{l:List PV}{n:Int}{st:qC}:gNe (.int (l.length:Int)) (.int n) st= .ok (.bl (!decide ((l.length:Int)=n))) st:=by
 show Rs.ok (PV.bl (!((l.length:Int)==n))) st=_;by_cases h:(l.length:Int)=n;rw[AV h,BC.mpr h];rw[AY h,AC.mpr h]
theorem zw{f:PV->Bool}{l:List PV}{st:qC}:Wz [.lst (l.map fun p=>.bl (f p))] st= .ok (.bl (l.all f)) st:=by unfold Wz qEG;simp only[asL];rw[Jv];show Rs.ok (PV.bl ((l.map f).all id)) st=_;rw[List.all_map];rfl
theorem itR{lo hi:Int}{r:qk}{st s1:qC}{f:FA}(h1:0≤lo)(h2:lo≤1000)(h3:0≤hi)(h4:hi≤1000)(hf:f r st= .ok [.int lo,.int hi] s1):(Jf f) r st= .ok ⟨yb lo hi,fun _=>True⟩ s1:=by unfold Jf;rw[hf];show jp [.int lo,.int hi] s1=_;unfold jp;dsimp only;rw[AE ⟨by omega,by omega,by omega,by omega⟩]
theorem qFg{a:Ad}{v:PV}{st:qC}(h:wM v=true):WZ a [v] st= .ok (.bl (isInt v)) st:=by cases v <;> first|rfl|cases h
theorem qDr{a:Ad}{l:List PV}{r:qk}{st:qC}{f:FE}(hl:l.length≤1000)(h:∀p∈l,wM p=true)(hf:f r st= .ok (.tup l) st):qH Wz (qA (vFz (QD [] 1 (QM f) (Qc 0) [] [] (qH (WZ a) (qA (qB 0) qD)))) qD) r st= .ok (.bl (l.all isInt)) st:=by
 have e:=QZ (caps:=[]) (n:=1) (fi:=QM f) (g:=Qc 0) (f:=qH (WZ a) (qA (qB 0) qD)) (r:=r) (st:=st) (w:=⟨l,fun _=>True⟩) (F:=fun p=>.bl (isInt p)) (WO hf) trivial (small (by show l.length≤_;omega)) fun p hp=>⟨[some p],rfl,qN (l:=[p]) rfl (qFg (h p hp))⟩;exact qN (qM (wp e) qZ) zw
theorem qFB{f:FE}{r:qk}{st s1:qC}{l:List PV}(h:f r st= .ok (.tup l) s1):vFz (yB f) r st= .ok (.lst l) s1:=by unfold vFz yB;rw[h];rfl
theorem qBt{l:List PV}{i:Int}{st:qC}(h0:0≤i)(h1:i<l.length):∃p,p∈l∧gIx (.lst l) (.int i) st= .ok p st:=by
 have hi:i.toNat<l.length:=by omega
 refine⟨l[i.toNat],CJ hi,qDO rfl ?_⟩;unfold L2.atI;rw[Zb h0 h1];exact AM hi
theorem ZQ{l:List PV}{lo hi:Option Int}{p:PV}(h:p∈wk l lo hi):p∈l:=by unfold wk at h;exact CG (List.mem_of_mem_take h)
theorem yx{l:List PV}{lo hi:Option Int}:(wk l lo hi).length≤l.length:=by unfold wk;rw[Ba,Bc];omega
theorem qF3{l:List PV}{lo hi:Option Int}{s:Int}{p:PV}(h:p∈HT.cutS l lo hi s):p∈l:=by unfold HT.cutS at h;obtain⟨m,_,e⟩:=Bp.mp h;exact Aq e
theorem qE3:∀n:Fin 42,Builtin.Slice.slicePlaces (Builtin.Slice.sliceAdjust none none (-1) (n.val:Nat)).1 (Builtin.Slice.sliceAdjust none none (-1) (n.val:Nat)).2 (-1)≤n.val:=by decide +kernel
theorem qAD{l:List PV}(h:l.length≤41):(HT.cutS l none none (-1)).length≤l.length:=by unfold HT.cutS;refine Ag (List.length_filterMap_le _ _) ?_;rw[List.length_range];exact qE3 ⟨l.length,by omega⟩
theorem Zi{f:FE}{lo hi:FO}{r:qk}{st s1 s2 s3:qC}{l:List PV}{p q:Option Int}(h:f r st= .ok (.tup l) s1)(h1:lo r s1= .ok p s2)(h2:hi r s2= .ok q s3):zn f lo hi r st= .ok (.tup (wk l p q)) s3:=by unfold zn;rw[h];show (lo r s1).bind _=_;rw[h1];show (hi r s2).bind _=_;rw[h2];rfl
theorem qIt{f:FE}{r:qk}{st s1:qC}{l:List PV}(h:f r st= .ok (.tup l) s1)(hl:l.length≤41):qCw f QP QP (QN (qBg (vC (.int 1)))) r st= .ok (.tup (HT.cutS l none none (-1))) s1:=by unfold qCw;rw[h];show (if (-1:Int)<0∧(HT.cutS l none none (-1)).length≤sizeLine then Rs.ok (PV.tup (HT.cutS l none none (-1))) s1 else Rs.no)=_;rw[AE ⟨by decide,Ag (qAD hl) (small (by omega))⟩]
theorem zk{l m:List PV}{st:qC}(h:l.length+m.length≤1000):wm (.tup l) (.tup m) st= .ok (.tup (l++m)) st:=by unfold wm;exact AE (Ag h (by decide))
theorem Zl{l:List PV}(hl:l.length≤59)(h:∀p∈l,okP p=true):okV (.tup l)=true:=by show (Nat.ble l.length 59&&l.all okP)=true;rw[AX,Ay];exact⟨Nat.ble_eq_true_of_le hl,h⟩
theorem ZU{P:PV->Prop}{l m:List PV}(h1:∀p∈l,P p)(h2:∀p∈m,P p):∀p∈l++m,P p:=fun p hp=>(A1.mp hp).elim (h1 p) (h2 p)
theorem qCk{P:PV->Prop}{q:PV}(h:P q):∀p∈[q],P p:=fun p hp=>by rw[Al.mp hp];exact h
def qDc(W:List PV)(t:Int)(p:PV):List PV:=wk W none (some t)++[p]++wk W (some (t+1)) none
theorem qFH{P:PV->Prop}{W:List PV}{t:Int}{p:PV}(h1:∀q∈W,P q)(h2:P p):∀q∈qDc W t p,P q:=ZU (ZU (fun q hq=>h1 q (ZQ hq)) (qCk h2)) (fun q hq=>h1 q (ZQ hq))
theorem qHm{W:List PV}{t:Int}{p:PV}{f g:FE}{h:FE}{r:qk}{st:qC}(hW:W.length≤41)(h1:f r st= .ok (.tup W) st)(h2:g r st= .ok (.int t) st)(h3:h r st= .ok p st):qJ wm (qJ wm (zn f QP (QN g)) (QC (qA h qD))) (zn f (QN (qJ QA g (vC (.int 1)))) QP) r st= .ok (.tup (qDc W t p)) st:=by have a1:=yx (l:=W) (lo:=none) (hi:=some t);have a2:=yx (l:=W) (lo:=some (t+1)) (hi:=none);exact qQ (qQ (Zi h1 rfl (wt h2)) (ZB (qM h3 qZ) (sz rfl)) (zk (by rw[Am];omega))) (Zi h1 (wt (qQ h2 rfl Q6)) rfl) (zk (by rw[AO,Am];omega))
theorem qG3{l:List PV}{i:Int}{st:qC}{n:Nat}(hs:st[n]? = some (.l l))(h0:0≤i)(h1:i<l.length):∃p,p∈l∧gIx (.ref n) (.int i) st= .ok p st:=by
 have hi:i.toNat<l.length:=by omega
 refine⟨l[i.toNat],CJ hi,qDO (qAX hs) ?_⟩;unfold L2.atI;rw[Zb h0 h1];exact AM hi
theorem qCL{st j:qC}{b o p:SO}:(st++b::(j++[o])).set (st.length+1+j.length) p=st++b::(j++[p]):=by rw[qKr (by rw[AO,Am];omega),Bu _ _ (AG _),Nat.sub_self];rfl
theorem WW{st j:qC}{b o:SO}:(st++b::(j++[o]))[st.length+1+j.length]? = some o:=qLa (by simp)
theorem qCF{st j:qC}{b:SO}:(st++b::j).length=st.length+1+j.length:=by rw[AO,AJ];omega
theorem qCh{st j:qC}{b o:SO}:(st++b::j)++[o]=st++b::(j++[o]):=by rw[Av];rfl
theorem Ye{i:Nat}{fl:FL}{r:qk}{S st j:qC}{b:SO}{l:List PV}(h:fl r S= .ok l (st++b::j)):zj i fl r S= .nx (r.set i (some (.ref (st.length+1+j.length)))) (st++b::(j++[.l l])):=by rw[qGE h,qCF,qCh]
theorem qAr{fo f:FE}{r:qk}{st j:qC}{b b':SO}{l:List PV}{p:PV}(h:fo r (st++b::(j++[.l l]))= .ok (.ref (st.length+1+j.length)) (st++b::(j++[.l l])))(h2:f r (st++b::(j++[.l l]))= .ok p (st++b'::(j++[.l l])))(hl:l.length≤1000):Wa fo f r (st++b::(j++[.l l]))= .nx r (st++b'::(j++[.l (l++[p])])):=by rw[Jw h (qKW WW) h2 WW (Bq hl (by decide)),qCL]
end K81
end
noncomputable section
namespace K81
open PySem EV EX ET
section
variable{g g':PV->PV->qC->Rs PV}{fa fb fc:FE}{r:qk}{st s1 s2 s3 s4:qC}{p q w:PV}{R:Rs PV}{i j k:Int}
theorem yc(h:fa r st= .ok p s1)(h2:fb r s1= .ok q s2)(h3:g p q s2= .ok (.bl true) s3)(h4:fc r s3= .ok w s4)(h5:g' q w s4=R):Qf g g' fa fb fc r st=R:=by unfold Qf;rw[h];show (fb r s1).bind _=_;rw[h2];show (g p q s2).bind _=_;rw[h3];show (fc r s3).bind _=_;rw[h4];exact h5
theorem yK(h:fa r st= .ok p s1)(h2:fb r s1= .ok q s2)(h3:g p q s2= .ok (.bl false) s3):Qf g g' fa fb fc r st= .ok (.bl false) s3:=by unfold Qf;rw[h];show (fb r s1).bind _=_;rw[h2];show (g p q s2).bind _=_;rw[h3];rfl
theorem qAL(h:fa r st= .ok (.int i) st)(h2:fb r st= .ok (.int j) st)(h3:fc r st= .ok (.int k) st):Qf gLe gLe fa fb fc r st= .ok (.bl (decide (i≤j)&&decide (j≤k))) st:=by
 by_cases hi:i≤j;rw[AV hi,Az];exact yc h h2 (qFP hi) h3 qHV;rw[AY hi,BE];exact yK h h2 (qFs hi)
theorem YZ(h:fa r st= .ok (.int i) st)(h2:fb r st= .ok (.int j) st)(h3:fc r st= .ok (.int k) st):Qf gLe gLt fa fb fc r st= .ok (.bl (decide (i≤j)&&decide (j<k))) st:=by
 by_cases hi:i≤j;rw[AV hi,Az];exact yc h h2 (qFP hi) h3 w_lt;rw[AY hi,BE];exact yK h h2 (qFs hi)
end
theorem qFo{a:Ad}(hd:Dist a){st:qC}:wx a [.exc a.Z4 []] st= .ok (.str "! box") st:=by have nd:=hd;unfold Dist Ad.kinds at nd;simp only[A2,AH,Af,not_or,Bg]at nd;obtain⟨⟨_,_,n0,_⟩,⟨_,n1,_⟩,⟨n2,_⟩,⟨n4,n5,n6,n7,n8,n9,n10⟩,_⟩:=nd;exact Yq (by unfold Qo;simp) (AC.mpr (Ne.symm n0)) (AC.mpr (Ne.symm n1)) (AC.mpr (Ne.symm n2)) (Aj _) (AC.mpr n4) (AC.mpr n5) (AC.mpr n6) (AC.mpr n7) (AC.mpr n8) (AC.mpr n9) (AC.mpr n10) rfl rfl
theorem qEZ{C:Addr}{n:Str}{f:FE}{r:qk}{st s1:qC}{p:PV}{i:Int}(h:f r st= .ok p s1)(h2:qB8 C n p=some i):jK C n f r st= .ok (.int i) s1:=by unfold jK;rw[h];show (match qB8 C n p with|some i=>Rs.ok (PV.int i) s1|none=>.no)=_;rw[h2]
theorem gx{C:Addr}{n:Str}{fs:List (Str×Int)}{i:Int}(h:fs.lookup n=some i):qB8 C n (.exc C fs)=some i:=(AE rfl).trans h
def sI(i:Int):Str:=Str.ofString (toString i)
theorem qBx{i:Int}{st:qC}(h:i.natAbs<2 ^ 100):qBV [.int i] st= .ok (.str (sI i)) st:=by
 show (if i.natAbs.log2<1920 then Rs.ok (PV.str (sI i)) st else .no)=_;refine AE ?_;by_cases h0:i.natAbs=0;rw[h0];decide;exact CU ((Nat.log2_lt h0).mpr h) (by decide)
theorem qAk{x y:Str}{st:qC}(h:x.length+y.length≤100000):yn (.str x) (.str y) st= .ok (.str (x++y)) st:=by unfold yn;exact AE (small h)
theorem qBK{i:Int}(h:i.natAbs<2 ^ 100):(sI i).length≤200:=by
 unfold sI;cases i with
 |ofNat n=>have h:n<2 ^ 100:=h;show (Str.ofString (Nat.repr n)).length≤200;rw[PySem.ofString_length];exact Ag (nat_repr_length_le (k:=100) (by decide) h) (by decide)
 |negSucc n =>
  have h:n+1<2 ^ 100:=h;show (Str.ofString ("-" ++ Nat.repr (n+1))).length≤200;rw[PySem.ofString_length,String.length_append]
  have:=nat_repr_length_le (k:=100) (by decide) h
  show 1+_≤200;omega
theorem qIq{i:Int}(h:i.natAbs<2 ^ 100):i.natAbs.log2<1920:=by
 by_cases h0:i.natAbs=0;rw[h0];decide;exact CU ((Nat.log2_lt h0).mpr h) (by decide)
theorem qJS{m:Int}(h:m.natAbs<2 ^ 100):okI " are more than " m 1000=true:=by
 have hl:=qBK h;have e:(toString m:Str)=sI m:=rfl;have e2:(toString (1000:Int):Str)=sI 1000:=rfl;have hl2:(sI 1000).length≤10:=by decide
 have h0:(Str.empty).length=0:=by decide
 have h3:(" are more than ":Str).length≤20:=by decide
 have hs:1000≤sizeLine:=by decide
 unfold okI;rw[e,e2,AV (qIq h),AV (show (1000:Int).natAbs.log2<1920 by decide)];simp only[Az,AX,BR,B8];omega
theorem qED{a:Ad}(hd:Dist a){st:qC}{m:Int}(hm:m.natAbs<2 ^ 100):wx a [.exc a.Z11 [("many",m),("most",1000)]] st= .ok (.str (("! many " ++ sI m) ++ " 1000")) st:=by
 have nd:=hd;unfold Dist Ad.kinds at nd;simp only[A2,AH,Af,not_or,Bg]at nd;obtain⟨⟨_,_,_,_,_,_,_,_,_,n0⟩,⟨_,_,_,_,_,_,_,_,n1⟩,⟨_,_,_,_,_,_,_,n2⟩,⟨_,_,_,_,_,_,n3⟩,⟨_,_,_,_,_,n4⟩,⟨_,_,_,_,n5⟩,⟨_,_,_,n6⟩,⟨_,_,n7⟩,⟨_,n8⟩,n9,_⟩:=nd;refine Yq (by unfold Qo;simp) (AC.mpr (Ne.symm n0)) (AC.mpr (Ne.symm n1)) (AC.mpr (Ne.symm n2)) (AC.mpr (Ne.symm n3)) (AC.mpr (Ne.symm n4)) (AC.mpr (Ne.symm n5)) (AC.mpr (Ne.symm n6)) (AC.mpr (Ne.symm n7)) (AC.mpr (Ne.symm n8)) (AC.mpr (Ne.symm n9)) (Aj _) rfl ?_;have hl:=qBK hm;have l1:("! many ":Str).length=7:=by decide
 have l2:(" ":Str).length=1:=by decide
 have l3:(sI 1000).length=4:=by decide
 have e:(("! many " ++ sI m) ++ " 1000":Str)=(("! many " ++ sI m) ++ " ")++sI 1000:=by rw[Str.append_assoc ("! many " ++ sI m)];congr 1
 rw[e];unfold Ym;refine qu (QR (Qd rfl) (qt ?_));exact qQ (qQ (qQ rfl (qN (qM (qEZ rfl (gx rfl)) qZ) (qBx hm)) (qAk (by rw[l1];omega))) rfl (qAk (by rw[B8,l1,l2];omega))) (qN (qM (qEZ rfl (gx rfl)) qZ) (qBx (by decide))) (qAk (by rw[B8,B8,l1,l2,l3];omega))
def side:PV->Bool:=WB 1 1000000000
def qAg:PV->Bool| .tup l=>decide (1≤(l.length:Int))&&decide ((l.length:Int)≤3)&&l.all side|_=>false
def zx:PV->Bool| .tup l=>qAg (.tup l)&&decide ((l.length:Int)=3)|_=>false
theorem qIU{a:Ad}{v:PV}{st:qC}(h:wM v=true):zK a [v] st= .ok (.bl (side v)) st:=qi rfl (qt (qN (l:=[v,.int 1,.int 1000000000]) rfl (qAn h)))
theorem qFL{a:Ad}{l:List PV}{r:qk}{st:qC}(hr:r[0]? = some (some (.tup l)))(hl:l.length≤1000)(h:∀p∈l,wM p=true):qH Wz (qA (vFz (QD [] 1 (QM (qB 0)) (Qc 0) [] [] (qH (zK a) (qA (qB 0) qD)))) qD) r st= .ok (.bl (l.all side)) st:=by
 have e:=QZ (caps:=[]) (n:=1) (fi:=QM (qB 0)) (g:=Qc 0) (f:=qH (zK a) (qA (qB 0) qD)) (r:=r) (st:=st) (w:=⟨l,fun _=>True⟩) (F:=fun p=>.bl (side p)) (WO (zV hr)) trivial (small (by show l.length≤100000;omega)) fun p hp=>⟨[some p],rfl,qN (l:=[p]) rfl (qIU (h p hp))⟩;exact qN (qM (wp e) qZ) zw
theorem qFb{a:Ad}{v:PV}{st:qC}(h:okP v=true):Ys a [v] st= .ok (.bl (qAg v)) st:=by
 have ei:=j9 (a:=a) (st:=st) (ZS h);cases v with
 |tup l =>
  have h2:(Nat.ble l.length 1000&&l.all wM)=true:=h;rw[AX,Ay]at h2;have hl:=BM h2.1;have ec:vTB (Qf gLe gLe (vC (.int 1)) (qH wu (qA (qB 0) qD)) (vC (.int 3))) (qv 1 [.tup l]) st= .ok (decide (1≤(l.length:Int))&&decide ((l.length:Int)≤3)) st:=wg (qAL rfl (qN (l:=[.tup l]) rfl (Wo rfl rfl)) rfl);have e1:Q1 (ql (qH (Qb (kit a)) (qA (qB 0) (qA (vC (.ty "tuple")) qD)))) (qv 1 [.tup l]) st= .ok false st:=w_not (b:=true) (Qd (qN (l:=[.tup l,.ty "tuple"]) rfl ei));refine qi rfl ?_;show YM a (qv 1 [.tup l]) st= .rt (.bl (decide (1≤(l.length:Int))&&decide ((l.length:Int)≤3)&&l.all side)) st;cases hb:(decide (1≤(l.length:Int))&&decide ((l.length:Int)≤3)) with|true=>rw[hb]at ec;rw[Az];exact qX (Qn (Qi e1 (w_not (b:=true) ec)) rfl) (qt (qFL rfl hl h2.2))|false=>rw[hb]at ec;rw[BE];exact qu (QR (Qi e1 (w_not (b:=false) ec)) (qt rfl))
 |_=>exact qi rfl (qu (QR (zE (w_not (b:=false) (Qd (qN (s1:=st) rfl ei)))) (qt rfl)))
theorem zi{a:Ad}{l:List PV}{st:qC}(h:okP (.tup l)=true)(hr:zx (.tup l)=true):zA a [.tup l] st= .ok .non st:=by
 have hr:(qAg (.tup l)&&decide ((l.length:Int)=3))=true:=hr;rw[AX,BR]at hr;refine je (r1:=qv 1 [.tup l]) rfl (Qn (Qi (w_not (b:=true) (Qd ((qN (l:=[.tup l]) rfl (qFb h)).trans (by rw[hr.1])))) (wg (qQ (qN (l:=[.tup l]) rfl (Wo rfl hr.2)) (q:=.int 3) (s2:=st) ?_ rfl))) rfl);refine qN (l:=[.fn a.ROOM_WAYS]) rfl ?_;show (if a.ROOM_WAYS=a.ROOM_WAYS then Rs.ok (PV.int 3) st else .no)=_;rw[AE rfl]
theorem qEC{a:Ad}{r:qk}{st:qC}:Zz a.Z4 (qA (vJ [(vC (.str "a room is a tuple of three whole numbers from 1 to ")),(qEu (vC (.int 1000000000)))] Str.empty) qD) r st= .ex ⟨a.Z4,[]⟩ st:=rfl
theorem jt{a:Ad}{v:PV}{st:qC}(h:okP v=true)(hr:zx v=false):zA a [v] st= .ex ⟨a.Z4,[]⟩ st:=by
 refine zQ rfl (QR ?_ qEC);cases hb:qAg v with
 |false=>exact zE (w_not (b:=false) (Qd ((qN (l:=[v]) rfl (qFb h)).trans (by rw[hb]))))
 |true =>
  cases v with
  |tup l =>
   have hr:(qAg (.tup l)&&decide ((l.length:Int)=3))=false:=hr;rw[hb,Az]at hr;refine Qi (w_not (b:=true) (Qd ((qN (l:=[.tup l]) rfl (qFb h)).trans (by rw[hb])))) (wg (qQ (qN (l:=[.tup l]) rfl (Wo rfl rfl)) (q:=.int 3) (s2:=st) ?_ (len_ne.trans (by rw[hr];rfl))));refine qN (l:=[.fn a.ROOM_WAYS]) rfl ?_;show (if a.ROOM_WAYS=a.ROOM_WAYS then Rs.ok (PV.int 3) st else .no)=_;rw[AE rfl]
  |_=>cases hb
abbrev C3:=Int×Int×Int
def tP(c:C3):PV:=.tup [.int c.1,.int c.2.1,.int c.2.2]
def Rm(c:C3):Prop:=(1≤c.1∧c.1≤1000000000)∧(1≤c.2.1∧c.2.1≤1000000000)∧(1≤c.2.2∧c.2.2≤1000000000)
def vol(c:C3):Int:=c.1*c.2.1*c.2.2
theorem JT{c:C3}(h:Rm c):zx (tP c)=true:=by obtain⟨⟨a1,a2⟩,⟨b1,b2⟩,c1,c2⟩:=h;show (true&&true&&((decide (1≤c.1)&&decide (c.1≤1000000000))&&((decide (1≤c.2.1)&&decide (c.2.1≤1000000000))&&((decide (1≤c.2.2)&&decide (c.2.2≤1000000000))&&true)))&&true)=true;rw[AV a1,AV a2,AV b1,AV b2,AV c1,AV c2];rfl
theorem YD{a:Ad}{c:C3}{st:qC}(h:Rm c):wS a [tP c] st= .ok (.int (vol c)) st:=by obtain⟨⟨a1,a2⟩,⟨b1,b2⟩,c1,c2⟩:=h;exact qi rfl (qt (qQ (qQ (p:=.int c.1) (q:=.int c.2.1) rfl rfl (zg (by omega))) (q:=.int c.2.2) rfl (zg (by omega))))
theorem qCc{a:Ad}{L:Int}{st:qC}(h1:2≤L)(h2:L≤5):wl a [.int L] st= .ok .non st:=by rw[Ze rfl,AE (by show (decide (2≤L)&&decide (L≤5))=true;rw[AV h1,AV h2];rfl)]
theorem qE2{a:Ad}{c:C3}{L:Int}{st:qC}(h:Rm c)(h1:2≤L)(h2:L≤5)(hv:vol c≤1000):Qg a [tP c,.int L,.int 1000] st= .ok .non st :=
 je (r1:=qv 3 [tP c,.int L,.int 1000]) rfl (qX (yX (qN (l:=[tP c]) rfl (zi rfl (JT h)))) (qX (yX (qN (l:=[.int L]) rfl (qCc h1 h2))) (Qn (wg (qQ (qN (l:=[tP c]) rfl (YD h)) rfl (qJT (by omega)))) rfl)))
theorem qCT{c:C3}(h:Rm c):1≤vol c∧vol c<2 ^ 95:=by
 obtain⟨⟨a1,a2⟩,⟨b1,b2⟩,c1,c2⟩:=h;unfold vol;have h1:c.1*c.2.1≤1000000000*1000000000:=CB a2 b2 (by omega) (by omega);have h2:1*1≤c.1*c.2.1:=CB a1 b1 (by omega) (by omega);have h3:c.1*c.2.1*c.2.2≤1000000000*1000000000*1000000000:=CB h1 c2 (by omega) (by omega);have h4:1*1≤c.1*c.2.1*c.2.2:=CB (by omega) c1 (by omega) (by omega);constructor;omega;exact Int.lt_of_le_of_lt h3 (by decide)
theorem qBH{a:Ad}{c:C3}{L:Int}{st:qC}(h:Rm c)(h1:2≤L)(h2:L≤5)(hv:vol c>1000):Qg a [tP c,.int L,.int 1000] st= .ex ⟨a.Z11,[("many",vol c),("most",1000)]⟩ st:=by have hp:=qCT h;refine zQ rfl (qX (yX (qN (l:=[tP c]) rfl (zi rfl (JT h)))) (qX (yX (qN (l:=[.int L]) rfl (qCc h1 h2))) (QR (wg (qQ (qN (l:=[tP c]) rfl (YD h)) rfl (qEU hv))) ?_)));unfold Z8;rw[qM (qN (l:=[tP c]) (s1:=st) rfl (YD h)) rfl];show (if okI " are more than " (vol c) 1000=true then RS.ex ⟨a.Z11,[("many",vol c),("most",1000)]⟩ st else .no)=_;rw[AE (qJS (by omega))]
theorem qDL{a:Ad}{v u w:PV}{st:qC}(h:okP v=true)(hr:zx v=false):Qg a [v,u,w] st= .ex ⟨a.Z4,[]⟩ st :=
 zQ rfl (Yt (yV (qN (l:=[v]) rfl (jt h hr))))
theorem qDN{a:Ad}{c:C3}{u w:PV}{st:qC}(h:Rm c)(hp:wM u=true)(hw:WB 2 5 u=false):Qg a [tP c,u,w] st= .ex ⟨a.Z1,[]⟩ st :=
 zQ rfl (qX (yX (qN (l:=[tP c]) rfl (zi rfl (JT h)))) (Yt (yV (qN (l:=[u]) rfl (by rw[Ze hp,hw];rfl)))))
theorem qHd{a:Ad}{v u w:PV}{x:Exc}{st:qC}(h:Qg a [v,u,.int 1000] st= .ex x st):Qt a [v,u,w] st= .ex x st :=
 zQ rfl (Yt (yV (qN (l:=[v,u,.int 1000]) rfl h)))
theorem qIp{i:Nat}{f:FE}{r:qk}{st s1:qC}{x:Exc}(h:f r st= .ex x s1):qb i f r st= .ex x s1:=by unfold qb;rw[h];rfl
theorem qHR{a:Ad}{v u w z:PV}{st s1:qC}(h:Qt a [v,u,w] st= .ok z s1):QL a [v,u,w] st= .ok z s1 :=
 qi rfl (qX (q9 rfl) (qX (qEi (q9 (qN (l:=[v,u,w]) rfl h))) (qt rfl)))
theorem Jd{a:Ad}{v u w:PV}{x:Exc}{z:PV}{st:qC}(h:Qg a [v,u,.int 1000] st= .ex x st)(hx:x.cls∈Qo a)(hk:wx a [.exc x.cls x.fs] st= .ok z st):QL a [v,u,w] st= .ok z st :=
 qi rfl (qX (q9 rfl) (qX (qD5 (qIp (qN (l:=[v,u,w]) rfl (qHd h))) hx (q9 (qN (l:=[.exc x.cls x.fs]) rfl hk))) (qt rfl)))
theorem qFt{a:Ad}(hd:Dist a){v u w:PV}{st:qC}(h:okP v=true)(hr:zx v=false):QL a [v,u,w] st= .ok (.str "! box") st:=Jd (qDL h hr) (by unfold Qo;simp) (qFo hd)
theorem qEy{a:Ad}(hd:Dist a){c:C3}{u w:PV}{st:qC}(h:Rm c)(hp:wM u=true)(hw:WB 2 5 u=false):QL a [tP c,u,w] st= .ok (.str "! length") st:=Jd (qDN h hp hw) (by unfold Qo;simp) (qAJ hd)
theorem qC2{a:Ad}(hd:Dist a){c:C3}{L:Int}{w:PV}{st:qC}(h:Rm c)(h1:2≤L)(h2:L≤5)(hv:vol c>1000):QL a [tP c,.int L,w] st= .ok (.str (("! many " ++ sI (vol c)) ++ " 1000")) st:=Jd (qBH h h1 h2 hv) (by unfold Qo;simp) (qED hd (by have:=qCT h;omega))
abbrev B4:=Int×Int×Int×Int
def qP(b:B4):PV:=.tup [.int b.1,.int b.2.1,.int b.2.2.1,.int b.2.2.2]
def sel(c:C3)(i:Int):Int:=if i=0 then c.1 else if i=1 then c.2.1 else c.2.2
def lo3(b:B4):C3:=(b.1,b.2.1,b.2.2.1)
def Jr(b:B4)(k:Int):C3:=(b.1+(if b.2.2.2=0 then k else 0),b.2.1+(if b.2.2.2=1 then k else 0),b.2.2.1+(if b.2.2.2=2 then k else 0))
def wO(L:Int)(b:B4):List C3:=(Qe L).map (Jr b)
def W3(b:B4):Prop:=b.2.2.2=0∨b.2.2.2=1∨b.2.2.2=2
theorem Yo{L:Int}{b:B4}:(wO L b).length=L.toNat:=by unfold wO;rw[AN,Q8]
theorem J1{a:Ad}{b:B4}{L:Int}{st:qC}(h1:0≤L)(h2:L≤1000)(hw:W3 b):Qw a [qP b,.int L] st= .ok (.lst ((wO L b).map tP)) st:=by
 obtain⟨x,y,z,w⟩:=b;have hl:(Qe L).length≤sizeLine:=by rw[Q8];exact small (by omega)
 refine qi rfl (qX (qGD (r1:=[some (qP (x,y,z,w)),some (.int L),some (.int x),some (.int y),some (.int z),some (.int w)]) rfl rfl) ?_);rcases hw with hw|hw|hw
 ·have hw:w=0:=hw;subst hw;let F:PV->PV:=fun p=>match p with | .int k=>tP (x+k,y,z)|_=>.non;have e:(wO L (x,y,z,0)).map tP=((Qe L).map PV.int).map F:=by unfold wO;rw[BF,BF];exact BW fun k _=>by show tP (x+(if (0:Int)=0 then k else 0),y+(if (0:Int)=1 then k else 0),z+(if (0:Int)=2 then k else 0))=tP (x+k,y,z);rw[AE rfl,AF (by decide),AF (by decide),CW,CW]
  rw[e];refine qu (QR (wg (qQ (p:=.int 0) (q:=.int 0) rfl rfl rfl)) (qt (wp (QZ (F:=F) (itN h1 h2 rfl) trivial (by rw[AN];exact hl) fun p hp=>?_))));obtain⟨k,_,rfl⟩:=Ai.mp hp;exact⟨[some (.int y),some (.int z),some (.int x),some (.int k)],rfl,ZB (qM (qQ rfl rfl Q6) (qM rfl (qM rfl qZ))) (sz rfl)⟩
 ·have hw:w=1:=hw;subst hw;let F:PV->PV:=fun p=>match p with | .int k=>tP (x,y+k,z)|_=>.non;have e:(wO L (x,y,z,1)).map tP=((Qe L).map PV.int).map F:=by unfold wO;rw[BF,BF];exact BW fun k _=>by show tP (x+(if (1:Int)=0 then k else 0),y+(if (1:Int)=1 then k else 0),z+(if (1:Int)=2 then k else 0))=tP (x,y+k,z);rw[AF (by decide),AE rfl,AF (by decide),CW,CW]
  rw[e];refine qX (Qn (wg (qQ (p:=.int 1) (q:=.int 0) rfl rfl rfl)) rfl) (qu (QR (wg (qQ (p:=.int 1) (q:=.int 1) rfl rfl rfl)) (qt (wp (QZ (F:=F) (itN h1 h2 rfl) trivial (by rw[AN];exact hl) fun p hp=>?_)))));obtain⟨k,_,rfl⟩:=Ai.mp hp;exact⟨[some (.int x),some (.int z),some (.int y),some (.int k)],rfl,ZB (qM rfl (qM (qQ rfl rfl Q6) (qM rfl qZ))) (sz rfl)⟩
 ·have hw:w=2:=hw;subst hw;let F:PV->PV:=fun p=>match p with | .int k=>tP (x,y,z+k)|_=>.non;have e:(wO L (x,y,z,2)).map tP=((Qe L).map PV.int).map F:=by unfold wO;rw[BF,BF];exact BW fun k _=>by show tP (x+(if (2:Int)=0 then k else 0),y+(if (2:Int)=1 then k else 0),z+(if (2:Int)=2 then k else 0))=tP (x,y,z+k);rw[AF (by decide),AF (by decide),AE rfl,CW,CW]
  rw[e];refine qX (Qn (wg (qQ (p:=.int 2) (q:=.int 0) rfl rfl rfl)) rfl) (qX (Qn (wg (qQ (p:=.int 2) (q:=.int 1) rfl rfl rfl)) rfl) (qt (wp (QZ (F:=F) (itN h1 h2 rfl) trivial (by rw[AN];exact hl) fun p hp=>?_))));obtain⟨k,_,rfl⟩:=Ai.mp hp;exact⟨[some (.int x),some (.int y),some (.int z),some (.int k)],rfl,ZB (qM rfl (qM rfl (qM (qQ rfl rfl Q6) qZ))) (sz rfl)⟩
theorem qDP{b:B4}{k:Int}{r:qk}{st:qC}(h0:r[0]? = some (some (qP b)))(h3:r[3]? = some (some (.int k))):qH WM (qA (vFz (QD [0,3] 1 (Qx (qA (vC (.int 3)) qD)) (Qc 2) [] [] (qJ QA (qJ gIx (qB 0) (qB 2)) (qJ WA (qB 1) (qH qBn (qA (qJ gEq (qB 2) (qJ gIx (qB 0) (vC (.int 3)))) qD)))))) qD) r st= .ok (tP (Jr b k)) st:=by
 obtain⟨x,y,z,w⟩:=b;let F:PV->PV:=fun p=>match p with | .int i=>.int (sel (x,y,z) i+k*(if i=w then 1 else 0))|_=>.non;have hc:Wd [0,3] 1 r=[some (qP (x,y,z,w)),some (.int k),none]:=by unfold Wd;simp[h0,h3]
 have one:∀i:Int,i∈Qe 3->gIx (qP (x,y,z,w)) (.int i) st= .ok (.int (sel (x,y,z) i)) st:=fun i hi=>by
  have:=upto_mem.mp hi
  have:i=0∨i=1∨i=2:=by omega
  rcases this with rfl|rfl|rfl <;> rfl
 have e:=QZ (caps:=[0,3]) (n:=1) (fi:=Qx (qA (vC (.int 3)) qD)) (g:=Qc 2) (f:=qJ QA (qJ gIx (qB 0) (qB 2)) (qJ WA (qB 1) (qH qBn (qA (qJ gEq (qB 2) (qJ gIx (qB 0) (vC (.int 3)))) qD)))) (r:=r) (st:=st) (F:=F) (itN (L:=3) (by decide) (by decide) rfl) trivial (by show ((Qe 3).map PV.int).length≤_;decide) fun p hp=>by
  obtain⟨i,hi,rfl⟩:=Ai.mp hp;refine⟨[some (qP (x,y,z,w)),some (.int k),some (.int i)],by rw[hc];rfl,?_⟩;refine qQ (qQ (p:=qP (x,y,z,w)) (q:=.int i) rfl rfl (one i hi)) (qQ (q:=.int (if i=w then 1 else 0)) rfl (qN (l:=[.bl (i==w)]) (qM (qQ (p:=.int i) (q:=.int w) rfl (qQ (p:=qP (x,y,z,w)) (q:=.int 3) rfl rfl rfl) Ws) qZ) ?_) (zg (by split <;> omega))) Q6;by_cases h:i=w;rw[AE h,BC.mpr h];rfl;rw[AF h,AC.mpr h];rfl
 refine (qN (qM (wp e) qZ) (YA rfl)).trans ?_;show Rs.ok (PV.tup [.int (x+k*(if 0=w then 1 else 0)),.int (y+k*(if 1=w then 1 else 0)),.int (z+k*(if 2=w then 1 else 0))]) st= .ok (PV.tup [.int (x+(if w=0 then k else 0)),.int (y+(if w=1 then k else 0)),.int (z+(if w=2 then k else 0))]) st;have q:∀i:Int,k*(if i=w then 1 else 0)=if w=i then k else 0:=fun i=>by
  by_cases h:i=w;rw[AE h,AE h.symm,Int.mul_one];rw[AF h,AF (Ne.symm h),Int.mul_zero]
 rw[q,q,q]
theorem qCx{b:B4}{L:PV}{st:qC}:∀(ks:List Int) (l:List PV) (x3:Option PV),l.length+ks.length≤1000->∃y3,Qj (fun _=>True) (QH 3) qFp (ks.map PV.int) [some (qP b),some L,some (.ref st.length),x3] (st++[.l l])= .nx [some (qP b),some L,some (.ref st.length),y3] (st++[.l (l++ks.map fun k=>tP (Jr b k))])
 |[],l,x3,_=>⟨x3,by rw[List.map_nil,List.map_nil,Au];exact Qa trivial⟩
 |k::ks,l,x3,h=>by
  rw[AJ]at h;have hg:(st++[SO.l l])[st.length]? = some (.l l):=by simp
  have e:=Jw (fo:=qB 2) (f:=qH WM (qA (vFz (QD [0,3] 1 (Qx (qA (vC (.int 3)) qD)) (Qc 2) [] [] (qJ QA (qJ gIx (qB 0) (qB 2)) (qJ WA (qB 1) (qH qBn (qA (qJ gEq (qB 2) (qJ gIx (qB 0) (vC (.int 3)))) qD)))))) qD)) (r:=[some (qP b),some L,some (.ref st.length),some (.int k)]) (st:=st++[.l l]) rfl (qKW hg) (qDP rfl rfl) hg (Ah (show l.length<1001 by omega) (by decide));have hs:(st++[SO.l l]).set st.length (.l (l++[tP (Jr b k)]))=st++[.l (l++[tP (Jr b k)])]:=by rw[Bu _ _ (AG _),Nat.sub_self];rfl
  rw[hs]at e;obtain⟨y3,e2⟩:=qCx (b:=b) (L:=L) (st:=st) ks (l++[tP (Jr b k)]) (some (.int k)) (by rw[AO,Am];omega);rw[Av]at e2;exact⟨y3,WD trivial rfl e e2⟩
theorem qGO{a:Ad}{b:B4}{L:Int}{st:qC}(h1:0≤L)(h2:L≤1000):WJ a [qP b,.int L] st= .ok (.ref st.length) (st++[.l ((wO L b).map tP)]):=by
 obtain⟨y3,e⟩:=qCx (b:=b) (L:=.int L) (st:=st) (Qe L) [] none (by rw[Q8];show 0+_≤_;omega);rw[CQ]at e;have ec:(wO L b).map tP=(Qe L).map fun k=>tP (Jr b k):=by unfold wO;rw[BF];rfl
 rw[ec];exact qi rfl (qX (qGE (W6 qZ (sz rfl))) (qX (zR (itN h1 h2 rfl) e) (qt rfl)))
def in1(c R:C3)(i:Int):Bool:=decide (0≤sel c i)&&decide (sel c i<sel R i)
def inR(R c:C3):Bool:=in1 c R 0&&(in1 c R 1&&(in1 c R 2&&true))
def inP(c R:C3):PV->Bool| .int i=>in1 c R i|_=>false
theorem YG{c:C3}{i:Int}{st:qC}(h:i=0∨i=1∨i=2):gIx (tP c) (.int i) st= .ok (.int (sel c i)) st:=by rcases h with rfl|rfl|rfl <;> rfl
theorem qK0{b:B4}{i:Int}{st:qC}(h:i=0∨i=1∨i=2):gIx (qP b) (.int i) st= .ok (.int (sel (lo3 b) i)) st:=by rcases h with rfl|rfl|rfl <;> rfl
theorem qGm{a:Ad}{c R:C3}{st:qC}:qH Wz (qA (vFz (QD [1,0] 1 (qDA a.ROOM_WAYS [0,1,2] (vC (.fn a.ROOM_WAYS))) (Qc 2) [] [] (Qf gLe gLt (vC (.int 0)) (qJ gIx (qB 0) (qB 2)) (qJ gIx (qB 1) (qB 2))))) qD) [some (tP R),some (tP c)] st= .ok (.bl (inR R c)) st:=by
 have ei:qDA a.ROOM_WAYS [0,1,2] (vC (.fn a.ROOM_WAYS)) [some (tP R),some (tP c)] st= .ok ⟨[.int 0,.int 1,.int 2],fun _=>True⟩ st:=by show (if a.ROOM_WAYS=a.ROOM_WAYS then Rs.ok (⟨[.int 0,.int 1,.int 2],fun _=>True⟩:ItP) st else .no)=_;rw[AE rfl]
 have e:=QZ (caps:=[1,0]) (n:=1) (fi:=qDA a.ROOM_WAYS [0,1,2] (vC (.fn a.ROOM_WAYS))) (g:=Qc 2) (f:=Qf gLe gLt (vC (.int 0)) (qJ gIx (qB 0) (qB 2)) (qJ gIx (qB 1) (qB 2))) (r:=[some (tP R),some (tP c)]) (st:=st) (w:=⟨[.int 0,.int 1,.int 2],fun _=>True⟩) (F:=fun p=>.bl (inP c R p)) ei trivial (by show 3≤sizeLine;decide) fun p hp=>by
  have hp:p= .int 0∨p= .int 1∨p= .int 2:=by simpa using hp
  obtain⟨i,hi,rfl⟩:∃i:Int,(i=0∨i=1∨i=2)∧p= .int i:=by
   rcases hp with rfl|rfl|rfl
   ·exact⟨0,.inl rfl,rfl⟩
   ·exact⟨1,.inr (.inl rfl),rfl⟩
   ·exact⟨2,.inr (.inr rfl),rfl⟩
  exact⟨[some (tP c),some (tP R),some (.int i)],rfl,YZ rfl (qQ (p:=tP c) (q:=.int i) rfl rfl (YG hi)) (qQ (p:=tP R) (q:=.int i) rfl rfl (YG hi))⟩
 exact (qN (qM (wp e) qZ) zw).trans rfl
theorem qKG{a:Ad}{b:B4}{R:C3}{L:Int}{st:qC}(h1:0≤L)(h2:L≤1000)(hw:W3 b):WG a [tP R,qP b,.int L] st= .ok (.bl ((wO L b).all (inR R))) st:=by
 have hl:(wO L b).length≤1000:=by rw[Yo];omega
 refine qi rfl (qX (q9 (qN (l:=[qP b,.int L]) rfl (J1 h1 h2 hw))) (qt ?_));let un:PV->C3:=fun p=>match p with | .tup [.int x,.int y,.int z]=>(x,y,z)|_=>(0,0,0);have e:=QZ (caps:=[0]) (n:=1) (fi:=QM (qB 3)) (g:=Qc 1) (f:=qH Wz (qA (vFz (QD [1,0] 1 (qDA a.ROOM_WAYS [0,1,2] (vC (.fn a.ROOM_WAYS))) (Qc 2) [] [] (Qf gLe gLt (vC (.int 0)) (qJ gIx (qB 0) (qB 2)) (qJ gIx (qB 1) (qB 2))))) qD)) (r:=[some (tP R),some (qP b),some (.int L),some (.lst ((wO L b).map tP))]) (st:=st) (w:=⟨(wO L b).map tP,fun _=>True⟩) (F:=fun p=>.bl (inR R (un p))) (WN rfl) trivial (by show ((wO L b).map tP).length≤_;rw[AN];exact small (by omega)) fun p hp=>by obtain⟨c,_,rfl⟩:=Ai.mp hp;exact⟨[some (tP R),some (tP c)],rfl,qGm⟩
 refine (qN (qM (wp e) qZ) zw).trans ?_;show Rs.ok (PV.bl (((wO L b).map tP).all fun p=>inR R (un p))) st=_;rw[List.all_map];rfl
def wB(w:Int):Bool:=(0==w)||((1==w)||((2==w)||false))
theorem wB_iff{w:Int}:wB w=true ↔ w=0∨w=1∨w=2:=by unfold wB;simp only[Bool.or_eq_true,BC,A0,Bg];omega
def rbB:PV->Bool| .tup [.int _,.int _,.int _,.int w]=>wB w|_=>false
def unQ:PV->B4| .tup [.int x,.int y,.int z,.int w]=>(x,y,z,w)|_=>(0,0,0,0)
theorem yz{p:PV}(h:rbB p=true):p=qP (unQ p)∧W3 (unQ p):=by
 unfold rbB at h;split at h;exact⟨rfl,wB_iff.mp h⟩;cases h
theorem jf{l:List PV}(h:l.length=4)(hi:l.all isInt=true):∃x y z w,l=[.int x,.int y,.int z,.int w]:=by
 match l,h with
 |[p,q,u,v],_ =>
  simp only[List.all_cons,List.all_nil,Bool.and_true,AX]at hi;obtain⟨h1,h2,h3,h4⟩:=hi;have k:∀p,isInt p=true->∃i,p=PV.int i:=fun p h=>by cases p <;> first|exact⟨_,rfl⟩|cases h
  obtain⟨x,rfl⟩:=k _ h1;obtain⟨y,rfl⟩:=k _ h2;obtain⟨z,rfl⟩:=k _ h3;obtain⟨w,rfl⟩:=k _ h4;exact⟨x,y,z,w,rfl⟩
theorem qBM{l:List PV}(h:l.length≠4∨l.all isInt=false):rbB (.tup l)=false:=by
 cases hb:rbB (.tup l) with
 |false=>rfl
 |true =>
  obtain⟨e,_⟩:=yz hb;have e:l=[.int (unQ (.tup l)).1,.int (unQ (.tup l)).2.1,.int (unQ (.tup l)).2.2.1,.int (unQ (.tup l)).2.2.2]:=by injection e
  rcases h with h|h
  ·exact absurd (by rw[e];rfl) h
  ·rw[e]at h;cases h
theorem qFF{a:Ad}{l:List PV}{r:qk}{st:qC}(hr:r[0]? = some (some (.tup l)))(hl:l.length≤1000)(h:∀p∈l,wM p=true):qH Wz (qA (vFz (QD [] 1 (QM (qB 0)) (Qc 0) [] [] (qH (WR a) (qA (qB 0) qD)))) qD) r st= .ok (.bl (l.all isInt)) st:=by
 have e:=QZ (caps:=[]) (n:=1) (fi:=QM (qB 0)) (g:=Qc 0) (f:=qH (WR a) (qA (qB 0) qD)) (r:=r) (st:=st) (w:=⟨l,fun _=>True⟩) (F:=fun p=>.bl (isInt p)) (WO (zV hr)) trivial (small (by show l.length≤100000;omega)) fun p hp=>⟨[some p],rfl,qN (l:=[p]) rfl (Yp (h p hp))⟩;exact qN (qM (wp e) qZ) zw
theorem qKS{a:Ad}{v:PV}{st:qC}(hv:okP v=true):wn a [v] st= .ok (.bl (rbB v)) st:=by
 have ei:=j9 (a:=a) (st:=st) (ZS hv);cases v with
 |tup l =>
  have h2:(Nat.ble l.length 1000&&l.all wM)=true:=hv;rw[AX,Ay]at h2;have hl:=BM h2.1;have ec:Qf gLe gLe (qB 1) (qH wu (qA (qB 0) qD)) (qB 2) (qv 3 [.tup l,.int 4,.int 4]) st= .ok (.bl (decide (4≤(l.length:Int))&&decide ((l.length:Int)≤4))) st:=qAL rfl (qN (l:=[.tup l]) rfl (Wo rfl rfl)) rfl;have ew:=qFF (a:=a) (r:=qv 3 [.tup l,.int 4,.int 4]) (st:=st) rfl hl h2.2;have e4:∀{z:Bool},((decide (4≤(l.length:Int))&&decide ((l.length:Int)≤4))&&l.all isInt)=z->zh a [.tup l,.int 4,.int 4] st= .ok (.bl z) st:=fun {z} hz=>by
   refine qi rfl (qt (qAx (qN (l:=[.tup l,.ty "tuple"]) rfl ei) ?_));cases hb:(decide (4≤(l.length:Int))&&decide ((l.length:Int)≤4)) with|true=>rw[hb]at ec hz;rw[Az]at hz;rw[←hz];exact qAx ec ew|false=>rw[hb]at ec hz;rw[BE]at hz;rw[←hz];exact yE ec
  by_cases h:l.length=4∧l.all isInt=true;obtain⟨x,y,z,w,rfl⟩:=jf h.1 h.2;refine qi rfl (qt (qAx (qN (l:=[.tup [.int x,.int y,.int z,.int w],.int 4,.int 4]) rfl (e4 rfl)) (qQ (p:=.int w) (q:=.fn a.ROOM_WAYS) (qQ (p:=.tup [.int x,.int y,.int z,.int w]) (q:=.int 3) rfl rfl rfl) rfl ?_)));show (if a.ROOM_WAYS=a.ROOM_WAYS then Rs.ok (PV.bl (wB w)) st else .no)=_;rw[AE rfl];rfl
  ·have hz:((decide (4≤(l.length:Int))&&decide ((l.length:Int)≤4))&&l.all isInt)=false:=by
    cases hz:((decide (4≤(l.length:Int))&&decide ((l.length:Int)≤4))&&l.all isInt) with|false=>rfl|true=>simp only[AX,BR]at hz;exact absurd ⟨by omega,hz.2⟩ h
   have hr:rbB (.tup l)=false:=qBM (by
    by_cases h4:l.length=4;exact .inr (by cases hq:l.all isInt with|false=>rfl|true=>exact absurd ⟨h4,hq⟩ h);exact .inl h4)
   rw[hr];exact qi rfl (qt (yE (qN (l:=[.tup l,.int 4,.int 4]) rfl (e4 hz))))
 |_=>exact qi rfl (qt (yE (qN (s1:=st) rfl (qi rfl (qt (yE (qN (s1:=st) rfl ei)))))))
def Zd(R:C3)(L:Int)(b:B4):Bool:=inR R (lo3 b)&&decide (sel (lo3 b) b.2.2.2+L≤sel R b.2.2.2)
def lbB(R:C3)(L:Int)(v:PV):Bool:=rbB v&&Zd R L (unQ v)
theorem j2{c R:C3}{i:Int}:in1 c R i=true ↔ 0≤sel c i∧sel c i<sel R i:=by unfold in1;rw[AX,BR,BR]
theorem inR_iff{c R:C3}:inR R c=true ↔ (0≤c.1∧c.1<R.1)∧(0≤c.2.1∧c.2.1<R.2.1)∧(0≤c.2.2∧c.2.2<R.2.2):=by unfold inR;rw[AX,AX,AX,j2,j2,j2];exact⟨fun h=>⟨h.1,h.2.1,h.2.2.1⟩,fun h=>⟨h.1,h.2.1,h.2.2,rfl⟩⟩
theorem qHA{R:C3}{L:Int}{b:B4}(hL:1≤L)(hw:W3 b):(wO L b).all (inR R)=Zd R L b:=by
 obtain⟨x,y,z,w⟩:=b;obtain⟨A,B,C⟩:=R;rw[CS,Ay];have hf:Zd (A,B,C) L (x,y,z,w)=true ↔ ((0≤x∧x<A)∧(0≤y∧y<B)∧(0≤z∧z<C))∧sel (x,y,z) w+L≤sel (A,B,C) w:=by unfold Zd;rw[AX,inR_iff,BR];exact Iff.rfl
 rw[hf];have hm:(∀c∈wO L (x,y,z,w),inR (A,B,C) c=true) ↔ ∀k,0≤k∧k<L->(0≤x+(if w=0 then k else 0)∧x+(if w=0 then k else 0)<A)∧(0≤y+(if w=1 then k else 0)∧y+(if w=1 then k else 0)<B)∧(0≤z+(if w=2 then k else 0)∧z+(if w=2 then k else 0)<C):=by
  constructor;intro h k hk;exact inR_iff.mp (h (Jr (x,y,z,w) k) (Ai.mpr ⟨k,upto_mem.mpr hk,rfl⟩));intro h c hc;obtain⟨k,hk,rfl⟩:=Ai.mp hc;exact inR_iff.mpr (h k (upto_mem.mp hk))
 rw[hm];have hw:w=0∨w=1∨w=2:=hw;rcases hw with rfl|rfl|rfl
 ·show (∀k,0≤k∧k<L->(0≤x+k∧x+k<A)∧(0≤y+0∧y+0<B)∧(0≤z+0∧z+0<C)) ↔ _∧x+L≤A;constructor
  ·intro h;have h1:=h 0 (by omega);have h2:=h (L-1) (by omega);omega
  ·intro h k hk;omega
 ·show (∀k,0≤k∧k<L->(0≤x+0∧x+0<A)∧(0≤y+k∧y+k<B)∧(0≤z+0∧z+0<C)) ↔ _∧y+L≤B;constructor
  ·intro h;have h1:=h 0 (by omega);have h2:=h (L-1) (by omega);omega
  ·intro h k hk;omega
 ·show (∀k,0≤k∧k<L->(0≤x+0∧x+0<A)∧(0≤y+0∧y+0<B)∧(0≤z+k∧z+k<C)) ↔ _∧z+L≤C;constructor
  ·intro h;have h1:=h 0 (by omega);have h2:=h (L-1) (by omega);omega
  ·intro h k hk;omega
theorem qEw{b:B4}{R:C3}{L:PV}{st:qC}:qH Wz (qA (vFz (QD [2,0] 1 (Qx (qA (vC (.int 3)) qD)) (Qc 2) [] [] (Qf gLe gLt (vC (.int 0)) (qJ gIx (qB 0) (qB 2)) (qJ gIx (qB 1) (qB 2))))) qD) [some (tP R),some L,some (qP b)] st= .ok (.bl (inR R (lo3 b))) st:=by
 have e:=QZ (caps:=[2,0]) (n:=1) (fi:=Qx (qA (vC (.int 3)) qD)) (g:=Qc 2) (f:=Qf gLe gLt (vC (.int 0)) (qJ gIx (qB 0) (qB 2)) (qJ gIx (qB 1) (qB 2))) (r:=[some (tP R),some L,some (qP b)]) (st:=st) (F:=fun p=>.bl (inP (lo3 b) R p)) (itN (L:=3) (by decide) (by decide) rfl) trivial (by show ((Qe 3).map PV.int).length≤_;decide) fun p hp=>by
  obtain⟨i,hi,rfl⟩:=Ai.mp hp
  have:=upto_mem.mp hi
  have hi:i=0∨i=1∨i=2:=by omega
  exact⟨[some (qP b),some (tP R),some (.int i)],rfl,YZ rfl (qQ (p:=qP b) (q:=.int i) rfl rfl (qK0 hi)) (qQ (p:=tP R) (q:=.int i) rfl rfl (YG hi))⟩
 exact (qN (qM (wp e) qZ) zw).trans rfl
theorem qKq{a:Ad}{R:C3}{L:Int}{v:PV}{st:qC}(hv:okP v=true):wF a [tP R,.int L,v] st= .ok (.bl (lbB R L v)) st:=by
 have ei:=j9 (a:=a) (st:=st) (ZS hv);cases v with
 |tup l =>
  have h2:(Nat.ble l.length 1000&&l.all wM)=true:=hv;rw[AX,Ay]at h2;have hl:=BM h2.1;have e1:Q1 (ql (qH (Qb (kit a)) (qA (qB 2) (qA (vC (.ty "tuple")) qD)))) (qv 3 [tP R,.int L,.tup l]) st= .ok false st:=w_not (b:=true) (Qd (qN (l:=[.tup l,.ty "tuple"]) rfl ei));have e2:vTB (qJ gNe (qH wu (qA (qB 2) qD)) (vC (.int 4))) (qv 3 [tP R,.int L,.tup l]) st= .ok (!decide ((l.length:Int)=4)) st:=wg (qQ (qN (l:=[.tup l]) rfl (Wo rfl rfl)) rfl len_ne);have e3:=Qd (qDr (a:=a) (r:=qv 3 [tP R,.int L,.tup l]) (st:=st) (f:=qB 2) hl h2.2 rfl);by_cases h4:(l.length:Int)=4
  ·rw[AV h4]at e2;cases hi:l.all isInt with
   |false =>
    rw[hi]at e3;have hz:lbB R L (.tup l)=false:=by unfold lbB;rw[qBM (.inr hi)];rfl
    rw[hz];exact qi rfl (qu (QR (Qi e1 (Qi e2 (w_not (b:=false) e3))) (qt rfl)))
   |true =>
    rw[hi]at e3;obtain⟨x,y,z,w,rfl⟩:=jf (by omega) hi;have e0:Qz _ (qh (vC (.bl false))) QV (qv 3 [tP R,.int L,.tup [.int x,.int y,.int z,.int w]]) st= .nx (qv 3 [tP R,.int L,.tup [.int x,.int y,.int z,.int w]]) st:=Qn (Qi e1 (Qi e2 (w_not (b:=true) e3))) rfl;have ew:vTB (qJ (gIn true) (qJ gIx (qB 2) (vC (.int 3))) (QC (qA (vC (.int 0)) (qA (vC (.int 1)) (qA (vC (.int 2)) qD))))) (qv 3 [tP R,.int L,.tup [.int x,.int y,.int z,.int w]]) st= .ok (!wB w) st:=wg ((qQ (p:=.int w) (q:=.tup [.int 0,.int 1,.int 2]) (qQ (p:=.tup [.int x,.int y,.int z,.int w]) (q:=.int 3) rfl rfl rfl) rfl rfl).trans rfl);have e5:=Qd (qEw (b:=(x,y,z,w)) (R:=R) (L:=.int L) (st:=st));refine qi rfl (qX e0 ?_);show _=RS.rt (.bl (wB w&&(inR R (lo3 (x,y,z,w))&&decide (sel (x,y,z) w+L≤sel R w)))) st;cases hw:wB w with
    |false=>rw[hw]at ew;exact qu (QR (zE ew) (qt rfl))
    |true =>
     rw[hw]at ew;have hw3:=wB_iff.mp hw;cases hin:inR R (lo3 (x,y,z,w)) with|false=>rw[hin]at e5;exact qu (QR (Qi ew (w_not (b:=false) e5)) (qt rfl))|true=>rw[hin]at e5;rw[Az,Az];refine qX (Qn (Qi ew (w_not (b:=true) e5)) rfl) (qt ?_);exact qQ (qQ (qQ (p:=qP (x,y,z,w)) (q:=.int w) rfl (qQ (p:=qP (x,y,z,w)) (q:=.int 3) rfl rfl rfl) (qK0 hw3)) rfl Q6) (qQ (p:=tP R) (q:=.int w) rfl (qQ (p:=qP (x,y,z,w)) (q:=.int 3) rfl rfl rfl) (YG hw3)) qHV
  ·rw[AY h4]at e2;have hz:lbB R L (.tup l)=false:=by unfold lbB;rw[qBM (.inl (by omega))];rfl
   rw[hz];exact qi rfl (qu (QR (Qi e1 (zE e2)) (qt rfl)))
 |_=>exact qi rfl (qu (QR (zE (w_not (b:=false) (Qd (qN (s1:=st) rfl ei)))) (qt rfl)))
def qL(b:B4):List Int:=[b.1,b.2.1,b.2.2.1,b.2.2.2]
def jB(b c:B4):Bool:=lxb (qL b) (qL c)
theorem qF7:∀a b:List Int,plts (a.map PV.int) (b.map PV.int)=some (lxb a b)
 |[],[]=>rfl
 |[],_::_=>rfl
 |_::_,[]=>rfl
 |x::a,y::b=>by
  show (if (x==y)=true then plts (a.map PV.int) (b.map PV.int) else some (decide (x<y)))=some (if x<y then true else if y<x then false else lxb a b);by_cases h:x=y;rw[AE (BC.mpr h),qF7 a b,AF (by omega),AF (by omega)]
  ·rw[AF (by rw[BC];exact h)];by_cases h1:x<y;rw[AV h1,AE h1];rw[AY h1,AF h1,AE (by omega)]
theorem qLG{c d:B4}{st:qC}:qAB (qP c) (qP d) st= .ok (.bl (jB c d)) st:=by show (if Yk (qP c) (qP d)=true then (match plts ((qL c).map PV.int) ((qL d).map PV.int) with|some r=>Rs.ok (PV.bl r) st|none=>.no) else .no)=_;have h0:Yk (qP c) (qP d)=true:=rfl;rw[AE h0,qF7];rfl
theorem qEM{bs:List B4}{i:Nat}{st:qC}(h:i<bs.length):gIx (.tup (bs.map qP)) (.int (i:Int)) st= .ok (qP bs[i]) st:=by
 refine qDO rfl ?_;unfold L2.atI;rw[Zb (by omega) (by rw[AN];omega),Option.bind_some,Bh,A3,AM h];rfl
def yR:List B4->Bool|[]=>true|[_]=>true|b::c::l=>jB b c&&yR (c::l)
theorem Jt:∀{bs:List B4},yR bs=true ↔ ∀i,(h:i+1<bs.length)->jB bs[i] bs[i+1]=true
 |[]=>⟨fun _ i h=>by simp at h,fun _=>rfl⟩
 |[_]=>⟨fun _ i h=>by simp at h,fun _=>rfl⟩
 |b::c::l=>by
  rw[yR,AX,Jt (bs:=c::l)];constructor
  ·rintro⟨h1,h2⟩ i hi;cases i with|zero=>exact h1|succ i=>exact h2 i (by simpa using hi)
  ·intro h;exact⟨h 0 (by simp),fun i hi=>h (i+1) (by simpa using hi)⟩
def adj(F:List B4)(p:PV):Bool:=match p with| .int k=>jB (F.getD (k-1).toNat (0,0,0,0)) (F.getD k.toNat (0,0,0,0))|_=>false
theorem yT{F:List B4}{i:Nat}(h:i<F.length):F.getD i (0,0,0,0)=F[i]:=by rw[Ar,AM h];rfl
theorem qF0{a:Ad}{F:List B4}{st:qC}(h40:F.length≤900):W8 a [.tup (F.map qP)] st= .ok (.bl (yR F)) st:=by
 have e:=QZ (caps:=[0]) (n:=1) (fi:=Jf (qA (vC (.int 1)) (qA (qH wu (qA (qB 0) qD)) qD))) (g:=Qc 1) (f:=qJ qAB (qJ gIx (qB 0) (qJ JU (qB 1) (vC (.int 1)))) (qJ gIx (qB 0) (qB 1))) (r:=qv 1 [.tup (F.map qP)]) (st:=st) (w:=⟨yb 1 (F.length:Int),fun _=>True⟩) (F:=fun p=>.bl (adj F p)) (itR (by decide) (by decide) (by omega) (by omega) (qM rfl (qM (qN (l:=[.tup (F.map qP)]) rfl (Wo rfl (by rw[AN]))) qZ))) trivial (by unfold yb;rw[AN,List.length_range];exact small (by omega)) fun p hp=>by
  obtain⟨i,hi,rfl⟩:=Ai.mp hp;have hi:=BA.mp hi;have h0:i<F.length:=by omega
  have h1:i+1<F.length:=by omega
  have g1:gIx (.tup (F.map qP)) (.int (1+(i:Int)-1)) st= .ok (qP F[i]) st:=by rw[show (1:Int)+(i:Int)-1=(i:Int) by omega];exact qEM h0
  have g2:gIx (.tup (F.map qP)) (.int (1+(i:Int))) st= .ok (qP F[i+1]) st:=by rw[show (1:Int)+(i:Int)=((i+1:Nat):Int) by omega];exact qEM h1
  refine⟨[some (.tup (F.map qP)),some (.int (1+(i:Int)))],rfl,(qQ (qQ rfl (qQ rfl rfl qBT) g1) (qQ rfl rfl g2) qLG).trans ?_⟩;show _=Rs.ok (PV.bl (jB (F.getD (1+(i:Int)-1).toNat (0,0,0,0)) (F.getD (1+(i:Int)).toNat (0,0,0,0)))) st;rw[show (1+(i:Int)-1).toNat=i by omega,show (1+(i:Int)).toNat=i+1 by omega,yT h0,yT h1]
 have key:(yb 1 (F.length:Int)).all (adj F)=yR F:=by
  rw[CS,Jt,Ay];constructor
  ·intro h i hi
   have:=h (.int (1+(i:Int))) (Ai.mpr ⟨i,BA.mpr (by omega),rfl⟩)
   have this:jB (F.getD (1+(i:Int)-1).toNat (0,0,0,0)) (F.getD (1+(i:Int)).toNat (0,0,0,0))=true:=this;rw[show (1+(i:Int)-1).toNat=i by omega,show (1+(i:Int)).toNat=i+1 by omega,yT (by omega),yT hi]at this;exact this
  ·intro h p hp;obtain⟨i,hi,rfl⟩:=Ai.mp hp;have hi:=BA.mp hi;have h1:i+1<F.length:=by omega
   show jB (F.getD (1+(i:Int)-1).toNat (0,0,0,0)) (F.getD (1+(i:Int)).toNat (0,0,0,0))=true;rw[show (1+(i:Int)-1).toNat=i by omega,show (1+(i:Int)).toNat=i+1 by omega,yT (by omega),yT h1];exact h i h1
 rw[←key];exact qi rfl (qt (qN (qM (wp e) qZ) zw))
theorem qGV{fi:FI}{g:FG}{rest:FL}{r r':qk}{st:qC}{p:PV}{R:Rs (List PV)}(h:g p r=some r')(h2:rest r' st=R):Q0 ⟨fi,g,[]⟩ rest r p st=R:=by unfold Q0;dsimp only;rw[h];exact h2
def tL(c:C3):List Int:=[c.1,c.2.1,c.2.2]
def cells(L:Int)(bs:List B4):List C3:=bs.flatMap (wO L)
theorem ZR{L:Int}:∀{bs:List B4},(cells L bs).length=L.toNat*bs.length|[]=>rfl|b::bs=>by show (wO L b++cells L bs).length=_;rw[AO,Yo,ZR (bs:=bs),AJ,Nat.mul_succ];omega
theorem qC9{l:List PV}(h:l.all rbB=true):l=(l.map unQ).map qP:=by rw[BF];refine (List.map_id l).symm.trans (BW fun p hp=>?_);exact (yz (Ay.mp h p hp)).1
theorem qLt(b:B4):unQ (qP b)=b:=rfl
theorem qJ9{l:List PV}(h:l.all rbB=true):∀b∈l.map unQ,W3 b:=fun b hb=>by obtain⟨p,hp,rfl⟩:=Ai.mp hb;exact (yz (Ay.mp h p hp)).2
theorem qC4{a:Ad}{L:Int}{bs:List B4}{r:qk}{st:qC}(h1:0≤L)(h2:L≤5)(hbs:bs.length≤59)(hw:∀b∈bs,W3 b)(hr1:r[1]? = some (some (.int L)))(hr2:r[2]? = some (some (.tup (bs.map qP)))):vFz (QD [1] 2 (QM (qB 2)) (Qc 1) [] [⟨(QM (qH (Qw a) (qA (qB 1) (qA (qB 0) qD)))),(Qc 2),[]⟩] (qB 2)) r st= .ok (.lst ((cells L bs).map tP)) st:=by
 have hc:Wd [1] 2 r=[some (.int L),none,none]:=by unfold Wd;simp[hr1]
 have e:QO (fun _=>True) (Q0 ⟨QM (qB 2),Qc 1,[]⟩ (wo [⟨(QM (qH (Qw a) (qA (qB 1) (qA (qB 0) qD)))),(Qc 2),[]⟩] (qB 2)) (Wd [1] 2 r)) (bs.map qP) st= .ok ((bs.map qP).flatMap fun p=>((wO L (unQ p)).map tP).flatMap fun q=>[q]) st:=by
  rw[hc];refine Wb trivial fun p hp=>?_;obtain⟨b,hb,rfl⟩:=Ai.mp hp;refine qGV rfl ?_;show ((QM (qH (Qw a) (qA (qB 1) (qA (qB 0) qD)))) [some (.int L),some (qP b),none] st).bind _=_;rw[WN (qN (l:=[qP b,.int L]) rfl (J1 h1 (by omega) (hw b hb)))];show QO _ _ _ _=_;exact Wb trivial fun q hq=>qJN rfl rfl
 have e2:((bs.map qP).flatMap fun p=>((wO L (unQ p)).map tP).flatMap fun q=>[q])=(cells L bs).map tP:=by unfold cells;rw[List.flatMap_map,List.map_flatMap];congr 1;funext b;rw[←List.map_eq_flatMap,List.map_id'];rfl
 rw[e2]at e;exact wp (qIr (w:=⟨bs.map qP,fun _=>True⟩) (WO (zV hr2)) e (by rw[AN,ZR];exact small (by have:L.toNat*bs.length≤5*59:=Nat.mul_le_mul (by omega) hbs;omega)))
theorem qER:∀l:List C3,wc yp (l.map tP)=some (l.map tL)|[]=>rfl|c::l=>by rw[Aa,wc,show yp (tP c)=some (tL c) from rfl];dsimp only;rw[qER l];rfl
def okF(R:C3)(L:Int)(bs:List B4):Bool:=yR bs&&(bs.all (Zd R L)&&(decide ((bs.length:Int)*L=vol R)&&decide (vol R=((ddT ((cells L bs).map tL)).length:Int))))
def yi(R:C3)(L:Int):PV->Bool| .tup l=>l.all rbB&&okF R L (l.map unQ)|_=>false
def isT:PV->Bool| .tup _=>true|_=>false
theorem qIK{a:Ad}{v:PV}{st:qC}(h:wM v=true):Qb (kit a) [v,.ty "tuple"] st= .ok (.bl (isT v)) st:=by cases v <;> first|rfl|cases h
theorem qJL{a:Ad}{l:List PV}{r:qk}{st:qC}(hr:r[2]? = some (some (.tup l)))(hl:l.length≤59)(h:∀p∈l,okP p=true):qH Wz (qA (vFz (QD [] 1 (QM (qB 2)) (Qc 0) [] [] (qH (wn a) (qA (qB 0) qD)))) qD) r st= .ok (.bl (l.all rbB)) st:=by
 have e:=QZ (caps:=[]) (n:=1) (fi:=QM (qB 2)) (g:=Qc 0) (f:=qH (wn a) (qA (qB 0) qD)) (r:=r) (st:=st) (w:=⟨l,fun _=>True⟩) (F:=fun p=>.bl (rbB p)) (WO (zV hr)) trivial (small (by show l.length≤100000;omega)) fun p hp=>⟨[some p],rfl,qN (l:=[p]) rfl (qKS (h p hp))⟩;exact qN (qM (wp e) qZ) zw
theorem qGh{a:Ad}{R:C3}{L:Int}{bs:List B4}{r:qk}{st:qC}(h1:1≤L)(h2:L≤1000)(hbs:bs.length≤59)(hw:∀b∈bs,W3 b)(hr0:r[0]? = some (some (tP R)))(hr1:r[1]? = some (some (.int L)))(hr:r[2]? = some (some (.tup (bs.map qP)))):qH Wz (qA (vFz (QD [0,1] 1 (QM (qB 2)) (Qc 2) [] [] (qH (WG a) (qA (qB 0) (qA (qB 2) (qA (qB 1) qD)))))) qD) r st= .ok (.bl (bs.all (Zd R L))) st:=by
 have hc:Wd [0,1] 1 r=[some (tP R),some (.int L),none]:=by unfold Wd;simp[hr0,hr1]
 have e:=QZ (caps:=[0,1]) (n:=1) (fi:=QM (qB 2)) (g:=Qc 2) (f:=qH (WG a) (qA (qB 0) (qA (qB 2) (qA (qB 1) qD)))) (r:=r) (st:=st) (w:=⟨bs.map qP,fun _=>True⟩) (F:=fun p=>.bl (Zd R L (unQ p))) (WO (zV hr)) trivial (by show (bs.map qP).length≤_;rw[AN];exact small (by omega)) fun p hp=>by
  obtain⟨b,hb,rfl⟩:=Ai.mp hp;refine⟨[some (tP R),some (.int L),some (qP b)],by rw[hc];rfl,(qN (l:=[tP R,qP b,.int L]) rfl (qKG (by omega) h2 (hw b hb))).trans ?_⟩;rw[qHA h1 (hw b hb)];rfl
 refine (qN (qM (wp e) qZ) zw).trans ?_;show Rs.ok (PV.bl ((bs.map qP).all fun p=>Zd R L (unQ p))) st=_;rw[List.all_map];rfl
theorem qHu{a:Ad}{R:C3}{L:Int}{v:PV}{st:qC}(hR:Rm R)(hV:vol R≤1000)(h1:2≤L)(h2:L≤5)(hv:okV v=true):Qt a [tP R,.int L,v] st= .ok (.bl (yi R L v)) st:=by
 have ei:=qIK (a:=a) (st:=st) (jI hv);have e0:Wu (qH (Qg a) (qA (qB 0) (qA (qB 1) (qA (vC (.int 1000)) qD)))) (qv 4 [tP R,.int L,v]) st= .nx (qv 4 [tP R,.int L,v]) st:=yX (qN (l:=[tP R,.int L,.int 1000]) rfl (qE2 hR h1 h2 hV));have e1':Q1 (ql (qH (Qb (kit a)) (qA (qB 2) (qA (vC (.ty "tuple")) qD)))) (qv 4 [tP R,.int L,v]) st= .ok (!isT v) st:=w_not (Qd (qN (l:=[v,.ty "tuple"]) rfl ei));cases v with
 |tup l =>
  have h3:(Nat.ble l.length 59&&l.all okP)=true:=hv;rw[AX,Ay]at h3;have hl:=BM h3.1;have e1:=e1';have e2:=Qd (qJL (a:=a) (r:=qv 4 [tP R,.int L,.tup l]) (st:=st) rfl hl h3.2);refine qi rfl (qX e0 ?_);show _=RS.rt (.bl (l.all rbB&&okF R L (l.map unQ))) st;cases hb:l.all rbB with
  |false=>rw[hb]at e2;exact qu (QR (Qi e1 (zE (w_not (b:=false) e2))) (qt rfl))
  |true =>
   rw[hb]at e2;have hw:=qJ9 hb;have hbk:=qC9 hb;have hbl:(l.map unQ).length≤59:=by rw[AN];exact hl
   generalize l.map unQ=bs at hw hbk hbl;subst hbk;have e3:ql (qH (W8 a) (qA (qB 2) qD)) (qv 4 [tP R,.int L,.tup (bs.map qP)]) st= .ok (yR bs) st:=Qd (qN (l:=[.tup (bs.map qP)]) rfl (qF0 (by omega)));rw[Az];unfold okF;cases hr:yR bs with
   |false=>rw[hr]at e3;exact qu (QR (Qi e1 (Qi (w_not (b:=true) e2) (w_not (b:=false) e3))) (qt rfl))
   |true =>
    rw[hr]at e3;have e4:=Qd (qGh (a:=a) (R:=R) (L:=L) (bs:=bs) (r:=qv 4 [tP R,.int L,.tup (bs.map qP)]) (st:=st) (by omega) (by omega) hbl hw rfl rfl rfl);refine qX (Qn (Qi e1 (Qi (w_not (b:=true) e2) (w_not (b:=true) e3))) rfl) ?_;rw[Az];cases hf:bs.all (Zd R L) with
    |false=>rw[hf]at e4;exact qu (QR (w_not (b:=false) e4) (qt rfl))
    |true =>
     rw[hf]at e4;rw[Az];have e5:=qC4 (a:=a) (L:=L) (bs:=bs) (r:=qv 4 [tP R,.int L,.tup (bs.map qP)]) (st:=st) (by omega) h2 hbl hw rfl rfl;have hcl:((cells L bs).length:Int)=(bs.length:Int)*L:=by rw[ZR,Int.natCast_mul,Int.mul_comm,CN (by omega)]
     have hc299:(cells L bs).length≤299:=by rw[ZR];have:L.toNat*bs.length≤5*59:=Nat.mul_le_mul (by omega) hbl;omega
     refine qX (Qn (w_not (b:=true) e4) rfl) (qX (q9 e5) (qt ?_));have el:qH wu (qA (qB 3) qD) [some (tP R),some (.int L),some (.tup (bs.map qP)),some (.lst ((cells L bs).map tP))] st= .ok (.int ((bs.length:Int)*L)) st:=qN (l:=[.lst ((cells L bs).map tP)]) rfl (Wo rfl (by rw[AN,hcl]));have em:qH (wS a) (qA (qB 0) qD) [some (tP R),some (.int L),some (.tup (bs.map qP)),some (.lst ((cells L bs).map tP))] st= .ok (.int (vol R)) st:=qN (l:=[tP R]) rfl (YD hR);have es:Yg (qB 3) [some (tP R),some (.int L),some (.tup (bs.map qP)),some (.lst ((cells L bs).map tP))] st= .ok (.int ((ddT ((cells L bs).map tL)).length:Int)) st:=by refine qJE rfl ?_;unfold Ja;rw[show ZM st (.lst ((cells L bs).map tP))=some ((cells L bs).map tP) from rfl];dsimp only;rw[qER];dsimp only;rw[AE (by rw[AN];exact hc299)]
     have dq:∀i j:Int,(i==j)=decide (i=j):=fun i j=>by rw[CS,BC,decide_eq_true_iff]
     by_cases h:(bs.length:Int)*L=vol R
     ·rw[AV h,Az];refine yc el em (by rw[Ws,dq,AV h]) es ?_;rw[Ws,dq]
     ·rw[AY h,BE];exact yK el em (by rw[Ws,dq,AY h])
 |_=>exact qi rfl (qX e0 (qu (QR (zE e1') (qt rfl))))
theorem inl_iff{a b:List Int}:(a.map (Sum.inl:Int->L2.Key))=b.map Sum.inl ↔ a=b:=by
 constructor
 ·intro h;induction a generalizing b with
  |nil=>cases b with|nil=>rfl|cons _ _=>cases h
  |cons x a ih=>cases b with|nil=>cases h|cons y b=>rw[Aa,Aa]at h;injection h with h1 h2;injection h1 with h1;rw[h1,ih h2]
 ·intro h;rw[h]
def dT(K:List (List Int)):List (List L2.Key×PV):=K.map fun k=>(k.map Sum.inl,.bl true)
theorem qIV{K:List (List Int)}{k:List Int}:qAs (dT K) (k.map Sum.inl) (.bl true)=dT (Wf K k):=by
 unfold qAs Wf;have h1:((dT K).any fun kv=>decide (kv.1=k.map Sum.inl))=decide (k∈K):=by
  rw[CS,List.any_eq_true,decide_eq_true_iff];constructor
  ·rintro⟨e,he,h⟩;obtain⟨q,hq,rfl⟩:=Ai.mp he;rw[←inl_iff.mp (of_decide_eq_true h)];exact hq
  ·intro h;exact⟨_,Ai.mpr ⟨k,h,rfl⟩,AV rfl⟩
 rw[h1];by_cases hk:k∈K;rw[AV hk,AE rfl,AE hk];unfold dT;rw[BF];refine BW fun q _=>?_;show (if q.map Sum.inl=k.map Sum.inl then (q.map Sum.inl,PV.bl true) else (q.map Sum.inl,PV.bl true))=_;split <;> rfl
 ·rw[AY hk,AF (by decide),AF hk];unfold dT;rw[BT];rfl
theorem qEs{K:List (List Int)}:(dT K).length=K.length:=AN _
theorem qEQ{st j:qC}{b:SO}:(st++b::j)[st.length]? = some b:=by simp
theorem qIy{st j:qC}{b o:SO}:(st++b::j).set st.length o=st++o::j:=by rw[Bu _ _ (AG _),Nat.sub_self];rfl
theorem qB9{st g:qC}{X:List PV}{x0 x1 x2 x4:Option PV}:∀(cs:List C3) (K:List (List Int)) (x5:Option PV),K.length+cs.length≤1000->∃y5,Qj (fun s=>s[st.length+1+g.length]? = some (.l X)) (QH 5) (YJ (qB 3) (qB 5) (vC (.bl true))) (cs.map tP) [x0,x1,x2,some (.ref st.length),x4,x5] (st ++ .d (dT K)::(g++[.l X]))= .nx [x0,x1,x2,some (.ref st.length),x4,y5] (st ++ .d (dT ((cs.map tL).foldl Wf K))::(g++[.l X]))
 |[],K,x5,_=>⟨x5,Qa WW⟩
 |c::cs,K,x5,h=>by
  rw[AJ]at h;have e:=qIl (f:=vC (.bl true)) (fb:=qB 3) (fc:=qB 5) (r:=[x0,x1,x2,some (.ref st.length),x4,some (tP c)]) (st:=st ++ .d (dT K)::(g++[.l X])) (p:=.bl true) (q:=tP c) (k:=(tL c).map Sum.inl) (kvs:=dT K) (n:=st.length) rfl rfl rfl rfl qEQ (by rw[qEs];exact Ah (show K.length<1001 by omega) (by decide));rw[qIV,qIy]at e;have hl:(Wf K (tL c)).length≤K.length+1:=by
   unfold Wf;split;omega;rw[AO];exact AG _
  obtain⟨y5,e2⟩:=qB9 (st:=st) (g:=g) (X:=X) (x0:=x0) (x1:=x1) (x2:=x2) (x4:=x4) cs (Wf K (tL c)) (some (tP c)) (by omega);exact⟨y5,WD WW rfl e e2⟩
def aft(pv:Option B4)(b:B4):Bool:=match pv with|none=>true|some c=>jB c b
def ZJ(R:C3)(L:Int):Option B4->List PV->Bool|_,[]=>true|pv,p::suf=>(lbB R L p&&aft pv (unQ p))&&ZJ R L (some (unQ p)) suf
def Pv(pre:List PV)(pv:Option B4):Prop:=(pv=none∧pre=[])∨∃pre' b,pv=some b∧pre=pre'++[qP b]
theorem qFI{pre suf:List PV}{p:PV}{st:qC}:gIx (.tup (pre++p::suf)) (.int (pre.length:Int)) st= .ok p st:=by
 refine qDO rfl ?_;unfold L2.atI;rw[Zb (by omega) (by rw[AO,AJ];omega),Option.bind_some,Bh];simp
theorem qCN{a:Ad}{R:C3}{L:Int}{st:qC}{l:List PV}(h1:1≤L)(h2:L≤5)(hok:∀p∈l,okP p=true):∀(suf pre:List PV) (pv:Option B4) (K:List (List Int)) (g:qC) (x4 x5:Option PV),l=pre++suf->Pv pre pv->K.length+5*suf.length≤900 ->
  (ZJ R L pv suf=true->∃y4 y5 g',Qj (fun _=>True) (QH 4) (jr a) ((List.range' pre.length suf.length).map fun (i:Nat)=>PV.int (i:Int)) [some (tP R),some (.int L),some (.tup l),some (.ref st.length),x4,x5] (st ++ .d (dT K)::g)= .nx [some (tP R),some (.int L),some (.tup l),some (.ref st.length),y4,y5] (st ++ .d (dT (((cells L (suf.map unQ)).map tL).foldl Wf K))::g')) ∧
  (ZJ R L pv suf=false->∃S,Qj (fun _=>True) (QH 4) (jr a) ((List.range' pre.length suf.length).map fun (i:Nat)=>PV.int (i:Int)) [some (tP R),some (.int L),some (.tup l),some (.ref st.length),x4,x5] (st ++ .d (dT K)::g)= .rt (.bl false) (st++S))
 |[],pre,pv,K,g,x4,x5,_,_,_=>⟨fun _=>⟨x4,x5,g,Qa trivial⟩,fun h=>by cases h⟩
 |p::suf,pre,pv,K,g,x4,x5,hl,hp,hK=>by
  rw[AJ]at hK;have hpm:p∈l:=by rw[hl];simp
  have gx1:∀S:qC,gIx (.tup l) (.int (pre.length:Int)) S= .ok p S:=fun S=>by rw[hl];exact qFI
  have elb:=qKq (a:=a) (R:=R) (L:=L) (v:=p) (st:=st ++ .d (dT K)::g) (hok p hpm);have er:((List.range' pre.length (p::suf).length).map fun (i:Nat)=>PV.int (i:Int))= .int (pre.length:Int)::((List.range' (pre++[p]).length suf.length).map fun (i:Nat)=>PV.int (i:Int)):=by rw[AJ,List.range'_succ,Aa,AO,Am]
  rw[er];let r:qk:=[some (tP R),some (.int L),some (.tup l),some (.ref st.length),some (.int (pre.length:Int)),x5];have et:ql (qH (wF a) (qA (qB 0) (qA (qB 1) (qA (qJ gIx (qB 2) (qB 4)) qD)))) r (st ++ .d (dT K)::g)= .ok (lbB R L p) (st ++ .d (dT K)::g):=Qd (qN (l:=[tP R,.int L,p]) (qM rfl (qM rfl (qM (qQ (p:=.tup l) (q:=.int (pre.length:Int)) rfl rfl (gx1 _)) qZ))) elb);cases hb:lbB R L p with
  |false=>rw[hb]at et;refine⟨fun h=>?_,fun _=>⟨.d (dT K)::g,jV trivial rfl (qu (QR (zE (w_not (b:=false) et)) (qt rfl)))⟩⟩;unfold ZJ at h;rw[hb,BE,BE]at h;cases h
  |true =>
   rw[hb]at et;have hrb:rbB p=true:=by unfold lbB at hb;exact (AX _ _ ▸ hb).1
   obtain⟨hpe,hw⟩:=yz hrb;generalize hbq:unQ p=b at hpe hw;subst hpe;have e2:wK (vTB (qJ gGt (qB 4) (vC (.int 0)))) (Q1 (vTB (qJ qAB (qJ gIx (qB 2) (qJ JU (qB 4) (vC (.int 1)))) (qJ gIx (qB 2) (qB 4))))) r (st ++ .d (dT K)::g)= .ok (!aft pv b) (st ++ .d (dT K)::g):=by
    rcases hp with⟨rfl,rfl⟩|⟨pre',c,rfl,rfl⟩
    ·exact yD (wg (qQ (p:=.int 0) (q:=.int 0) rfl rfl rfl))
    ·have gx0:gIx (.tup l) (.int (((pre'++[qP c]).length:Int)-1)) (st ++ .d (dT K)::g)= .ok (qP c) (st ++ .d (dT K)::g):=by
      rw[show (((pre'++[qP c]).length:Int)-1)=(pre'.length:Int) by rw[AO,Am];omega,hl,Av];exact qFI
     exact zd (wg (qQ (q:=.int 0) rfl rfl (qEU (by rw[AO,Am];omega)))) (w_not (wg (qQ (qQ (p:=.tup l) rfl (qQ rfl rfl qBT) gx0) (qQ (p:=.tup l) (q:=.int ((pre'++[qP c]).length:Int)) rfl rfl (gx1 _)) qLG)))
   have hlo:ZJ R L pv (qP b::suf)=(aft pv b&&ZJ R L (some b) suf):=by show ((lbB R L (qP b)&&aft pv (unQ (qP b)))&&ZJ R L (some (unQ (qP b))) suf)=_;rw[hb,Az,qLt]
   rw[hlo];cases ht:aft pv b with
   |false=>rw[ht]at e2;exact⟨(fun h=>by cases h),fun _=>⟨.d (dT K)::g,jV trivial rfl (qu (QR (Qi (w_not (b:=true) et) e2) (qt rfl)))⟩⟩
   |true =>
    rw[ht]at e2;rw[Az];have hcv:(wO L b).length≤5:=by rw[Yo];omega
    have ec:=qGO (a:=a) (b:=b) (L:=L) (st:=st ++ .d (dT K)::g) (by omega) (by omega);rw[qCF,qCh]at ec;obtain⟨y5,ei⟩:=qB9 (st:=st) (g:=g) (X:=(wO L b).map tP) (x0:=some (tP R)) (x1:=some (.int L)) (x2:=some (.tup l)) (x4:=some (.int (pre.length:Int))) (wO L b) K x5 (by omega);have hfl:(((wO L b).map tL).foldl Wf K).length≤K.length+5:=by
     have:=YE ((wO L b).map tL) K
     rw[AN]at this;omega
    have eb:jr a r (st ++ .d (dT K)::g)= .nx [some (tP R),some (.int L),some (.tup l),some (.ref st.length),some (.int (pre.length:Int)),y5] (st ++ .d (dT (((wO L b).map tL).foldl Wf K))::(g++[.l ((wO L b).map tP)])) :=
     qX (Qn (Qi (w_not (b:=true) et) e2) rfl) (zR (qBD (qN (l:=[qP b,.int L]) (qM (qQ (p:=.tup l) (q:=.int (pre.length:Int)) rfl rfl (gx1 _)) (qM rfl qZ)) ec) WW) ei)
    obtain⟨i1,i2⟩:=qCN (a:=a) (R:=R) (L:=L) (st:=st) (l:=l) h1 h2 hok suf (pre++[qP b]) (some b) (((wO L b).map tL).foldl Wf K) (g++[.l ((wO L b).map tP)]) (some (.int (pre.length:Int))) y5 (by rw[hl,Av];rfl) (.inr ⟨pre,b,rfl,rfl⟩) (by omega);have hcells:((cells L ((qP b::suf).map unQ)).map tL).foldl Wf K=((cells L (suf.map unQ)).map tL).foldl Wf (((wO L b).map tL).foldl Wf K):=by show ((wO L b++cells L (suf.map unQ)).map tL).foldl Wf K=_;rw[BT,List.foldl_append]
    refine⟨fun h=>?_,fun h=>?_⟩;obtain⟨y4,y5',g',e⟩:=i1 h;rw[hcells];exact⟨y4,y5',g',WD trivial rfl eb e⟩;obtain⟨S,e⟩:=i2 h;exact⟨S,WD trivial rfl eb e⟩
def qB0:Option B4->List B4->Bool|_,[]=>true|pv,b::bs=>aft pv b&&qB0 (some b) bs
theorem ja:∀{bs:List B4} {c:B4},qB0 (some c) bs=yR (c::bs)|[],_=>rfl|b::bs,c=>by show (jB c b&&qB0 (some b) bs)=(jB c b&&yR (b::bs));rw[ja]
theorem qC6{bs:List B4}:qB0 none bs=yR bs:=by
 cases bs with|nil=>rfl|cons b bs=>show (true&&qB0 (some b) bs)=_;rw[Az,ja]
theorem Jl{R:C3}{L:Int}:∀{suf:List PV} {pv:Option B4},ZJ R L pv suf=(suf.all (lbB R L)&&qB0 pv (suf.map unQ))|[],_=>rfl|p::suf,pv=>by show ((lbB R L p&&aft pv (unQ p))&&ZJ R L (some (unQ p)) suf)=((lbB R L p&&suf.all (lbB R L))&&(aft pv (unQ p)&&qB0 (some (unQ p)) (suf.map unQ)));rw[Jl];cases lbB R L p <;> cases aft pv (unQ p) <;> cases suf.all (lbB R L) <;> rfl
theorem qEV{R:C3}{L:Int}:∀{l:List PV},l.all (lbB R L)=(l.all rbB&&(l.map unQ).all (Zd R L))|[]=>rfl|p::l=>by show ((rbB p&&Zd R L (unQ p))&&l.all (lbB R L))=((rbB p&&l.all rbB)&&(Zd R L (unQ p)&&(l.map unQ).all (Zd R L)));rw[qEV];cases rbB p <;> cases Zd R L (unQ p) <;> cases l.all rbB <;> rfl
theorem qKx{R:C3}{r:qk}{st:qC}(hR:Rm R)(h0:r[0]? = some (some (tP R))):qJ WA (qJ WA (qJ gIx (qB 0) (vC (.int 0))) (qJ gIx (qB 0) (vC (.int 1)))) (qJ gIx (qB 0) (vC (.int 2))) r st= .ok (.int (vol R)) st:=by obtain⟨⟨a1,a2⟩,⟨b1,b2⟩,c1,c2⟩:=hR;have g:∀i:Int,(i=0∨i=1∨i=2)->qJ gIx (qB 0) (vC (.int i)) r st= .ok (.int (sel R i)) st:=fun i hi=>qQ (p:=tP R) (q:=.int i) (zV h0) rfl (YG hi);exact qQ (qQ (p:=.int R.1) (q:=.int R.2.1) (g 0 (.inl rfl)) (g 1 (.inr (.inl rfl))) (zg (by omega))) (q:=.int R.2.2) (g 2 (.inr (.inr rfl))) (zg (by omega))
theorem qI7{a:Ad}{R:C3}{L:Int}{v:PV}{st:qC}(hR:Rm R)(h1:2≤L)(h2:L≤5)(hv:okV v=true):∃g,Qp a [tP R,.int L,v] st= .ok (.bl (yi R L v)) (st++g):=by
 have ei:=qIK (a:=a) (st:=st) (jI hv);have e1:Q1 (ql (qH (Qb (kit a)) (qA (qB 2) (qA (vC (.ty "tuple")) qD)))) (qv 6 [tP R,.int L,v]) st= .ok (!isT v) st:=w_not (Qd (qN (l:=[v,.ty "tuple"]) rfl ei));cases v with
 |tup l =>
  have h3:(Nat.ble l.length 59&&l.all okP)=true:=hv;rw[AX,Ay]at h3;have hl:=BM h3.1;have en:∀{r:qk} {S:qC},r[1]? = some (some (.int L))->r[2]? = some (some (.tup l))->qJ WA (qH wu (qA (qB 2) qD)) (qB 1) r S= .ok (.int ((l.length:Int)*L)) S:=fun {r S} hr1 hr2=>qQ (qN (l:=[.tup l]) (qM (zV hr2) qZ) (Wo rfl rfl)) (zV hr1) (zg (by omega));have dq:∀i j:Int,(i==j)=decide (i=j):=fun i j=>by rw[CS,BC,decide_eq_true_iff]
  have e2:vTB (qJ gNe (qJ WA (qH wu (qA (qB 2) qD)) (qB 1)) (qJ WA (qJ WA (qJ gIx (qB 0) (vC (.int 0))) (qJ gIx (qB 0) (vC (.int 1)))) (qJ gIx (qB 0) (vC (.int 2))))) (qv 6 [tP R,.int L,.tup l]) st= .ok (!decide ((l.length:Int)*L=vol R)) st:=wg ((qQ (en rfl rfl) (qKx hR rfl) rfl).trans (by show Rs.ok (PV.bl (!((l.length:Int)*L==vol R))) st=_;rw[dq]));have hfb:yi R L (.tup l)=(ZJ R L none l&&(decide ((l.length:Int)*L=vol R)&&decide (vol R=((ddT ((cells L (l.map unQ)).map tL)).length:Int)))):=by rw[Jl,qEV,qC6];show (l.all rbB&&(yR (l.map unQ)&&((l.map unQ).all (Zd R L)&&(decide (((l.map unQ).length:Int)*L=vol R)&&_))))=_;rw[AN];cases l.all rbB <;> cases yR (l.map unQ) <;> cases (l.map unQ).all (Zd R L) <;> rfl
  rw[hfb];by_cases hn:(l.length:Int)*L=vol R
  ·rw[AV hn]at e2;rw[AV hn,Az];obtain⟨i1,i2⟩:=qCN (a:=a) (R:=R) (L:=L) (st:=st) (l:=l) (by omega) h2 h3.2 l [] none [] [] none none rfl (.inl ⟨rfl,rfl⟩) (by show 0+_≤_;omega);have eit:∀{r:qk} {S:qC},r[2]? = some (some (.tup l))->Qx (qA (qH wu (qA (qB 2) qD)) qD) r S= .ok ⟨(List.range' ([]:List PV).length l.length).map fun (i:Nat)=>PV.int (i:Int),fun _=>True⟩ S:=fun {r S} hr2=>by
    have e:=itN (L:=(l.length:Int)) (r:=r) (st:=S) (f:=qA (qH wu (qA (qB 2) qD)) qD) (by omega) (by omega) (qM (qN (l:=[.tup l]) (qM (zV hr2) qZ) (Wo rfl rfl)) qZ);rw[e];unfold Qe;rw[BF,Bh,List.range_eq_range'];rfl
   have e0:Qz _ (qh (vC (.bl false))) QV (qv 6 [tP R,.int L,.tup l]) st= .nx (qv 6 [tP R,.int L,.tup l]) st:=Qn (Qi e1 e2) rfl;cases hb:ZJ R L none l with
   |false=>obtain⟨S,e⟩:=i2 hb;exact⟨S,qi rfl (qX e0 (qX (r':=[some (tP R),some (.int L),some (.tup l),some (.ref st.length),none,none]) (s1:=st++[SO.d []]) rfl (qu (zR (eit rfl) e))))⟩
   |true =>
    obtain⟨y4,y5,g',e⟩:=i1 hb;refine⟨.d (dT (((cells L (l.map unQ)).map tL).foldl Wf []))::g',qi rfl (qX e0 (qX (r':=[some (tP R),some (.int L),some (.tup l),some (.ref st.length),none,none]) (s1:=st++[SO.d []]) rfl (qX (zR (eit rfl) e) (qt ?_))))⟩;have el:qH qAq (qA (qB 3) qD) [some (tP R),some (.int L),some (.tup l),some (.ref st.length),y4,y5] (st ++ .d (dT (((cells L (l.map unQ)).map tL).foldl Wf []))::g')= .ok (.int ((ddT ((cells L (l.map unQ)).map tL)).length:Int)) (st ++ .d (dT (((cells L (l.map unQ)).map tL).foldl Wf []))::g'):=by refine qN (l:=[.ref st.length]) rfl ?_;unfold qAq;dsimp only;rw[qEQ];dsimp only;rw[qEs];rfl
    refine (qQ el (en rfl rfl) Ws).trans ?_;rw[dq,hn,Az];have hd:decide (((ddT ((cells L (l.map unQ)).map tL)).length:Int)=vol R)=decide (vol R=((ddT ((cells L (l.map unQ)).map tL)).length:Int)):=decide_eq_decide.mpr ⟨Eq.symm,Eq.symm⟩;rw[hd]
  ·rw[AY hn]at e2;rw[AY hn,BE,Bo];exact⟨[],by rw[Au];exact qi rfl (qu (QR (Qi e1 e2) (qt rfl)))⟩
 |_=>exact⟨[],by rw[Au];exact qi rfl (qu (QR (zE e1) (qt rfl)))⟩
theorem qGG{a:Ad}{st j:qC}{x:Int}:∃v,okV v=true∧zN a [.ref st.length] (st ++ .l [.int x]::j)= .ok v (st ++ .l [.int (x/27)]::j):=by
 have t1:=Q5 (a:=a) (st:=st) (j:=j) (x:=x) (m:=27) ⟨by decide,by decide⟩;have hx:=wy (x:=x) (m:=27) (by decide);let l1:List PV:=[.non,.bl true,.bl false,.int (-1),.int 0,.int 1,.int 2,.int 5,.int 6,.str "",.str "0",.str "none",.tup [],.tup [.int 0],.tup [.int 0,.int 0],.tup [.int 0,.int 0,.int 0],.lst [.int 0],.dct,.tup [.int 0,.int 0,.bl true]];let l2:List PV:=[.tup [.tup [.int 0,.int 0,.int 0]],.tup [.tup [.int 0,.int 0,.int 1]],.lst [.tup [.int 0,.int 0,.int 0]],.int (10 ^ 39),.tup [.int 0,.int 0,.int 2],.tup [.int 0,.int (-1),.int 0],.tup [.tup [.int 0,.int 0]],.tup [.int 0,.int 0,.int 0,.int 0]];obtain⟨p,hp,e⟩:=qBt (l:=l1++l2) (i:=x%27) (st:=st ++ .l [.int (x/27)]::j) hx.1 hx.2;refine⟨p,Ay.mp (show (l1++l2).all okV=true from rfl) p hp,qi rfl (qX (q9 (p:=.lst l1) rfl) (qX (q9 (p:=.lst (l1++l2)) (wp (YQ (l:=l1) (m:=l2) rfl rfl rfl rfl (sz rfl)))) (qt (qQ rfl (qN (l:=[.ref st.length,.int 27]) (qM rfl (qM (qN (l:=[.lst (l1++l2)]) rfl (Wo rfl rfl)) qZ)) t1) e))))⟩
theorem qEl{p q:Int}{st:qC}:J8 [.int p,.int q] st= .ok (.int (if q<p then q else p)) st:=rfl
theorem qIj{A B C k:Int}{r:qk}{st:qC}(h5:r[5]? = some (some (.lst [.int A,.int B,.int C])))(h6:r[6]? = some (some (.int k)))(hk:k=0∨k=1∨k=2):∃R:C3,(R=(A,B,C)∨R=(B,C,A)∨R=(C,A,B))∧qH WM (qA (vFz (Z2 (j5 (qB 5) (QN (qB 6)) QP) (j5 (qB 5) QP (QN (qB 6))))) qD) r st= .ok (tP R) st:=by
 have e:∀{l m:List PV},wk [.int A,.int B,.int C] (some k) none=l->wk [.int A,.int B,.int C] none (some k)=m->l.length+m.length≤1000->qH WM (qA (vFz (Z2 (j5 (qB 5) (QN (qB 6)) QP) (j5 (qB 5) QP (QN (qB 6))))) qD) r st= .ok (.tup (l++m)) st:=fun {l m} hl hm hs =>
  qN (qM (wp (YQ (l:=l) (m:=m) ((qIF (zV h5) (wt (zV h6)) rfl rfl).trans (by rw[hl])) ((qIF (zV h5) rfl (wt (zV h6)) rfl).trans (by rw[hm])) rfl rfl (small (by omega)))) qZ) (YA rfl)
 rcases hk with rfl|rfl|rfl
 ·exact⟨(A,B,C),.inl rfl,e (l:=[.int A,.int B,.int C]) (m:=[]) rfl rfl (show 3+0≤1000 by decide)⟩
 ·exact⟨(B,C,A),.inr (.inl rfl),e (l:=[.int B,.int C]) (m:=[.int A]) rfl rfl (show 2+1≤1000 by decide)⟩
 ·exact⟨(C,A,B),.inr (.inr rfl),e (l:=[.int C]) (m:=[.int A,.int B]) rfl rfl (show 1+2≤1000 by decide)⟩
theorem qHv{a:Ad}{st j:qC}{x:Int}:∃(R:C3) (y:Int),Rm R∧vol R≤36∧R.1≤36∧R.2.1≤36∧R.2.2≤36∧zW a [.ref st.length,.int 36] (st ++ .l [.int x]::j)= .ok (tP R) (st ++ .l [.int y]::j):=by
 have t1:=Q5 (a:=a) (st:=st) (j:=j) (x:=x) (m:=6) ⟨by decide,by decide⟩;have m1:=wy (x:=x) (m:=6) (by decide);generalize x/6=x1 at t1;generalize hA:1+x%6=A;have hA1:1≤A∧A≤6:=by omega
 have hd1:6≤36/A:=by
  have:A=1∨A=2∨A=3∨A=4∨A=5∨A=6:=by omega
  rcases this with rfl|rfl|rfl|rfl|rfl|rfl <;> decide
 have t2:=Q5 (a:=a) (st:=st) (j:=j) (x:=x1) (m:=6) ⟨by decide,by decide⟩;have m2:=wy (x:=x1) (m:=6) (by decide);generalize x1/6=x2 at t2;generalize hB:1+x1%6=B;have hB1:1≤B∧B≤6:=by omega
 have hAB:1≤A*B∧A*B≤36:=by
  have h1:A*B≤6*6:=CB hA1.2 hB1.2 (by omega) (by omega);have h2:1*1≤A*B:=CB hA1.1 hB1.1 (by omega) (by omega);omega
 generalize hM:(if 36/(A*B)<8 then 36/(A*B) else 8)=M;have hq:1≤36/(A*B):=by
  have:1*(A*B)≤36:=by omega
  exact (Int.le_ediv_iff_mul_le (by omega)).mpr this
 have hM1:1≤M∧M≤8∧M≤36/(A*B):=by subst hM;split <;> omega
 have t3:=Q5 (a:=a) (st:=st) (j:=j) (x:=x2) (m:=M) ⟨by omega,by omega⟩;have m3:=wy (x:=x2) (m:=M) (by omega);generalize x2/M=x3 at t3;generalize hC:1+x2%M=C;have hC1:1≤C∧C≤M:=by omega
 have hV:A*B*C≤36:=by
  have h1:C*(A*B)≤36:=(Int.le_ediv_iff_mul_le (by omega)).mp (by omega);rw[Int.mul_comm];exact h1
 have t4:=Q5 (a:=a) (st:=st) (j:=j) (x:=x3) (m:=3) ⟨by decide,by decide⟩;have m4:=wy (x:=x3) (m:=3) (by decide);obtain⟨R,hR,er⟩:=qIj (A:=A) (B:=B) (C:=C) (k:=x3%3) (r:=[some (.ref st.length),some (.int 36),some (.int A),some (.int B),some (.int C),some (.lst [.int A,.int B,.int C]),some (.int (x3%3))]) (st:=st ++ .l [.int (x3/3)]::j) rfl rfl (by omega);refine⟨R,x3/3,?_,?_,?_,?_,?_,?_⟩;rcases hR with rfl|rfl|rfl <;> exact⟨by dsimp only;omega,by dsimp only;omega,by dsimp only;omega⟩
 ·rcases hR with rfl|rfl|rfl
  ·exact hV
  ·show B*C*A≤36;rw[Int.mul_comm,←Int.mul_assoc];exact hV
  ·show C*A*B≤36;rw[Int.mul_assoc,Int.mul_comm];exact hV
 ·rcases hR with rfl|rfl|rfl <;> dsimp only <;> omega
 ·rcases hR with rfl|rfl|rfl <;> dsimp only <;> omega
 ·rcases hR with rfl|rfl|rfl <;> dsimp only <;> omega
 ·refine qi rfl (qX (q9 (p:=.int A) (qQ rfl (qN (l:=[.ref st.length,.int 6]) rfl t1) (by rw[Q6,hA]))) ?_);refine qX (q9 (p:=.int B) (qQ rfl (qN (l:=[.ref st.length,.int 6]) (qM rfl (qM (qN (l:=[.int 6,.int (36/A)]) (qM rfl (qM (qQ rfl rfl (qFc ⟨by omega,by omega⟩)) qZ)) (by rw[qEl,AF (by omega)])) qZ)) t2) (by rw[Q6,hB]))) ?_;refine qX (q9 (p:=.int C) (qQ rfl (qN (l:=[.ref st.length,.int M]) (qM rfl (qM (qN (l:=[.int 8,.int (36/(A*B))]) (qM rfl (qM (qQ rfl (qQ (p:=.int A) (q:=.int B) rfl rfl (zg (by omega))) (qFc ⟨by omega,by omega⟩)) qZ)) (by rw[qEl,hM])) qZ)) t3) (by rw[Q6,hC]))) ?_;exact qX (q9 (p:=.lst [.int A,.int B,.int C]) rfl) (qX (q9 (qN (l:=[.ref st.length,.int 3]) rfl t4)) (qt er))
def Wp(R:C3):List C3:=(Qe R.1).flatMap fun x=>(Qe R.2.1).flatMap fun y=>(Qe R.2.2).map fun z=>(x,y,z)
theorem jy{α β:Type}{f:α->List β}{k:Nat}:∀{l:List α},(∀x∈l,(f x).length=k)->(l.flatMap f).length=l.length*k|[],_=>by rw[List.flatMap_nil];simp|x::l,h=>by rw[List.flatMap_cons,AO,h x AK,jy fun y hy=>h y (AI _ hy),AJ,Nat.succ_mul];omega
theorem Yf{R:C3}:(Wp R).length=R.1.toNat*(R.2.1.toNat*R.2.2.toNat):=by unfold Wp;rw[jy (k:=R.2.1.toNat*R.2.2.toNat) fun x _=>by rw[jy (k:=R.2.2.toNat) fun y _=>by rw[AN,Q8],Q8],Q8]
theorem zX{R:C3}(h:Rm R):((Wp R).length:Int)=vol R:=by obtain⟨⟨a1,a2⟩,⟨b1,b2⟩,c1,c2⟩:=h;rw[Yf,Int.natCast_mul,Int.natCast_mul,CN (by omega),CN (by omega),CN (by omega),←Int.mul_assoc];rfl
theorem qCS{R:C3}{x:Int}{st:qC}(h1:0≤R.2.2)(h2:R.2.2≤36):∀(ys:List Int) (l:List C3) (x3:Option PV),l.length+36*ys.length≤5000->∃y3,Qj (fun _=>True) (QH 3) qA0 (ys.map PV.int) [some (tP R),some (.lst (l.map tP)),some (.int x),x3] st= .nx [some (tP R),some (.lst ((l++ys.flatMap fun y=>(Qe R.2.2).map fun z=>(x,y,z)).map tP)),some (.int x),y3] st
 |[],l,x3,_=>⟨x3,by rw[List.flatMap_nil,Au];exact Qa trivial⟩
 |y::ys,l,x3,h=>by
  rw[AJ]at h;let F:PV->PV:=fun p=>match p with | .int z=>tP (x,y,z)|_=>.non;have hm:((Qe R.2.2).map PV.int).length≤36:=by rw[AN,Q8];omega
  have e:vFz (QD [2,3] 1 (Qx (qA (qJ gIx (qB 0) (vC (.int 2))) qD)) (Qc 2) [] [] (QC (qA (qB 0) (qA (qB 1) (qA (qB 2) qD))))) [some (tP R),some (.lst (l.map tP)),some (.int x),some (.int y)] st= .ok (.lst (((Qe R.2.2).map fun z=>(x,y,z)).map tP)) st:=by
   have e:=QZ (caps:=[2,3]) (n:=1) (fi:=Qx (qA (qJ gIx (qB 0) (vC (.int 2))) qD)) (g:=Qc 2) (f:=QC (qA (qB 0) (qA (qB 1) (qA (qB 2) qD)))) (r:=[some (tP R),some (.lst (l.map tP)),some (.int x),some (.int y)]) (st:=st) (F:=F) (itN (L:=R.2.2) h1 (by omega) (qM (qQ (p:=tP R) (q:=.int 2) rfl rfl rfl) qZ)) trivial (by show ((Qe R.2.2).map PV.int).length≤_;exact small (by omega)) fun p hp=>by obtain⟨z,_,rfl⟩:=Ai.mp hp;exact⟨[some (.int x),some (.int y),some (.int z)],rfl,ZB (qM rfl (qM rfl (qM rfl qZ))) (sz rfl)⟩
   refine (wp e).trans ?_;rw[BF,BF];rfl
  have hl:((Qe R.2.2).map fun z=>(x,y,z)).length≤36:=by rw[AN,Q8];omega
  have eb:qA0 [some (tP R),some (.lst (l.map tP)),some (.int x),some (.int y)] st= .nx [some (tP R),some (.lst ((l++(Qe R.2.2).map fun z=>(x,y,z)).map tP)),some (.int x),some (.int y)] st:=by refine q9 (wp ?_);rw[BT];exact YQ (l:=l.map tP) rfl e rfl rfl (by rw[AN,AN];exact small (by omega))
  obtain⟨y3,e2⟩:=qCS (R:=R) (x:=x) (st:=st) h1 h2 ys (l++(Qe R.2.2).map fun z=>(x,y,z)) (some (.int y)) (by rw[AO];omega);rw[Av]at e2;exact⟨y3,WD trivial rfl eb e2⟩
def qEE:FS:=(w4 (Qx (qA (qJ gIx (qB 0) (vC (.int 1))) qD)) (QH 3) (qb 1 (vFz (Z2 (qB 1) (vFz (QD [2,3] 1 (Qx (qA (qJ gIx (qB 0) (vC (.int 2))) qD)) (Qc 2) [] [] (QC (qA (qB 0) (qA (qB 1) (qA (qB 2) qD))))))))))
theorem qCE{R:C3}{st:qC}(h1:0≤R.2.2)(h2:R.2.2≤36)(h3:0≤R.2.1)(h4:R.2.1≤36):∀(xs:List Int) (l:List C3) (x2 x3:Option PV),l.length+1296*xs.length≤50000->l.length+1296*xs.length≤3000∨True->(l.length+1296≤5000∨xs=[])->l.length≤3000->(∀k≤xs.length,l.length+k*(R.2.1.toNat*R.2.2.toNat)≤3000)->∃y2 y3,Qj (fun _=>True) (QH 2) qEE (xs.map PV.int) [some (tP R),some (.lst (l.map tP)),x2,x3] st= .nx [some (tP R),some (.lst ((l++xs.flatMap fun x=>(Qe R.2.1).flatMap fun y=>(Qe R.2.2).map fun z=>(x,y,z)).map tP)),y2,y3] st
 |[],l,x2,x3,_,_,_,_,_=>⟨x2,x3,by rw[List.flatMap_nil,Au];exact Qa trivial⟩
 |x::xs,l,x2,x3,h,h',hc,hl,hk=>by
  have hu:(Qe R.2.1).length≤36:=by rw[Q8];omega
  obtain⟨y3,e⟩:=qCS (R:=R) (x:=x) (st:=st) h1 h2 (Qe R.2.1) l x3 (by omega);have eb:qEE [some (tP R),some (.lst (l.map tP)),some (.int x),x3] st= .nx [some (tP R),some (.lst ((l++(Qe R.2.1).flatMap fun y=>(Qe R.2.2).map fun z=>(x,y,z)).map tP)),some (.int x),y3] st:=zR (itN (L:=R.2.1) h3 (by omega) (qM (qQ (p:=tP R) (q:=.int 1) rfl rfl rfl) qZ)) e;have hlen:((Qe R.2.1).flatMap fun y=>(Qe R.2.2).map fun z=>(x,y,z)).length=R.2.1.toNat*R.2.2.toNat:=by rw[jy (k:=R.2.2.toNat) fun y _=>by rw[AN,Q8],Q8]
  have h5:R.2.1.toNat*R.2.2.toNat≤36*36:=Nat.mul_le_mul (by omega) (by omega);have hk1:=hk 1 (by rw[AJ];omega);rw[AJ]at h;obtain⟨y2,y3',e2⟩:=qCE (R:=R) (st:=st) h1 h2 h3 h4 xs (l++(Qe R.2.1).flatMap fun y=>(Qe R.2.2).map fun z=>(x,y,z)) (some (.int x)) y3 (by rw[AO,hlen];omega) (.inr trivial) (.inl (by rw[AO,hlen];omega)) (by rw[AO,hlen];omega) (fun k hk2=>by
   have:=hk (k+1) (by rw[AJ];omega)
   rw[Nat.succ_mul]at this;rw[AO,hlen];omega)
  rw[Av]at e2;exact⟨y2,y3',WD trivial rfl eb e2⟩
theorem qD3{a:Ad}{R:C3}{st:qC}(hR:Rm R)(hV:vol R≤36)(ha:R.1≤36)(hb:R.2.1≤36)(hc:R.2.2≤36):wW a [tP R] st= .ok (.lst ((Wp R).map tP)) st:=by
 have hv:=zX hR;have hle:=Yf (R:=R);obtain⟨⟨a1,a2⟩,⟨b1,b2⟩,c1,c2⟩:=hR;have hu:(Qe R.1).length=R.1.toNat:=Q8;obtain⟨y2,y3,e⟩:=qCE (R:=R) (st:=st) (by omega) hc (by omega) hb (Qe R.1) [] none none (by show 0+_≤_;omega) (.inr trivial) (.inl (by show 0+_≤_;omega)) (by show 0≤_;omega) (fun k hk=>by
  have h1:k*(R.2.1.toNat*R.2.2.toNat)≤R.1.toNat*(R.2.1.toNat*R.2.2.toNat):=Nat.mul_le_mul (by omega) (AG _);show 0+_≤_
  omega)
 rw[CQ]at e;exact qi rfl (qX (q9 rfl) (qX (zR (itN (L:=R.1) (by omega) (by omega) (qM (qQ (p:=tP R) (q:=.int 0) rfl rfl rfl) qZ)) e) (qt rfl)))
def yG(t F L:Int)(c:C3):Bool:=decide (F≤sel c t)&&decide (sel c t<F+L)
def W0(t:Int):Prop:=t=0∨t=1∨t=2
theorem qGp{R c:C3}{L t F w:Int}{s:Bool}{x0 x3 x8:Option PV}{n:PV}{st:qC}(ht:W0 t)(hw:W0 w)(hL:0<L):∃b:Bool,(b=true->s=true)∧(zM (wK (ql (qB 10)) (wK (vTB (qJ gEq (qB 7) (qB 4))) (vTB (qJ gEq (qJ gIx (qB 9) (qB 4)) (qB 6))))) (wK (ql (qB 10)) (wK (vTB (qJ gNe (qB 7) (qB 4))) (vTB (qJ gEq (qJ Ww (qJ gIx (qB 9) (qB 7)) (qB 2)) (vC (.int 0))))))) [x0,some (tP R),some (.int L),x3,some (.int t),some n,some (.int F),some (.int w),x8,some (tP c),some (.bl s)] st= .ok b st:=by
 let r:qk:=[x0,some (tP R),some (.int L),x3,some (.int t),some n,some (.int F),some (.int w),x8,some (tP c),some (.bl s)];have e10:ql (qB 10) r st= .ok s st:=Qd rfl;have e1:vTB (qJ gEq (qB 7) (qB 4)) r st= .ok (w==t) st:=wg (qQ rfl rfl Ws);have e2:vTB (qJ gEq (qJ gIx (qB 9) (qB 4)) (qB 6)) r st= .ok (sel c t==F) st:=wg (qQ (qQ (p:=tP c) (q:=.int t) rfl rfl (YG ht)) rfl Ws);have e3:vTB (qJ gNe (qB 7) (qB 4)) r st= .ok (!(w==t)) st:=wg (qQ (p:=.int w) (q:=.int t) rfl rfl rfl);have e4:vTB (qJ gEq (qJ Ww (qJ gIx (qB 9) (qB 7)) (qB 2)) (vC (.int 0))) r st= .ok (sel c w%L==0) st:=wg (qQ (qQ (qQ (p:=tP c) (q:=.int w) rfl rfl (YG hw)) rfl (yd hL)) rfl Ws);cases s with
 |false=>exact⟨false,(fun h=>by cases h),Qi (yD e10) (yD e10)⟩
 |true =>
  have hand1:∃b1,wK (ql (qB 10)) (wK (vTB (qJ gEq (qB 7) (qB 4))) (vTB (qJ gEq (qJ gIx (qB 9) (qB 4)) (qB 6)))) r st= .ok b1 st:=by
   cases h:(w==t) with|true=>rw[h]at e1;exact⟨_,zd e10 (zd e1 e2)⟩|false=>rw[h]at e1;exact⟨_,zd e10 (yD e1)⟩
  have hand2:∃b2,wK (ql (qB 10)) (wK (vTB (qJ gNe (qB 7) (qB 4))) (vTB (qJ gEq (qJ Ww (qJ gIx (qB 9) (qB 7)) (qB 2)) (vC (.int 0))))) r st= .ok b2 st:=by
   cases h:(!(w==t)) with|true=>rw[h]at e3;exact⟨_,zd e10 (zd e3 e4)⟩|false=>rw[h]at e3;exact⟨_,zd e10 (yD e3)⟩
  obtain⟨b1,q1⟩:=hand1;obtain⟨b2,q2⟩:=hand2;cases b1 with|true=>exact⟨true,fun _=>rfl,zE q1⟩|false=>exact⟨b2,fun _=>rfl,Qi q1 q2⟩
theorem JX{R:C3}{L t F w:Int}{st j:qC}{b:SO}{x0 x3 x8:Option PV}(ht:W0 t)(hw:W0 w)(hL:0<L):∀(cs:List C3) (l:List B4) (x9 x10:Option PV),l.length+cs.length≤900->∃(l':List B4) (y9 y10:Option PV),l'.length≤l.length+(cs.filter (yG t F L)).length∧Qj (fun _=>True) (QH 9) qEk (cs.map tP) [x0,some (tP R),some (.int L),x3,some (.int t),some (.ref (st.length+1+j.length)),some (.int F),some (.int w),x8,x9,x10] (st++b::(j++[.l (l.map qP)]))= .nx [x0,some (tP R),some (.int L),x3,some (.int t),some (.ref (st.length+1+j.length)),some (.int F),some (.int w),x8,y9,y10] (st++b::(j++[.l (l'.map qP)]))
 |[],l,x9,x10,_=>⟨l,x9,x10,AG _,Qa trivial⟩
 |c::cs,l,x9,x10,h=>by
  rw[AJ]at h;have es:qb 10 (Qf gLe gLt (qB 6) (qJ gIx (qB 9) (qB 4)) (qJ QA (qB 6) (qB 2))) [x0,some (tP R),some (.int L),x3,some (.int t),some (.ref (st.length+1+j.length)),some (.int F),some (.int w),x8,some (tP c),x10] (st++b::(j++[.l (l.map qP)]))= .nx [x0,some (tP R),some (.int L),x3,some (.int t),some (.ref (st.length+1+j.length)),some (.int F),some (.int w),x8,some (tP c),some (.bl (yG t F L c))] (st++b::(j++[.l (l.map qP)])):=q9 (YZ rfl (qQ (p:=tP c) (q:=.int t) rfl rfl (YG ht)) (qQ rfl rfl Q6));obtain⟨tb,htb,et⟩:=qGp (R:=R) (c:=c) (L:=L) (t:=t) (F:=F) (w:=w) (s:=yG t F L c) (x0:=x0) (x3:=x3) (x8:=x8) (n:=.ref (st.length+1+j.length)) (st:=st++b::(j++[.l (l.map qP)])) ht hw hL;cases tb with
  |false =>
   obtain⟨l',y9,y10,hl,e⟩:=JX (R:=R) (L:=L) (t:=t) (F:=F) (w:=w) (st:=st) (j:=j) (b:=b) (x0:=x0) (x3:=x3) (x8:=x8) ht hw hL cs l (some (tP c)) (some (.bl (yG t F L c))) (by omega);refine⟨l',y9,y10,?_,WD trivial rfl (qX es (Qn et rfl)) e⟩;rw[B1];split;rw[AJ];omega;exact hl
  |true =>
   obtain⟨l',y9,y10,hl,e⟩:=JX (R:=R) (L:=L) (t:=t) (F:=F) (w:=w) (st:=st) (j:=j) (b:=b) (x0:=x0) (x3:=x3) (x8:=x8) ht hw hL cs (l++[(c.1,c.2.1,c.2.2,w)]) (some (tP c)) (some (.bl (yG t F L c))) (by rw[AO,Am];omega);rw[AO,Am]at hl;have ea:=qAr (fo:=qB 5) (f:=qJ wm (qB 9) (QC (qA (qB 7) qD))) (r:=[x0,some (tP R),some (.int L),x3,some (.int t),some (.ref (st.length+1+j.length)),some (.int F),some (.int w),x8,some (tP c),some (.bl (yG t F L c))]) (st:=st) (j:=j) (b:=b) (b':=b) (l:=l.map qP) (p:=qP (c.1,c.2.1,c.2.2,w)) rfl (qQ (p:=tP c) (q:=.tup [.int w]) rfl rfl (zk (l:=[.int c.1,.int c.2.1,.int c.2.2]) (m:=[.int w]) (show 3+1≤1000 by decide))) (by rw[AN];omega);rw[show l.map qP++[qP (c.1,c.2.1,c.2.2,w)]=(l++[(c.1,c.2.1,c.2.2,w)]).map qP by rw[BT];rfl]at ea;refine⟨l',y9,y10,?_,WD trivial rfl (qX es (QR et ea)) e⟩;rw[B1,AE (htb rfl),AJ];omega
def bel(t F:Int)(c:C3):Bool:=decide (sel c t<F)
theorem qAi{t F L:Int}(hL:0≤L):∀l:List C3,(l.filter (bel t F)).length+(l.filter (yG t F L)).length≤(l.filter (bel t (F+L))).length
 |[]=>AG _
 |c::l=>by
  have h:=qAi (t:=t) (F:=F) hL l;rw[B1,B1,B1];by_cases h1:sel c t<F
  ·have a1:bel t F c=true:=AV h1;have a2:yG t F L c=false:=by unfold yG;rw[AY (by omega),BE]
   have a3:bel t (F+L) c=true:=AV (by omega);rw[AE a1,AF (by rw[a2];decide),AE a3,AJ,AJ];omega
  ·have a1:bel t F c=false:=AY h1;by_cases h2:sel c t<F+L
   ·have a2:yG t F L c=true:=by unfold yG;rw[AV (by omega),AV h2];rfl
    have a3:bel t (F+L) c=true:=AV h2;rw[AF (by rw[a1];decide),AE a2,AE a3,AJ,AJ];omega
   ·have a2:yG t F L c=false:=by unfold yG;rw[AY h2,Bo]
    have a3:bel t (F+L) c=false:=AY h2;rw[AF (by rw[a1];decide),AF (by rw[a2];decide),AF (by rw[a3];decide)];exact h
def qFf(a:Ad):FS:=(qV (qb 7 (qB 4)) (qV (qb 8 (qJ Ww (qJ QA (qJ QA (qB 4) (vC (.int 1))) (qH (qd a) (qA (qB 0) (qA (vC (.int 2)) qD)))) (vC (.int 3)))) (qV (Qz (vTB (qJ gEq (qJ Ww (qJ gIx (qB 1) (qB 8)) (qB 2)) (vC (.int 0)))) (qb 7 (qJ gIx (vFz (wR (qA (qB 4) (qA (qB 8) qD)))) (qH (qd a) (qA (qB 0) (qA (vC (.int 2)) qD))))) QV) (w4 (QM (qH (wW a) (qA (qB 1) qD))) (QH 9) (qV (qb 10 (Qf gLe gLt (qB 6) (qJ gIx (qB 9) (qB 4)) (qJ QA (qB 6) (qB 2)))) (Qz (zM (wK (ql (qB 10)) (wK (vTB (qJ gEq (qB 7) (qB 4))) (vTB (qJ gEq (qJ gIx (qB 9) (qB 4)) (qB 6))))) (wK (ql (qB 10)) (wK (vTB (qJ gNe (qB 7) (qB 4))) (vTB (qJ gEq (qJ Ww (qJ gIx (qB 9) (qB 7)) (qB 2)) (vC (.int 0))))))) (Wa (qB 5) (qJ wm (qB 9) (QC (qA (qB 7) qD)))) QV))))))
theorem qHo{a:Ad}{R:C3}{L t F x:Int}{st j:qC}{l:List B4}{x3 x7 x8 x9 x10:Option PV}(hR:Rm R)(hV:vol R≤36)(ha:R.1≤36)(hb:R.2.1≤36)(hc:R.2.2≤36)(ht:W0 t)(hL:0<L)(hl:l.length≤36) :
  ∃(l':List B4) (y:Int) (y7 y8 y9 y10:Option PV),l'.length≤l.length+((Wp R).filter (yG t F L)).length∧qFf a [some (.ref st.length),some (tP R),some (.int L),x3,some (.int t),some (.ref (st.length+1+j.length)),some (.int F),x7,x8,x9,x10] (st ++ .l [.int x]::(j++[.l (l.map qP)]))= .nx [some (.ref st.length),some (tP R),some (.int L),x3,some (.int t),some (.ref (st.length+1+j.length)),some (.int F),y7,y8,y9,y10] (st ++ .l [.int y]::(j++[.l (l'.map qP)])):=by
 have t1:=Q5 (a:=a) (st:=st) (j:=j++[.l (l.map qP)]) (x:=x) (m:=2) ⟨by decide,by decide⟩;generalize x%2=d1 at t1;generalize x/2=x1 at t1;have mo:=wy (x:=t+1+d1) (m:=3) (by decide);have ho:W0 ((t+1+d1)%3):=by unfold W0;omega
 generalize ho':(t+1+d1)%3=o at ho;have hcl:(Wp R).length≤36:=by have:=zX hR;omega
 have e8:qb 8 (qJ Ww (qJ QA (qJ QA (qB 4) (vC (.int 1))) (qH (qd a) (qA (qB 0) (qA (vC (.int 2)) qD)))) (vC (.int 3))) [some (.ref st.length),some (tP R),some (.int L),x3,some (.int t),some (.ref (st.length+1+j.length)),some (.int F),some (.int t),x8,x9,x10] (st ++ .l [.int x]::(j++[.l (l.map qP)]))= .nx [some (.ref st.length),some (tP R),some (.int L),x3,some (.int t),some (.ref (st.length+1+j.length)),some (.int F),some (.int t),some (.int o),x9,x10] (st ++ .l [.int x1]::(j++[.l (l.map qP)])):=q9 (qQ (qQ (qQ rfl rfl Q6) (qN (l:=[.ref st.length,.int 2]) rfl t1) Q6) rfl ((yd (by decide)).trans (by rw[ho'])));have ec:vTB (qJ gEq (qJ Ww (qJ gIx (qB 1) (qB 8)) (qB 2)) (vC (.int 0))) [some (.ref st.length),some (tP R),some (.int L),x3,some (.int t),some (.ref (st.length+1+j.length)),some (.int F),some (.int t),some (.int o),x9,x10] (st ++ .l [.int x1]::(j++[.l (l.map qP)]))= .ok (sel R o%L==0) (st ++ .l [.int x1]::(j++[.l (l.map qP)])):=wg (qQ (qQ (qQ (p:=tP R) (q:=.int o) rfl rfl (YG ho)) rfl (yd hL)) rfl Ws);obtain⟨w,y,hw,ei⟩:∃(w y:Int),W0 w∧(Qz (vTB (qJ gEq (qJ Ww (qJ gIx (qB 1) (qB 8)) (qB 2)) (vC (.int 0)))) (qb 7 (qJ gIx (vFz (wR (qA (qB 4) (qA (qB 8) qD)))) (qH (qd a) (qA (qB 0) (qA (vC (.int 2)) qD))))) QV) [some (.ref st.length),some (tP R),some (.int L),x3,some (.int t),some (.ref (st.length+1+j.length)),some (.int F),some (.int t),some (.int o),x9,x10] (st ++ .l [.int x1]::(j++[.l (l.map qP)]))= .nx [some (.ref st.length),some (tP R),some (.int L),x3,some (.int t),some (.ref (st.length+1+j.length)),some (.int F),some (.int w),some (.int o),x9,x10] (st ++ .l [.int y]::(j++[.l (l.map qP)])):=by
  cases hq:(sel R o%L==0) with
  |false=>rw[hq]at ec;exact⟨t,x1,ht,Qn ec rfl⟩
  |true =>
   rw[hq]at ec;have t2:=Q5 (a:=a) (st:=st) (j:=j++[.l (l.map qP)]) (x:=x1) (m:=2) ⟨by decide,by decide⟩;have m2:=wy (x:=x1) (m:=2) (by decide);obtain⟨w,hw,eg⟩:∃w:Int,W0 w∧∀S,gIx (.lst [.int t,.int o]) (.int (x1%2)) S= .ok (.int w) S:=by
    generalize x1%2=k at m2
    have:k=0∨k=1:=by omega
    rcases this with rfl|rfl
    ·exact⟨t,ht,fun _=>rfl⟩
    ·exact⟨o,ho,fun _=>rfl⟩
   exact⟨w,x1/2,hw,QR ec (q9 (qQ (p:=.lst [.int t,.int o]) rfl (qN (l:=[.ref st.length,.int 2]) rfl t2) (eg _)))⟩
 obtain⟨l',y9,y10,hl',el⟩:=JX (R:=R) (L:=L) (t:=t) (F:=F) (w:=w) (st:=st) (j:=j) (b:=.l [.int y]) (x0:=some (.ref st.length)) (x3:=x3) (x8:=some (.int o)) ht hw hL (Wp R) l x9 x10 (by omega);exact⟨l',y,some (.int w),some (.int o),y9,y10,hl',qX (q9 rfl) (qX e8 (qX ei (zR (WN (qN (l:=[tP R]) rfl (qD3 hR hV ha hb hc))) el)))⟩
theorem qCV{a:Ad}{R:C3}{L t:Int}{st j:qC}{x3:Option PV}(hR:Rm R)(hV:vol R≤36)(ha:R.1≤36)(hb:R.2.1≤36)(hc:R.2.2≤36)(ht:W0 t)(hL:0<L):∀(n k:Nat) (l:List B4) (x:Int) (x6 x7 x8 x9 x10:Option PV),l.length≤((Wp R).filter (bel t (0+(k:Int)*L))).length ->
  ∃(l':List B4) (y:Int) (y6 y7 y8 y9 y10:Option PV),l'.length≤36∧Qj (fun _=>True) (QH 6) (qFf a) ((List.range' k n).map fun (i:Nat)=>PV.int (0+(i:Int)*L)) [some (.ref st.length),some (tP R),some (.int L),x3,some (.int t),some (.ref (st.length+1+j.length)),x6,x7,x8,x9,x10] (st ++ .l [.int x]::(j++[.l (l.map qP)]))= .nx [some (.ref st.length),some (tP R),some (.int L),x3,some (.int t),some (.ref (st.length+1+j.length)),y6,y7,y8,y9,y10] (st ++ .l [.int y]::(j++[.l (l'.map qP)]))
 |0,k,l,x,x6,x7,x8,x9,x10,h=>by have h1:=CA (bel t (0+(k:Int)*L)) (Wp R);have h2:=zX hR;exact⟨l,x,x6,x7,x8,x9,x10,by omega,Qa trivial⟩
 |n+1,k,l,x,x6,x7,x8,x9,x10,h=>by
  have h1:=CA (bel t (0+(k:Int)*L)) (Wp R);have h2:=zX hR;obtain⟨l1,y,y7,y8,y9,y10,hl1,e1⟩:=qHo (a:=a) (R:=R) (L:=L) (t:=t) (F:=0+(k:Int)*L) (x:=x) (st:=st) (j:=j) (l:=l) (x3:=x3) (x7:=x7) (x8:=x8) (x9:=x9) (x10:=x10) hR hV ha hb hc ht hL (by omega);have h3:=qAi (t:=t) (F:=0+(k:Int)*L) (L:=L) (by omega) (Wp R);have ek:0+(k:Int)*L+L=0+((k+1:Nat):Int)*L:=by rw[Int.natCast_add,Int.add_mul];omega
  rw[ek]at h3;obtain⟨l',y',z6,z7,z8,z9,z10,hl',e2⟩:=qCV (a:=a) (R:=R) (L:=L) (t:=t) (st:=st) (j:=j) (x3:=x3) hR hV ha hb hc ht hL n (k+1) l1 y (some (.int (0+(k:Int)*L))) y7 y8 y9 y10 (by omega);refine⟨l',y',z6,z7,z8,z9,z10,hl',?_⟩;rw[List.range'_succ,Aa];exact WD trivial rfl e1 e2
theorem qIJ:∀a:List Int,nrs (a.map PV.int)=true|[]=>rfl|x::a=>by rw[Aa,nrs,qIJ a];rfl
theorem eq_nil_i{S:List Int}{st:qC}:gEq (.lst (S.map PV.int)) (.lst []) st= .ok (.bl S.isEmpty) st:=by
 have h1:Yk (.lst (S.map PV.int)) (.lst [])=true:=by show (nrs (S.map PV.int)&&true&&decide (deps (S.map PV.int)+1≤Z6))=true;rw[qIJ,qFQ];decide
 show (if Yk (.lst (S.map PV.int)) (.lst [])=true then Rs.ok (PV.bl (peqs (S.map PV.int) [])) st else Rs.no)=_;rw[AE h1];cases S <;> rfl
def lQ:List Int->B4|[x,y,z,w]=>(x,y,z,w)|_=>(0,0,0,0)
theorem qEH:∀l:List B4,wc yp (l.map qP)=some (l.map qL)|[]=>rfl|c::l=>by rw[Aa,wc,show yp (qP c)=some (qL c) from rfl];dsimp only;rw[qEH l];rfl
theorem qKk{l:List B4}:(srt (l.map qL)).map JD=((srt (l.map qL)).map lQ).map qP:=by rw[BF];refine BW fun k hk=>?_;obtain⟨b,_,rfl⟩:=Ai.mp ((Ya _).mem_iff.mp hk);rfl
theorem qDF{a:Ad}{R:C3}{L x:Int}{st j:qC}(hR:Rm R)(hV:vol R≤36)(ha:R.1≤36)(hb:R.2.1≤36)(hc:R.2.2≤36)(hL1:2≤L)(hL2:L≤5):∃(bs:List B4) (y:Int) (g:qC),bs.length≤36∧Wj a [.ref st.length,tP R,.int L] (st ++ .l [.int x]::j)= .ok (.tup (bs.map qP)) (st ++ .l [.int y]::(j++g)):=by
 have e0:(vFz (QD [2,1] 1 (Qx (qA (vC (.int 3)) qD)) (Qc 2) [(vTB (qJ gEq (qJ Ww (qJ gIx (qB 1) (qB 2)) (qB 0)) (vC (.int 0))))] [] (qB 2))) (qv 11 [.ref st.length,tP R,.int L]) (st ++ .l [.int x]::j)= .ok (.lst (((Qe 3).filter fun i=>sel R i%L==0).map PV.int)) (st ++ .l [.int x]::j):=by
  let un:PV->Int:=fun p=>match p with | .int i=>i|_=>0;have e:=JF (caps:=[2,1]) (n:=1) (fi:=Qx (qA (vC (.int 3)) qD)) (g:=Qc 2) (t:=vTB (qJ gEq (qJ Ww (qJ gIx (qB 1) (qB 2)) (qB 0)) (vC (.int 0)))) (f:=qB 2) (r:=qv 11 [.ref st.length,tP R,.int L]) (st:=st ++ .l [.int x]::j) (c:=fun p=>sel R (un p)%L==0) (itN (L:=3) (by decide) (by decide) rfl) trivial (by show ((Qe 3).map PV.int).length≤_;decide) fun p hp=>by
   obtain⟨i,hi,rfl⟩:=Ai.mp hp
   have:=upto_mem.mp hi
   have hi:i=0∨i=1∨i=2:=by omega
   exact⟨[some (.int L),some (tP R),some (.int i)],rfl,wg (qQ (qQ (qQ (p:=tP R) (q:=.int i) rfl rfl (YG hi)) rfl (yd (by omega))) rfl Ws),rfl⟩
  refine (wp e).trans ?_;show Rs.ok (PV.lst (((Qe 3).map PV.int).filter fun p=>sel R (un p)%L==0)) _=_;rw[List.filter_map];rfl
 have hS:∀i∈(Qe 3).filter fun i=>sel R i%L==0,W0 i:=fun i hi=>by
  have:=upto_mem.mp (List.mem_filter.mp hi).1
  unfold W0;omega
 have hSl:((Qe 3).filter fun i=>sel R i%L==0).length≤3:=Ag (CA _ _) (by decide);generalize ((Qe 3).filter fun i=>sel R i%L==0)=S at e0 hS hSl;cases hse:S.isEmpty with
 |true =>
  refine⟨[],x,[],by decide,?_⟩;rw[Au];exact qi rfl (qX (q9 e0) (qu (QR (wg (qQ (q:=.lst []) rfl rfl (eq_nil_i.trans (by rw[hse])))) (qt rfl))))
 |false =>
  have hpos:0<S.length:=by
   cases S with|nil=>cases hse|cons _ _=>rw[AJ];omega
  have t1:=Q5 (a:=a) (st:=st) (j:=j) (x:=x) (m:=(S.length:Int)) ⟨by omega,by omega⟩;have m1:=wy (x:=x) (m:=(S.length:Int)) (by omega);obtain⟨p,hp,ep⟩:=qBt (l:=S.map PV.int) (i:=x%(S.length:Int)) (st:=st ++ .l [.int (x/(S.length:Int))]::j) m1.1 (by rw[AN];exact m1.2);obtain⟨t,htm,rfl⟩:=Ai.mp hp;have ht:=hS t htm;generalize x/(S.length:Int)=x1 at t1 ep;obtain⟨l,y,y6,y7,y8,y9,y10,hl,e⟩:=qCV (a:=a) (R:=R) (L:=L) (t:=t) (st:=st) (j:=j) (x3:=some (.lst (S.map PV.int))) hR hV ha hb hc ht (by omega) (Wg 0 (sel R t) L) 0 [] x1 none none none none none (A6 _);have hsel:1≤sel R t∧sel R t≤36:=by
   obtain⟨⟨a1,a2⟩,⟨b1,b2⟩,c1,c2⟩:=hR;unfold sel;split;omega;split <;> omega
  have ei:∀S':qC,qCP (qA (vC (.int 0)) (qA (qJ gIx (qB 1) (qB 4)) (qA (qB 2) qD))) [some (.ref st.length),some (tP R),some (.int L),some (.lst (S.map PV.int)),some (.int t),some (.ref (st.length+1+j.length)),none,none,none,none,none] S'= .ok ⟨(List.range' 0 (Wg 0 (sel R t) L)).map fun (i:Nat)=>PV.int (0+(i:Int)*L),fun _=>True⟩ S':=fun S'=>by
   unfold qCP;rw[qM (f:=vC (.int 0)) rfl (qM (qQ (p:=tP R) (q:=.int t) rfl rfl (YG ht)) (qM (f:=qB 2) rfl qZ))];show (if -(2 ^ 40)≤(0:Int)∧(0:Int)<2 ^ 40∧ -(2 ^ 40)≤sel R t∧sel R t<2 ^ 40∧0<L∧L<1000000 then Rs.ok (⟨qAm 0 (sel R t) L,fun _=>True⟩:ItP) S' else .no)=_;rw[AE ⟨by decide,by decide,by omega,by omega,by omega,by omega⟩];unfold qAm;rw[List.range_eq_range']
  refine⟨(srt (l.map qL)).map lQ,y,[.l (l.map qP)],by rw[AN,(Ya _).length_eq,AN];exact hl,?_⟩;refine qi rfl (qX (q9 e0) (qX (Qn (wg (qQ (q:=.lst []) rfl rfl (eq_nil_i.trans (by rw[hse])))) rfl) ?_));refine qX (q9 (qQ (p:=.lst (S.map PV.int)) rfl (qN (l:=[.ref st.length,.int (S.length:Int)]) (qM rfl (qM (qN (l:=[.lst (S.map PV.int)]) rfl (Wo rfl (by rw[AN]))) qZ)) t1) ep)) ?_;refine qX (Ye (l:=[]) (W6 qZ (sz rfl))) ?_;refine qX (zR (ei _) e) (qt (qN (l:=[.lst (((srt (l.map qL)).map lQ).map qP)]) (qM (qJg rfl ?_) qZ) (YA rfl)));unfold j3;rw[qAX WW];dsimp only;rw[qEH];dsimp only;rw[AE (by rw[AN];omega),qKk]
theorem qJX{f o1 i1 o2 i2:FE}{r:qk}{st s1 s2 s3:qC}{p q u v u' v':PV}(h:f r st= .ok (.tup [p,q]) s1)(h1:o1 r s1= .ok u s1)(h2:i1 r s1= .ok v s1)(h3:WY s1 u v p=some s2)(h4:o2 r s2= .ok u' s2)(h5:i2 r s2= .ok v' s2)(h6:WY s2 u' v' q=some s3):j1 f o1 i1 o2 i2 r st= .nx r s3:=by unfold j1;rw[h];show (o1 r s1).bindS _=_;rw[h1];show (i1 r s1).bindS _=_;rw[h2];show (match WY s1 u v p with|some s3=>_|none=>_)=_;rw[h3];show (o2 r s2).bindS _=_;rw[h4];show (i2 r s2).bindS _=_;rw[h5];show (match WY s2 u' v' q with|some s6=>RS.nx r s6|none=>_)=_;rw[h6]
theorem qAl{st j:qC}{b:SO}{l:List PV}{k:Int}{v:PV}(h0:0≤k)(h1:k<l.length):WY (st++b::(j++[.l l])) (.ref (st.length+1+j.length)) (.int k) v=some (st++b::(j++[.l (l.set k.toNat v)])):=by rw[qHi WW (Zb h0 h1),qCL]
theorem qCa{P:PV->Prop}{l:List PV}{i:Nat}{v:PV}(h:∀p∈l,P p)(hv:P v):∀p∈l.set i v,P p:=fun p hp=>by
 rcases List.mem_or_eq_of_mem_set hp with z|z
 ·exact h p z
 ·rw[z];exact hv
theorem qJp{α:Type}{P:α->Prop}{a b c d e f:α}(h1:P a)(h2:P b)(h3:P c)(h4:P d)(h5:P e)(h6:P f):∀p∈[a,b,c,d,e,f],P p:=fun p hp=>by simp only[AH,Af,Bg]at hp;rcases hp with rfl|rfl|rfl|rfl|rfl|rfl <;> assumption
theorem qCd{v:PV}(h:okV v=true):okP v=true:=by
 cases v with|tup l=>have h:(Nat.ble l.length 59&&l.all okP)=true:=h;rw[AX,Ay]at h;show (Nat.ble l.length 1000&&l.all wM)=true;rw[AX,Ay];exact⟨Nat.ble_eq_true_of_le (Ag (BM h.1) (by decide)),fun p hp=>ZS (h.2 p hp)⟩|_=>exact h
theorem jg{l:List PV}{n:Nat}:wk l (some (n:Int)) none=l.drop n:=by
 have h2:HT.sIx l.length 0 (some (n:Int))=min n l.length:=HT.sIx_nat _ _ _;have h1:HT.sIx l.length l.length none=l.length:=rfl;unfold wk;rw[h1,h2];by_cases h:n≤l.length;rw[Nat.min_eq_left h,List.take_of_length_le (by rw[Bc];exact AG _)];rw[Nat.min_eq_right (by omega),List.drop_length,List.drop_eq_nil_of_le (by omega),List.take_nil]
theorem jP{l:List PV}{n:Nat}:wk l none (some (n:Int))=l.take n:=by
 have h2:HT.sIx l.length l.length (some (n:Int))=min n l.length:=HT.sIx_nat _ _ _;have h1:HT.sIx l.length 0 none=0:=rfl;unfold wk;rw[h1,h2,List.drop_zero,Nat.sub_zero];by_cases h:n≤l.length;rw[Nat.min_eq_left h];rw[Nat.min_eq_right (by omega),List.take_length,List.take_of_length_le (by omega)]
theorem qJ1{W:List PV}{i:Nat}:(wk W none (some (i:Int))).length=min i W.length:=by rw[jP,Ba]
theorem qGa{W:List PV}{i:Nat}:(wk W none (some ((i:Int)+1))).length=min (i+1) W.length:=by have e:wk W none (some ((i:Int)+1))=W.take (i+1):=jP (n:=i+1);rw[e,Ba]
theorem qJc{W:List PV}{i:Nat}:(wk W (some (i:Int)) none).length=W.length-i:=by rw[jg,Bc]
theorem qGl{W:List PV}{i:Nat}:(wk W (some ((i:Int)+1)) none).length=W.length-(i+1):=by have e:wk W (some ((i:Int)+1)) none=W.drop (i+1):=jg (n:=i+1);rw[e,Bc]
theorem qB6{st j:qC}{b:SO}{W:List PV}{t:Int}{x0 x2 x4 x5 x6 x7 x8 x9 x11:Option PV}(hW:W.length≤41):∀(ks l:List PV) (x12:Option PV),l.length+ks.length≤500 ->
  ∃y12,Qj (fun _=>True) (QH 12) qE7 ks [x0,some (.tup W),x2,some (.int t),x4,x5,x6,x7,x8,x9,some (.ref (st.length+1+j.length)),x11,x12] (st++b::(j++[.l l]))= .nx [x0,some (.tup W),x2,some (.int t),x4,x5,x6,x7,x8,x9,some (.ref (st.length+1+j.length)),x11,y12] (st++b::(j++[.l (l++ks.map fun p=>.tup (qDc W t p))]))
 |[],l,x12,_=>⟨x12,by rw[List.map_nil,Au];exact Qa trivial⟩
 |k::ks,l,x12,h=>by
  rw[AJ]at h;obtain⟨y,e⟩:=qB6 (st:=st) (j:=j) (b:=b) (W:=W) (t:=t) (x0:=x0) (x2:=x2) (x4:=x4) (x5:=x5) (x6:=x6) (x7:=x7) (x8:=x8) (x9:=x9) (x11:=x11) hW ks (l++[.tup (qDc W t k)]) (some k) (by rw[AO,Am];omega);rw[Av]at e;exact⟨y,WD trivial rfl (qAr rfl (qHm hW rfl rfl rfl) (by omega)) e⟩
theorem qIP:∀A:List B4,nrs (A.map qP)=true|[]=>rfl|x::A=>by rw[Aa,nrs,qIP A];rfl
theorem qEx:∀A:List B4,deps (A.map qP)≤1|[]=>A6 _|x::A=>by rw[Aa,deps];exact Nat.max_le.mpr ⟨Nat.le_of_eq rfl,qEx A⟩
theorem eq_nil_q{bs:List B4}{st:qC}:gEq (.tup (bs.map qP)) (.tup []) st= .ok (.bl bs.isEmpty) st:=by
 have h1:Yk (.tup (bs.map qP)) (.tup [])=true:=by show (nrs (bs.map qP)&&true&&decide (deps (bs.map qP)+1≤Z6))=true;rw[qIP,AV (Ag (Nat.succ_le_succ (qEx bs)) (by decide))];rfl
 show (if Yk (.tup (bs.map qP)) (.tup [])=true then Rs.ok (PV.bl (peq (PV.tup (bs.map qP)) (PV.tup []))) st else Rs.no)=_;rw[AE h1];cases bs <;> rfl
theorem Jq{bs:List B4}:∀p∈bs.map qP,okP p=true:=fun p hp=>by obtain⟨c,_,rfl⟩:=Ai.mp hp;rfl
theorem Yb{x y z w:Int}{fx fy fz fw:FE}{r:qk}{st:qC}(h1:fx r st= .ok (.int x) st)(h2:fy r st= .ok (.int y) st)(h3:fz r st= .ok (.int z) st)(h4:fw r st= .ok (.int w) st):QC (qA fx (qA fy (qA fz (qA fw qD)))) r st= .ok (qP (x,y,z,w)) st:=ZB (qM h1 (qM h2 (qM h3 (qM h4 qZ)))) (sz rfl)
theorem jq{a:Ad}{st j:qC}{x:Int}{bs:List B4}(hbs:bs.length≤36):∃(v:PV) (y:Int) (g:qC),okV v=true∧wP a [.ref st.length,.tup (bs.map qP)] (st ++ .l [.int x]::j)= .ok v (st ++ .l [.int y]::(j++g)):=by
 obtain⟨o,ho,eo⟩:=qGG (a:=a) (st:=st) (j:=j) (x:=x);generalize x/27=x0 at eo;cases hbe:bs with
 |nil =>
  have t1:=Q5 (a:=a) (st:=st) (j:=j) (x:=x0) (m:=4) ⟨by decide,by decide⟩;have i1:=wy (x:=x0) (m:=4) (by decide);let l4:List PV:=[o,.tup [o],.lst [],.tup [.tup [.int 0,.int 0,.int 0,.int 0]]];obtain⟨v,hv,ev⟩:=qBt (l:=l4) (i:=x0%4) (st:=st ++ .l [.int (x0/4)]::j) i1.1 i1.2;have h4:okV v=true:=by
   simp only[l4,AH,Af,Bg]at hv;rcases hv with rfl|rfl|rfl|rfl
   ·exact ho
   ·exact Zl (show 1≤59 by decide) (qCk (qCd ho))
   ·rfl
   ·rfl
  refine⟨v,x0/4,[],h4,qi rfl ?_⟩;rw[Au];exact qX (q9 (qN (l:=[.ref st.length]) rfl eo)) (qu (QR (wg (qQ rfl rfl (eq_nil_q (bs:=[])))) (qt (qQ (p:=.lst l4) (wp (W6 (qM rfl (qM (ZB (qM rfl qZ) (sz rfl)) (qM rfl (qM rfl qZ)))) (sz rfl))) (qN (l:=[.ref st.length,.int 4]) rfl t1) ev))))
 |cons b0 br =>
  rw[←hbe];have hpos:0<bs.length:=by rw[hbe,AJ];omega
  have hne:bs.isEmpty=false:=by rw[hbe];rfl
  have t1:=Q5 (a:=a) (st:=st) (j:=j) (x:=x0) (m:=(bs.length:Int)) ⟨by omega,by omega⟩;have t2:=Q5 (a:=a) (st:=st) (j:=j) (x:=x0/(bs.length:Int)) (m:=(bs.length:Int)) ⟨by omega,by omega⟩;have i1:=wy (x:=x0) (m:=(bs.length:Int)) (by omega);have i2:=wy (x:=x0/(bs.length:Int)) (m:=(bs.length:Int)) (by omega);generalize x0%(bs.length:Int)=at' at t1 i1;generalize x0/(bs.length:Int)%(bs.length:Int)=to' at t2 i2;generalize x0/(bs.length:Int)/(bs.length:Int)=x2 at t2;obtain⟨i,rfl⟩:∃i:Nat,at'=(i:Int):=⟨at'.toNat,by omega⟩;obtain⟨k,rfl⟩:∃k:Nat,to'=(k:Int):=⟨to'.toNat,by omega⟩;have hi:i<bs.length:=by omega
  have hk:k<bs.length:=by omega
  let W:=bs.map qP;have hWn:W.length=bs.length:=by show (bs.map qP).length=_;rw[AN]
  have hWl:W.length≤41:=by omega
  have hW36:W.length≤36:=by omega
  have hWo:∀p∈W,okP p=true:=Jq;have eb:∀S:qC,gIx (.tup W) (.int (i:Int)) S= .ok (qP bs[i]) S:=fun S=>qEM hi;obtain⟨r,c,z,w,hb⟩:∃r c z w,bs[i]=(r,c,z,w):=⟨_,_,_,_,rfl⟩;have gs:∀(n:Nat) (hn:n<bs.length) (X:SO),gIx (.ref (st.length+1+j.length)) (.int (n:Int)) (st++X::(j++[.l W]))= .ok (qP bs[n]) (st++X::(j++[.l W])):=fun n hn X=>by
   refine qDO (qAX WW) ?_;unfold L2.atI;rw[Zb (by omega) (by rw[hWn];omega),Option.bind_some,Bh];show (bs.map qP)[n]? = _;rw[A3,AM hn];rfl
  let W1:=W.set i (qP bs[k]);let W2:=W1.set k (qP bs[i]);have hW2:∀p∈W2,okP p=true:=qCa (qCa hWo rfl) rfl;have hW2l:W2.length≤36:=by show ((W.set i (qP bs[k])).set k (qP bs[i])).length≤36;rw[List.length_set,List.length_set];exact hW36
  have s1:∀X:SO,WY (st++X::(j++[.l W])) (.ref (st.length+1+j.length)) (.int (i:Int)) (qP bs[k])=some (st++X::(j++[.l W1])):=fun X=>qAl (by omega) (by rw[hWn];omega);have s2:∀X:SO,WY (st++X::(j++[.l W1])) (.ref (st.length+1+j.length)) (.int (k:Int)) (qP bs[i])=some (st++X::(j++[.l W2])):=fun X=>qAl (by omega) (by show (k:Int)<((W.set i (qP bs[k])).length:Int);rw[List.length_set,hWn];omega);have c1:=qJ1 (W:=W) (i:=i);have c2:=qGl (W:=W) (i:=i);have c3:=qGa (W:=W) (i:=i);have c4:=qJc (W:=W) (i:=i);have c5:=qAD (l:=W) hWl;let s6:List PV:=[.tup (wk W none (some (i:Int))++wk W (some ((i:Int)+1)) none),.tup (wk W none (some ((i:Int)+1))++wk W (some (i:Int)) none),.tup W2,.lst W,o,.tup (HT.cutS W none none (-1))];have h6:∀p∈s6,okV p=true:=qJp (Zl (by rw[AO];omega) (ZU (fun q hq=>hWo q (ZQ hq)) fun q hq=>hWo q (ZQ hq))) (Zl (by rw[AO];omega) (ZU (fun q hq=>hWo q (ZQ hq)) fun q hq=>hWo q (ZQ hq))) (Zl (by omega) hW2) rfl ho (Zl (by omega) fun q hq=>hWo q (qF3 hq));let n6:List PV:=[qP (r,c,z,(w+1)%3),qP (r+1,c,z,w),qP (r,c+1,z,w),qP (r,c,z-1,w),o,qP (r,c,z,3)];let n4:List PV:=[.tup [.int r,.int c,.int z],.lst [.int r,.int c,.int z,.int w],.tup [.int r,.int c,.int z,.bl (w != 0)],.tup [.int r,.int c,.int z,.int w,.int 0]];have h10:∀p∈n6++n4,okP p=true:=ZU (qJp rfl rfl rfl rfl (qCd ho) rfl) fun p hp=>by simp only[n4,AH,Af,Bg]at hp;rcases hp with rfl|rfl|rfl|rfl <;> rfl
  let J:qC:=j++[.l W2];let l16:List PV:=s6++(n6++n4).map fun p=>.tup (qDc W (i:Int) p);obtain⟨y12,el⟩:=qB6 (st:=st) (j:=J) (b:=.l [.int x2]) (W:=W) (t:=(i:Int)) (x0:=some (.ref st.length)) (x2:=some o) (x4:=some (.int (k:Int))) (x5:=some (.int r)) (x6:=some (.int c)) (x7:=some (.int z)) (x8:=some (.int w)) (x9:=some (.ref (st.length+1+j.length))) (x11:=some (.lst n6)) hWl (n6++n4) s6 none (show 6+10≤500 by decide);have h16:∀p∈l16,okV p=true:=ZU h6 fun p hp=>by obtain⟨u,hu,rfl⟩:=Ai.mp hp;exact Zl (by unfold qDc;rw[AO,AO,Am];omega) (qFH hWo (h10 u hu))
  have t3:=Q5 (a:=a) (st:=st) (j:=J++[.l l16]) (x:=x2) (m:=16) ⟨by decide,by decide⟩;have i3:=wy (x:=x2) (m:=16) (by decide);obtain⟨v,hv,ev⟩:=qG3 (l:=l16) (i:=x2%16) (st:=st ++ .l [.int (x2/16)]::(J++[.l l16])) (n:=st.length+1+J.length) WW i3.1 i3.2;refine⟨v,x2/16,[.l W2,.l l16],h16 v hv,?_⟩;rw[show j++[SO.l W2,.l l16]=J++[.l l16] by show _=(j++[_])++[_];rw[Av];rfl];refine qi rfl ?_;unfold Yh;refine qX (q9 (qN (l:=[.ref st.length]) rfl eo)) ?_;refine qX (Qn (wg (qQ rfl rfl (eq_nil_q.trans (by rw[hne])))) rfl) ?_;refine qX (q9 (qN (l:=[.ref st.length,.int (bs.length:Int)]) (qM rfl (qM (qN (l:=[.tup W]) rfl (Wo rfl (by rw[hWn]))) qZ)) t1)) ?_;refine qX (q9 (qN (l:=[.ref st.length,.int (bs.length:Int)]) (qM rfl (qM (qN (l:=[.tup W]) rfl (Wo rfl (by rw[hWn]))) qZ)) t2)) ?_;refine qX (qGD (r1:=[some (.ref st.length),some (.tup W),some o,some (.int (i:Int)),some (.int (k:Int)),some (.int r),some (.int c),some (.int z),some (.int w),none,none,none,none]) (qQ rfl rfl (eb _)) (by rw[hb];rfl)) ?_;refine qX (Ye (l:=W) (by unfold yB;rfl)) ?_;refine qX (qJX (ZB (qM (qQ rfl rfl (gs k hk _)) (qM (qQ rfl rfl (gs i hi _)) qZ)) (sz rfl)) rfl rfl (s1 _) rfl rfl (s2 _)) ?_;refine qX (Ye (j:=J) (l:=s6) (W6 (qM (qQ (Zi rfl rfl (wt rfl)) (Zi rfl (wt (qQ rfl rfl Q6)) rfl) (zk (by omega))) (qM (qQ (Zi rfl rfl (wt (qQ rfl rfl Q6))) (Zi rfl (wt rfl) rfl) (zk (by omega))) (qM (qN (qM rfl qZ) (YA (qAX WW))) (qM (qFB rfl) (qM rfl (qM (qIt rfl hWl) qZ)))))) (sz rfl))) ?_;refine qX (q9 (p:=.lst n6) (wp (W6 (qM (Yb rfl rfl rfl (qQ (qQ rfl rfl Q6) rfl (yd (by decide)))) (qM (Yb (qQ rfl rfl Q6) rfl rfl rfl) (qM (Yb rfl (qQ rfl rfl Q6) rfl rfl) (qM (Yb rfl rfl (qQ rfl rfl qBT) rfl) (qM rfl (qM (Yb rfl rfl rfl rfl) qZ)))))) (sz rfl)))) ?_;refine qX (zR (WN (wp (YQ (l:=n6) (m:=n4) rfl (wp (W6 (qM (ZB (qM rfl (qM rfl (qM rfl qZ))) (sz rfl)) (qM (wp (W6 (qM rfl (qM rfl (qM rfl (qM rfl qZ)))) (sz rfl))) (qM (ZB (qM rfl (qM rfl (qM rfl (qM (qN (l:=[.int w]) rfl rfl) qZ)))) (sz rfl)) (qM (ZB (qM rfl (qM rfl (qM rfl (qM rfl (qM rfl qZ))))) (sz rfl)) qZ)))) (sz rfl))) rfl rfl (sz rfl)))) el) ?_;exact qt (qQ rfl (qN (l:=[.ref st.length,.int 16]) rfl t3) ev)
theorem qG5{a:Ad}{R:C3}{L:Int}{v:PV}{S:qC}{x0 x1 x2 x5 x6 x8 x9 x10 x11:Option PV}(hR:Rm R)(hV:vol R≤36)(h1:2≤L)(h2:L≤5)(hv:okV v=true):∃(y8:Option PV) (g:qC),thB a [x0,x1,x2,some (.int L),some (tP R),x5,x6,some v,x8,x9,x10,x11] S= .nx [x0,x1,x2,some (.int L),some (tP R),x5,x6,some v,y8,x9,x10,x11] (S++g):=by
 obtain⟨g,e⟩:=qI7 (a:=a) (R:=R) (L:=L) (v:=v) (st:=S) hR h1 h2 hv;refine⟨some (.bl (yi R L v)),g,qX (q9 (qN (l:=[tP R,.int L,v]) rfl (qHR (qHu hR (by omega) h1 h2 hv)))) (Qn (Qi (w_not (b:=true) (Qd (qN (l:=[.bl (yi R L v),.ty "bool"]) rfl rfl))) (wg (qQ (p:=.bl (yi R L v)) (q:=.bl (yi R L v)) rfl (qN (l:=[tP R,.int L,v]) rfl e) ?_))) rfl)⟩;cases yi R L v <;> rfl
theorem qB7{a:Ad}{R:C3}{L:Int}{x0 x1 x2 x5 x6 x9 x10 x11:Option PV}(hR:Rm R)(hV:vol R≤36)(h1:2≤L)(h2:L≤5):∀(l:List PV) (x7 x8:Option PV) (S:qC),(∀v∈l,okV v=true)->∃(y7 y8:Option PV) (g:qC),Qj (fun _=>True) (QH 7) (thB a) l [x0,x1,x2,some (.int L),some (tP R),x5,x6,x7,x8,x9,x10,x11] S= .nx [x0,x1,x2,some (.int L),some (tP R),x5,x6,y7,y8,x9,x10,x11] (S++g)|[],x7,x8,S,_=>⟨x7,x8,[],by rw[Au];exact Qa trivial⟩|v::l,x7,x8,S,h=>by obtain⟨z8,g1,e1⟩:=qG5 (a:=a) (R:=R) (L:=L) (v:=v) (S:=S) (x0:=x0) (x1:=x1) (x2:=x2) (x5:=x5) (x6:=x6) (x8:=x8) (x9:=x9) (x10:=x10) (x11:=x11) hR hV h1 h2 (h v AK);obtain⟨y7,y8,g,e2⟩:=qB7 (a:=a) (R:=R) (L:=L) (x0:=x0) (x1:=x1) (x2:=x2) (x5:=x5) (x6:=x6) (x9:=x9) (x10:=x10) (x11:=x11) hR hV h1 h2 l (some v) z8 (S++g1) fun u hu=>h u (AI _ hu);exact⟨y7,y8,g1++g,by rw[←Av];exact WD trivial rfl e1 e2⟩
theorem qCM{a:Ad}(hd:Dist a){v6:PV}{x0 x1 x2 x3 x4 x5 x7 x8 x9 x11:Option PV}{S:qC}:∀(l:List PV) (x10:Option PV),(∀v∈l,okP v=true∧zx v=false)->∃y10,Qj (fun _=>True) (QH 10) (bxB a) l [x0,x1,x2,x3,x4,x5,some v6,x7,x8,x9,x10,x11] S= .nx [x0,x1,x2,x3,x4,x5,some v6,x7,x8,x9,y10,x11] S|[],x10,_=>⟨x10,Qa trivial⟩|v::l,x10,h=>by obtain⟨y10,e⟩:=qCM (a:=a) hd (v6:=v6) (x0:=x0) (x1:=x1) (x2:=x2) (x3:=x3) (x4:=x4) (x5:=x5) (x7:=x7) (x8:=x8) (x9:=x9) (x11:=x11) (S:=S) l (some v) fun u hu=>h u (AI _ hu);have hv:=h v AK;exact⟨y10,WD trivial rfl (Qn (wg (qQ (p:=.str "! box") (q:=.str "! box") (qN (l:=[v,.int 6,v6]) rfl (qFt hd hv.1 hv.2)) rfl rfl)) rfl) e⟩
theorem qHe{R:C3}:∀v∈([.tup [.int R.1,.int R.2.1],.lst [.int R.1,.int R.2.1,.int R.2.2],.tup [.int R.1,.int R.2.1,.int R.2.2,.int 1],.tup [.int 0,.int R.2.1,.int R.2.2],.tup [.int R.1,.int R.2.1,.bl true],.tup [.int R.1,.int (10 ^ 9+1),.int 1]]++[.non,.tup [.int (-1),.int 1,.int 1],.tup [.str "1",.int 1,.int 1],.int 5]:List PV),okP v=true∧zx v=false:=fun v hv=>by
 simp only[List.cons_append,CQ,AH,Af,Bg]at hv;rcases hv with rfl|rfl|rfl|rfl|rfl|rfl|rfl|rfl|rfl|rfl
 ·exact⟨rfl,by simp[zx]⟩
 ·exact⟨rfl,rfl⟩
 ·exact⟨rfl,by simp[zx]⟩
 ·exact⟨rfl,by simp[zx,qAg,side,WB]⟩
 ·exact⟨rfl,by simp[zx,qAg,side,WB]⟩
 ·exact⟨rfl,by simp[zx,qAg,side,WB]⟩
 ·exact⟨rfl,rfl⟩
 ·exact⟨rfl,rfl⟩
 ·exact⟨rfl,rfl⟩
 ·exact⟨rfl,rfl⟩
def qBo(a:Ad):FS:=(qV (qb 2 (qH (ZW a) (qA (qB 0) (qA (qB 1) qD)))) (qV (qb 3 (qJ QA (vC (.int 2)) (qH (qd a) (qA (qB 2) (qA (vC (.int 4)) qD))))) (qV (qb 4 (qH (zW a) (qA (qB 2) (qA (vC (.int 36)) qD)))) (qV (qb 5 (qH (Wj a) (qA (qB 2) (qA (qB 4) (qA (qB 3) qD))))) (qV (qb 6 (qH (zN a) (qA (qB 2) qD))) (qV (w4 (QM (vFz (wR (qA (qB 5) (qA (qH (wP a) (qA (qB 2) (qA (qB 5) qD))) (qA (qH (wP a) (qA (qB 2) (qA (qB 5) qD))) (qA (qH (wP a) (qA (qB 2) (qA (qB 5) qD))) (qA (qB 6) (qA (QC qD) qD))))))))) (QH 7) (qV (qb 8 (qH (QL a) (qA (qB 4) (qA (qB 3) (qA (qB 7) qD))))) (Qz (zM (Q1 (ql (qH (Qb (kit a)) (qA (qB 8) (qA (vC (.ty "bool")) qD))))) (vTB (qJ gNe (qB 8) (qH (Qp a) (qA (qB 4) (qA (qB 3) (qA (qB 7) qD))))))) (qh (vC (.bl false))) QV))) (qV (qb 9 (vFz (wR (qA (zn (qB 4) QP (QN (vC (.int 2)))) (qA (vFz (yB (qB 4))) (qA (qJ wm (qB 4) (QC (qA (vC (.int 1)) qD))) (qA (qJ wm (QC (qA (vC (.int 0)) qD)) (zn (qB 4) (QN (vC (.int 1))) QP)) (qA (qJ wm (zn (qB 4) QP (QN (vC (.int 2)))) (QC (qA (vC (.bl true)) qD))) (qA (qJ wm (zn (qB 4) QP (QN (vC (.int 1)))) (QC (qA (qJ QA (qJ qDb (vC (.int 10)) (vC (.int 9))) (vC (.int 1))) (qA (vC (.int 1)) qD)))) qD))))))))) (qV (w4 (QM (vFz (Z2 (qB 9) (vFz (wR (qA (vC .non) (qA (QC (qA (qBg (vC (.int 1))) (qA (vC (.int 1)) (qA (vC (.int 1)) qD)))) (qA (QC (qA (vC (.str "1")) (qA (vC (.int 1)) (qA (vC (.int 1)) qD)))) (qA (vC (.int 5)) qD))))))))) (QH 10) (Qz (vTB (qJ gNe (qH (QL a) (qA (qB 10) (qA (vC (.int 6)) (qA (qB 6) qD)))) (vC (.str "! box")))) (qh (vC (.bl false))) QV)) (qV (Qz (vTB (qJ gNe (qH (QL a) (qA (qB 4) (qA (qJ gIx (vFz (wR (qA (vC (.int 1)) (qA (vC (.int 6)) (qA (vC (.bl true)) (qA (vC .non) qD)))))) (qH (qd a) (qA (qB 2) (qA (vC (.int 4)) qD)))) (qA (qB 6) qD)))) (vC (.str "! length")))) (qh (vC (.bl false))) QV) (qV (qb 11 (QC (qA (vC (.int 7)) (qA (vC (.int 11)) (qA (qJ QA (vC (.int 13)) (qH (qd a) (qA (qB 2) (qA (qJ qDb (vC (.int 10)) (vC (.int 6))) qD)))) qD))))) (Qz (vTB (qJ gNe (qH (QL a) (qA (qB 11) (qA (qB 3) (qA (qB 6) qD)))) (qJ yn (qJ yn (vC (.str "! many ")) (qH qBV (qA (qJ WA (vC (.int 77)) (qJ gIx (qB 11) (vC (.int 2)))) qD))) (vC (.str " 1000"))))) (qh (vC (.bl false))) QV)))))))))))
theorem qHb{s:Str}{st:qC}:gNe (.str s) (.str s) st= .ok (.bl false) st:=by show Rs.ok (PV.bl (!(s==s))) st=_;rw[Aj];rfl
theorem qGU{P:PV->Prop}{a b c d e f:PV}(h1:P a)(h2:P b)(h3:P c)(h4:P d)(h5:P e)(h6:P f):∀p∈[a,b,c,d,e,f],P p:=qJp h1 h2 h3 h4 h5 h6
theorem qK8{a:Ad}(hd:Dist a){ns:List Int}{k:Int}{st:qC}{x2 x3 x4 x5 x6 x7 x8 x9 x10 x11:Option PV}(hb:∀n∈ns,Builtin.Int.intBits n≤2 ^ 20)(h0:0≤k)(h00:k<100):∃y2 y3 y4 y5 y6 y7 y8 y9 y10 y11 st',qBo a [some (.lst (ns.map PV.int)),some (.int k),x2,x3,x4,x5,x6,x7,x8,x9,x10,x11] st= .nx [some (.lst (ns.map PV.int)),some (.int k),y2,y3,y4,y5,y6,y7,y8,y9,y10,y11] st':=by
 obtain⟨x,ex⟩:=qI1 (a:=a) (ns:=ns) (k:=k) (st:=st) hb h0 h00;have t1:=Q5 (a:=a) (st:=st) (j:=[]) (x:=x) (m:=4) ⟨by decide,by decide⟩;have hL:=wy (x:=x) (m:=4) (by decide);have hL1:2≤2+x%4:=by omega
 have hL2:2+x%4≤5:=by omega
 generalize hLe:2+x%4=L at hL1 hL2;obtain⟨R,y1,hR,hV,ra,rb,rc,eR⟩:=qHv (a:=a) (st:=st) (j:=[]) (x:=x/4);obtain⟨bs,y2,g2,hbs,eF⟩:=qDF (a:=a) (R:=R) (L:=L) (x:=y1) (st:=st) (j:=[]) hR hV ra rb rc hL1 hL2;rw[CQ]at eF;obtain⟨o,ho,eo⟩:=qGG (a:=a) (st:=st) (j:=g2) (x:=y2);obtain⟨v1,y3,g3,hv1,b1⟩:=jq (a:=a) (st:=st) (j:=g2) (x:=y2/27) (bs:=bs) hbs;obtain⟨v2,y4,g4,hv2,b2⟩:=jq (a:=a) (st:=st) (j:=g2++g3) (x:=y3) (bs:=bs) hbs;obtain⟨v3,y5,g5,hv3,b3⟩:=jq (a:=a) (st:=st) (j:=g2++g3++g4) (x:=y4) (bs:=bs) hbs;have hbv:okV (.tup (bs.map qP))=true:=Zl (by rw[AN];omega) Jq;obtain⟨z7,z8,g6,e6⟩:=qB7 (a:=a) (R:=R) (L:=L) (x0:=some (.lst (ns.map PV.int))) (x1:=some (.int k)) (x2:=some (.ref st.length)) (x5:=some (.tup (bs.map qP))) (x6:=some o) (x9:=x9) (x10:=x10) (x11:=x11) hR hV hL1 hL2 [.tup (bs.map qP),v1,v2,v3,o,.tup []] x7 x8 (st ++ .l [.int y5]::(g2++g3++g4++g5)) (qGU hbv hv1 hv2 hv3 ho rfl);rw[show (st++SO.l [.int y5]::(g2++g3++g4++g5))++g6=st ++ .l [.int y5]::(g2++g3++g4++g5++g6) by simp]at e6;generalize g2++g3++g4++g5++g6=J at e6;let bd:List PV:=[.tup [.int R.1,.int R.2.1],.lst [.int R.1,.int R.2.1,.int R.2.2],.tup [.int R.1,.int R.2.1,.int R.2.2,.int 1],.tup [.int 0,.int R.2.1,.int R.2.2],.tup [.int R.1,.int R.2.1,.bl true],.tup [.int R.1,.int (10 ^ 9+1),.int 1]];obtain⟨z10,e7⟩:=qCM (a:=a) hd (v6:=o) (x0:=some (.lst (ns.map PV.int))) (x1:=some (.int k)) (x2:=some (.ref st.length)) (x3:=some (.int L)) (x4:=some (tP R)) (x5:=some (.tup (bs.map qP))) (x7:=z7) (x8:=z8) (x9:=some (.lst bd)) (x11:=x11) (S:=st ++ .l [.int y5]::J) (bd++[.non,.tup [.int (-1),.int 1,.int 1],.tup [.str "1",.int 1,.int 1],.int 5]) x10 qHe;have t2:=Q5 (a:=a) (st:=st) (j:=J) (x:=y5) (m:=4) ⟨by decide,by decide⟩;have m2:=wy (x:=y5) (m:=4) (by decide);obtain⟨u,hu1,hu2,eu⟩:∃u,wM u=true∧WB 2 5 u=false∧∀S,gIx (.lst [.int 1,.int 6,.bl true,.non]) (.int (y5%4)) S= .ok u S:=by
  generalize y5%4=i at m2
  have:i=0∨i=1∨i=2∨i=3:=by omega
  rcases this with rfl|rfl|rfl|rfl
  ·exact⟨.int 1,rfl,rfl,fun _=>rfl⟩
  ·exact⟨.int 6,rfl,rfl,fun _=>rfl⟩
  ·exact⟨.bl true,rfl,rfl,fun _=>rfl⟩
  ·exact⟨.non,rfl,rfl,fun _=>rfl⟩
 have t3:=Q5 (a:=a) (st:=st) (j:=J) (x:=y5/4) (m:=10 ^ 6) ⟨by decide,by decide⟩;have m3:=wy (x:=y5/4) (m:=10 ^ 6) (by decide);generalize y5/4%10 ^ 6=q at t3 m3;generalize y5/4/10 ^ 6=y6 at t3;have hq:q<1000000:=Int.lt_of_lt_of_le m3.2 (by decide);have hG:Rm (7,11,13+q):=⟨⟨show (1:Int)≤7 by decide,show (7:Int)≤1000000000 by decide⟩,⟨show (1:Int)≤11 by decide,show (11:Int)≤1000000000 by decide⟩,by show 1≤13+q;omega,by show 13+q≤1000000000;omega⟩;have hvq:vol (7,11,13+q)=77*(13+q):=rfl;have hg:=qC2 (a:=a) hd (c:=(7,11,13+q)) (L:=L) (w:=o) (st:=st ++ .l [.int y6]::J) hG hL1 hL2 (by rw[hvq];omega);rw[hvq]at hg;have hsm:(77*(13+q)).natAbs<2 ^ 100:=by omega
 have hsl:=qBK hsm;have l1:("! many ":Str).length=7:=by decide
 have l2:(" 1000":Str).length=5:=by decide
 refine⟨some (.ref st.length),some (.int L),some (tP R),some (.tup (bs.map qP)),some o,z7,z8,some (.lst bd),z10,some (tP (7,11,13+q)),st ++ .l [.int y6]::J,?_⟩;unfold qBo;refine qX (q9 (p:=.ref st.length) (s1:=st++[.l [.int x]]) (qN (qM rfl (qM rfl qZ)) ex)) ?_;refine qX (q9 (p:=.int L) (qQ rfl (qN (l:=[.ref st.length,.int 4]) rfl t1) (by rw[Q6,hLe]))) ?_;refine qX (q9 (qN (l:=[.ref st.length,.int 36]) rfl eR)) ?_;refine qX (q9 (qN (l:=[.ref st.length,tP R,.int L]) rfl eF)) ?_;refine qX (q9 (qN (l:=[.ref st.length]) rfl eo)) ?_;refine qX (zR (WN (wp (W6 (qM rfl (qM (qN (l:=[.ref st.length,.tup (bs.map qP)]) rfl b1) (qM (qN (l:=[.ref st.length,.tup (bs.map qP)]) rfl b2) (qM (qN (l:=[.ref st.length,.tup (bs.map qP)]) rfl b3) (qM rfl (qM rfl qZ)))))) (sz rfl)))) e6) ?_;refine qX (q9 (p:=.lst bd) (wp (W6 (qM (Zi (p:=none) (q:=some 2) (l:=[.int R.1,.int R.2.1,.int R.2.2]) rfl rfl (wt (k:=2) rfl)) (qM (qFB (l:=[.int R.1,.int R.2.1,.int R.2.2]) rfl) (qM (qQ (p:=tP R) (q:=.tup [.int 1]) rfl rfl (zk (l:=[.int R.1,.int R.2.1,.int R.2.2]) (m:=[.int 1]) (show 3+1≤1000 by decide))) (qM (qQ (p:=.tup [.int 0]) (q:=.tup [.int R.2.1,.int R.2.2]) rfl (Zi (p:=some 1) (q:=none) (l:=[.int R.1,.int R.2.1,.int R.2.2]) rfl (wt (k:=1) rfl) rfl) (zk (l:=[.int 0]) (m:=[.int R.2.1,.int R.2.2]) (show 1+2≤1000 by decide))) (qM (qQ (p:=.tup [.int R.1,.int R.2.1]) (q:=.tup [.bl true]) (Zi (p:=none) (q:=some 2) (l:=[.int R.1,.int R.2.1,.int R.2.2]) rfl rfl (wt (k:=2) rfl)) rfl (zk (l:=[.int R.1,.int R.2.1]) (m:=[.bl true]) (show 2+1≤1000 by decide))) (qM (qQ (p:=.tup [.int R.1]) (q:=.tup [.int (10 ^ 9+1),.int 1]) (Zi (p:=none) (q:=some 1) (l:=[.int R.1,.int R.2.1,.int R.2.2]) rfl rfl (wt (k:=1) rfl)) rfl (zk (l:=[.int R.1]) (m:=[.int (10 ^ 9+1),.int 1]) (show 1+2≤1000 by decide))) qZ)))))) (sz rfl)))) ?_;refine qX (zR (WN (wp (YQ (l:=bd) (m:=[.non,.tup [.int (-1),.int 1,.int 1],.tup [.str "1",.int 1,.int 1],.int 5]) rfl rfl rfl rfl (sz rfl)))) e7) ?_;refine qX (Qn (wg (qQ (p:=.str "! length") (q:=.str "! length") (qN (l:=[tP R,u,o]) (qM rfl (qM (qQ (p:=.lst [.int 1,.int 6,.bl true,.non]) rfl (qN (l:=[.ref st.length,.int 4]) rfl t2) (eu _)) (qM rfl qZ))) (qEy hd hR hu1 hu2)) rfl rfl)) rfl) ?_;refine qX (q9 (p:=tP (7,11,13+q)) (ZB (l:=[.int 7,.int 11,.int (13+q)]) (qM rfl (qM rfl (qM (qQ rfl (qN (l:=[.ref st.length,.int (10 ^ 6)]) rfl t3) Q6) qZ))) (sz rfl))) ?_;exact Qn (wg (qQ (qN (l:=[tP (7,11,13+q),.int L,o]) rfl hg) (qQ (qQ rfl (qN (l:=[.int (77*(13+q))]) (qM (qQ (q:=.int (13+q)) rfl (qQ (p:=tP (7,11,13+q)) (q:=.int 2) rfl rfl rfl) (JS (by decide))) qZ) (qBx hsm)) (qAk (by rw[l1];omega))) rfl (qAk (by rw[B8,l1,l2];omega))) qHb)) rfl
theorem Jy{a:Ad}(hd:Dist a){ns:List Int}(hb:∀n∈ns,Builtin.Int.intBits n≤2 ^ 20):∀(ks:List Int) (x1 x2 x3 x4 x5 x6 x7 x8 x9 x10 x11:Option PV) (st:qC),(∀k∈ks,0≤k∧k<100)->∃e st',Qj (fun _=>True) (QH 1) (qBo a) (ks.map PV.int) [some (.lst (ns.map PV.int)),x1,x2,x3,x4,x5,x6,x7,x8,x9,x10,x11] st= .nx e st'|[],x1,x2,x3,x4,x5,x6,x7,x8,x9,x10,x11,st,_=>⟨_,st,Qa trivial⟩|k::ks,x1,x2,x3,x4,x5,x6,x7,x8,x9,x10,x11,st,h=>by obtain⟨y2,y3,y4,y5,y6,y7,y8,y9,y10,y11,st1,e⟩:=qK8 (a:=a) hd (ns:=ns) (k:=k) (st:=st) (x2:=x2) (x3:=x3) (x4:=x4) (x5:=x5) (x6:=x6) (x7:=x7) (x8:=x8) (x9:=x9) (x10:=x10) (x11:=x11) hb (h k AK).1 (h k AK).2;obtain⟨e',st',e2⟩:=Jy hd (ns:=ns) hb ks (some (.int k)) y2 y3 y4 y5 y6 y7 y8 y9 y10 y11 st1 fun q hq=>h q (AI _ hq);exact⟨e',st',WD trivial rfl e e2⟩
theorem law_true:∀(a:Ad) (ns:List Int),Dist a->ns.length≤63->(∀k∈ns,Builtin.Int.intBits k≤2 ^ 20)->∃st,Js a [.lst (ns.map PV.int)] []= .ok (.bl true) st:=by
 intro a ns hd hl hb;obtain⟨n,hn0,hn4,hn⟩:∃n:Int,0≤n∧n≤4∧qH qEr (qA (vC (.int 1)) (qA (qH J8 (qA (qH wu (qA (qB 0) qD)) (qA (vC (.int 4)) qD))) qD)) (qv 12 [.lst (ns.map PV.int)]) []= .ok (.int n) []:=by
  refine⟨if (if (4:Int)<ns.length then 4 else (ns.length:Int))>1 then (if (4:Int)<ns.length then 4 else (ns.length:Int)) else 1,?_,?_,?_⟩;split <;> (try split) <;> omega;split <;> (try split) <;> omega;exact qN (qM rfl (qM (qN (l:=[.int ns.length,.int 4]) (qM (qN (qM rfl qZ) (Wo (l:=ns.map PV.int) rfl (by rw[AN]))) (qM rfl qZ)) rfl) qZ)) rfl
 obtain⟨e,st',h⟩:=Jy hd hb (Qe n) none none none none none none none none none none none [] fun k hk=>by have:=upto_mem.mp hk;omega
 exact⟨st',qi rfl (qX (zR (itN hn0 (by omega) (qM hn qZ)) h) (qt rfl))⟩
end K81
end
section

end
noncomputable section
namespace K81
open PySem PySem.Spec PyProof.Rows L2 EX EV
theorem qGv{a:Ad}{x:Addr}{c:Value}{b:Bool}(h:kit a (.ref x) c=some b):x∈Qo a:=by
 cases c with
 |ref d =>
  have h:(if x∈Qo a∧d∈a.kinds then some (x==d) else none)=some b:=h;split at h;rename_i hx;exact hx.1;cases h
 |type T =>
  have h:(if x∈Qo a∧T = "ValueError" then some true else none)=some b:=h;split at h;rename_i hx;exact hx.1;cases h
 |_=>cases h
theorem qDm{K:W.Frag}:∀p∈kitTab,W.kitOne K (.type p.1.1) (.type p.1.2)=some p.2:=by intro p hp;unfold kitTab at hp;simp only[AH,Af,Bg]at hp;rcases hp with rfl|rfl|rfl|rfl|rfl|rfl|rfl|rfl|rfl|rfl|rfl|rfl|rfl|rfl|rfl|rfl|rfl|rfl|rfl|rfl|rfl|rfl|rfl|rfl|rfl|rfl|rfl|rfl <;> rfl
theorem qAN{s T:String}{b:Bool}:∀{l:List ((String×String)×Bool)},l.lookup (s,T)=some b->((s,T),b)∈l
 |[],h=>by cases h
 |(q,k)::l,h=>by
  rw[Ap]at h;split at h;rename_i e;cases h;rw[eq_of_beq e];exact AK;exact AI _ (qAN h)
theorem qGj{K:W.Frag}{s T:String}{b:Bool}(h:qKy s T=some b):W.kitOne K (.type s) (.type T)=some b:=qDm _ (qAN h)
theorem QI{a:Ad}(h:Dist a):a.Z1≠a.Z2∧a.Z1≠a.Z3∧a.Z1≠a.Z4∧a.Z1≠a.Z5∧a.Z1≠a.Z6∧a.Z1≠a.Z7∧a.Z1≠a.Z8∧a.Z1≠a.Z9∧a.Z1≠a.Z10∧a.Z1≠a.Z11:=by have nd:=h.nd;unfold Ad.kinds at nd;simp only[A2,AH,Af,not_or,Bg]at nd;refine⟨?_,?_,?_,?_,?_,?_,?_,?_,?_,?_⟩ <;> (intro z;simp only[z,not_true_eq_false,false_and,and_false]at nd)
theorem Qv{a:Ad}(h:Dist a):a.Z4≠a.Z1∧a.Z4≠a.Z2∧a.Z4≠a.Z3∧a.Z4≠a.Z5∧a.Z4≠a.Z6∧a.Z4≠a.Z7∧a.Z4≠a.Z8∧a.Z4≠a.Z9∧a.Z4≠a.Z10∧a.Z4≠a.Z11:=by have nd:=h.nd;unfold Ad.kinds at nd;simp only[A2,AH,Af,not_or,Bg]at nd;refine⟨?_,?_,?_,?_,?_,?_,?_,?_,?_,?_⟩ <;> (intro z;simp only[z,not_true_eq_false,false_and,and_false]at nd)
theorem QQ{a:Ad}(h:Dist a):a.Z11≠a.Z1∧a.Z11≠a.Z2∧a.Z11≠a.Z3∧a.Z11≠a.Z4∧a.Z11≠a.Z5∧a.Z11≠a.Z6∧a.Z11≠a.Z7∧a.Z11≠a.Z8∧a.Z11≠a.Z9∧a.Z11≠a.Z10:=by have nd:=h.nd;unfold Ad.kinds at nd;simp only[A2,AH,Af,not_or,Bg]at nd;refine⟨?_,?_,?_,?_,?_,?_,?_,?_,?_,?_⟩ <;> (intro z;simp only[z,not_true_eq_false,false_and,and_false]at nd)
def Yi(e:DictEntry):Bool:=match e.key with| .str _ _=>true|_=>false
theorem ZZ{K:W.Frag}{N:Addr}{c:Value}{dd:Option Addr}{es:Array DictEntry}{ep:Nat}{sl:Array (Option Value)}(h:K.lookup N=some ⟨c,dd,.dict es ep,sl⟩)(hl:es.toList.all Yi=true):W.nsOkIn K N=true:=by unfold W.nsOkIn;rw[show List.lookup N K=_ from h];show (es.all fun e=>match e.key with | .str _ _=>true|_=>false)=true;rw[←Array.all_toList];exact hl
theorem qCi{K:W.Frag}{B:Addr}{cdB:ClassData}{cB:Value}{dB:Option Addr}{slB:Array (Option Value)}(hB:K.lookup B=some ⟨cB,dB,.cls cdB,slB⟩)(hnB:W.nsOkIn K cdB.ns=true)(hiB:W.nsIn K cdB.ns "__init__" = some none):W.tailIn K bmV (.ref B::bmV)=true:=by rw[W.tailIn.eq_2,show List.lookup B K=_ from hB];dsimp only;rw[hnB,hiB];rfl
theorem qFv{K:W.Frag}{C:Addr}{dd:Option Addr}{cd:ClassData}{sl:Array (Option Value)}{c:Value}(h:K.lookup C=some ⟨c,dd,.cls cd,sl⟩):W.clsIn K C=some cd:=by unfold W.clsIn;rw[show List.lookup C K=_ from h]
theorem qEp{K:W.Frag}{C B:Addr}{dd:Option Addr}{cd cdB:ClassData}{sl:Array (Option Value)}{k0 k1 k2 k3 k5:Option Value}{cB:Value}{dB:Option Addr}{slB:Array (Option Value)}(hC:K.lookup C=some ⟨.type "type",dd,.cls cd,sl⟩)(hm:cd.mro= .ref C :: .ref B::bmV)
  (hs:sl.toList=[k0,k1,k2,k3,some (.builtin "ValueError.__new__"),k5]) (hD:cd.hasDel=false) (hn:W.nsOkIn K cd.ns=true) (hi:W.nsIn K cd.ns "__init__" = some none) (hB:K.lookup B=some ⟨cB,dB,.cls cdB,slB⟩) (hnB:W.nsOkIn K cdB.ns=true) (hiB:W.nsIn K cdB.ns "__init__" = some none) :
  W.excIn K C bmV "ValueError.__new__" = true:=by have t:=qCi hB hnB hiB;obtain⟨nm,bs,mro,ns,qn,hd,sn,sb,ab,co,del⟩:=cd;obtain⟨sl⟩:=sl;have hm:mro=_:=hm;have hs:sl=_:=hs;have hD:del=false:=hD;subst hm;subst hs;subst hD;unfold W.excIn;rw[show List.lookup C K=_ from hC];show (C==C&&("ValueError.__new__" == "ValueError.__new__") && !false&&W.tailIn K bmV (.ref B::bmV)&&W.nsOkIn K ns&&(W.nsIn K ns "__init__" == some none))=true;rw[t,show W.nsOkIn K ns=true from hn,show W.nsIn K ns "__init__" = some none from hi];simp
theorem qHM{P:Program}{w:World}{K:W.Frag}{mg:Str->Option Value}{base:Heap}{CX:CXT}{k:Nat}{f:Addr}{fd:FuncData}{ps:List Str}{sp sp':Sp}(F:FnOk P w K mg base CX k f fd ps sp)(h:∀vs H Q E,sp' vs H Q E->sp vs H Q E):FnOk P w K mg base CX k f fd ps sp' :=
 ⟨fun vs H Q E q=>F.len vs H Q E (h vs H Q E q),fun A outer s H args us vs Q E hr e b v q=>F.run A outer s H args us vs Q E hr e b v (h vs H Q E q)⟩
def spL(K:W.Frag):Sp:=fun vs H Q E=>∀a,Dist a->spG K 1 (Js a) vs H Q E
theorem all_mk{l:W.OpenLaw}{w:World}{K:W.Frag}{h:Heap}{mg:Str->Option Value}{fa:Addr}(X:K.In h)(G:h.Ns mainGlobals mg)(hfa:mg "law" = some (.ref fa))
  {c_Z0 c_Z1 c_Z2 c_Z3 c_Z4 c_Z5 c_Z6 c_Z7 c_Z8 c_Z9 c_Z10 c_Z11 ff0 ff1 ff2 ff3 ff4 ff5 ff6 ff7 ff8 ff9 ff10 ff11 ff12 ff13 ff14 ff15 ff16 ff17 ff18 ff19 ff20 ff21 ff22 ff23 ff24 ff25 ff26 ff27 ff28 ff29 ff30:Addr}
  {t_LEAST_LENGTH:Tok}
  {t_MOST_LENGTH:Tok}
  {t_MOST_SIDE:Tok}
  {t_MOST_SIDES:Tok}
  {t_MOST_LOOKED_AT:Tok}
  {z_ROOM_WAYS:Addr} {zd_ROOM_WAYS:Option Addr} {zn_ROOM_WAYS:Nat} {zs_ROOM_WAYS:Array (Option Value)} {zt0_ROOM_WAYS zt1_ROOM_WAYS zt2_ROOM_WAYS:Tok}
  {ddB:Option Addr} {cdB:ClassData} {slB:Array (Option Value)}
  {NB:Addr} {cNB:Value} {dNB:Option Addr} {esB:Array DictEntry} {epB:Nat} {sNB:Array (Option Value)}
  {xdd_Z1:Option Addr} {xcd_Z1:ClassData} {xsl_Z1:Array (Option Value)} {xk0_Z1 xk1_Z1 xk2_Z1 xk3_Z1 xk5_Z1:Option Value} {xN_Z1:Addr} {xc_Z1:Value} {xd2_Z1:Option Addr} {xes_Z1:Array DictEntry} {xep_Z1:Nat} {xs2_Z1:Array (Option Value)}
  {xdd_Z4:Option Addr} {xcd_Z4:ClassData} {xsl_Z4:Array (Option Value)} {xk0_Z4 xk1_Z4 xk2_Z4 xk3_Z4 xk5_Z4:Option Value} {xN_Z4:Addr} {xc_Z4:Value} {xd2_Z4:Option Addr} {xes_Z4:Array DictEntry} {xep_Z4:Nat} {xs2_Z4:Array (Option Value)}
  {xdd_Z11:Option Addr} {xcd_Z11:ClassData} {xsl_Z11:Array (Option Value)} {xk0_Z11 xk1_Z11 xk2_Z11 xk3_Z11 xk5_Z11:Option Value} {xN_Z11:Addr} {xc_Z11:Value} {xd2_Z11:Option Addr} {xes_Z11:Array DictEntry} {xep_Z11:Nat} {xs2_Z11:Array (Option Value)}
  {fi_Z11:Addr} {iod_Z11 ian_Z11:Option Addr} {isl_Z11:Array (Option Value)} {ioc_Z11 ikV_Z11 idc_Z11 ipm_Z11 icd_Z11 ict_Z11:Value}
  (aa0:W.nsIn K mainGlobals "is_whole" = some (some (.ref ff0)))
  (ll0:K.lookup ff0=some ⟨oc0,od0,.func (W.fnOf "is_whole" "is_whole" (qa WU) (qY WU) (qI WU) .none kV0 dc0 pm0 an0 cd0 ct0),sl0⟩)
  (dd0:W.codeIn K cd0 "is_whole" = true)
  (kk0:W.keepIn K (.ref ff0)=true)
  (aa1:W.nsIn K mainGlobals "is_whole_within" = some (some (.ref ff1)))
  (ll1:K.lookup ff1=some ⟨oc1,od1,.func (W.fnOf "is_whole_within" "is_whole_within" (qa QW) (qY QW) (qI QW) .none kV1 dc1 pm1 an1 cd1 ct1),sl1⟩)
  (dd1:W.codeIn K cd1 "is_whole_within" = true)
  (kk1:W.keepIn K (.ref ff1)=true)
  (aa2:W.nsIn K mainGlobals "are_wholes" = some (some (.ref ff2)))
  (ll2:K.lookup ff2=some ⟨oc2,od2,.func (W.fnOf "are_wholes" "are_wholes" (qa wb) (qY wb) (qI wb) .none kV2 dc2 pm2 an2 cd2 ct2),sl2⟩)
  (dd2:W.codeIn K cd2 "are_wholes" = true)
  (kk2:W.keepIn K (.ref ff2)=true)
  (aa3:W.nsIn K mainGlobals "is_rising" = some (some (.ref ff3)))
  (ll3:K.lookup ff3=some ⟨oc3,od3,.func (W.fnOf "is_rising" "is_rising" (qa w5) (qY w5) (qI w5) .none kV3 dc3 pm3 an3 cd3 ct3),sl3⟩)
  (dd3:W.codeIn K cd3 "is_rising" = true)
  (kk3:W.keepIn K (.ref ff3)=true)
  (aa4:W.nsIn K mainGlobals "is_length" = some (some (.ref ff4)))
  (ll4:K.lookup ff4=some ⟨oc4,od4,.func (W.fnOf "is_length" "is_length" (qa w9) (qY w9) (qI w9) .none kV4 dc4 pm4 an4 cd4 ct4),sl4⟩)
  (dd4:W.codeIn K cd4 "is_length" = true)
  (kk4:W.keepIn K (.ref ff4)=true)
  (aa5:W.nsIn K mainGlobals "is_side" = some (some (.ref ff5)))
  (ll5:K.lookup ff5=some ⟨oc5,od5,.func (W.fnOf "is_side" "is_side" (qa Wn) (qY Wn) (qI Wn) .none kV5 dc5 pm5 an5 cd5 ct5),sl5⟩)
  (dd5:W.codeIn K cd5 "is_side" = true)
  (kk5:W.keepIn K (.ref ff5)=true)
  (aa6:W.nsIn K mainGlobals "need_length" = some (some (.ref ff6)))
  (ll6:K.lookup ff6=some ⟨oc6,od6,.func (W.fnOf "need_length" "need_length" (qa Qu) (qY Qu) (qI Qu) .none kV6 dc6 pm6 an6 cd6 ct6),sl6⟩)
  (dd6:W.codeIn K cd6 "need_length" = true)
  (kk6:W.keepIn K (.ref ff6)=true)
  (aa7:W.nsIn K mainGlobals "is_box" = some (some (.ref ff7)))
  (ll7:K.lookup ff7=some ⟨oc7,od7,.func (W.fnOf "is_box" "is_box" (qa zU) (qY zU) (qI zU) .none kV7 dc7 pm7 an7 cd7 ct7),sl7⟩)
  (dd7:W.codeIn K cd7 "is_box" = true)
  (kk7:W.keepIn K (.ref ff7)=true)
  (aa8:W.nsIn K mainGlobals "need_room" = some (some (.ref ff8)))
  (ll8:K.lookup ff8=some ⟨oc8,od8,.func (W.fnOf "need_room" "need_room" (qa wQ) (qY wQ) (qI wQ) .none kV8 dc8 pm8 an8 cd8 ct8),sl8⟩)
  (dd8:W.codeIn K cd8 "need_room" = true)
  (kk8:W.keepIn K (.ref ff8)=true)
  (aa9:W.nsIn K mainGlobals "many_cells" = some (some (.ref ff9)))
  (ll9:K.lookup ff9=some ⟨oc9,od9,.func (W.fnOf "many_cells" "many_cells" (qa wU) (qY wU) (qI wU) .none kV9 dc9 pm9 an9 cd9 ct9),sl9⟩)
  (dd9:W.codeIn K cd9 "many_cells" = true)
  (kk9:W.keepIn K (.ref ff9)=true)
  (aa10:W.nsIn K mainGlobals "need_small" = some (some (.ref ff10)))
  (ll10:K.lookup ff10=some ⟨oc10,od10,.func (W.fnOf "need_small" "need_small" (qa Q2) (qY Q2) (qI Q2) .none kV10 dc10 pm10 an10 cd10 ct10),sl10⟩)
  (dd10:W.codeIn K cd10 "need_small" = true)
  (kk10:W.keepIn K (.ref ff10)=true)
  (aa11:W.nsIn K mainGlobals "cells_along" = some (some (.ref ff11)))
  (ll11:K.lookup ff11=some ⟨oc11,od11,.func (W.fnOf "cells_along" "cells_along" (qa wD) (qY wD) (qI wD) .none kV11 dc11 pm11 an11 cd11 ct11),sl11⟩)
  (dd11:W.codeIn K cd11 "cells_along" = true)
  (kk11:W.keepIn K (.ref ff11)=true)
  (aa12:W.nsIn K mainGlobals "is_in_room" = some (some (.ref ff12)))
  (ll12:K.lookup ff12=some ⟨oc12,od12,.func (W.fnOf "is_in_room" "is_in_room" (qa wX) (qY wX) (qI wX) .none kV12 dc12 pm12 an12 cd12 ct12),sl12⟩)
  (dd12:W.codeIn K cd12 "is_in_room" = true)
  (kk12:W.keepIn K (.ref ff12)=true)
  (aa13:W.nsIn K mainGlobals "is_room_bar" = some (some (.ref ff13)))
  (ll13:K.lookup ff13=some ⟨oc13,od13,.func (W.fnOf "is_room_bar" "is_room_bar" (qa wC) (qY wC) (qI wC) .none kV13 dc13 pm13 an13 cd13 ct13),sl13⟩)
  (dd13:W.codeIn K cd13 "is_room_bar" = true)
  (kk13:W.keepIn K (.ref ff13)=true)
  (aa14:W.nsIn K mainGlobals "is_room_filling" = some (some (.ref ff14)))
  (ll14:K.lookup ff14=some ⟨oc14,od14,.func (W.fnOf "is_room_filling" "is_room_filling" (qa QJ) (qY QJ) (qI QJ) .none kV14 dc14 pm14 an14 cd14 ct14),sl14⟩)
  (dd14:W.codeIn K cd14 "is_room_filling" = true)
  (kk14:W.keepIn K (.ref ff14)=true)
  (aa15:W.nsIn K mainGlobals "_law_cell" = some (some (.ref ff15)))
  (ll15:K.lookup ff15=some ⟨oc15,od15,.func (W.fnOf "_law_cell" "_law_cell" (qa WV) (qY WV) (qI WV) .none kV15 dc15 pm15 an15 cd15 ct15),sl15⟩)
  (dd15:W.codeIn K cd15 "_law_cell" = true)
  (kk15:W.keepIn K (.ref ff15)=true)
  (aa16:W.nsIn K mainGlobals "_law_mix" = some (some (.ref ff16)))
  (ll16:K.lookup ff16=some ⟨oc16,od16,.func (W.fnOf "_law_mix" "_law_mix" (qa Wk) (qY Wk) (qI Wk) .none kV16 dc16 pm16 an16 cd16 ct16),sl16⟩)
  (dd16:W.codeIn K cd16 "_law_mix" = true)
  (kk16:W.keepIn K (.ref ff16)=true)
  (aa17:W.nsIn K mainGlobals "_law_box" = some (some (.ref ff17)))
  (ll17:K.lookup ff17=some ⟨oc17,od17,.func (W.fnOf "_law_box" "_law_box" (qa Wl) (qY Wl) (qI Wl) .none kV17 dc17 pm17 an17 cd17 ct17),sl17⟩)
  (dd17:W.codeIn K cd17 "_law_box" = true)
  (kk17:W.keepIn K (.ref ff17)=true)
  (aa18:W.nsIn K mainGlobals "_law_take" = some (some (.ref ff18)))
  (ll18:K.lookup ff18=some ⟨oc18,od18,.func (W.fnOf "_law_take" "_law_take" (qa WQ) (qY WQ) (qI WQ) .none kV18 dc18 pm18 an18 cd18 ct18),sl18⟩)
  (dd18:W.codeIn K cd18 "_law_take" = true)
  (kk18:W.keepIn K (.ref ff18)=true)
  (aa19:W.nsIn K mainGlobals "_law_whole" = some (some (.ref ff19)))
  (ll19:K.lookup ff19=some ⟨oc19,od19,.func (W.fnOf "_law_whole" "_law_whole" (qa w8) (qY w8) (qI w8) .none kV19 dc19 pm19 an19 cd19 ct19),sl19⟩)
  (dd19:W.codeIn K cd19 "_law_whole" = true)
  (kk19:W.keepIn K (.ref ff19)=true)
  (aa20:W.nsIn K mainGlobals "_law_odd" = some (some (.ref ff20)))
  (ll20:K.lookup ff20=some ⟨oc20,od20,.func (W.fnOf "_law_odd" "_law_odd" (qa Wm) (qY Wm) (qI Wm) .none kV20 dc20 pm20 an20 cd20 ct20),sl20⟩)
  (dd20:W.codeIn K cd20 "_law_odd" = true)
  (kk20:W.keepIn K (.ref ff20)=true)
  (aa21:W.nsIn K mainGlobals "_law_room" = some (some (.ref ff21)))
  (ll21:K.lookup ff21=some ⟨oc21,od21,.func (W.fnOf "_law_room" "_law_room" (qa WP) (qY WP) (qI WP) .none kV21 dc21 pm21 an21 cd21 ct21),sl21⟩)
  (dd21:W.codeIn K cd21 "_law_room" = true)
  (kk21:W.keepIn K (.ref ff21)=true)
  (aa22:W.nsIn K mainGlobals "_law_room_cover" = some (some (.ref ff22)))
  (ll22:K.lookup ff22=some ⟨oc22,od22,.func (W.fnOf "_law_room_cover" "_law_room_cover" (qa Qk) (qY Qk) (qI Qk) .none kV22 dc22 pm22 an22 cd22 ct22),sl22⟩)
  (dd22:W.codeIn K cd22 "_law_room_cover" = true)
  (kk22:W.keepIn K (.ref ff22)=true)
  (aa23:W.nsIn K mainGlobals "_law_room_cells" = some (some (.ref ff23)))
  (ll23:K.lookup ff23=some ⟨oc23,od23,.func (W.fnOf "_law_room_cells" "_law_room_cells" (qa Ql) (qY Ql) (qI Ql) .none kV23 dc23 pm23 an23 cd23 ct23),sl23⟩)
  (dd23:W.codeIn K cd23 "_law_room_cells" = true)
  (kk23:W.keepIn K (.ref ff23)=true)
  (aa24:W.nsIn K mainGlobals "_law_is_room_bar" = some (some (.ref ff24)))
  (ll24:K.lookup ff24=some ⟨oc24,od24,.func (W.fnOf "_law_is_room_bar" "_law_is_room_bar" (qa QX) (qY QX) (qI QX) .none kV24 dc24 pm24 an24 cd24 ct24),sl24⟩)
  (dd24:W.codeIn K cd24 "_law_is_room_bar" = true)
  (kk24:W.keepIn K (.ref ff24)=true)
  (aa25:W.nsIn K mainGlobals "_law_is_room_filling" = some (some (.ref ff25)))
  (ll25:K.lookup ff25=some ⟨oc25,od25,.func (W.fnOf "_law_is_room_filling" "_law_is_room_filling" (qa qz) (qY qz) (qI qz) .none kV25 dc25 pm25 an25 cd25 ct25),sl25⟩)
  (dd25:W.codeIn K cd25 "_law_is_room_filling" = true)
  (kk25:W.keepIn K (.ref ff25)=true)
  (aa26:W.nsIn K mainGlobals "_law_kind" = some (some (.ref ff26)))
  (ll26:K.lookup ff26=some ⟨oc26,od26,.func (W.fnOf "_law_kind" "_law_kind" (qa WS) (qY WS) (qI WS) .none kV26 dc26 pm26 an26 cd26 ct26),sl26⟩)
  (dd26:W.codeIn K cd26 "_law_kind" = true)
  (kk26:W.keepIn K (.ref ff26)=true)
  (aa27:W.nsIn K mainGlobals "_law_said" = some (some (.ref ff27)))
  (ll27:K.lookup ff27=some ⟨oc27,od27,.func (W.fnOf "_law_said" "_law_said" (qa wz) (qY wz) (qI wz) .none kV27 dc27 pm27 an27 cd27 ct27),sl27⟩)
  (dd27:W.codeIn K cd27 "_law_said" = true)
  (kk27:W.keepIn K (.ref ff27)=true)
  (aa28:W.nsIn K mainGlobals "_law_filled" = some (some (.ref ff28)))
  (ll28:K.lookup ff28=some ⟨oc28,od28,.func (W.fnOf "_law_filled" "_law_filled" (qa wZ) (qY wZ) (qI wZ) .none kV28 dc28 pm28 an28 cd28 ct28),sl28⟩)
  (dd28:W.codeIn K cd28 "_law_filled" = true)
  (kk28:W.keepIn K (.ref ff28)=true)
  (aa29:W.nsIn K mainGlobals "_law_bent" = some (some (.ref ff29)))
  (ll29:K.lookup ff29=some ⟨oc29,od29,.func (W.fnOf "_law_bent" "_law_bent" (qa WK) (qY WK) (qI WK) .none kV29 dc29 pm29 an29 cd29 ct29),sl29⟩)
  (dd29:W.codeIn K cd29 "_law_bent" = true)
  (kk29:W.keepIn K (.ref ff29)=true)
  (aa30:W.nsIn K mainGlobals "law" = some (some (.ref ff30)))
  (ll30:K.lookup ff30=some ⟨oc30,od30,.func (W.fnOf "law" "law" (qa ZA) (qY ZA) (qI ZA) .none kV30 dc30 pm30 an30 cd30 ct30),sl30⟩)
  (dd30:W.codeIn K cd30 "law" = true)
  (kk30:W.keepIn K (.ref ff30)=true)
  (n_ValueError:W.nsIn K mainGlobals "ValueError" = some none)
  (n_all:W.nsIn K mainGlobals "all" = some none)
  (n_bool:W.nsIn K mainGlobals "bool" = some none)
  (n_divmod:W.nsIn K mainGlobals "divmod" = some none)
  (n_int:W.nsIn K mainGlobals "int" = some none)
  (n_isinstance:W.nsIn K mainGlobals "isinstance" = some none)
  (n_len:W.nsIn K mainGlobals "len" = some none)
  (n_list:W.nsIn K mainGlobals "list" = some none)
  (n_max:W.nsIn K mainGlobals "max" = some none)
  (n_min:W.nsIn K mainGlobals "min" = some none)
  (n_range:W.nsIn K mainGlobals "range" = some none)
  (n_set:W.nsIn K mainGlobals "set" = some none)
  (n_sorted:W.nsIn K mainGlobals "sorted" = some none)
  (n_str:W.nsIn K mainGlobals "str" = some none)
  (n_tuple:W.nsIn K mainGlobals "tuple" = some none)
  (g_LEAST_LENGTH:W.nsIn K mainGlobals "LEAST_LENGTH" = some (some (.int 2 t_LEAST_LENGTH)))
  (g_MOST_LENGTH:W.nsIn K mainGlobals "MOST_LENGTH" = some (some (.int 5 t_MOST_LENGTH)))
  (g_MOST_SIDE:W.nsIn K mainGlobals "MOST_SIDE" = some (some (.int 1000000000 t_MOST_SIDE)))
  (g_MOST_SIDES:W.nsIn K mainGlobals "MOST_SIDES" = some (some (.int 3 t_MOST_SIDES)))
  (g_MOST_LOOKED_AT:W.nsIn K mainGlobals "MOST_LOOKED_AT" = some (some (.int 1000 t_MOST_LOOKED_AT)))
  (u_ROOM_WAYS:W.nsIn K mainGlobals "ROOM_WAYS" = some (some (.ref z_ROOM_WAYS)))
  (ul_ROOM_WAYS:K.lookup z_ROOM_WAYS=some ⟨.type "tuple",zd_ROOM_WAYS,.seq #[.int 0 zt0_ROOM_WAYS,.int 1 zt1_ROOM_WAYS,.int 2 zt2_ROOM_WAYS] zn_ROOM_WAYS,zs_ROOM_WAYS⟩)
  (q_Z0:W.nsIn K mainGlobals "BarError" = some (some (.ref c_Z0)))
  (q_Z1:W.nsIn K mainGlobals "NoLength" = some (some (.ref c_Z1)))
  (q_Z2:W.nsIn K mainGlobals "NoNumber" = some (some (.ref c_Z2)))
  (q_Z3:W.nsIn K mainGlobals "NoBars" = some (some (.ref c_Z3)))
  (q_Z4:W.nsIn K mainGlobals "NoBox" = some (some (.ref c_Z4)))
  (q_Z5:W.nsIn K mainGlobals "NoWeights" = some (some (.ref c_Z5)))
  (q_Z6:W.nsIn K mainGlobals "NoSorts" = some (some (.ref c_Z6)))
  (q_Z7:W.nsIn K mainGlobals "NoTurn" = some (some (.ref c_Z7)))
  (q_Z8:W.nsIn K mainGlobals "NoPlace" = some (some (.ref c_Z8)))
  (q_Z9:W.nsIn K mainGlobals "NoText" = some (some (.ref c_Z9)))
  (q_Z10:W.nsIn K mainGlobals "NoRow" = some (some (.ref c_Z10)))
  (q_Z11:W.nsIn K mainGlobals "TooMany" = some (some (.ref c_Z11)))
  (oB:K.lookup c_Z0=some ⟨.type "type",ddB,.cls cdB,slB⟩)
  (nB:cdB.ns=NB)
  (oNB:K.lookup NB=some ⟨cNB,dNB,.dict esB epB,sNB⟩)
  (eNB:esB.toList.all Yi=true)
  (iNB:W.nsIn K NB "__init__" = some none)
  (bB:W.mroIn K c_Z0 (.type "BaseException")=some true)
  (xl_Z1:K.lookup c_Z1=some ⟨.type "type",xdd_Z1,.cls xcd_Z1,xsl_Z1⟩)
  (xm_Z1:xcd_Z1.mro= .ref c_Z1 :: .ref c_Z0::bmV)
  (xs_Z1:xsl_Z1.toList=[xk0_Z1,xk1_Z1,xk2_Z1,xk3_Z1,some (.builtin "ValueError.__new__"),xk5_Z1])
  (xd_Z1:xcd_Z1.hasDel=false)
  (xn_Z1:xcd_Z1.ns=xN_Z1)
  (xo_Z1:K.lookup xN_Z1=some ⟨xc_Z1,xd2_Z1,.dict xes_Z1 xep_Z1,xs2_Z1⟩)
  (xe_Z1:xes_Z1.toList.all Yi=true)
  (xi_Z1:W.nsIn K xN_Z1 "__init__" = some none)
  (e_Z1:W.mroIn K c_Z1 (.ref c_Z0)=some true)
  (v_Z1:W.kitOne K (.ref c_Z1) (.type "ValueError")=some true)
  (w_Z1_Z1:W.kitOne K (.ref c_Z1) (.ref c_Z1)=some true)
  (w_Z1_Z2:W.kitOne K (.ref c_Z1) (.ref c_Z2)=some false)
  (w_Z1_Z3:W.kitOne K (.ref c_Z1) (.ref c_Z3)=some false)
  (w_Z1_Z4:W.kitOne K (.ref c_Z1) (.ref c_Z4)=some false)
  (w_Z1_Z5:W.kitOne K (.ref c_Z1) (.ref c_Z5)=some false)
  (w_Z1_Z6:W.kitOne K (.ref c_Z1) (.ref c_Z6)=some false)
  (w_Z1_Z7:W.kitOne K (.ref c_Z1) (.ref c_Z7)=some false)
  (w_Z1_Z8:W.kitOne K (.ref c_Z1) (.ref c_Z8)=some false)
  (w_Z1_Z9:W.kitOne K (.ref c_Z1) (.ref c_Z9)=some false)
  (w_Z1_Z10:W.kitOne K (.ref c_Z1) (.ref c_Z10)=some false)
  (w_Z1_Z11:W.kitOne K (.ref c_Z1) (.ref c_Z11)=some false)
  (ga_Z1:W.findIn K (.ref c_Z1) "__getattribute__" = some (some (.builtin "BaseException.__getattribute__")))
  (gn_Z1:W.findIn K (.ref c_Z1) "__getattr__" = some none)
  (fo_Z1:∀od,W.findObj K c_Z1 od "__class__" = some (.bind (.builtin "getset_descriptor.__get__") (.builtin "object.__class__")))
  (mo_Z1:W.mroIn K c_Z1 (.type "object")=some true)
  (mb_Z1:W.mroIn K c_Z1 (.type "BaseException")=some true)
  (xl_Z4:K.lookup c_Z4=some ⟨.type "type",xdd_Z4,.cls xcd_Z4,xsl_Z4⟩)
  (xm_Z4:xcd_Z4.mro= .ref c_Z4 :: .ref c_Z0::bmV)
  (xs_Z4:xsl_Z4.toList=[xk0_Z4,xk1_Z4,xk2_Z4,xk3_Z4,some (.builtin "ValueError.__new__"),xk5_Z4])
  (xd_Z4:xcd_Z4.hasDel=false)
  (xn_Z4:xcd_Z4.ns=xN_Z4)
  (xo_Z4:K.lookup xN_Z4=some ⟨xc_Z4,xd2_Z4,.dict xes_Z4 xep_Z4,xs2_Z4⟩)
  (xe_Z4:xes_Z4.toList.all Yi=true)
  (xi_Z4:W.nsIn K xN_Z4 "__init__" = some none)
  (e_Z4:W.mroIn K c_Z4 (.ref c_Z0)=some true)
  (v_Z4:W.kitOne K (.ref c_Z4) (.type "ValueError")=some true)
  (w_Z4_Z1:W.kitOne K (.ref c_Z4) (.ref c_Z1)=some false)
  (w_Z4_Z2:W.kitOne K (.ref c_Z4) (.ref c_Z2)=some false)
  (w_Z4_Z3:W.kitOne K (.ref c_Z4) (.ref c_Z3)=some false)
  (w_Z4_Z4:W.kitOne K (.ref c_Z4) (.ref c_Z4)=some true)
  (w_Z4_Z5:W.kitOne K (.ref c_Z4) (.ref c_Z5)=some false)
  (w_Z4_Z6:W.kitOne K (.ref c_Z4) (.ref c_Z6)=some false)
  (w_Z4_Z7:W.kitOne K (.ref c_Z4) (.ref c_Z7)=some false)
  (w_Z4_Z8:W.kitOne K (.ref c_Z4) (.ref c_Z8)=some false)
  (w_Z4_Z9:W.kitOne K (.ref c_Z4) (.ref c_Z9)=some false)
  (w_Z4_Z10:W.kitOne K (.ref c_Z4) (.ref c_Z10)=some false)
  (w_Z4_Z11:W.kitOne K (.ref c_Z4) (.ref c_Z11)=some false)
  (ga_Z4:W.findIn K (.ref c_Z4) "__getattribute__" = some (some (.builtin "BaseException.__getattribute__")))
  (gn_Z4:W.findIn K (.ref c_Z4) "__getattr__" = some none)
  (fo_Z4:∀od,W.findObj K c_Z4 od "__class__" = some (.bind (.builtin "getset_descriptor.__get__") (.builtin "object.__class__")))
  (mo_Z4:W.mroIn K c_Z4 (.type "object")=some true)
  (mb_Z4:W.mroIn K c_Z4 (.type "BaseException")=some true)
  (xl_Z11:K.lookup c_Z11=some ⟨.type "type",xdd_Z11,.cls xcd_Z11,xsl_Z11⟩)
  (xm_Z11:xcd_Z11.mro= .ref c_Z11 :: .ref c_Z0::bmV)
  (xs_Z11:xsl_Z11.toList=[xk0_Z11,xk1_Z11,xk2_Z11,xk3_Z11,some (.builtin "ValueError.__new__"),xk5_Z11])
  (xd_Z11:xcd_Z11.hasDel=false)
  (xn_Z11:xcd_Z11.ns=xN_Z11)
  (xo_Z11:K.lookup xN_Z11=some ⟨xc_Z11,xd2_Z11,.dict xes_Z11 xep_Z11,xs2_Z11⟩)
  (xe_Z11:xes_Z11.toList.all Yi=true)
  (xi_Z11:W.nsIn K xN_Z11 "__init__" = some (some (.ref fi_Z11)))
  (il_Z11:K.lookup fi_Z11=some ⟨ioc_Z11,iod_Z11,.func (W.fnOf "__init__" "TooMany.__init__" (qa Qy) (qY Qy) (qI Qy) .none ikV_Z11 idc_Z11 ipm_Z11 ian_Z11 icd_Z11 ict_Z11),isl_Z11⟩)
  (id_Z11:W.codeIn K icd_Z11 "TooMany.__init__" = true)
  (ik_Z11:W.keepIn K (.ref fi_Z11)=true)
  (if_Z11:W.isFn K (.ref fi_Z11)=true)
  (kp_Z11:W.keepIn K (.ref c_Z11)=true)
  (sa_Z11:W.findIn K (.ref c_Z11) "__setattr__" = some (some (.builtin "object.__setattr__")))
  (hd_Z11:xcd_Z11.hasDict=true)
  (hh_Z11:W.hasDictIn K c_Z11=true)
  (na_Z11_many:W.findIn K (.ref c_Z11) "many" = some none)
  (na_Z11_most:W.findIn K (.ref c_Z11) "most" = some none)
  (re_Z11:W.readsIn K c_Z0 (.type "type")=true)
  (fc_Z11:W.findCls K (.ref c_Z0) (.type "type") "__init__" = some (.val (.builtin "ValueError.__init__")))
  (sg_Z11:W.specialIn K (.ref c_Z0) "__getattribute__" = some (some (.builtin "type.__getattribute__")))
  (ms_Z11:W.mroIn K c_Z11 (.ref c_Z11)=some true)
  (mu_Z1_Z11:W.mroIn K c_Z1 (.ref c_Z11)=some false)
  (mu_Z4_Z11:W.mroIn K c_Z4 (.ref c_Z11)=some false)
  (e_Z11:W.mroIn K c_Z11 (.ref c_Z0)=some true)
  (v_Z11:W.kitOne K (.ref c_Z11) (.type "ValueError")=some true)
  (w_Z11_Z1:W.kitOne K (.ref c_Z11) (.ref c_Z1)=some false)
  (w_Z11_Z2:W.kitOne K (.ref c_Z11) (.ref c_Z2)=some false)
  (w_Z11_Z3:W.kitOne K (.ref c_Z11) (.ref c_Z3)=some false)
  (w_Z11_Z4:W.kitOne K (.ref c_Z11) (.ref c_Z4)=some false)
  (w_Z11_Z5:W.kitOne K (.ref c_Z11) (.ref c_Z5)=some false)
  (w_Z11_Z6:W.kitOne K (.ref c_Z11) (.ref c_Z6)=some false)
  (w_Z11_Z7:W.kitOne K (.ref c_Z11) (.ref c_Z7)=some false)
  (w_Z11_Z8:W.kitOne K (.ref c_Z11) (.ref c_Z8)=some false)
  (w_Z11_Z9:W.kitOne K (.ref c_Z11) (.ref c_Z9)=some false)
  (w_Z11_Z10:W.kitOne K (.ref c_Z11) (.ref c_Z10)=some false)
  (w_Z11_Z11:W.kitOne K (.ref c_Z11) (.ref c_Z11)=some true)
  (ga_Z11:W.findIn K (.ref c_Z11) "__getattribute__" = some (some (.builtin "BaseException.__getattribute__")))
  (gn_Z11:W.findIn K (.ref c_Z11) "__getattr__" = some none)
  (fo_Z11:∀od,W.findObj K c_Z11 od "__class__" = some (.bind (.builtin "getset_descriptor.__get__") (.builtin "object.__class__")))
  (mo_Z11:W.mroIn K c_Z11 (.type "object")=some true)
  (mb_Z11:W.mroIn K c_Z11 (.type "BaseException")=some true)
  (ds:Dist ⟨c_Z0,c_Z1,c_Z2,c_Z3,c_Z4,c_Z5,c_Z6,c_Z7,c_Z8,c_Z9,c_Z10,c_Z11,fi_Z11,z_ROOM_WAYS,ff0,ff1,ff2,ff3,ff4,ff5,ff6,ff7,ff8,ff9,ff10,ff11,ff12,ff13,ff14,ff15,ff16,ff17,ff18,ff19,ff20,ff21,ff22,ff23,ff24,ff25,ff26,ff27,ff28,ff29,ff30⟩) :
  ∃fd:FuncData,(∀(s:Shared) (v:Value),BindsTo s fd ⟨[v],[]⟩ [("_law_script",v)])∧∀base:Heap,K.In base->base.Ns mainGlobals mg->FnOk l.prog w K mg base (CXF l.prog w) 10 fa fd ["_law_script"] (spL K):=by
 have e:ff30=fa:=Value.ref.inj (Ac ((AT X G aa30).symm.trans hfa));subst e;have V:Env K mg ⟨c_Z0,c_Z1,c_Z2,c_Z3,c_Z4,c_Z5,c_Z6,c_Z7,c_Z8,c_Z9,c_Z10,c_Z11,fi_Z11,z_ROOM_WAYS,ff0,ff1,ff2,ff3,ff4,ff5,ff6,ff7,ff8,ff9,ff10,ff11,ff12,ff13,ff14,ff15,ff16,ff17,ff18,ff19,ff20,ff21,ff22,ff23,ff24,ff25,ff26,ff27,ff28,ff29,ff30⟩:=by
  refine { kit:=⟨fun t c b hk=>?_,fun x c b hk=>?_⟩,nk:=qEo _,n_ValueError:=As X G n_ValueError,n_all:=As X G n_all,n_bool:=As X G n_bool,n_divmod:=As X G n_divmod,n_int:=As X G n_int,n_isinstance:=As X G n_isinstance,n_len:=As X G n_len,n_list:=As X G n_list,n_max:=As X G n_max,n_min:=As X G n_min,n_range:=As X G n_range,n_set:=As X G n_set,n_sorted:=As X G n_sorted,n_str:=As X G n_str,n_tuple:=As X G n_tuple,c_LEAST_LENGTH:=⟨_,AT X G g_LEAST_LENGTH⟩,c_MOST_LENGTH:=⟨_,AT X G g_MOST_LENGTH⟩,c_MOST_SIDE:=⟨_,AT X G g_MOST_SIDE⟩,c_MOST_SIDES:=⟨_,AT X G g_MOST_SIDES⟩,c_MOST_LOOKED_AT:=⟨_,AT X G g_MOST_LOOKED_AT⟩,t_ROOM_WAYS:=AT X G u_ROOM_WAYS,kt_ROOM_WAYS:=⟨_,_,_,ul_ROOM_WAYS,rfl,rfl,show 3≤sizeLine by decide,.cons ⟨_,rfl⟩ (.cons ⟨_,rfl⟩ (.cons ⟨_,rfl⟩ (.nil)))⟩,k_Z0:=AT X G q_Z0,k_Z1:=AT X G q_Z1,k_Z2:=AT X G q_Z2,k_Z3:=AT X G q_Z3,k_Z4:=AT X G q_Z4,k_Z5:=AT X G q_Z5,k_Z6:=AT X G q_Z6,k_Z7:=AT X G q_Z7,k_Z8:=AT X G q_Z8,k_Z9:=AT X G q_Z9,k_Z10:=AT X G q_Z10,k_Z11:=AT X G q_Z11,x_Z1:=qEp xl_Z1 xm_Z1 xs_Z1 xd_Z1 (by rw[xn_Z1];exact ZZ xo_Z1 xe_Z1) (by rw[xn_Z1];exact xi_Z1) oB (by rw[nB];exact ZZ oNB eNB) (by rw[nB];exact iNB),e_Z1:=e_Z1,x_Z4:=qEp xl_Z4 xm_Z4 xs_Z4 xd_Z4 (by rw[xn_Z4];exact ZZ xo_Z4 xe_Z4) (by rw[xn_Z4];exact xi_Z4) oB (by rw[nB];exact ZZ oNB eNB) (by rw[nB];exact iNB),e_Z4:=e_Z4,xf_Z11:=⟨_,qw (st:=Qy) il_Z11 id_Z11 ik_Z11⟩,xm_Z11:=⟨⟨_,_,_,_,_,_,_,_,_,xl_Z11,xm_Z11,xs_Z11,xd_Z11,qCi oB (by rw[nB];exact ZZ oNB eNB) (by rw[nB];exact iNB),by rw[xn_Z11];exact ZZ xo_Z11 xe_Z11,by rw[xn_Z11];exact xi_Z11⟩,if_Z11,kp_Z11,⟨sa_Z11,⟨_,qFv xl_Z11,hd_Z11,by rw[xm_Z11];rfl⟩,mo_Z11⟩⟩,xk_Z11:=⟨ga_Z11,gn_Z11,fo_Z11,mo_Z11,mb_Z11⟩,xh_Z11:=hh_Z11,xa_Z11_many:=na_Z11_many,xa_Z11_most:=na_Z11_most,xr_Z11:=re_Z11,xc_Z11:=fc_Z11,xg_Z11:=sg_Z11,o_Z11:=⟨_,_,_,xl_Z11⟩,b_Z11:=mb_Z11,e_Z11:=e_Z11,s_Z11:=ms_Z11,u_Z1_Z11:=mu_Z1_Z11,u_Z4_Z11:=mu_Z4_Z11,o_Z0:=⟨_,_,_,oB⟩,b_Z0:=bB,m_is_whole:=AT X G aa0,f_is_whole:=⟨_,qw (st:=WU) ll0 dd0 kk0⟩,m_is_whole_within:=AT X G aa1,f_is_whole_within:=⟨_,qw (st:=QW) ll1 dd1 kk1⟩,m_are_wholes:=AT X G aa2,f_are_wholes:=⟨_,qw (st:=wb) ll2 dd2 kk2⟩,m_is_rising:=AT X G aa3,f_is_rising:=⟨_,qw (st:=w5) ll3 dd3 kk3⟩,m_is_length:=AT X G aa4,f_is_length:=⟨_,qw (st:=w9) ll4 dd4 kk4⟩,m_is_side:=AT X G aa5,f_is_side:=⟨_,qw (st:=Wn) ll5 dd5 kk5⟩,m_need_length:=AT X G aa6,f_need_length:=⟨_,qw (st:=Qu) ll6 dd6 kk6⟩,m_is_box:=AT X G aa7,f_is_box:=⟨_,qw (st:=zU) ll7 dd7 kk7⟩,m_need_room:=AT X G aa8,f_need_room:=⟨_,qw (st:=wQ) ll8 dd8 kk8⟩,m_many_cells:=AT X G aa9,f_many_cells:=⟨_,qw (st:=wU) ll9 dd9 kk9⟩,m_need_small:=AT X G aa10,f_need_small:=⟨_,qw (st:=Q2) ll10 dd10 kk10⟩,m_cells_along:=AT X G aa11,f_cells_along:=⟨_,qw (st:=wD) ll11 dd11 kk11⟩,m_is_in_room:=AT X G aa12,f_is_in_room:=⟨_,qw (st:=wX) ll12 dd12 kk12⟩,m_is_room_bar:=AT X G aa13,f_is_room_bar:=⟨_,qw (st:=wC) ll13 dd13 kk13⟩,m_is_room_filling:=AT X G aa14,f_is_room_filling:=⟨_,qw (st:=QJ) ll14 dd14 kk14⟩,m_law_cell:=AT X G aa15,f_law_cell:=⟨_,qw (st:=WV) ll15 dd15 kk15⟩,m_law_mix:=AT X G aa16,f_law_mix:=⟨_,qw (st:=Wk) ll16 dd16 kk16⟩,m_law_box:=AT X G aa17,f_law_box:=⟨_,qw (st:=Wl) ll17 dd17 kk17⟩,m_law_take:=AT X G aa18,f_law_take:=⟨_,qw (st:=WQ) ll18 dd18 kk18⟩,m_law_whole:=AT X G aa19,f_law_whole:=⟨_,qw (st:=w8) ll19 dd19 kk19⟩,m_law_odd:=AT X G aa20,f_law_odd:=⟨_,qw (st:=Wm) ll20 dd20 kk20⟩,m_law_room:=AT X G aa21,f_law_room:=⟨_,qw (st:=WP) ll21 dd21 kk21⟩,m_law_room_cover:=AT X G aa22,f_law_room_cover:=⟨_,qw (st:=Qk) ll22 dd22 kk22⟩,m_law_room_cells:=AT X G aa23,f_law_room_cells:=⟨_,qw (st:=Ql) ll23 dd23 kk23⟩,m_law_is_room_bar:=AT X G aa24,f_law_is_room_bar:=⟨_,qw (st:=QX) ll24 dd24 kk24⟩,m_law_is_room_filling:=AT X G aa25,f_law_is_room_filling:=⟨_,qw (st:=qz) ll25 dd25 kk25⟩,m_law_kind:=AT X G aa26,f_law_kind:=⟨_,qw (st:=WS) ll26 dd26 kk26⟩,m_law_said:=AT X G aa27,f_law_said:=⟨_,qw (st:=wz) ll27 dd27 kk27⟩,m_law_filled:=AT X G aa28,f_law_filled:=⟨_,qw (st:=wZ) ll28 dd28 kk28⟩,m_law_bent:=AT X G aa29,f_law_bent:=⟨_,qw (st:=WK) ll29 dd29 kk29⟩,m_law:=AT X G aa30,f_law:=⟨_,qw (st:=ZA) ll30 dd30 kk30⟩ }
  ·have hnd:=ds.nd;unfold kit at hk;split at hk;exact qGj hk
   ·split at hk
    ·rename_i x d hx;cases hk;have hx1:=hx.1;have hx2:=hx.2;unfold Qo at hx1;unfold Ad.kinds at hx2;simp only[AH,Af,Bg]at hx1 hx2;rcases hx1 with e1|e1|e1
     ·rcases hx2 with e2|e2|e2|e2|e2|e2|e2|e2|e2|e2|e2
      ·rw[e1,e2,Aj];exact w_Z1_Z1
      ·rw[e1,e2,show (c_Z1==c_Z2)=false from AC.mpr (QI ds).1];exact w_Z1_Z2
      ·rw[e1,e2,show (c_Z1==c_Z3)=false from AC.mpr (QI ds).2.1];exact w_Z1_Z3
      ·rw[e1,e2,show (c_Z1==c_Z4)=false from AC.mpr (QI ds).2.2.1];exact w_Z1_Z4
      ·rw[e1,e2,show (c_Z1==c_Z5)=false from AC.mpr (QI ds).2.2.2.1];exact w_Z1_Z5
      ·rw[e1,e2,show (c_Z1==c_Z6)=false from AC.mpr (QI ds).2.2.2.2.1];exact w_Z1_Z6
      ·rw[e1,e2,show (c_Z1==c_Z7)=false from AC.mpr (QI ds).2.2.2.2.2.1];exact w_Z1_Z7
      ·rw[e1,e2,show (c_Z1==c_Z8)=false from AC.mpr (QI ds).2.2.2.2.2.2.1];exact w_Z1_Z8
      ·rw[e1,e2,show (c_Z1==c_Z9)=false from AC.mpr (QI ds).2.2.2.2.2.2.2.1];exact w_Z1_Z9
      ·rw[e1,e2,show (c_Z1==c_Z10)=false from AC.mpr (QI ds).2.2.2.2.2.2.2.2.1];exact w_Z1_Z10
      ·rw[e1,e2,show (c_Z1==c_Z11)=false from AC.mpr (QI ds).2.2.2.2.2.2.2.2.2];exact w_Z1_Z11
     ·rcases hx2 with e2|e2|e2|e2|e2|e2|e2|e2|e2|e2|e2
      ·rw[e1,e2,show (c_Z4==c_Z1)=false from AC.mpr (Qv ds).1];exact w_Z4_Z1
      ·rw[e1,e2,show (c_Z4==c_Z2)=false from AC.mpr (Qv ds).2.1];exact w_Z4_Z2
      ·rw[e1,e2,show (c_Z4==c_Z3)=false from AC.mpr (Qv ds).2.2.1];exact w_Z4_Z3
      ·rw[e1,e2,Aj];exact w_Z4_Z4
      ·rw[e1,e2,show (c_Z4==c_Z5)=false from AC.mpr (Qv ds).2.2.2.1];exact w_Z4_Z5
      ·rw[e1,e2,show (c_Z4==c_Z6)=false from AC.mpr (Qv ds).2.2.2.2.1];exact w_Z4_Z6
      ·rw[e1,e2,show (c_Z4==c_Z7)=false from AC.mpr (Qv ds).2.2.2.2.2.1];exact w_Z4_Z7
      ·rw[e1,e2,show (c_Z4==c_Z8)=false from AC.mpr (Qv ds).2.2.2.2.2.2.1];exact w_Z4_Z8
      ·rw[e1,e2,show (c_Z4==c_Z9)=false from AC.mpr (Qv ds).2.2.2.2.2.2.2.1];exact w_Z4_Z9
      ·rw[e1,e2,show (c_Z4==c_Z10)=false from AC.mpr (Qv ds).2.2.2.2.2.2.2.2.1];exact w_Z4_Z10
      ·rw[e1,e2,show (c_Z4==c_Z11)=false from AC.mpr (Qv ds).2.2.2.2.2.2.2.2.2];exact w_Z4_Z11
     ·rcases hx2 with e2|e2|e2|e2|e2|e2|e2|e2|e2|e2|e2
      ·rw[e1,e2,show (c_Z11==c_Z1)=false from AC.mpr (QQ ds).1];exact w_Z11_Z1
      ·rw[e1,e2,show (c_Z11==c_Z2)=false from AC.mpr (QQ ds).2.1];exact w_Z11_Z2
      ·rw[e1,e2,show (c_Z11==c_Z3)=false from AC.mpr (QQ ds).2.2.1];exact w_Z11_Z3
      ·rw[e1,e2,show (c_Z11==c_Z4)=false from AC.mpr (QQ ds).2.2.2.1];exact w_Z11_Z4
      ·rw[e1,e2,show (c_Z11==c_Z5)=false from AC.mpr (QQ ds).2.2.2.2.1];exact w_Z11_Z5
      ·rw[e1,e2,show (c_Z11==c_Z6)=false from AC.mpr (QQ ds).2.2.2.2.2.1];exact w_Z11_Z6
      ·rw[e1,e2,show (c_Z11==c_Z7)=false from AC.mpr (QQ ds).2.2.2.2.2.2.1];exact w_Z11_Z7
      ·rw[e1,e2,show (c_Z11==c_Z8)=false from AC.mpr (QQ ds).2.2.2.2.2.2.2.1];exact w_Z11_Z8
      ·rw[e1,e2,show (c_Z11==c_Z9)=false from AC.mpr (QQ ds).2.2.2.2.2.2.2.2.1];exact w_Z11_Z9
      ·rw[e1,e2,show (c_Z11==c_Z10)=false from AC.mpr (QQ ds).2.2.2.2.2.2.2.2.2];exact w_Z11_Z10
      ·rw[e1,e2,Aj];exact w_Z11_Z11
    ·cases hk
   ·split at hk
    ·rename_i x T hx;cases hk;have hx1:=hx.1;have hx2:=hx.2;subst hx2;unfold Qo at hx1;simp only[AH,Af,Bg]at hx1;rcases hx1 with e1|e1|e1
     ·rw[e1];exact v_Z1
     ·rw[e1];exact v_Z4
     ·rw[e1];exact v_Z11
    ·cases hk
   ·cases hk
  ·have hm:=qGv hk;unfold Qo at hm;simp only[AH,Af,Bg]at hm;rcases hm with e1|e1|e1
   ·rw[e1];exact⟨ga_Z1,gn_Z1,fo_Z1,mo_Z1,mb_Z1⟩
   ·rw[e1];exact⟨ga_Z4,gn_Z4,fo_Z4,mo_Z4,mb_Z4⟩
   ·rw[e1];exact⟨ga_Z11,gn_Z11,fo_Z11,mo_Z11,mb_Z11⟩
 refine⟨W.fnOf "law" "law" (qa ZA) (qY ZA) (qI ZA) .none kV30 dc30 pm30 an30 cd30 ct30,fun s v=>.of_eq rfl,fun base _ _=>?_⟩;exact qHM (qKu V (qw (st:=ZA) ll30 dd30 kk30)) fun vs H Q E q=>q _ ds
theorem qEF{l:W.OpenLaw}{n k:Nat}{q:Program}{loose:List Str}{XP:(Str->Option Value)->Heap->Prop}{YP:World->Heap->Prop}{d:DefRec}{K:Params->W.Frag}{CX:World->CXT}{sp:World->Sp}{x:Str}
  (hn:l.most=some n) (hn2:n≤sizeLine) (hdf:d.params.defaults=[]) (hr:Room k callerA)
  (hY:∀(w:World) (h:Heap),YP w h->(K w.params).In h)
  (F:∀(w:World) (mg:Str->Option Value) (fa:Addr) (h:Heap),(K w.params).In h->h.Ns mainGlobals mg->XP mg h->mg d.name=some (.ref fa) ->
   ∃fd:FuncData,(∀(s:Shared) (u:Value),BindsTo s fd ⟨[u],[]⟩ [(x,u)]) ∧
    ∀base:Heap,(K w.params).In base->base.Ns mainGlobals mg->FnOk l.prog w (K w.params) mg base (CX w) k fa fd [x] (sp w))
  (hsp:∀(w:World) (H:Hp) (a:Addr) (ns:List Int),ns.length≤n->(∀k∈ns,Builtin.Int.intBits k≤2 ^ 20)->qIf H->SqL (K w.params) H a (ns.map V.int)->sp w [.ref a] H (fun v _=>v= .bl true) fun _ _ _=>False)
  (hCX:∀(w:World) (H:Hp) (s:Shared) (e:Value) (s':Shared),CX w [] H s (fun _ _ _=>False) e s'->False) :
  W.WalkO q loose XP YP l.row.toRowW d [] (fun f vs=>PySem.call f vs):=by refine Att.attach_callB hn hdf fun w s₀ s₁ mg mb fa o pm cd doc a vs ns G Y ho hd hcd hmg hobj hints hlen hbits hg=>?_;have KX:=hY w _ Y;obtain⟨fd,hb,hF⟩:=F w mg fa _ KX G.T.g G.X hmg;exact qF4 KX G.T.g G.T.b G.T.builtins G.T.nolimit hg hobj hints (Ag hlen hn2) hr hF hb (fun H hO hS=>hsp w H a ns hlen hbits hO hS) fun H e s'=>hCX w H s₁ e s'
theorem ZH{K:W.Frag}{H:Hp}{b:Bz}:∀ns:List Int,RVs K H b (ns.map PV.int) (ns.map V.int)|[]=>RVs.nil|n::ns=>RVs.cons QS (ZH ns)
theorem qFj(key:∀(a:Ad) (ns:List Int),Dist a->ns.length≤63->(∀k∈ns,Builtin.Int.intBits k≤2 ^ 20)->∃st,Js a [.lst (ns.map PV.int)] []= .ok (.bl true) st){K:W.Frag}{H:Hp}{a:Addr}{ns:List Int}(hl:ns.length≤63)(hb:∀k∈ns,Builtin.Int.intBits k≤2 ^ 20)(hS:SqL K H a (ns.map V.int)):spL K [.ref a] H (fun v _=>v= .bl true) fun _ _ _=>False:=by
 intro ad hd;obtain⟨st,e⟩:=key ad ns hd hl hb;refine⟨rfl,⟨[],[]⟩,[.lst (ns.map PV.int)],[],⟨rfl,List.nodup_nil,fun i x h=>by simp at h,fun a ha=>(Af ha).elim,fun a ha=>(Af ha).elim⟩,RVs.cons ?_ RVs.nil,?_⟩;unfold RV;exact⟨a,_,rfl,hS.imp (fun h=>⟨h,Af,Af⟩) id,ZH ns⟩;rw[e];intro v H' b' _ _ r;unfold RV at r;exact r
theorem walk31(key:∀(a:Ad) (ns:List Int),Dist a->ns.length≤63->(∀k∈ns,Builtin.Int.intBits k≤2 ^ 20)->∃st,Js a [.lst (ns.map PV.int)] []= .ok (.bl true) st){l:W.OpenLaw}{q:Program}{loose:List Str}{XP:(Str->Option Value)->Heap->Prop}{YP:World->Heap->Prop}{d:DefRec}{K:Params->W.Frag}(hn:l.most=some 63)(hdf:d.params.defaults=[])
  (hY:∀(w:World) (h:Heap),YP w h->(K w.params).In h)
  (F:∀(w:World) (mg:Str->Option Value) (fa:Addr) (h:Heap),(K w.params).In h->h.Ns mainGlobals mg->XP mg h->mg d.name=some (.ref fa) ->
   ∃fd:FuncData,(∀(s:Shared) (u:Value),BindsTo s fd ⟨[u],[]⟩ [("_law_script",u)])∧∀base:Heap,(K w.params).In base->base.Ns mainGlobals mg->FnOk l.prog w (K w.params) mg base (CXF l.prog w) 10 fa fd ["_law_script"] (spL (K w.params))) :
  W.WalkO q loose XP YP l.row.toRowW d [] (fun f vs=>PySem.call f vs) :=
 qEF (n:=63) (k:=10) (x := "_law_script") (CX:=fun w=>CXF l.prog w) (sp:=fun w=>spL (K w.params)) hn (by decide) hdf ⟨fun _=>rfl,by decide,by decide,rfl⟩ hY F (fun _ _ a ns hl hb _ hS=>qFj key hl hb hS) fun _ _ _ _ _ z=>by obtain⟨_,_,_,_,_,_,_,_,_,_,_,_,q⟩:=z;exact q
end K81
end
section
namespace PySem.W.Fast
def tw6829045022602406202:=0
def tw1090905950995011428:=0
def tw1880755107045624994:=0
def tw16342596368367548137:=0
def tw11132787695935589705:=0
def tw16963051085715617485:=0
def tw6236298644544323326:=0
def tw6899372025419480198:=0
def tw476005678664892114:=0
def tw2110055701790121300:=0
def tw11293728934615107032:=0
def tw2174714273797216944:=0
def tw8423348602449978430:=0
def tw5359859103850964887:=0
def tw1679795713390053134:=0
def tw12911463725377178840:=0
def tw5891491200006491595:=0
def tw17666891642471401370:=0
def tw7312028577787772537:=0
def tw10172546957833064789:=0
def tw12912348408148773706:=0
def tw14726361689804244410:=0
def tw17566371114297499414:=0
def tw7257741211330030137:=0
def tw7723838619835874713:=0
def tw8219093750672800740:=0
def tw9098948830847420166:=0
def tw3799329746076974145:=0
def tw18327716075545236360:=0
def tw5103891163371645923:=0
def tw1908539573246793829:=0
def tw16983303953740298770:=0
def tw10648235327285688892:=0
def tw4023867696665594159:=0
def tw12807530549858245073:=0
def tw5742886640096425343:=0
def tw2616193688554360150:=0
def tw11174368069034666469:=0
def tw8247814530690650201:=0
def tw15178628922323187175:=0
def tw16112614311277400039:=0
def tw9377421311195908255:=0
def tw5867670993272595741:=0
def tw11313167869791321196:=0
def tw4946536333044386589:=0
def tw14724753461925111816:=0
def tw1056328869109981733:=0
def tw161775214592172105:=0
def tw14344835903093070587:=0
end PySem.W.Fast
open PySem PySem.W PyProof.Rows
set_option maxRecDepth 100000 in
set_option maxHeartbeats 0 in
theorem PySem.Challenge.cw_barfloors_k81_room_fillings_looked_at_holds : PySem.Challenge.rw_barfloors_k81_room_fillings_looked_at.Holds := by
  w_on; o_law; k_head; (case hw => w_witness2)
  k_fill
  refine K81.walk31 K81.law_true (l := PySem.Challenge.rw_barfloors_k81_room_fillings_looked_at) rfl rfl (fun w h Y => PySem.W.kIn_of Y) ?F
  case F =>
    intro w mg fa h KX G XX hmg
    refine' K81.all_mk KX G hmg ?zzA ?zzB ?zzC ?zzD ?zzE ?zzF ?zzG ?zzH ?zzI ?zzJ ?zzK ?zzL ?zzM ?zzN ?zzO ?zzP ?zzQ ?zzR ?zzS ?zzT ?zzU ?zzV ?zzW ?zzX ?zzY ?zzZ ?zza ?zzb ?zzc ?zzd ?zze ?zzf ?zzg ?zzh ?zzi ?zzj ?zzk ?zzl ?zzm ?zzn ?zzo ?zzp ?zzq ?zzr ?zzs ?zzt ?zzu ?zzv ?zzw ?zzx ?zzy ?zzz ?zyA ?zyB ?zyC ?zyD ?zyE ?zyF ?zyG ?zyH ?zyI ?zyJ ?zyK ?zyL ?zyM ?zyN ?zyO ?zyP ?zyQ ?zyR ?zyS ?zyT ?zyU ?zyV ?zyW ?zyX ?zyY ?zyZ ?zya ?zyb ?zyc ?zyd ?zye ?zyf ?zyg ?zyh ?zyi ?zyj ?zyk ?zyl ?zym ?zyn ?zyo ?zyp ?zyq ?zyr ?zys ?zyt ?zyu ?zyv ?zyw ?zyx ?zyy ?zyz ?zxA ?zxB ?zxC ?zxD ?zxE ?zxF ?zxG ?zxH ?zxI ?zxJ ?zxK ?zxL ?zxM ?zxN ?zxO ?zxP ?zxQ ?zxR ?zxS ?zxT ?zxU ?zxV ?zxW ?zxX ?zxY ?zxZ ?zxa ?zxb ?zxc ?zxd ?zxe ?zxf ?zxg ?zxh ?zxi ?zxj ?zxk ?zxl ?zxm ?zxn ?zxo ?zxp ?zxq ?zxr ?zxs ?zxt ?zxu ?zxv ?zxw ?zxx ?zxy ?zxz ?zwA ?zwB ?zwC ?zwD ?zwE ?zwF ?zwG ?zwH ?zwI ?zwJ ?zwK ?zwL ?zwM ?zwN ?zwO ?zwP ?zwQ ?zwR ?zwS ?zwT ?zwU ?zwV ?zwW ?zwX ?zwY ?zwZ ?zwa ?zwb ?zwc ?zwd ?zwe ?zwf ?zwg ?zwh ?zwi ?zwj ?zwk ?zwl ?zwm ?zwn ?zwo ?zwp ?zwq ?zwr ?zws ?zwt ?zwu ?zwv ?zww ?zwx ?zwy ?zwz ?zvA ?zvB ?zvC ?zvD ?zvE ?zvF ?zvG ?zvH ?zvI ?zvJ ?zvK ?zvL ?zvM ?zvN ?zvO ?zvP ?zvQ ?zvR ?zvS ?zvT ?zvU ?zvV ?zvW ?zvX ?zvY ?zvZ ?zva ?zvb ?zvc ?zvd ?zve ?zvf ?zvg ?zvh ?zvi ?zvj ?zvk ?zvl ?zvm ?zvn ?zvo ?zvp ?zvq ?zvr ?zvs ?zvt ?zvu ?zvv ?zvw ?zvx ?zvy
    (case zzA|zzB|zzC|zzD|zzE|zzF|zzG|zzH|zzI|zzJ|zzK|zzL|zzM|zzN|zzO|zzP|zzQ|zzR|zzS|zzT|zzU|zzV|zzW|zzX|zzY|zzZ|zza|zzb|zzc|zzd|zze|zzf|zzg|zzh|zzi|zzj|zzk|zzl|zzm|zzn|zzo|zzp|zzq|zzr|zzs|zzt|zzu|zzv|zzw|zzx|zzy|zzz|zyA|zyB|zyC|zyD|zyE|zyF|zyG|zyH|zyI|zyJ|zyK|zyL|zyM|zyN|zyO|zyP|zyQ|zyR|zyS|zyT|zyU|zyV|zyW|zyX|zyY|zyZ|zya|zyb|zyc|zyd|zye|zyf|zyg|zyh|zyi|zyj|zyk|zyl|zym|zyn|zyo|zyp|zyq|zyr|zys|zyt|zyu|zyv|zyw|zyx|zyy|zyz|zxA|zxB|zxC|zxD|zxE|zxF|zxG|zxH|zxI|zxJ|zxK|zxL|zxM|zxN|zxO|zxP|zxQ|zxR|zxS|zxT|zxU|zxV|zxW|zxX|zxY|zxZ|zxa|zxb|zxc|zxd|zxe|zxf|zxg|zxh|zxi|zxj|zxk|zxl|zxm|zxn|zxo|zxp|zxq|zxr|zxs|zxt|zxu|zxv|zxw|zxx|zxy|zxz|zwA|zwB|zwC => k_is)
    (case zwD => rfl)
    (case zwE => k_is)
    (case zwF => rfl)
    (case zwG|zwH|zwI => k_is)
    (case zwJ|zwK|zwL|zwM => rfl)
    (case zwN => k_is)
    (case zwO => rfl)
    (case zwP|zwQ => k_is)
    (case zwR|zwS|zwT|zwU|zwV|zwW|zwX|zwY|zwZ|zwa|zwb|zwc => rfl)
    (case zwd|zwe => k_is)
    (case zwf => (intro od; rfl))
    (case zwg|zwh|zwi => k_is)
    (case zwj|zwk|zwl|zwm => rfl)
    (case zwn => k_is)
    (case zwo => rfl)
    (case zwp|zwq => k_is)
    (case zwr|zws|zwt|zwu|zwv|zww|zwx|zwy|zwz|zvA|zvB|zvC => rfl)
    (case zvD|zvE => k_is)
    (case zvF => (intro od; rfl))
    (case zvG|zvH|zvI => k_is)
    (case zvJ|zvK|zvL|zvM => rfl)
    (case zvN => k_is)
    (case zvO => rfl)
    (case zvP|zvQ|zvR|zvS|zvT|zvU|zvV => k_is)
    (case zvW => rfl)
    (case zvX|zvY|zvZ|zva|zvb|zvc|zvd|zve|zvf|zvg => k_is)
    (case zvh|zvi|zvj|zvk|zvl|zvm|zvn|zvo|zvp|zvq|zvr|zvs => rfl)
    (case zvt|zvu => k_is)
    (case zvv => (intro od; rfl))
    (case zvw|zvx => k_is)
    (case zvy => decide)
end
