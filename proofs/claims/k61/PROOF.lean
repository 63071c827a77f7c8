import PyProof.Rows.All
import Wide.All
import OpenK.AllK
import Wide.FinOn
import PyProof.EqAt
import PyProof.EqKinds
import PyProof.TupleCall
import Lean
import PyProof.NeKinds
import PyProof.Rows.RuleDivmod
import PyProof.Rows.FactsN_divmod
import PyProof.DictItems
import KE.KPairComp
import PyProof.Draws
import PyProof.IsRules
import PySem.Challenge.RW_barfloors_k61_blocks_turned
theorem AA:type_of% @PySem.wpAny_bind:=@PySem.wpAny_bind
theorem AB:type_of% @beq_eq_false_iff_ne:=@beq_eq_false_iff_ne
theorem AC:type_of% @List.length_map:=@List.length_map
theorem AD:type_of% @List.mem_cons_of_mem:=@List.mem_cons_of_mem
theorem AE:type_of% @List.mem_cons:=@List.mem_cons
theorem AF:type_of% @PySem.wpAny_pure:=@PySem.wpAny_pure
theorem AG:type_of% @PySem.Heap.get?_push_of_some:=@PySem.Heap.get?_push_of_some
theorem AH:type_of% @if_pos:=@if_pos
theorem AI:type_of% @List.mem_cons_self:=@List.mem_cons_self
theorem AJ:type_of% @if_neg:=@if_neg
theorem AK:type_of% @Nat.le_refl:=@Nat.le_refl
theorem AL:type_of% @Array.getD_eq_getD_getElem?:=@Array.getD_eq_getD_getElem?
theorem AM:type_of% @List.length_cons:=@List.length_cons
theorem AN:type_of% @PySem.W.mg_of:=@PySem.W.mg_of
theorem AO:type_of% @List.size_toArray:=@List.size_toArray
theorem AQ:type_of% @decide_eq_true:=@decide_eq_true
theorem AR:type_of% @List.getElem?_eq_some_iff:=@List.getElem?_eq_some_iff
theorem AS:type_of% @Array.getElem?_eq_getElem:=@Array.getElem?_eq_getElem
theorem AT:type_of% @PySem.Heap.lt_size:=@PySem.Heap.lt_size
theorem AU:type_of% @List.getElem?_eq_getElem:=@List.getElem?_eq_getElem
theorem AV:type_of% @decide_eq_false:=@decide_eq_false
theorem AW:type_of% @List.mem_map:=@List.mem_map
theorem AX:type_of% @PySem.Heap.get?_push_size:=@PySem.Heap.get?_push_size
theorem AY:type_of% @List.length_append:=@List.length_append
theorem AZ:type_of% @Bool.and_eq_true:=@Bool.and_eq_true
theorem Aa:type_of% @Array.length_toList:=@Array.length_toList
theorem Ab:type_of% @Nat.ne_of_lt:=@Nat.ne_of_lt
theorem Ac:type_of% @List.getD_eq_getElem?_getD:=@List.getD_eq_getElem?_getD
theorem Ae:type_of% @Nat.le_trans:=@Nat.le_trans
theorem Af:type_of% @List.getElem?_append_left:=@List.getElem?_append_left
theorem Ag:type_of% @List.not_mem_nil:=@List.not_mem_nil
theorem Ah:type_of% @List.mem_singleton:=@List.mem_singleton
theorem Ai:type_of% @Option.some.inj:=@Option.some.inj
theorem Aj:type_of% @List.map_cons:=@List.map_cons
theorem Ak:type_of% @PySem.Heap.get?_update_other:=@PySem.Heap.get?_update_other
theorem Al:type_of% @List.append_assoc:=@List.append_assoc
theorem Am:type_of% @Nat.lt_of_lt_of_le:=@Nat.lt_of_lt_of_le
theorem An:type_of% @List.mem_append:=@List.mem_append
theorem Ao:type_of% @PySem.wpAny_of_eq:=@PySem.wpAny_of_eq
theorem Ap:type_of% @PySem.wpAny_holding:=@PySem.wpAny_holding
theorem Aq:type_of% @of_decide_eq_true:=@of_decide_eq_true
theorem Ar:type_of% @List.zip_cons_cons:=@List.zip_cons_cons
theorem As:type_of% @beq_self_eq_true:=@beq_self_eq_true
theorem At:type_of% @List.all_eq_true:=@List.all_eq_true
theorem Au:type_of% @List.map_map:=@List.map_map
theorem Av:type_of% @List.getElem?_append_right:=@List.getElem?_append_right
theorem Aw:type_of% @List.mem_of_getElem?:=@List.mem_of_getElem?
theorem Ax:type_of% @List.nodup_cons:=@List.nodup_cons
theorem Ay:type_of% @PySem.W.mg_none_of:=@PySem.W.mg_none_of
theorem Az:type_of% @List.lookup_cons:=@List.lookup_cons
theorem A0:type_of% @Bool.false_eq_true:=@Bool.false_eq_true
theorem A1:type_of% @List.getElem?_map:=@List.getElem?_map
theorem A2:type_of% @List.mem_append_right:=@List.mem_append_right
theorem A3:type_of% @Array.getElem?_toList:=@Array.getElem?_toList
theorem A4:type_of% @beq_iff_eq:=@beq_iff_eq
theorem A5:type_of% @List.getElem?_set_self:=@List.getElem?_set_self
theorem A6:type_of% @List.map_congr_left:=@List.map_congr_left
theorem A7:type_of% @Nat.zero_le:=@Nat.zero_le
theorem A8:type_of% @Nat.lt_succ_of_lt:=@Nat.lt_succ_of_lt
theorem A9:type_of% @List.mem_range:=@List.mem_range
theorem BA:type_of% @List.getElem?_set_ne:=@List.getElem?_set_ne
theorem BB:type_of% @List.append_nil:=@List.append_nil
theorem BC:type_of% @Nat.not_lt_zero:=@Nat.not_lt_zero
theorem BD:type_of% @PySem.Heap.get?_update_self:=@PySem.Heap.get?_update_self
theorem BE:type_of% @List.length_filter_le:=@List.length_filter_le
theorem BF:type_of% @PySem.wpAny_field:=@PySem.wpAny_field
theorem BG:type_of% @List.pairwise_cons:=@List.pairwise_cons
theorem BH:type_of% @List.getElem?_of_mem:=@List.getElem?_of_mem
theorem BI:type_of% @List.mem_flatMap:=@List.mem_flatMap
theorem BJ:type_of% @Nat.lt_irrefl:=@Nat.lt_irrefl
theorem BK:type_of% @Bool.and_false:=@Bool.and_false
theorem BM:type_of% @PySem.wpAny_newObj_type:=@PySem.wpAny_newObj_type
theorem BN:type_of% @PySem.codeAny_builtin:=@PySem.codeAny_builtin
theorem BO:type_of% @List.mem_filter:=@List.mem_filter
theorem BP:type_of% @Bool.false_ne_true:=@Bool.false_ne_true
theorem BQ:type_of% @PySem.wpAny_isInstance:=@PySem.wpAny_isInstance
theorem BR:type_of% @List.nodup_append:=@List.nodup_append
theorem BS:type_of% @List.length_nil:=@List.length_nil
theorem BT:type_of% @PyProof.Rows.KeyOrd.kle_refl:=@PyProof.Rows.KeyOrd.kle_refl
theorem BU:type_of% @PySem.mem_of_lookup:=@PySem.mem_of_lookup
theorem BV:type_of% @List.replicate_succ:=@List.replicate_succ
theorem BW:type_of% @Array.getElem?_eq_some_iff:=@Array.getElem?_eq_some_iff
theorem BX:type_of% @if_false:=@if_false
theorem BY:type_of% @List.filter_cons:=@List.filter_cons
theorem BZ:type_of% @List.length_singleton:=@List.length_singleton
theorem Ba:type_of% @Nat.lt_of_le_of_lt:=@Nat.lt_of_le_of_lt
theorem Bb:type_of% @PyProof.Rows.slot_tuple_getitem:=@PyProof.Rows.slot_tuple_getitem
theorem Bc:type_of% @PySem.wpAny_mono:=@PySem.wpAny_mono
theorem Bd:type_of% @List.map_append:=@List.map_append
theorem Be:type_of% @PySem.wpAny_setState_of:=@PySem.wpAny_setState_of
theorem Bf:type_of% @Bool.and_true:=@Bool.and_true
theorem Bg:type_of% @PySem.wpAny_callSpecial?_slot:=@PySem.wpAny_callSpecial?_slot
theorem Bh:type_of% @List.getElem?_replicate:=@List.getElem?_replicate
theorem Bi:type_of% @List.filterMap_cons:=@List.filterMap_cons
theorem Bj:type_of% @List.getElem_mem:=@List.getElem_mem
theorem Bk:type_of% @List.nodup_nil:=@List.nodup_nil
theorem Bl:type_of% @decide_eq_decide:=@decide_eq_decide
theorem Bm:type_of% @PySem.F.plain_max_loop:=@PySem.F.plain_max_loop
theorem Bn:type_of% @PyProof.Rows.callWith_type1:=@PyProof.Rows.callWith_type1
theorem Bo:type_of% @PySem.wpAny_Call_Name_kw:=@PySem.wpAny_Call_Name_kw
theorem Bp:type_of% @PySem.wpAny_typeOf:=@PySem.wpAny_typeOf
theorem Bq:type_of% @beq_false_of_ne:=@beq_false_of_ne
theorem Br:type_of% @List.set_append_right:=@List.set_append_right
theorem Bs:type_of% @PySem.wpAny_truthy_bool:=@PySem.wpAny_truthy_bool
theorem Bt:type_of% @List.flatten_cons:=@List.flatten_cons
theorem Bu:type_of% @List.pairwise_iff_getElem:=@List.pairwise_iff_getElem
theorem Bv:type_of% @PySem.Around.under_plainId:=@PySem.Around.under_plainId
theorem Bw:type_of% @PySem.sizeLine_eq:=@PySem.sizeLine_eq
theorem By:type_of% @PySem.wpAny_seqItems:=@PySem.wpAny_seqItems
theorem B1:type_of% @PySem.Heap.size_push:=@PySem.Heap.size_push
theorem B2:type_of% @PySem.wpAny_call_entry:=@PySem.wpAny_call_entry
theorem B3:type_of% @List.length_take:=@List.length_take
theorem B4:type_of% @PySem.wpAny_forIn_list:=@PySem.wpAny_forIn_list
theorem B5:type_of% @Nat.succ_le_succ:=@Nat.succ_le_succ
theorem B6:type_of% @PySem.wpAny_call:=@PySem.wpAny_call
theorem B7:type_of% @List.take_of_length_le:=@List.take_of_length_le
theorem B8:type_of% @or_false:=@or_false
theorem B9:type_of% @Int.toNat_natCast:=@Int.toNat_natCast
theorem CA:type_of% @List.pairwise_map:=@List.pairwise_map
theorem CB:type_of% @PyProof.Rows.KeyOrd.kle_of_klt:=@PyProof.Rows.KeyOrd.kle_of_klt
theorem CC:type_of% @List.Pairwise.map:=@List.Pairwise.map
theorem CD:type_of% @PySem.wpAny_setField:=@PySem.wpAny_setField
theorem CF:type_of% @Bool.false_and:=@Bool.false_and
theorem CG:type_of% @Nat.le_of_ble_eq_true:=@Nat.le_of_ble_eq_true
theorem CH:type_of% @List.length_drop:=@List.length_drop
theorem CI:type_of% @PySem.codeAny_call_builtin:=@PySem.codeAny_call_builtin
theorem CJ:type_of% @PySem.Heap.size_update:=@PySem.Heap.size_update
theorem CK:type_of% @PyProof.Rows.KeyOrd.kle_trans:=@PyProof.Rows.KeyOrd.kle_trans
theorem CL:type_of% @List.all_cons:=@List.all_cons
theorem CM:type_of% @Int.lt_irrefl:=@Int.lt_irrefl
theorem CN:type_of% @if_true:=@if_true
theorem CP:type_of% @Prod.mk.inj:=@Prod.mk.inj
theorem CQ:type_of% @List.length_pos_iff:=@List.length_pos_iff
theorem CS:type_of% @Int.toNat_of_nonneg:=@Int.toNat_of_nonneg
theorem CT:type_of% @PySem.Obj.data_mapFields:=@PySem.Obj.data_mapFields
theorem CU:type_of% @congrArg:=@congrArg
theorem CV:type_of% @List.mem_filterMap:=@List.mem_filterMap
theorem CW:type_of% @PySem.Calls.spliced_cons:=@PySem.Calls.spliced_cons
theorem CY:type_of% @Nat.succ_pos:=@Nat.succ_pos
theorem CZ:type_of% @Int.add_zero:=@Int.add_zero
theorem Ca:type_of% @decide_eq_true_iff:=@decide_eq_true_iff
theorem Cb:type_of% @PySem.typeIs_int:=@PySem.typeIs_int
theorem Cc:type_of% @PySem.wpAny_attempt:=@PySem.wpAny_attempt
theorem Cd:type_of% @PySem.wpAny_standAt:=@PySem.wpAny_standAt
theorem Ce:type_of% @PySem.plainId_quiet:=@PySem.plainId_quiet
set_option Elab.async false
set_option linter.all false
set_option maxRecDepth 100000
set_option maxHeartbeats 0
section
namespace EX
open PySem PySem.Spec PyProof.Rows
theorem qBF:entryFor table "proto.unchain" = some Builtin.«proto.unchain» := entryFor_of_fast (by kernel_rfl)
def Hnd (A:Around) (h:Heap):Prop := ∀ v,A.handled=some v -> ∃ ea oe vs,v=Value.ref ea∧h.get? ea=some oe∧oe.data = .fields vs∧vs[2]? = some .none
section
variable {prog:Program} {w:World} {A:Around} {E:Value->Shared->Prop} {s:Shared}
theorem qBy {e v:Value} {ea:Addr} {oe:Obj} {vs:Array Value} {Q:Value->Shared->Prop} (ho:s.heap.get? ea=some oe) (hd:oe.data = .fields vs) (h2:vs[2]? = some .none) (hq:Q .none s) :
  wpAny (model prog w) A (runValue (.builtin "proto.unchain" ⟨[e,.ref ea,v,.bool false],[]⟩)) Q E s:=by
 refine wpAny_runValue (BN qBF ?_);unfold Builtin.«proto.unchain»;dsimp only;refine AA (BF ho hd h2 ?_);rw [AH (show (Value.none==Value.none)=true by rfl)]
 refine AA (AF (AF ?_));exact hq
theorem qB0 {α:Type} {e:Addr} {oe:Obj} {vs:Array Value} {Q:α->Shared->Prop} (hn:Hnd A s.heap) (he:s.heap.get? e=some oe) (hd:oe.data = .fields vs) (hsz:2 < vs.size) (hne:∀ ea,A.handled=some (.ref ea)->ea≠e)
  (h:∀ h' o',Heap.SameBut e s.heap h'->h'.get? e=some o'->o'.cls=oe.cls->E (.ref e) { s with heap:=h' }):wpAny (model prog w) A (raiseNew (.ref e):Sem α) Q E s:=by
 unfold raiseNew;refine AA (wpAny_handled ?_);cases hh:A.handled with
 |none=>exact AA (AF (wpAny_throw (h s.heap oe (.refl ..) he rfl)))
 |some v =>
  obtain ⟨ea,o,ws,rfl,ho,hdo,h2⟩:=hn v hh;have hne':=hne ea hh;have hb:(Value.ref ea != Value.ref e)=true:=by rw [bne_iff_ne];intro z;cases z;exact hne' rfl
  dsimp only;rw [AH hb];refine AA (Ap (qBy ho hdo h2 ?_));refine AA (CD (x:=Value.ref ea) he hd hsz (wpAny_throw ?_));exact h _ _ (Heap.SameBut.update ..) (BD _ he (Obj.isFreed_of_fields (CT hd _))) (Obj.cls_mapFields ..)
theorem Zs {α:Type} {Q:α->Shared->Prop} (hn:Hnd A s.heap) (h:∀ h' e,(∀ b o,s.heap.get? b=some o->h'.get? b=some o)->(∃ o',h'.get? e=some o'∧o'.cls = .type "StopIteration")->E (.ref e) { s with heap:=h' }) :
  wpAny (model prog w) A (newExc (.type "StopIteration") [] >>= fun e=>(raiseNew e:Sem α)) Q E s:=by
 refine AA ?_;unfold newExc newTuple;refine AA (BM ?_ (by size_fits))
 refine AA (m:=firstArgMember _ _) (Ao (a:=Value.none) (by first |rfl |(simp only [firstArgMember];rfl)) ?_)
 refine BM ?_ (by size_fits)
 have up:∀ {b o},s.heap.get? b=some o->((s.heap.push { cls := .type "tuple",data := .seq ([]:List Value).toArray }).push { cls := .type "StopIteration",data := .fields (#[.ref s.heap.objs.size,.none,.none,.none,.bool false,.none]++ownMembersOf (.type "StopIteration") []) }).get? b=some o:=fun q=>AG _ (AG _ q);refine qB0 (oe:={ cls := .type "StopIteration",data := .fields (#[.ref s.heap.objs.size,.none,.none,.none,.bool false,.none]++ownMembersOf (.type "StopIteration") []) }) ?_ (AX _ rfl) rfl (by simp [ownMembersOf]) (fun ea hea => ?_) fun h' o' sb ho' hc=>h h' _ (fun b o q => ?_) ⟨o',ho',hc⟩
 ·intro v hv;obtain ⟨ea,oe,vs,e1,e2,e3⟩:=hn v hv;exact ⟨ea,oe,vs,e1,up e2,e3⟩
 ·obtain ⟨ea',oe,vs,e1,e2,e3⟩:=hn _ hea;cases e1;exact Ab (Nat.lt_trans (AT e2) (by simp))
 ·exact (sb.2 b (Ab (Nat.lt_trans (AT q) (by simp)))).trans (up q)
theorem list_end {it l:Addr} {i:Nat} {items} {Q:Option Value->Shared->Prop} (hn:Hnd A s.heap) (z1:s.heap.IsListIter it l i) (z2:s.heap.IsList l items) (z3:items[i]? = none) (z4:∀ v,A.handled=some v->v ≠ .ref it)
  (hQ:∀ h',(∀ b o,b≠it->s.heap.get? b=some o->h'.get? b=some o)->Q none { s with heap:=h' }):wpAny (model prog w) A (pyNext (.ref it)) Q E s:=by
 obtain ⟨ob,g1,g2,g3⟩:=id z1;obtain ⟨ol,g4,_,nl,g5⟩:=z2;unfold pyNext;refine AA (Cc (Bg (name:=Str.ofString "__next__") z1.typeIs slot_listiter_next (B2 slot_listiter_next z1.typeIs entry_listiter_next ?_ (args_listiter_next _))));change wpAny _ A.in1 (field (Value.ref it) 0 >>= _) _ _ s;refine AA (BF g1 g3 (x:=Value.ref l) rfl ?_);change wpAny _ A.in1 (if (Value.ref l==Value.none)=true then _ else _) _ _ s;rw [AJ (fun z:(Value.ref l==Value.none)=true=>BP z)];change wpAny _ A.in1 (field (Value.ref it) 1 >>= _) _ _ s;refine AA (BF g1 g3 (x:=Value.int i 0) rfl ?_);change wpAny _ A.in1 (seqItems? (Value.ref l) >>= _) _ _ s;refine AA (By g4 g5 ?_);simp only [B9,z3];refine AA (wpAny_rule (AA (CD g1 g3 (by simp) ?_)))
 refine Zs (A:=A.in1) ?_ fun h' e k ht => ?_
 ·intro v hv;obtain ⟨ea,oe,vs,e1,e2,e3⟩:=hn v hv;refine ⟨ea,oe,vs,e1,?_,e3⟩;have hne:ea≠it:=fun z=>z4 v hv (by rw [e1,z])
  exact (Ak _ _ (Ne.symm hne)).trans e2
 ·refine AA (BQ (T := "StopIteration") (b:=true) ht isSubtype_stop ?_);exact AF (hQ _ fun b o' hb q=>k b o' ((Ak _ _ (Ne.symm hb)).trans q))
theorem tuple_end {it l:Addr} {i:Nat} {items} {Q:Option Value->Shared->Prop} (hn:Hnd A s.heap) (z1:s.heap.IsTupleIter it l i) (z2:s.heap.IsTuple l items) (z3:items[i]? = none) (z4:∀ v,A.handled=some v->v ≠ .ref it)
  (hQ:∀ h',(∀ b o,b≠it->s.heap.get? b=some o->h'.get? b=some o)->Q none { s with heap:=h' }):wpAny (model prog w) A (pyNext (.ref it)) Q E s:=by
 obtain ⟨ob,g1,g2,g3⟩:=id z1;obtain ⟨ol,g4,_,nl,g5⟩:=z2;unfold pyNext;refine AA (Cc (Bg (name:=Str.ofString "__next__") z1.typeIs F.slot_tuple_iterator_next (B2 F.slot_tuple_iterator_next z1.typeIs F.entry_tuple_iterator_next ?_ (F.args_tuple_iterator_next_1 _))));change wpAny _ A.in1 (field (Value.ref it) 0 >>= _) _ _ s;refine AA (BF g1 g3 (x:=Value.ref l) rfl ?_);change wpAny _ A.in1 (if (Value.ref l==Value.none)=true then _ else _) _ _ s;rw [AJ (fun z:(Value.ref l==Value.none)=true=>BP z)];change wpAny _ A.in1 (field (Value.ref it) 1 >>= _) _ _ s;refine AA (BF g1 g3 (x:=Value.int i 0) rfl ?_);change wpAny _ A.in1 (seqItems? (Value.ref l) >>= _) _ _ s;refine AA (By g4 g5 ?_);simp only [B9,z3];refine AA (wpAny_rule (AA (CD g1 g3 (by simp) ?_)))
 refine Zs (A:=A.in1) ?_ fun h' e k ht => ?_
 ·intro v hv;obtain ⟨ea,oe,vs,e1,e2,e3⟩:=hn v hv;refine ⟨ea,oe,vs,e1,?_,e3⟩;have hne:ea≠it:=fun z=>z4 v hv (by rw [e1,z])
  exact (Ak _ _ (Ne.symm hne)).trans e2
 ·refine AA (BQ (T := "StopIteration") (b:=true) ht isSubtype_stop ?_);exact AF (hQ _ fun b o' hb q=>k b o' ((Ak _ _ (Ne.symm hb)).trans q))
theorem range_end {it:Addr} {x left step:Int} {Q:Option Value->Shared->Prop} (hn:Hnd A s.heap) (z1:IsRangeIter s.heap it x left step) (z2:left≤0)
  (hQ:∀ h',(∀ b o,s.heap.get? b=some o->h'.get? b=some o)->Q none { s with heap:=h' }):wpAny (model prog w) A (pyNext (.ref it)) Q E s:=by have z0:s.TypeIs (.ref it) "range_iterator" := ⟨_,z1,rfl⟩;unfold pyNext;refine AA (Cc (Bg (name:=Str.ofString "__next__") z0 F.slot_range_iterator_next (B2 F.slot_range_iterator_next z0 F.entry_range_iterator_next ?_ (F.args_range_iterator_next_1 _))));change wpAny _ A.in1 (field (Value.ref it) 0 >>= _) _ _ s;refine AA (BF z1 rfl (x:=rawInt x) rfl ?_);change wpAny _ A.in1 (field (Value.ref it) 1 >>= _) _ _ s;refine AA (BF z1 rfl (x:=rawInt left) rfl ?_);change wpAny _ A.in1 (field (Value.ref it) 2 >>= _) _ _ s;refine AA (BF z1 rfl (x:=rawInt step) rfl ?_);change wpAny _ A.in1 (if left≤0 then _ else _) _ _ s;rw [AH z2];refine AA (wpAny_rule (AA ?_));refine Zs (A:=A.in1) hn fun h' e k ht => ?_;refine AA (BQ (T := "StopIteration") (b:=true) ht isSubtype_stop ?_);exact AF (hQ _ k)
end
end EX
end
section
namespace L2
open PySem PySem.Spec PyProof.Rows
abbrev Key:=Sum Int Str
def qHh:Key->Value->Bool
 | .inl k,v=>Value.isInt k v
 | .inr x,v=>Value.isStrOf x v
def qLh (w:World):Key->Int
 | .inl k=>hashInt k
 | .inr x=>hashStr w x
theorem Qt:∀ {k:Key} {v:Value},qHh k v=true->(∃ i t,k=Sum.inl i∧v=Value.int i t)∨(∃ x t,k=Sum.inr x∧v=Value.str x t)
 | .inl i,v,h=>by obtain ⟨t,e⟩:=Value.isInt_shape (k:=i) (v:=v) h;exact .inl ⟨i,t,rfl,e⟩
 | .inr x,v,h=>by obtain ⟨t,e⟩:=Value.isStrOf_shape (x:=x) (v:=v) h;exact .inr ⟨x,t,rfl,e⟩
theorem qJt (a b:Int):decide ((Sum.inl a:Key)=Sum.inl b)=(a==b):=by
 by_cases e:a=b
 ·subst e;simp
 ·have h:¬ (Sum.inl a:Key)=Sum.inl b:=fun q=>e (Sum.inl.inj q);rw [AV h];exact (AB.mpr e).symm
theorem qJd (a b:Str):decide ((Sum.inr a:Key)=Sum.inr b)=decide (a=b):=by
 by_cases e:a=b
 ·subst e;simp
 ·have h:¬ (Sum.inr a:Key)=Sum.inr b:=fun q=>e (Sum.inr.inj q);rw [AV h,AV e]
theorem qJf (a:Int) (b:Str):decide ((Sum.inl a:Key)=Sum.inr b)=false:=AV (fun q=>nomatch q)
theorem qIK (a:Str) (b:Int):decide ((Sum.inr a:Key)=Sum.inl b)=false:=AV (fun q=>nomatch q)
def j9 (prog:Program) (w:World):PySem.KeyKind prog w Key where
 is:=qHh
 hash:=qLh w
 inj:=fun v a b ha hb=>by
  rcases Qt ha with ⟨i,t,rfl,rfl⟩ |⟨x,t,rfl,rfl⟩
  ·rcases Qt hb with ⟨j,u,rfl,e⟩ |⟨y,u,rfl,e⟩
   ·injection e with e1 _;rw [e1]
   ·exact nomatch e
  ·rcases Qt hb with ⟨j,u,rfl,e⟩ |⟨y,u,rfl,e⟩
   ·exact nomatch e
   ·injection e with e1 _;rw [e1]
 byValue:=fun k v h=>by rcases Qt h with ⟨i,t,rfl,rfl⟩ |⟨x,t,rfl,rfl⟩ <;> rfl
 pyHash:=fun hv h=>by
  rcases Qt hv with ⟨i,t,rfl,rfl⟩ |⟨x,t,rfl,rfl⟩
  ·exact wpAny_pyHash_int h
  ·exact wpAny_pyHash_str h
 eqBool:=fun hu hv h=>by
  rcases Qt hu with ⟨i,t,rfl,rfl⟩ |⟨x,t,rfl,rfl⟩
  ·rcases Qt hv with ⟨j,u,rfl,rfl⟩ |⟨y,u,rfl,rfl⟩
   ·rw [qJt] at h;exact wpAny_eqBool_int h
   ·rw [qJf] at h;exact SeqAt.EqAt.int_str i t y u _ _ _ _ h
  ·rcases Qt hv with ⟨j,u,rfl,rfl⟩ |⟨y,u,rfl,rfl⟩
   ·rw [qIK] at h;exact SeqAt.EqAt.str_int x t j u _ _ _ _ h
   ·rw [qJd] at h;exact wpAny_eqBool_str h
 «strs» := fun k x t v h=>by
  rcases Qt h with ⟨i,u,rfl,e⟩ |⟨y,u,rfl,e⟩
  ·exact nomatch e
  ·injection e with e1 _;subst e1;cases v <;> rfl
end L2
namespace L2
open PySem PySem.Spec PyProof.Rows
inductive V where
 |non |bl (b:Bool) |int (i:Int) |str (x:Str) |byt (b:Array UInt8) |flt (b:UInt64) |ref (a:Addr) |ty (n:String)
 deriving DecidableEq
def RelV:V->Value->Prop
 | .non,u=>u=Value.none
 | .bl b,u=>u=Value.bool b
 | .int i,u => ∃ t,u=Value.int i t
 | .str x,u => ∃ t,u=Value.str x t
 | .byt b,u => ∃ t,u=Value.bytes b t
 | .flt b,u => ∃ t,u=Value.float b t
 | .ref a,u=>u=Value.ref a
 | .ty n,u=>u=Value.type n
abbrev Vals:List V->List Value->Prop:=Paired RelV
theorem Vals.length {xs:List V} {us:List Value} (r:Vals xs us):xs.length=us.length:=Paired.length r
theorem Vals.get:∀ {xs:List V} {us:List Value} {i:Nat} {x:V},Vals xs us->xs[i]? = some x -> ∃ u,us[i]? = some u∧RelV x u
 |_,_,_,_,.nil,e=>by simp at e
 |_,_,0,_,.cons r _,e=>by simp at e;subst e;exact ⟨_,rfl,r⟩
 |_,_,i + 1,x,.cons _ t,e=>by
  obtain ⟨u,h1,h2⟩:=Vals.get (i:=i) (x:=x) t (by simpa using e)
  exact ⟨u,by simpa using h1,h2⟩
theorem Vals.set {x:V} {u:Value} (r:RelV x u):∀ {xs:List V} {us:List Value} (i:Nat),Vals xs us->Vals (xs.set i x) (us.set i u)
 |_,_,_,.nil => .nil
 |_,_,0,.cons _ t => .cons r t
 |_,_,i + 1,.cons q t => .cons q (Vals.set r i t)
theorem Vals.append:∀ {xs ys:List V} {us ws:List Value},Vals xs us->Vals ys ws->Vals (xs++ys) (us++ws)
 |_,_,_,_,.nil,s=>s
 |_,_,_,_,.cons r t,s => .cons r (Vals.append t s)
theorem Vals.take:∀ {xs:List V} {us:List Value} (n:Nat),Vals xs us->Vals (xs.take n) (us.take n)
 |_,_,0,_ => .nil
 |_,_,_ + 1,.nil => .nil
 |_,_,n + 1,.cons r t => .cons r (Vals.take n t)
theorem Vals.drop:∀ {xs:List V} {us:List Value} (n:Nat),Vals xs us->Vals (xs.drop n) (us.drop n)
 |_,_,0,r=>r
 |_,_,_ + 1,.nil => .nil
 |_,_,n + 1,.cons _ t=>Vals.drop n t
def qJ8:Option V->Option Value->Prop
 |some v,some u=>RelV v u
 |none,none=>True
 |_,_=>False
def KV {κ:Type}:List (κ×V)->List (κ×Value)->Prop:=Paired fun (p:κ×V) (q:κ×Value)=>p.1=q.1∧RelV p.2 q.2
def kV:Key->V
 | .inl i => .int i
 | .inr x => .str x
inductive HO where
 /-- a list -/
 |lst (xs:List V)
 /-- a tuple (never changes) -/
 |tup (xs:List V)
 /-- a dict whose keys are ints and texts;one whose keys are tuples of ints and texts (the empty one is both) -/
 |dK (kvs:List (Key×V)) |dT (kvs:List (List Key×V))
 /-- a set of ints: its members,its size -/
 |set (S:Int->Bool) (n:Nat)
 /-- an instance of the class at C,its dict at dx,its attributes -/
 |ins (C dx:Addr) (fs:List (Str×V))
 /-- the dict of the instance at x -/
 |own (x:Addr)
 /-- the dict of an exception -/
 |xd (fs:List (Str×V))
 /-- a bound method,f of x -/
 |met (f x:Addr)
 /-- a range object lo,lo + 1,.. below hi -/
 |rng (lo hi:Int)
 /-- a thing that is known to the object (the script;a dict while a loop walks it): read,never written while it is so -/
 |frz (o:Obj) (u:HO)
 /-- a code object's table -/
 |tbl (ps:Array Value)
 /-- any other thing,by what is true of its one object (a def of one's own: SetO a S n:=HO.ext fun h => ..) -/
 |ext (φ:Heap->Prop)
abbrev Hp:=Addr->Option HO
def upd (H:Hp) (a:Addr) (o:HO):Hp:=fun b=>if b=a then some o else H b
theorem Qr {H:Hp} {a:Addr} {o:HO}:upd H a o a=some o:=by unfold upd;rw [AH rfl]
theorem qY {H:Hp} {a b:Addr} {o:HO} (h:b≠a):upd H a o b=H b:=by unfold upd;rw [AJ h]
theorem qV {H:Hp} {a b:Addr} {o:HO} (h:H a=some o) (h':H b=none):a≠b:=by intro e;subst e;rw [h] at h';cases h'
section
variable (P:Program) (w:World)
def ObjOk (H:Hp) (h:Heap) (a:Addr):HO->Prop
 | .lst xs=>xs.length≤sizeLine ∧ ∃ (its:List Value) (n:Nat),Vals xs its∧h.get? a=some { cls := .type "list",data := .seq its.toArray n }
 | .tup xs=>xs.length≤sizeLine ∧ ∃ its:List Value,Vals xs its∧IsTup h a its.toArray
 | .dK kvs=>kvs.length≤sizeLine∧(a==sysModules)=false ∧ ∃ vs,KV kvs vs∧h.DictOf (j9 P w) a vs
 | .dT kvs=>kvs.length≤sizeLine∧(a==sysModules)=false ∧ ∃ xs:List (List Key×Addr×Value),
   Paired (fun (p:List Key×V) (q:List Key×Addr×Value)=>p.1=q.1∧H q.2.1=some (.tup (p.1.map kV))∧RelV p.2 q.2.2) kvs xs ∧
   ∃ o es ep,h.get? a=some o∧o.ExactDict∧o.data = .dict es ep∧es.toList=xs.map (entryOfKey (tupleKind (j9 P w)))∧(xs.map (·.1)).Nodup
 | .set S n=>h.SetOf (intKind P w) a S n
 | .ins C dx fs=>H dx=some (.own a)∧fs.length≤1000∧dx≠a∧h.get? a=some (W.instObj C dx) ∧
   ∃ mA,h.Ns1 dx mA∧(∀ f,qJ8 (fs.lookup f) (mA f))∧PySem.Within mA (fs.map (·.1))
 | .own _ => ∃ o,h.get? a=some o
 | .xd fs => ∃ mA,h.Ns1 a mA ∧ ∀ f,qJ8 (fs.lookup f) (mA f)
 | .rng lo hi => ∃ t u v,h.get? a=some { cls := .type "range",data := .fields #[.int lo t,.int hi u,.int 1 v] }
 | .frz o u=>h.get? a=some o∧ObjOk H h a u
 | .tbl ps=>h.get? a=some { cls := .none,data := .fields ps }
 | .met f x=>h.get? a=some (W.methodObj (.ref f) (.ref x))
 | .ext φ=>φ h∧(∃ o,h.get? a=some o) ∧ ∀ h1 h2:Heap,φ h1->(∀ o,h1.get? a=some o->h2.get? a=some o)->φ h2
def HOk (H:Hp) (h:Heap):Prop := ∀ a o,H a=some o->ObjOk P w H h a o
end
section
variable {P:Program} {w:World} {H H':Hp} {h h':Heap} {a:Addr} {o:HO}
theorem ObjOk.lt (x:ObjOk P w H h a o):a < h.objs.size:=by
 cases o with
 |lst xs=>obtain ⟨_,_,_,_,e⟩:=x;exact AT e
 |tup xs=>obtain ⟨_,_,_,p⟩:=x;exact p.lt
 |dK kvs=>obtain ⟨_,_,_,_,o,_,_,e,_⟩:=x;exact AT e
 |dT kvs=>obtain ⟨_,_,_,_,o,_,_,e,_⟩:=x;exact AT e
 |set S n=>obtain ⟨o,_,_,_,e,_⟩:=x;exact AT e
 |ins C dx fs=>obtain ⟨_,_,_,e,_⟩:=x;exact AT e
 |own y=>obtain ⟨_,e⟩:=x;exact AT e
 |xd fs=>obtain ⟨_,⟨_,_,_,e,_⟩,_⟩:=x;exact AT e
 |rng lo hi=>obtain ⟨_,_,_,e⟩:=x;exact AT e
 |frz ob u=>obtain ⟨e,_⟩:=x;exact AT e
 |tbl ps=>exact AT (show h.get? a=some _ from x)
 |met f y=>exact AT (show h.get? a=some _ from x)
 |ext φ=>obtain ⟨_,⟨_,e⟩,_⟩:=x;exact AT e
theorem Paired.mapP {α β:Type} {F G:α->β->Prop}:∀ {l₁:List α} {l₂:List β},Paired F l₁ l₂->(∀ a b,F a b->G a b)->Paired G l₁ l₂
 |_,_,.nil,_ => .nil
 |_,_,.cons r t,f => .cons (f _ _ r) (Paired.mapP t f)
theorem ObjOk.stay (x:ObjOk P w H h a o) (k:∀ b u,(b=a∨H b=some (.own a))->h.get? b=some u->h'.get? b=some u)
  (ho:∀ b,H b=some (.own a)->H' b=some (.own a)) (ht:∀ b xs,H b=some (.tup xs)->H' b=some (.tup xs)):ObjOk P w H' h' a o:=by
 induction o with
 |lst xs=>obtain ⟨z,its,n,r,e⟩:=x;exact ⟨z,its,n,r,k _ _ (.inl rfl) e⟩
 |tup xs=>obtain ⟨z,its,r,ob,e,c⟩:=x;exact ⟨z,its,r,ob,k _ _ (.inl rfl) e,c⟩
 |dK kvs=>obtain ⟨z,y,vs,r,ob,es,ep,e,c⟩:=x;exact ⟨z,y,vs,r,ob,es,ep,k _ _ (.inl rfl) e,c⟩
 |dT kvs =>obtain ⟨z,y,xs,r,ob,es,ep,e,c⟩:=x;exact ⟨z,y,xs,Paired.mapP r fun p q z=>⟨z.1,ht _ _ z.2.1,z.2.2⟩,ob,es,ep,k _ _ (.inl rfl) e,c⟩
 |set S n=>obtain ⟨ob,es,ep,t,e,c⟩:=x;exact ⟨ob,es,ep,t,k _ _ (.inl rfl) e,c⟩
 |ins C dx fs =>obtain ⟨d,z,ne,e,mA,⟨od,es,ep,e2,c⟩,r⟩:=x;exact ⟨ho _ d,z,ne,k _ _ (.inl rfl) e,mA,⟨od,es,ep,k _ _ (.inr d) e2,c⟩,r⟩
 |own y=>obtain ⟨ob,e⟩:=x;exact ⟨ob,k _ _ (.inl rfl) e⟩
 |xd fs=>obtain ⟨mA,⟨od,es,ep,e,c⟩,r⟩:=x;exact ⟨mA,⟨od,es,ep,k _ _ (.inl rfl) e,c⟩,r⟩
 |rng lo hi=>obtain ⟨t,u,v,e⟩:=x;exact ⟨t,u,v,k _ _ (.inl rfl) e⟩
 |frz ob u ih=>obtain ⟨e,q⟩:=x;exact ⟨k _ _ (.inl rfl) e,ih q⟩
 |tbl ps =>have e:h.get? a=some { cls := .none,data := .fields ps }:=x;show h'.get? a=some { cls := .none,data := .fields ps };exact k a _ (.inl rfl) e
 |met f y =>have e:h.get? a=some (W.methodObj (.ref f) (.ref y)):=x;show h'.get? a=some (W.methodObj (.ref f) (.ref y));exact k a _ (.inl rfl) e
 |ext φ=>obtain ⟨p,⟨o,e⟩,st⟩:=x;exact ⟨st _ _ p fun o q=>k _ _ (.inl rfl) q,⟨o,k _ _ (.inl rfl) e⟩,st⟩
theorem HOk.lt (x:HOk P w H h) (e:H a=some o):a < h.objs.size:=(x a o e).lt
theorem HOk.fresh (x:HOk P w H h) (e:h.objs.size≤a):H a=none:=by
 cases q:H a with
 |none=>rfl
 |some u=>exact absurd (Am (x.lt q) e) (BJ _)
theorem HOk.kept (x:HOk P w H h) (k:∀ b u,h.get? b=some u->h'.get? b=some u):HOk P w H h':=fun a o e =>
 (x a o e).stay (fun b u _ q=>k b u q) (fun _ q=>q) fun _ _ q=>q
theorem HOk.laid (x:HOk P w H h) (k:∀ b u,h.get? b=some u->h'.get? b=some u) (hp:h.objs.size≤a) (new:ObjOk P w (upd H a o) h' a o):HOk P w (upd H a o) h':=fun b u e=>by
 have hn:=x.fresh hp;by_cases hb:b=a
 ·subst hb;rw [Qr] at e;cases e;exact new
 ·rw [qY hb] at e;exact (x b u e).stay (fun c v _ q=>k c v q) (fun c q=>by rw [qY (qV q hn)];exact q) fun c xs q=>by rw [qY (qV q hn)];exact q
end
def Rd (H:Hp) (a:Addr) (u:HO):Prop:=H a=some u ∨ ∃ o,H a=some (.frz o u)
theorem Rd.ok {P:Program} {w:World} {H:Hp} {h:Heap} {a:Addr} {u:HO} (r:Rd H a u) (x:HOk P w H h):ObjOk P w H h a u:=by
 rcases r with r |⟨o,r⟩
 ·exact x a u r
 ·obtain ⟨_,q⟩:=x a _ r;exact q
def Mut:Option HO->Prop
 |some (.lst _)=>True
 |some (.dK _)=>True
 |some (.dT _)=>True
 |some (.set _ _)=>True
 |some (.ins _ _ _)=>True
 |some (.ext _)=>True
 |_=>False
section
variable {P:Program} {w:World} {H:Hp} {h h':Heap} {x e:Addr} {o':HO}
theorem HOk.write (ok:HOk P w H h) (mu:Mut (H x)) (he:e=x∨H e=some (.own x)) (k:∀ b u,b≠e->h.get? b=some u->h'.get? b=some u) (heo:∃ u,h'.get? e=some u)
  (new:ObjOk P w (upd H x o') h' x o'):HOk P w (upd H x o') h':=fun b u q=>by
 have nown:∀ c y,H c=some (.own y)->c≠x:=fun c y r z=>by subst z;rw [r] at mu;exact mu
 have ntup:∀ c xs,H c=some (.tup xs)->c≠x:=fun c xs r z=>by subst z;rw [r] at mu;exact mu
 by_cases hb:b=x
 ·subst hb;rw [Qr] at q;cases q;exact new
 ·rw [qY hb] at q;by_cases hbe:b=e
  ·have q':H b=some (.own x):=by
    rcases he with z |z
    ·exact absurd (hbe.trans z) hb
    ·rw [hbe];exact z
   rw [q] at q';cases q';obtain ⟨v,hv⟩:=heo;exact ⟨v,by rw [hbe];exact hv⟩
  ·refine (ok b u q).stay (fun c v hc r=>k c v ?_ r) (fun c r=>by rw [qY (nown c b r)];exact r) fun c xs r=>by rw [qY (ntup c xs r)];exact r
   rcases hc with rfl |hc
   ·exact hbe
   ·rintro rfl
    rcases he with z |z
    ·exact nown c b hc z
    ·rw [hc] at z;cases z;exact hb rfl
end
structure Un (fs ex:List Addr) (H H':Hp) (h h':Heap):Prop where
 keep:∀ b o,h.get? b=some o->H b=none->b ∉ fs->b ∉ ex->h'.get? b=some o
 slot:∀ b o,h.get? b=some o->H b=none->b∈fs->b ∉ ex -> ∃ sl,h'.get? b=some { o with slots:=sl }
 free:∀ b o,h.get? b=some o->H b=none->b ∉ ex->H' b=none
 there:∀ b o,h.get? b=some o->b ∉ ex -> ∃ o',h'.get? b=some o'
 tups:∀ b xs,H b=some (.tup xs)->H' b=some (.tup xs)
 frzs:∀ b o u,H b=some (.frz o u)->H' b=some (.frz o u)
 tbls:∀ b ps,H b=some (.tbl ps) -> ∃ more,H' b=some (.tbl (ps++more))
section
variable {fs fs' ex ex':List Addr} {H H1 H2:Hp} {h h1 h2 h':Heap} {a x e:Addr} {o:HO}
theorem Un.any (u:Un fs ex H H1 h h1) {b:Addr} {ob:Obj} (q:h.get? b=some ob) (n:H b=none) (hx:b ∉ ex):∃ sl,h1.get? b=some { ob with slots:=sl }:=by
 by_cases hb:b∈fs
 ·exact u.slot b ob q n hb hx
 ·exact ⟨ob.slots,u.keep b ob q n hb hx⟩
theorem Un.kept (k:∀ b u,h.get? b=some u->h'.get? b=some u):Un fs ex H H h h' :=
 ⟨fun b ob q _ _ _=>k b ob q,fun b ob q _ _ _=>⟨ob.slots,k b ob q⟩,fun _ _ _ n _=>n,fun b ob q _=>⟨ob,k b ob q⟩,fun _ _ q=>q,fun _ _ _ q=>q,fun _ ps q=>⟨#[],by rw [q];simp⟩⟩
theorem Un.refl:Un fs ex H H h h:=Un.kept fun _ _ q=>q
theorem Un.laid (k:∀ b u,h.get? b=some u->h'.get? b=some u) (hp:h.objs.size≤a) (hn:H a=none):Un fs ex H (upd H a o) h h' where
 keep:=fun b u q _ _ _=>k b u q
 slot:=fun b u q _ _ _=>⟨u.slots,k b u q⟩
 free:=fun b u q n _=>by rw [qY (Ab (Am (AT q) hp))];exact n
 there:=fun b u q _=>⟨u,k b u q⟩
 tups:=fun b xs q=>by rw [qY (qV q hn)];exact q
 frzs:=fun b u xs q=>by rw [qY (qV q hn)];exact q
 tbls:=fun b ps q=>⟨#[],by rw [qY (qV q hn),q];simp⟩
theorem Un.write (mu:Mut (H x)) (he:e=x∨H e=some (.own x)) (k:∀ b u,b≠e->h.get? b=some u->h'.get? b=some u) (heo:∃ u,h'.get? e=some u):Un fs ex H (upd H x o) h h':=by
 have hx:∀ b,H b=none->b≠x:=fun b n z=>by subst z;rw [n] at mu;exact mu
 have hb:∀ b,H b=none->b≠e:=fun b n z=>by
  subst z;rcases he with r |r
  ·exact hx b n r
  ·rw [n] at r;cases r
 have hm:∀ b u,H b=some u -> ¬ Mut (some u)->b≠x:=fun b u q nm z=>by subst z;rw [q] at mu;exact nm mu
 refine ⟨fun b u q n _ _=>k b u (hb b n) q,fun b u q n _ _=>⟨u.slots,k b u (hb b n) q⟩,fun b u q n _=>by rw [qY (hx b n)];exact n,fun b u q _ => ?_,
  fun b xs q=>by rw [qY (hm b _ q fun z=>z)];exact q,fun b u xs q=>by rw [qY (hm b _ q fun z=>z)];exact q,fun b ps q=>⟨#[],by rw [qY (hm b _ q fun z=>z),q];simp⟩⟩
 by_cases hbe:b=e
 ·subst hbe;exact heo
 ·exact ⟨u,k b u hbe q⟩
end
def trk (h:Heap) (H:Hp):List Addr:=(List.range h.objs.size).filter fun a=>(H a).isSome
def JR (h:Heap) (H:Hp):Heap:=W.hideAll h (trk h H)
theorem qDa (h:Heap) (H:Hp):(JR h H).objs.size=h.objs.size:=W.hideAll_size _ _
theorem qEH {h:Heap} {H:Hp} {b:Addr} {o:Obj} (e:h.get? b=some o) (n:H b=none):(JR h H).get? b=some o :=
 W.hideAll_get _ e fun hm=>by have q:(H b).isSome=true:=(BO.mp hm).2;rw [n] at q;simp at q
theorem qHY {h:Heap} {H:Hp} {b:Addr} {o:Obj} (e:(JR h H).get? b=some o):h.get? b=some o∧H b=none:=by
 have e':h.get? b=some o:=W.of_hideAll (trk h H) e;refine ⟨e',?_⟩;cases q:H b with
 |none=>rfl
 |some x =>
  have hm:b∈trk h H:=BO.mpr ⟨A9.mpr (AT e'),by simp [q]⟩
  have z:(JR h H).get? b=none:=W.hideAll_none (trk h H) hm;rw [z] at e;cases e
end L2
namespace L2
open PySem PySem.Spec PyProof.Rows
structure Mod (K:W.Frag) (mg:Str->Option Value) (base:Heap):Prop where
 kin:K.In base
 glob:base.Ns mainGlobals mg
 blt:∃ mb,base.Ns builtinsNs mb ∧ ∀ x:Str,x ≠ "__name__" -> mb x=bootBuiltins x
 nolimit:base.NoLimit
structure Cx where
 prog:Program
 w:World
 K:W.Frag
 mg:Str->Option Value
 base:Heap
 A:Around
 N:List Str
 s₀:Shared
 H₀:Hp
 env:Env
 outer:List Env
 stack:List Env
 ex:List Addr
 fn:Str->Bool
 calm:Bool
 pn:List (Addr×Obj)
 xe:Value->Shared->Prop
def frs (l:List Env):List Addr:=l.filterMap (·.frame)
abbrev Cx.fs (X:Cx):List Addr:=frs X.outer
def Vis (sc:Scope) (x:Str):Prop:=sc.names.lookup x=some .local∨sc.names.lookup x=some .cell∨sc.names.lookup x=some .free
def Loc (sc:Scope) (x:Str):Prop:=sc.names.lookup x=some .local∨sc.names.lookup x=some .cell
def qKf (env:Env) (h:Heap) (m:Str->Option Value) (x:Str) (u:Value):Prop :=
 (env.kindOf x=some .local∧m x=some u)∨((env.kindOf x=some .cell∨env.kindOf x=some .free) ∧ ∃ c,env.cells.lookup x=some c∧h.IsCell c (some u))
structure Cx.Ok (X:Cx):Prop where
 mod:Mod X.K X.mg X.base
 kind:X.env.scope.kind = .function
 glob:X.env.globals=mainGlobals
 blt:X.env.builtins=builtinsNs
 above:X.s₀.heap.objs.size≤X.env.locals
 inj:∀ x y c,X.env.cells.lookup x=some c->X.env.cells.lookup y=some c->x=y
 has:∀ x,(X.env.kindOf x=some .cell∨X.env.kindOf x=some .free) -> ∃ c,X.env.cells.lookup x=some c
 cab:∀ x c,X.fn x=true->X.env.cells.lookup x=some c->X.s₀.heap.objs.size≤c
 hd:X.calm=true->X.A.handled=none
 frames:X.A.frames=some X.stack
 stk:X.stack=X.outer∨(X.stack=X.env::X.outer∧X.env.frame=some X.env.locals)
 exf:∀ b∈X.ex,b≠X.env.locals ∧ ∀ x c,X.env.cells.lookup x=some c->c≠b
 bs:∀ b o,X.base.get? b=some o->X.s₀.heap.get? b=some o∧X.H₀ b=none
 bsz:X.base.objs.size≤X.s₀.heap.objs.size
 noex:∀ b o,X.base.get? b=some o->b ∉ X.ex
 exfs:∀ b∈X.ex,b ∉ X.fs
 funs:X.s₀.heap.FunFrames X.base X.outer
 frf:∀ b∈X.fs,X.H₀ b=none
def HndH (A:Around) (H:Hp):Prop := ∀ v,A.handled=some v -> ∃ ea oe u vs,v=Value.ref ea∧H ea=some (.frz oe u)∧oe.data = .fields vs∧vs[2]? = some .none
theorem HndH.none {A:Around} {H:Hp} (h:A.handled=none):HndH A H:=fun v e=>by rw [h] at e;cases e
structure Inv (X:Cx) (pins:List (Addr×Obj)) (σ:List (Option V)) (H:Hp) (s:Shared):Prop where
 ok:X.Ok
 os:s.os=X.s₀.os
 bare:AllBare s.gens
 base:Un X.fs X.ex X.H₀ H X.s₀.heap s.heap
 loc:∃ m,s.heap.Ns X.env.locals m ∧ ∀ (i:Nat) (x:Str) (v:V),X.N[i]? = some x->σ[i]? = some (some v)->Vis X.env.scope x -> ∃ u,RelV v u∧qKf X.env s.heap m x u
 cell:∀ x c,X.env.cells.lookup x=some c -> ∃ v,s.heap.IsCell c v
 free:H X.env.locals=none
 freeC:∀ x c,X.env.cells.lookup x=some c->H c=none
 pin:∀ p∈X.pn++pins,s.heap.get? p.1=some p.2∧H p.1=none∧p.1≠X.env.locals∧p.1 ∉ X.fs ∧ ∀ v,p.2.data ≠ .cell v
 hok:HOk X.prog X.w H s.heap
 len:σ.length=X.N.length
 hnd:HndH X.A H
section
variable {X:Cx} {pins:List (Addr×Obj)} {σ:List (Option V)} {H H':Hp} {s:Shared} {h':Heap}
theorem Cx.Ok.nofr (ok:X.Ok) {b:Addr} {o:Obj} (e:X.base.get? b=some o):b ∉ X.fs:=fun hb=>by
 have:=(ok.funs.mem hb).1
 rw [e] at this;cases this
theorem Inv.bs (I:Inv X pins σ H s):∀ b o,X.base.get? b=some o->s.heap.get? b=some o∧H b=none:=fun b o e =>
 ⟨I.base.keep b o (I.ok.bs b o e).1 (I.ok.bs b o e).2 (I.ok.nofr e) (I.ok.noex b o e),I.base.free b o (I.ok.bs b o e).1 (I.ok.bs b o e).2 (I.ok.noex b o e)⟩
theorem Inv.bk (I:Inv X pins σ H s):∀ b o,X.base.get? b=some o->s.heap.get? b=some o:=fun b o e=>(I.bs b o e).1
theorem Inv.mod (I:Inv X pins σ H s):Mod X.K X.mg X.base:=I.ok.mod
theorem Inv.kIn (I:Inv X pins σ H s):X.K.In s.heap:=I.ok.mod.kin.keeps I.bk
theorem Inv.lt (I:Inv X pins σ H s):X.env.locals < s.heap.objs.size:=let ⟨_,hn,_⟩:=I.loc;hn.lt
theorem Inv.sz (I:Inv X pins σ H s):X.s₀.heap.objs.size≤s.heap.objs.size:=Ae I.ok.above (Nat.le_of_lt I.lt)
theorem Inv.nofs (I:Inv X pins σ H s) {a:Addr} (h:s.heap.objs.size≤a):a ∉ X.fs:=fun hb=>by obtain ⟨_,o,ho,_⟩:=I.ok.funs.mem hb;exact absurd (Am (AT ho) (Ae I.sz h)) (BJ _)
theorem Inv.cne (I:Inv X pins σ H s):∀ x c,X.env.cells.lookup x=some c->c≠X.env.locals:=fun x c e z=>by obtain ⟨v,o,ho,hd⟩:=I.cell x c e;obtain ⟨m,⟨o',es,ep,ho',hd',_⟩,_⟩:=I.loc;rw [z,ho'] at ho;cases ho;rw [hd'] at hd;cases hd
theorem Inv.funs (I:Inv X pins σ H s):s.heap.FunFrames X.base X.outer:=by
 have all:∀ (l:List Env),(∀ b∈frs l,b∈X.fs)->X.s₀.heap.FunFrames X.base l->s.heap.FunFrames X.base l:=by
  intro l;induction l with
  |nil=>intro _ _;trivial
  |cons env r ih =>
   intro hs hl;obtain ⟨hk,⟨L,o,hf,hn,ho,hd⟩,hr⟩:=hl;have hL:L∈X.fs:=hs L (by unfold frs;rw [Bi,hf];exact AI)
   obtain ⟨sl,e⟩:=I.base.slot L o ho (I.ok.frf L hL) hL fun z=>I.ok.exfs L z hL;exact ⟨hk,⟨L,_,hf,hn,e,hd⟩,ih (fun b hb=>hs b (by unfold frs;rw [Bi,hf];exact AD _ hb)) hr⟩
 exact all X.outer (fun _ hb=>hb) I.ok.funs
theorem Inv.stack (I:Inv X pins σ H s):s.heap.FunFrames X.base X.stack:=by
 rcases I.ok.stk with e |⟨e,hf⟩
 ·rw [e];exact I.funs
 ·rw [e];obtain ⟨m,hn,_⟩:=I.loc;refine .cons (by rw [I.ok.kind];decide) hf hn ?_ I.funs
  exact Heap.get?_none_of_le (Ae I.ok.bsz I.ok.above)
theorem Inv.stkSub (I:Inv X pins σ H s):∀ b∈frs X.stack,b∈X.env.locals::X.fs:=fun b hb=>by
 rcases I.ok.stk with e |⟨e,hf⟩
 ·rw [e] at hb;exact AD _ hb
 ·rw [e] at hb;unfold frs at hb;rw [Bi,hf] at hb;exact hb
theorem Inv.stkFree (I:Inv X pins σ H s):∀ b∈frs X.stack,H b=none:=fun b hb=>by
 rcases AE.mp (I.stkSub b hb) with e |hb
 ·rw [e];exact I.free
 ·obtain ⟨_,o,ho,_⟩:=I.ok.funs.mem hb;exact I.base.free b o ho (I.ok.frf b hb) fun z=>I.ok.exfs b z hb
theorem Inv.step {g':Array GenState} {t':Nat} {d':Drawn} {ch:List Addr} (I:Inv X pins σ H s)
  (hch:∀ b∈ch,(b∈X.ex∨X.s₀.heap.objs.size≤b)∧b≠X.env.locals∧(∀ x c,X.env.cells.lookup x=some c->c≠b) ∧ ∀ p∈X.pn++pins,p.1≠b)
  (keep:∀ b o,b≠X.env.locals->b ∉ X.fs->b ∉ ch->s.heap.get? b=some o->H b=none->h'.get? b=some o)
  (slot:∀ b o,b≠X.env.locals->b∈X.fs->b ∉ ch->s.heap.get? b=some o->H b=none -> ∃ sl,h'.get? b=some { o with slots:=sl }) (free:∀ b o,b ∉ ch->s.heap.get? b=some o->H b=none->H' b=none)
  (there:∀ b o,b ∉ ch->s.heap.get? b=some o -> ∃ o',h'.get? b=some o')
  (tups:∀ b xs,H b=some (.tup xs)->H' b=some (.tup xs)) (frzs:∀ b o u,H b=some (.frz o u)->H' b=some (.frz o u)) (tbls:∀ b ps,H b=some (.tbl ps) -> ∃ more,H' b=some (.tbl (ps++more)))
  (ns:∀ m,s.heap.Ns X.env.locals m->h'.Ns X.env.locals m) (hok:HOk X.prog X.w H' h') (hg:AllBare g') :
  Inv X pins σ H' { s with heap:=h',gens:=g',drawn:=d',toks:=t' }:=by
 have neL:∀ b o,X.s₀.heap.get? b=some o->b≠X.env.locals:=fun b o e=>Ab (Am (AT e) I.ok.above);have neC:∀ b o,X.s₀.heap.get? b=some o->b ∉ X.ex->b ∉ ch:=fun b o e hx hb=>by
  rcases (hch b hb).1 with z |z
  ·exact hx z
  ·exact absurd (Am (AT e) z) (BJ _)
 have cellK:∀ x c,X.env.cells.lookup x=some c -> ∀ v,s.heap.IsCell c v->h'.IsCell c v:=fun x c e v ⟨o,ho,hd⟩=>by
  have nch:c ∉ ch:=fun z=>(hch c z).2.2.1 x c e rfl;by_cases hc:c∈X.fs
  ·obtain ⟨sl,q⟩:=slot c o (I.cne x c e) hc nch ho (I.freeC x c e);exact ⟨_,q,hd⟩
  ·exact ⟨o,keep c o (I.cne x c e) hc nch ho (I.freeC x c e),hd⟩
 refine ⟨I.ok,I.os,hg,⟨fun b o e n hb hx => ?_,fun b o e n hb hx => ?_,fun b o e n hx => ?_,fun b o e hx => ?_,fun b xs e=>tups b xs (I.base.tups b xs e),fun b o xs e=>frzs b o xs (I.base.frzs b o xs e),fun b ps e => ?_⟩,?_,fun x c e => ?_,?_,fun x c e => ?_,fun p hp => ?_,hok,I.len,fun v hv=>(let ⟨ea,oe,u,vs,e1,e2,e3⟩:=I.hnd v hv;⟨ea,oe,u,vs,e1,frzs _ _ _ e2,e3⟩)⟩
 ·exact keep b o (neL b o e) hb (neC b o e hx) (I.base.keep b o e n hb hx) (I.base.free b o e n hx)
 ·obtain ⟨sl,e1⟩:=I.base.slot b o e n hb hx;obtain ⟨sl',e2⟩:=slot b _ (neL b o e) hb (neC b o e hx) e1 (I.base.free b o e n hx);exact ⟨sl',e2⟩
 ·obtain ⟨o',e1⟩:=I.base.there b o e hx;exact free b o' (neC b o e hx) e1 (I.base.free b o e n hx)
 ·obtain ⟨o',e1⟩:=I.base.there b o e hx;exact there b o' (neC b o e hx) e1
 ·obtain ⟨m1,e1⟩:=I.base.tbls b ps e;obtain ⟨m2,e2⟩:=tbls b _ e1;exact ⟨m1++m2,by rw [e2,Array.append_assoc]⟩
 ·obtain ⟨m,hn,hl⟩:=I.loc;refine ⟨m,ns m hn,fun i x v e1 e2 e3 => ?_⟩;obtain ⟨u,r,l⟩:=hl i x v e1 e2 e3;refine ⟨u,r,?_⟩;rcases l with l |⟨k,c,e,z⟩
  ·exact .inl l
  ·exact .inr ⟨k,c,e,cellK x c e _ z⟩
 ·obtain ⟨v,z⟩:=I.cell x c e;exact ⟨v,cellK x c e v z⟩
 ·obtain ⟨m,⟨o,_,_,ho,_⟩,_⟩:=I.loc;exact free _ o (fun z=>(hch _ z).2.1 rfl) ho I.free
 ·obtain ⟨v,o,ho,hd⟩:=I.cell x c e;exact free c o (fun z=>(hch c z).2.2.1 x c e rfl) ho (I.freeC x c e)
 ·obtain ⟨e,n,ne,nf,d⟩:=I.pin p hp;have nch:p.1 ∉ ch:=fun z=>(hch p.1 z).2.2.2 p hp rfl;exact ⟨keep p.1 p.2 ne nf nch e n,free p.1 p.2 nch e n,ne,nf,d⟩
theorem Inv.un {t':Nat} (I:Inv X pins σ H s) (u:Un X.fs [] H H' s.heap h') (hok:HOk X.prog X.w H' h'):Inv X pins σ H' { s with heap:=h',toks:=t' }:=by
 obtain ⟨m,⟨o,es,ep,ho,r⟩,_⟩:=id I.loc;obtain ⟨sl,hL⟩:=u.any ho I.free (by simp)
 exact I.step (g':=s.gens) (d':=s.drawn) (ch:=[]) (fun _ z=>nomatch z) (fun b o _ hb _ e n=>u.keep b o e n hb (by simp)) (fun b o _ hb _ e n=>u.slot b o e n hb (by simp)) (fun b o _ e n=>u.free b o e n (by simp)) (fun b o _ e=>u.there b o e (by simp)) u.tups u.frzs u.tbls (fun m' hm=>by
  obtain ⟨o',es',ep',ho',r'⟩:=hm;rw [ho] at ho';cases ho';exact ⟨_,es',ep',hL,r'⟩) hok I.bare
theorem Inv.call {g':Array GenState} {t':Nat} {d':Drawn} {ch:List Addr} (I:Inv X pins σ H s) (u:Un (frs X.stack) ch H H' s.heap h') (hok:HOk X.prog X.w H' h') (hg:AllBare g')
  (hch:∀ b∈ch,(b∈X.ex∨X.s₀.heap.objs.size≤b)∧b≠X.env.locals∧(∀ x c,X.env.cells.lookup x=some c->c≠b) ∧ ∀ p∈X.pn++pins,p.1≠b) :
  Inv X pins σ H' { s with heap:=h',gens:=g',drawn:=d',toks:=t' }:=by
 obtain ⟨m,⟨o,es,ep,ho,r⟩,_⟩:=id I.loc;obtain ⟨sl,hL⟩:=u.any ho I.free fun z=>(hch _ z).2.1 rfl;exact I.step (ch:=ch) hch (fun b o hL hb hc e n=>u.keep b o e n (fun z=>(AE.mp (I.stkSub b z)).elim hL hb) hc) (fun b o _ _ hc e n=>u.any e n hc) (fun b o hc e n=>u.free b o e n hc) (fun b o hc e=>u.there b o e hc) u.tups u.frzs u.tbls (fun m' hm=>by
  obtain ⟨o',es',ep',ho',r'⟩:=hm;rw [ho] at ho';cases ho';exact ⟨_,es',ep',hL,r'⟩) hok hg
theorem Inv.turned {t':Nat} {it:Addr} (I:Inv X pins σ H s) (k:∀ b o,b≠it->s.heap.get? b=some o->h'.get? b=some o) (hn:H it=none) (hL:it≠X.env.locals)
  (h1:it∈X.ex∨X.s₀.heap.objs.size≤it) (h2:∀ x c,X.env.cells.lookup x=some c->c≠it) (h3:∀ p∈X.pn++pins,p.1≠it):Inv X pins σ H { s with heap:=h',toks:=t' }:=by
 have nit:∀ b u,H b=some u->b≠it:=fun b u e z=>by rw [z,hn] at e;cases e
 refine I.step (g':=s.gens) (d':=s.drawn) (ch:=[it]) (fun b hb => ?_) (fun b o _ _ hc e _=>k b o (fun z=>hc (by simp [z])) e) (fun b o _ _ hc e _=>⟨o.slots,k b o (fun z=>hc (by simp [z])) e⟩) (fun _ _ _ _ n=>n)
  (fun b o hc e=>⟨o,k b o (fun z=>hc (by simp [z])) e⟩) (fun _ _ e=>e) (fun _ _ _ e=>e) (fun b ps e=>⟨#[],by rw [e];simp⟩) (fun m hm => ?_) (fun b u e => ?_) I.bare
 ·have e:b=it:=by simpa using hb
  subst e;exact ⟨h1,hL,h2,h3⟩
 ·obtain ⟨o,es,ep,ho,r⟩:=hm;exact ⟨o,es,ep,k _ o (Ne.symm hL) ho,r⟩
 ·refine (I.hok b u e).stay (fun c v hc q=>k c v ?_ q) (fun _ q=>q) fun _ _ q=>q;rcases hc with z |z
  ·rw [z];exact nit b u e
  ·exact nit c _ z
theorem Inv.tok (I:Inv X pins σ H s) (t:Nat):Inv X pins σ H { s with toks:=t }:=I.un (h':=s.heap) (t':=t) Un.refl I.hok
theorem Inv.kept {t':Nat} (I:Inv X pins σ H s) (k:∀ b u,s.heap.get? b=some u->h'.get? b=some u):Inv X pins σ H { s with heap:=h',toks:=t' }:=I.un (Un.kept k) (I.hok.kept k)
theorem Inv.laid {a:Addr} {o:HO} {t':Nat} (I:Inv X pins σ H s) (k:∀ b u,s.heap.get? b=some u->h'.get? b=some u) (hp:s.heap.objs.size≤a) (new:ObjOk X.prog X.w (upd H a o) h' a o) :
  Inv X pins σ (upd H a o) { s with heap:=h',toks:=t' }:=I.un (Un.laid k hp (I.hok.fresh hp)) (I.hok.laid k hp new)
theorem Inv.write {x e:Addr} {o:HO} {t':Nat} (I:Inv X pins σ H s) (mu:Mut (H x)) (he:e=x∨H e=some (.own x)) (k:∀ b u,b≠e->s.heap.get? b=some u->h'.get? b=some u) (heo:∃ u,h'.get? e=some u)
  (new:ObjOk X.prog X.w (upd H x o) h' x o):Inv X pins σ (upd H x o) { s with heap:=h',toks:=t' }:=I.un (Un.write mu he k heo) (I.hok.write mu he k heo new)
theorem Inv.pins_of {pins':List (Addr×Obj)} (I:Inv X pins σ H s) (h:∀ p∈pins',s.heap.get? p.1=some p.2∧H p.1=none∧p.1≠X.env.locals∧p.1 ∉ X.fs ∧ ∀ v,p.2.data ≠ .cell v):Inv X pins' σ H s :=
 ⟨I.ok,I.os,I.bare,I.base,I.loc,I.cell,I.free,I.freeC,fun p hp=>(An.mp hp).elim (fun z=>I.pin p (List.mem_append_left _ z)) (h p),I.hok,I.len,I.hnd⟩
theorem Yb {N:List Str} (hN:N.Nodup) {i j:Nat} {x:Str} (a:N[i]? = some x) (b:N[j]? = some x):i=j:=by obtain ⟨h1,e1⟩:=AR.mp a;obtain ⟨h2,e2⟩:=AR.mp b;exact (List.getElem_inj hN).mp (e1.trans e2.symm)
theorem qC1 {M:Model} {A:Around} {E:Value->Shared->Prop} {i:Nat} {x:Str} {v:V} {u:Value} {Q:Unit->Shared->Prop} (I:Inv X pins σ H s) (hN:X.N.Nodup) (hi:X.N[i]? = some x) (hx:Loc X.env.scope x) (r:RelV v u)
  (h:∀ s',Inv X pins (σ.set i (some v)) H s'->(∃ a,Heap.SameBut a s.heap s'.heap∧(a=X.env.locals∨X.env.cells.lookup x=some a))->Q () s') (hf:X.fn x=true∨X.env.scope.names.lookup x=some .local:=by first |exact .inl rfl |exact .inr rfl |assumption):wpAny M A (storeName X.env x u) Q E s:=by
 obtain ⟨m,hn,hl⟩:=id I.loc;have hcls:(X.env.scope.kind == .class || (X.env.scope.kind == .module&&X.env.locals != X.env.globals))=false:=by rw [I.ok.kind];rfl
 have hiσ:i < σ.length:=by rw [I.len];exact (AR.mp hi).1
 have cne:=I.cne;have tracked:∀ {a:Addr} {h':Heap},(∃ o,s.heap.get? a=some o∧H a=none)->Heap.SameBut a s.heap h'->HOk X.prog X.w H h':=fun {a h'} ha hs b ob e=>by
  obtain ⟨_,_,hfree⟩:=ha;refine (I.hok b ob e).stay (fun c w' hc q=>(hs.2 c ?_).trans q) (fun _ q=>q) fun _ _ q=>q
  rintro rfl
  rcases hc with rfl |hc
  ·rw [hfree] at e;cases e
  ·rw [hfree] at hc;cases hc
 rcases hx with hk |hk
 ·refine wpAny_storeName_local hk hn (fun h' hn' hs => ?_) hcls;obtain ⟨oL,_,_,hoL,_⟩:=id hn;refine h _ ⟨I.ok,I.os,I.bare,⟨fun b o e n hb hx => ?_,fun b o e n hb hx => ?_,I.base.free,fun b o e hx => ?_,I.base.tups,I.base.frzs,I.base.tbls⟩,⟨_,hn',fun j y v' e1 e2 e3 => ?_⟩,fun y c e => ?_,I.free,I.freeC,fun p hp => ?_,tracked ⟨oL,hoL,I.free⟩ hs,by simpa using I.len,I.hnd⟩ ⟨_,hs,.inl rfl⟩
  ·exact (hs.2 b (Ab (Am (AT e) I.ok.above))).trans (I.base.keep b o e n hb hx)
  ·obtain ⟨sl,e1⟩:=I.base.slot b o e n hb hx;exact ⟨sl,(hs.2 b (Ab (Am (AT e) I.ok.above))).trans e1⟩
  ·obtain ⟨o',e1⟩:=I.base.there b o e hx;exact ⟨o',(hs.2 b (Ab (Am (AT e) I.ok.above))).trans e1⟩
  ·by_cases hj:j=i
   ·subst hj;rw [hi] at e1;cases e1;rw [A5 hiσ] at e2;cases e2;exact ⟨u,r,.inl ⟨hk,by simp⟩⟩
   ·rw [BA (Ne.symm hj)] at e2;obtain ⟨u',r',q⟩:=hl j y v' e1 e2 e3;refine ⟨u',r',?_⟩;rcases q with ⟨k,e⟩ |⟨k,c,e,z⟩
    ·refine .inl ⟨k,?_⟩
     have:y≠x:=fun e=>hj (Yb hN e1 (e ▸ hi))
     simp [this,e]
    ·exact .inr ⟨k,c,e,z.sameBut hs (cne y c e)⟩
  ·obtain ⟨w',z⟩:=I.cell y c e;exact ⟨w',z.sameBut hs (cne y c e)⟩
  ·obtain ⟨e,n,ne,nf,d⟩:=I.pin p hp;exact ⟨(hs.2 p.1 ne).trans e,n,ne,nf,d⟩
 ·have hfn:X.fn x=true:=by
   rcases hf with z |z
   ·exact z
   ·rw [z] at hk;cases hk
  obtain ⟨c,hc⟩:=I.ok.has x (.inl hk);obtain ⟨w',z⟩:=I.cell x c hc;refine wpAny_storeName_cell I.ok.kind hk hc z (fun h' hc' hs => ?_);obtain ⟨oc,hoc,hocd⟩:=id z;refine h { s with heap:=h' } ⟨I.ok,I.os,I.bare,⟨fun b o e n hb hx => ?_,fun b o e n hb hx => ?_,I.base.free,fun b o e hx => ?_,I.base.tups,I.base.frzs,I.base.tbls⟩,⟨m,hn.sameBut hs (Ne.symm (cne x c hc)),fun j y v' e1 e2 e3 => ?_⟩,fun y c' e => ?_,I.free,I.freeC,fun p hp => ?_,tracked ⟨oc,hoc,I.freeC x c hc⟩ hs,by simpa using I.len,I.hnd⟩ ⟨c,hs,.inr hc⟩
  ·exact (hs.2 b (Ab (Am (AT e) (I.ok.cab x c hfn hc)))).trans (I.base.keep b o e n hb hx)
  ·obtain ⟨sl,e1⟩:=I.base.slot b o e n hb hx;exact ⟨sl,(hs.2 b (Ab (Am (AT e) (I.ok.cab x c hfn hc)))).trans e1⟩
  ·obtain ⟨o',e1⟩:=I.base.there b o e hx;exact ⟨o',(hs.2 b (Ab (Am (AT e) (I.ok.cab x c hfn hc)))).trans e1⟩
  ·by_cases hj:j=i
   ·subst hj;rw [hi] at e1;cases e1;rw [A5 hiσ] at e2;cases e2;exact ⟨u,r,.inr ⟨.inl hk,c,hc,hc'⟩⟩
   ·rw [BA (Ne.symm hj)] at e2;obtain ⟨u',r',q⟩:=hl j y v' e1 e2 e3;refine ⟨u',r',?_⟩;rcases q with q |⟨k,c',e,z'⟩
    ·exact .inl q
    ·refine .inr ⟨k,c',e,z'.sameBut hs ?_⟩
     rintro rfl
     exact hj (Yb hN e1 (I.ok.inj _ _ _ e hc ▸ hi))
  ·by_cases hcc:c'=c
   ·subst hcc;exact ⟨_,hc'⟩
   ·obtain ⟨w2,z2⟩:=I.cell y c' e;exact ⟨w2,z2.sameBut hs hcc⟩
  ·obtain ⟨e,n,ne,nf,d⟩:=I.pin p hp;refine ⟨(hs.2 p.1 ?_).trans e,n,ne,nf,d⟩;intro q;rw [q,hoc] at e;have q':oc=p.2:=Ai e;exact d w' (by rw [← q'];exact hocd)
theorem ZL {M:Model} {A:Around} {E:Value->Shared->Prop} {i:Nat} {x:Str} {v:V} {u:Value} {Q:Unit->Shared->Prop} (I:Inv X pins σ H s) (hN:X.N.Nodup) (hi:X.N[i]? = some x) (hx:Loc X.env.scope x) (r:RelV v u)
  (h:∀ s',Inv X pins (σ.set i (some v)) H s'->Q () s') (hf:X.fn x=true∨X.env.scope.names.lookup x=some .local:=by first |exact .inl rfl |exact .inr rfl |assumption):wpAny M A (storeName X.env x u) Q E s :=
 qC1 I hN hi hx r (fun s' I' _=>h s' I') hf
theorem Inv.call' {s':Shared} {ch:List Addr} (I:Inv X pins σ H s) (ho:s'.os=s.os) (u:Un (frs X.stack) ch H H' s.heap s'.heap) (hok:HOk X.prog X.w H' s'.heap) (hg:AllBare s'.gens)
  (hch:∀ b∈ch,(b∈X.ex∨X.s₀.heap.objs.size≤b)∧b≠X.env.locals∧(∀ x c,X.env.cells.lookup x=some c->c≠b) ∧ ∀ p∈X.pn++pins,p.1≠b):Inv X pins σ H' s':=by obtain ⟨h',g',d',t',o'⟩:=s';have e:o'=s.os:=ho;subst e;exact I.call (g':=g') (t':=t') (d':=d') u hok hg hch
end
abbrev XK:=Value->Option Addr->Hp->Prop
abbrev St:=List (Option V)
abbrev VK:=V->Hp->Prop
abbrev TE:=St->Hp->VK->Prop
abbrev TT:=St->Hp->(Bool->Hp->Prop)->Prop
abbrev TA:=St->Hp->(List V->Hp->Prop)->Prop
structure Ends where
 nx:St->Hp->Prop
 rt:VK
 bk:St->Hp->Prop:=fun _ _=>False
 ct:St->Hp->Prop:=fun _ _=>False
abbrev TS:=Ends->St->Hp->Prop
def EP (X:Cx) (pins:List (Addr×Obj)) (σ:St) (Q:VK) (u:Value) (s':Shared):Prop := ∃ v H',Inv X pins σ H' s'∧RelV v u∧Q v H'
def TP (X:Cx) (pins:List (Addr×Obj)) (σ:St) (Q:Bool->Hp->Prop) (b:Bool) (s':Shared):Prop := ∃ H',Inv X pins σ H' s'∧Q b H'
def AP (X:Cx) (pins:List (Addr×Obj)) (σ:St) (Q:List V->Hp->Prop) (us:List Value) (s':Shared):Prop := ∃ vs H',Inv X pins σ H' s'∧Vals vs us∧Q vs H'
def SP (X:Cx) (pins:List (Addr×Obj)) (D:Ends) (f:Flow) (s':Shared):Prop :=
 match f with
 | .next => ∃ σ' H',Inv X pins σ' H' s'∧D.nx σ' H'
 | .brk => ∃ σ' H',Inv X pins σ' H' s'∧D.bk σ' H'
 | .cont => ∃ σ' H',Inv X pins σ' H' s'∧D.ct σ' H'
 | .ret u => ∃ v σ' H',Inv X pins σ' H' s'∧RelV v u∧D.rt v H'
def PE (X:Cx) (e:Expr) (t:TE):Prop :=
 ∀ (pins:List (Addr×Obj)) (s:Shared) (σ:St) (H:Hp) (Q:VK),Inv X pins σ H s->t σ H Q->wpAny (model X.prog X.w) X.A (eval e X.env) (EP X pins σ Q) X.xe s
def PT (X:Cx) (e:Expr) (t:TT):Prop :=
 ∀ (pins:List (Addr×Obj)) (s:Shared) (σ:St) (H:Hp) (Q:Bool->Hp->Prop),Inv X pins σ H s->t σ H Q->wpAny (model X.prog X.w) X.A (isTrue e X.env (eval e X.env)) (TP X pins σ Q) X.xe s
def PW (X:Cx) (e:Expr) (t:TT):Prop :=
 ∀ (whole:Sem Value) (pins:List (Addr×Obj)) (s:Shared) (σ:St) (H:Hp) (Q:Bool->Hp->Prop),Inv X pins σ H s->t σ H Q->wpAny (model X.prog X.w) X.A (isTrue e X.env whole) (TP X pins σ Q) X.xe s
theorem PW.pt {X:Cx} {e:Expr} {t:TT} (h:PW X e t):PT X e t:=h _
def PA (X:Cx) (es:List Expr) (t:TA):Prop :=
 ∀ (pos:Pos) (pins:List (Addr×Obj)) (s:Shared) (σ:St) (H:Hp) (Q:List V->Hp->Prop),Inv X pins σ H s->t σ H Q->wpAny (model X.prog X.w) X.A (spliced (backTo pos (starEach es X.env))) (AP X pins σ Q) X.xe s
def PS (X:Cx) (st:Stmt) (t:TS):Prop :=
 ∀ (pins:List (Addr×Obj)) (s:Shared) (σ:St) (H:Hp) (D:Ends),Inv X pins σ H s->t D σ H->wpAny (model X.prog X.w) X.A (exec st X.env) (SP X pins D) X.xe s
def PSs (X:Cx) (st:List Stmt) (t:TS):Prop :=
 ∀ (pins:List (Addr×Obj)) (s:Shared) (σ:St) (H:Hp) (D:Ends),Inv X pins σ H s->t D σ H->wpAny (model X.prog X.w) X.A (execs st X.env) (SP X pins D) X.xe s
theorem thn {α:Type} {t:Sem α} {Q Q':α->Shared->Prop} {M:Model} {A:Around} {E:Value->Shared->Prop} {s:Shared} (h:wpAny M A t Q E s) (hQ:∀ a s,Q a s->Q' a s):wpAny M A t Q' E s:=Bc h hQ fun _ _ x=>x
end L2
namespace L2
open PySem PySem.Spec PyProof.Rows
section
variable {X:Cx}
def qJw (i:Nat):TE:=fun σ H Q => ∃ v,σ[i]? = some (some v)∧Q v H
def tC (v:V):TE:=fun _ H Q=>Q v H
theorem qIV {i:Nat} {x:Str} {pos:Pos} (hN:X.N[i]? = some x) (hv:Vis X.env.scope x) (hd:(x==("__debug__":Str))=false:=by decide) (hcd:(x==("__classdict__":Str))=false:=by decide):PE X (.Name x pos) (qJw i):=by
 intro pins s σ H Q I h;obtain ⟨v,e,h⟩:=h;obtain ⟨m,hn,hl⟩:=I.loc;obtain ⟨u,r,l⟩:=hl i x v hN e hv;have fin:EP X pins σ Q u s:=⟨v,H,I,r,h⟩;rcases l with ⟨hk,hm⟩ |⟨hk,c,hc,hcell⟩
 ·exact wpAny_Name (wpAny_loadName_local I.ok.kind hk hn hm fin) hd
 ·rcases hk with hk |hk
  ·exact wpAny_Name (wpAny_loadName_cell I.ok.kind hk hc hcell fin) hd
  ·exact wpAny_Name (wpAny_loadName_free I.ok.kind hk hc hcell fin hcd) hd
theorem qJv {i j pos}:PE X (.Constant (.int i) j pos) (tC (.int i)):=fun _ _ _ H _ I h=>wpAny_Constant_int ⟨.int i,H,I.tok _,⟨_,rfl⟩,h⟩
theorem qKy {b j pos}:PE X (.Constant (.bool b) j pos) (tC (.bl b)):=fun _ _ _ H _ I h=>Constant_bool ⟨.bl b,H,I,rfl,h⟩
theorem qJA {j pos}:PE X (.Constant .none j pos) (tC .non):=fun _ _ _ H _ I h=>Constant_none ⟨.non,H,I,rfl,h⟩
theorem qIQ {x j pos}:PE X (.Constant (.str x) j pos) (tC (.str x)):=fun _ _ _ H _ I h=>Calls.Constant_str ⟨.str x,H,I.tok _,⟨_,rfl⟩,h⟩
def Gl (X:Cx) (x:Str):Prop:=X.env.kindOf x=some .globalImplicit
theorem JO {E:Value->Shared->Prop} {pins:List (Addr×Obj)} {s:Shared} {σ:St} {H:Hp} {x:Str} {u:Value} {pos:Pos} {Q:Value->Shared->Prop} (I:Inv X pins σ H s) (hg:Gl X x) (hm:X.mg x=some u) (h:Q u s)
  (hd:(x==("__debug__":Str))=false:=by decide):wpAny (model X.prog X.w) X.A (eval (.Name x pos) X.env) Q E s :=
 Calls.Name_function_global I.ok.kind hg (Calls.loadGlobal_global (by rw [I.ok.glob];exact I.mod.glob.keeps I.bk) hm h) hd
theorem zx {E:Value->Shared->Prop} {pins:List (Addr×Obj)} {s:Shared} {σ:St} {H:Hp} {x:Str} {u:Value} {pos:Pos} {Q:Value->Shared->Prop} (I:Inv X pins σ H s) (hg:Gl X x) (hm:X.mg x=none) (hv:bootBuiltins x=some u) (h:Q u s)
  (hn:x ≠ "__name__" := by decide) (hd:(x==("__debug__":Str))=false:=by decide):wpAny (model X.prog X.w) X.A (eval (.Name x pos) X.env) Q E s:=by obtain ⟨mb,h1,h2⟩:=I.mod.blt;exact Calls.Name_function_global I.ok.kind hg (Calls.loadGlobal_builtin (by rw [I.ok.glob];exact I.mod.glob.keeps I.bk) hm (by rw [I.ok.blt];exact h1.keeps I.bk) ((h2 x hn).trans hv) h) hd
theorem qCf {x:Str} {v:V} {u:Value} {pos:Pos} (hg:Gl X x) (hm:X.mg x=some u) (r:RelV v u) (hd:(x==("__debug__":Str))=false:=by decide):PE X (.Name x pos) (tC v) :=
 fun _ _ _ H _ I h=>JO I hg hm ⟨v,H,I,r,h⟩ hd
theorem qHb {x:Str} {v:V} {u:Value} {pos:Pos} (hg:Gl X x) (hm:X.mg x=none) (hv:bootBuiltins x=some u) (r:RelV v u) (hn:x ≠ "__name__" := by decide) (hd:(x==("__debug__":Str))=false:=by decide):PE X (.Name x pos) (tC v) :=
 fun _ _ _ H _ I h=>zx I hg hm hv ⟨v,H,I,r,h⟩ hn hd
variable {a b:Expr} {ta tb:TE} {pos:Pos}
variable {tA tB':TT} {rest:List Expr}
def qLd (t u:TT):TT:=fun σ H Q=>t σ H fun c H1=>if c=true then u σ H1 Q else Q false H1
def tOr (t u:TT):TT:=fun σ H Q=>t σ H fun c H1=>if c=true then Q true H1 else u σ H1 Q
def qLj (t:TT):TT:=fun σ H Q=>t σ H fun c H1=>Q (!c) H1
theorem qGp (ha:PT X a tA):PW X (.BoolOp .And [a] pos) tA:=by
 intro wh pins s σ H Q I h;refine isTrue_and (thn (ha pins s σ H Q I h) fun c s1 e => ?_);cases c with
 |true=>exact isTrue_and_nil e
 |false=>exact e
theorem qJG (ha:PT X a tA):PW X (.BoolOp .Or [a] pos) tA:=by
 intro wh pins s σ H Q I h;refine isTrue_or (thn (ha pins s σ H Q I h) fun c s1 e => ?_);cases c with
 |false=>exact isTrue_or_nil e
 |true=>exact e
theorem qIu (ha:PT X a tA) (hb:PW X (.BoolOp .And (b::rest) pos) tB'):PW X (.BoolOp .And (a::b::rest) pos) (qLd tA tB'):=by
 intro wh pins s σ H Q I h;refine isTrue_and (thn (ha pins s σ H _ I h) fun c s1 ⟨H1,I1,q1⟩ => ?_);cases c with
 |true=>exact hb wh pins s1 σ H1 Q I1 q1
 |false=>exact ⟨H1,I1,q1⟩
theorem qKV (ha:PT X a tA) (hb:PW X (.BoolOp .Or (b::rest) pos) tB'):PW X (.BoolOp .Or (a::b::rest) pos) (tOr tA tB'):=by
 intro wh pins s σ H Q I h;refine isTrue_or (thn (ha pins s σ H _ I h) fun c s1 ⟨H1,I1,q1⟩ => ?_);cases c with
 |true=>exact ⟨H1,I1,q1⟩
 |false=>exact hb wh pins s1 σ H1 Q I1 q1
theorem qIw (ha:PT X a tA):PT X (.UnaryOp .Not a pos) (qLj tA):=by intro pins s σ H Q I h;exact isTrue_not (ha pins s σ H (fun c H1=>Q (!c) H1) I h)
def qLA (ta tb:TE):TE:=fun σ H Q=>ta σ H fun x H1 => ∃ c,x = .bl c∧if c=true then tb σ H1 Q else Q (.bl false) H1
def qKg (ta:TE):TE:=fun σ H Q=>ta σ H fun x H1 => ∃ c,x = .bl c∧Q (.bl (!c)) H1
theorem qJU {op} {t:TE} (h:PE X a t):PE X (.BoolOp op [a] pos) t:=fun pins s σ H Q I hw=>BoolOp_one (h pins s σ H Q I hw)
theorem qIy (ha:PE X a ta) (hb:PE X (.BoolOp .And (b::rest) pos) tb):PE X (.BoolOp .And (a::b::rest) pos) (qLA ta tb):=by
 intro pins s σ H Q I h;refine BoolOp_and (thn (ha pins s σ H _ I h) fun v s1 ⟨x,H1,I1,r1,q1⟩ => ?_);obtain ⟨c,rfl,q1⟩:=q1;cases r1;refine Bs ?_;cases c with
 |true=>exact hb pins s1 σ H1 Q I1 q1
 |false=>exact ⟨.bl false,H1,I1,rfl,q1⟩
theorem qIg (ha:PE X a ta):PE X (.UnaryOp .Not a pos) (qKg ta):=by intro pins s σ H Q I h;refine UnaryOp_ (thn (ha pins s σ H _ I h) fun v s1 ⟨x,H1,I1,r1,q1⟩ => ?_);obtain ⟨c,rfl,q1⟩:=q1;cases r1;exact not_of (Bs ⟨.bl (!c),H1,I1,rfl,q1⟩)
def tIf (t:TT) (ta tb:TE):TE:=fun σ H Q=>t σ H fun c H1=>if c=true then ta σ H1 Q else tb σ H1 Q
theorem qEV {c:Expr} (hc:PT X c tA) (ha:PE X a ta) (hb:PE X b tb):PE X (.IfExp c a b pos) (tIf tA ta tb):=by
 intro pins s σ H Q I h;refine wpAny_IfExp (thn (hc pins s σ H _ I h) fun d s1 ⟨H1,I1,q1⟩ => ?_);cases d with
 |true=>exact ha pins s1 σ H1 Q I1 q1
 |false=>exact hb pins s1 σ H1 Q I1 q1
end
end L2
namespace L2
open PySem PySem.Spec PyProof.Rows
def SqL (K:W.Frag) (H:Hp) (a:Addr) (xs:List V):Prop :=
 Rd H a (.lst xs) ∨
  ∃ (o:Obj) (its:Array Value) (n:Nat),K.lookup a=some o∧o.cls = .type "list" ∧ o.dict=none∧o.data = .seq its n∧its.size≤sizeLine∧Vals xs its.toList
def SqT (K:W.Frag) (H:Hp) (a:Addr) (xs:List V):Prop :=
 Rd H a (.tup xs) ∨
  ∃ (o:Obj) (its:Array Value) (n:Nat),K.lookup a=some o∧o.cls = .type "tuple" ∧ o.data = .seq its n∧its.size≤sizeLine∧Vals xs its.toList
def qLz:Value->Option V
 | .none=>some .non
 | .bool b=>some (.bl b)
 | .int i _=>some (.int i)
 | .str x _=>some (.str x)
 | .bytes b _=>some (.byt b)
 | .float b _=>some (.flt b)
 | .ref a=>some (.ref a)
 | .type n=>some (.ty n)
 |_=>none
theorem RelV.abs {x:V} {u:Value} (r:RelV x u):qLz u=some x:=by
 cases x with
 |non=>cases r;rfl
 |bl _=>cases r;rfl
 |int _=>obtain ⟨t,rfl⟩:=r;rfl
 |str _=>obtain ⟨t,rfl⟩:=r;rfl
 |byt _=>obtain ⟨t,rfl⟩:=r;rfl
 |flt _=>obtain ⟨t,rfl⟩:=r;rfl
 |ref _=>cases r;rfl
 |ty _=>cases r;rfl
theorem RelV.inj {x y:V} {u:Value} (r:RelV x u) (q:RelV y u):x=y:=Ai (r.abs.symm.trans q.abs)
theorem Vals.inj:∀ {xs ys:List V} {us:List Value},Vals xs us->Vals ys us->xs=ys
 |_,_,_,.nil,.nil=>rfl
 |_,_,_,.cons r t,.cons r' t'=>by rw [r.inj r',Vals.inj t t']
section
variable {X:Cx} {pins:List (Addr×Obj)} {σ:St} {H:Hp} {s:Shared} {a:Addr} {xs ys:List V}
theorem SqL.of {K:W.Frag} (h:H a=some (.lst xs)):SqL K H a xs := .inl (.inl h)
theorem Inv.list (I:Inv X pins σ H s) (h:SqL X.K H a xs):∃ its:List Value,Vals xs its∧PlainL s.heap a its.toArray∧xs.length≤sizeLine:=by
 rcases h with h |⟨o,its,n,hk,hc,hd,hs,hz,r⟩
 ·obtain ⟨z,its,n,r,e⟩:=h.ok I.hok;exact ⟨its,r,⟨_,n,e,rfl,rfl,rfl⟩,z⟩
 ·refine ⟨its.toList,r,⟨o,n,I.kIn a o hk,hc,hd,by simpa using hs⟩,?_⟩
  have e:=r.length;simp only [Aa] at e;omega
theorem Inv.tuple (I:Inv X pins σ H s) (h:SqT X.K H a xs):∃ its:List Value,Vals xs its∧IsTup s.heap a its.toArray∧xs.length≤sizeLine:=by
 rcases h with h |⟨o,its,n,hk,hc,hs,hz,r⟩
 ·obtain ⟨z,its,r,p⟩:=h.ok I.hok;exact ⟨its,r,p,z⟩
 ·refine ⟨its.toList,r,⟨o,I.kIn a o hk,hc,n,by simpa using hs⟩,?_⟩
  have e:=r.length;simp only [Aa] at e;omega
theorem Inv.list_inj (I:Inv X pins σ H s) (h:SqL X.K H a xs) (h':SqL X.K H a ys):xs=ys:=by
 obtain ⟨its,r,⟨o,n,e,_,_,d⟩,_⟩:=I.list h;obtain ⟨its',r',⟨o',n',e',_,_,d'⟩,_⟩:=I.list h';rw [e] at e';cases e';rw [d] at d';injection d' with d1 _
 have:its=its':=by simpa using CU Array.toList d1
 subst this;exact r.inj r'
theorem Inv.tuple_inj (I:Inv X pins σ H s) (h:SqT X.K H a xs) (h':SqT X.K H a ys):xs=ys:=by
 obtain ⟨its,r,⟨o,e,_,n,d⟩,_⟩:=I.tuple h;obtain ⟨its',r',⟨o',e',_,n',d'⟩,_⟩:=I.tuple h';rw [e] at e';cases e';rw [d] at d';injection d' with d1 _
 have:its=its':=by simpa using CU Array.toList d1
 subst this;exact r.inj r'
end
abbrev Cx.wish (X:Cx) (E:Value->Shared->Prop):Cx:={ X with xe:=E }
abbrev Cx.nox (X:Cx):Cx:=X.wish fun _ _=>False
theorem Cx.Ok.wish {X:Cx} (ok:X.Ok) (E:Value->Shared->Prop):(X.wish E).Ok :=
 ⟨ok.mod,ok.kind,ok.glob,ok.blt,ok.above,ok.inj,ok.has,ok.cab,ok.hd,ok.frames,ok.stk,ok.exf,ok.bs,ok.bsz,ok.noex,ok.exfs,ok.funs,ok.frf⟩
theorem Cx.Ok.unwish {X:Cx} {E:Value->Shared->Prop} (ok:(X.wish E).Ok):X.Ok :=
 ⟨ok.mod,ok.kind,ok.glob,ok.blt,ok.above,ok.inj,ok.has,ok.cab,ok.hd,ok.frames,ok.stk,ok.exf,ok.bs,ok.bsz,ok.noex,ok.exfs,ok.funs,ok.frf⟩
section
variable {X:Cx} {pins:List (Addr×Obj)} {σ:St} {H:Hp} {s:Shared} {E:Value->Shared->Prop}
theorem Inv.wish (I:Inv X pins σ H s) (E:Value->Shared->Prop):Inv (X.wish E) pins σ H s:=⟨I.ok.wish E,I.os,I.bare,I.base,I.loc,I.cell,I.free,I.freeC,I.pin,I.hok,I.len,I.hnd⟩
theorem Inv.unwish (I:Inv (X.wish E) pins σ H s):Inv X pins σ H s:=⟨I.ok.unwish,I.os,I.bare,I.base,I.loc,I.cell,I.free,I.freeC,I.pin,I.hok,I.len,I.hnd⟩
theorem SP.unwish {D:Ends} {f:Flow} {s':Shared} (h:SP (X.wish E) pins D f s'):SP X pins D f s':=by
 cases f with
 |next=>obtain ⟨σ',H',I,q⟩:=h;exact ⟨σ',H',I.unwish,q⟩
 |brk=>obtain ⟨σ',H',I,q⟩:=h;exact ⟨σ',H',I.unwish,q⟩
 |cont=>obtain ⟨σ',H',I,q⟩:=h;exact ⟨σ',H',I.unwish,q⟩
 |ret u=>obtain ⟨v,σ',H',I,r,q⟩:=h;exact ⟨v,σ',H',I.unwish,r,q⟩
end
section
variable {X:Cx} {st:Stmt} {rest:List Stmt} {t u:TS} {e:Expr} {te:TE} {pos:Pos}
def qKZ:TS:=fun D σ H=>D.nx σ H
def qLu (t u:TS):TS:=fun D σ H=>t { D with nx:=u D } σ H
theorem qGq:PSs X [] qKZ:=fun _ _ σ H _ I h=>wpAny_execs_nil ⟨σ,H,I,h⟩
theorem qFt (h1:PS X st t) (h2:PSs X rest u):PSs X (st::rest) (qLu t u):=by
 intro pins s σ H D I h;refine wpAny_execs_cons (thn (h1 pins s σ H { D with nx:=u D } I h) fun f s1 q => ?_);cases f with
 |next =>obtain ⟨σ',H',I',q⟩:=q;exact h2 pins s1 σ' H' D I' q
 |ret v=>exact q
 |brk=>exact q
 |cont=>exact q
theorem qGD (h1:PS X st t):PSs X [st] t:=by
 intro pins s σ H D I h;refine wpAny_execs_cons (thn (h1 pins s σ H D I h) fun f s1 q => ?_);cases f with
 |next=>exact wpAny_execs_nil q
 |ret v=>exact q
 |brk=>exact q
 |cont=>exact q
theorem Inv.quiet {pins:List (Addr×Obj)} {σ:St} {H:Hp} {s:Shared} (I:Inv X pins σ H s):interactive X.env=false:=by simp [interactive,I.ok.kind]
def qKN (te:TE):TS:=fun D σ H=>te σ H fun _ H1=>D.nx σ H1
theorem qCn (he:PE X e te) (hs:swapsWith e none pos.line X.env=pure false:=by rfl):PS X (.Expr e pos) (qKN te):=by intro pins s σ H D I h;exact wpAny_Expr_any (thn (he pins s σ H _ I h) fun v s1 ⟨x,H1,I1,r1,q1⟩=>⟨σ,H1,I1,q1⟩) I.quiet hs
def qLY (te:TE):TS:=fun D σ H=>te σ H D.rt
theorem qE6 (he:PE X e te):PS X (.Return (some e) pos) (qLY te):=by intro pins s σ H D I h;exact wpAny_Return_some (thn (he pins s σ H _ I h) fun v s1 ⟨x,H1,I1,r1,q1⟩=>⟨x,σ,H1,I1,r1,q1⟩)
def qL0 (c:TT) (t u:TS):TS:=fun D σ H=>c σ H fun b H1=>if b=true then t D σ H1 else u D σ H1
theorem qKL {c:Expr} {a b:List Stmt} {tc:TT} (hc:PT X c tc) (ha:PSs X a t) (hb:PSs X b u):PS X (.If c a b pos) (qL0 tc t u):=by
 intro pins s σ H D I h;refine wpAny_If (thn (hc pins s σ H _ I h) fun d s1 ⟨H1,I1,q1⟩ => ?_);cases d with
 |true=>exact ha pins s1 σ H1 D I1 q1
 |false=>exact hb pins s1 σ H1 D I1 q1
def qJh:TS:=fun _ _ _=>False
theorem qFX:PS X st qJh:=fun _ _ _ _ _ _ h=>h.elim
end
abbrev TG:=V->St->Hp->(St->Hp->Prop)->Prop
abbrev TGs:=List V->St->Hp->(St->Hp->Prop)->Prop
def PG (X:Cx) (target:Expr) (t:TG):Prop :=
 ∀ (pins:List (Addr×Obj)) (s:Shared) (σ:St) (H:Hp) (v:V) (u:Value) (Q:St->Hp->Prop),Inv X pins σ H s->RelV v u->t v σ H Q ->
  wpAny (model X.prog X.w) X.A (assign target X.env u) (fun _ s' => ∃ σ' H',Inv X pins σ' H' s'∧Q σ' H') X.xe s
def PGs (X:Cx) (ts:List Expr) (t:TGs):Prop :=
 ∀ (pins:List (Addr×Obj)) (s:Shared) (σ:St) (H:Hp) (vs:List V) (us:List Value) (Q:St->Hp->Prop),Inv X pins σ H s->Vals vs us->t vs σ H Q ->
  wpAny (model X.prog X.w) X.A (assignInOrder ((assignEach ts X.env).map (·.2)) us) (fun _ s' => ∃ σ' H',Inv X pins σ' H' s'∧Q σ' H') X.xe s
abbrev qJJ:=V->V->V->Hp->(Hp->Prop)->Prop
def qKk (X:Cx) (t:qJJ):Prop :=
 ∀ (pins:List (Addr×Obj)) (s:Shared) (σ:St) (H:Hp) (o i v:V) (ov iv u:Value) (Q:Hp->Prop),Inv X pins σ H s->RelV o ov->RelV i iv->RelV v u->t o i v H Q ->
  wpAny (model X.prog X.w) X.A (setItem ov iv u) (fun _ s' => ∃ H',Inv X pins σ H' s'∧Q H') X.xe s
section
variable {X:Cx} {pos:Pos}
def qHk (i:Nat):TG:=fun v σ H Q=>Q (σ.set i (some v)) H
theorem qGM {i:Nat} {x:Str} (hN:X.N.Nodup) (hi:X.N[i]? = some x) (hx:Loc X.env.scope x) (hf:X.fn x=true∨X.env.scope.names.lookup x=some .local:=by first |exact .inl rfl |exact .inr rfl |assumption):PG X (.Name x pos) (qHk i):=by intro pins s σ H v u Q I r h;exact wpAny_assign_Name (ZL I hN hi hx r (fun s' I'=>⟨_,H,I',h⟩) hf)
def qLq:TGs:=fun vs σ H Q=>vs=[]∧Q σ H
def qKM (t:TG) (u:TGs):TGs:=fun vs σ H Q => ∃ v r,vs=v::r∧t v σ H fun σ' H'=>u r σ' H' Q
theorem qGa:PGs X [] qLq:=by intro pins s σ H vs us Q I r h;obtain ⟨e,h⟩:=h;subst e;cases r;exact assignInOrder_nil ⟨σ,H,I,h⟩
theorem qEF {e:Expr} {es:List Expr} {t:TG} {u:TGs} (h1:PG X e t) (h2:PGs X es u)
  (hs:(assignEach (e::es) X.env).map (·.2)=assign e X.env::(assignEach es X.env).map (·.2):=by rfl):PGs X (e::es) (qKM t u):=by
 intro pins s σ H vs us Q I r h;obtain ⟨v,vr,e1,h⟩:=h;subst e1;cases r with
 |cons r rr =>rw [hs];refine assignInOrder_cons (thn (h1 pins s σ H _ _ _ I r h) fun _ s1 ⟨σ1,H1,I1,q1⟩ => ?_);exact h2 pins s1 σ1 H1 _ _ Q I1 rr q1
def qLf (K:W.Frag) (n:Nat) (t:TGs):TG:=fun v σ H Q => ∃ a xs,v = .ref a∧SqT K H a xs∧xs.length=n∧t xs σ H Q
theorem qIF {es:List Expr} {k:Nat} {t:TGs} {n:Nat} (hc:X.calm=true) (h:PGs X es t)
  (hn:(assignEach es X.env).length=n:=by rfl) (hst:(assignEach es X.env).findIdx? (·.1)=none:=by rfl):PG X (.Tuple es k pos) (qLf X.K n t):=by
 intro pins s σ H v u Q I r hw;obtain ⟨a,xs,e1,hq,hl,hw⟩:=hw;subst e1;cases r;obtain ⟨its,rv,ht,hz⟩:=I.tuple hq;refine assign_Tuple_tuple (I.ok.hd hc) ht (by simp [hn,← hl,rv.length]) hst fun h' hx => ?_
 have I1:Inv X pins σ H { s with heap:=h' }:=I.kept (t':=s.toks) fun b o e=>hx b o (Ab (AT e)) e;exact h pins _ σ H xs _ Q I1 (by simpa using rv) hw
def yS (to ti:TE) (t:qJJ):TG:=fun v σ H Q=>to σ H fun o H1=>ti σ H1 fun i H2=>t o i v H2 fun H3=>Q σ H3
theorem qIM {o i:Expr} {to ti:TE} {t:qJJ} (ho:PE X o to) (hi:PE X i ti) (hs:qKk X t)
  (ha:∀ v,assign (.Subscript o i pos) X.env v=(do
   let ov ← holding [v] (eval o X.env);let iv ← holding [v,ov] (eval i X.env)
   standAt pos
   holding [v,ov,iv] (setItem ov iv v)
   release [v,ov,iv] []):=by intro _;rfl):PG X (.Subscript o i pos) (yS to ti t):=by intro pins s σ H v u Q I r h;rw [ha];refine AA (Ap (thn (ho pins s σ H _ I h) fun ov s1 ⟨x,H1,I1,r1,q1⟩ => ?_));refine AA (Ap (thn (hi pins s1 σ H1 _ I1 q1) fun iv s2 ⟨y,H2,I2,r2,q2⟩ => ?_));refine AA (Cd (AA (Ap (thn (hs pins s2 σ H2 x y v ov iv u _ I2 r1 r2 r q2) fun _ s3 ⟨H3,I3,q3⟩ => ?_))));exact wpAny_release ⟨σ,H3,I3,q3⟩
def qK6 (te:TE) (g:TG):TS:=fun D σ H=>te σ H fun x H1=>g x σ H1 D.nx
theorem qEf {tg e:Expr} {te:TE} {g:TG} (he:PE X e te) (hg:PG X tg g) (hs:swapsWithSole [tg] e pos.line X.env=pure false:=by rfl) (hw:swappedStores [tg] e X.env=pure none:=by rfl)
  (h1:(assignEach [tg] X.env).map (·.2)=[assign tg X.env]:=by rfl):PS X (.Assign [tg] e pos) (qK6 te g):=by intro pins s σ H D I h;refine wpAny_Assign_stores (thn (he pins s σ H _ I h) fun v s1 ⟨x,H1,I1,r1,q1⟩ => ?_) hs hw;rw [h1];exact thn (hg pins s1 σ H1 x v _ I1 r1 q1) fun _ s2 q=>q
theorem qFp {i:Nat} {x:Str} {e:Expr} {te:TE} {pos':Pos} (hN:X.N.Nodup) (hi:X.N[i]? = some x) (hx:Loc X.env.scope x) (he:PE X e te) (hs:swapsWith e (some (.Name x pos')) pos.line X.env=pure false:=by rfl) (hf:X.fn x=true∨X.env.scope.names.lookup x=some .local:=by first |exact .inl rfl |exact .inr rfl |assumption) :
  PS X (.Assign [.Name x pos'] e pos) (qK6 te (qHk i)):=by intro pins s σ H D I h;refine wpAny_Assign_Name (thn (he pins s σ H _ I h) fun v s1 ⟨y,H1,I1,r1,q1⟩ => ?_) hs;exact ZL I1 hN hi hx r1 (fun s2 I2=>⟨_,H1,I2,q1⟩) hf
def qLs (i j:Nat) (ta:TA):TS:=fun D σ H=>ta σ H fun vs H1 => ∃ v w,vs=[v,w]∧D.nx ((σ.set i (some v)).set j (some w)) H1
theorem qIa {i j:Nat} {x y:Str} {a b:Expr} {ta:TA} {px py pt:Pos} {kt k2 pt2} (hc:X.calm=true) (hN:X.N.Nodup) (hi:X.N[i]? = some x) (hj:X.N[j]? = some y) (hij:i≠j)
  (hx:X.env.scope.names.lookup x=some .local) (hy:X.env.scope.names.lookup y=some .local) (ha:PA X [a,b] ta)
  (hw:swappedStores [.Tuple [.Name x px,.Name y py] kt pt] (.Tuple [a,b] k2 pt2) X.env=pure (some [x,y]))
  (hs:swapsWithSole [.Tuple [.Name x px,.Name y py] kt pt] (.Tuple [a,b] k2 pt2) pos.line X.env=pure false:=by rfl) :
  PS X (.Assign [.Tuple [.Name x px,.Name y py] kt pt] (.Tuple [a,b] k2 pt2) pos) (qLs i j ta):=by
 intro pins s σ H D I h;rw [exec_Assign_arm];refine AA (Cd ?_);rw [hs];refine AA (AF ?_);rw [AJ (by decide)]
 refine AA (Tuple_ (thn (ha _ pins s σ H _ I h) fun us s1 ⟨vs,H1,I1,r1,q1⟩ => ?_));obtain ⟨v,w,e1,q1⟩:=q1;subst e1;obtain ⟨u1,u2,rfl,rv,rw'⟩:∃ u1 u2,us=[u1,u2]∧RelV v u1∧RelV w u2:=by
  cases r1 with
  |cons p q =>
   cases q with
   |cons p' q' =>cases q';exact ⟨_,_,rfl,p,p'⟩
 refine BM ?_ (by show 2≤sizeLine;decide)
 have I2:Inv X pins σ H1 { s1 with heap:=s1.heap.push { cls := .type "tuple",data := .seq [u1,u2].toArray } }:=I1.kept (t':=s1.toks) fun b o e=>AG _ e;rw [hw];refine AA (AF ?_);show wpAny (model X.prog X.w) X.A (do rule "assign.swapped-stores";let items ← unpackItems (.ref s1.heap.objs.size) 2 none;assignInOrder [fun v=>bindName X.env y v,fun v=>bindName X.env x v] items.reverse;pure Flow.next) _ _ _;refine AA (wpAny_rule (AA (unpackItems_tuple (items := #[u1,u2]) (I.ok.hd hc) (IsTup.new s1.heap _) fun h' hx' => ?_)));have I3:=I2.kept (h':=h') (t':=s1.toks) fun b o e=>hx' b o (Ab (AT e)) e;show wpAny _ _ (assignInOrder [fun v=>bindName X.env y v,fun v=>bindName X.env x v] [u2,u1] >>= fun _=>pure Flow.next) _ _ _;refine AA (assignInOrder_cons (wpAny_bindName (ZL I3 hN hj (.inl hy) rw' (fun s2 I4 => ?_) (.inr hy))));refine assignInOrder_cons (wpAny_bindName (ZL I4 hN hi (.inl hx) rv (fun s3 I5=>assignInOrder_nil (AF ?_)) (.inr hx)));rw [List.set_comm _ _ (Ne.symm hij)] at I5;exact ⟨_,H1,I5,q1⟩
end
structure It where
 go:Nat->Hp->Prop
 yld:Nat->Hp->V->Hp->Prop
 stop:Nat->Hp->Prop
def YF (X:Cx) (pins:List (Addr×Obj)) (H:Hp) (b:Addr):Prop :=
 H b=none∧b≠X.env.locals∧b ∉ X.fs∧(b∈X.ex∨X.s₀.heap.objs.size≤b)∧(∀ x c,X.env.cells.lookup x=some c->c≠b) ∧ ∀ p∈X.pn++pins,p.1≠b
theorem Inv.fpOk {X:Cx} {pins:List (Addr×Obj)} {σ:St} {H H':Hp} {s:Shared} {b:Addr} (I:Inv X pins σ H s) (hb:s.heap.objs.size≤b) (hn:H' b=none):YF X pins H' b:=by
 refine ⟨hn,Nat.ne_of_gt (Am I.lt hb),I.nofs hb,.inr (Ae I.sz hb),fun x c e z => ?_,fun p hp z => ?_⟩
 ·obtain ⟨v,q⟩:=I.cell x c e;exact absurd (Am q.lt (by rw [z];exact hb)) (BJ _)
 ·exact absurd (Am (AT (I.pin p hp).1) (by rw [z];exact hb)) (BJ _)
theorem Inv.hndH {X:Cx} {pins:List (Addr×Obj)} {σ:St} {H:Hp} {s:Shared} (I:Inv X pins σ H s):EX.Hnd X.A s.heap:=fun v hv=>by obtain ⟨ea,oe,u,vs,e1,e2,e3⟩:=I.hnd v hv;exact ⟨ea,oe,vs,e1,(I.hok _ _ e2).1,e3⟩
theorem Inv.hndNe {X:Cx} {pins:List (Addr×Obj)} {σ:St} {H:Hp} {s:Shared} (I:Inv X pins σ H s) {it:Addr} (hn:H it=none):∀ v,X.A.handled=some v->v ≠ .ref it:=fun v hv z=>by obtain ⟨ea,oe,u,vs,e1,e2,e3⟩:=I.hnd v hv;rw [e1] at z;cases z;rw [hn] at e2;cases e2
structure Turn (P:Program) (w:World) (K:W.Frag) (A:Around) (tg:Expr) (J:It) (fp:List Addr) (it:Addr) (tn:Nat->Heap->Prop):Prop where
 mem:it∈fp
 obj:∀ i h,tn i h -> ∀ b∈fp,∃ o,h.get? b=some o ∧ ∀ v,o.data ≠ .cell v
 keep:∀ i h h',tn i h->(∀ b∈fp,∀ o,h.get? b=some o->h'.get? b=some o)->tn i h'
 item:∀ (X:Cx),X.prog=P->X.w=w->X.K=K->X.A=A -> ∀ (i:Nat) (pins:List (Addr×Obj)) (s:Shared) (σ:St) (H:Hp) (E:Value->Shared->Prop),Inv X pins σ H s->(∀ b∈fp,YF X pins H b)->tn i s.heap->J.go i H ->
  wpAny (model P w) X.A (pyNext (.ref it)) (fun r s1 => ∃ u,r=some u ∧
   wpAny (model P w) X.A (letOwnedTupleGo tg (.ref it) u) (fun _ s2 => ∃ x H',Inv X pins σ H' s2∧RelV x u∧J.yld i H x H'∧tn (i + 1) s2.heap ∧ ∀ b∈fp,H' b=none) E s1) E s
 done:∀ (X:Cx),X.prog=P->X.w=w->X.K=K->X.A=A -> ∀ (i:Nat) (pins:List (Addr×Obj)) (s:Shared) (σ:St) (H:Hp) (E:Value->Shared->Prop),Inv X pins σ H s->(∀ b∈fp,YF X pins H b)->tn i s.heap->J.stop i H ->
  wpAny (model P w) X.A (pyNext (.ref it)) (fun r s1=>r=none∧Inv X pins σ H s1) E s
 self:∀ (A:Around) (i:Nat) (s:Shared) (Q:Value->Shared->Prop) (E:Value->Shared->Prop),tn i s.heap->Q (.ref it) s->wpAny (model P w) A (pyIter (.ref it)) Q E s
abbrev TI:=St->Hp->(It->Hp->Prop)->Prop
def PIE (X:Cx) (pins:List (Addr×Obj)) (σ:St) (tg:Expr) (R:It->Hp->Prop) (itv:Value) (s2:Shared):Prop :=
 ∃ (it:Addr) (fp:List Addr) (tn:Nat->Heap->Prop) (J:It) (H':Hp),itv = .ref it∧Inv X pins σ H' s2∧Turn X.prog X.w X.K X.A tg J fp it tn∧tn 0 s2.heap∧(∀ b∈fp,YF X pins H' b)∧R J H'
def PI (X:Cx) (tg iter:Expr) (wi:TI):Prop :=
 ∀ (pins:List (Addr×Obj)) (s:Shared) (σ:St) (H:Hp) (R:It->Hp->Prop),Inv X pins σ H s->wi σ H R ->
  wpAny (model X.prog X.w) X.A (eval iter X.env) (fun v s1=>wpAny (model X.prog X.w) X.A (pyIter v) (PIE X pins σ tg R) X.xe s1) X.xe s
theorem qFP {M : Model} {A : Around} {E : Value->Shared->Prop} {s : Shared} {tg : Expr} {it : Addr} {u : Value} {o : Obj} {n : String} {vs : Array Value} {Q : Unit->Shared->Prop} (ho : s.heap.get? it=some o) (hc : o.cls = .type n) (hd : o.data = .fields vs)
    (hn : ["enumerate", "zip", "dict_itemiterator", "dict_reverseitemiterator", "odict_iterator", "itertools.zip_longest", "itertools.pairwise"].contains n=false) (hQ : Q () s) : wpAny M A (letOwnedTupleGo tg (.ref it) u) Q E s:=by
  unfold letOwnedTupleGo;cases tg <;> first
    |exact AF hQ
    |(cases u <;> first
        |exact AF hQ
        | (refine AA (wpAny_load ho ?_)
           rw [hc, hd];show wpAny M A (if (["enumerate", "zip", "dict_itemiterator", "dict_reverseitemiterator", "odict_iterator", "itertools.zip_longest", "itertools.pairwise"].contains n&&vs[0]? == some (rawInt _))=true then _ else _) Q E s;rw [AJ (by intro h; rw [hn, CF] at h; cases h)]
           exact AF hQ))
def Itl (K:W.Frag) (a:Addr):It :=
 ⟨fun i H => ∃ xs x,SqL K H a xs∧xs[i]? = some x,fun i H x H'=>H'=H ∧ ∀ xs,SqL K H a xs->xs[i]? = some x,fun i H => ∃ xs,SqL K H a xs∧xs.length≤i⟩
def Itt (K:W.Frag) (a:Addr):It :=
 ⟨fun i H => ∃ xs x,SqT K H a xs∧xs[i]? = some x,fun i H x H'=>H'=H ∧ ∀ xs,SqT K H a xs->xs[i]? = some x,fun i H => ∃ xs,SqT K H a xs∧xs.length≤i⟩
def Itr (lo:Int) (n:Nat):It:=⟨fun i _=>i < n,fun i H x H'=>H'=H∧x = .int (lo + i),fun i _=>n≤i⟩
theorem qDQ {P:Program} {w:World} {K:W.Frag} {A:Around} {tg:Expr} (a it:Addr):Turn P w K A tg (Itl K a) [it] it (fun i h=>h.IsListIter it a i) where
 mem:=by simp
 obj:=fun i h st b hb=>by
  have e:b=it:=by simpa using hb
  subst e;obtain ⟨o,e,c,d⟩:=st;exact ⟨o,e,fun v z=>by rw [d] at z;cases z⟩
 keep:=fun i h h' st k=>st.at fun o e=>k it (by simp) o e
 item:=by
  intro X hP hw hK _ i pins s σ H E I hf st hg;subst hP hw hK;obtain ⟨xs,x,hq,hx⟩:=hg;obtain ⟨its,rv,p,hz⟩:=I.list hq;obtain ⟨u,hu,ru⟩:=rv.get hx;obtain ⟨f0,f1,f2,f3,f4,f5⟩:=hf it (by simp)
  refine wpAny_pyNext_list_item st p.isList (x:=u) (by simpa using hu) fun h' st' sb => ?_
  have I1:Inv X pins σ H { s with heap:=h' }:=I.turned (t':=s.toks) (fun b o hb e=>(sb.2 b hb).trans e) f0 f1 f3 f4 f5;obtain ⟨o,e,c,d⟩:=id st';exact ⟨u,rfl,qFP (s:={ s with heap:=h' }) e c d (by decide) ⟨x,H,I1,ru,⟨rfl,fun ys hy=>by rw [I.list_inj hy hq];exact hx⟩,st',fun b hb=>(hf b hb).1⟩⟩
 done:=by
  intro X hP hw hK _ i pins s σ H E I hf st hg;subst hP hw hK;obtain ⟨xs,hq,hx⟩:=hg;obtain ⟨its,rv,p,hz⟩:=I.list hq;obtain ⟨f0,f1,f2,f3,f4,f5⟩:=hf it (by simp)
  have hl:=rv.length;exact EX.list_end I.hndH st p.isList (by simp;omega) (I.hndNe f0) fun h' eb=>⟨rfl,I.turned (t':=s.toks) (fun b o hb e=>eb b o hb e) f0 f1 f3 f4 f5⟩
 self:=fun _ _ _ _ _ st h=>wpAny_pyIter_listiter st h
theorem qBY {P:Program} {w:World} {K:W.Frag} {A:Around} {tg:Expr} (a it:Addr):Turn P w K A tg (Itt K a) [it] it (fun i h=>h.IsTupleIter it a i) where
 mem:=by simp
 obj:=fun i h st b hb=>by
  have e:b=it:=by simpa using hb
  subst e;obtain ⟨o,e,c,d⟩:=st;exact ⟨o,e,fun v z=>by rw [d] at z;cases z⟩
 keep:=fun i h h' st k=>st.at fun o e=>k it (by simp) o e
 item:=by
  intro X hP hw hK _ i pins s σ H E I hf st hg;subst hP hw hK;obtain ⟨xs,x,hq,hx⟩:=hg;obtain ⟨its,rv,p,hz⟩:=I.tuple hq;obtain ⟨u,hu,ru⟩:=rv.get hx;obtain ⟨f0,f1,f2,f3,f4,f5⟩:=hf it (by simp)
  refine wpAny_pyNext_tuple_item st (show s.heap.IsTuple a its.toArray from p) (x:=u) (by simpa using hu) fun h' st' sb => ?_
  have I1:Inv X pins σ H { s with heap:=h' }:=I.turned (t':=s.toks) (fun b o hb e=>(sb.2 b hb).trans e) f0 f1 f3 f4 f5;obtain ⟨o,e,c,d⟩:=id st';exact ⟨u,rfl,qFP (s:={ s with heap:=h' }) e c d (by decide) ⟨x,H,I1,ru,⟨rfl,fun ys hy=>by rw [I.tuple_inj hy hq];exact hx⟩,st',fun b hb=>(hf b hb).1⟩⟩
 done:=by
  intro X hP hw hK _ i pins s σ H E I hf st hg;subst hP hw hK;obtain ⟨xs,hq,hx⟩:=hg;obtain ⟨its,rv,p,hz⟩:=I.tuple hq;obtain ⟨f0,f1,f2,f3,f4,f5⟩:=hf it (by simp)
  have hl:=rv.length;exact EX.tuple_end I.hndH st (show s.heap.IsTuple a its.toArray from p) (by simp;omega) (I.hndNe f0) fun h' eb=>⟨rfl,I.turned (t':=s.toks) (fun b o hb e=>eb b o hb e) f0 f1 f3 f4 f5⟩
 self:=fun _ _ _ _ _ st h=>wpAny_pyIter_tupleiter st h
theorem qBR {P:Program} {w:World} {K:W.Frag} {A:Around} {tg:Expr} (it:Addr) (lo:Int) (n:Nat):Turn P w K A tg (Itr lo n) [it] it (fun i h=>IsRangeIter h it (lo + (i:Nat) * 1) ((n:Int) - (i:Nat)) 1) where
 mem:=by simp
 obj:=fun i h st b hb=>by
  have e:b=it:=by simpa using hb
  subst e;exact ⟨_,st,fun v z=>by
   have z':Data.fields _=Data.cell v:=z;cases z'⟩
 keep:=fun i h h' st k=>k it (by simp) _ st
 item:=by
  intro X hP hw hK _ i pins s σ H E I hf st hg;subst hP hw hK;obtain ⟨f0,f1,f2,f3,f4,f5⟩:=hf it (by simp)
  refine wpAny_pyNext_range_item st (by have:i < n:=hg;omega) fun h' st' sb => ?_
  have I1:Inv X pins σ H { s with heap:=h',toks:=s.toks + 1 }:=I.turned (fun b o hb e=>(sb.2 b hb).trans e) f0 f1 f3 f4 f5;have st2:IsRangeIter h' it (lo + ((i + 1:Nat):Int) * 1) ((n:Int) - ((i + 1:Nat):Int)) 1:=by
   have q1:lo + (i:Int) * 1 + 1=lo + ((i + 1:Nat):Int) * 1:=by omega
   have q2:(n:Int) - (i:Int) - 1=(n:Int) - ((i + 1:Nat):Int):=by omega
   rw [← q1,← q2];exact st'
  refine ⟨_,rfl,qFP (s:={ s with heap:=h',toks:=s.toks + 1 }) (n := "range_iterator") st2 rfl rfl (by decide) ⟨.int (lo + i),H,I1,⟨s.toks,?_⟩,⟨rfl,rfl⟩,st2,fun b hb=>(hf b hb).1⟩⟩
  rw [Int.mul_one]
 done:=by
  intro X hP hw hK _ i pins s σ H E I hf st hg;subst hP hw hK;obtain ⟨f0,f1,f2,f3,f4,f5⟩:=hf it (by simp)
  exact EX.range_end I.hndH st (by have:n≤i:=hg;omega) fun h' eb=>⟨rfl,I.turned (t':=s.toks) (fun b o hb e=>eb b o e) f0 f1 f3 f4 f5⟩
 self:=fun _ _ _ _ _ st h=>wpAny_pyIter_rangeiter st h
end L2
namespace L2
open PySem PySem.Spec PyProof.Rows
section
variable {X:Cx} {tg:Expr}
theorem qAR {pins:List (Addr×Obj)} {σ:St} {H:Hp} {s:Shared} {R:It->Hp->Prop} {E:Value->Shared->Prop} {lo hi:Int} {t u v:Tok} {tk:Nat} (I:Inv X pins σ H s) (h1:-(2 ^ 62)≤lo) (h2:lo < 2 ^ 62) (h3:-(2 ^ 62)≤hi) (h4:hi < 2 ^ 62)
  (q:R (Itr lo (hi - lo).toNat) H):wpAny (model X.prog X.w) X.A (pyIter (.ref s.heap.objs.size)) (PIE X pins σ tg R) E { s with heap:=s.heap.push { cls := .type "range",data := .fields #[.int lo t,.int hi u,.int 1 v] },toks:=tk }:=by
 refine wpAny_pyIter_range (IsRange.new ..) (small_one h1 h2 h3 h4) ?_;have I1:Inv X pins σ H { s with heap:=s.heap.push { cls := .type "range",data := .fields #[.int lo t,.int hi u,.int 1 v] },toks:=tk }:=I.kept fun b o e=>AG _ e;refine ⟨(s.heap.push { cls := .type "range",data := .fields #[.int lo t,.int hi u,.int 1 v] }).objs.size,[(s.heap.push { cls := .type "range",data := .fields #[.int lo t,.int hi u,.int 1 v] }).objs.size],_,_,H,rfl,
  I1.kept (t':=tk) fun b o e=>AG _ e,qBR _ lo (hi - lo).toNat,?_,fun b hb => ?_,q⟩
 ·have e1:lo + ((0:Nat):Int) * 1=lo:=by simp
  have e2:(((hi - lo).toNat:Nat):Int) - ((0:Nat):Int)=Builtin.Range.rangeSize lo hi 1:=by rw [rangeSize_one];split <;> omega
  show IsRangeIter _ _ (lo + ((0:Nat):Int) * 1) ((((hi - lo).toNat:Nat):Int) - ((0:Nat):Int)) 1;rw [e1,e2];exact AX _ rfl
 ·have e:b=(s.heap.push { cls := .type "range",data := .fields #[.int lo t,.int hi u,.int 1 v] }).objs.size:=by simpa using hb
  subst e;exact I1.fpOk (AK _) (I1.hok.fresh (AK _))
def qKE (ta:TA):TI:=fun σ H R=>ta σ H fun vs H1 => ∃ j:Int,vs=[.int j] ∧ -(2 ^ 62)≤j∧j < 2 ^ 62∧R (Itr 0 j.toNat) H1
def qK9 (ta:TA):TI:=fun σ H R=>ta σ H fun vs H1 => ∃ i j:Int,vs=[.int i,.int j]∧(-(2 ^ 62)≤i∧i < 2 ^ 62 ∧ -(2 ^ 62)≤j∧j < 2 ^ 62)∧R (Itr i (j - i).toNat) H1
theorem qDm {a:Expr} {ta:TA} {p pos:Pos} (hg:Gl X "range") (hm:X.mg "range" = none) (ha:PA X [a] ta) (hs:starEach [a] X.env=[(false,eval a X.env)]:=by rfl):PI X tg (.Call (.Name "range" p) [a] [] pos) (qKE ta):=by
 intro pins s σ H R I h;refine Call_ (zx I hg hm boot_range (Bn (thn (ha pos pins s σ H _ I h) fun us s1 ⟨vs,H1,I1,r1,q1⟩ => ?_) hs rfl));obtain ⟨j,e,q1,q2,q⟩:=q1;subst e;cases r1 with
 |cons r rr =>cases rr;obtain ⟨t,rfl⟩:=r;exact call_range_1 (qAR I1 (by omega) (by omega) q1 q2 (by simpa using q))
theorem qDY {a b:Expr} {ta:TA} {p pos:Pos} (hg:Gl X "range") (hm:X.mg "range" = none) (ha:PA X [a,b] ta) (hs:starEach [a,b] X.env=[(false,eval a X.env),(false,eval b X.env)]:=by rfl) (hs2:starEach [b] X.env=[(false,eval b X.env)]:=by rfl) :
  PI X tg (.Call (.Name "range" p) [a,b] [] pos) (qK9 ta):=by
 intro pins s σ H R I h;refine Call_ (zx I hg hm boot_range (Bn (thn (ha pos pins s σ H _ I h) fun us s1 ⟨vs,H1,I1,r1,q1⟩ => ?_) (by rw [hs,hs2]) (by rw [hs2];rfl)))
 obtain ⟨i,j,e,⟨q1,q2,q3,q4⟩,q⟩:=q1;subst e;cases r1 with
 |cons r rr =>
  cases rr with
  |cons r' rr =>cases rr;obtain ⟨t,rfl⟩:=r;obtain ⟨t',rfl⟩:=r';exact call_range_2 (qAR I1 q1 q2 q3 q4 q)
def qLW (wi:TI) (g:TG) (tb:TS):TS:=fun D σ H=>wi σ H fun J H1 => ∃ W:Nat->Nat->St->Hp->Prop,(∃ m,W 0 m σ H1) ∧ ∀ i m σ H,W i m σ H ->
 (J.stop i H∧D.nx σ H)∨(J.go i H ∧ ∃ N:St->Hp->Prop,(∀ σ' H',N σ' H' -> ∃ m',m' < m∧W (i + 1) m' σ' H') ∧ ∀ x H',J.yld i H x H'->g x σ H' fun σ2 H2=>tb { D with nx:=N,ct:=N,bk:=D.nx } σ2 H2)
def Yx (fp:List Addr) (h:Heap):List (Addr×Obj):=fp.filterMap fun b=>(h.get? b).map fun o=>(b,o)
theorem zY {fp:List Addr} {h:Heap} {b:Addr} {o:Obj} (hb:b∈fp) (e:h.get? b=some o):(b,o)∈Yx fp h:=CV.mpr ⟨b,hb,by rw [e];rfl⟩
theorem qDU {fp:List Addr} {h:Heap} {p:Addr×Obj} (hp:p∈Yx fp h):p.1∈fp∧h.get? p.1=some p.2:=by
 obtain ⟨b,hb,e⟩:=CV.mp hp;cases q:h.get? b with
 |none=>rw [q] at e;cases e
 |some o =>rw [q] at e;have e':(b,o)=p:=Ai e;subst e';exact ⟨hb,q⟩
theorem Inv.pinned {pins:List (Addr×Obj)} {σ:St} {H:Hp} {s:Shared} {fp:List Addr} (I:Inv X pins σ H s) (hf:∀ b∈fp,YF X pins H b) (ho:∀ b∈fp,∃ o,s.heap.get? b=some o ∧ ∀ v,o.data ≠ .cell v):Inv X (pins++Yx fp s.heap) σ H s :=
 I.pins_of fun p hp=>(An.mp hp).elim (fun z=>I.pin p (A2 _ z)) fun z=>by obtain ⟨hb,e⟩:=qDU z;obtain ⟨f0,f1,f2,_⟩:=hf p.1 hb;obtain ⟨o,e',d⟩:=ho p.1 hb;rw [e] at e';cases e';exact ⟨e,f0,f1,f2,d⟩
theorem Inv.unpinned {pins pl:List (Addr×Obj)} {σ:St} {H:Hp} {s:Shared} (I:Inv X (pins++pl) σ H s):Inv X pins σ H s:=I.pins_of fun p hp=>I.pin p (A2 _ (List.mem_append_left _ hp))
end
end L2
namespace L2
open PySem PySem.Spec PyProof.Rows
abbrev R2:=V->V->Hp->VK->Prop
def OpR (X:Cx) (f:Value->Value->Sem Value) (r:R2):Prop :=
 ∀ (pins:List (Addr×Obj)) (s:Shared) (σ:St) (H:Hp) (x y:V) (v u:Value) (Q:VK),Inv X pins σ H s->RelV x v->RelV y u->r x y H Q ->
  wpAny (model X.prog X.w) X.A (f v u) (EP X pins σ Q) X.xe s
def UnR (X:Cx) (f:Value->Sem Value) (r:V->Hp->VK->Prop):Prop :=
 ∀ (pins:List (Addr×Obj)) (s:Shared) (σ:St) (H:Hp) (x:V) (v:Value) (Q:VK),Inv X pins σ H s->RelV x v->r x H Q ->
  wpAny (model X.prog X.w) X.A (f v) (EP X pins σ Q) X.xe s
def Wb (X:Cx) (f:Value) (r:List V->Hp->VK->Prop):Prop :=
 ∀ (pins:List (Addr×Obj)) (s:Shared) (σ:St) (H:Hp) (xs:List V) (us:List Value) (Q:VK),Inv X pins σ H s->Vals xs us->r xs H Q ->
  wpAny (model X.prog X.w) X.A (call f us) (EP X pins σ Q) X.xe s
def qLi (X:Cx) (r:V->Hp->(Bool->Hp->Prop)->Prop):Prop :=
 ∀ (pins:List (Addr×Obj)) (s:Shared) (σ:St) (H:Hp) (x:V) (v:Value) (Q:Bool->Hp->Prop),Inv X pins σ H s->RelV x v->r x H Q ->
  wpAny (model X.prog X.w) X.A (truthy v) (TP X pins σ Q) X.xe s
def tOp (r:R2) (ta tb:TE):TE:=fun σ H Q=>ta σ H fun x H1=>tb σ H1 fun y H2=>r x y H2 Q
def tUn (r:V->Hp->VK->Prop) (ta:TE):TE:=fun σ H Q=>ta σ H fun x H1=>r x H1 Q
def rI (C:Int->Int->Prop) (g:Int->Int->V):R2:=fun x y H Q => ∃ i j,x = .int i∧y = .int j∧C i j∧Q (g i j) H
def rI0 (g:Int->Int->V):R2:=fun x y H Q => ∃ i j,x = .int i∧y = .int j∧Q (g i j) H
def rU (g:Int->V):V->Hp->VK->Prop:=fun x H Q => ∃ i,x = .int i∧Q (g i) H
section
variable {X:Cx} {a b c:Expr} {ta tb tc:TE} {pos:Pos}
theorem qII (ha:PE X a ta) (hb:PE X b tb) {pins:List (Addr×Obj)} {s:Shared} {σ:St} {H:Hp} {R:V->V->Hp->Prop} (I:Inv X pins σ H s)
  (h:ta σ H fun x H1=>tb σ H1 fun y H2=>R x y H2) {Q:Value->Shared->Prop} {f:Value->Value->Sem Value}
  (hf:∀ v u s2 x y H2,Inv X pins σ H2 s2->RelV x v->RelV y u->R x y H2->wpAny (model X.prog X.w) X.A (f v u) Q X.xe s2) :
  wpAny (model X.prog X.w) X.A (eval a X.env) (fun v s₁=>wpAny (model X.prog X.w) X.A (eval b X.env) (fun u s₂=>wpAny (model X.prog X.w) X.A (f v u) Q X.xe s₂) X.xe s₁) X.xe s:=by refine thn (ha pins s σ H _ I h) fun v s1 ⟨x,H1,I1,r1,q1⟩ => ?_;refine thn (hb pins s1 σ H1 _ I1 q1) fun u s2 ⟨y,H2,I2,r2,q2⟩ => ?_;exact hf v u s2 x y H2 I2 r1 r2 q2
theorem qFd {op:Operator} {r:R2} (ho:OpR X (binaryOp op) r) (ha:PE X a ta) (hb:PE X b tb):PE X (.BinOp a op b pos) (tOp r ta tb):=by intro pins s σ H Q I h;exact wpAny_BinOp (qII ha hb I h fun v u s2 x y H2 I2 rx ry q=>ho pins s2 σ H2 x y v u Q I2 rx ry q)
theorem qLG {op:UnaryOp} {r:V->Hp->VK->Prop} (ho:UnR X (unaryOp op) r) (ha:PE X a ta):PE X (.UnaryOp op a pos) (tUn r ta):=by intro pins s σ H Q I h;exact UnaryOp_ (thn (ha pins s σ H _ I h) fun v s1 ⟨x,H1,I1,r1,q1⟩=>ho pins s1 σ H1 x v Q I1 r1 q1)
theorem opI {f:Value->Value->Sem Value} {C:Int->Int->Prop} {g:Int->Int->Int}
  (rule:∀ (i j:Int) (t u:Tok) (s:Shared) (Q:Value->Shared->Prop) (E:Value->Shared->Prop),C i j->Q (.int (g i j) s.toks) { s with toks:=s.toks + 1 }->wpAny (model X.prog X.w) X.A (f (.int i t) (.int j u)) Q E s) :
  OpR X f (rI C fun i j => .int (g i j)):=by intro pins s σ H x y v u Q I rx ry h;obtain ⟨i,j,rfl,rfl,hc,q⟩:=h;obtain ⟨t,rfl⟩:=rx;obtain ⟨t',rfl⟩:=ry;exact rule i j t t' s _ _ hc ⟨.int (g i j),H,I.tok _,⟨_,rfl⟩,q⟩
theorem qKl {f:Value->Value->Sem Value} {g:Int->Int->Int}
  (rule:∀ (i j:Int) (t u:Tok) (s:Shared) (Q:Value->Shared->Prop) (E:Value->Shared->Prop),Q (.int (g i j) s.toks) { s with toks:=s.toks + 1 }->wpAny (model X.prog X.w) X.A (f (.int i t) (.int j u)) Q E s) :
  OpR X f (rI0 fun i j => .int (g i j)):=by intro pins s σ H x y v u Q I rx ry h;obtain ⟨i,j,rfl,rfl,q⟩:=h;obtain ⟨t,rfl⟩:=rx;obtain ⟨t',rfl⟩:=ry;exact rule i j t t' s _ _ ⟨.int (g i j),H,I.tok _,⟨_,rfl⟩,q⟩
theorem qJ4 {f:Value->Value->Sem Value} {g:Int->Int->Bool}
  (rule:∀ (i j:Int) (t u:Tok) (s:Shared) (Q:Value->Shared->Prop) (E:Value->Shared->Prop),Q (.bool (g i j)) s->wpAny (model X.prog X.w) X.A (f (.int i t) (.int j u)) Q E s) :
  OpR X f (rI0 fun i j => .bl (g i j)):=by intro pins s σ H x y v u Q I rx ry h;obtain ⟨i,j,rfl,rfl,q⟩:=h;obtain ⟨t,rfl⟩:=rx;obtain ⟨t',rfl⟩:=ry;exact rule i j t t' s _ _ ⟨.bl (g i j),H,I,rfl,q⟩
def qLv (i j:Int):Prop:=0 < j∧j < 1073741824
def qLo (i j:Int):Prop:=0≤j∧j≤1000000∧i.natAbs < 2 ^ 64
def CMul (i j:Int):Prop:=(-(2 ^ 64) < i∧i < 2 ^ 64)∨(-(2 ^ 64) < j∧j < 2 ^ 64)
theorem CMul.ok {i j:Int} (h:CMul i j):IntMulOk i j:=by
 rcases h with ⟨h1,h2⟩ |⟨h1,h2⟩
 ·exact .of_left (intBits_le_64 h1 h2)
 ·exact .of_right (intBits_le_64 h1 h2)
theorem qJW:OpR X (binaryOp .Add) (rI0 fun i j => .int (i + j)):=qKl fun _ _ _ _ _ _ _ q=>add_int q
theorem qH5:OpR X (binaryOp .Sub) (rI0 fun i j => .int (i - j)):=qKl fun _ _ _ _ _ _ _ q=>sub_int q
theorem qJV:OpR X (binaryOp .Mult) (rI CMul fun i j => .int (i * j)):=opI fun _ _ _ _ _ _ _ hc q=>mul_int q hc.ok
theorem qGG:OpR X (binaryOp .FloorDiv) (rI qLv fun i j => .int (i / j)):=opI fun i j _ _ _ _ _ hc q=>by have h1:(0:Int) < j:=hc.1;have h2:j < 1073741824:=hc.2;exact floordiv_int (by omega) (by rw [Int.fdiv_eq_ediv_of_nonneg i (by omega)];exact q) (.inl (PyProof.noPylong_small (by omega)))
theorem qIi:OpR X (binaryOp .Mod) (rI (fun _ j=>0 < j) fun i j => .int (i % j)):=opI fun i j _ _ _ _ _ hc q=>by have h1:(0:Int) < j:=hc;exact mod_int' (by omega) (by rw [Int.fmod_eq_emod_of_nonneg i (by omega)];exact q)
theorem qIN:OpR X (binaryOp .Pow) (rI qLo fun i j => .int (i ^ j.toNat)):=opI fun _ _ _ _ _ _ _ hc q=>pow_int_small hc.1 hc.2.1 hc.2.2 q
theorem unI {f:Value->Sem Value} {g:Int->Int}
  (rule:∀ (i:Int) (t:Tok) (s:Shared) (Q:Value->Shared->Prop) (E:Value->Shared->Prop),Q (.int (g i) s.toks) { s with toks:=s.toks + 1 }->wpAny (model X.prog X.w) X.A (f (.int i t)) Q E s) :
  UnR X f (rU fun i => .int (g i)):=by intro pins s σ H x v Q I rx h;obtain ⟨i,rfl,q⟩:=h;obtain ⟨t,rfl⟩:=rx;exact rule i t s _ _ ⟨.int (g i),H,I.tok _,⟨_,rfl⟩,q⟩
theorem qId:UnR X (unaryOp .USub) (rU fun i => .int (-i)):=unI fun _ _ _ _ _ q=>neg_int q
theorem qEh:OpR X (compareOp .Lt) (rI0 fun i j => .bl (decide (i < j))):=qJ4 fun _ _ _ _ _ _ _ q=>lt_int q
theorem qCL:OpR X (compareOp .LtE) (rI0 fun i j => .bl (decide (i≤j))):=qJ4 fun _ _ _ _ _ _ _ q=>le_int q
theorem qHz:OpR X (compareOp .Gt) (rI0 fun i j => .bl (decide (j < i))):=qJ4 fun _ _ _ _ _ _ _ q=>gt_int q
theorem qBl (b:Expr) {op:CmpOp} (h:op ≠ .In:=by decide) (h2:op ≠ .NotIn:=by decide):behindInMarks op b=false:=by
 have e1:(op==CmpOp.In)=false:=by cases op <;> first |rfl |exact absurd rfl h
 have e2:(op==CmpOp.NotIn)=false:=by cases op <;> first |rfl |exact absurd rfl h2
 cases b <;> simp [behindInMarks,e1,e2]
theorem qGX {op:CmpOp} {r:R2} (ho:OpR X (compareOp op) r) (ha:PE X a ta) (hb:PE X b tb) (hm:behindInMarks op b=false):PE X (.Compare a [op] [b] pos) (tOp r ta tb):=by intro pins s σ H Q I h;exact wpAny_Compare1 (qII ha hb I h fun v u s2 x y H2 I2 rx ry q=>ho pins s2 σ H2 x y v u Q I2 rx ry q) hm
def qKz (t:TE):TT:=fun σ H Q=>t σ H fun x H' => ∃ k,x = .bl k∧Q k H'
theorem qHK {op:CmpOp} {r:R2} (ho:OpR X (compareOp op) r) (ha:PE X a ta) (hb:PE X b tb) (hm:behindInMarks op b=false):PT X (.Compare a [op] [b] pos) (qKz (tOp r ta tb)):=by
 intro pins s σ H Q I h;refine wpAny_isTrue_Compare1 (thn (ha pins s σ H _ I h) fun v s1 ⟨x,H1,I1,r1,q1⟩=>thn (hb pins s1 σ H1 _ I1 q1) fun u s2 ⟨y,H2,I2,r2,q2⟩ =>
  thn (ho pins s2 σ H2 x y v u _ I2 r1 r2 q2) fun c s3 ⟨z,H3,I3,r3,k,e,q3⟩ => ?_) hm
 subst e;cases r3;exact Bs ⟨H3,I3,q3⟩
def qIe (r r':R2) (ta tb tc:TE):TE:=fun σ H Q=>ta σ H fun x H1=>tb σ H1 fun y H2=>r x y H2 fun z H3 => ∃ k,z = .bl k ∧
 (if k=true then tc σ H3 fun w' H4=>r' y w' H4 Q else Q (.bl false) H3)
theorem qFW {op op':CmpOp} {r r':R2} (ho:OpR X (compareOp op) r) (ho':OpR X (compareOp op') r') (ha:PE X a ta) (hb:PE X b tb) (hc:PE X c tc)
  (hm:lastMarks [op,op'] [b,c]=false:=by with_unfolding_all rfl):PE X (.Compare a [op,op'] [b,c] pos) (qIe r r' ta tb tc):=by
 intro pins s σ H Q I h;refine Compare_chain (thn (ha pins s σ H _ I h) fun v s1 ⟨x,H1,I1,r1,q1⟩=>chain_link (thn (hb pins s1 σ H1 _ I1 q1) fun u s2 ⟨y,H2,I2,r2,q2⟩ =>
  thn (ho pins s2 σ H2 x y v u _ I2 r1 r2 q2) fun d s3 ⟨z,H3,I3,r3,k,e,q3⟩ => ?_)) hm
 subst e;cases r3;refine Bs ?_;cases k with
 |false=>exact ite_ff ⟨.bl false,H3,I3,rfl,q3⟩
 |true=>exact ite_tt (chain_last (thn (hc pins s3 σ H3 _ I3 q3) fun w' s4 ⟨z',H4,I4,r4,q4⟩=>ho' pins s4 σ H4 y z' u w' Q I4 r2 r4 q4))
def qGY (K:W.Frag) (x:V) (H:Hp) (k:Bool):Prop :=
 match x with
 | .non=>k=false
 | .bl b=>k=b
 | .int i=>k=(i != 0)
 | .str y=>y.length≤sizeLine∧k=((y.length:Int) != 0)
 | .byt y=>y.size≤sizeLine∧k=((y.size:Int) != 0)
 | .ref p=>(∃ xs,SqL K H p xs∧k = !xs.isEmpty)∨(∃ xs,SqT K H p xs∧k = !xs.isEmpty) ∨ ∃ kvs,H p=some (.dK kvs)∧k = !kvs.isEmpty
 |_=>False
theorem qBN {κ:Type} {kvs:List (κ×V)} {vs:List (κ×Value)} (r:KV kvs vs):(!vs.isEmpty) = !kvs.isEmpty:=by cases r <;> rfl
theorem Yi {xs:List V} {its:List Value} (r:Vals xs its):(!its.toArray.isEmpty) = !xs.isEmpty:=by cases r <;> simp
theorem yh:(sizeLine:Nat) < 2 ^ 63:=by rw [Bw];decide
theorem qH9:qLi X (fun x H Q => ∃ k,qGY X.K x H k∧Q k H):=by
 intro pins s σ H x v Q I rx h;obtain ⟨k,e,q⟩:=h;have hl:=yh;have hs:sizeLine=16777216:=Bw;cases x with
 |non =>cases rx;have e':k=false:=e;subst e';exact truthy_none ⟨H,I,q⟩
 |bl b =>cases rx;have e':k=b:=e;subst e';exact Bs ⟨H,I,q⟩
 |int i =>obtain ⟨t,rfl⟩:=rx;have e':k=(i != 0):=e;subst e';exact PySem.P.truthy_int ⟨H,I,q⟩
 |str y =>obtain ⟨t,rfl⟩:=rx;obtain ⟨hy,e'⟩:y.length≤sizeLine∧k=((y.length:Int) != 0):=e;subst e';exact PySem.P.truthy_str (by omega) ⟨H,I.tok _,q⟩
 |byt y =>obtain ⟨t,rfl⟩:=rx;obtain ⟨hy,e'⟩:y.size≤sizeLine∧k=((y.size:Int) != 0):=e;subst e';exact W.truthy_bytes (by omega) ⟨H,I.tok _,q⟩
 |ref p =>
  cases rx;have e':(∃ xs,SqL X.K H p xs∧k = !xs.isEmpty)∨(∃ xs,SqT X.K H p xs∧k = !xs.isEmpty) ∨ ∃ kvs,H p=some (.dK kvs)∧k = !kvs.isEmpty:=e;rcases e' with ⟨xs,hx,e'⟩ |⟨xs,hx,e'⟩ |⟨kvs,hx,e'⟩
  ·subst e';obtain ⟨its,r,pl,hz⟩:=I.list hx;have hlen:=r.length;exact wpAny_truthy_list pl.isList (by simp only [AO];omega) ⟨H,I.tok _,by rw [Yi r];exact q⟩
  ·subst e';obtain ⟨its,r,pl,hz⟩:=I.tuple hx;have hlen:=r.length;exact truthy_tuple pl (by simp only [AO];omega) ⟨H,I.tok _,by rw [Yi r];exact q⟩
  ·subst e';obtain ⟨hz,hS,vs,r,m⟩:kvs.length≤sizeLine∧(p==sysModules)=false ∧ ∃ vs,KV kvs vs∧s.heap.DictOf (j9 X.prog X.w) p vs:=I.hok p _ hx;have hlen:kvs.length=vs.length:=Paired.length r;exact wpAny_truthy_dict hS m (by omega) ⟨H,I.tok _,by rw [qBN r];exact q⟩
 |_=>exact (show False from e).elim
theorem qEj (ha:PE X a ta) (he:∀ whole,isTrue a X.env whole=(do let v ← whole;standAt a.pos;holding [v] (truthy v))) :
  PT X a (fun σ H Q=>ta σ H fun x H' => ∃ k,qGY X.K x H' k∧Q k H'):=by intro pins s σ H Q I h;exact isTrue_plain (thn (ha pins s σ H _ I h) fun v s1 ⟨x,H1,I1,r1,q1⟩=>qH9 pins s1 σ H1 x v Q I1 r1 q1) (he _)
theorem qBq:OpR X (binaryOp .Add) (fun x y H Q => ∃ i j,x = .str i∧y = .str j∧i.length + j.length≤sizeLine∧Q (.str (i++j)) H):=by intro pins s σ H x y v u Q I rx ry h;obtain ⟨i,j,rfl,rfl,hz,q⟩:=h;obtain ⟨t,rfl⟩:=rx;obtain ⟨t',rfl⟩:=ry;exact add_str (fun t' tk=>⟨.str (i++j),H,I.tok _,⟨_,rfl⟩,q⟩) hz
theorem yA {x:V} {us:List Value} (r:Vals [x] us):∃ u,us=[u]∧RelV x u:=by
 cases r with
 |cons r1 r2=>cases r2;exact ⟨_,rfl,r1⟩
theorem qCJ {x y:V} {us:List Value} (r:Vals [x,y] us):∃ u w',us=[u,w']∧RelV x u∧RelV y w':=by
 cases r with
 |cons r1 r2 =>
  cases r2 with
  |cons r3 r4=>cases r4;exact ⟨_,_,rfl,r1,r3⟩
theorem qDD (hc:X.calm=true):Wb X (.builtin "max") (fun xs H Q => ∃ i j,xs=[.int i,.int j]∧Q (.int (if j > i then j else i)) H):=by
 intro pins s σ H xs us Q I r h;obtain ⟨i,j,rfl,q⟩:=h;obtain ⟨u,w',rfl,⟨t,rfl⟩,⟨t',rfl⟩⟩:=qCJ r;refine max_two_ints (I.ok.hd hc) fun h' tk k=>⟨_,H,I.kept k,?_,q⟩;by_cases hj:j > i
 ·rw [AH hj,AH hj];exact ⟨_,rfl⟩
 ·rw [AJ hj,AJ hj];exact ⟨_,rfl⟩
theorem qC7 (hc:X.calm=true):Wb X (.builtin "min") (fun xs H Q => ∃ i j,xs=[.int i,.int j]∧Q (.int (if j < i then j else i)) H):=by
 intro pins s σ H xs us Q I r h;obtain ⟨i,j,rfl,q⟩:=h;obtain ⟨u,w',rfl,⟨t,rfl⟩,⟨t',rfl⟩⟩:=qCJ r;refine min_two_ints (I.ok.hd hc) fun h' tk k=>⟨_,H,I.kept k,?_,q⟩;by_cases hj:j < i
 ·rw [AH hj,AH hj];exact ⟨_,rfl⟩
 ·rw [AJ hj,AJ hj];exact ⟨_,rfl⟩
theorem qDh:Wb X (.type "int") (fun xs H Q=>(∃ i,xs=[.int i]∧Q (.int i) H) ∨ ∃ k,xs=[.bl k]∧Q (.int (if k then 1 else 0)) H):=by
 intro pins s σ H xs us Q I r h;rcases h with ⟨i,rfl,q⟩ |⟨k,rfl,q⟩
 ·obtain ⟨u,rfl,t,rfl⟩:=yA r;exact call_int_int ⟨.int i,H,I,⟨_,rfl⟩,q⟩
 ·obtain ⟨u,rfl,r1⟩:=yA r;cases r1;exact call_int_bool ⟨.int (if k then 1 else 0),H,I.tok _,⟨_,rfl⟩,q⟩
end
end L2
namespace L2
open PySem PySem.Spec PyProof.Rows
end L2
namespace L2
open PySem PySem.Spec PyProof.Rows
structure Room (k:Nat) (A:Around):Prop where
 hd:1 < k->A.handled=none
 dp:A.depth + 3 * k + 5 < recursionLimit
 un:A.units + 16 * k + 200 < cLine
 gd:A.guards=some []
theorem Room.mono {j k:Nat} {A:Around} (r:Room k A) (h:j≤k):Room j A:=⟨fun z=>r.hd (by omega),by have:=r.dp;omega,by have:=r.un;omega,r.gd⟩
theorem Room.deeper {k:Nat} {A:Around} (r:Room (k + 1) A) (env:Env):Room k (A.deeper env) :=
 ⟨fun z=>r.hd (by omega),by have:=r.dp;show A.depth + 1 + 3 * k + 5 < _;omega,by have:=r.un;show A.units + 3 + 16 * k + 200 < _;omega,r.gd⟩
theorem Room.depth {k:Nat} {A:Around} (r:Room k A):A.depth < recursionLimit:=by have:=r.dp;omega
theorem Room.units {k:Nat} {A:Around} (r:Room k A):A.units + 64 < cLine:=by have:=r.un;omega
def qLZ:TA:=fun _ H Q=>Q [] H
def qKp (ta:TE) (tr:TA):TA:=fun σ H Q=>ta σ H fun x H1=>tr σ H1 fun xs H2=>Q (x::xs) H2
section
variable {X:Cx} {e:Expr} {es:List Expr} {te:TE} {t:TA} {pos:Pos}
theorem Yd:PA X [] qLZ:=fun _ _ _ _ H Q I h=>Calls.spliced_nil ⟨[],H,I,.nil,h⟩
theorem Z3 (ha:PE X e te) (hr:PA X es t) (hs:starEach (e::es) X.env=(false,eval e X.env)::starEach es X.env:=by rfl):PA X (e::es) (qKp te t):=by intro pos pins s σ H Q I h;rw [hs];show wpAny _ _ (spliced ((false,eval e X.env)::backTo pos (starEach es X.env))) _ _ s;refine CW (thn (ha pins s σ H _ I h) fun u s1 ⟨x,H1,I1,r1,q1⟩ => ?_);exact thn (hr pos pins s1 σ H1 _ I1 q1) fun us s2 ⟨xs,H2,I2,r2,q2⟩=>⟨x::xs,H2,I2,.cons r1 r2,q2⟩
def qLa (t:TA):TE:=fun σ H Q=>t σ H fun xs H1=>xs.length≤sizeLine ∧ ∀ p,H1 p=none->Q (.ref p) (upd H1 p (.tup xs))
def qLR (t:TA):TE:=fun σ H Q=>t σ H fun xs H1=>xs.length≤sizeLine ∧ ∀ p,H1 p=none->Q (.ref p) (upd H1 p (.lst xs))
theorem qJa {x1} (h:PA X es t):PE X (.Tuple es x1 pos) (qLa t):=by
 intro pins s σ H Q I hq;refine wpAny_Tuple_spliced (thn (h pos pins s σ H _ I hq) fun us s1 ⟨xs,H1,I1,r,z,q⟩=>⟨by rw [← r.length];exact z,?_⟩)
 have hf:H1 s1.heap.objs.size=none:=I1.hok.fresh (AK _);refine ⟨.ref s1.heap.objs.size,upd H1 s1.heap.objs.size (.tup xs),I1.laid (t':=s1.toks) (fun b u e=>AG _ e) (AK _) ?_,rfl,q _ hf⟩;exact ⟨z,us,r,⟨_,AX _ rfl,rfl,_,rfl⟩⟩
theorem qJY (h:PA X es t):PE X (.List es pos) (qLR t):=by
 intro pins s σ H Q I hq;refine wpAny_List_spliced (thn (h pos pins s σ H _ I hq) fun us s1 ⟨xs,H1,I1,r,z,q⟩=>⟨by rw [← r.length];exact z,?_⟩)
 have hf:H1 s1.heap.objs.size=none:=I1.hok.fresh (AK _);refine ⟨.ref s1.heap.objs.size,upd H1 s1.heap.objs.size (.lst xs),I1.laid (t':=s1.toks) (fun b u e=>AG _ e) (AK _) ?_,rfl,q _ hf⟩;exact ⟨z,us,0,r,AX _ rfl⟩
end
abbrev Sp:=List V->Hp->VK->XK->Prop
abbrev CXT:=List Env->Hp->Shared->XK->Value->Shared->Prop
structure Env0 (P:Program) (w:World) (K:W.Frag) (mg:Str->Option Value) (base:Heap) (A:Around) (outer:List Env) (s:Shared) (H:Hp):Prop where
 frames:A.frames=some outer
 mod:Mod K mg base
 bs:∀ b o,base.get? b=some o->s.heap.get? b=some o∧H b=none
 bsz:base.objs.size≤s.heap.objs.size
 funs:s.heap.FunFrames base outer
 frf:∀ b∈frs outer,H b=none
 hok:HOk P w H s.heap
 bare:AllBare s.gens
 hnd:HndH A H
def CE (outer:List Env) (P:Program) (w:World) (H:Hp) (s:Shared) (Q:VK) (u:Value) (s':Shared):Prop :=
 ∃ v H',s'.os=s.os∧AllBare s'.gens∧Un (frs outer) [] H H' s.heap s'.heap∧HOk P w H' s'.heap∧RelV v u∧Q v H'
def CR (CX:CXT) (outer:List Env) (P:Program) (w:World) (H:Hp) (s:Shared) (Q:VK) (E:XK) (r:Result) (s':Shared):Prop :=
 match r with
 | .ok (.ret u)=>CE outer P w H s Q u s'
 | .ok _=>False
 | .error e=>CX outer H s E e s'
structure FnOk (P:Program) (w:World) (K:W.Frag) (mg:Str->Option Value) (base:Heap) (CX:CXT) (k:Nat) (f:Addr) (fd:FuncData) (ps:List Str) (sp:Sp):Prop where
 len:∀ vs H Q E,sp vs H Q E->vs.length=ps.length
 run:∀ (A:Around) (outer:List Env) (s:Shared) (H:Hp) (args:Args) (us:List Value) (vs:List V) (Q:VK) (E:XK),Room k A->Env0 P w K mg base A outer s H->BindsTo s fd args (ps.zip us)->Vals vs us->sp vs H Q E ->
  codeAny (model P w) A (.call (.ref f) args) (CR CX outer P w H s Q E) s
section
variable {X:Cx} {pins:List (Addr×Obj)} {σ:St} {H:Hp} {s s':Shared}
theorem Inv.env0 (I:Inv X pins σ H s):Env0 X.prog X.w X.K X.mg X.base X.A X.stack s H :=
 ⟨I.ok.frames,I.ok.mod,I.bs,Ae I.ok.bsz I.sz,I.stack,I.stkFree,I.hok,I.bare,I.hnd⟩
theorem Inv.after {Q:VK} {u:Value} (I:Inv X pins σ H s) (h:CE X.stack X.prog X.w H s Q u s'):EP X pins σ Q u s':=by obtain ⟨v,H',os,bare,un,hok,r,q⟩:=h;obtain ⟨hh,g,d,t,os'⟩:=s';obtain rfl:os'=s.os:=os;exact ⟨v,H',I.call (h':=hh) (g':=g) (d':=d) (t':=t) (ch:=[]) un hok bare (fun b z=>absurd z (by simp)),r,q⟩
end
def qKj (sp:Sp) (dvs:List V) (E:XK) (t:TA):TE:=fun σ H Q=>t σ H fun vs H1=>sp (vs++dvs) H1 Q E
def Binds (K:W.Frag) (fd:FuncData) (ps:List Str) (ds:List Value):Prop :=
 ∀ (s:Shared) (us:List Value),K.In s.heap->(us++ds).length=ps.length->BindsTo s fd ⟨us,[]⟩ (ps.zip (us++ds))
theorem Binds.all {K:W.Frag} {fd:FuncData} {ps:List Str} (h:∀ us:List Value,us.length=ps.length->bindArgs fd ⟨us,[]⟩=pure (ps.zip us)):Binds K fd ps []:=fun s us _ hl=>by rw [BB] at hl ⊢;exact .of_eq (h us hl)
def ZR (CX:CXT) (X:Cx) (E:XK):Prop := ∀ (pins:List (Addr×Obj)) (σ:St) (H:Hp) (s:Shared) (e:Value) (s':Shared),Inv X pins σ H s->CX X.stack H s E e s'->X.xe e s'
section
variable {X:Cx} {CX:CXT} {k:Nat} {f C:Addr} {fd:FuncData} {ps:List Str} {sp:Sp} {dvs:List V} {ds:List Value} {E:XK} {x m:Str} {p pos apos:Pos} {e o:Expr} {es:List Expr} {ta:TE} {t:TA}
theorem qJC {pins:List (Addr×Obj)} {σ:St} {H:Hp} {s:Shared} {Q:VK} {us:List Value} {vs:List V} (F:FnOk X.prog X.w X.K X.mg X.base CX k f fd ps sp) (hr:Room k X.A) (hb:Binds X.K fd ps ds) (hd:Vals dvs ds) (hx:ZR CX X E)
  (I:Inv X pins σ H s) (r:Vals vs us) (h:sp (vs++dvs) H Q E):wpAny (model X.prog X.w) X.A (call (.ref f) us) (EP X pins σ Q) X.xe s:=by
 have r2:Vals (vs++dvs) (us++ds):=r.append hd;have hl:(us++ds).length=ps.length:=by rw [← r2.length];exact F.len _ _ _ _ h
 refine B6 (codeAny_mono (F.run X.A X.stack s H ⟨us,[]⟩ (us++ds) (vs++dvs) Q E hr I.env0 (hb s us I.kIn hl) r2 h) fun r s' hq => ?_);cases r with
 |error e=>exact hx pins σ H s e s' I hq
 |ok fl =>
  cases fl with
  |ret u=>exact I.after hq
  |next=>exact False.elim hq
  |brk=>exact False.elim hq
  |cont=>exact False.elim hq
theorem qGQ (F:FnOk X.prog X.w X.K X.mg X.base CX k f fd ps sp) (hr:Room k X.A) (hg:Gl X x) (hm:X.mg x=some (.ref f)) (hk:W.keepIn X.K (.ref f)=true) (hb:Binds X.K fd ps ds) (hd:Vals dvs ds) (hx:ZR CX X E)
  (ha:PA X (e::es) t) (hdb:(x==("__debug__":Str))=false:=by decide) (he:starEach (e::es) X.env=(false,eval e X.env)::starEach es X.env:=by rfl) (hpl:(backTo pos (starEach es X.env)).any (·.1)=false:=by rfl) :
  PE X (.Call (.Name x p) (e::es) [] pos) (qKj sp dvs E t):=by intro pins s σ H Q I h;refine Bo (JO I hg hm ?_ hdb);refine W.callWith_K (h₀:=X.base) I.ok.mod.kin hk (thn (ha pos pins s σ H _ I h) fun us s1 ⟨vs,H1,I1,r,q⟩=>⟨I1.kIn,?_⟩) he hpl;exact qJC F hr hb hd hx I1 r q
end
structure FnScope (N P:List Str) (sc:Scope):Prop where
 kind:sc.kind = .function
 co:sc.isCoroutine=false
 gen:sc.isGenerator=false
 nd:N.Nodup
 pre:N.take P.length=P
 par:∀ x∈P,sc.names.lookup x=some .local∨sc.names.lookup x=some .cell
 nofree:∀ y∈sc.names,y.2 ≠ .free
theorem jX {kindOf:Str->Option NameKind} {x:Str}:∀ {binds:List (Str×Value)} {m:Str->Option Value},(∀ v,(x,v) ∉ binds)->bindL kindOf binds m x=m x
 |[],_,_=>rfl
 |(n,v)::r,m,h=>by
  unfold bindL;rw [jX fun w hw=>h w (AD _ hw)];split
  ·have:x≠n:=by rintro rfl;exact h v AI
   simp [this]
  ·rfl
theorem jh {kindOf:Str->Option NameKind} {x:Str}:∀ {binds:List (Str×Value)} {m:Str->Option Value},(∀ v,(x,v) ∉ binds)->bindC kindOf binds m x=m x
 |[],_,_=>rfl
 |(n,v)::r,m,h=>by
  unfold bindC;rw [jh fun w hw=>h w (AD _ hw)];split
  ·rfl
  ·have:x≠n:=by rintro rfl;exact h v AI
   simp [this]
theorem jT {kindOf:Str->Option NameKind} {x:Str} {v:Value}:∀ {P:List Str} {vs:List Value} {i:Nat} {m:Str->Option Value},P.Nodup->P[i]? = some x->vs[i]? = some v->kindOf x=some .local ->
  bindL kindOf (P.zip vs) m x=some v
 |[],_,_,_,_,h,_,_=>by simp at h
 |_::_,[],_,_,_,_,h,_=>by simp at h
 |p::P,w::vs,0,m,nd,h1,h2,hk=>by simp at h1 h2;subst h1;subst h2;show bindL kindOf ((p,w)::P.zip vs) m p=_;unfold bindL;rw [jX fun v hv=>(Ax.mp nd).1 (List.of_mem_zip hv).1,AH hk];simp
 |p::P,w::vs,i + 1,m,nd,h1,h2,hk=>by show bindL kindOf ((p,w)::P.zip vs) m x=_;unfold bindL;exact jT (i:=i) (Ax.mp nd).2 (by simpa using h1) (by simpa using h2) hk
theorem jm {kindOf:Str->Option NameKind} {x:Str} {v:Value}:∀ {P:List Str} {vs:List Value} {i:Nat} {m:Str->Option Value},P.Nodup->P[i]? = some x->vs[i]? = some v->kindOf x≠some .local ->
  bindC kindOf (P.zip vs) m x=some v
 |[],_,_,_,_,h,_,_=>by simp at h
 |_::_,[],_,_,_,_,h,_=>by simp at h
 |p::P,w::vs,0,m,nd,h1,h2,hk=>by simp at h1 h2;subst h1;subst h2;show bindC kindOf ((p,w)::P.zip vs) m p=_;unfold bindC;rw [jh fun v hv=>(Ax.mp nd).1 (List.of_mem_zip hv).1,AJ hk];simp
 |p::P,w::vs,i + 1,m,nd,h1,h2,hk=>by show bindC kindOf ((p,w)::P.zip vs) m x=_;unfold bindC;exact jm (i:=i) (Ax.mp nd).2 (by simpa using h1) (by simpa using h2) hk
def start (N:List Str) (vs:List V):St:=vs.map some++List.replicate (N.length - vs.length) none
def Q7 (CX:CXT) (P:Program) (w:World) (K:W.Frag) (mg:Str->Option Value) (base:Heap) (N:List Str) (qual:Str) (scope:Scope) (f:Addr) (cd:Value) (A:Around) (outer:List Env) (s:Shared) (H:Hp) (E:XK):Cx where
 prog:=P
 w:=w
 K:=K
 mg:=mg
 base:=base
 A:=A.deeper (envOfC qual scope s.heap.objs.size f cd)
 N:=N
 s₀:=s
 H₀:=H
 env:=envOfC qual scope s.heap.objs.size f cd
 outer:=outer
 stack:=envOfC qual scope s.heap.objs.size f cd::outer
 ex:=[]
 calm:=A.handled.isNone
 fn:=fun _=>true
 pn:=[]
 xe:=fun e s'=>wpAny (model P w) (A.deeper (envOfC qual scope s.heap.objs.size f cd)) (leaving (envOfC qual scope s.heap.objs.size f cd) e) (fun _ s''=>CX outer H s E e s'') (fun e' s''=>CX outer H s E e' s'') s'
theorem qAE {sc:Scope} {n:Nat} {x:Str} (h:sc.names.lookup x=some .cell):∃ c,(cellsFrom n sc.names []).lookup x=some c:=by have q:=W.cellsFrom_some sc.names n [] (.inl h);exact Option.isSome_iff_exists.mp q
theorem qC2 {CX:CXT} {P:Program} {w:World} {K:W.Frag} {mg:Str->Option Value} {base:Heap} {N ps:List Str} {qual:Str} {scope:Scope} {f:Addr} {cd:Value} {A:Around} {outer:List Env} {s s1:Shared} {H:Hp} {E:XK} {us:List Value} {vs:List V}
  (S:FnScope N ps scope) (e0:Env0 P w K mg base A outer s H) (hl:vs.length=ps.length) (r:Vals vs us)
  (x:InCallC s s.heap.objs.size (bindL (envOfC qual scope s.heap.objs.size f cd).kindOf (ps.zip us) fun _=>none) (cellsFrom (s.heap.objs.size + 1) scope.names []) (bindC (envOfC qual scope s.heap.objs.size f cd).kindOf (ps.zip us) fun _=>none) s1) :
  Inv (Q7 CX P w K mg base N qual scope f cd A outer s H E) [] (start N vs) H s1:=by
 have hpl:ps.length≤N.length:=by have:=CU List.length S.pre;rw [B3] at this;omega
 obtain ⟨h1,tk,rfl,hk⟩:=x.done;have noA:∀ b:Addr,b ∉ (Q7 CX P w K mg base N qual scope f cd A outer s H E).ex:=fun b z=>absurd (show b∈([]:List Addr) from z) (by simp)
 refine ⟨⟨e0.mod,S.kind,rfl,rfl,AK _,fun y z c h1 h2 => ?_,fun y hy => ?_,fun y c _ h => ?_,fun z=>Option.isNone_iff_eq_none.mp z,Around.frames_deeper e0.frames,.inr ⟨rfl,rfl⟩,fun b z=>absurd z (noA b),e0.bs,e0.bsz,fun b _ _=>noA b,fun b z=>absurd z (noA b),e0.funs,e0.frf⟩,
  rfl,e0.bare,Un.kept hk,⟨_,x.toInCall.ns,fun i y v h1 h2 h3 => ?_⟩,fun y c h=>⟨_,x.cell y c h⟩,e0.hok.fresh (AK _),fun y c h => ?_,fun p hp=>absurd (show p∈([]:List (Addr×Obj)) from hp) (by simp),e0.hok.kept hk,?_,e0.hnd⟩
 ·exact name_of_addr x.apart (BU h1) (BU h2)
 ·have hy:scope.names.lookup y=some .cell∨scope.names.lookup y=some .free:=hy;rcases hy with hy |hy
  ·exact qAE hy
  ·exact absurd rfl (S.nofree _ (BU hy))
 ·exact Nat.le_of_lt (x.above y c (BU h))
 ·have hi:i < vs.length:=by
   unfold start at h2;by_cases hi:i < vs.length
   ·exact hi
   ·rw [Av (by simpa using hi)] at h2
    rw [Bh] at h2;split at h2 <;> cases h2
  have ha:vs[i]? = some v:=by
   unfold start at h2;rw [Af (by simpa using hi),A1] at h2
   cases e:vs[i]? with
   |none=>rw [e] at h2;cases h2
   |some a=>rw [e] at h2;cases h2;rfl
  obtain ⟨u,hu,rv⟩:=r.get ha;have hp:ps[i]? = some y:=by rw [← S.pre,List.getElem?_take_of_lt (by omega)];exact h1
  have ndP:ps.Nodup:=by rw [← S.pre];exact S.nd.sublist (List.take_sublist _ _)
  refine ⟨u,rv,?_⟩;rcases S.par y (Aw hp) with k |k
  ·exact .inl ⟨k,jT ndP hp hu k⟩
  ·obtain ⟨c,e⟩:=qAE (n:=s.heap.objs.size + 1) k;refine .inr ⟨.inl k,c,e,?_⟩;have q:=x.cell y c e;rw [jm ndP hp hu (by show scope.names.lookup y≠_;rw [k];decide)] at q
   exact q
 ·exact e0.hok.fresh (Nat.le_of_lt (x.above y c (BU h)))
 ·unfold start;show _=N.length;rw [AY,AC,List.length_replicate];omega
theorem qKG {CX:CXT} {P:Program} {w:World} {K:W.Frag} {mg:Str->Option Value} {base:Heap} {k:Nat} {f:Addr} {name qual:Str} {params:Arguments} {body:List Stmt} {scope:Scope} {dV kV doc pm cdv ct oc:Value} {an od:Option Addr}
  {osl:Array (Option Value)} {N ps:List Str} {sp:Sp} (lk:K.lookup f=some ⟨oc,od,.func (W.fnOf name qual params body scope dV kV doc pm an cdv ct),osl⟩) (hcd:W.codeIn K cdv qual=true) (S:FnScope N ps scope)
  (len:∀ vs H Q E,sp vs H Q E->vs.length=ps.length)
  (hbody:∀ (A:Around) (outer:List Env) (s:Shared) (H:Hp) (vs:List V) (Q:VK) (E:XK),Room k (A.deeper (envOfC qual scope s.heap.objs.size f cdv))->(0 < k->A.handled=none)->sp vs H Q E ->
   ∃ t,PSs (Q7 CX P w K mg base N qual scope f cdv A outer s H E) body t∧t { nx:=fun _ H'=>Q .non H',rt:=Q } (start N vs) H) :
  FnOk P w K mg base CX (k + 1) f (W.fnOf name qual params body scope dV kV doc pm an cdv ct) ps sp:=by
 refine ⟨len,fun A outer s H args us vs Q E hr e0 hb r hsp => ?_⟩;have hl:=len _ _ _ _ hsp;have KX:K.In s.heap:=e0.mod.kin.keeps fun b o e=>(e0.bs b o e).1;have lim:s.heap.NoLimit:=e0.mod.nolimit.keeps fun b o e=>(e0.bs b o e).1;have hkind:∀ y∈ps.zip us,scope.names.lookup y.1=some .local∨(scope.names.lookup y.1=some .cell∧((cellsFrom (s.heap.objs.size + 1) scope.names []).lookup y.1).isSome=true):=fun ⟨n,v⟩ hy=>by
  rcases S.par n (List.of_mem_zip hy).1 with q |q
  ·exact .inl q
  ·exact .inr ⟨q,W.cellsFrom_some _ _ _ (.inl q)⟩
 refine codeAny_call_function hr.depth (KX _ _ lk) rfl S.co S.gen rfl (W.codeRec_of KX hcd) (hb _ _ _ _ ?_);refine wpAny_newFunctionEnv_cells S.kind hkind fun env he s1 x => ?_;subst he;refine ⟨lim.keeps x.toInCall.keep,codeAny_func ?_⟩;obtain ⟨t,ht,hq⟩:=hbody A outer s H vs Q E (hr.deeper _) (fun z=>hr.hd (by omega)) hsp
 have I:Inv (Q7 CX P w K mg base N qual scope f cdv A outer s H E) [] (start N vs) H s1:=qC2 S e0 hl r x;refine Bc (ht [] s1 (start N vs) H _ I hq) (fun fl s' hs => ?_) fun e s' hs=>hs;have fin:∀ {σ':St} {H':Hp} {v:V} {u:Value},Inv (Q7 CX P w K mg base N qual scope f cdv A outer s H E) [] σ' H' s'->RelV v u->Q v H'->CE outer P w H s Q u s' :=
  fun {σ' H' v u} J rv q=>⟨v,H',J.os,J.bare,J.base,J.hok,rv,q⟩
 cases fl with
 |ret u =>obtain ⟨v,σ',H',J,rv,q⟩:=hs;exact fin J rv q
 |next =>obtain ⟨σ',H',J,q⟩:=hs;exact fin (v:=V.non) (u:=Value.none) J rfl q
 |brk =>obtain ⟨_,_,_,q⟩:=hs;exact False.elim q
 |cont =>obtain ⟨_,_,_,q⟩:=hs;exact False.elim q
end L2
namespace L2
open PySem PySem.Spec PyProof.Rows
section
variable {X:Cx} {x:Str} {p pos:Pos} {e:Expr} {es:List Expr} {t:TA} {id T:String} {r:List V->Hp->VK->Prop}
def tCB (r:List V->Hp->VK->Prop) (t:TA):TE:=fun σ H Q=>t σ H fun vs H1=>r vs H1 Q
theorem qF4 (hc:Wb X (.builtin id) r) (hg:Gl X x) (hm:X.mg x=none) (hv:bootBuiltins x=some (.builtin id)) (ha:PA X (e::es) t) (hn:x ≠ "__name__" := by decide) (hdb:(x==("__debug__":Str))=false:=by decide)
  (he:starEach (e::es) X.env=(false,eval e X.env)::starEach es X.env:=by rfl) (hpl:(backTo pos (starEach es X.env)).any (·.1)=false:=by rfl):PE X (.Call (.Name x p) (e::es) [] pos) (tCB r t):=by intro pins s σ H Q I h;refine Bo (zx I hg hm hv ?_ hn hdb);exact PyProof.Rows.callWith_builtin1 (thn (ha pos pins s σ H _ I h) fun us s1 ⟨vs,H1,I1,r1,q1⟩=>hc pins s1 σ H1 vs us Q I1 r1 q1) he hpl
theorem jd (hc:Wb X (.type T) r) (hg:Gl X x) (hm:X.mg x=none) (hv:bootBuiltins x=some (.type T)) (ha:PA X (e::es) t) (hn:x ≠ "__name__" := by decide) (hdb:(x==("__debug__":Str))=false:=by decide)
  (he:starEach (e::es) X.env=(false,eval e X.env)::starEach es X.env:=by rfl) (hpl:(backTo pos (starEach es X.env)).any (·.1)=false:=by rfl):PE X (.Call (.Name x p) (e::es) [] pos) (tCB r t):=by intro pins s σ H Q I h;refine Bo (zx I hg hm hv ?_ hn hdb);exact Bn (thn (ha pos pins s σ H _ I h) fun us s1 ⟨vs,H1,I1,r1,q1⟩=>hc pins s1 σ H1 vs us Q I1 r1 q1) he hpl
end
end L2
namespace HT
open PySem PyProof.Rows
theorem rcLt_int (A:Around) (s:Shared) (a:Int) (t:Tok) (c:Int) (u:Tok) (prog:Program) (w:World) (E:Value->Shared->Prop) (Q:Value->Shared->Prop) (h:Q (.bool (decide (a < c))) s) :
  wpAny (model prog w) A (richCompare .Lt (.int a t) (.int c u)) Q E s :=
 (PyProof.Rows.lt_int h:wpAny (model prog w) A (compareOp .Lt (.int a t) (.int c u)) Q E s)
section
variable {prog:Program} {w:World} {A:Around} {E:Value->Shared->Prop} {s:Shared}
theorem cat_tup {t b:Addr} {vs ws:List Value} {Q:Value->Shared->Prop} (ht:IsTup s.heap t vs.toArray) (hb:IsTup s.heap b ws.toArray) (hv:vs≠[])
  (h1:ws=[]->Q (.ref t) s) (h2:ws≠[]->Q (.ref s.heap.objs.size) { s with heap:=s.heap.push { cls := .type "tuple",data := .seq (vs++ws).toArray } })
  (hsz:vs.length + ws.length≤sizeLine):wpAny (model prog w) A (binaryOp .Add (.ref t) (.ref b)) Q E s:=by
 obtain ⟨⟨cls,dd,data,sl⟩,ho,hc,n,hd⟩:=id ht;obtain ⟨⟨cls2,dd2,data2,sl2⟩,ho2,hc2,n2,hd2⟩:=id hb;simp only at hc hd hc2 hd2;subst hc hd hc2 hd2;have e:vs.toArray++ws.toArray=(vs++ws).toArray:=by simp
 by_cases hw:ws=[]
 ·exact concat_meets ⟨_,ho,rfl⟩ ⟨_,ho2,rfl⟩ noFill_tuple_add seq_tuple_add PySem.F.slot_tuple_add PySem.F.entry_tuple_add (PySem.F.args_tuple_add_2 _ _)
   (tuple_addW1 t b vs.toArray ws.toArray n n2 dd dd2 sl sl2 (by simpa using hv) (by simp [hw])) ⟨ho,ho2,h1 hw⟩
 ·refine concat_meets ⟨_,ho,rfl⟩ ⟨_,ho2,rfl⟩ noFill_tuple_add seq_tuple_add PySem.F.slot_tuple_add PySem.F.entry_tuple_add (PySem.F.args_tuple_add_2 _ _)
   (tuple_addW2 t b vs.toArray ws.toArray n n2 dd dd2 sl sl2 (by simpa using hv) (by simpa using hw) (by rw [AO,AO];exact hsz)) ⟨ho,ho2,?_⟩
  rw [e];exact h2 hw
def sIx (n d:Nat):Option Int->Nat
 |none=>d
 |some v=>if v < 0 then (v + (n:Int)).toNat else min v.toNat n
theorem sIx_nat (n d k:Nat):sIx n d (some (k:Int))=min k n:=by show (if (k:Int) < 0 then ((k:Int) + (n:Int)).toNat else min (k:Int).toNat n)=min k n;rw [AJ (by omega),B9]
theorem qIb (n d:Nat) (hd:d≤n) (o:Option Int):sIx n d o≤n:=by
 cases o with
 |none=>exact hd
 |some v =>
  show (if v < 0 then (v + (n:Int)).toNat else min v.toNat n)≤n;by_cases hv:v < 0
  ·rw [AH hv];omega
  ·rw [AJ hv];exact Nat.min_le_right _ _
theorem qCV (v:Int) (n d:Nat):(if v < 0 then max (v + (n:Int)) 0 else min v (n:Int))=((sIx n d (some v):Nat):Int):=by
 show (if v < 0 then max (v + (n:Int)) 0 else min v (n:Int))=(((if v < 0 then (v + (n:Int)).toNat else min v.toNat n):Nat):Int);by_cases hv:v < 0
 ·simp only [AH hv];omega
 ·simp only [AJ hv];omega
theorem qBX (lo hi:Option Int) (n:Nat):Builtin.Slice.sliceAdjust lo hi 1 (n:Int)=(((sIx n 0 lo:Nat):Int),((sIx n n hi:Nat):Int)):=by
 have h1:¬ ((1:Int) < 0):=by omega
 unfold Builtin.Slice.sliceAdjust;simp only [h1,BX];refine Prod.ext ?_ ?_
 ·cases lo with
  |none=>rfl
  |some v=>exact qCV v n 0
 ·cases hi with
  |none=>rfl
  |some v=>exact qCV v n n
theorem qB9 (i j:Nat):Builtin.Slice.slicePlaces (i:Int) (j:Int) 1=j - i:=by
 unfold Builtin.Slice.slicePlaces;have h1:(1:Int) > 0:=by omega
 simp only [h1,CN,Int.ediv_one];split <;> omega
theorem YT {v:Value} {o:Option Int} {Q:Option Int->Shared->Prop} (p:IsPart v o) (h:Q o s):wpAny (model prog w) A (Builtin.Slice.slicePartIndex v) Q E s:=by
 cases p with
 |none=>exact slicePart_none h
 |int i t=>exact slicePart_int h
theorem sliceApplied_gen {sl:Addr} {vl vu:Value} {lo hi:Option Int} {n:Nat} {Q:Int×Int×Nat->Shared->Prop} (hs:s.heap.IsSliceOf sl vl vu .none) (pl:IsPart vl lo) (pu:IsPart vu hi)
  (h:Q (((sIx n 0 lo:Nat):Int),1,sIx n n hi - sIx n 0 lo) s):wpAny (model prog w) A (Builtin.Slice.sliceApplied (.ref sl) (pure (n:Int))) Q E s:=by
 obtain ⟨os,hos,hcs,hds⟩:=id hs;unfold Builtin.Slice.sliceApplied Builtin.Slice.sliceFields;refine AA (AA (BF hos hds (x:=vl) rfl (AA (BF hos hds (x:=vu) rfl (AA (BF hos hds (x := .none) rfl (AF ?_)))))));refine AA (slicePart_none ?_);show wpAny _ _ (if ((1:Int)==0)=true then _ else _) _ _ s;rw [AJ (by decide)]
 refine AA (YT pl (AA (YT pu (AA (AF ?_)))));show wpAny _ _ (match Builtin.Slice.sliceAdjust lo hi 1 (n:Int) with |(lo,hi)=>pure (lo,(1:Int),Builtin.Slice.slicePlaces lo hi 1)) _ _ s;rw [qBX lo hi n];show wpAny _ _ (pure (((sIx n 0 lo:Nat):Int),(1:Int),Builtin.Slice.slicePlaces ((sIx n 0 lo:Nat):Int) ((sIx n n hi:Nat):Int) 1)) _ _ s;rw [qB9];exact AF h
theorem qEa (xs:Array Value) (i k:Nat):((List.range k).filterMap fun (m:Nat)=>xs[((i:Int) + (m:Int) * 1).toNat]?).toArray=((xs.toList.drop i).take k).toArray:=by
 have e:(fun (m:Nat)=>xs[((i:Int) + (m:Int) * 1).toNat]?)=fun m=>xs[i + m]? := by
  funext m
  have:((i:Int) + (m:Int) * 1).toNat=i + m:=by omega
  rw [this]
 rw [e]
 have:=pick_run xs i k
 rw [List.filterMap_map] at this;have e2:((fun x=>xs[x]?) ∘ fun x=>i + x)=fun m=>xs[i + m]? := rfl;rw [e2] at this;rw [this]
theorem getItem_tuple_cut {t sl:Addr} {items:Array Value} {vl vu:Value} {lo hi:Option Int} {Q:Value->Shared->Prop} (ht:IsTup s.heap t items) (hs:s.heap.IsSliceOf sl vl vu .none) (pl:IsPart vl lo) (pu:IsPart vu hi)
  (hw:¬ (sIx items.size 0 lo=0∧sIx items.size items.size hi=items.size))
  (h:Q (.ref s.heap.objs.size) { s with heap:=s.heap.push { cls := .type "tuple",data := .seq ((items.toList.drop (sIx items.size 0 lo)).take (sIx items.size items.size hi - sIx items.size 0 lo)).toArray } })
  (hsz:items.size≤sizeLine):wpAny (model prog w) A (getItem (.ref t) (.ref sl)) Q E s:=by
 have htake:sizeOk (.seq ((items.toList.drop (sIx items.size 0 lo)).take (sIx items.size items.size hi - sIx items.size 0 lo)).toArray):=by show ((items.toList.drop (sIx items.size 0 lo)).take (sIx items.size items.size hi - sIx items.size 0 lo)).toArray.size≤sizeLine;rw [AO,B3,CH,Aa];omega
 have hj:sIx items.size items.size hi≤items.size:=qIb _ _ (AK _) hi;obtain ⟨os,hos,hcs,hds⟩:=id hs;have hTs:s.TypeIs (.ref sl) "slice" := ⟨os,hos,hcs⟩;unfold getItem;try with_reducible refine Ap ?_
 first |refine AA (AF ?_) |skip
 refine AA (wpAny_sequenceKey ht.typeIs (by decide) ?_)
 refine AA (Bg (name:=Str.ofString "__getitem__") ht.typeIs Bb
  (B2 Bb ht.typeIs entry_tuple_getitem ?_ (args_tuple_getitem _ _)))
 show wpAny _ _ (Builtin.Tuple.tupleItemsOf (.ref t) >>= _) _ _ s;refine AA (tupleItemsOf_ ht ?_);refine AA (Bp hTs ?_);rw [AH (by decide)]
 refine AA (sliceApplied_gen hs pl pu ?_);have hno:¬ ((((sIx items.size 0 lo:Nat):Int)==0&&(1:Int)==1&&(sIx items.size items.size hi - sIx items.size 0 lo)==items.size)=true):=by intro q;rw [AZ,AZ] at q;have q1:((sIx items.size 0 lo:Nat):Int)=0:=eq_of_beq q.1.1;have q2:sIx items.size items.size hi - sIx items.size 0 lo=items.size:=eq_of_beq q.2;exact hw ⟨by omega,by omega⟩
 show wpAny _ _ (if (((sIx items.size 0 lo:Nat):Int)==0&&(1:Int)==1&&(sIx items.size items.size hi - sIx items.size 0 lo)==items.size)=true then _ else _) _ _ s;rw [AJ hno,qEa];first
  |exact AA (m:=Builtin.Tuple.tupleExact _) (BM (AF ⟨_,rfl,AF h⟩) htake)
  |exact AA (m:=Builtin.Tuple.tupleExact _) (BM (AA (AF (AF ⟨_,rfl,AF h⟩))) htake)
  |exact AA (AA (m:=Builtin.Tuple.tupleExact _) (BM (AF (AF ⟨_,rfl,AF h⟩)) htake))
  |exact AA (AA (m:=Builtin.Tuple.tupleExact _) (BM (AF ⟨_,rfl,AF h⟩) htake))
end
end HT
namespace L2
open PySem PySem.Spec PyProof.Rows
abbrev TO:=St->Hp->(Option Int->Hp->Prop)->Prop
def PO (X:Cx) (e:Option Expr) (t:TO):Prop :=
 ∀ (pins:List (Addr×Obj)) (s:Shared) (σ:St) (H:Hp) (Q:Option Int->Hp->Prop),Inv X pins σ H s->t σ H Q ->
  wpAny (model X.prog X.w) X.A (evalPart e X.env) (fun u s' => ∃ o H',Inv X pins σ H' s'∧IsPart u o∧Q o H') X.xe s
def qHS:TO:=fun _ H Q=>Q none H
def qK1 (t:TE):TO:=fun σ H Q=>t σ H fun x H1 => ∃ i,x = .int i∧Q (some i) H1
section
variable {X:Cx} {e:Expr} {te:TE} {lo hi:Option Expr} {tl th:TO} {pos p2:Pos}
theorem qF6:PO X none qHS:=by intro pins s σ H Q I h;rw [evalPart_none];exact AF ⟨none,H,I,.none,h⟩
theorem qGS (h:PE X e te):PO X (some e) (qK1 te):=by intro pins s σ H Q I hw;rw [evalPart_some];refine thn (h pins s σ H _ I hw) fun u s1 ⟨x,H1,I1,r1,q1⟩ => ?_;obtain ⟨i,rfl,q⟩:=q1;obtain ⟨t,rfl⟩:=r1;exact ⟨some i,H1,I1,.int i t,q⟩
def SlR (X:Cx) (r:V->Option Int->Option Int->Hp->VK->Prop):Prop :=
 ∀ (pins:List (Addr×Obj)) (s:Shared) (σ:St) (H:Hp) (x:V) (v vl vu:Value) (lo hi:Option Int) (sl:Addr) (Q:VK),Inv X pins σ H s->RelV x v->s.heap.IsSliceOf sl vl vu .none->IsPart vl lo->IsPart vu hi->r x lo hi H Q ->
  ∃ T id,typeLookup (.type T) "__getitem__" = pure (some (.builtin id))∧s.TypeIs v T∧wpAny (model X.prog X.w) X.A (getItem v (.ref sl)) (EP X pins σ Q) X.xe s
theorem SlR.or {r r':V->Option Int->Option Int->Hp->VK->Prop} (h:SlR X r) (h':SlR X r'):SlR X (fun x lo hi H Q=>r x lo hi H Q∨r' x lo hi H Q):=by
 intro pins s σ H x v vl vu lo hi sl Q I rx hs pl pu q;rcases q with q |q
 ·exact h pins s σ H x v vl vu lo hi sl Q I rx hs pl pu q
 ·exact h' pins s σ H x v vl vu lo hi sl Q I rx hs pl pu q
def tSl (r:V->Option Int->Option Int->Hp->VK->Prop) (te:TE) (tl th:TO):TE:=fun σ H Q=>te σ H fun x H1=>tl σ H1 fun l H2=>th σ H2 fun u H3=>r x l u H3 Q
theorem qA2 {r:V->Option Int->Option Int->Hp->VK->Prop} (hr:SlR X r) (he:PE X e te) (hl:PO X lo tl) (hu:PO X hi th):PE X (.Subscript e (.Slice lo hi none p2) pos) (tSl r te tl th):=by intro pins s σ H Q I h;refine Subscript_ (thn (he pins s σ H _ I h) fun v s1 ⟨x,H1,I1,r1,q1⟩ => ?_);refine wpAny_Slice (thn (hl pins s1 σ H1 _ I1 q1) fun vl s2 ⟨l,H2,I2,pl,q2⟩=>thn (hu pins s2 σ H2 _ I2 q2) fun vu s3 ⟨u,H3,I3,pu,q3⟩ => ?_);rw [evalPart_none];refine AF ?_;have I4:Inv X pins σ H3 { s3 with heap:=s3.heap.push { cls := .type "slice",data := .fields #[vl,vu,.none] } }:=I3.kept (t':=s3.toks) fun b ob q=>AG _ q;obtain ⟨T,id,hT,ht,hg⟩:=hr pins { s3 with heap:=s3.heap.push { cls := .type "slice",data := .fields #[vl,vu,.none] } } σ H3 x v vl vu l u s3.heap.objs.size Q I4 r1 (Heap.IsSliceOf.new ..) pl pu q3;show wpAny (model X.prog X.w) X.A (subscriptTail e (.Slice lo hi none p2) v (.ref s3.heap.objs.size)) (EP X pins σ Q) X.xe { s3 with heap:=s3.heap.push { cls := .type "slice",data := .fields #[vl,vu,.none] } };exact tail_any (ops:=[.ref s3.heap.objs.size,v]) ht hT hg (by with_unfolding_all rfl)
def jF (xs:List V) (lo hi:Option Int):List V:=(xs.drop (HT.sIx xs.length 0 lo)).take (HT.sIx xs.length xs.length hi - HT.sIx xs.length 0 lo)
theorem yt (xs:List V) (lo hi:Option Int):(jF xs lo hi).length≤xs.length:=by unfold jF;rw [B3,CH];omega
def qLg (K:W.Frag):V->Option Int->Option Int->Hp->VK->Prop:=fun x lo hi H Q => ∃ a xs,x = .ref a∧SqT K H a xs ∧
 ¬ (HT.sIx xs.length 0 lo=0∧HT.sIx xs.length xs.length hi=xs.length) ∧ ∀ p,H p=none->Q (.ref p) (upd H p (.tup (jF xs lo hi)))
theorem sl_tup:SlR X (qLg X.K):=by
 intro pins s σ H x v vl vu lo hi sl Q I rx hs pl pu h;obtain ⟨a,xs,rfl,hx,hw,q⟩:=h;cases rx;obtain ⟨its,r,ht,hz⟩:=I.tuple hx;have hlen:its.toArray.size=xs.length:=by rw [AO];exact r.length.symm
 refine ⟨"tuple",_,PyProof.Rows.slot_tuple_getitem.lookup,ht.typeIs,?_⟩;refine HT.getItem_tuple_cut ht hs pl pu (by rw [hlen];exact hw) ?_ (by rw [hlen];exact hz)
 rw [hlen];refine ⟨.ref s.heap.objs.size,_,I.laid (t':=s.toks) (o := .tup (jF xs lo hi)) (fun b ob q=>AG _ q) (AK _) ?_,rfl,q _ (I.hok.fresh (AK _))⟩;exact ⟨Ae (yt xs lo hi) hz,_,(r.drop (HT.sIx xs.length 0 lo)).take (HT.sIx xs.length xs.length hi - HT.sIx xs.length 0 lo),IsTup.new _ _⟩
def qKU (K:W.Frag):R2:=fun x y H Q => ∃ a b xs ys,x = .ref a∧y = .ref b∧SqT K H a xs∧SqT K H b ys∧xs≠[]∧xs.length + ys.length≤sizeLine ∧
 (ys=[]->Q (.ref a) H)∧(ys≠[] -> ∀ p,H p=none->Q (.ref p) (upd H p (.tup (xs++ys))))
theorem Vals.nil_iff {xs:List V} {us:List Value} (r:Vals xs us):us=[] ↔ xs=[]:=by
 cases r with
 |nil=>simp
 |cons _ _=>simp
theorem qGL:OpR X (binaryOp .Add) (qKU X.K):=by
 intro pins s σ H x y v u Q I rx ry h;obtain ⟨a,b,xs,ys,rfl,rfl,ha,hb,hx,hz,q1,q2⟩:=h;cases rx;cases ry;obtain ⟨its,r1,p1,_⟩:=I.tuple ha;obtain ⟨its2,r2,p2,_⟩:=I.tuple hb;refine HT.cat_tup p1 p2 (fun z=>hx (r1.nil_iff.mp z)) (fun z=>⟨.ref a,H,I,rfl,q1 (r2.nil_iff.mp z)⟩) (fun z => ?_) (by rw [← r1.length,← r2.length];exact hz)
 refine ⟨.ref s.heap.objs.size,_,I.laid (t':=s.toks) (o := .tup (xs++ys)) (fun b ob q=>AG _ q) (AK _) ?_,rfl,q2 (fun w=>z (r2.nil_iff.mpr w)) _ (I.hok.fresh (AK _))⟩;exact ⟨by rw [AY];exact hz,_,r1.append r2,IsTup.new _ _⟩
end
end L2
namespace L2
open PySem PySem.Spec PyProof.Rows
def ixN (n:Nat) (i:Int):Option Nat:=if 0≤i then (if i < n then some i.toNat else none) else if -(n:Int)≤i then some (i + n).toNat else none
def atI {α:Type} (xs:List α) (i:Int):Option α:=(ixN xs.length i).bind fun j=>xs[j]?
theorem qCb {n:Nat} {i:Int} {j:Nat} (h:ixN n i=some j):seqIndex? i n=some j∧j < n ∧ -(n:Int)≤i∧i < n:=by
 unfold ixN at h;by_cases h0:0≤i
 ·rw [AH h0] at h;by_cases h1:i < n
  ·rw [AH h1] at h;have e:i.toNat=j:=Ai h;exact ⟨by rw [seqIndex_of h0 h1,e],by omega,by omega,h1⟩
  ·rw [AJ h1] at h;cases h
 ·rw [AJ h0] at h;by_cases h1:-(n:Int)≤i
  ·rw [AH h1] at h;have e:(i + n).toNat=j:=Ai h;exact ⟨by rw [seqIndex_neg (by omega) h1,e],by omega,h1,by omega⟩
  ·rw [AJ h1] at h;cases h
theorem Jr {α:Type} {xs:List α} {i:Int} {v:α} (h:atI xs i=some v):∃ j,seqIndex? i xs.length=some j∧xs[j]? = some v∧j < xs.length ∧ -(xs.length:Int)≤i∧i < xs.length:=by
 unfold atI at h;cases e:ixN xs.length i with
 |none=>rw [e] at h;cases h
 |some j =>rw [e] at h;obtain ⟨h1,h2,h3,h4⟩:=qCb e;exact ⟨j,h1,h,h2,h3,h4⟩
def qCm (b:Expr):Prop := ∀ o i,subscripted b false o i=operate [o,i] (getItem o i)
def IxR (X:Cx) (r:R2):Prop :=
 ∀ (value slice:Expr) (pins:List (Addr×Obj)) (s:Shared) (σ:St) (H:Hp) (x y:V) (v u:Value) (Q:VK),Inv X pins σ H s->RelV x v->RelV y u->r x y H Q ->
  subscripted slice false v u=operate [v,u] (getItem v u)->wpAny (model X.prog X.w) X.A (subscriptTail value slice v u) (EP X pins σ Q) X.xe s
def MtR (X:Cx) (id:String) (r:V->List V->Hp->VK->Prop):Prop :=
 ∀ (pins:List (Addr×Obj)) (s:Shared) (σ:St) (H:Hp) (x:V) (xs:List V) (v:Value) (us:List Value) (Q:VK),Inv X pins σ H s->RelV x v->Vals xs us->r x xs H Q ->
  wpAny (model X.prog X.w) X.A (call (.builtin id) (v::us)) (EP X pins σ Q) X.xe s
section
variable {X:Cx} {a b:Expr} {ta tb:TE} {pos:Pos}
theorem IxR.or {r r':R2} (h:IxR X r) (h':IxR X r'):IxR X (fun x y H Q=>r x y H Q∨r' x y H Q):=by
 intro value slice pins s σ H x y v u Q I rx ry q hs;rcases q with q |q
 ·exact h value slice pins s σ H x y v u Q I rx ry q hs
 ·exact h' value slice pins s σ H x y v u Q I rx ry q hs
theorem qKm {r:R2} (hr:IxR X r) (ha:PE X a ta) (hb:PE X b tb) (hs:qCm b):PE X (.Subscript a b pos) (tOp r ta tb):=by intro pins s σ H Q I h;exact Subscript_ (qII ha hb I h fun v u s2 x y H2 I2 rx ry q=>hr a b pins s2 σ H2 x y v u Q I2 rx ry q (hs _ _))
def qLB (K:W.Frag):R2:=fun x y H Q => ∃ p xs i v,x = .ref p∧y = .int i∧SqL K H p xs∧atI xs i=some v∧Q v H
def qKs (K:W.Frag):R2:=fun x y H Q => ∃ p xs i v,x = .ref p∧y = .int i∧SqT K H p xs∧atI xs i=some v∧Q v H
def qKv:R2:=fun x y H Q => ∃ z i c,x = .str z∧y = .int i∧z.length≤sizeLine∧atI z.cps.toList i=some c∧Q (.str ⟨#[c]⟩) H
theorem ix_list:IxR X (qLB X.K):=by
 intro value slice pins s σ H x y v u Q I rx ry h hs;obtain ⟨p,xs,i,z,rfl,rfl,hq,he,q⟩:=h;cases rx;obtain ⟨t,rfl⟩:=ry;obtain ⟨its,r,pl,hz⟩:=I.list hq;obtain ⟨j,h1,h2,h3,h4,h5⟩:=Jr he;obtain ⟨w,ew,rw'⟩:=r.get h2;have hl:=r.length;have hn:=yh;have fin:EP X pins σ Q w s:=⟨z,H,I,rw',q⟩;by_cases h0:0≤i
 ·have hj:i.toNat=j:=by rw [seqIndex_of h0 h5] at h1;exact Ai h1
  exact item_listR pl.isList h0 (by omega) (by rw [hj];simpa using ew) fin hs
 ·have hj:(i + (its.toArray.size:Int)).toNat=j:=by
   rw [seqIndex_neg (by omega) h4] at h1
   rw [AO,← hl];exact Ai h1
  exact subscriptTail_builtinR (x:=w) pl.isList.typeIs slot_list_getitem.lookup
   (wpAny_getItem_list_neg (Q:=fun r s'=>r=w∧EP X pins σ Q r s') pl.isList (by omega) (by rw [AO] <;> omega) (by omega) (by rw [hj];simpa using ew) ⟨rfl,fin⟩) hs
theorem ix_tup:IxR X (qKs X.K):=by
 intro value slice pins s σ H x y v u Q I rx ry h hs;obtain ⟨p,xs,i,z,rfl,rfl,hq,he,q⟩:=h;cases rx;obtain ⟨t,rfl⟩:=ry;obtain ⟨its,r,pl,hz⟩:=I.tuple hq;obtain ⟨j,h1,h2,h3,h4,h5⟩:=Jr he;obtain ⟨w,ew,rw'⟩:=r.get h2;have hl:=r.length;have hn:=yh;have fin:EP X pins σ Q w s:=⟨z,H,I,rw',q⟩;exact subscriptTail_builtinR (x:=w) pl.typeIs slot_tuple_getitem.lookup
  (getItem_tuple (j:=j) (Q:=fun r s'=>r=w∧EP X pins σ Q r s') pl (by omega) (by omega) (by rw [AO,← hl];exact h1) (by simpa using ew) ⟨rfl,fin⟩) hs
theorem qIx:IxR X qKv:=by
 intro value slice pins s σ H x y v u Q I rx ry h hs;obtain ⟨z,i,c,rfl,rfl,hz,he,q⟩:=h;obtain ⟨t,rfl⟩:=rx;obtain ⟨t',rfl⟩:=ry;obtain ⟨j,h1,h2,h3,h4,h5⟩:=Jr he;have hl:z.cps.toList.length=z.length:=by simp [Str.length]
 rw [hl] at h1 h4 h5;have hn:=yh;exact tail_any (typeIs_str s z t) slot_str_getitem.lookup (getItem_str (c:=c) (by
  have e1:decide (i < -(2 ^ 63:Int))=false:=AV (by omega)
  have e2:decide (i ≥ 2 ^ 63)=false:=AV (by omega)
  rw [e1,e2,Bool.or_false]) (by rw [h1];simpa using h2) ⟨.str ⟨#[c]⟩,H,I.tok _,⟨_,rfl⟩,q⟩) hs
def rIx (K:W.Frag):R2:=fun x y H Q=>qLB K x y H Q∨qKs K x y H Q∨qKv x y H Q
theorem qH6:IxR X (rIx X.K):=ix_list.or (ix_tup.or qIx)
theorem qBf (its:List Value) (n j:Nat) (u:Value):Obj.mapSeq (·.setIfInBounds j u) { cls := .type "list",data := .seq its.toArray n }={ cls := .type "list",data := .seq (its.set j u).toArray n }:=by simp [Obj.mapSeq]
theorem Inv.lst {pins:List (Addr×Obj)} {σ:St} {H:Hp} {s:Shared} {p:Addr} {xs:List V} (I:Inv X pins σ H s) (h:H p=some (.lst xs)) :
  ∃ (its:List Value) (n:Nat),Vals xs its∧s.heap.get? p=some { cls := .type "list",data := .seq its.toArray n }∧xs.length≤sizeLine:=by obtain ⟨z,its,n,r,e⟩:=I.hok p _ h;exact ⟨its,n,r,e,z⟩
theorem Inv.lstUpd {pins:List (Addr×Obj)} {σ:St} {H:Hp} {s:Shared} {p:Addr} {xs ys:List V} {its its':List Value} {n n':Nat} {f:Obj->Obj} (I:Inv X pins σ H s) (h:H p=some (.lst xs))
  (ho:s.heap.get? p=some { cls := .type "list",data := .seq its.toArray n }) (hf:f { cls := .type "list",data := .seq its.toArray n }={ cls := .type "list",data := .seq its'.toArray n' }) (r:Vals ys its') (hz:ys.length≤sizeLine) (t:Nat) :
  Inv X pins σ (upd H p (.lst ys)) { s with heap:=s.heap.update p f,toks:=t }:=by
 have e:(s.heap.update p f).get? p=some { cls := .type "list",data := .seq its'.toArray n' }:=by rw [BD f ho (by rw [hf] <;> rfl),hf]
 refine I.write (x:=p) (e:=p) (by rw [h];trivial) (.inl rfl) (fun b u hb q=>(Ak _ _ (Ne.symm hb)).trans q) ⟨_,e⟩ ?_
 exact ⟨hz,its',n',r,e⟩
def qHs:V->V->V->Hp->(Hp->Prop)->Prop:=fun o i v H Q => ∃ p xs k j,o = .ref p∧i = .int k∧H p=some (.lst xs)∧ixN xs.length k=some j∧Q (upd H p (.lst (xs.set j v)))
theorem qE0:qKk X qHs:=by
 intro pins s σ H o i v ov iv u Q I ro ri rv h;obtain ⟨p,xs,k,j,rfl,rfl,hp,hj,q⟩:=h;cases ro;obtain ⟨t,rfl⟩:=ri;obtain ⟨its,n,r,ho,hz⟩:=I.lst hp;obtain ⟨h1,h2,h3,h4⟩:=qCb hj;have hl:=r.length;have hn:=yh;have I':Inv X pins σ (upd H p (.lst (xs.set j v))) { s with heap:=s.heap.update p (Obj.mapSeq (·.setIfInBounds j u)) } :=
  I.lstUpd hp ho (qBf its n j u) (r.set rv j) (by rw [List.length_set];exact hz) s.toks
 by_cases h0:0≤k
 ·have hk:k.toNat=j:=by rw [seqIndex_of h0 h4] at h1;exact Ai h1
  exact W.ki_setAt ho h0 (by omega) (by rw [AO,← hl];exact h4) (by rw [hk];exact ⟨_,I',q⟩)
 ·have hk:(k + (its.toArray.size:Int)).toNat=j:=by
   rw [seqIndex_neg (by omega) h3] at h1
   rw [AO,← hl];exact Ai h1
  exact W.ki_setBack ho (by omega) (by rw [AO,← hl];exact h3) (by omega) (by rw [hk];exact ⟨_,I',q⟩)
theorem Jh (lo hi:Option Int) (n:Nat):(sliceBounds lo hi none n).1=((HT.sIx n 0 lo:Nat):Int)∧(sliceBounds lo hi none n).2.1=((HT.sIx n n hi:Nat):Int)∧(sliceBounds lo hi none n).2.2=1:=by
 refine ⟨?_,?_,rfl⟩
 ·cases lo with
  |none=>simp [sliceBounds,HT.sIx]
  |some i =>
   simp only [sliceBounds,HT.sIx,Option.getD_none,show (1:Int) > 0 by decide,CN]
   by_cases h:i < 0
   ·simp only [h,CN] <;> omega
   ·simp only [h,BX] <;> omega
 ·cases hi with
  |none=>simp [sliceBounds,HT.sIx]
  |some i =>
   simp only [sliceBounds,HT.sIx,Option.getD_none,show (1:Int) > 0 by decide,CN]
   by_cases h:i < 0
   ·simp only [h,CN] <;> omega
   ·simp only [h,BX] <;> omega
theorem jG (its:List Value) (lo hi:Option Int):slicePick its.toArray lo hi none=((its.drop (HT.sIx its.length 0 lo)).take (HT.sIx its.length its.length hi - HT.sIx its.length 0 lo)).toArray:=by obtain ⟨h1,h2,h3⟩:=Jh lo hi its.toArray.size;unfold slicePick;rw [h1,h2,h3];simp only [sliceRange_one,pick_run,AO] <;> rfl
def qLk (K:W.Frag):V->Option Int->Option Int->Hp->VK->Prop:=fun x lo hi H Q => ∃ a xs,x = .ref a∧SqL K H a xs ∧ ∀ p,H p=none->Q (.ref p) (upd H p (.lst (jF xs lo hi)))
theorem qHC:SlR X (qLk X.K):=by
 intro pins s σ H x v vl vu lo hi sl Q I rx hs pl pu h;obtain ⟨a,xs,rfl,hx,q⟩:=h;cases rx;obtain ⟨its,r,ht,hz⟩:=I.list hx;have hlen:=r.length;refine ⟨"list",_,slot_list_getitem.lookup,ht.isList.typeIs,?_⟩;refine wpAny_getItem_list_slice ht.isList hs pl pu .none (by simp) ?_ (by rw [AO] <;> omega)
 rw [jG,← hlen];refine ⟨.ref s.heap.objs.size,_,I.laid (t':=s.toks) (o := .lst (jF xs lo hi)) (fun b ob q=>AG _ q) (AK _) ?_,rfl,q _ (I.hok.fresh (AK _))⟩;exact ⟨Ae (yt xs lo hi) hz,_,0,(r.drop (HT.sIx xs.length 0 lo)).take (HT.sIx xs.length xs.length hi - HT.sIx xs.length 0 lo),AX _ rfl⟩
theorem JN:Wb X (.builtin "len") (fun xs H Q => ∃ p ys,xs=[.ref p]∧(SqL X.K H p ys∨SqT X.K H p ys)∧Q (.int ys.length) H):=by
 intro pins s σ H xs us Q I r h;obtain ⟨p,ys,rfl,hq,q⟩:=h;obtain ⟨u,rfl,rx⟩:=yA r;cases rx;have hn:=yh;rcases hq with hq |hq
 ·obtain ⟨its,r',pl,hz⟩:=I.list hq;have hlen:=r'.length;exact Calls.call_len_list pl.isList (by simp only [AO] <;> omega) ⟨.int ys.length,H,I.tok _,⟨s.toks + 1,by rw [AO,hlen]⟩,q⟩
 ·obtain ⟨its,r',pl,hz⟩:=I.tuple hq;have hlen:=r'.length;exact len_tuple pl (by simp only [AO] <;> omega) ⟨.int ys.length,H,I.tok _,⟨s.toks + 1,by rw [AO,hlen]⟩,q⟩
theorem JM:Wb X (.type "list") (fun xs H Q => ∃ p ys,xs=[.ref p]∧(SqL X.K H p ys∨SqT X.K H p ys) ∧ ∀ l,H l=none->Q (.ref l) (upd H l (.lst ys))):=by
 intro pins s σ H xs us Q I r h;obtain ⟨p,ys,rfl,hq,q⟩:=h;obtain ⟨u,rfl,rx⟩:=yA r;cases rx;have fin:∀ (its:List Value),Vals ys its->ys.length≤sizeLine -> ∀ (h':Heap) (c':Nat),(∀ b o',s.heap.get? b=some o'->h'.get? b=some o') ->
   h'.get? s.heap.objs.size=some { cls := .type "list",dict:=none,data := .seq its.toArray c',slots := #[] }->EP X pins σ Q (.ref s.heap.objs.size) { s with heap:=h' }:=fun its r' hz h' c' kp e =>
  ⟨.ref s.heap.objs.size,_,I.laid (t':=s.toks) kp (AK _) (show ObjOk X.prog X.w _ h' _ (.lst ys) from ⟨hz,its,c',r',e⟩),rfl,q _ (I.hok.fresh (AK _))⟩
 rcases hq with hq |hq
 ·obtain ⟨its,r',pl,hz⟩:=I.list hq;have hlen:=r'.length;obtain ⟨o,ho,hc,n,hd⟩:=pl.isList;exact call_list_seq p (.inl rfl) ho hc hd (fun h' c' kp e=>fin its r' hz h' c' kp e) (by simp only [AO] <;> omega)
 ·obtain ⟨its,r',pl,hz⟩:=I.tuple hq;have hlen:=r'.length;obtain ⟨o,ho,hc,n,hd⟩:=pl;exact call_list_seq p (.inr rfl) ho hc hd (fun h' c' kp e=>fin its r' hz h' c' kp e) (by simp only [AO] <;> omega)
theorem jM:Wb X (.type "tuple") (fun xs H Q => ∃ p ys,xs=[.ref p]∧((SqL X.K H p ys ∧ ∀ l,H l=none->Q (.ref l) (upd H l (.tup ys)))∨(SqT X.K H p ys∧Q (.ref p) H))):=by
 intro pins s σ H xs us Q I r h;obtain ⟨p,ys,rfl,h⟩:=h;obtain ⟨u,rfl,rx⟩:=yA r;cases rx;rcases h with ⟨hq,q⟩ |⟨hq,q⟩
 ·obtain ⟨its,r',pl,hz⟩:=I.list hq;have hlen:=r'.length;refine call_tuple_list pl.isList (fun h' kp => ?_) (by simp only [AO] <;> omega)
  have I1:Inv X pins σ H { s with heap:=h' }:=I.kept (t':=s.toks) kp;have I2:Inv X pins σ (upd H h'.objs.size (.tup ys)) { s with heap:=h'.push { cls := .type "tuple",data := .seq its.toArray } } :=
   I1.laid (t':=s.toks) (fun b o e=>AG _ e) (AK _) (show ObjOk X.prog X.w _ _ _ (.tup ys) from ⟨hz,its,r',IsTup.new _ _⟩)
  exact ⟨.ref h'.objs.size,_,I2,rfl,q _ (I1.hok.fresh (AK _))⟩
 ·obtain ⟨its,r',pl,hz⟩:=I.tuple hq;exact call_tuple_same pl ⟨.ref p,H,I,rfl,q⟩
def tyV (K:W.Frag) (T:String) (x:V) (H:Hp):Prop:=match x with
 | .str _=>T = "str"
 | .int _=>T = "int"
 | .ref p=>(T = "list" ∧ ∃ xs,SqL K H p xs)∨(T = "tuple" ∧ ∃ o,K.lookup p=some o∧o.cls = .type "tuple" ∧ o.dict=none) ∨
   (T = "dict" ∧ ((∃ kvs,H p=some (.dK kvs)) ∨ ∃ kvs,H p=some (.dT kvs)))∨(T = "set" ∧ ∃ S n,H p=some (.set S n))
 |_=>False
theorem qI7 {pins:List (Addr×Obj)} {σ:St} {H:Hp} {s:Shared} {T:String} {x:V} {v:Value} (I:Inv X pins σ H s) (r:RelV x v) (ty:tyV X.K T x H) :
  s.TypeIs v T ∧ ∀ a,v = .ref a -> ∃ ob,s.heap.get? a=some ob∧ob.dict=none:=by
 cases x with
 |str z =>obtain ⟨t,rfl⟩:=r;cases (show T = "str" from ty);exact ⟨typeIs_str s z t,fun _ e=>nomatch e⟩
 |int i =>obtain ⟨t,rfl⟩:=r;cases (show T = "int" from ty);exact ⟨Cb s i t,fun _ e=>nomatch e⟩
 |ref p =>
  cases r;rcases ty with ⟨rfl,xs,hq⟩ |⟨rfl,o,hk,hc,hd⟩ |⟨rfl,hk⟩ |⟨rfl,S,n,hk⟩
  ·obtain ⟨its,_,pl,_⟩:=I.list hq;refine ⟨pl.isList.typeIs,fun a e => ?_⟩;cases e;obtain ⟨o,n,e,c,hd,_⟩:=pl;exact ⟨o,e,hd⟩
  ·refine ⟨⟨o,I.kIn p o hk,hc⟩,fun a e => ?_⟩;cases e;exact ⟨o,I.kIn _ o hk,hd⟩
  ·have z:∃ o,s.heap.get? p=some o∧o.ExactDict:=by
    rcases hk with ⟨kvs,hk⟩ |⟨kvs,hk⟩
    ·obtain ⟨_,_,_,_,o,_,_,e,ex,_⟩:=I.hok p _ hk;exact ⟨o,e,ex⟩
    ·obtain ⟨_,_,_,_,o,_,_,e,ex,_⟩:=I.hok p _ hk;exact ⟨o,e,ex⟩
   obtain ⟨o,e,ex⟩:=z;refine ⟨⟨o,e,ex.1⟩,fun a e2 => ?_⟩;cases e2;exact ⟨o,e,ex.2.1⟩
  ·obtain ⟨o,_,_,_,e,ex,_⟩:=I.hok p _ hk;refine ⟨⟨o,e,ex.1⟩,fun a e2 => ?_⟩;cases e2;exact ⟨o,e,ex.2.1⟩
 |_=>exact False.elim ty
def tBM (K:W.Frag) (T:String) (r:V->List V->Hp->VK->Prop) (to:TE) (t:TA):TE:=fun σ H Q=>to σ H fun x H1=>tyV K T x H1∧t σ H1 fun xs H2=>r x xs H2 Q
variable {o e:Expr} {es:List Expr} {to:TE} {t:TA} {name:Str} {apos cpos:Pos} {T id:String} {r:V->List V->Hp->VK->Prop}
theorem qEg (pa:PlainAttrs T) (slot:Slot T name id) (hty:typeOf (.builtin id)=pure (.type "method_descriptor")) (hm:MtR X id r) (ho:PE X o to) (ha:PA X (e::es) t)
  (hbase:attributeBase o name X.env (eval o X.env)=eval o X.env:=by rfl)
  (hfew:((backTo cpos (starEach (e::es) X.env)).all (fun x => !x.1)&&(backToKw cpos (keywordEach [] X.env)).all (fun x=>x.1.isSome)
   && decide ((e::es).length + ([]:List Keyword).length + (if ([]:List Keyword).isEmpty then 0 else 1) < 30))=true:=by rfl)
  (hline:(apos.endLine==cpos.line)=true:=by rfl) (hs:starEach (e::es) X.env=(false,eval e X.env)::starEach es X.env:=by rfl) (hplain:(backTo cpos (starEach es X.env)).any (·.1)=false:=by rfl) :
  PE X (.Call (.Attribute o name apos) (e::es) [] cpos) (tBM X.K T r to t):=by
 intro pins s σ H Q I h;refine wpAny_Call_method_late hbase hfew hline rfl (thn (ho pins s σ H _ I h) fun v s1 ⟨x,H1,I1,r1,ty,q1⟩ => ?_);obtain ⟨h1,h2⟩:=qI7 I1 r1 ty;refine ⟨T,id,pa,slot,hty,h1,h2,?_⟩;have hA:=ha cpos pins s1 σ H1 _ I1 q1;rw [hs] at hA ⊢;refine Calls.callWith_builtin (by show (false || (backTo cpos (starEach es X.env)).any (·.1))=false;rw [hplain] <;> rfl) (Calls.evalArgs_plain ?_)
 exact thn hA fun us s2 ⟨vs,H2,I2,r2,q2⟩=>hm pins s2 σ H2 x vs v us Q I2 r1 r2 q2
end
end L2
namespace L2
open PySem PySem.Spec PyProof.Rows
def MtM (X:Cx) (id:String) (r:V->List V->Hp->VK->Prop):Prop :=
 ∀ (pins:List (Addr×Obj)) (s:Shared) (σ:St) (H:Hp) (x:V) (xs:List V) (v:Value) (us:List Value) (Q:VK),Inv X pins σ H s->RelV x v->Vals xs us->r x xs H Q ->
  wpAny (model X.prog X.w) X.A (call (.builtin id) (v::us)) (EP X pins σ Q) X.xe s
theorem Vals.one:∀ {x:V} {us:List Value},Vals [x] us -> ∃ u,us=[u]∧RelV x u
 |_,_,.cons r .nil=>⟨_,rfl,r⟩
theorem Vals.rep {xs:List V} {us:List Value} (h:Vals xs us):∀ k:Nat,Vals (List.replicate k xs).flatten (List.replicate k us).flatten
 |0 => .nil
 |k + 1=>by rw [BV,BV,Bt,Bt];exact Vals.append h (Vals.rep h k)
theorem jP (its:List Value):∀ (k:Nat) (acc:List Value),
  List.foldl (fun x1 x2=>x1++x2) acc.toArray (List.replicate k its.toArray)=(acc++(List.replicate k its).flatten).toArray
 |0,acc=>by simp
 |k + 1,acc=>by
  have e:acc.toArray++its.toArray=(acc++its).toArray:=by simp
  have e2:(acc++its)++(List.replicate k its).flatten=acc++(List.replicate (k + 1) its).flatten:=by rw [BV,Bt,Al]
  rw [← e2,← jP its k (acc++its),← e,BV,List.foldl_cons]
section
variable {X:Cx} {pins:List (Addr×Obj)} {σ:St} {H:Hp} {s:Shared} {l b:Addr} {xs ys zs:List V}
theorem Inv.lset {its its':List Value} {n:Nat} {f:Array Value->Array Value} {t':Nat} (I:Inv X pins σ H s) (hH:H l=some (.lst xs))
  (e:s.heap.get? l=some { cls := .type "list",data := .seq its.toArray n }) (hf:f its.toArray=its'.toArray) (hv:Vals ys its') (hz:ys.length≤sizeLine) :
  Inv X pins σ (upd H l (.lst ys)) { s with heap:=s.heap.update l (Obj.mapSeq f),toks:=t' }:=by
 have q:=PySem.IsL.update e f;rw [hf] at q;refine I.write (x:=l) (e:=l) (by rw [hH];exact trivial) (.inl rfl) (fun b' u hb hu=>(Ak s.heap (Obj.mapSeq f) (Ne.symm hb)).trans hu) ⟨_,q⟩ ?_
 exact ⟨hz,its',_,hv,q⟩
theorem Inv.lnew {its:List Value} {t':Nat} (I:Inv X pins σ H s) (hv:Vals ys its) (hz:ys.length≤sizeLine) :
  Inv X pins σ (upd H s.heap.objs.size (.lst ys)) { s with heap:=s.heap.push { cls := .type "list",data := .seq its.toArray },toks:=t' } :=
 I.laid (fun _ _ q=>AG _ q) (AK _) ⟨hz,its,0,hv,AX _ rfl⟩
theorem Inv.fresh (I:Inv X pins σ H s):H s.heap.objs.size=none:=I.hok.fresh (AK _)
theorem Inv.lstM (I:Inv X pins σ H s) (hH:H l=some (.lst xs)):xs.length≤sizeLine ∧ ∃ (its:List Value) (n:Nat),Vals xs its∧xs.length=its.length∧s.heap.get? l=some { cls := .type "list",data := .seq its.toArray n }:=by obtain ⟨z,its,n,r,e⟩:=I.hok l _ hH;exact ⟨z,its,n,r,r.length,e⟩
theorem qEZ {n:Nat} (h:n≤sizeLine):Builtin.List.listTooLong n=false:=by unfold Builtin.List.listTooLong;exact AV (by omega)
end
section
variable {X:Cx}
def qHN:V->List V->Hp->VK->Prop:=fun x vs H Q => ∃ l xs y,x = .ref l∧vs=[y]∧H l=some (.lst xs)∧xs.length < sizeLine∧Q .non (upd H l (.lst (xs++[y])))
theorem jv:MtM X "list.append" qHN:=by
 intro pins s σ H x vs v us Q I rx rv h;obtain ⟨l,xs,y,rfl,rfl,hH,hz,q⟩:=h;cases rx;obtain ⟨u,rfl,ru⟩:=rv.one;obtain ⟨z,its,n,r,hl,e⟩:=I.lstM hH;refine call_meets F.slot_list_append ⟨_,e,rfl⟩ F.entry_list_append (F.args_list_append_2 _ _) (PySem.list_append l its.toArray n u (by rw [AO];omega)) ⟨e,?_⟩
 refine ⟨.non,_,I.lset (its':=its++[u]) hH e (by simp) (r.append (.cons ru .nil)) ?_,rfl,q⟩
 rw [AY,BZ];omega
def qLc:R2:=fun x y H Q => ∃ l k xs,x = .ref l∧y = .int k∧H l=some (.lst xs) ∧ -(2 ^ 63)≤k∧k < 2 ^ 63∧xs.length * k.toNat≤sizeLine ∧
 ∀ p,H p=none->Q (.ref p) (upd H p (.lst (List.replicate k.toNat xs).flatten))
theorem qGl {α:Type} (xs:List α) (k:Nat):(List.replicate k xs).flatten.length=k * xs.length:=by
 induction k with
 |zero=>simp
 |succ k ih=>rw [BV,Bt,AY,ih,Nat.succ_mul,Nat.add_comm]
theorem qIO:OpR X (binaryOp .Mult) qLc:=by
 intro pins s σ H x y v u Q I rx ry h;obtain ⟨l,k,xs,rfl,rfl,hH,h1,h2,hz,q⟩:=h;cases rx;obtain ⟨t,rfl⟩:=ry;obtain ⟨z,its,n,r,hl,e⟩:=I.lstM hH;have hlen:its.toArray.size * k.toNat≤sizeLine:=by rw [AO,← hl];exact hz
 have hcap:¬ its.toArray.size * k.toNat > (2 ^ 63 - 1) / 8:=by
  have:(sizeLine:Nat)≤(2 ^ 63 - 1) / 8:=by decide
  omega
 have hfit:¬ (!Builtin.List.listFitsIndex k)=true:=by rw [fitsIndex_both h1 h2];exact BP
 have hlong:¬ Builtin.List.listTooLong (its.toArray.size * k.toNat)=true:=by rw [qEZ hlen];exact BP
 have hnew:List.foldl (fun x1 x2=>x1++x2) #[] (List.replicate (if its.toArray.isEmpty=true then 0 else k.toNat) its.toArray)=(List.replicate k.toNat its).flatten.toArray:=by
  have f0:∀ m:Nat,List.foldl (fun x1 x2=>x1++x2) #[] (List.replicate m its.toArray)=(List.replicate m its).flatten.toArray:=fun m=>by
   have:=jP its m []
   rw [List.nil_append] at this;exact this
  rw [f0];cases its with
  |nil=>simp
  |cons a r'=>rw [AJ (by simp)]
 refine wpAny_binaryOp_repeat_ref (T := "list") (U := "int") (by decide) ⟨_,e,rfl⟩ (fun s'=>Cb s' k t) noFill_list_mul F.fills_int_mul F.slot_int_rmul repeat_list F.slot_int_index.lookup
  (call_meets F.slot_int_rmul (Cb s k t) F.entry_int_rmul (F.args_int_rmul_2 _ _) (int___rmul___int_list k t l its.toArray n)
   ⟨e,rfl,⟨_,e,rfl⟩,call_meets F.slot_list_mul ⟨_,e,rfl⟩ F.entry_list_mul (F.args_list_mul_2 _ _) (AutoListH.list___mul___list_int_3 l its.toArray n k t hfit hcap hlong) ⟨e,?_⟩⟩)
 rw [hnew];exact ⟨.ref _,_,I.lnew (t':=s.toks) (r.rep k.toNat) (by rw [qGl,Nat.mul_comm];exact hz),rfl,q _ I.fresh⟩
end
end L2
namespace Att
open PySem PySem.W PySem.Calls PyProof.Rows
theorem YD {P:Params} {h:Heap}:∀ (ns:List Int) (vs:List Value),WellAll P h vs (ns.map WData.int)->IntsAre vs ns:=by
 intro ns;induction ns with
 |nil =>intro vs w;rw [List.map_nil] at w;cases w;exact .nil
 |cons n ns ih =>
  intro vs w;rw [Aj] at w;cases w with
  |cons a b =>cases a;exact .cons _ _ (ih _ b)
theorem qDu {l:OpenLaw} {n:Nat} (hn:l.most=some n) {P:Params} {h:Heap} {args:List WData} {vals:List Value}
  (hpre:l.row.toRowW.claim.pre args=true) (hwl:WellAll P h vals args) :
  ∃ a vs ns,vals=[Value.ref a]∧args=[WData.list (ns.map WData.int)]∧h.get? a=some { cls := .type "list",data := .seq vs.toArray }∧IntsAre vs ns∧ns.length≤n:=by
 have hsh:WShape.hasAll [] args [.list .int]=true:=(pre_splitW hpre).1;have hc:l.pre.holds [] { args:=args }=true:=(pre_splitW hpre).2;obtain ⟨d,r,rfl,h1,h2⟩:=hasAllW_cons hsh;obtain rfl:=hasAllW_nil h2;obtain ⟨xs,rfl,h3⟩:=hasW_list h1;obtain ⟨ns,rfl⟩:=items_int h3;have hlen:ns.length≤n:=by
  unfold OpenLaw.pre at hc;have h4:(WTm.not (.lt (.lit (.int (n:Int))) (.len (.arg 0)))).holds [] { args:=[.list (ns.map .int)] }=true:=by have h4:=(holds_andW hc).1;rw [hn] at h4;exact h4
  have h5:=condW_of h4 (w_not (w_lt w_lit (w_len_list (w_arg rfl))));rw [AC] at h5;refine Nat.le_of_not_lt fun q => ?_;have q':(n:Int) < ((ns.length:Nat):Int):=by omega
  first
   |(rw [AQ q'] at h5;exact absurd h5 (by decide))
   |(simp at h5;omega)
 cases hwl with
 |cons w1 w2 =>
  cases w2;cases w1 with
  |list ho hall=>exact ⟨_,_,ns,rfl,rfl,ho,YD ns _ hall,hlen⟩
theorem qC5 (l:OpenLaw) (args:List WData):l.row.toRowW.claim.post args (.bool true) args=true :=
 postW_of (r:=l.row.toRowW) (X:=(true==true))
  (show WShape.has [] (.bool true) .bool=true by first |rfl |decide |simp [WShape.has,WShape.arms,WShape.armsAll])
  (show (WTm.eq .res (.lit (.bool true))).value [] { args:=args,res:=some (.bool true),after:=args }=some (.bool (true==true)) from w_eq_bool (w_res rfl) w_lit) rfl
end Att
namespace L2
open PySem PySem.Spec PyProof.Rows
theorem jk:∀ {vs:List Value} {ns:List Int},IntsAre vs ns->Vals (ns.map V.int) vs
 |_,_,.nil => .nil
 |_,_,.cons n t h => .cons ⟨t,rfl⟩ (jk h)
def qIp (H:Hp):Prop := ∀ b,H b=none ∨ ∃ o xs,H b=some (.frz o (.lst xs))
theorem qFs {P:Program} {w:World} {K:W.Frag} {mg mb:Str->Option Value} {CX:CXT} {k:Nat} {fa a:Addr} {fd:FuncData} {x:Str} {sp:Sp} {s₁:Shared} {vs:List Value} {ns:List Int}
  (KX:K.In s₁.heap) (hns:s₁.heap.Ns mainGlobals mg) (hb:s₁.heap.Ns builtinsNs mb) (hbb:∀ x:Str,x ≠ "__name__" -> mb x=bootBuiltins x) (hlim:s₁.heap.NoLimit) (hg:s₁.gens = #[])
  (ha:s₁.heap.get? a=some { cls := .type "list",data := .seq vs.toArray }) (hi:IntsAre vs ns) (hl:ns.length≤sizeLine) (hr:Room k callerA)
  (F:∀ base:Heap,K.In base->base.Ns mainGlobals mg->FnOk P w K mg base CX k fa fd [x] sp) (hbind:∀ (s:Shared) (u:Value),BindsTo s fd ⟨[u],[]⟩ [(x,u)])
  (hsp:∀ H:Hp,qIp H->SqL K H a (ns.map V.int)->sp [.ref a] H (fun v _=>v = .bl true) fun _ _ _=>False)
  (hCX:∀ H e s',CX [] H s₁ (fun _ _ _=>False) e s'->False) :
  codeAny (model P w) callerA (.call (.ref fa) ⟨[.ref a],[]⟩) (fun r s'=>r = .ok (.ret (.bool true))∧OldK s₁.heap s'.heap∧s'.os=s₁.os∧AllBare s'.gens) s₁:=by
 have rv:=jk hi;have lenV:=hi.length
 -- from an abstract heap in which nothing but the script may be tracked
 have core:∀ H:Hp,qIp H->SqL K H a (ns.map V.int)->HOk P w H s₁.heap->(∀ b,H b≠none->b=a)->(H a≠none->K.lookup a=none) ->
   codeAny (model P w) callerA (.call (.ref fa) ⟨[.ref a],[]⟩) (fun r s'=>r = .ok (.ret (.bool true))∧OldK s₁.heap s'.heap∧s'.os=s₁.os∧AllBare s'.gens) s₁:=by
  intro H hO hS hok hA hK;have base_of:∀ {b:Addr} {o:Obj},s₁.heap.get? b=some o->H b=none->(JR s₁.heap H).get? b=some o:=fun e n=>qEH e n;have noA:∀ {b:Addr} {o:Obj} {es:Array DictEntry} {ep:Nat},s₁.heap.get? b=some o->o.data = .dict es ep->H b=none:=fun {b o es ep} e d=>by
   cases q:H b with
   |none=>rfl
   |some u =>
    have e':b=a:=hA b (by rw [q];simp)
    subst e';rw [ha] at e;cases e;have d':Data.seq vs.toArray _=Data.dict es ep:=d;cases d'
  have nsK:∀ {b:Addr} {m:Str->Option Value},s₁.heap.Ns b m->(JR s₁.heap H).Ns b m:=fun {b m} ⟨o,es,ep,e,d,r⟩=>⟨o,es,ep,base_of e (noA e d),d,r⟩;have hKb:K.In (JR s₁.heap H):=fun b o e=>base_of (KX b o e) (by
   cases q:H b with
   |none=>rfl
   |some u =>
    have e':b=a:=hA b (by rw [q];simp)
    subst e';rw [hK (by rw [q];simp)] at e;cases e)
  have hM:Mod K mg (JR s₁.heap H):=⟨hKb,nsK hns,⟨mb,nsK hb,hbb⟩,let ⟨mc,h1,h2⟩:=hlim;⟨mc,nsK h1,h2⟩⟩
  have e0:Env0 P w K mg (JR s₁.heap H) callerA [] s₁ H:=⟨rfl,hM,fun b o e=>qHY e,Nat.le_of_eq (qDa _ _),trivial,fun b hb=>absurd (show b∈([]:List Addr) from hb) (by simp),hok,.of_eq hg,HndH.none rfl⟩
  refine codeAny_mono ((F _ hKb (nsK hns)).run callerA [] s₁ H ⟨[.ref a],[]⟩ [.ref a] [.ref a] _ _ hr e0 (hbind s₁ (.ref a)) (.cons rfl .nil) (hsp H hO hS)) fun r s' h => ?_;cases r with
  |error e=>exact (hCX H e s' h).elim
  |ok fl =>
   cases fl with
   |next=>exact False.elim h
   |brk=>exact False.elim h
   |cont=>exact False.elim h
   |ret u =>
    obtain ⟨v,H',os,bare,un,hok',r',q⟩:=h;have q':v = .bl true:=q;subst q';obtain rfl:u=Value.bool true:=r';refine ⟨rfl,OldK.of_keep fun b o e => ?_,os,bare⟩;cases q:H b with
    |none=>exact un.keep b o e q (by intro z;exact absurd (show b∈([]:List Addr) from z) (by simp)) (by simp)
    |some u =>
     rcases hO b with z |⟨ob,xs,z⟩
     ·rw [q] at z;cases z
     ·have z2:=un.frzs b ob _ z;obtain ⟨e1,_⟩:=hok b _ z;obtain ⟨e2,_⟩:=hok' b _ z2;rw [e] at e1;cases e1;exact e2
 cases hk:K.lookup a with
 |some o =>
  -- the script is one of the module's own objects
  have e:=KX a o hk;rw [ha] at e;cases e;refine core (fun _=>none) (fun _ => .inl rfl) (.inr ⟨_,vs.toArray,_,hk,rfl,rfl,rfl,by rw [AO,lenV];exact hl,by simpa using rv⟩) (fun b u z=>by have z':(none:Option HO)=some u:=z;cases z') (fun b z=>absurd rfl z) fun z=>absurd rfl z
 |none =>
  refine core (fun b=>if b=a then some (.frz { cls := .type "list",data := .seq vs.toArray } (.lst (ns.map V.int))) else none) (fun b => ?_) (.inl (.inr ⟨{ cls := .type "list",data := .seq vs.toArray },AH rfl⟩)) (fun b u z => ?_) (fun b z => ?_) fun _=>hk
  ·by_cases hb:b=a
   ·exact .inr ⟨_,_,AH hb⟩
   ·exact .inl (AJ hb)
  ·by_cases hb:b=a
   ·have z':=(AH hb).symm.trans z;cases z';subst hb;exact ⟨ha,by rw [AC];exact hl,vs,_,rv,ha⟩
   ·have z':=(AJ hb).symm.trans z;cases z'
  ·by_cases hb:b=a
   ·exact hb
   ·exact absurd (AJ hb) z
end L2
namespace L2
open PySem PySem.Spec PyProof.Rows
end L2
namespace L2
open PySem PySem.Spec PyProof.Rows
def qW (s:Stmt):Arguments:=match s with
 | .FunctionDef _ a _ _ _ _ _ _ _ _=>a
 |_=>{ posonlyargs:=[],args:=[],vararg:=none,kwonlyargs:=[],kw_defaults:=[],kwarg:=none,defaults:=[] }
def qU (s:Stmt):List Stmt:=match s with
 | .FunctionDef _ _ b _ _ _ _ _ _ _=>b
 |_=>[]
def qH (s:Stmt):Scope:=match s with
 | .FunctionDef _ _ _ _ _ _ sc _ _ _=>sc
 |_=>{ kind := .function,names:=[],isGenerator:=false,isCoroutine:=false }
abbrev E0:XK:=fun _ _ _=>False
structure Fun (K:W.Frag) (x qual:Str) (st:Stmt) (f:Addr) (fd:FuncData):Prop where
 ex:∃ (oc:Value) (od:Option Addr) (kV doc pm:Value) (an:Option Addr) (cdv ct:Value) (osl:Array (Option Value)),
  fd=W.fnOf x qual (qW st) (qU st) (qH st) .none kV doc pm an cdv ct∧K.lookup f=some ⟨oc,od,.func fd,osl⟩∧W.codeIn K cdv qual=true
 kp:W.keepIn K (.ref f)=true
section
variable {P:Program} {w:World} {K:W.Frag} {mg:Str->Option Value} {base:Heap}
theorem Fun.binds {x qual:Str} {st:Stmt} {f:Addr} {fd:FuncData} {ps:List Str} (F:Fun K x qual st f fd)
  (h:∀ (kV doc pm:Value) (an:Option Addr) (cdv ct:Value) (us:List Value),us.length=ps.length->bindArgs (W.fnOf x qual (qW st) (qU st) (qH st) .none kV doc pm an cdv ct) ⟨us,[]⟩=pure (ps.zip us)):Binds K fd ps []:=by obtain ⟨oc,od,kV,doc,pm,an,cdv,ct,osl,rfl,lk,hcd⟩:=F.ex;exact .all (h kV doc pm an cdv ct)
theorem qw {x qual:Str} {st:Stmt} {f:Addr} {oc:Value} {od an:Option Addr} {osl:Array (Option Value)} {kV doc pm cdv ct:Value} (l:K.lookup f=some ⟨oc,od,.func (W.fnOf x qual (qW st) (qU st) (qH st) .none kV doc pm an cdv ct),osl⟩)
  (c:W.codeIn K cdv qual=true) (k:W.keepIn K (.ref f)=true):Fun K x qual st f (W.fnOf x qual (qW st) (qU st) (qH st) .none kV doc pm an cdv ct):=⟨⟨oc,od,kV,doc,pm,an,cdv,ct,osl,rfl,l,c⟩,k⟩
end
section
variable {X:Cx}
theorem pv (i:Nat) {x:Str} {pos:Pos} (hN:X.N[i]? = some x:=by rfl) (hv:Vis X.env.scope x:=by first |exact Or.inl rfl |exact Or.inr (Or.inl rfl) |exact Or.inr (Or.inr rfl)) (hd:(x==("__debug__":Str))=false:=by decide)
  (hcd:(x==("__classdict__":Str))=false:=by decide):PE X (.Name x pos) (qJw i):=qIV hN hv hd hcd
end
theorem qDB {A B:Prop} (h:B):if false=true then A else B:=by rw [AJ BP];exact h
theorem qDO {A B:Prop} (h:A):if true=true then A else B:=by rw [AH rfl];exact h
def Same (H H':Hp):Prop := ∀ b o,H b=some o->H' b=some o
theorem Same.refl (H:Hp):Same H H:=fun _ _ h=>h
end L2
end
section
namespace L2
open PySem PySem.Spec PyProof.Rows
section
variable {X:Cx} {pins:List (Addr×Obj)} {σ:St} {H:Hp} {s:Shared} {a:Addr} {y v:V} {u r:Value} {o:Option V} {A:Around} {E:Value->Shared->Prop}
theorem Inv.big (I:Inv X pins σ H s):sysModules < s.heap.objs.size:=by have h:mainGlobals < s.heap.objs.size:=(I.mod.glob.keeps I.bk).lt;exact Nat.lt_trans (by decide) h
end
theorem qFw {P:Program} {w:World} {H:Hp} (h:Heap) (hb:sysModules < h.objs.size):ObjOk P w H (h.push { cls := .type "dict",data := .dict #[] }) h.objs.size (.dK []) :=
 ⟨A7 _,AB.mpr (Ne.symm (Ab hb)),[],.nil,Heap.DictOf.new h⟩
def qI3:TE:=fun _ H Q => ∀ p,H p=none->Q (.ref p) (upd H p (.dK []))
section
variable {X:Cx} {pos:Pos}
theorem qE3:PE X (.Dict [] [] pos) qI3:=fun pins s σ H Q I h =>
 wpAny_Dict_empty ⟨.ref s.heap.objs.size,_,I.laid (a:=s.heap.objs.size) (o := .dK []) (t':=s.toks) (fun _ _ q=>AG _ q) (AK _) (qFw s.heap I.big),rfl,h _ (I.hok.fresh (AK _))⟩
end
end L2
namespace L2
open PySem PySem.Spec PyProof.Rows
end L2
end
section
namespace EX
open PySem PySem.Spec PyProof.Rows
def Trc (h B:Heap) (e:Addr) (cls:Value) (dd:Option Addr) (fl:Value):Prop :=
 ∃ oe vs T oT ts,h.get? e=some oe∧oe.cls=cls∧oe.dict=dd∧oe.data = .fields vs∧vs[1]? = some (Value.ref T)∧vs[2]? = some Value.none∧B.get? T=none∧T≠e∧h.get? T=some oT∧oT.data = .fields ts∧ts[3]? = some fl
def Fly (B:Heap) (l:List Env) (e:Addr) (cls:Value) (dd:Option Addr) (fl:Value) (h:Heap):Prop:=B.StaysIn h∧B.get? e=none∧h.FunFrames B l∧Trc h B e cls dd fl
theorem Fly.tail {B h:Heap} {env:Env} {l:List Env} {e:Addr} {cls fl:Value} {dd:Option Addr} (x:Fly B (env::l) e cls dd fl h):Fly B l e cls dd fl h:=⟨x.1,x.2.1,x.2.2.1.2.2,x.2.2.2⟩
section
variable {M:Model} {A:Around} {E:Value->Shared->Prop} {s:Shared} {B:Heap} {env:Env} {outer:List Env} {L e:Addr} {cls:Value} {dd:Option Addr} {Q:Unit->Shared->Prop}
theorem qAK {oe:Obj} {vs:Array Value} {head:Value} {nx:Bool} (f1:A.frames=some (env::outer)) (f2:s.heap.FunFrames B (env::outer)) (f3:env.frame=some L) (k1:B.StaysIn s.heap) (k2:B.get? e=none)
  (g1:s.heap.get? e=some oe) (g2:oe.data = .fields vs) (g3:1 < vs.size) (g4:vs[2]? = some Value.none) (h:∀ h',Fly B (env::outer) e oe.cls oe.dict (rawInt L) h'->s.heap.UpToSlots h'->Q () { s with heap:=h' }) :
  wpAny M A (do let a ← frameOf env;let pl ← entryPlaceOf L nx;let b ← EntryCells.newEntry head a .none (rawInt L) .none pl;setField (.ref e) 1 b) Q E s:=by
 have nfr:e ∉ (env::outer).filterMap (·.frame):=fun hm=>by obtain ⟨_,o,ho,hnf⟩:=f2.mem hm;rw [g1] at ho;cases ho;exact hnf vs g2
 refine AA (wpAny_frameOf_fun f1 f2 f3 fun h1 so=>AA (wpAny_entryPlaceOf fun pl hpl => ?_));unfold EntryCells.newEntry newFields;refine AA (BM ?_ (hpl.sizeOk5 _ _ _ _ _));generalize hts:([head,Value.ref L,.none,rawInt L,.none]++(if pl.isEmpty then List.replicate 6 Value.none else pl)).toArray=ts;have ht3:ts[3]? = some (rawInt L):=by rw [← hts];first |(simp;done) |(rcases hpl with rfl |⟨_,_,_,_,_,_,_,rfl⟩ <;> simp)
 have a1:h1.get? e=some oe:=(so.2.1 e nfr).trans g1;have kb:B.StaysIn h1:=fun b o q=>(so.2.1 b fun hm=>by rw [(f2.mem hm).1] at q;cases q).trans (k1 b o q)
 have a2:=AG (h:=h1) { cls := .type "traceback",dict:=none,data := .fields ts } a1;refine CD a2 g2 g3 (h _ ?_ ?_)
 ·have ne1:h1.objs.size≠e:=Nat.ne_of_gt (AT a1);have d3:=CT g2 (·.setIfInBounds 1 (Value.ref h1.objs.size));have a3:=BD (Obj.mapFields (·.setIfInBounds 1 (Value.ref h1.objs.size))) a2 (Obj.isFreed_of_fields d3);have a4:=(Ak (h1.push { cls := .type "traceback",dict:=none,data := .fields ts }) (Obj.mapFields (·.setIfInBounds 1 (Value.ref h1.objs.size))) (Ne.symm ne1)).trans (AX h1 rfl);have kp:∀ b o,b≠e->h1.get? b=some o->((h1.push { cls := .type "traceback",dict:=none,data := .fields ts }).update e (Obj.mapFields (·.setIfInBounds 1 (Value.ref h1.objs.size)))).get? b=some o:=fun b o hb q =>
   (Ak _ _ (Ne.symm hb)).trans (AG _ q)
  refine ⟨fun b o q=>kp b o (fun z=>by rw [z,k2] at q;cases q) (kb b o q),k2,f2.of_keeps fun b o q nf => ?_,_,_,h1.objs.size,_,ts,a3,Obj.cls_mapFields _ _,?_,d3,?_,?_,kb.fresh,ne1,a4,rfl,ht3⟩
  ·obtain ⟨sl,q2⟩:=so.2.2 b o q;exact ⟨_,kp b _ (fun z=>by rw [z,g1] at q;cases q;exact nf vs g2) q2,rfl⟩
  ·obtain ⟨c,d,dt,sl⟩:=oe;have g2:dt = .fields vs:=g2;subst g2;rfl
  ·simp [g3]
  ·rw [Array.getElem?_setIfInBounds_ne (by decide)];exact g4
 ·intro b o q nf;have hb:b≠e:=fun z=>by rw [z,g1] at q;cases q;exact nf vs g2
  obtain ⟨sl,q2⟩:=so.2.2 b o q;exact ⟨sl,(Ak _ _ (Ne.symm hb)).trans (AG _ q2)⟩
theorem qBm {oe:Obj} {vs:Array Value} (f1:A.frames=some (env::outer)) (f2:s.heap.FunFrames B (env::outer)) (f3:env.frame=some L) (k1:B.StaysIn s.heap) (k2:B.get? e=none)
  (g1:s.heap.get? e=some oe) (g2:oe.data = .fields vs) (g3:vs[1]? = some Value.none) (g4:vs[2]? = some Value.none) (h:∀ h',Fly B (env::outer) e oe.cls oe.dict (rawInt L) h'->s.heap.UpToSlots h'->Q () { s with heap:=h' }) :
  wpAny M A (noteFrame (.ref e) env) Q E s:=by
 unfold noteFrame;simp only [f3];refine AA (BF g1 g2 g3 ?_);rw [AJ (show ¬ ((Value.none != Value.none)=true) by decide)]
 exact qAK f1 f2 f3 k1 k2 g1 g2 (BW.mp g3).1 g4 h
theorem ju (f1:A.frames=some (env::outer)) (f3:env.frame=some L) (x:Fly B (env::outer) e cls dd .none s.heap) (h:∀ h',Fly B (env::outer) e cls dd (rawInt L) h'->s.heap.UpToSlots h'->Q () { s with heap:=h' }) :
  wpAny M A (noteFrame (.ref e) env) Q E s:=by
 obtain ⟨k1,k2,f2,oe,vs,T,oT,ts,g1,rfl,rfl,g2,g3,g4,t1,t2,t3,t4,t5⟩:=x;unfold noteFrame;simp only [f3];refine AA (BF g1 g2 g3 ?_);rw [AH (show (Value.ref T != Value.none)=true by simp)]
 refine AA (BF t3 t4 t5 ?_);rw [AJ (show ¬ ((Value.none==rawInt L)=true) by simp [rawInt])]
 refine AA (CD t3 t4 (BW.mp t5).1 ?_);have ot:∀ b,b≠T->(s.heap.update T (Obj.mapFields (·.setIfInBounds 3 Value.none))).get? b=s.heap.get? b:=fun b hb=>Ak _ _ (Ne.symm hb);have nr:∀ b o,s.heap.get? b=some o->(∀ us,o.data ≠ .fields us)->b≠T:=fun b o q nf z=>by rw [z,t3] at q;cases q;exact nf ts t4
 refine qAK f1 (f2.of_keeps fun b o q nf=>⟨o,(ot b (nr b o q nf)).trans q,rfl⟩) f3 (fun b o q=>(ot b fun z=>by rw [z,t1] at q;cases q).trans (k1 b o q)) k2 ((ot e (Ne.symm t2)).trans g1) g2 (BW.mp g3).1 g4 fun h' x u=>h h' x fun b o q nf => ?_
 exact u b o ((ot b (nr b o q nf)).trans q) nf
theorem qCE {l:List Env} {fl:Value} (x:Fly B l e cls dd fl s.heap) (h:∀ h',Fly B l e cls dd .none h'->s.heap.UpToSlots h'->Q () { s with heap:=h' }):wpAny M A (setFlight (.ref e) none) Q E s:=by
 obtain ⟨k1,k2,f2,oe,vs,T,oT,ts,g1,g0,g00,g2,g3,g4,t1,t2,t3,t4,t5⟩:=x;have t6:3 < ts.size:=(BW.mp t5).1;have ot:∀ b,b≠T->(s.heap.update T (Obj.mapFields (·.setIfInBounds 3 ((none:Option Addr).elim Value.none fun f=>rawInt f)))).get? b=s.heap.get? b:=fun b hb=>Ak _ _ (Ne.symm hb);have nr:∀ b o,s.heap.get? b=some o->(∀ us,o.data ≠ .fields us)->b≠T:=fun b o q nf z=>by rw [z,t3] at q;cases q;exact nf ts t4
 unfold setFlight;refine AA (BF g1 g2 g3 ?_);rw [AH (show (Value.ref T != Value.none)=true by simp)]
 refine CD t3 t4 t6 (h _ ⟨fun b o q=>(ot b fun z=>by rw [z,t1] at q;cases q).trans (k1 b o q),k2,f2.of_keeps fun b o q nf=>⟨o,(ot b (nr b o q nf)).trans q,rfl⟩,?_⟩ fun b o q nf=>⟨o.slots,(ot b (nr b o q nf)).trans q⟩)
 exact ⟨oe,vs,T,_,_,(ot e (Ne.symm t2)).trans g1,g0,g00,g2,g3,g4,t1,t2,BD _ t3 (Obj.isFreed_of_fields (CT t4 _)),CT t4 _,by simp [t6]⟩
theorem Jj {oe:Obj} {vs:Array Value} (f1:A.frames=some (env::outer)) (f2:s.heap.FunFrames B (env::outer)) (f3:env.frame=some L) (k1:B.StaysIn s.heap) (k2:B.get? e=none)
  (g1:s.heap.get? e=some oe) (g2:oe.data = .fields vs) (g3:vs[1]? = some Value.none) (g4:vs[2]? = some Value.none) (h:∀ h',Fly B outer e oe.cls oe.dict .none h'->s.heap.UpToSlots h'->Q () { s with heap:=h' }) :
  wpAny M A (leaving env (.ref e)) Q E s:=by unfold leaving;exact AA (qBm f1 f2 f3 k1 k2 g1 g2 g3 g4 fun h1 x1 u1=>qCE x1 fun h2 x2 u2=>h h2 x2.tail (u1.trans u2))
theorem qAJ (f1:A.frames=some (env::outer)) (f3:env.frame=some L) (x:Fly B (env::outer) e cls dd .none s.heap) (h:∀ h',Fly B outer e cls dd .none h'->s.heap.UpToSlots h'->Q () { s with heap:=h' }) :
  wpAny M A (leaving env (.ref e)) Q E s:=by unfold leaving;exact AA (ju f1 f3 x fun h1 x1 u1=>qCE x1 fun h2 x2 u2=>h h2 x2.tail (u1.trans u2))
end
end EX
end
section
namespace EX
open PySem PySem.Spec PyProof.Rows L2
structure UnB (fs:List Addr) (H H1:Hp) (h B:Heap):Prop where
 keep:∀ b o,h.get? b=some o->H b=none->b ∉ fs->B.get? b=some o
 free:∀ b o,h.get? b=some o->H b=none->H1 b=none
 there:∀ b o,h.get? b=some o->b ∉ fs -> ∃ o',B.get? b=some o'
 tups:∀ b xs,H b=some (.tup xs)->H1 b=some (.tup xs)
 frzs:∀ b o u,H b=some (.frz o u)->H1 b=some (.frz o u)
 tbls:∀ b ps,H b=some (.tbl ps) -> ∃ more,H1 b=some (.tbl (ps++more))
def CXF (P:Program) (w:World):CXT:=fun outer H s E e s' =>
 ∃ ea cls dd B H1,e=Value.ref ea∧Fly B outer ea cls dd .none s'.heap∧HOk P w H1 B∧s'.os=s.os∧AllBare s'.gens∧UnB (frs outer) H H1 s.heap B ∧
  (∀ b∈frs outer,∀ o,s.heap.get? b=some o -> ∃ sl,s'.heap.get? b=some { o with slots:=sl })∧E cls dd H1
theorem qAS {env:Env} {outer:List Env} {L:Addr} (h:env.frame=some L):frs (env::outer)=L::frs outer:=by unfold frs;rw [Bi,h]
theorem CXF.un {P:Program} {w:World} {outer:List Env} {H H1:Hp} {s s':Shared} {B:Heap} (hs:B.StaysIn s'.heap) (un:UnB (frs outer) H H1 s.heap B) (sl:∀ b∈frs outer,∀ o,s.heap.get? b=some o -> ∃ sl,s'.heap.get? b=some { o with slots:=sl }) :
  Un (frs outer) [] H H1 s.heap s'.heap where
 keep:=fun b o e n hb _=>hs b o (un.keep b o e n hb)
 slot:=fun b o e n hb _=>sl b hb o e
 free:=fun b o e n _=>un.free b o e n
 there:=fun b o e _=>by
  by_cases hb:b∈frs outer
  ·obtain ⟨x,q⟩:=sl b hb o e;exact ⟨_,q⟩
  ·obtain ⟨o',q⟩:=un.there b o e hb;exact ⟨o',hs b o' q⟩
 tups:=un.tups
 frzs:=un.frzs
 tbls:=un.tbls
section
variable {P:Program} {w:World} {K:W.Frag} {mg:Str->Option Value} {base:Heap} {N:List Str} {qual:Str} {scope:Scope} {f:Addr} {cd:Value} {A:Around} {outer:List Env} {s₀:Shared} {H₀:Hp} {E:XK}
theorem qX:ZR (CXF P w) (Q7 (CXF P w) P w K mg base N qual scope f cd A outer s₀ H₀ E) E:=by
 intro pins σ H s e s' I c;obtain ⟨ea,cls,dd,B,H1,rfl,fl,hok,os,bare,un,sl,q⟩:=c;have hfr:(envOfC qual scope s₀.heap.objs.size f cd).frame=some s₀.heap.objs.size:=rfl;have ef:frs (Q7 (CXF P w) P w K mg base N qual scope f cd A outer s₀ H₀ E).stack=s₀.heap.objs.size::frs outer:=qAS hfr;have Ib:Un (frs outer) [] H₀ H s₀.heap s.heap:=I.base;have ne:∀ b o,s₀.heap.get? b=some o->b≠s₀.heap.objs.size:=fun b o e=>Ab (AT e);refine qAJ I.ok.frames hfr fl fun h' x u=>⟨ea,cls,dd,B,H1,rfl,x,hok,os.trans I.os,bare,?_,fun b hb o e => ?_,q⟩
 ·refine ⟨fun b o e n hb => ?_,fun b o e n => ?_,fun b o e hb => ?_,fun b xs e=>un.tups b xs (Ib.tups b xs e),fun b o u e=>un.frzs b o u (Ib.frzs b o u e),fun b ps e => ?_⟩
  ·exact un.keep b o (Ib.keep b o e n hb (by simp)) (Ib.free b o e n (by simp)) (by rw [ef];intro z;exact (AE.mp z).elim (ne b o e) hb)
  ·obtain ⟨o',e'⟩:=Ib.there b o e (by simp)
   exact un.free b o' e' (Ib.free b o e n (by simp))
  ·obtain ⟨o',e'⟩:=Ib.there b o e (by simp)
   exact un.there b o' e' (by rw [ef];intro z;exact (AE.mp z).elim (ne b o e) hb)
  ·obtain ⟨m1,e1⟩:=Ib.tbls b ps e;obtain ⟨m2,e2⟩:=un.tbls b _ e1;exact ⟨m1++m2,by rw [e2,Array.append_assoc]⟩
 ·obtain ⟨sl1,e1⟩:=Ib.slot b o e (I.ok.frf b hb) hb (by simp)
  obtain ⟨sl2,e2⟩:=sl b (by rw [ef];exact AD _ hb) _ e1
  have nf:∀ vs,o.data ≠ .fields vs:=by obtain ⟨_,o2,ho2,nf⟩:=I.ok.funs.mem hb;have e:(Q7 (CXF P w) P w K mg base N qual scope f cd A outer s₀ H₀ E).s₀.heap.get? b=some o:=e;rw [e] at ho2;cases ho2;exact nf
  obtain ⟨sl3,e3⟩:=u b _ e2 nf;exact ⟨sl3,e3⟩
theorem qD1 {pins:List (Addr×Obj)} {σ:L2.St} {H:Hp} {s:Shared} {h':Heap} {e:Addr} {oe:Obj} {vs:Array Value} {H1:Hp} {B0:Heap} (I:L2.Inv (Q7 (CXF P w) P w K mg base N qual scope f cd A outer s₀ H₀ E) pins σ H s) (k:∀ b o,s.heap.get? b=some o->h'.get? b=some o) (hn:s.heap.get? e=none)
  (g1:h'.get? e=some oe) (g2:oe.data = .fields vs) (g3:vs[1]? = some Value.none) (g4:vs[2]? = some Value.none) (q:E oe.cls oe.dict H):(Q7 (CXF P w) P w K mg base N qual scope f cd A outer s₀ H₀ E).xe (.ref e) { s with heap:=h' }:=by
 have hfr:(envOfC qual scope s₀.heap.objs.size f cd).frame=some s₀.heap.objs.size:=rfl;have ef:frs (Q7 (CXF P w) P w K mg base N qual scope f cd A outer s₀ H₀ E).stack=s₀.heap.objs.size::frs outer:=qAS hfr;have Ib:Un (frs outer) [] H₀ H s₀.heap s.heap:=I.base;have ne:∀ b o,s₀.heap.get? b=some o->b≠s₀.heap.objs.size:=fun b o e=>Ab (AT e);generalize hB:W.hideAll s.heap (frs (Q7 (CXF P w) P w K mg base N qual scope f cd A outer s₀ H₀ E).stack)=B;have toB:∀ b o,s.heap.get? b=some o->b ∉ frs (Q7 (CXF P w) P w K mg base N qual scope f cd A outer s₀ H₀ E).stack->B.get? b=some o:=fun b o e hb=>by rw [← hB];exact W.hideAll_get _ e hb
 have ofB:∀ b o,B.get? b=some o->s.heap.get? b=some o:=fun b o e=>by rw [← hB] at e;exact W.of_hideAll _ e
 have trk:∀ b u,H b=some u->b ∉ frs (Q7 (CXF P w) P w K mg base N qual scope f cd A outer s₀ H₀ E).stack:=fun b u e z=>by rw [I.stkFree b z] at e;cases e
 have fun1:h'.FunFrames B (Q7 (CXF P w) P w K mg base N qual scope f cd A outer s₀ H₀ E).stack:=by
  have:=W.funFrames_hide (as:=frs (Q7 (CXF P w) P w K mg base N qual scope f cd A outer s₀ H₀ E).stack) I.stack fun env he a ha=>CV.mpr ⟨env,he,ha⟩
  rw [hB] at this;exact this.of_keeps fun b o e _=>⟨o,k b o e,rfl⟩
 have eB:B.get? e=none:=by
  cases z:B.get? e with
  |none=>rfl
  |some o=>have:=ofB e o z;rw [hn] at this;cases this
 refine Jj (s:={ s with heap:=h' }) I.ok.frames fun1 hfr (fun b o z=>k b o (ofB b o z)) eB g1 g2 g3 g4 fun h2 x u=>⟨e,oe.cls,oe.dict,B,H,rfl,x,?_,I.os,I.bare,?_,fun b hb o e1 => ?_,q⟩
 ·exact fun b u e1=>(I.hok b u e1).stay (fun c v hc z=>toB c v z (hc.elim (fun z=>by rw [z];exact trk b u e1) fun z=>trk c _ z)) (fun _ z=>z) fun _ _ z=>z
 ·refine ⟨fun b o e n hb => ?_,fun b o e n=>Ib.free b o e n (by simp),fun b o e hb => ?_,fun b xs e=>Ib.tups b xs e,fun b o u e=>Ib.frzs b o u e,fun b ps e=>Ib.tbls b ps e⟩
  ·exact toB b o (Ib.keep b o e n hb (by simp)) (by rw [ef];intro z;exact (AE.mp z).elim (ne b o e) hb)
  ·obtain ⟨o',e'⟩:=Ib.there b o e (by simp)
   exact ⟨o',toB b o' e' (by rw [ef];intro z;exact (AE.mp z).elim (ne b o e) hb)⟩
 ·obtain ⟨sl1,e2⟩:=Ib.slot b o e1 (I.ok.frf b hb) hb (by simp)
  have nf:∀ vs,o.data ≠ .fields vs:=by obtain ⟨_,o2,ho2,nf⟩:=I.ok.funs.mem hb;have e1:(Q7 (CXF P w) P w K mg base N qual scope f cd A outer s₀ H₀ E).s₀.heap.get? b=some o:=e1;rw [e1] at ho2;cases ho2;exact nf
  obtain ⟨sl3,e3⟩:=u b _ (k b _ e2) nf;exact ⟨sl3,e3⟩
end
section
variable {prog:Program} {w:World} {A:Around} {E:Value->Shared->Prop} {s:Shared} {K:W.Frag} {x D:Addr} {ox:Obj} {od:Option Obj}
structure ExcK (K:W.Frag) (D:Addr):Prop where
 ga:W.findIn K (.ref D) "__getattribute__" = some (some (.builtin "BaseException.__getattribute__"))
 gn:W.findIn K (.ref D) "__getattr__" = some none
 fo:∀ od,W.findObj K D od "__class__" = some (.bind (.builtin "getset_descriptor.__get__") (.builtin "object.__class__"))
 mo:W.mroIn K D (.type "object")=some true
 mb:W.mroIn K D (.type "BaseException")=some true
theorem qDP {Q:Option Value->Shared->Prop} (C:ExcK K D) (X:K.In s.heap) (I:W.InstAt s.heap x ox D od) (h:Q (some (.ref D)) { s with toks:=s.toks + 1 }):wpAny (model prog w) A (getAttr? (.ref x) "__class__") Q E s:=by
 obtain ⟨hh,g,d,t,os⟩:=s;have L0:=I.type (M:=model prog w);have L1:=W.looks_findIn (M:=model prog w) X C.ga;have L2:=W.looks_findIn (M:=model prog w) X C.gn;have L3:=W.looks_find (M:=model prog w) X I (C.fo od);have L4:=W.looks_mroIn (M:=model prog w) X C.mb;have LI:W.Looks (model prog w) hh (isInstance (.ref x) (.type "BaseException")) true:=L0.andThen L4;have f3:=F.attr_ValueError.ga.bind (.ref x);unfold getAttr? getAttrBy? getAttrBy;refine AA (wpAny_mkText (AA (Cc (Ap (AA (L0.at (AA (L1.at ?_))))))));show wpAny _ _ (getAttrByItsOwn _ _ _ _ _ _) _ _ _;unfold getAttrByItsOwn;refine AA (L2.at (AA (Cc (Ap ?_))));show wpAny _ _ (boundAndCalled _ _ _) _ _ _;unfold boundAndCalled;refine AA (Ao f3 ?_);refine B6 (CI F.attr_ValueError.ga.plain F.entry_bexc_ga ?_);have hk:builtinKind "BaseException.__getattribute__" = some .slot:=by decide +kernel
 have hsp:splitId "BaseException.__getattribute__" = some ("BaseException","__getattribute__"):=by decide +kernel
 have ha:=F.args_bexc_ga (.ref x) (.str "__class__" t);simp only [checkBuiltinCall,hk,hsp];refine AA (LI.at ?_);rw [AJ (show ¬ ((!true)=true) by decide)]
 refine Ao (a:=()) ha ?_;show wpAny _ A.in1 (Builtin.«object.__getattribute__» ⟨[.ref x,.str "__class__" t],[]⟩) _ _ _;unfold Builtin.«object.__getattribute__»;refine AA (AF ?_);refine AA (AF ?_);refine AA (L0.at (AA (L3.at ?_)));show wpAny _ A.in1 (holding [Value.builtin "object.__class__"] (call (.builtin "getset_descriptor.__get__") [.builtin "object.__class__",.ref x,.ref D]) >>= ret) _ _ _;refine AA (Ap (B6 (W.class_get X I C.mo ?_)));exact AF (AF (AF h))
end
theorem qHM {K:W.Frag} {h:Heap} {C:Addr} {bmB:List Value} {newId:String} (X:K.In h) (q:W.excIn K C bmB newId=true) :
  ∃ bm N nm qn bs hd sn sb ab co dd k0 k1 k2 k3 k5 mN,h.get? C=some (excClassObj nm qn C N bs bm hd sn sb ab co dd k0 k1 k2 k3 k5 newId)∧h.Ns N mN∧mN "__init__" = none∧OwnTail h bmB bm:=by
 unfold W.excIn at q;split at q
 ·rename_i dd cd sl ho;split at q
  ·rename_i C' bm k0 k1 k2 k3 n k5 hm hs;simp only [AZ,A4,Bool.not_eq_true'] at q;obtain ⟨⟨⟨⟨⟨e1,e2⟩,e3⟩,e4⟩,e5⟩,e6⟩:=q;subst e1;subst e2;cases cd with
   |mk nm bs mro ns qn hd sn sb ab co del =>
    have hm:mro=_:=hm;have e3:del=false:=e3;subst hm;subst e3;have hsl:sl = #[k0,k1,k2,k3,some (.builtin n),k5]:=by cases sl with |mk l=>rw [show l=_ from hs]
    subst hsl;exact ⟨bm,ns,nm,qn,bs,hd,sn,sb,ab,co,dd,k0,k1,k2,k3,k5,_,X _ _ ho,.of_isNs (W.isNs_of_in X e5),W.nsMap_none_of_in X e5 e6,W.tail_of_in X e4⟩
  ·cases q
 ·cases q
def Rz (X:Cx) (E:XK):Prop := ∀ (pins:List (Addr×Obj)) (σ:L2.St) (H:Hp) (s:Shared) (h':Heap) (e:Addr) (oe:Obj) (vs:Array Value),L2.Inv X pins σ H s->(∀ b o,s.heap.get? b=some o->h'.get? b=some o)->s.heap.get? e=none ->
 h'.get? e=some oe->oe.data = .fields vs->vs[1]? = some Value.none->vs[2]? = some Value.none->E oe.cls oe.dict H->X.xe (.ref e) { s with heap:=h' }
theorem qFx {P:Program} {w:World} {K:W.Frag} {mg:Str->Option Value} {base:Heap} {N:List Str} {qual:Str} {scope:Scope} {f:Addr} {cd:Value} {A:Around} {outer:List Env} {s₀:Shared} {H₀:Hp} {E:XK} :
  Rz (Q7 (CXF P w) P w K mg base N qual scope f cd A outer s₀ H₀ E) E:=fun _ _ _ _ _ _ _ _ I k hn g1 g2 g3 g4 q=>qD1 (H1:=H₀) (B0:=base) I k hn g1 g2 g3 g4 q
abbrev bmV:List Value:=[.type "ValueError",.type "Exception",.type "BaseException",.type "object"]
section
variable {X:Cx} {E:XK} {x:Str} {C:Addr} {e:Expr} {es:List Expr} {t:TA} {np cpos pos:Pos}
theorem qD5 (hz:Rz X E) (hc:X.calm=true) (hg:Gl X x) (hm:X.mg x=some (.ref C)) (q:W.excIn X.K C bmV "ValueError.__new__" = true) (ha:PA X (e::es) t) (hdb:(x==("__debug__":Str))=false:=by decide)
  (he:starEach (e::es) X.env=(false,eval e X.env)::starEach es X.env:=by rfl) (hpl:(backTo cpos (starEach es X.env)).any (·.1)=false:=by rfl) :
  PS X (.Raise (some (.Call (.Name x np) (e::es) [] cpos)) none pos) (fun D σ H=>t σ H fun vs H1=>vs.length≤sizeLine∧E (.ref C) none H1):=by
 intro pins s σ H D I h;obtain ⟨bm,N,nm,qn,bs,hd,sn,sb,ab,co,dd,k0,k1,k2,k3,k5,mN,o1,o2,o3,o4⟩:=qHM I.ok.mod.kin q;refine wpAny_Raise_call_subU (C:=C) (nm:=nm) (q:=qn) (N:=N) (bs:=bs) (bm:=bm) (hdct:=hd) (sn:=sn) (sub:=sb) (ab:=ab) (col:=co) (dd:=dd) (k0:=k0) (k1:=k1) (k2:=k2) (k3:=k3) (k5:=k5) (mN:=mN)
  F.excBase_ValueError F.excBase_ValueError.hasB F.excBase_ValueError (o4.hasType F.excBase_ValueError.hasBase) (I.ok.hd hc) (by rw [he];show (false || (backTo cpos (starEach es X.env)).any (·.1))=false;rw [hpl];rfl) o3 (JO I hg hm ⟨rfl,?_⟩ hdb)
 have ha':=ha cpos pins s σ H _ I h;rw [he] at ha' ⊢;refine Calls.evalArgs_plain (thn ha' fun us s1 ⟨vs,H1,I1,r1,q1,q2⟩=>⟨rfl,by rw [← r1.length];exact q1,I1.bk _ _ o1,o2.keeps I1.bk,o4.keeps I1.bk,fun h' ea hx => ?_⟩)
 obtain ⟨tt,h1,_,_⟩:=hx.there;exact hz pins σ H1 s1 h' ea _ _ I1 hx.keeps hx.new h1 rfl rfl rfl q2
end
section
variable {M:Model} {A:Around} {E:Value->Shared->Prop} {K:W.Frag} {h:Heap} {g:Array GenState} {d:Drawn} {t:Nat} {os:OsState} {e Bx C:Addr} {oe:Obj} {dd:Option Addr} {cd:ClassData} {sl:Array (Option Value)} {Q:Bool->Shared->Prop}
theorem qAx (X:K.In h) (o1:K.lookup Bx=some ⟨.type "type",dd,.cls cd,sl⟩) (m1:W.mroIn K Bx (.type "BaseException")=some true) (he:h.get? e=some oe) (hc:oe.cls = .ref C) (m2:W.mroIn K C (.ref Bx)=some true)
  (hq:Q true ⟨h,g,d,t,os⟩):wpAny M A (excMatches (.ref e) (.ref Bx)) Q E ⟨h,g,d,t,os⟩:=by
 have hB:=X _ _ o1;have L4:=W.looks_mroIn (M:=M) X m1;have L5:=W.looks_mroIn (M:=M) X m2;have f:=tc_notTuple;unfold excMatches;repeat (first |(with_reducible refine wpAny_loadPart_at he ?_;rw [hc]) |with_reducible refine wpAny_loadPart_at hB ?_ |with_reducible refine L4.at ?_ |with_reducible refine L5.at ?_ |wp_step)
 exact hq
end
def qAc (X:Cx) (pins:List (Addr×Obj)) (xe:Value->Shared->Prop):Cx:={ X with xe:=xe,pn:=X.pn++pins }
def suX (X:Cx) (ea:Addr):Cx:={ X with A:=X.A.mark (some (.ref ea)),calm:=false,xe:=fun _ _=>False }
abbrev qEY:HO := .ext fun _=>True
section
variable {X:Cx} {pins:List (Addr×Obj)} {σ:L2.St} {H:Hp} {s:Shared} {xe:Value->Shared->Prop}
theorem qGu (I:L2.Inv X pins σ H s):L2.Inv (qAc X pins xe) [] σ H s :=
 ⟨⟨I.ok.mod,I.ok.kind,I.ok.glob,I.ok.blt,I.ok.above,I.ok.inj,I.ok.has,I.ok.cab,I.ok.hd,I.ok.frames,I.ok.stk,I.ok.exf,I.ok.bs,I.ok.bsz,I.ok.noex,I.ok.exfs,I.ok.funs,I.ok.frf⟩,I.os,I.bare,I.base,I.loc,I.cell,I.free,I.freeC,
  fun p hp=>I.pin p (by simpa [qAc] using hp),I.hok,I.len,I.hnd⟩
theorem zL {pins':List (Addr×Obj)} (I:L2.Inv (qAc X pins xe) pins' σ H s):L2.Inv X pins σ H s :=
 ⟨⟨I.ok.mod,I.ok.kind,I.ok.glob,I.ok.blt,I.ok.above,I.ok.inj,I.ok.has,I.ok.cab,I.ok.hd,I.ok.frames,I.ok.stk,I.ok.exf,I.ok.bs,I.ok.bsz,I.ok.noex,I.ok.exfs,I.ok.funs,I.ok.frf⟩,I.os,I.bare,I.base,I.loc,I.cell,I.free,I.freeC,
  fun p hp=>I.pin p (List.mem_append_left _ hp),I.hok,I.len,I.hnd⟩
theorem qD7 {D:Ends} {f:Flow} (q:SP (qAc X pins xe) [] D f s):SP X pins D f s:=by
 cases f with
 |next=>obtain ⟨a,b,c,d⟩:=q;exact ⟨a,b,zL c,d⟩
 |brk=>obtain ⟨a,b,c,d⟩:=q;exact ⟨a,b,zL c,d⟩
 |cont=>obtain ⟨a,b,c,d⟩:=q;exact ⟨a,b,zL c,d⟩
 |ret u=>obtain ⟨v,a,b,c,d⟩:=q;exact ⟨v,a,b,zL c,d⟩
theorem qDL (I:L2.Inv X pins σ H s) {ea:Addr} {oe:Obj} (hn:H ea=none) (ho:s.heap.get? ea=some oe) (h0:X.s₀.heap.get? ea=none) (hL:ea≠X.env.locals) (hC:∀ x c,X.env.cells.lookup x=some c->c≠ea) (hP:∀ p∈X.pn++pins,p.1≠ea) :
  L2.Inv X pins σ (upd H ea (.frz oe qEY)) s:=by
 have ne:∀ b u,H b=some u->b≠ea:=fun b u e z=>by rw [z,hn] at e;cases e
 have nb:∀ b o,X.s₀.heap.get? b=some o->b≠ea:=fun b o e z=>by rw [z,h0] at e;cases e
 refine ⟨I.ok,I.os,I.bare,⟨I.base.keep,I.base.slot,fun b o e n hx => ?_,I.base.there,fun b xs e => ?_,fun b o u e => ?_,fun b ps e => ?_⟩,I.loc,I.cell,?_,fun x c e => ?_,fun p hp => ?_,fun b u e => ?_,I.len,fun v hv => ?_⟩
 ·rw [qY (nb b o e)];exact I.base.free b o e n hx
 ·have:=I.base.tups b xs e;rw [qY (ne b _ this)];exact this
 ·have:=I.base.frzs b o u e;rw [qY (ne b _ this)];exact this
 ·obtain ⟨m,this⟩:=I.base.tbls b ps e;exact ⟨m,by rw [qY (ne b _ this)];exact this⟩
 ·rw [qY (Ne.symm hL)];exact I.free
 ·rw [qY (hC x c e)];exact I.freeC x c e
 ·obtain ⟨a,b,c,d⟩:=I.pin p hp;exact ⟨a,by rw [qY (hP p hp)];exact b,c,d⟩
 ·by_cases hb:b=ea
  ·subst hb;rw [Qr] at e;cases e;exact ⟨ho,trivial,⟨oe,ho⟩,fun _ _ z _=>z⟩
  ·rw [qY hb] at e;exact (I.hok b u e).stay (fun _ _ _ z=>z) (fun c z=>by rw [qY (ne c _ z)];exact z) fun c xs z=>by rw [qY (ne c _ z)];exact z
 ·obtain ⟨a,o,u,vs,e1,e2,e3⟩:=I.hnd v hv;exact ⟨a,o,u,vs,e1,by rw [qY (ne a _ e2)];exact e2,e3⟩
theorem qDk (I:L2.Inv X pins σ H s) {ea:Addr} {oe:Obj} {u:HO} {vs:Array Value} (h1:H ea=some (.frz oe u)) (h2:oe.data = .fields vs) (h3:vs[2]? = some Value.none):L2.Inv (suX X ea) pins σ H s :=
 ⟨⟨I.ok.mod,I.ok.kind,I.ok.glob,I.ok.blt,I.ok.above,I.ok.inj,I.ok.has,I.ok.cab,(fun z=>absurd (show false=true from z) BP),I.ok.frames,I.ok.stk,I.ok.exf,I.ok.bs,I.ok.bsz,I.ok.noex,I.ok.exfs,I.ok.funs,I.ok.frf⟩,I.os,I.bare,I.base,I.loc,I.cell,I.free,I.freeC,
  I.pin,I.hok,I.len,fun v hv=>by
   have hv:some (Value.ref ea)=some v:=hv;cases hv;exact ⟨ea,oe,u,vs,rfl,h1,h2,h3⟩⟩
theorem qAG {ea:Addr} (ok:X.Ok) (hc:X.calm=true) (I:L2.Inv (suX X ea) pins σ H s):L2.Inv X pins σ H s :=
 ⟨ok,I.os,I.bare,I.base,I.loc,I.cell,I.free,I.freeC,I.pin,I.hok,I.len,HndH.none (ok.hd hc)⟩
theorem qED (I:L2.Inv X pins σ H s) (hN:X.N.Nodup) {i:Nat} {n:Str} (hi:X.N[i]? = some n) {m:Str->Option Value} {v:Option Value} {h':Heap} {tk:Nat} (hm:∀ (j:Nat) (x:Str) (w:V),X.N[j]? = some x->σ[j]? = some (some w)->Vis X.env.scope x -> ∃ u,RelV w u∧qKf X.env s.heap m x u)
  (hn:h'.Ns X.env.locals (fun x=>if x=n then v else m x)) (hs:Heap.SameBut X.env.locals s.heap h'):L2.Inv X pins (σ.set i none) H { s with heap:=h',toks:=tk }:=by
 have cne:=I.cne;refine ⟨I.ok,I.os,I.bare,⟨fun b o e n hb hx => ?_,fun b o e n hb hx => ?_,I.base.free,fun b o e hx => ?_,I.base.tups,I.base.frzs,I.base.tbls⟩,⟨_,hn,fun j y w e1 e2 e3 => ?_⟩,fun y c e => ?_,I.free,I.freeC,fun p hp => ?_,fun b ob e => ?_,by simpa using I.len,I.hnd⟩
 ·exact (hs.2 b (Ab (Am (AT e) I.ok.above))).trans (I.base.keep b o e n hb hx)
 ·obtain ⟨sl,e1⟩:=I.base.slot b o e n hb hx;exact ⟨sl,(hs.2 b (Ab (Am (AT e) I.ok.above))).trans e1⟩
 ·obtain ⟨o',e1⟩:=I.base.there b o e hx;exact ⟨o',(hs.2 b (Ab (Am (AT e) I.ok.above))).trans e1⟩
 ·have hj:j≠i:=fun z=>by
   subst z;by_cases hl:j < σ.length
   ·rw [A5 hl] at e2;cases e2
   ·rw [List.getElem?_eq_none (by simpa using hl)] at e2;cases e2
  rw [BA (Ne.symm hj)] at e2;obtain ⟨u,r,l⟩:=hm j y w e1 e2 e3;refine ⟨u,r,?_⟩;rcases l with ⟨k,l⟩ |⟨k,c,e,z⟩
  ·refine .inl ⟨k,?_⟩
   have:y≠n:=fun e=>hj (Yb hN e1 (e ▸ hi))
   simp [this,l]
  ·exact .inr ⟨k,c,e,z.sameBut hs (cne y c e)⟩
 ·obtain ⟨w',z⟩:=I.cell y c e;exact ⟨w',z.sameBut hs (cne y c e)⟩
 ·obtain ⟨e,n,ne,nf,d⟩:=I.pin p hp;exact ⟨(hs.2 p.1 ne).trans e,n,ne,nf,d⟩
 ·refine (I.hok b ob e).stay (fun c w' hc q=>(hs.2 c ?_).trans q) (fun _ q=>q) fun _ _ q=>q
  rintro rfl
  rcases hc with rfl |hc
  ·rw [I.free] at e;cases e
  ·rw [I.free] at hc;cases hc
def qLx (i k:Nat) (ok:Value->Prop) (tb:XK->TS) (th:TS):TS:=fun D σ H=>tb (fun cls dd H1=>ok cls ∧ ∀ (σ':L2.St) (ea:Addr) (oe:Obj),σ'.length=k->H1 ea=none->oe.cls=cls->oe.dict=dd->(∃ vs,oe.data = .fields vs) ->
 th { nx:=fun σ2 H2=>D.nx (σ2.set i none) H2,rt:=D.rt,bk:=fun σ2 H2=>D.bk (σ2.set i none) H2,ct:=fun σ2 H2=>D.ct (σ2.set i none) H2 } (σ'.set i (some (.ref ea))) (upd H1 ea (.frz oe qEY))) D σ H
structure FrameX (X:Cx):Prop where
 stk:X.stack=X.env::X.outer
 fr:X.env.frame=some X.env.locals
 ex:X.ex=[]
theorem got {P:Program} {w:World} {H:Hp} {h:Heap} {a:Addr} {o:HO} (x:ObjOk P w H h a o):∃ u,h.get? a=some u:=by
 cases o with
 |lst xs=>obtain ⟨_,_,_,_,e⟩:=x;exact ⟨_,e⟩
 |tup xs=>obtain ⟨_,_,_,o,e,_⟩:=x;exact ⟨_,e⟩
 |dK kvs=>obtain ⟨_,_,_,_,o,_,_,e,_⟩:=x;exact ⟨_,e⟩
 |dT kvs=>obtain ⟨_,_,_,_,o,_,_,e,_⟩:=x;exact ⟨_,e⟩
 |set S n=>obtain ⟨o,_,_,_,e,_⟩:=x;exact ⟨_,e⟩
 |ins C dx fs=>obtain ⟨_,_,_,e,_⟩:=x;exact ⟨_,e⟩
 |own y=>exact x
 |xd fs=>obtain ⟨_,⟨_,_,_,e,_⟩,_⟩:=x;exact ⟨_,e⟩
 |rng lo hi=>obtain ⟨_,_,_,e⟩:=x;exact ⟨_,e⟩
 |frz ob u=>obtain ⟨e,_⟩:=x;exact ⟨_,e⟩
 |tbl ps=>exact ⟨_,x⟩
 |met f y=>exact ⟨_,x⟩
 |ext φ=>obtain ⟨_,e,_⟩:=x;exact e
theorem qJ1 {X:Cx} {x n:Str} {i:Nat} {Bx:Addr} {dd:Option Addr} {cd:ClassData} {sl:Array (Option Value)} {body:List Stmt} {b0:Stmt} {suite:List Stmt} {np hpos pos:Pos} {ok:Value->Prop} {tb:XK->TS} {th:TS} (FX:FrameX X) (hc:X.calm=true) (hN:X.N.Nodup) (hi:X.N[i]? = some n) (hl:X.env.scope.names.lookup n=some .local)
  (hg:Gl X x) (hm:X.mg x=some (.ref Bx)) (o1:X.K.lookup Bx=some ⟨.type "type",dd,.cls cd,sl⟩) (m1:W.mroIn X.K Bx (.type "BaseException")=some true) (hok:∀ v,ok v -> ∃ C,v = .ref C∧W.mroIn X.K C (.ref Bx)=some true)
  (hb:∀ (pins:List (Addr×Obj)) (xe:Value->Shared->Prop) (E':XK),ZR (CXF X.prog X.w) (qAc X pins xe) E'->PSs (qAc X pins xe) body (tb E')) (hh:∀ ea,PSs (suX X ea) (b0::suite) th) (hdb:(x==("__debug__":Str))=false:=by decide) :
  PS X (.Try body [.ExceptHandler (some (.Name x np)) (some n) (b0::suite) hpos] [] [] pos) (qLx i X.N.length ok tb th):=by
 intro pins s σ H D I h;refine wpAny_Try_except ?_;generalize hE:(fun (cls:Value) (dd:Option Addr) (H1:Hp)=>ok cls ∧ ∀ (σ':L2.St) (ea:Addr) (oe:Obj),σ'.length=X.N.length->H1 ea=none->oe.cls=cls->oe.dict=dd->(∃ vs,oe.data = .fields vs) ->
  th { nx:=fun σ2 H2=>D.nx (σ2.set i none) H2,rt:=D.rt,bk:=fun σ2 H2=>D.bk (σ2.set i none) H2,ct:=fun σ2 H2=>D.ct (σ2.set i none) H2 } (σ'.set i (some (.ref ea))) (upd H1 ea (.frz oe qEY)))=E'
 have h:tb E' D σ H:=by rw [← hE];exact h
 refine Bc (hb pins _ E' ?_ [] s σ H D (qGu I) h) (fun f s1 q => ?_) fun e s1 q=>q
 rotate_left
 ·have q:=qD7 q;cases f with
  |next=>exact wpAny_execs_nil q
  |brk=>exact q
  |cont=>exact q
  |ret u=>exact q
 ·intro pins' σ' H' s1 e s2 J c;obtain ⟨ea,cls,d2,B,H1,rfl,fl,hok1,os,bare,un,sl1,qE⟩:=c;have J':=zL J;rw [← hE] at qE;obtain ⟨q1,q2⟩:=qE;obtain ⟨C,rfl,m2⟩:=hok cls q1;have fr':X.A.frames=some (X.env::X.outer):=by rw [← FX.stk];exact I.ok.frames
  have fl':Fly B (X.env::X.outer) ea (.ref C) d2 .none s2.heap:=by rw [← FX.stk];exact fl
  have un:UnB (frs X.stack) H' H1 s1.heap B:=un;have sl1:∀ b∈frs X.stack,∀ o,s1.heap.get? b=some o -> ∃ sl,s2.heap.get? b=some { o with slots:=sl }:=sl1;have stk1:s1.heap.FunFrames X.base X.stack:=J'.stack;have baseB:∀ b o,X.base.get? b=some o->B.get? b=some o:=fun b o z=>un.keep b o (J'.bs b o z).1 (J'.bs b o z).2 fun hm=>by rw [(stk1.mem hm).1] at z;cases z
  refine ju (A:=X.A) fr' FX.fr fl' fun h4 x4 u4=>qCE x4 fun h5 x5 u5 => ?_;have ns5:h5.Ns X.env.globals X.mg:=by rw [I.ok.glob];exact I.mod.glob.keeps fun b o z=>x5.1 b o (baseB b o z)
  have k5:X.K.In h5:=I.ok.mod.kin.keeps fun b o z=>x5.1 b o (baseB b o z);obtain ⟨_,_,_,oe5,_,_,_,_,he5,hc5,_⟩:=id x5;refine wpAny_handleBy_cons (codeAny_handlers_test (Calls.Name_function_global I.ok.kind hg (Calls.loadGlobal_global ns5 hm ?_) hdb)) (by intro q;cases q)
  refine qAx k5 o1 m1 he5 hc5 m2 (codeAny_handlers_suite_as (qCE x5 fun h6 x6 u6 => ?_));have u26:s2.heap.UpToSlots h6:=(u4.trans u5).trans u6;obtain ⟨k1,k2,k3,oe,vs,T,oT,ts,g1,g2,g3,g4,g5,g6,g7⟩:=x6;have nf:∀ b∈frs X.stack,∀ o,s1.heap.get? b=some o -> ∀ vs,o.data ≠ .fields vs:=fun b hb o z=>by obtain ⟨_,o2,ho2,nf⟩:=stk1.mem hb;rw [z] at ho2;cases ho2;exact nf
  have slN:∀ b∈frs X.stack,∀ o,s1.heap.get? b=some o -> ∃ sl,h6.get? b=some { o with slots:=sl }:=fun b hb o z=>by obtain ⟨sl2,z2⟩:=sl1 b hb o z;obtain ⟨sl3,z3⟩:=u26 b _ z2 (nf b hb o z);exact ⟨sl3,z3⟩
  have I6:L2.Inv X pins σ' H1 { s2 with heap:=h6 }:=J'.call' (s':={ s2 with heap:=h6 }) (ch:=[]) os (CXF.un (P:=X.prog) (w:=X.w) (s:=s1) (s':={ s2 with heap:=h6 }) k1 un slN) (hok1.kept k1) bare fun b z=>by cases z
  have neW:∀ b o,s1.heap.get? b=some o->b≠ea:=fun b o z hz=>by
   subst hz;by_cases hb:b∈frs X.stack
   ·obtain ⟨sl2,z2⟩:=slN b hb o z;rw [g1] at z2;cases z2;exact nf b hb o z vs g4
   ·obtain ⟨o',z'⟩:=un.there b o z hb;rw [k2] at z';cases z'
  have hn1:H1 ea=none:=by
   cases z:H1 ea with
   |none=>rfl
   |some u=>obtain ⟨o',z'⟩:=got (hok1 ea u z);rw [k2] at z';cases z'
  have I7:L2.Inv X pins σ' (upd H1 ea (.frz oe qEY)) { s2 with heap:=h6 }:=by
   refine qDL I6 hn1 g1 ?_ ?_ (fun x c z => ?_) fun p hp => ?_
   ·cases z:X.s₀.heap.get? ea with
    |none=>rfl
    |some o=>obtain ⟨o',z'⟩:=J'.base.there ea o z (by rw [FX.ex];simp);exact (neW ea o' z' rfl).elim
   ·obtain ⟨m,⟨o,_,_,z,_⟩,_⟩:=J'.loc;exact Ne.symm (neW _ o z)
   ·obtain ⟨v,o,z',_⟩:=J'.cell x c z;exact neW c o z'
   ·exact neW p.1 p.2 (J'.pin p hp).1
  have I8:=qDk I7 Qr g4 g6;refine ZL (X:=suX X ea) (v := .ref ea) I8 hN hi (.inl hl) (show RelV (.ref ea) (.ref ea) from rfl) (fun s7 I9 => ?_) (.inr hl);have hlen:σ'.length=X.N.length:=J'.len;refine wpAny_noRaise (thn (hh ea pins s7 _ _ _ I9 (q2 σ' ea oe hlen hn1 g2 g3 ⟨vs,g4⟩)) fun f s8 q => ?_);have hp:(X.env.scope.kind == .class || (X.env.scope.kind == .module&&X.env.locals != X.env.globals))=false:=by rw [I.ok.kind];rfl
  have goes:∀ {σ8:L2.St} {H8:Hp} {Q:Shared->Prop},L2.Inv (suX X ea) pins σ8 H8 s8->(∀ s9,L2.Inv X pins (σ8.set i none) H8 s9->Q s9)->wpAny (model X.prog X.w) X.A (do bindName X.env n .none;unbindBehindTheSuite X.env n hpos) (fun _ s9=>Q s9) X.xe s8:=fun {σ8 H8 Q} I8 hQ=>by have I9:=qAG I.ok hc I8;obtain ⟨m,hn,hl'⟩:=id I9.loc;exact wpAny_nameGoes_keeps hl hn hp fun h9 v hn9 hs9=>hQ _ (qED I9 hN hi hl' hn9 hs9)
  cases f with
  |next=>obtain ⟨σ8,H8,I8,q8⟩:=q;exact goes I8 fun s9 I9=>⟨_,H8,I9,q8⟩
  |brk=>obtain ⟨σ8,H8,I8,q8⟩:=q;exact goes I8 fun s9 I9=>⟨_,H8,I9,q8⟩
  |cont=>obtain ⟨σ8,H8,I8,q8⟩:=q;exact goes I8 fun s9 I9=>⟨_,H8,I9,q8⟩
  |ret u=>obtain ⟨v,σ8,H8,I8,r8,q8⟩:=q;exact goes I8 fun s9 I9=>⟨v,_,H8,I9,r8,q8⟩
end
def yD (A:Around):List Addr:=match A.handled with
 |some (.ref ea)=>[ea]
 |_=>[]
theorem Hnd.frame {A:Around} {h h':Heap} (x:Hnd A h) (k:∀ b∈yD A,∀ o,h.get? b=some o->h'.get? b=some o):Hnd A h':=fun v hv=>by obtain ⟨ea,oe,vs,e1,e2,e3⟩:=x v hv;subst e1;exact ⟨ea,oe,vs,rfl,k ea (by unfold yD;rw [hv];simp) oe e2,e3⟩
theorem qHt {A:Around} {I:Addr} (hI:∀ ea∈yD A,ea≠I):∀ v,A.handled=some v->v ≠ .ref I:=fun v hv z=>by subst z;exact hI I (by unfold yD;rw [hv];simp) rfl
theorem qBn {prog:Program} {w:World} {A:Around} (I ax:Addr) (hne:ax≠I) (items:Array Value) (hI:∀ ea∈yD A,ea≠I) :
  Walks prog w A I (I::ax::yD A) [I] items.size (fun i v=>items[i]? = some v) (fun i h=>(h.IsListIter I ax i∧h.IsList ax items)∧Hnd A h) where
 sub:=fun b hb=>by simp at hb;simp [hb]
 frame:=fun _ _ _ st hk=>⟨⟨st.1.1.at fun o e=>hk I (by simp) o e,st.1.2.at fun o e=>hk ax (by simp) o e⟩,st.2.frame fun b hb o e=>hk b (by simp [hb]) o e⟩
 item:=fun i s Q E hi st hQ=>wpAny_pyNext_list_item st.1.1 st.1.2 (x:=items[i]) (by simp [hi]) fun h' z1 z2 =>
  hQ _ h' s.toks (by simp [hi]) ⟨⟨z1,st.1.2.extBut z2.extBut hne⟩,st.2.frame fun b hb o e=>(z2.2 b (hI b hb)).trans e⟩ fun b o hb e=>z2.extBut b o (fun h=>hb (by simp [h])) e
 done:=fun s Q E st hQ=>list_end st.2 st.1.1 st.1.2 (by simp) (qHt hI) fun h' z=>hQ h' s.toks fun b o hb e=>z b o (fun h=>hb (by simp [h])) e
 self:=fun _ _ _ _ st hQ=>wpAny_pyIter_listiter st.1.1 hQ
theorem qAZ {prog:Program} {w:World} {A:Around} (I ax:Addr) (hne:ax≠I) (items:Array Value) (hI:∀ ea∈yD A,ea≠I) :
  Walks prog w A I (I::ax::yD A) [I] items.size (fun i v=>items[i]? = some v) (fun i h=>(h.IsTupleIter I ax i∧h.IsTuple ax items)∧Hnd A h) where
 sub:=fun b hb=>by simp at hb;simp [hb]
 frame:=fun _ _ _ st hk=>⟨⟨st.1.1.at fun o e=>hk I (by simp) o e,st.1.2.at fun o e=>hk ax (by simp) o e⟩,st.2.frame fun b hb o e=>hk b (by simp [hb]) o e⟩
 item:=fun i s Q E hi st hQ=>wpAny_pyNext_tuple_item st.1.1 st.1.2 (x:=items[i]) (by simp [hi]) fun h' z1 z2 =>
  hQ _ h' s.toks (by simp [hi]) ⟨⟨z1,st.1.2.extBut z2.extBut hne⟩,st.2.frame fun b hb o e=>(z2.2 b (hI b hb)).trans e⟩ fun b o hb e=>z2.extBut b o (fun h=>hb (by simp [h])) e
 done:=fun s Q E st hQ=>tuple_end st.2 st.1.1 st.1.2 (by simp) (qHt hI) fun h' z=>hQ h' s.toks fun b o hb e=>z b o (fun h=>hb (by simp [h])) e
 self:=fun _ _ _ _ st hQ=>wpAny_pyIter_tupleiter st.1.1 hQ
section
variable {X:Cx} {pins:List (Addr×Obj)} {σ:L2.St} {H:Hp} {s:Shared}
theorem qHo (I:L2.Inv X pins σ H s):∀ ea∈yD X.A,ea≠s.heap.objs.size:=fun ea hea=>by
 have hd:X.A.handled=some (.ref ea):=by
  unfold yD at hea;split at hea
  ·rename_i a ha;rw [Ah.mp hea];exact ha
  ·cases hea
 obtain ⟨a,oe,vs,e1,e2,_⟩:=I.hndH _ hd;cases e1;exact Ab (AT e2)
theorem yX (I:L2.Inv X pins σ H s) {p:Addr} {its:List Value} (pl:PlainL s.heap p its.toArray) {E:Value->Shared->Prop} {Q:Value->Shared->Prop}
  (h:Walks X.prog X.w X.A.in1 s.heap.objs.size (s.heap.objs.size::p::yD X.A) [s.heap.objs.size] its.toArray.size (fun i v=>its.toArray[i]? = some v) (fun i h=>(h.IsListIter s.heap.objs.size p i∧h.IsList p its.toArray)∧Hnd X.A.in1 h) ->
   ((s.heap.push { cls := .type "list_iterator",data := .fields #[.ref p,.int 0 0] }).IsListIter s.heap.objs.size p 0∧(s.heap.push { cls := .type "list_iterator",data := .fields #[.ref p,.int 0 0] }).IsList p its.toArray)∧Hnd X.A.in1 (s.heap.push { cls := .type "list_iterator",data := .fields #[.ref p,.int 0 0] }) ->
   (∀ b∈s.heap.objs.size::p::yD X.A,b < (s.heap.push { cls := .type "list_iterator",data := .fields #[.ref p,.int 0 0] }).objs.size) ->
   (∀ h':Heap,(∀ b o,b ∉ [s.heap.objs.size]->(s.heap.push { cls := .type "list_iterator",data := .fields #[.ref p,.int 0 0] }).get? b=some o->h'.get? b=some o) -> ∀ b o,s.heap.get? b=some o->h'.get? b=some o) ->
   Q (.ref s.heap.objs.size) { s with heap:=s.heap.push { cls := .type "list_iterator",data := .fields #[.ref p,.int 0 0] } }) :
  wpAny (model X.prog X.w) X.A.in1 (pyIter (.ref p)) Q E s:=by
 obtain ⟨ob,po,_⟩:=id pl.isList;have hlt:p < s.heap.objs.size:=AT po;refine wpAny_pyIter_list pl.isList (h (qBn _ p (Ab hlt) _ (qHo I)) ⟨⟨⟨_,AX _ rfl,rfl,rfl⟩,pl.isList.at fun o e=>AG _ e⟩,?_⟩ (fun b hb => ?_) fun h' k b o e => ?_)
 ·exact Hnd.frame (show Hnd X.A.in1 s.heap from I.hndH) fun b _ o e=>AG _ e
 ·rw [B1];rcases AE.mp hb with rfl |hb
  ·exact Nat.lt_succ_self _
  ·rcases AE.mp hb with rfl |hb
   ·exact A8 hlt
   ·have hd:X.A.handled=some (.ref b):=by
     unfold yD at hb;split at hb
     ·rename_i a ha;rw [Ah.mp hb];exact ha
     ·cases hb
    obtain ⟨a,oe,vs,e1,e2,_⟩:=I.hndH _ hd;cases e1;exact A8 (AT e2)
 ·exact k b o (by simp;exact Ab (AT e)) (AG _ e)
theorem qCS:∀ {bs:List Bool} {us:List Value},Vals (bs.map V.bl) us->us=bs.map Value.bool
 |[],_,.nil=>rfl
 |b::bs,_,.cons r t=>by rw [show _=Value.bool b from r,qCS t];rfl
theorem ZF:∀ {ns:List Int} {us:List Value} {i:Nat} {v:Value},Vals (ns.map V.int) us->us[i]? = some v -> ∃ t,v=Value.int (ns.getD i 0) t
 |[],_,_,_,.nil,e=>by simp at e
 |n::ns,_,0,_,.cons r t,e=>by simp at e;subst e;exact r
 |n::ns,_,i + 1,v,.cons r t,e=>by simpa using ZF (i:=i) t (by simpa using e)
theorem qEU {prog:Program} {w:World} {A:Around} {bs:List Bool}:TruthOf prog w A (fun i v=>(bs.map Value.bool).toArray[i]? = some v) (fun i=>bs.getD i false):=fun i v s Q E hP hQ=>by
 have hP:(bs.map Value.bool).toArray[i]? = some v:=hP;rw [List.getElem?_toArray,A1] at hP;cases e:bs[i]? with
 |none=>rw [e] at hP;cases hP
 |some b =>rw [e] at hP;cases hP;have hQ:Q (bs.getD i false) s:=hQ;rw [Ac,e] at hQ;exact AF hQ
theorem qDz (bs:List Bool):(List.range bs.length).all (fun i=>bs.getD i false)=bs.all id:=by
 induction bs with
 |nil=>rfl
 |cons b bs ih =>
  rw [AM,List.range_succ_eq_map,CL,List.all_map,CL]
  have:(((fun i=>(b::bs).getD i false) ∘ Nat.succ))=fun i=>bs.getD i false:=by funext i;simp
  rw [this,ih];simp
theorem qDE:Wb X (.builtin "all") (fun xs H Q => ∃ (p:Addr) (bs:List Bool),xs=[.ref p]∧SqL X.K H p (bs.map V.bl)∧Q (.bl (bs.all id)) H):=by
 intro pins s σ H xs us Q I r h;obtain ⟨p,bs,rfl,hq,q⟩:=h;obtain ⟨u,rfl,rx⟩:=yA r;cases rx;obtain ⟨its,r',pl,hz⟩:=I.list hq;have e:=qCS r';subst e;refine call_all_walk (yX I pl fun W st fp k=>⟨_,_,_,_,_,_,_,rfl,W,st,qEU,fun h' tk hk => ?_⟩);rw [show (bs.map Value.bool).toArray.size=bs.length by simp,qDz]
 exact ⟨.bl _,H,I.kept (k h' hk),rfl,q⟩
end
theorem qEq {K:W.Frag} {x D:Addr} (C:ExcK K D):W.KitX K (.ref x) (.ref D) (fun h => ∃ ox od,W.InstAt h x ox D od):=by
 obtain ⟨cd,hcd,_⟩:=Option.bind_eq_some_iff.mp (C.fo none);unfold W.clsIn at hcd;split at hcd
 ·rename_i c' d' cd' sl' ho;refine ⟨fun _ _ _ ⟨ox,od,I⟩=>I.type,fun M h X p => ?_,fun h tp dd its n sl X htp => ?_,fun {prog w A E Q s} X ⟨ox,od,I⟩ k=>qDP C X I k⟩
  ·intro A' Q' E' s' k q;unfold isType loadHead;exact AA (wpAny_loadPart (k _ _ (X _ _ ho)) (AF q))
  ·refine Bool.eq_false_iff.mpr fun q => ?_;have e:D=tp:=Value.ref.inj (A4.mp q);subst e;have z:=(X _ _ ho).symm.trans htp;cases z
 ·cases hcd
end EX
end
section
namespace EV
open PySem PySem.Spec PyProof.Rows L2
inductive PV where
 |non |bl (b:Bool) |int (i:Int) |str (x:Str) |tup (l:List PV) |lst (l:List PV) |ref (i:Nat) |dct |ty (n:String) |fn (a:Addr) |exc (c:Addr) (fs:List (Str×Int))
inductive SO where
 |l (xs:List PV)
 |d (kvs:List (List L2.Key×PV))
 |z (kvs:List (List L2.Key×PV))
abbrev qC:=List SO
structure Exc where
 cls:Addr
 fs:List (Str×Int)
inductive Rs (α:Type) where
 |ok (a:α) (st:qC) |ex (x:Exc) (st:qC) |no
def Rs.bind {α β:Type} (r:Rs α) (k:α->qC->Rs β):Rs β:=match r with
 | .ok a st=>k a st
 | .ex x st => .ex x st
 | .no => .no
abbrev qv:=List (Option PV)
abbrev FE:=qv->qC->Rs PV
abbrev FA:=qv->qC->Rs (List PV)
abbrev FT:=qv->qC->Rs Bool
inductive RS where
 |nx (e:qv) (st:qC) |rt (v:PV) (st:qC) |bk (e:qv) (st:qC) |ct (e:qv) (st:qC) |ex (x:Exc) (st:qC) |no
abbrev FS:=qv->qC->RS
structure Bz where
 b:List Addr
 z:List Addr
def Bz.out (b:Bz) (a:Addr):Prop:=a ∉ b.b∧a ∉ b.z
def KL (K:W.Frag) (a:Addr) (xs:List V):Prop :=
 ∃ (o:Obj) (its:Array Value) (n:Nat),K.lookup a=some o∧o.cls = .type "list" ∧ o.dict=none∧o.data = .seq its n∧its.size≤sizeLine∧Vals xs its.toList
def KT (K:W.Frag) (a:Addr) (xs:List V):Prop :=
 ∃ (o:Obj) (its:Array Value) (n:Nat),K.lookup a=some o∧o.cls = .type "tuple" ∧ o.data = .seq its n∧its.size≤sizeLine∧Vals xs its.toList
def LA (K:W.Frag) (H:Hp) (b:Bz) (a:Addr) (xs:List V):Prop:=(Rd H a (.lst xs)∧b.out a)∨KL K a xs
def TA' (K:W.Frag) (H:Hp) (b:Bz) (a:Addr) (xs:List V):Prop:=(H a=some (.tup xs)∧b.out a)∨KT K a xs
mutual
def RV (K:W.Frag) (H:Hp) (b:Bz):PV->V->Prop
 | .non,v=>v = .non
 | .bl x,v=>v = .bl x
 | .int i,v=>v = .int i
 | .str x,v=>v = .str x
 | .tup l,v => ∃ a xs,v = .ref a∧TA' K H b a xs∧RVs K H b l xs
 | .lst l,v => ∃ a xs,v = .ref a∧LA K H b a xs∧RVs K H b l xs
 | .ref i,v => ∃ a,v = .ref a∧b.b[i]? = some a
 | .dct,v => ∃ a,v = .ref a∧H a=some (.dK [])∧b.out a
 | .ty n,v=>v = .ty n
 | .fn a,v=>v = .ref a
 | .exc c fs,v => ∃ a o u,v = .ref a∧H a=some (.frz o u)∧b.out a∧o.cls = .ref c∧(∃ vs,o.data = .fields vs)∧((fs=[]∧o.dict=none) ∨ ∃ d,o.dict=some d∧H d=some (.xd (fs.map fun p=>(p.1,V.int p.2)))∧b.out d)
def RVs (K:W.Frag) (H:Hp) (b:Bz):List PV->List V->Prop
 |[],xs=>xs=[]
 |p::ps,xs => ∃ x r,xs=x::r∧RV K H b p x∧RVs K H b ps r
end
def SOk (K:W.Frag) (H:Hp) (b:Bz):SO->HO->Prop
 | .l xs,o => ∃ vs,o = .lst vs∧RVs K H b xs vs
 | .d kvs,o => ∃ vs,o = .dT vs∧kvs.map (·.1)=vs.map (·.1)∧RVs K H b (kvs.map (·.2)) (vs.map (·.2))
 | .z kvs,o => ∃ od vs,o = .frz od (.dT vs)∧kvs.map (·.1)=vs.map (·.1)∧RVs K H b (kvs.map (·.2)) (vs.map (·.2))
structure SR (K:W.Frag) (H:Hp) (b:Bz) (st:qC):Prop where
 len:b.b.length=st.length
 nd:b.b.Nodup
 at_:∀ (i:Nat) (x:SO),st[i]? = some x -> ∃ a o,b.b[i]? = some a∧H a=some o∧SOk K H b x o
 zo:∀ a∈b.z,∃ xs,H a=some (.lst xs)
 zb:∀ a∈b.z,a ∉ b.b
structure WE (H:Hp) (b:Bz) (H':Hp) (b':Bz):Prop where
 more:∃ n,b'.b=b.b++n ∧ ∀ a∈n,H a=none
 zm:∃ y,b'.z=y++b.z ∧ ∀ a∈y,H a=none
 keep:∀ a o,H a=some o->b.out a->H' a=some o
 dom:∀ a o,H a=some o -> ∃ o',H' a=some o'
theorem WE.refl (H:Hp) (b:Bz):WE H b H b:=⟨⟨[],by simp,by simp⟩,⟨[],rfl,by simp⟩,fun _ _ h _=>h,fun _ o h=>⟨o,h⟩⟩
theorem WE.none_of {H H':Hp} {b b':Bz} (e:WE H b H' b') {a:Addr} (h:H' a=none):H a=none:=by
 cases q:H a with
 |none=>rfl
 |some o=>obtain ⟨o',e'⟩:=e.dom a o q;rw [h] at e';cases e'
theorem WE.not_in {H H':Hp} {b b':Bz} (e:WE H b H' b') {a:Addr} {o:HO} (h:H a=some o) (hn:b.out a):b'.out a:=by
 obtain ⟨n,hb,hh⟩:=e.more;obtain ⟨y,hz,hy⟩:=e.zm;refine ⟨fun hm => ?_,fun hm => ?_⟩
 ·rw [hb] at hm;rcases An.mp hm with hm |hm
  ·exact hn.1 hm
  ·rw [hh a hm] at h;cases h
 ·rw [hz] at hm;rcases An.mp hm with hm |hm
  ·rw [hy a hm] at h;cases h
  ·exact hn.2 hm
theorem WE.trans {H H1 H2:Hp} {b b1 b2:Bz} (e:WE H b H1 b1) (f:WE H1 b1 H2 b2):WE H b H2 b2:=by
 obtain ⟨n,hn,hh⟩:=e.more;obtain ⟨m,hm,hk⟩:=f.more;obtain ⟨y,hz,hy⟩:=e.zm;obtain ⟨x,hx,hw⟩:=f.zm;refine ⟨⟨n++m,by rw [hm,hn,Al],fun a ha => ?_⟩,⟨x++y,by rw [hx,hz,Al],fun a ha => ?_⟩,fun a o h hb=>f.keep a o (e.keep a o h hb) (e.not_in h hb),fun a o h => ?_⟩
 ·rcases An.mp ha with ha |ha
  ·exact hh a ha
  ·exact e.none_of (hk a ha)
 ·rcases An.mp ha with ha |ha
  ·exact e.none_of (hw a ha)
  ·exact hy a ha
 ·obtain ⟨o',h'⟩:=e.dom a o h;exact f.dom a o' h'
theorem WE.ix {H H':Hp} {b b':Bz} (e:WE H b H' b') {i:Nat} {a:Addr} (h:b.b[i]? = some a):b'.b[i]? = some a:=by obtain ⟨n,hb,_⟩:=e.more;have hi:i < b.b.length:=(AR.mp h).1;rw [hb,Af hi];exact h
theorem WE.new {H:Hp} {b:Bz} {p:Addr} {o:HO} (h:H p=none):WE H b (upd H p o) b :=
 ⟨⟨[],by simp,by simp⟩,⟨[],rfl,by simp⟩,fun a u e _=>by rw [qY (qV e h)];exact e,fun a u e=>⟨u,by rw [qY (qV e h)];exact e⟩⟩
theorem WE.hide {H:Hp} {b:Bz} {p:Addr} {o:HO} (h:H p=none):WE H b (upd H p o) ⟨b.b,p::b.z⟩ :=
 ⟨⟨[],by simp,by simp⟩,⟨[p],rfl,fun a ha=>by rw [Ah.mp ha];exact h⟩,fun a u e _=>by rw [qY (qV e h)];exact e,fun a u e=>⟨u,by rw [qY (qV e h)];exact e⟩⟩
theorem WE.wr {H:Hp} {b:Bz} {p:Addr} {o:HO} (h:p∈b.b∨p∈b.z):WE H b (upd H p o) b :=
 ⟨⟨[],by simp,by simp⟩,⟨[],rfl,by simp⟩,fun a u e hb=>by rw [qY (fun z=>h.elim (fun q=>hb.1 (by rw [z];exact q)) fun q=>hb.2 (by rw [z];exact q))];exact e,fun a u e=>by
  by_cases hz:a=p
  ·exact ⟨o,by rw [hz];exact Qr⟩
  ·exact ⟨u,by rw [qY hz];exact e⟩⟩
theorem Rd.some_of {H:Hp} {a:Addr} {u:HO} (h:Rd H a u):∃ o,H a=some o:=h.elim (fun h=>⟨_,h⟩) fun ⟨_,h⟩=>⟨_,h⟩
theorem Rd.wext {H H':Hp} {b b':Bz} {a:Addr} {u:HO} (e:WE H b H' b') (h:Rd H a u∧b.out a):Rd H' a u∧b'.out a:=by
 obtain ⟨o,ho⟩:=Rd.some_of h.1;refine ⟨?_,e.not_in ho h.2⟩;rcases h.1 with q |⟨o',q⟩
 ·exact .inl (e.keep _ _ q h.2)
 ·exact .inr ⟨o',e.keep _ _ q h.2⟩
theorem LA.wext {K:W.Frag} {H H':Hp} {b b':Bz} {a:Addr} {xs:List V} (e:WE H b H' b') (h:LA K H b a xs):LA K H' b' a xs:=h.elim (fun h => .inl (Rd.wext e h)) .inr
theorem TA'.wext {K:W.Frag} {H H':Hp} {b b':Bz} {a:Addr} {xs:List V} (e:WE H b H' b') (h:TA' K H b a xs):TA' K H' b' a xs:=h.elim (fun h => .inl ⟨e.keep _ _ h.1 h.2,e.not_in h.1 h.2⟩) .inr
theorem LA.sq {K:W.Frag} {H:Hp} {b:Bz} {a:Addr} {xs:List V} (h:LA K H b a xs):SqL K H a xs:=h.elim (fun h => .inl h.1) .inr
theorem TA'.sq {K:W.Frag} {H:Hp} {b:Bz} {a:Addr} {xs:List V} (h:TA' K H b a xs):SqT K H a xs:=h.elim (fun h => .inl (.inl h.1)) .inr
mutual
theorem RV.wext {K:W.Frag} {H H':Hp} {b b':Bz} (e:WE H b H' b'):∀ (p:PV) {v:V},RV K H b p v->RV K H' b' p v
 | .non,_,h=>by unfold RV at h ⊢;exact h
 | .bl _,_,h=>by unfold RV at h ⊢;exact h
 | .int _,_,h=>by unfold RV at h ⊢;exact h
 | .str _,_,h=>by unfold RV at h ⊢;exact h
 | .tup l,_,h=>by unfold RV at h ⊢;obtain ⟨a,xs,h1,h2,h3⟩:=h;exact ⟨a,xs,h1,h2.wext e,RVs.wext e l h3⟩
 | .lst l,_,h=>by unfold RV at h ⊢;obtain ⟨a,xs,h1,h2,h3⟩:=h;exact ⟨a,xs,h1,h2.wext e,RVs.wext e l h3⟩
 | .ref i,_,h=>by unfold RV at h ⊢;obtain ⟨a,h1,h2⟩:=h;exact ⟨a,h1,e.ix h2⟩
 | .ty _,_,h=>by unfold RV at h ⊢;exact h
 | .fn _,_,h=>by unfold RV at h ⊢;exact h
 | .exc _ _,_,h=>by unfold RV at h ⊢;obtain ⟨a,o,u,h1,h2,h3,h4,h6,h5⟩:=h;exact ⟨a,o,u,h1,e.keep _ _ h2 h3,e.not_in h2 h3,h4,h6,h5.imp id fun ⟨d,q1,q2,q3⟩=>⟨d,q1,e.keep _ _ q2 q3,e.not_in q2 q3⟩⟩
 | .dct,_,h=>by unfold RV at h ⊢;obtain ⟨a,h1,h2,h3⟩:=h;exact ⟨a,h1,e.keep _ _ h2 h3,e.not_in h2 h3⟩
theorem RVs.wext {K:W.Frag} {H H':Hp} {b b':Bz} (e:WE H b H' b'):∀ (l:List PV) {xs:List V},RVs K H b l xs->RVs K H' b' l xs
 |[],_,h=>by unfold RVs at h ⊢;exact h
 |p::ps,_,h=>by unfold RVs at h ⊢;obtain ⟨x,r,h1,h2,h3⟩:=h;exact ⟨x,r,h1,RV.wext e p h2,RVs.wext e ps h3⟩
end
structure Ext (H:Hp) (b:Bz) (H':Hp) (b':Bz):Prop extends WE H b H' b' where
 same:b'.z=b.z
 hid:∀ a o,a∈b.z->H a=some o->H' a=some o
 fz:∀ a o u,H a=some (.frz o u)->H' a=some (.frz o u)
theorem Ext.refl (H:Hp) (b:Bz):Ext H b H b:=⟨WE.refl H b,rfl,fun _ _ _ h=>h,fun _ _ _ h=>h⟩
theorem Ext.none_of {H H':Hp} {b b':Bz} (e:Ext H b H' b') {a:Addr} (h:H' a=none):H a=none:=e.toWE.none_of h
theorem Ext.not_in {H H':Hp} {b b':Bz} (e:Ext H b H' b') {a:Addr} {o:HO} (h:H a=some o) (hn:b.out a):b'.out a:=e.toWE.not_in h hn
theorem Ext.trans {H H1 H2:Hp} {b b1 b2:Bz} (e:Ext H b H1 b1) (f:Ext H1 b1 H2 b2):Ext H b H2 b2:=⟨e.toWE.trans f.toWE,f.same.trans e.same,fun a o ha h=>f.hid a o (by rw [e.same];exact ha) (e.hid a o ha h),fun a o u h=>f.fz a o u (e.fz a o u h)⟩
theorem Ext.new {H:Hp} {b:Bz} {p:Addr} {o:HO} (h:H p=none):Ext H b (upd H p o) b:=⟨WE.new h,rfl,fun a u _ e=>by rw [qY (qV e h)];exact e,fun a u _ e=>by rw [qY (qV e h)];exact e⟩
theorem Ext.wr {H:Hp} {b:Bz} {p:Addr} {o:HO} (h:p∈b.b) (hz:∀ a∈b.z,a ∉ b.b) (hf:∀ o u,H p≠some (.frz o u)):Ext H b (upd H p o) b:=⟨WE.wr (.inl h),rfl,fun a u ha e=>by rw [qY (fun z=>hz a ha (by rw [z];exact h))];exact e,fun a u v e=>by rw [qY (fun z=>hf u v (by rw [← z];exact e))];exact e⟩
theorem nfz {H:Hp} {p:Addr} {u:HO} (h:H p=some u) (hu:∀ o v,u ≠ .frz o v):∀ o v,H p≠some (.frz o v):=fun o v z=>by rw [h] at z;cases z;exact hu _ _ rfl
theorem qIZ {H:Hp} {p:Addr} {xs:List V} (h:H p=some (.lst xs)):∀ o v,H p≠some (.frz o v):=nfz h fun _ _ z=>nomatch z
theorem Ext.of_same {H H':Hp} {b:Bz} (h:Same H H'):Ext H b H' b:=⟨⟨⟨[],by simp,by simp⟩,⟨[],rfl,by simp⟩,fun a o e _=>h a o e,fun a o e=>⟨o,h a o e⟩⟩,rfl,fun a o _ e=>h a o e,fun a o u e=>h a _ e⟩
theorem RV.ext {K:W.Frag} {H H':Hp} {b b':Bz} (e:Ext H b H' b') (p:PV) {v:V} (h:RV K H b p v):RV K H' b' p v:=RV.wext e.toWE p h
theorem RVs.ext {K:W.Frag} {H H':Hp} {b b':Bz} (e:Ext H b H' b') (l:List PV) {xs:List V} (h:RVs K H b l xs):RVs K H' b' l xs:=RVs.wext e.toWE l h
theorem RVs.length {K:W.Frag} {H:Hp} {b:Bz}:∀ {l:List PV} {xs:List V},RVs K H b l xs->l.length=xs.length
 |[],_,h=>by unfold RVs at h;rw [h];rfl
 |p::ps,_,h=>by unfold RVs at h;obtain ⟨x,r,rfl,_,h3⟩:=h;rw [AM,AM,RVs.length h3]
theorem RVs.nil {K:W.Frag} {H:Hp} {b:Bz}:RVs K H b [] []:=by unfold RVs;rfl
theorem RVs.cons {K:W.Frag} {H:Hp} {b:Bz} {p:PV} {ps:List PV} {x:V} {r:List V} (h:RV K H b p x) (t:RVs K H b ps r):RVs K H b (p::ps) (x::r):=by unfold RVs;exact ⟨x,r,rfl,h,t⟩
theorem RVs.get {K:W.Frag} {H:Hp} {b:Bz}:∀ {l:List PV} {xs:List V} {i:Nat} {p:PV},RVs K H b l xs->l[i]? = some p -> ∃ x,xs[i]? = some x∧RV K H b p x
 |[],_,_,_,_,h=>by simp at h
 |q::ps,_,0,p,r,h=>by unfold RVs at r;obtain ⟨x,t,rfl,h2,h3⟩:=r;simp at h;subst h;exact ⟨x,rfl,h2⟩
 |q::ps,_,i + 1,p,r,h=>by
  unfold RVs at r;obtain ⟨x,t,rfl,h2,h3⟩:=r;obtain ⟨y,e,hy⟩:=RVs.get (i:=i) h3 (by simpa using h)
  exact ⟨y,by simpa using e,hy⟩
theorem RVs.append {K:W.Frag} {H:Hp} {b:Bz}:∀ {l m:List PV} {xs ys:List V},RVs K H b l xs->RVs K H b m ys->RVs K H b (l++m) (xs++ys)
 |[],_,_,_,h,g=>by unfold RVs at h;subst h;exact g
 |p::ps,_,_,_,h,g=>by unfold RVs at h;obtain ⟨x,r,rfl,h2,h3⟩:=h;exact RVs.cons h2 (RVs.append h3 g)
theorem RVs.take {K:W.Frag} {H:Hp} {b:Bz}:∀ {l:List PV} {xs:List V} (n:Nat),RVs K H b l xs->RVs K H b (l.take n) (xs.take n)
 |_,_,0,_=>RVs.nil
 |[],_,_ + 1,h=>by unfold RVs at h;subst h;exact RVs.nil
 |p::ps,_,n + 1,h=>by unfold RVs at h;obtain ⟨x,r,rfl,h2,h3⟩:=h;exact RVs.cons h2 (RVs.take n h3)
theorem RVs.drop {K:W.Frag} {H:Hp} {b:Bz}:∀ {l:List PV} {xs:List V} (n:Nat),RVs K H b l xs->RVs K H b (l.drop n) (xs.drop n)
 |_,_,0,h=>h
 |[],_,_ + 1,h=>by unfold RVs at h;subst h;exact RVs.nil
 |p::ps,_,n + 1,h=>by unfold RVs at h;obtain ⟨x,r,rfl,h2,h3⟩:=h;exact RVs.drop n h3
theorem RVs.set {K:W.Frag} {H:Hp} {b:Bz} {p:PV} {x:V} (hp:RV K H b p x):∀ {l:List PV} {xs:List V} (n:Nat),RVs K H b l xs->RVs K H b (l.set n p) (xs.set n x)
 |[],_,_,h=>by unfold RVs at h;subst h;exact RVs.nil
 |q::ps,_,0,h=>by unfold RVs at h;obtain ⟨y,r,rfl,h2,h3⟩:=h;exact RVs.cons hp h3
 |q::ps,_,n + 1,h=>by unfold RVs at h;obtain ⟨y,r,rfl,h2,h3⟩:=h;exact RVs.cons h2 (RVs.set hp n h3)
theorem SOk.wext {K:W.Frag} {H H':Hp} {b b':Bz} (e:WE H b H' b'):∀ {x:SO} {o:HO},SOk K H b x o->SOk K H' b' x o
 | .l xs,_,⟨vs,h,r⟩=>⟨vs,h,RVs.wext e xs r⟩
 | .d kvs,_,⟨vs,h,q,r⟩=>⟨vs,h,q,RVs.wext e _ r⟩
 | .z kvs,_,⟨od,vs,h,q,r⟩=>⟨od,vs,h,q,RVs.wext e _ r⟩
theorem SOk.ext {K:W.Frag} {H H':Hp} {b b':Bz} (e:Ext H b H' b') {x:SO} {o:HO} (h:SOk K H b x o):SOk K H' b' x o:=h.wext e.toWE
theorem SR.mem {K:W.Frag} {H:Hp} {b:Bz} {st:qC} (S:SR K H b st) {a:Addr} (h:a∈b.b):∃ o,H a=some o:=by
 obtain ⟨i,hi⟩:=BH h;have hl:i < b.b.length:=(AR.mp hi).1;have hs:st[i]? = some (st[i]'(by rw [← S.len];exact hl)):=AU _
 obtain ⟨a',o,h1,h2,_⟩:=S.at_ i _ hs;rw [hi] at h1;cases h1;exact ⟨o,h2⟩
theorem SR.new_notin {K:W.Frag} {H:Hp} {b:Bz} {st:qC} (S:SR K H b st) {p:Addr} (h:H p=none):b.out p :=
 ⟨fun hm=>(by obtain ⟨o,e⟩:=S.mem hm;rw [h] at e;cases e),fun hm=>(by obtain ⟨o,e⟩:=S.zo p hm;rw [h] at e;cases e)⟩
theorem SR.new {K:W.Frag} {H:Hp} {b:Bz} {st:qC} (S:SR K H b st) {p:Addr} {o:HO} (h:H p=none):SR K (upd H p o) b st :=
 ⟨S.len,S.nd,fun i x hx=>by
  obtain ⟨a,u,h1,h2,h3⟩:=S.at_ i x hx;exact ⟨a,u,h1,by rw [qY (qV h2 h)];exact h2,h3.ext (Ext.new h)⟩,fun a ha=>by
  obtain ⟨u,e⟩:=S.zo a ha;exact ⟨u,by rw [qY (qV e h)];exact e⟩,S.zb⟩
theorem qKC {b:List Addr} (nd:b.Nodup) {i j:Nat} {x:Addr} (h1:b[i]? = some x) (h2:b[j]? = some x):i=j:=by obtain ⟨hi,e1⟩:=AR.mp h1;obtain ⟨hj,e2⟩:=AR.mp h2;exact (List.getElem_inj nd).mp (e1.trans e2.symm)
theorem SR.wr {K:W.Frag} {H:Hp} {b:Bz} {st:qC} (S:SR K H b st) {i:Nat} {p:Addr} {x:SO} {o:HO} (hp:b.b[i]? = some p) (hx:SOk K (upd H p o) b x o):SR K (upd H p o) b (st.set i x):=by
 have hm:p∈b.b:=Aw hp;refine ⟨by simp [S.len],S.nd,fun j y hy => ?_,fun a ha => ?_,S.zb⟩
 ·have hl:i < b.b.length:=(AR.mp hp).1;by_cases hj:j=i
  ·subst hj;rw [A5 (by rw [← S.len];exact hl)] at hy
   cases hy;exact ⟨p,o,hp,Qr,hx⟩
  ·rw [BA (Ne.symm hj)] at hy;obtain ⟨a,u,h1,h2,h3⟩:=S.at_ j y hy;have hne:a≠p:=fun z=>hj (by subst z;exact qKC S.nd h1 hp)
   exact ⟨a,u,h1,by rw [qY hne];exact h2,h3.wext (WE.wr (.inl hm))⟩
 ·obtain ⟨u,e⟩:=S.zo a ha;have hz:a≠p:=fun z=>S.zb a ha (by rw [z];exact hm)
  exact ⟨u,by rw [qY hz];exact e⟩
theorem SR.wrz {K:W.Frag} {H:Hp} {b:Bz} {st:qC} (S:SR K H b st) {p:Addr} {ys:List V} (hp:p∈b.z):SR K (upd H p (.lst ys)) b st:=by
 refine ⟨S.len,S.nd,fun j y hy => ?_,fun a ha => ?_,S.zb⟩
 ·obtain ⟨a,u,h1,h2,h3⟩:=S.at_ j y hy;have hne:a≠p:=fun z=>by subst z;exact S.zb a hp (Aw h1)
  exact ⟨a,u,h1,by rw [qY hne];exact h2,h3.wext (WE.wr (.inr hp))⟩
 ·obtain ⟨u,e⟩:=S.zo a ha;by_cases hz:a=p
  ·exact ⟨ys,by rw [hz];exact Qr⟩
  ·exact ⟨u,by rw [qY hz];exact e⟩
structure Sh (b b':Bz):Prop where
 ix:∀ (i:Nat) (a:Addr),b.b[i]? = some a->b'.b[i]? = some a
 out:∀ a,b.out a->b'.out a
mutual
theorem RV.sh {K:W.Frag} {H:Hp} {b b':Bz} (e:Sh b b'):∀ (p:PV) {v:V},RV K H b p v->RV K H b' p v
 | .non,_,h=>by unfold RV at h ⊢;exact h
 | .bl _,_,h=>by unfold RV at h ⊢;exact h
 | .int _,_,h=>by unfold RV at h ⊢;exact h
 | .str _,_,h=>by unfold RV at h ⊢;exact h
 | .tup l,_,h=>by unfold RV at h ⊢;obtain ⟨a,xs,h1,h2,h3⟩:=h;exact ⟨a,xs,h1,h2.elim (fun q => .inl ⟨q.1,e.out a q.2⟩) .inr,RVs.sh e l h3⟩
 | .lst l,_,h=>by unfold RV at h ⊢;obtain ⟨a,xs,h1,h2,h3⟩:=h;exact ⟨a,xs,h1,h2.elim (fun q => .inl ⟨q.1,e.out a q.2⟩) .inr,RVs.sh e l h3⟩
 | .ref i,_,h=>by unfold RV at h ⊢;obtain ⟨a,h1,h2⟩:=h;exact ⟨a,h1,e.ix i a h2⟩
 | .ty _,_,h=>by unfold RV at h ⊢;exact h
 | .fn _,_,h=>by unfold RV at h ⊢;exact h
 | .exc _ _,_,h=>by unfold RV at h ⊢;obtain ⟨a,o,u,h1,h2,h3,h4,h6,h5⟩:=h;exact ⟨a,o,u,h1,h2,e.out a h3,h4,h6,h5.imp id fun ⟨d,q1,q2,q3⟩=>⟨d,q1,q2,e.out d q3⟩⟩
 | .dct,_,h=>by unfold RV at h ⊢;obtain ⟨a,h1,h2,h3⟩:=h;exact ⟨a,h1,h2,e.out a h3⟩
theorem RVs.sh {K:W.Frag} {H:Hp} {b b':Bz} (e:Sh b b'):∀ (l:List PV) {xs:List V},RVs K H b l xs->RVs K H b' l xs
 |[],_,h=>by unfold RVs at h ⊢;exact h
 |p::ps,_,h=>by unfold RVs at h ⊢;obtain ⟨x,r,h1,h2,h3⟩:=h;exact ⟨x,r,h1,RV.sh e p h2,RVs.sh e ps h3⟩
end
theorem SOk.sh {K:W.Frag} {H:Hp} {b b':Bz} (e:Sh b b'):∀ {x:SO} {o:HO},SOk K H b x o->SOk K H b' x o
 | .l xs,_,⟨vs,h,r⟩=>⟨vs,h,RVs.sh e xs r⟩
 | .d kvs,_,⟨vs,h,q,r⟩=>⟨vs,h,q,RVs.sh e _ r⟩
 | .z kvs,_,⟨od,vs,h,q,r⟩=>⟨od,vs,h,q,RVs.sh e _ r⟩
theorem Sh.bare {b:List Addr} {p:Addr} {z:List Addr}:Sh ⟨b,p::z⟩ ⟨b,z⟩:=⟨fun _ _ h=>h,fun a h=>⟨h.1,fun q=>h.2 (AD _ q)⟩⟩
theorem Sh.slot {b:List Addr} {p:Addr} {z:List Addr}:Sh ⟨b,p::z⟩ ⟨b++[p],z⟩:=⟨fun i a h=>by
  rw [Af (AR.mp h).1];exact h,fun a h=>⟨fun q=>(An.mp q).elim h.1 fun q=>h.2 (by rw [Ah.mp q];exact AI),fun q=>h.2 (AD _ q)⟩⟩
theorem RV.hide {K:W.Frag} {H:Hp} {b z:List Addr} {p:Addr} {o:HO} (hp:H p=none) (q:PV) {v:V} (h:RV K H ⟨b,z⟩ q v):RV K (upd H p o) ⟨b,p::z⟩ q v:=hd q h
where
 outp {a:Addr} {u:HO} (e:H a=some u) (h:Bz.out ⟨b,z⟩ a):Bz.out ⟨b,p::z⟩ a:=⟨h.1,fun q=>(AE.mp q).elim (fun q=>by subst q;rw [hp] at e;cases e) h.2⟩
 rdd {a:Addr} {u:HO} (h:Rd H a u∧Bz.out ⟨b,z⟩ a):Rd (upd H p o) a u∧Bz.out ⟨b,p::z⟩ a:=by
  obtain ⟨w,hw⟩:=Rd.some_of h.1;refine ⟨?_,outp hw h.2⟩;rcases h.1 with q |⟨o',q⟩
  ·exact .inl (by rw [qY (qV q hp)];exact q)
  ·exact .inr ⟨o',by rw [qY (qV q hp)];exact q⟩
 hd:∀ (q:PV) {v:V},RV K H ⟨b,z⟩ q v->RV K (upd H p o) ⟨b,p::z⟩ q v
 | .non,_,h=>by unfold RV at h ⊢;exact h
 | .bl _,_,h=>by unfold RV at h ⊢;exact h
 | .int _,_,h=>by unfold RV at h ⊢;exact h
 | .str _,_,h=>by unfold RV at h ⊢;exact h
 | .tup l,_,h=>by unfold RV at h ⊢;obtain ⟨a,xs,h1,h2,h3⟩:=h;exact ⟨a,xs,h1,h2.elim (fun q => .inl ⟨by rw [qY (qV q.1 hp)];exact q.1,outp q.1 q.2⟩) .inr,hds l h3⟩
 | .lst l,_,h=>by unfold RV at h ⊢;obtain ⟨a,xs,h1,h2,h3⟩:=h;exact ⟨a,xs,h1,h2.elim (fun q => .inl (rdd q)) .inr,hds l h3⟩
 | .ref i,_,h=>by unfold RV at h ⊢;exact h
 | .ty _,_,h=>by unfold RV at h ⊢;exact h
 | .fn _,_,h=>by unfold RV at h ⊢;exact h
 | .exc _ _,_,h=>by unfold RV at h ⊢;obtain ⟨a,o',u,h1,h2,h3,h4,h6,h5⟩:=h;exact ⟨a,o',u,h1,by rw [qY (qV h2 hp)];exact h2,outp h2 h3,h4,h6,h5.imp id fun ⟨d,q1,q2,q3⟩=>⟨d,q1,by rw [qY (qV q2 hp)];exact q2,outp q2 q3⟩⟩
 | .dct,_,h=>by unfold RV at h ⊢;obtain ⟨a,h1,h2,h3⟩:=h;exact ⟨a,h1,by rw [qY (qV h2 hp)];exact h2,outp h2 h3⟩
 hds:∀ (l:List PV) {xs:List V},RVs K H ⟨b,z⟩ l xs->RVs K (upd H p o) ⟨b,p::z⟩ l xs
 |[],_,h=>by unfold RVs at h ⊢;exact h
 |q::ps,_,h=>by unfold RVs at h ⊢;obtain ⟨x,r,h1,h2,h3⟩:=h;exact ⟨x,r,h1,hd q h2,hds ps h3⟩
theorem SR.hide {K:W.Frag} {H:Hp} {b z:List Addr} {st:qC} (S:SR K H ⟨b,z⟩ st) {p:Addr} {ys:List V} (hp:H p=none):SR K (upd H p (.lst ys)) ⟨b,p::z⟩ st:=by
 have hn:=S.new_notin hp;refine ⟨S.len,S.nd,fun i x hx => ?_,fun a ha => ?_,fun a ha => ?_⟩
 ·obtain ⟨a,u,h1,h2,h3⟩:=S.at_ i x hx;refine ⟨a,u,h1,by rw [qY (qV h2 hp)];exact h2,?_⟩
  cases x with
  |l xs =>obtain ⟨vs,e1,e2⟩:=h3;exact ⟨vs,e1,RV.hide.hds hp xs e2⟩
  |d kvs =>obtain ⟨vs,e1,e2,e3⟩:=h3;exact ⟨vs,e1,e2,RV.hide.hds hp _ e3⟩
  |z kvs =>obtain ⟨od,vs,e1,e2,e3⟩:=h3;exact ⟨od,vs,e1,e2,RV.hide.hds hp _ e3⟩
 ·rcases AE.mp ha with rfl |ha
  ·exact ⟨ys,Qr⟩
  ·obtain ⟨u,e⟩:=S.zo a ha;exact ⟨u,by rw [qY (qV e hp)];exact e⟩
 ·rcases AE.mp ha with rfl |ha
  ·exact hn.1
  ·exact S.zb a ha
theorem SR.bare {K:W.Frag} {H:Hp} {b z:List Addr} {st:qC} {p:Addr} (S:SR K H ⟨b,p::z⟩ st):SR K H ⟨b,z⟩ st :=
 ⟨S.len,S.nd,fun i x hx=>by
  obtain ⟨a,u,h1,h2,h3⟩:=S.at_ i x hx;exact ⟨a,u,h1,h2,h3.sh Sh.bare⟩,fun a ha=>S.zo a (AD _ ha),fun a ha=>S.zb a (AD _ ha)⟩
theorem SR.slot {K:W.Frag} {H:Hp} {b z:List Addr} {st:qC} {p:Addr} {x:SO} {o:HO} (S:SR K H ⟨b,p::z⟩ st) (hz:p ∉ z) (ho:H p=some o) (hx:SOk K H ⟨b,p::z⟩ x o):SR K H ⟨b++[p],z⟩ (st++[x]):=by
 have hp:p ∉ b:=S.zb p AI;refine ⟨by simp [show b.length=st.length from S.len],?_,fun i y hy => ?_,fun a ha=>S.zo a (AD _ ha),fun a ha hm => ?_⟩
 ·exact BR.mpr ⟨S.nd,by simp,fun a ha c hc=>by rw [Ah.mp hc];intro z;subst z;exact hp ha⟩
 ·by_cases hi:i < st.length
  ·rw [Af hi] at hy;obtain ⟨a,u,h1,h2,h3⟩:=S.at_ i y hy;exact ⟨a,u,Sh.slot.ix i a h1,h2,h3.sh Sh.slot⟩
  ·have hi':i=st.length:=by
    have:=(AR.mp hy).1
    rw [AY,BZ] at this;omega
   subst hi';have e1:(st++[x])[st.length]? = some x:=by simp
   rw [e1] at hy;cases hy;have hl:b.length=st.length:=S.len;exact ⟨p,o,by show (b++[p])[st.length]? = some p;rw [← hl];simp,ho,hx.sh Sh.slot⟩
 ·rcases An.mp hm with q |q
  ·exact S.zb a (AD _ ha) q
  ·rw [Ah.mp q] at ha;exact hz ha
def REnv (K:W.Frag) (H:Hp) (b:Bz) (r:qv) (s:L2.St):Prop:=r.length=s.length ∧ ∀ (i:Nat) (p:PV),r[i]? = some (some p) -> ∃ v,s[i]? = some (some v)∧RV K H b p v
theorem REnv.wext {K:W.Frag} {H H':Hp} {b b':Bz} {r:qv} {s:L2.St} (h:REnv K H b r s) (e:WE H b H' b'):REnv K H' b' r s:=⟨h.1,fun i p q=>by
 obtain ⟨v,h1,h2⟩:=h.2 i p q;exact ⟨v,h1,RV.wext e p h2⟩⟩
theorem REnv.ext {K:W.Frag} {H H':Hp} {b b':Bz} {r:qv} {s:L2.St} (h:REnv K H b r s) (e:Ext H b H' b'):REnv K H' b' r s:=⟨h.1,fun i p q=>by
 obtain ⟨v,h1,h2⟩:=h.2 i p q;exact ⟨v,h1,RV.ext e p h2⟩⟩
theorem REnv.set {K:W.Frag} {H:Hp} {b:Bz} {r:qv} {s:L2.St} {p:PV} {v:V} (h:REnv K H b r s) (hv:RV K H b p v) (i:Nat):REnv K H b (r.set i (some p)) (s.set i (some v)):=by
 refine ⟨by simp [h.1],fun j q hq => ?_⟩
 by_cases hj:i=j
 ·subst hj;have hl:i < r.length:=by
   have:=(AR.mp hq).1
   simpa using this
  rw [A5 hl] at hq;cases hq;exact ⟨v,by rw [A5 (by rw [← h.1];exact hl)],hv⟩
 ·rw [BA hj] at hq;obtain ⟨w,h1,h2⟩:=h.2 j q hq;exact ⟨w,by rw [BA hj];exact h1,h2⟩
def RX (K:W.Frag) (H:Hp) (b:Bz) (x:Exc) (c:Value) (d:Option Addr):Prop :=
 c = .ref x.cls∧((x.fs=[]∧d=none) ∨ ∃ a,d=some a∧H a=some (.xd (x.fs.map fun p=>(p.1,V.int p.2)))∧b.out a)
def XP (K:W.Frag) (E:XK) (H:Hp) (b:Bz) (x:Exc) (st:qC):Prop := ∀ c d H' b',Ext H b H' b'->SR K H' b' st->RX K H' b' x c d->E c d H'
theorem XP.ext {K:W.Frag} {E:XK} {H H1:Hp} {b b1:Bz} {x:Exc} {st:qC} (h:XP K E H b x st) (e:Ext H b H1 b1):XP K E H1 b1 x st:=fun c d H' b' e' S r=>h c d H' b' (e.trans e') S r
def PostE (K:W.Frag) (E:XK) (H:Hp) (b:Bz) (r:Rs PV) (Q:VK):Prop:=match r with
 | .ok p st => ∀ v H' b',Ext H b H' b'->SR K H' b' st->RV K H' b' p v->Q v H'
 | .ex x st=>XP K E H b x st
 | .no=>False
def PostA (K:W.Frag) (E:XK) (H:Hp) (b:Bz) (r:Rs (List PV)) (Q:List V->Hp->Prop):Prop:=match r with
 | .ok ps st => ∀ vs H' b',Ext H b H' b'->SR K H' b' st->RVs K H' b' ps vs->Q vs H'
 | .ex x st=>XP K E H b x st
 | .no=>False
def PostT (K:W.Frag) (E:XK) (H:Hp) (b:Bz) (r:Rs Bool) (Q:Bool->Hp->Prop):Prop:=match r with
 | .ok k st => ∀ H' b',Ext H b H' b'->SR K H' b' st->Q k H'
 | .ex x st=>XP K E H b x st
 | .no=>False
def PostS (K:W.Frag) (E:XK) (H:Hp) (b:Bz) (r:RS) (D:Ends):Prop:=match r with
 | .nx e st => ∀ s H' b',Ext H b H' b'->SR K H' b' st->REnv K H' b' e s->D.nx s H'
 | .bk e st => ∀ s H' b',Ext H b H' b'->SR K H' b' st->REnv K H' b' e s->D.bk s H'
 | .ct e st => ∀ s H' b',Ext H b H' b'->SR K H' b' st->REnv K H' b' e s->D.ct s H'
 | .rt p st => ∀ v H' b',Ext H b H' b'->SR K H' b' st->RV K H' b' p v->D.rt v H'
 | .ex x st=>XP K E H b x st
 | .no=>False
theorem PostE.ext {K:W.Frag} {E:XK} {H H1:Hp} {b b1:Bz} {r:Rs PV} {Q:VK} (h:PostE K E H b r Q) (e:Ext H b H1 b1):PostE K E H1 b1 r Q:=by
 cases r with
 |ok p st=>exact fun v H' b' e'=>h v H' b' (e.trans e')
 |ex x st=>exact XP.ext h e
 |no=>exact h
theorem PostA.ext {K:W.Frag} {E:XK} {H H1:Hp} {b b1:Bz} {r:Rs (List PV)} {Q:List V->Hp->Prop} (h:PostA K E H b r Q) (e:Ext H b H1 b1):PostA K E H1 b1 r Q:=by
 cases r with
 |ok p st=>exact fun v H' b' e'=>h v H' b' (e.trans e')
 |ex x st=>exact XP.ext h e
 |no=>exact h
theorem PostT.ext {K:W.Frag} {E:XK} {H H1:Hp} {b b1:Bz} {r:Rs Bool} {Q:Bool->Hp->Prop} (h:PostT K E H b r Q) (e:Ext H b H1 b1):PostT K E H1 b1 r Q:=by
 cases r with
 |ok p st=>exact fun H' b' e'=>h H' b' (e.trans e')
 |ex x st=>exact XP.ext h e
 |no=>exact h
theorem PostS.ext {K:W.Frag} {E:XK} {H H1:Hp} {b b1:Bz} {r:RS} {D:Ends} (h:PostS K E H b r D) (e:Ext H b H1 b1):PostS K E H1 b1 r D:=by
 cases r with
 |nx p st=>exact fun v H' b' e'=>h v H' b' (e.trans e')
 |bk p st=>exact fun v H' b' e'=>h v H' b' (e.trans e')
 |ct p st=>exact fun v H' b' e'=>h v H' b' (e.trans e')
 |rt p st=>exact fun v H' b' e'=>h v H' b' (e.trans e')
 |ex x st=>exact XP.ext h e
 |no=>exact h
def rd (K:W.Frag) (E:XK) (f:FE):TE:=fun s H Q => ∃ b r st,SR K H b st∧REnv K H b r s∧PostE K E H b (f r st) Q
def rdA (K:W.Frag) (E:XK) (f:FA):L2.TA:=fun s H Q => ∃ b r st,SR K H b st∧REnv K H b r s∧PostA K E H b (f r st) Q
def rdT (K:W.Frag) (E:XK) (f:FT):TT:=fun s H Q => ∃ b r st,SR K H b st∧REnv K H b r s∧PostT K E H b (f r st) Q
def rdS (K:W.Frag) (E:XK) (f:FS):TS:=fun D s H => ∃ b r st,SR K H b st∧REnv K H b r s∧PostS K E H b (f r st) D
abbrev VE (X:Cx) (E:XK) (e:Expr) (f:FE):Prop:=PE X e (rd X.K E f)
abbrev VA (X:Cx) (E:XK) (e:List Expr) (f:FA):Prop:=PA X e (rdA X.K E f)
abbrev VT (X:Cx) (E:XK) (e:Expr) (f:FT):Prop:=PT X e (rdT X.K E f)
abbrev VS (X:Cx) (E:XK) (e:Stmt) (f:FS):Prop:=PS X e (rdS X.K E f)
abbrev VSs (X:Cx) (E:XK) (e:List Stmt) (f:FS):Prop:=PSs X e (rdS X.K E f)
theorem PE.imp {X:Cx} {e:Expr} {t t':TE} (h:PE X e t) (i:∀ s H Q,t' s H Q->t s H Q):PE X e t':=fun pins s σ H Q I q=>h pins s σ H Q I (i _ _ _ q)
theorem PT.imp {X:Cx} {e:Expr} {t t':TT} (h:PT X e t) (i:∀ s H Q,t' s H Q->t s H Q):PT X e t':=fun pins s σ H Q I q=>h pins s σ H Q I (i _ _ _ q)
theorem PA.imp {X:Cx} {e:List Expr} {t t':L2.TA} (h:PA X e t) (i:∀ s H Q,t' s H Q->t s H Q):PA X e t':=fun pos pins s σ H Q I q=>h pos pins s σ H Q I (i _ _ _ q)
theorem PS.imp {X:Cx} {e:Stmt} {t t':TS} (h:PS X e t) (i:∀ D s H,t' D s H->t D s H):PS X e t':=fun pins s σ H D I q=>h pins s σ H D I (i _ _ _ q)
theorem PSs.imp {X:Cx} {e:List Stmt} {t t':TS} (h:PSs X e t) (i:∀ D s H,t' D s H->t D s H):PSs X e t':=fun pins s σ H D I q=>h pins s σ H D I (i _ _ _ q)
theorem PostE.bind {K:W.Frag} {E:XK} {H:Hp} {b:Bz} {r:Rs PV} {k:PV->qC->Rs PV} {Q R:VK} (P:PostE K E H b (r.bind k) Q)
  (h:∀ p st v H1 b1,Ext H b H1 b1->SR K H1 b1 st->RV K H1 b1 p v->PostE K E H1 b1 (k p st) Q->R v H1):PostE K E H b r R:=by
 cases r with
 |ok p st=>exact fun v H1 b1 e S r=>h p st v H1 b1 e S r (PostE.ext (show PostE K E H b (k p st) Q from P) e)
 |ex x st=>exact P
 |no=>exact P
theorem PostE.bindT {K:W.Frag} {E:XK} {H:Hp} {b:Bz} {r:Rs PV} {k:PV->qC->Rs Bool} {Q:Bool->Hp->Prop} {R:VK} (P:PostT K E H b (r.bind k) Q)
  (h:∀ p st v H1 b1,Ext H b H1 b1->SR K H1 b1 st->RV K H1 b1 p v->PostT K E H1 b1 (k p st) Q->R v H1):PostE K E H b r R:=by
 cases r with
 |ok p st=>exact fun v H1 b1 e S r=>h p st v H1 b1 e S r (PostT.ext (show PostT K E H b (k p st) Q from P) e)
 |ex x st=>exact P
 |no=>exact P
theorem PostT.bind {K:W.Frag} {E:XK} {H:Hp} {b:Bz} {r:Rs Bool} {k:Bool->qC->Rs PV} {Q:VK} {R:Bool->Hp->Prop} (P:PostE K E H b (r.bind k) Q)
  (h:∀ p st H1 b1,Ext H b H1 b1->SR K H1 b1 st->PostE K E H1 b1 (k p st) Q->R p H1):PostT K E H b r R:=by
 cases r with
 |ok p st=>exact fun H1 b1 e S=>h p st H1 b1 e S (PostE.ext (show PostE K E H b (k p st) Q from P) e)
 |ex x st=>exact P
 |no=>exact P
theorem PostT.bindT {K:W.Frag} {E:XK} {H:Hp} {b:Bz} {r:Rs Bool} {k:Bool->qC->Rs Bool} {Q R:Bool->Hp->Prop} (P:PostT K E H b (r.bind k) Q)
  (h:∀ p st H1 b1,Ext H b H1 b1->SR K H1 b1 st->PostT K E H1 b1 (k p st) Q->R p H1):PostT K E H b r R:=by
 cases r with
 |ok p st=>exact fun H1 b1 e S=>h p st H1 b1 e S (PostT.ext (show PostT K E H b (k p st) Q from P) e)
 |ex x st=>exact P
 |no=>exact P
theorem PostA.bind {K:W.Frag} {E:XK} {H:Hp} {b:Bz} {r:Rs (List PV)} {k:List PV->qC->Rs PV} {Q:VK} {R:List V->Hp->Prop} (P:PostE K E H b (r.bind k) Q)
  (h:∀ p st v H1 b1,Ext H b H1 b1->SR K H1 b1 st->RVs K H1 b1 p v->PostE K E H1 b1 (k p st) Q->R v H1):PostA K E H b r R:=by
 cases r with
 |ok p st=>exact fun v H1 b1 e S r=>h p st v H1 b1 e S r (PostE.ext (show PostE K E H b (k p st) Q from P) e)
 |ex x st=>exact P
 |no=>exact P
theorem PostE.bindA {K:W.Frag} {E:XK} {H:Hp} {b:Bz} {r:Rs PV} {k:PV->qC->Rs (List PV)} {Q:List V->Hp->Prop} {R:VK} (P:PostA K E H b (r.bind k) Q)
  (h:∀ p st v H1 b1,Ext H b H1 b1->SR K H1 b1 st->RV K H1 b1 p v->PostA K E H1 b1 (k p st) Q->R v H1):PostE K E H b r R:=by
 cases r with
 |ok p st=>exact fun v H1 b1 e S r=>h p st v H1 b1 e S r (PostA.ext (show PostA K E H b (k p st) Q from P) e)
 |ex x st=>exact P
 |no=>exact P
theorem PostA.bindA {K:W.Frag} {E:XK} {H:Hp} {b:Bz} {r:Rs (List PV)} {k:List PV->qC->Rs (List PV)} {Q R:List V->Hp->Prop} (P:PostA K E H b (r.bind k) Q)
  (h:∀ p st v H1 b1,Ext H b H1 b1->SR K H1 b1 st->RVs K H1 b1 p v->PostA K E H1 b1 (k p st) Q->R v H1):PostA K E H b r R:=by
 cases r with
 |ok p st=>exact fun v H1 b1 e S r=>h p st v H1 b1 e S r (PostA.ext (show PostA K E H b (k p st) Q from P) e)
 |ex x st=>exact P
 |no=>exact P
def Rs.bindS {α:Type} (r:Rs α) (k:α->qC->RS):RS:=match r with
 | .ok a st=>k a st
 | .ex x st => .ex x st
 | .no => .no
theorem PostE.bindS {K:W.Frag} {E:XK} {H:Hp} {b:Bz} {r:Rs PV} {k:PV->qC->RS} {D:Ends} {R:VK} (P:PostS K E H b (r.bindS k) D)
  (h:∀ p st v H1 b1,Ext H b H1 b1->SR K H1 b1 st->RV K H1 b1 p v->PostS K E H1 b1 (k p st) D->R v H1):PostE K E H b r R:=by
 cases r with
 |ok p st=>exact fun v H1 b1 e S r=>h p st v H1 b1 e S r (PostS.ext (show PostS K E H b (k p st) D from P) e)
 |ex x st=>exact P
 |no=>exact P
theorem PostT.bindS {K:W.Frag} {E:XK} {H:Hp} {b:Bz} {r:Rs Bool} {k:Bool->qC->RS} {D:Ends} {R:Bool->Hp->Prop} (P:PostS K E H b (r.bindS k) D)
  (h:∀ p st H1 b1,Ext H b H1 b1->SR K H1 b1 st->PostS K E H1 b1 (k p st) D->R p H1):PostT K E H b r R:=by
 cases r with
 |ok p st=>exact fun H1 b1 e S=>h p st H1 b1 e S (PostS.ext (show PostS K E H b (k p st) D from P) e)
 |ex x st=>exact P
 |no=>exact P
theorem PostA.bindS {K:W.Frag} {E:XK} {H:Hp} {b:Bz} {r:Rs (List PV)} {k:List PV->qC->RS} {D:Ends} {R:List V->Hp->Prop} (P:PostS K E H b (r.bindS k) D)
  (h:∀ p st v H1 b1,Ext H b H1 b1->SR K H1 b1 st->RVs K H1 b1 p v->PostS K E H1 b1 (k p st) D->R v H1):PostA K E H b r R:=by
 cases r with
 |ok p st=>exact fun v H1 b1 e S r=>h p st v H1 b1 e S r (PostS.ext (show PostS K E H b (k p st) D from P) e)
 |ex x st=>exact P
 |no=>exact P
def asL (st:qC):PV->Option (List PV)
 | .lst l=>some l
 | .ref i=>match st[i]? with
  |some (.l xs)=>some xs
  |_=>none
 |_=>none
def asT:PV->Option (List PV)
 | .tup l=>some l
 |_=>none
def Wy (st:qC) (p:PV):Option (List PV):=match p with
 | .tup l=>some l
 |p=>asL st p
section
variable {K:W.Frag} {H:Hp} {b:Bz} {st:qC} {p:PV} {v:V} {l:List PV}
theorem wH (S:SR K H b st) (r:RV K H b p v) (h:asL st p=some l):∃ a xs,v = .ref a∧SqL K H a xs∧RVs K H b l xs:=by
 cases p with
 |lst m =>unfold RV at r;obtain ⟨a,xs,h1,h2,h3⟩:=r;have e:m=l:=Ai h;subst e;exact ⟨a,xs,h1,h2.sq,h3⟩
 |ref i =>
  unfold RV at r;obtain ⟨a,h1,h2⟩:=r;unfold asL at h;dsimp only at h;cases q:st[i]? with
  |none=>rw [q] at h;cases h
  |some o =>
   cases o with
   |l ys =>rw [q] at h;have e:ys=l:=Ai h;subst e;obtain ⟨a',o,e1,e2,vs,e3,e4⟩:=S.at_ i _ q;rw [h2] at e1;cases e1;subst e3;exact ⟨a,vs,h1,SqL.of e2,e4⟩
   |d ys=>rw [q] at h;cases h
   |z ys=>rw [q] at h;cases h
 |_=>cases h
theorem Ze (S:SR K H b st) (r:RV K H b p v) (h:Wy st p=some l):∃ a xs,v = .ref a∧(SqL K H a xs∨SqT K H a xs)∧RVs K H b l xs:=by
 cases p with
 |tup m =>unfold RV at r;obtain ⟨a,xs,h1,h2,h3⟩:=r;have e:m=l:=Ai h;subst e;exact ⟨a,xs,h1,.inr h2.sq,h3⟩
 |lst m =>obtain ⟨a,xs,h1,h2,h3⟩:=wH S r h;exact ⟨a,xs,h1,.inl h2,h3⟩
 |ref i =>obtain ⟨a,xs,h1,h2,h3⟩:=wH S r h;exact ⟨a,xs,h1,.inl h2,h3⟩
 |_=>cases h
end
abbrev FL:=qv->qC->Rs (List PV)
def PostN (K:W.Frag) (E:XK) (H:Hp) (b:Bz) (r:Rs (List PV)) (Q:VK):Prop:=match r with
 | .ok l st => ∀ p xs H' b',Ext H b H' b'->H p=none->H' p=some (.lst xs)->p ∉ b'.z->SR K H' ⟨b'.b,p::b'.z⟩ st->RVs K H' ⟨b'.b,p::b'.z⟩ l xs->Q (.ref p) H'
 | .ex x st=>XP K E H b x st
 | .no=>False
def rdN (K:W.Frag) (E:XK) (f:FL):TE:=fun s H Q => ∃ b r st,SR K H b st∧REnv K H b r s∧PostN K E H b (f r st) Q
abbrev VN (X:Cx) (E:XK) (e:Expr) (f:FL):Prop:=PE X e (rdN X.K E f)
def vFz (f:FL):FE:=fun r st=>(f r st).bind fun l s => .ok (.lst l) s
theorem PostN.of {K:W.Frag} {E:XK} {H:Hp} {b:Bz} {r:Rs (List PV)} {Q:VK} (P:PostE K E H b (r.bind fun l s => .ok (.lst l) s) Q):PostN K E H b r Q:=by
 cases r with
 |ok l st=>exact fun p xs H' b' e hn hp hz S r=>P _ H' b' e S.bare (by unfold RV;exact ⟨p,xs,rfl,.inl ⟨.inl hp,S.zb p AI,hz⟩,RVs.sh Sh.bare l r⟩)
 |ex x st=>exact P
 |no=>exact P
theorem PostN.ext {K:W.Frag} {E:XK} {H H1:Hp} {b b1:Bz} {r:Rs (List PV)} {Q:VK} (h:PostN K E H b r Q) (e:Ext H b H1 b1):PostN K E H1 b1 r Q:=by
 cases r with
 |ok p st=>exact fun p xs H' b' e' hn=>h p xs H' b' (e.trans e') (e.none_of hn)
 |ex x st=>exact XP.ext h e
 |no=>exact h
theorem PostN.lay {K:W.Frag} {E:XK} {H:Hp} {b:Bz} {st:qC} {l:List PV} {xs:List V} {Q:VK} (P:PostN K E H b (.ok l st) Q) (S:SR K H b st) (r:RVs K H b l xs) {p:Addr} (h:H p=none):Q (.ref p) (upd H p (.lst xs)) :=
 P p xs _ b (Ext.new h) h Qr (S.new_notin h).2 (SR.hide S h) (RV.hide.hds h l r)
theorem PostE.layT {K:W.Frag} {E:XK} {H:Hp} {b:Bz} {st:qC} {l:List PV} {xs:List V} {Q:VK} (P:PostE K E H b (.ok (.tup l) st) Q) (S:SR K H b st) (r:RVs K H b l xs) {p:Addr} (h:H p=none):Q (.ref p) (upd H p (.tup xs)) :=
 P _ _ b (Ext.new h) (S.new h) (by unfold RV;exact ⟨p,xs,rfl,.inl ⟨Qr,S.new_notin h⟩,RVs.ext (Ext.new h) l r⟩)
theorem PostE.here {K:W.Frag} {E:XK} {H:Hp} {b:Bz} {st:qC} {p:PV} {v:V} {Q:VK} (P:PostE K E H b (.ok p st) Q) (S:SR K H b st) (r:RV K H b p v):Q v H:=P v H b (Ext.refl H b) S r
section
variable {X:Cx} {E:XK} {e a c d:Expr} {es:List Expr} {f fa fb fc:FE} {pos:Pos}
theorem ql {f:FL} (h:VN X E e f):VE X E e (vFz f):=PE.imp h fun s H Q ⟨b,r,st,S,R,P⟩=>⟨b,r,st,S,R,PostN.of P⟩
def vC (p:PV):FE:=fun _ st => .ok p st
def qB (i:Nat):FE:=fun r st=>match r[i]? with
 |some (some p) => .ok p st
 |_ => .no
theorem qBK {p:PV} {v:V} (h:PE X e (tC v)) (hv:∀ H b,RV X.K H b p v):VE X E e (vC p):=PE.imp h fun s H Q ⟨b,r,st,S,R,P⟩=>PostE.here P S (hv H b)
theorem qL {i:Int} {j pos}:VE X E (.Constant (.int i) j pos) (vC (.int i)):=qBK qJv fun _ _=>by unfold RV;rfl
theorem WC {i:Bool} {j pos}:VE X E (.Constant (.bool i) j pos) (vC (.bl i)):=qBK qKy fun _ _=>by unfold RV;rfl
theorem Jc {j pos}:VE X E (.Constant .none j pos) (vC .non):=qBK qJA fun _ _=>by unfold RV;rfl
theorem Qb {x:Str} {j pos}:VE X E (.Constant (.str x) j pos) (vC (.str x)):=qBK qIQ fun _ _=>by unfold RV;rfl
theorem Qp {x:Str} {i:Int} {t:Tok} {pos:Pos} (hg:Gl X x) (hm:X.mg x=some (.int i t)) (hd:(x==("__debug__":Str))=false:=by decide):VE X E (.Name x pos) (vC (.int i)) :=
 qBK (qCf (v := .int i) hg hm ⟨t,rfl⟩ hd) fun _ _=>by unfold RV;rfl
theorem qKr {i:Nat} (h:PE X e (qJw i)):VE X E e (qB i):=PE.imp h fun s H Q ⟨b,r,st,S,R,P⟩=>by
 unfold qB at P;cases q:r[i]? with
 |none=>rw [q] at P;exact False.elim P
 |some o =>
  cases o with
  |none=>rw [q] at P;exact False.elim P
  |some p =>rw [q] at P;obtain ⟨v,h1,h2⟩:=R.2 i p q;exact ⟨v,h1,PostE.here P S h2⟩
def qP (g:PV->PV->qC->Rs PV) (fa fb:FE):FE:=fun r st=>(fa r st).bind fun p s1=>(fb r s1).bind fun q s2=>g p q s2
def OpG (X:Cx) (E:XK) (t:R2) (g:PV->PV->qC->Rs PV):Prop :=
 ∀ (H:Hp) (b:Bz) (st:qC) (p q:PV) (u v:V) (Q:VK),SR X.K H b st->RV X.K H b p u->RV X.K H b q v->PostE X.K E H b (g p q st) Q->t u v H Q
theorem j8 {t:R2} {g:PV->PV->qC->Rs PV} (hg:OpG X E t g):∀ s H Q,rd X.K E (qP g fa fb) s H Q->tOp t (rd X.K E fa) (rd X.K E fb) s H Q:=fun s H Q ⟨b,r,st,S,R,P⟩ =>
 ⟨b,r,st,S,R,PostE.bind P fun p s1 u H1 b1 e1 S1 r1 P1=>⟨b1,r,s1,S1,R.ext e1,PostE.bind P1 fun q s2 v H2 b2 e2 S2 r2 P2=>hg H2 b2 s2 p q u v Q S2 (RV.ext e2 p r1) r2 P2⟩⟩
theorem Z6 {op:Operator} {t:R2} {g:PV->PV->qC->Rs PV} (ho:OpR X (binaryOp op) t) (hg:OpG X E t g) (ha:VE X E a fa) (hb:VE X E c fb):VE X E (.BinOp a op c pos) (qP g fa fb):=PE.imp (qFd ho ha hb) (j8 hg)
theorem Ya {op:CmpOp} {t:R2} {g:PV->PV->qC->Rs PV} (ho:OpR X (compareOp op) t) (hg:OpG X E t g) (ha:VE X E a fa) (hb:VE X E c fb) (hm:behindInMarks op c=false:=by first |exact qBl _ |with_unfolding_all rfl):VE X E (.Compare a [op] [c] pos) (qP g fa fb):=PE.imp (qGX ho ha hb hm) (j8 hg)
def gI (g:Int->Int->Option PV):PV->PV->qC->Rs PV:=fun p q st=>match p,q with
 | .int i,.int j=>match g i j with
  |some z => .ok z st
  |none => .no
 |_,_ => .no
theorem qFH {C:Int->Int->Prop} {h:Int->Int->V} {g:Int->Int->Option PV} (hg:∀ i j z,g i j=some z->C i j ∧ ∀ H b,RV X.K H b z (h i j)):OpG X E (rI C h) (gI g):=by
 intro H b st p q u v Q S rp rq P;unfold gI at P;split at P
 ·rename_i i j;unfold RV at rp rq;split at P
  ·rename_i z e;obtain ⟨c,r⟩:=hg i j z e;exact ⟨i,j,rp,rq,c,PostE.here P S (r H b)⟩
  ·exact P.elim
 ·exact P.elim
theorem qAm {h:Int->Int->V} {g:Int->Int->PV} (hg:∀ i j H b,RV X.K H b (g i j) (h i j)):OpG X E (rI0 h) (gI fun i j=>some (g i j)):=by
 intro H b st p q u v Q S rp rq P;unfold gI at P;split at P
 ·rename_i i j;unfold RV at rp rq;exact ⟨i,j,rp,rq,PostE.here P S (hg i j H b)⟩
 ·exact P.elim
theorem Qf {K:W.Frag} {H:Hp} {b:Bz} {i:Int}:RV K H b (.int i) (.int i):=by unfold RV;rfl
theorem zj {K:W.Frag} {H:Hp} {b:Bz} {i:Bool}:RV K H b (.bl i) (.bl i):=by unfold RV;rfl
def yS:=gI fun i j=>some (.int (i - j))
def zt:=gI fun i j=>if (-(2 ^ 64) < i∧i < 2 ^ 64)∨(-(2 ^ 64) < j∧j < 2 ^ 64) then some (.int (i * j)) else none
def qDl:=gI fun i j=>if 0 < j∧j < 1073741824 then some (.int (i / j)) else none
def qBW:=gI fun i j=>if 0 < j then some (.int (i % j)) else none
def qLH:=gI fun i j=>if 0≤j∧j≤1000000∧i.natAbs < 2 ^ 64 then some (.int (i ^ j.toNat)) else none
theorem yR (ha:VE X E a fa) (hb:VE X E c fb):VE X E (.BinOp a .Sub c pos) (qP yS fa fb):=Z6 qH5 (qAm fun _ _ _ _=>Qf) ha hb
theorem ZB (ha:VE X E a fa) (hb:VE X E c fb):VE X E (.BinOp a .Mult c pos) (qP zt fa fb):=Z6 qJV (qFH fun i j z e=>by
 split at e
 ·rename_i h;cases e;exact ⟨h,fun _ _=>Qf⟩
 ·cases e) ha hb
theorem qD3 (ha:VE X E a fa) (hb:VE X E c fb):VE X E (.BinOp a .FloorDiv c pos) (qP qDl fa fb):=Z6 qGG (qFH fun i j z e=>by
 split at e
 ·rename_i h;cases e;exact ⟨h,fun _ _=>Qf⟩
 ·cases e) ha hb
theorem qBz (ha:VE X E a fa) (hb:VE X E c fb):VE X E (.BinOp a .Mod c pos) (qP qBW fa fb):=Z6 qIi (qFH fun i j z e=>by
 split at e
 ·rename_i h;cases e;exact ⟨h,fun _ _=>Qf⟩
 ·cases e) ha hb
theorem qI9 (ha:VE X E a fa) (hb:VE X E c fb):VE X E (.BinOp a .Pow c pos) (qP qLH fa fb):=Z6 qIN (qFH fun i j z e=>by
 split at e
 ·rename_i h;cases e;exact ⟨h,fun _ _=>Qf⟩
 ·cases e) ha hb
def QV:=gI fun i j=>some (.int (i + j))
theorem QP (ha:VE X E a fa) (hb:VE X E c fb):VE X E (.BinOp a .Add c pos) (qP QV fa fb):=Z6 qJW (qAm fun _ _ _ _=>Qf) ha hb
def qJl:PV->PV->qC->Rs PV:=fun p q st=>match p,q with
 | .str x,.str y=>if x.length + y.length≤sizeLine then .ok (.str (x++y)) st else .no
 |_,_ => .no
theorem qGb (ha:VE X E a fa) (hb:VE X E c fb):VE X E (.BinOp a .Add c pos) (qP qJl fa fb):=Z6 qBq (fun H b st p q u v Q S rp rq P=>by
 unfold qJl at P;split at P
 ·rename_i x y;unfold RV at rp rq;split at P
  ·rename_i h;exact ⟨x,y,rp,rq,h,PostE.here P S (by unfold RV;rfl)⟩
  ·exact P.elim
 ·exact P.elim) ha hb
def gLt:=gI fun i j=>some (.bl (decide (i < j)))
def gLe:=gI fun i j=>some (.bl (decide (i≤j)))
def gGt:=gI fun i j=>some (.bl (decide (j < i)))
theorem qD9:OpG X E (rI0 fun i j => .bl (decide (i < j))) gLt:=qAm fun _ _ _ _=>zj
theorem qCT:OpG X E (rI0 fun i j => .bl (decide (i≤j))) gLe:=qAm fun _ _ _ _=>zj
theorem qHn:OpG X E (rI0 fun i j => .bl (decide (j < i))) gGt:=qAm fun _ _ _ _=>zj
theorem qKn (ha:VE X E a fa) (hb:VE X E c fb):VE X E (.Compare a [.Lt] [c] pos) (qP gLt fa fb):=Ya qEh qD9 ha hb
def ye (g g':PV->PV->qC->Rs PV) (fa fb fc:FE):FE:=fun r st=>(fa r st).bind fun p s1=>(fb r s1).bind fun q s2=>(g p q s2).bind fun z s3=>match z with
 | .bl true=>(fc r s3).bind fun w s4=>g' q w s4
 | .bl false => .ok (.bl false) s3
 |_ => .no
theorem qBE {op op':CmpOp} {t t':R2} {g g':PV->PV->qC->Rs PV} (ho:OpR X (compareOp op) t) (ho':OpR X (compareOp op') t') (hg:OpG X E t g) (hg':OpG X E t' g') (ha:VE X E a fa) (hb:VE X E c fb) (hc:VE X E d fc)
  (hm:lastMarks [op,op'] [c,d]=false:=by with_unfolding_all rfl):VE X E (.Compare a [op,op'] [c,d] pos) (ye g g' fa fb fc):=by
 refine PE.imp (qFW ho ho' ha hb hc hm) fun s H Q ⟨b,r,st,S,R,P⟩ => ?_;refine ⟨b,r,st,S,R,PostE.bind P fun p s1 u H1 b1 e1 S1 r1 P1=>⟨b1,r,s1,S1,R.ext e1,PostE.bind P1 fun q s2 v H2 b2 e2 S2 r2 P2 => ?_⟩⟩;refine hg H2 b2 s2 p q u v _ S2 (RV.ext e2 p r1) r2 (PostE.bind P2 fun z s3 zv H3 b3 e3 S3 r3 P3 => ?_);split at P3
 ·unfold RV at r3;refine ⟨true,r3,qDO ⟨b3,r,s3,S3,((R.ext e1).ext e2).ext e3,PostE.bind P3 fun w s4 wv H4 b4 e4 S4 r4 P4 => ?_⟩⟩;exact hg' H4 b4 s4 q w v wv Q S4 (RV.ext e4 q (RV.ext e3 q r2)) r4 P4
 ·unfold RV at r3;exact ⟨false,r3,qDB (PostE.here P3 S3 zj)⟩
 ·exact P3.elim
def qEs (st:qC):PV->Option Bool
 | .non=>some false
 | .bl x=>some x
 | .int i=>some (i != 0)
 | .tup l=>some (!l.isEmpty)
 | .lst l=>some (!l.isEmpty)
 | .ref i=>(asL st (.ref i)).map fun l => !l.isEmpty
 |_=>none
theorem qFM {K:W.Frag} {H:Hp} {b:Bz} {st:qC} {p:PV} {v:V} {k:Bool} (S:SR K H b st) (r:RV K H b p v) (h:qEs st p=some k):qGY K v H k:=by
 have emp:∀ {l:List PV} {xs:List V},RVs K H b l xs->(!l.isEmpty) = !xs.isEmpty:=fun {l xs} q=>by
  have:=q.length
  cases l <;> cases xs <;> first |rfl |(simp at this)
 cases p with
 |non=>unfold RV at r;subst r;exact (Ai h).symm
 |bl x=>unfold RV at r;subst r;exact (Ai h).symm
 |int x=>unfold RV at r;subst r;exact (Ai h).symm
 |tup l =>unfold RV at r;obtain ⟨a,xs,rfl,h2,h3⟩:=r;exact .inr (.inl ⟨xs,h2.sq,by rw [← emp h3];exact (Ai h).symm⟩)
 |lst l =>obtain ⟨a,xs,rfl,h2,h3⟩:=wH S r rfl;exact .inl ⟨xs,h2,by rw [← emp h3];exact (Ai h).symm⟩
 |ref i =>
  unfold qEs at h;dsimp only at h;cases q:asL st (.ref i) with
  |none=>rw [q] at h;cases h
  |some l =>rw [q] at h;obtain ⟨a,xs,rfl,h2,h3⟩:=wH S r q;exact .inl ⟨xs,h2,by rw [← emp h3];exact (Ai h).symm⟩
 |_=>cases h
def QL (f:FE):FT:=fun r st=>(f r st).bind fun p s=>match qEs s p with
 |some k => .ok k s
 |none => .no
theorem qFr {R:Bool->Hp->Prop} {s:L2.St} {H:Hp} (h:rdT X.K E (QL f) s H R):rd X.K E f s H fun x H' => ∃ k,qGY X.K x H' k∧R k H':=by
 obtain ⟨b,r,st,S,RE,P⟩:=h;refine ⟨b,r,st,S,RE,PostE.bindT P fun p s1 u H1 b1 e1 S1 r1 P1 => ?_⟩;split at P1
 ·rename_i k e;exact ⟨k,qFM S1 r1 e,P1 H1 b1 (Ext.refl _ _) S1⟩
 ·exact P1.elim
theorem Q8 (h:VE X E e f) (he:∀ whole,isTrue e X.env whole=(do let v ← whole;standAt e.pos;holding [v] (truthy v)):=by intro _;rfl):VT X E e (QL f):=PT.imp (qEj h he) fun s H Q q=>qFr q
def vTB (f:FE):FT:=fun r st=>(f r st).bind fun p s=>match p with
 | .bl k => .ok k s
 |_ => .no
theorem qLC {R:Bool->Hp->Prop} {s:L2.St} {H:Hp} (h:rdT X.K E (vTB f) s H R):rd X.K E f s H fun x H' => ∃ k,x = .bl k∧R k H':=by
 obtain ⟨b,r,st,S,RE,P⟩:=h;refine ⟨b,r,st,S,RE,PostE.bindT P fun p s1 u H1 b1 e1 S1 r1 P1 => ?_⟩;split at P1
 ·rename_i k;unfold RV at r1;exact ⟨k,r1,P1 H1 b1 (Ext.refl _ _) S1⟩
 ·exact P1.elim
theorem QE {op:CmpOp} {t:R2} {g:PV->PV->qC->Rs PV} (ho:OpR X (compareOp op) t) (hg:OpG X E t g) (ha:VE X E a fa) (hb:VE X E c fb) (hm:behindInMarks op c=false:=by first |exact qBl _ |with_unfolding_all rfl):VT X E (.Compare a [op] [c] pos) (vTB (qP g fa fb)) :=
 PT.imp (qHK ho ha hb hm) fun s H Q q=>j8 hg s H _ (qLC q)
def wb (f:FT):FT:=fun r st=>(f r st).bind fun k s => .ok (!k) s
theorem wj {f:FT} (h:VT X E a f):VT X E (.UnaryOp .Not a pos) (wb f):=PT.imp (qIw h) fun s H Q ⟨b,r,st,S,R,P⟩=>⟨b,r,st,S,R,PostT.bindT P fun k s1 H1 b1 e1 S1 P1=>P1 H1 b1 (Ext.refl _ _) S1⟩
abbrev VW (X:Cx) (E:XK) (e:Expr) (f:FT):Prop:=PW X e (rdT X.K E f)
theorem PW.imp {X:Cx} {e:Expr} {t t':TT} (h:PW X e t) (i:∀ s H Q,t' s H Q->t s H Q):PW X e t':=fun w pins s σ H Q I q=>h w pins s σ H Q I (i _ _ _ q)
def zk (f g:FT):FT:=fun r st=>(f r st).bind fun k s=>if k=true then g r s else .ok false s
def zr (f g:FT):FT:=fun r st=>(f r st).bind fun k s=>if k=true then .ok true s else g r s
theorem JP {f:FT} (h:VT X E a f):VW X E (.BoolOp .And [a] pos) f:=qGp h
theorem W6 {f:FT} (h:VT X E a f):VW X E (.BoolOp .Or [a] pos) f:=qJG h
theorem JJ {f g:FT} {rest:List Expr} (h:VT X E a f) (h2:VW X E (.BoolOp .And (c::rest) pos) g):VW X E (.BoolOp .And (a::c::rest) pos) (zk f g):=PW.imp (qIu h h2) fun s H Q ⟨b,r,st,S,R,P⟩ =>
 ⟨b,r,st,S,R,PostT.bindT P fun k s1 H1 b1 e1 S1 P1=>by
  cases k with
  |true=>exact qDO ⟨b1,r,s1,S1,R.ext e1,P1⟩
  |false=>exact qDB (P1 H1 b1 (Ext.refl _ _) S1)⟩
theorem ZO {f g:FT} {rest:List Expr} (h:VT X E a f) (h2:VW X E (.BoolOp .Or (c::rest) pos) g):VW X E (.BoolOp .Or (a::c::rest) pos) (zr f g):=PW.imp (qKV h h2) fun s H Q ⟨b,r,st,S,R,P⟩ =>
 ⟨b,r,st,S,R,PostT.bindT P fun k s1 H1 b1 e1 S1 P1=>by
  cases k with
  |true=>exact qDO (P1 H1 b1 (Ext.refl _ _) S1)
  |false=>exact qDB ⟨b1,r,s1,S1,R.ext e1,P1⟩⟩
theorem ya {f:FT} (h:VW X E e f):VT X E e f:=h.pt
def qI5 (f:FE):FE:=fun r st=>(f r st).bind fun p s=>match p with
 | .bl k => .ok (.bl (!k)) s
 |_ => .no
theorem qE9 (h:VE X E a fa):VE X E (.UnaryOp .Not a pos) (qI5 fa):=PE.imp (qIg h) fun s H Q ⟨b,r,st,S,R,P⟩ =>
 ⟨b,r,st,S,R,PostE.bind P fun p s1 u H1 b1 e1 S1 r1 P1=>by
  split at P1
  ·rename_i k;unfold RV at r1;exact ⟨k,r1,PostE.here P1 S1 zj⟩
  ·exact P1.elim⟩
def ZU (f g:FE):FE:=fun r st=>(f r st).bind fun p s=>match p with
 | .bl true=>g r s
 | .bl false => .ok (.bl false) s
 |_ => .no
theorem Zk {op} (h:VE X E a fa):VE X E (.BoolOp op [a] pos) fa:=qJU h
theorem zy {rest:List Expr} (h:VE X E a fa) (h2:VE X E (.BoolOp .And (c::rest) pos) fb):VE X E (.BoolOp .And (a::c::rest) pos) (ZU fa fb):=PE.imp (qIy h h2) fun s H Q ⟨b,r,st,S,R,P⟩ =>
 ⟨b,r,st,S,R,PostE.bind P fun p s1 u H1 b1 e1 S1 r1 P1=>by
  split at P1
  ·unfold RV at r1;exact ⟨true,r1,qDO ⟨b1,r,s1,S1,R.ext e1,P1⟩⟩
  ·unfold RV at r1;exact ⟨false,r1,qDB (PostE.here P1 S1 zj)⟩
  ·exact P1.elim⟩
def vIf (t:FT) (f g:FE):FE:=fun r st=>(t r st).bind fun k s=>if k=true then f r s else g r s
theorem qLD {t:FT} (hc:VT X E e t) (ha:VE X E a fa) (hb:VE X E c fb):VE X E (.IfExp e a c pos) (vIf t fa fb):=PE.imp (qEV hc ha hb) fun s H Q ⟨b,r,st,S,R,P⟩ =>
 ⟨b,r,st,S,R,PostT.bind P fun k s1 H1 b1 e1 S1 P1=>by
  cases k with
  |true=>exact qDO ⟨b1,r,s1,S1,R.ext e1,P1⟩
  |false=>exact qDB ⟨b1,r,s1,S1,R.ext e1,P1⟩⟩
def qD:FA:=fun _ st => .ok [] st
def qA (f:FE) (g:FA):FA:=fun r st=>(f r st).bind fun p s=>(g r s).bind fun ps s' => .ok (p::ps) s'
theorem qF:VA X E [] qD:=PA.imp Yd fun s H Q ⟨b,r,st,S,R,P⟩=>P [] H b (Ext.refl _ _) S RVs.nil
theorem Q6 {f:FE} {g:FA} (h:VE X E e f) (h2:VA X E es g) (hs:starEach (e::es) X.env=(false,eval e X.env)::starEach es X.env:=by rfl):VA X E (e::es) (qA f g):=PA.imp (Z3 h h2 hs) fun s H Q ⟨b,r,st,S,R,P⟩ =>
 ⟨b,r,st,S,R,PostE.bindA P fun p s1 u H1 b1 e1 S1 r1 P1=>⟨b1,r,s1,S1,R.ext e1,PostA.bindA P1 fun ps s2 us H2 b2 e2 S2 r2 P2=>P2 (u::us) H2 b2 (Ext.refl _ _) S2 (RVs.cons (RV.ext e2 p r1) r2)⟩⟩
def qy (g:FA):FE:=fun r st=>(g r st).bind fun ps s=>if ps.length≤sizeLine then .ok (.tup ps) s else .no
theorem qk {g:FA} {x1} (h:VA X E es g):VE X E (.Tuple es x1 pos) (qy g):=PE.imp (qJa h) fun s H Q ⟨b,r,st,S,R,P⟩ =>
 ⟨b,r,st,S,R,PostA.bind P fun ps s1 us H1 b1 e1 S1 r1 P1=>by
  split at P1
  ·rename_i hl;exact ⟨by rw [← r1.length];exact hl,fun p hp=>PostE.layT P1 S1 r1 hp⟩
  ·exact P1.elim⟩
def Qy (g:FA):FL:=fun r st=>(g r st).bind fun ps s=>if ps.length≤sizeLine then .ok ps s else .no
theorem PostA.bindN {K:W.Frag} {E:XK} {H:Hp} {b:Bz} {r:Rs (List PV)} {k:List PV->qC->Rs (List PV)} {Q:VK} {R:List V->Hp->Prop} (P:PostN K E H b (r.bind k) Q)
  (h:∀ p st v H1 b1,Ext H b H1 b1->SR K H1 b1 st->RVs K H1 b1 p v->PostN K E H1 b1 (k p st) Q->R v H1):PostA K E H b r R:=by
 cases r with
 |ok p st=>exact fun v H1 b1 e S r=>h p st v H1 b1 e S r (PostN.ext (show PostN K E H b (k p st) Q from P) e)
 |ex x st=>exact P
 |no=>exact P
theorem PostE.bindN {K:W.Frag} {E:XK} {H:Hp} {b:Bz} {r:Rs PV} {k:PV->qC->Rs (List PV)} {Q:VK} {R:VK} (P:PostN K E H b (r.bind k) Q)
  (h:∀ p st v H1 b1,Ext H b H1 b1->SR K H1 b1 st->RV K H1 b1 p v->PostN K E H1 b1 (k p st) Q->R v H1):PostE K E H b r R:=by
 cases r with
 |ok p st=>exact fun v H1 b1 e S r=>h p st v H1 b1 e S r (PostN.ext (show PostN K E H b (k p st) Q from P) e)
 |ex x st=>exact P
 |no=>exact P
theorem QS {g:FA} (h:VA X E es g):VN X E (.List es pos) (Qy g):=PE.imp (qJY h) fun s H Q ⟨b,r,st,S,R,P⟩ =>
 ⟨b,r,st,S,R,PostA.bindN P fun ps s1 us H1 b1 e1 S1 r1 P1=>by
  split at P1
  ·rename_i hl;exact ⟨by rw [← r1.length];exact hl,fun p hp=>PostN.lay P1 S1 r1 hp⟩
  ·exact P1.elim⟩
theorem qGR {K:W.Frag} {H:Hp} {b:Bz} {l:List PV} {xs:List V} {i:Int} {p:PV} (r:RVs K H b l xs) (h:atI l i=some p):∃ x,atI xs i=some x∧RV K H b p x:=by
 unfold atI at h ⊢;rw [← r.length];cases q:ixN l.length i with
 |none=>rw [q] at h;cases h
 |some j=>rw [q] at h;exact r.get h
def gIx:PV->PV->qC->Rs PV:=fun p q st=>match q with
 | .int i=>match Wy st p with
  |some l=>match atI l i with
   |some z => .ok z st
   |none => .no
  |none => .no
 |_ => .no
theorem WV (ha:VE X E a fa) (hb:VE X E c fb) (hs:qCm c:=by exact fun _ _=>rfl):VE X E (.Subscript a c pos) (qP gIx fa fb):=PE.imp (qKm qH6 ha hb hs) (j8 fun H b st p q u v Q S rp rq P=>by
 unfold gIx at P;split at P
 ·rename_i i;unfold RV at rq;split at P
  ·rename_i l e;split at P
   ·rename_i z ez;obtain ⟨x1,xs,h1,h2,h3⟩:=Ze S rp e;obtain ⟨x,h4,h5⟩:=qGR h3 ez;rcases h2 with h2 |h2
    ·exact .inl ⟨x1,xs,i,x,h1,rq,h2,h4,PostE.here P S h5⟩
    ·exact .inr (.inl ⟨x1,xs,i,x,h1,rq,h2,h4,PostE.here P S h5⟩)
   ·exact P.elim
  ·exact P.elim
 ·exact P.elim)
def qI (g:List PV->qC->Rs PV) (t:FA):FE:=fun r st=>(t r st).bind fun ps s=>g ps s
def spG (K:W.Frag) (n:Nat) (g:List PV->qC->Rs PV):Sp:=fun vs H Q E=>vs.length=n ∧ ∃ b ps st,SR K H b st∧RVs K H b ps vs∧PostE K E H b (g ps st) Q
def qIq (X:Cx) (E:XK) (x:Str) (g:List PV->qC->Rs PV):Prop := ∀ (p pos:Pos) (e:Expr) (es:List Expr) (t:FA),VA X E (e::es) t->starEach (e::es) X.env=(false,eval e X.env)::starEach es X.env->(backTo pos (starEach es X.env)).any (·.1)=false->VE X E (.Call (.Name x p) (e::es) [] pos) (qI g t)
theorem qQ {x:Str} {g:List PV->qC->Rs PV} {t:FA} {p:Pos} (hc:qIq X E x g) (ha:VA X E (e::es) t) (he:starEach (e::es) X.env=(false,eval e X.env)::starEach es X.env:=by rfl) (hpl:(backTo pos (starEach es X.env)).any (·.1)=false:=by rfl):VE X E (.Call (.Name x p) (e::es) [] pos) (qI g t):=hc p pos e es t ha he hpl
theorem qLp {CX:CXT} {k n:Nat} {fa:Addr} {fd:FuncData} {ps:List Str} {x:Str} {g:List PV->qC->Rs PV} (F:FnOk X.prog X.w X.K X.mg X.base CX k fa fd ps (spG X.K ps.length g)) (hr:Room k X.A) (hg:Gl X x) (hm:X.mg x=some (.ref fa)) (hk:W.keepIn X.K (.ref fa)=true)
  (hb:Binds X.K fd ps []) (hx:ZR CX X E) (hlen:∀ l st,g l st ≠ .no->l.length=ps.length) (hdb:(x==("__debug__":Str))=false:=by decide):qIq X E x g:=fun p pos e es t ha he hpl =>
 PE.imp (qGQ F hr hg hm hk hb .nil hx ha hdb he hpl) fun s H Q ⟨b,r,st,S,R,P⟩=>⟨b,r,st,S,R,PostA.bind P fun l s1 us H1 b1 e1 S1 r1 P1=>by
  have hne:g l s1 ≠ .no:=fun z=>by rw [z] at P1;exact P1
  rw [BB];exact ⟨by rw [← r1.length];exact hlen l s1 hne,b1,l,s1,S1,r1,P1⟩⟩
def yu (X:Cx) (E:XK) (t:List V->Hp->VK->Prop) (g:List PV->qC->Rs PV):Prop :=
 ∀ (H:Hp) (b:Bz) (st:qC) (ps:List PV) (vs:List V) (Q:VK),SR X.K H b st->RVs X.K H b ps vs->PostE X.K E H b (g ps st) Q->t vs H Q
theorem WB {x:Str} {id:String} {t:List V->Hp->VK->Prop} {g:List PV->qC->Rs PV} {ta:FA} {p:Pos} (hc:Wb X (.builtin id) t) (hG:yu X E t g) (hg:Gl X x) (hm:X.mg x=none) (hv:bootBuiltins x=some (.builtin id)) (ha:VA X E (e::es) ta) (hn:x ≠ "__name__" := by decide) (hdb:(x==("__debug__":Str))=false:=by decide)
  (he:starEach (e::es) X.env=(false,eval e X.env)::starEach es X.env:=by rfl) (hpl:(backTo pos (starEach es X.env)).any (·.1)=false:=by rfl):VE X E (.Call (.Name x p) (e::es) [] pos) (qI g ta) :=
 PE.imp (qF4 hc hg hm hv ha hn hdb he hpl) fun s H Q ⟨b,r,st,S,R,P⟩=>⟨b,r,st,S,R,PostA.bind P fun l s1 us H1 b1 e1 S1 r1 P1=>hG H1 b1 s1 l us Q S1 r1 P1⟩
theorem jU {x:Str} {T:String} {t:List V->Hp->VK->Prop} {g:List PV->qC->Rs PV} {ta:FA} {p:Pos} (hc:Wb X (.type T) t) (hG:yu X E t g) (hg:Gl X x) (hm:X.mg x=none) (hv:bootBuiltins x=some (.type T)) (ha:VA X E (e::es) ta) (hn:x ≠ "__name__" := by decide) (hdb:(x==("__debug__":Str))=false:=by decide)
  (he:starEach (e::es) X.env=(false,eval e X.env)::starEach es X.env:=by rfl) (hpl:(backTo pos (starEach es X.env)).any (·.1)=false:=by rfl):VE X E (.Call (.Name x p) (e::es) [] pos) (qI g ta) :=
 PE.imp (jd hc hg hm hv ha hn hdb he hpl) fun s H Q ⟨b,r,st,S,R,P⟩=>⟨b,r,st,S,R,PostA.bind P fun l s1 us H1 b1 e1 S1 r1 P1=>hG H1 b1 s1 l us Q S1 r1 P1⟩
theorem RVs.one {K:W.Frag} {H:Hp} {b:Bz} {p:PV} {vs:List V} (h:RVs K H b [p] vs):∃ v,vs=[v]∧RV K H b p v:=by unfold RVs at h;obtain ⟨x,r,rfl,h2,h3⟩:=h;unfold RVs at h3;subst h3;exact ⟨x,rfl,h2⟩
theorem RVs.two {K:W.Frag} {H:Hp} {b:Bz} {p q:PV} {vs:List V} (h:RVs K H b [p,q] vs):∃ v w,vs=[v,w]∧RV K H b p v∧RV K H b q w:=by unfold RVs at h;obtain ⟨x,r,rfl,h2,h3⟩:=h;obtain ⟨y,rfl,h4⟩:=RVs.one h3;exact ⟨x,y,rfl,h2,h4⟩
def w4:List PV->qC->Rs PV:=fun ps st=>match ps with
 |[p]=>match Wy st p with
  |some l => .ok (.int l.length) st
  |none => .no
 |_ => .no
theorem qJL:yu X E (fun xs H Q => ∃ p ys,xs=[.ref p]∧(SqL X.K H p ys∨SqT X.K H p ys)∧Q (.int ys.length) H) w4:=by
 intro H b st ps vs Q S r P;unfold w4 at P;split at P
 ·rename_i p;obtain ⟨v,rfl,r1⟩:=RVs.one r;split at P
  ·rename_i l e;obtain ⟨a,xs,rfl,h2,h3⟩:=Ze S r1 e;refine ⟨a,xs,rfl,h2,?_⟩;rw [← h3.length];exact PostE.here P S Qf
  ·exact P.elim
 ·exact P.elim
def w9:List PV->qC->Rs PV:=fun ps st=>match ps with
 |[p]=>match Wy st p with
  |some l => .ok (.tup l) st
  |none => .no
 |_ => .no
theorem qEL:yu X E (fun xs H Q => ∃ p ys,xs=[.ref p]∧((SqL X.K H p ys ∧ ∀ l,H l=none->Q (.ref l) (upd H l (.tup ys)))∨(SqT X.K H p ys∧Q (.ref p) H))) w9:=by
 intro H b st ps vs Q S r P;unfold w9 at P;split at P
 ·rename_i p;obtain ⟨v,rfl,r1⟩:=RVs.one r;split at P
  ·rename_i l e;cases p with
   |tup m =>have e':m=l:=Ai e;subst e';have r0:=r1;unfold RV at r1;obtain ⟨a,xs,rfl,h2,h3⟩:=r1;exact ⟨a,xs,rfl,.inr ⟨h2.sq,PostE.here P S r0⟩⟩
   |lst m =>obtain ⟨a,xs,rfl,h2,h3⟩:=wH S r1 e;exact ⟨a,xs,rfl,.inl ⟨h2,fun p hp=>PostE.layT P S h3 hp⟩⟩
   |ref i =>obtain ⟨a,xs,rfl,h2,h3⟩:=wH S r1 e;exact ⟨a,xs,rfl,.inl ⟨h2,fun p hp=>PostE.layT P S h3 hp⟩⟩
   |_=>cases e
  ·exact P.elim
 ·exact P.elim
def qB3:List PV->qC->Rs PV:=fun ps st=>match ps with
 |[.int i] => .ok (.int i) st
 |[.bl k] => .ok (.int (if k then 1 else 0)) st
 |_ => .no
theorem qJj:yu X E (fun xs H Q=>(∃ i,xs=[.int i]∧Q (.int i) H) ∨ ∃ k,xs=[.bl k]∧Q (.int (if k then 1 else 0)) H) qB3:=by
 intro H b st ps vs Q S r P;unfold qB3 at P;split at P
 ·obtain ⟨v,rfl,r1⟩:=RVs.one r;unfold RV at r1;subst r1;exact .inl ⟨_,rfl,PostE.here P S Qf⟩
 ·obtain ⟨v,rfl,r1⟩:=RVs.one r;unfold RV at r1;subst r1;exact .inr ⟨_,rfl,PostE.here P S Qf⟩
 ·exact P.elim
def qEm:List PV->qC->Rs PV:=fun ps st=>match ps with
 |[.int i,.int j] => .ok (.int (if j > i then j else i)) st
 |_ => .no
def JY:List PV->qC->Rs PV:=fun ps st=>match ps with
 |[.int i,.int j] => .ok (.int (if j < i then j else i)) st
 |_ => .no
theorem qI2:yu X E (fun xs H Q => ∃ i j,xs=[.int i,.int j]∧Q (.int (if j > i then j else i)) H) qEm:=by
 intro H b st ps vs Q S r P;unfold qEm at P;split at P
 ·obtain ⟨v,w,rfl,r1,r2⟩:=RVs.two r;unfold RV at r1 r2;subst r1;subst r2;exact ⟨_,_,rfl,PostE.here P S Qf⟩
 ·exact P.elim
theorem qIW:yu X E (fun xs H Q => ∃ i j,xs=[.int i,.int j]∧Q (.int (if j < i then j else i)) H) JY:=by
 intro H b st ps vs Q S r P;unfold JY at P;split at P
 ·obtain ⟨v,w,rfl,r1,r2⟩:=RVs.two r;unfold RV at r1 r2;subst r1;subst r2;exact ⟨_,_,rfl,PostE.here P S Qf⟩
 ·exact P.elim
def qHd:PV->qC->Rs (List PV):=fun p st=>match Wy st p with
 |some l => .ok l st
 |none => .no
def YA (f:FE):FL:=fun r st=>(f r st).bind qHd
theorem qGC {p:Pos} (hg:Gl X "list") (hm:X.mg "list" = none) (hv:bootBuiltins "list" = some (.type "list")) (ha:VE X E e f)
  (he:starEach [e] X.env=(false,eval e X.env)::starEach [] X.env:=by rfl) (hpl:(backTo pos (starEach [] X.env)).any (·.1)=false:=by rfl):VN X E (.Call (.Name "list" p) [e] [] pos) (YA f) :=
 PE.imp (jd JM hg hm hv (Z3 ha Yd he) (he:=he) (hpl:=hpl)) fun s H Q ⟨b,r,st,S,R,P⟩=>⟨b,r,st,S,R,PostE.bindN P fun q s1 u H1 b1 e1 S1 r1 P1=>by
  unfold qHd at P1;split at P1
  ·rename_i l el;obtain ⟨a,xs,rfl,h2,h3⟩:=Ze S1 r1 el;exact ⟨a,xs,rfl,h2,fun p hp=>PostN.lay P1 S1 h3 hp⟩
  ·exact P1.elim⟩
end
def QU:FS:=fun r st => .nx r st
def qT (F G:FS):FS:=fun r st=>match F r st with
 | .nx r' st'=>G r' st'
 |o=>o
section
variable {X:Cx} {E:XK} {e a c d:Expr} {es:List Expr} {f fa fb fc:FE} {pos:Pos} {F G:FS} {s1:Stmt} {ss:List Stmt}
theorem q5:VSs X E [] QU:=PSs.imp qGq fun D s H ⟨b,r,st,S,R,P⟩=>P s H b (Ext.refl _ _) S R
theorem PostS.seq {K:W.Frag} {E:XK} {H:Hp} {b:Bz} {o:RS} {G:FS} {D:Ends} (P:PostS K E H b (match o with | .nx r' st'=>G r' st' |o=>o) D):PostS K E H b o { D with nx:=rdS K E G D }:=by
 cases o with
 |nx r st=>exact fun s H' b' e S R=>⟨b',r,st,S,R,PostS.ext (show PostS K E H b (G r st) D from P) e⟩
 |rt p st=>exact P
 |bk p st=>exact P
 |ct p st=>exact P
 |ex x st=>exact P
 |no=>exact P
theorem qM (h1:VS X E s1 F) (h2:VSs X E ss G):VSs X E (s1::ss) (qT F G):=PSs.imp (qFt h1 h2) fun D s H ⟨b,r,st,S,R,P⟩=>⟨b,r,st,S,R,PostS.seq P⟩
theorem qO (h1:VS X E s1 F):VSs X E [s1] F:=qGD h1
def WD (f:FE):FS:=fun r st=>(f r st).bindS fun _ s => .nx r s
theorem yM (h:VE X E e f) (hs:swapsWith e none pos.line X.env=pure false:=by rfl):VS X E (.Expr e pos) (WD f):=PS.imp (qCn h hs) fun D s H ⟨b,r,st,S,R,P⟩ =>
 ⟨b,r,st,S,R,PostE.bindS P fun p s1 u H1 b1 e1 S1 r1 P1=>P1 s H1 b1 (Ext.refl _ _) S1 (R.ext e1)⟩
def qt (f:FE):FS:=fun r st=>(f r st).bindS fun p s => .rt p s
theorem qi (h:VE X E e f):VS X E (.Return (some e) pos) (qt f):=PS.imp (qE6 h) fun D s H ⟨b,r,st,S,R,P⟩ =>
 ⟨b,r,st,S,R,PostE.bindS P fun p s1 u H1 b1 e1 S1 r1 P1=>P1 u H1 b1 (Ext.refl _ _) S1 r1⟩
def Zm (f:FL):FS:=fun r st=>(f r st).bindS fun l s => .rt (.ref s.length) (s++[.l l])
def Qm (t:FT) (F G:FS):FS:=fun r st=>(t r st).bindS fun k s=>if k=true then F r s else G r s
theorem Qe {t:FT} {bs cs:List Stmt} (hc:VT X E e t) (ha:VSs X E bs F) (hb:VSs X E cs G):VS X E (.If e bs cs pos) (Qm t F G):=PS.imp (qKL hc ha hb) fun D s H ⟨b,r,st,S,R,P⟩ =>
 ⟨b,r,st,S,R,PostT.bindS P fun k s1 H1 b1 e1 S1 P1=>by
  cases k with
  |true=>exact qDO ⟨b1,r,s1,S1,R.ext e1,P1⟩
  |false=>exact qDB ⟨b1,r,s1,S1,R.ext e1,P1⟩⟩
def qj (i:Nat) (f:FE):FS:=fun r st=>(f r st).bindS fun p s => .nx (r.set i (some p)) s
theorem qh (i:Nat) {x:Str} {p':Pos} (hN:X.N.Nodup) (h:VE X E e f) (hi:X.N[i]? = some x:=by rfl) (hx:Loc X.env.scope x:=by first |exact Or.inl rfl |exact Or.inr rfl) (hs:swapsWith e (some (.Name x p')) pos.line X.env=pure false:=by rfl) (hf:X.fn x=true∨X.env.scope.names.lookup x=some .local:=by first |exact .inl rfl |exact .inr rfl |assumption) :
  VS X E (.Assign [.Name x p'] e pos) (qj i f):=PS.imp (qFp hN hi hx h hs hf) fun D s H ⟨b,r,st,S,R,P⟩ =>
 ⟨b,r,st,S,R,PostE.bindS P fun p s1 u H1 b1 e1 S1 r1 P1=>P1 _ H1 b1 (Ext.refl _ _) S1 ((R.ext e1).set r1 i)⟩
def Zp (i:Nat) (f:FL):FS:=fun r st=>(f r st).bindS fun l s => .nx (r.set i (some (.ref s.length))) (s++[.l l])
theorem Ext.adopt {H H':Hp} {b b':Bz} {p:Addr} (e:Ext H b H' b') (hn:H p=none):Ext H b H' ⟨b'.b++[p],b'.z⟩:=by
 obtain ⟨n,hb,hh⟩:=e.more;refine ⟨⟨⟨n++[p],by rw [hb,Al],fun a ha => ?_⟩,e.zm,e.keep,e.dom⟩,e.same,e.hid,e.fz⟩
 rcases An.mp ha with ha |ha
 ·exact hh a ha
 ·rw [Ah.mp ha];exact hn
theorem PostN.bindS {K:W.Frag} {E:XK} {H:Hp} {b:Bz} {r:Rs (List PV)} {k:PV->qC->RS} {D:Ends} {R:VK} (P:PostS K E H b (r.bindS fun l s=>k (.ref s.length) (s++[.l l])) D)
  (h:∀ q st v H1 b1,Ext H b H1 b1->SR K H1 b1 st->RV K H1 b1 q v->PostS K E H1 b1 (k q st) D->R v H1):PostN K E H b r R:=by
 cases r with
 |ok l st =>intro p xs H' b' e hn hp hz S rs;have e':=e.adopt hn;have hl:b'.b.length=st.length:=S.len;refine h (.ref st.length) (st++[.l l]) (.ref p) H' ⟨b'.b++[p],b'.z⟩ e' (S.slot (x := .l l) hz hp ⟨xs,rfl,rs⟩) ?_ (PostS.ext (show PostS K E H b (k (.ref st.length) (st++[.l l])) D from P) e');unfold RV;exact ⟨p,rfl,by show (b'.b++[p])[st.length]? = some p;rw [← hl];simp⟩
 |ex x st=>exact P
 |no=>exact P
theorem qCi (i:Nat) {f:FL} {x:Str} {p':Pos} (hN:X.N.Nodup) (h:VN X E e f) (hi:X.N[i]? = some x:=by rfl) (hx:Loc X.env.scope x:=by first |exact Or.inl rfl |exact Or.inr rfl) (hs:swapsWith e (some (.Name x p')) pos.line X.env=pure false:=by rfl) (hf:X.fn x=true∨X.env.scope.names.lookup x=some .local:=by first |exact .inl rfl |exact .inr rfl |assumption) :
  VS X E (.Assign [.Name x p'] e pos) (Zp i f):=PS.imp (qFp hN hi hx h hs hf) fun D s H ⟨b,r,st,S,R,P⟩ =>
 ⟨b,r,st,S,R,PostN.bindS (k:=fun q s => .nx (r.set i (some q)) s) P fun p s1 u H1 b1 e1 S1 r1 P1=>P1 _ H1 b1 (Ext.refl _ _) S1 ((R.ext e1).set r1 i)⟩
theorem j7 {f:FL} (h:VN X E e f):VS X E (.Return (some e) pos) (Zm f):=PS.imp (qE6 h) fun D s H ⟨b,r,st,S,R,P⟩ =>
 ⟨b,r,st,S,R,PostN.bindS (k:=fun q s => .rt q s) P fun p s1 u H1 b1 e1 S1 r1 P1=>P1 u H1 b1 (Ext.refl _ _) S1 r1⟩
abbrev FG:=PV->qv->Option qv
abbrev FGs:=List PV->qv->Option qv
def rdG (K:W.Frag) (g:FG):TG:=fun v s H Q => ∃ b r p st,SR K H b st∧REnv K H b r s∧RV K H b p v ∧ ∃ r',g p r=some r' ∧ ∀ s',REnv K H b r' s'->Q s' H
def qLO (K:W.Frag) (g:FGs):TGs:=fun v s H Q => ∃ b r p st,SR K H b st∧REnv K H b r s∧RVs K H b p v ∧ ∃ r',g p r=some r' ∧ ∀ s',REnv K H b r' s'->Q s' H
abbrev VG (X:Cx) (e:Expr) (g:FG):Prop:=PG X e (rdG X.K g)
abbrev VGs (X:Cx) (e:List Expr) (g:FGs):Prop:=PGs X e (qLO X.K g)
theorem PG.imp {X:Cx} {e:Expr} {t t':TG} (h:PG X e t) (i:∀ v s H Q,t' v s H Q->t v s H Q):PG X e t':=fun pins s σ H v u Q I r q=>h pins s σ H v u Q I r (i _ _ _ _ q)
theorem PGs.imp {X:Cx} {e:List Expr} {t t':TGs} (h:PGs X e t) (i:∀ v s H Q,t' v s H Q->t v s H Q):PGs X e t':=fun pins s σ H v u Q I r q=>h pins s σ H v u Q I r (i _ _ _ _ q)
def qu (i:Nat):FG:=fun p r=>some (r.set i (some p))
theorem qe (i:Nat) {x:Str} (hN:X.N.Nodup) (hi:X.N[i]? = some x:=by rfl) (hx:Loc X.env.scope x:=by first |exact Or.inl rfl |exact Or.inr rfl) (hf:X.fn x=true∨X.env.scope.names.lookup x=some .local:=by first |exact .inl rfl |exact .inr rfl |assumption):VG X (.Name x pos) (qu i) :=
 PG.imp (qGM hN hi hx hf) fun v s H Q ⟨b,r,p,st,S,R,rv,r',e,q⟩=>q _ (by cases e;exact R.set rv i)
def zO:FGs:=fun l r=>match l with
 |[]=>some r
 |_=>none
def QH (g:FG) (gs:FGs):FGs:=fun l r=>match l with
 |p::ps=>match g p r with
  |some r'=>gs ps r'
  |none=>none
 |[]=>none
theorem wO:VGs X [] zO:=PGs.imp qGa fun v s H Q ⟨b,r,p,st,S,R,rv,r',e,q⟩=>by
 cases p with
 |nil=>unfold RVs at rv;subst rv;cases e;exact ⟨rfl,q s R⟩
 |cons _ _=>cases e
theorem qg {g:FG} {gs:FGs} (h1:VG X e g) (h2:VGs X es gs) (hs:(assignEach (e::es) X.env).map (·.2)=assign e X.env::(assignEach es X.env).map (·.2):=by rfl):VGs X (e::es) (QH g gs) :=
 PGs.imp (qEF h1 h2 hs) fun v s H Q ⟨b,r,p,st,S,R,rv,r',e,q⟩=>by
  cases p with
  |nil=>cases e
  |cons p ps =>
   unfold RVs at rv;obtain ⟨x,xr,rfl,h3,h4⟩:=rv;unfold QH at e;dsimp only at e;cases e2:g p r with
   |none=>rw [e2] at e;cases e
   |some r2 =>rw [e2] at e;exact ⟨x,xr,rfl,b,r,p,st,S,R,h3,r2,e2,fun s' R'=>⟨b,r2,ps,st,S,R',h4,r',e,q⟩⟩
def zC (n:Nat) (gs:FGs):FG:=fun p r=>match p with
 | .tup l=>if l.length=n then gs l r else none
 |_=>none
theorem WN {k:Nat} {n:Nat} {gs:FGs} (hc:X.calm=true) (h:VGs X es gs) (hn:(assignEach es X.env).length=n:=by rfl) (hst:(assignEach es X.env).findIdx? (·.1)=none:=by rfl):VG X (.Tuple es k pos) (zC n gs) :=
 PG.imp (qIF hc h hn hst) fun v s H Q ⟨b,r,p,st,S,R,rv,r',e,q⟩=>by
  unfold zC at e;split at e
  ·rename_i l;split at e
   ·rename_i hl;unfold RV at rv;obtain ⟨a,xs,rfl,h2,h3⟩:=rv;exact ⟨a,xs,rfl,h2.sq,by rw [← h3.length];exact hl,b,r,l,st,S,R,h3,r',e,q⟩
   ·cases e
  ·cases e
def Wx (f:FE) (g:FG):FS:=fun r st=>(f r st).bindS fun p s=>match g p r with
 |some r' => .nx r' s
 |none => .no
theorem Wn {g:FG} (h:VE X E e f) (hg:VG X d g) (hs:swapsWithSole [d] e pos.line X.env=pure false:=by rfl) (hw:swappedStores [d] e X.env=pure none:=by rfl)
  (h1:(assignEach [d] X.env).map (·.2)=[assign d X.env]:=by rfl):VS X E (.Assign [d] e pos) (Wx f g):=PS.imp (qEf h hg hs hw h1) fun D s H ⟨b,r,st,S,R,P⟩ =>
 ⟨b,r,st,S,R,PostE.bindS P fun p s1 u H1 b1 e1 S1 r1 P1=>by
  cases e2:g p r with
  |none=>rw [e2] at P1;exact P1.elim
  |some r'=>rw [e2] at P1;exact ⟨b1,r,p,s1,S1,R.ext e1,r1,r',e2,fun s' R'=>P1 s' H1 b1 (Ext.refl _ _) S1 R'⟩⟩
def qCz (i j:Nat) (t:FA):FS:=fun r st=>(t r st).bindS fun l s=>match l with
 |[p,q] => .nx ((r.set i (some p)).set j (some q)) s
 |_ => .no
theorem qJb (i j:Nat) {x y:Str} {t:FA} {px py pt:Pos} {kt k2 pt2} (hc:X.calm=true) (hN:X.N.Nodup) (ha:VA X E [a,c] t) (hw:swappedStores [.Tuple [.Name x px,.Name y py] kt pt] (.Tuple [a,c] k2 pt2) X.env=pure (some [x,y]):=by rfl)
  (hi:X.N[i]? = some x:=by rfl) (hj:X.N[j]? = some y:=by rfl) (hij:i≠j:=by decide) (hx:X.env.scope.names.lookup x=some .local:=by rfl) (hy:X.env.scope.names.lookup y=some .local:=by rfl)
  (hs:swapsWithSole [.Tuple [.Name x px,.Name y py] kt pt] (.Tuple [a,c] k2 pt2) pos.line X.env=pure false:=by rfl):VS X E (.Assign [.Tuple [.Name x px,.Name y py] kt pt] (.Tuple [a,c] k2 pt2) pos) (qCz i j t) :=
 PS.imp (qIa hc hN hi hj hij hx hy ha hw hs) fun D s H ⟨b,r,st,S,R,P⟩=>⟨b,r,st,S,R,PostA.bindS P fun l s1 us H1 b1 e1 S1 r1 P1=>by
  split at P1
  ·obtain ⟨u,v,rfl,h1,h2⟩:=RVs.two r1;exact ⟨u,v,rfl,P1 _ H1 b1 (Ext.refl _ _) S1 (((R.ext e1).set h1 i).set h2 j)⟩
  ·exact P1.elim⟩
def je (st:qC) (o i v:PV):Option qC:=match o,i with
 | .ref n,.int k=>match st[n]? with
  |some (.l xs)=>match ixN xs.length k with
   |some j=>some (st.set n (.l (xs.set j v)))
   |none=>none
  |_=>none
 |_,_=>none
def qCO (fo fi f:FE):FS:=fun r st=>(f r st).bindS fun p s1=>(fo r s1).bindS fun o s2=>(fi r s2).bindS fun i s3=>match je s3 o i p with
 |some s4 => .nx r s4
 |none => .no
theorem qF3 {K:W.Frag} {H:Hp} {b:Bz} {st st':qC} {o i p:PV} {ov iv v:V} {Q:Hp->Prop} (S:SR K H b st) (ro:RV K H b o ov) (ri:RV K H b i iv) (rp:RV K H b p v) (e:je st o i p=some st')
  (q:∀ H' b',Ext H b H' b'->SR K H' b' st'->Q H'):qHs ov iv v H Q:=by
 unfold je at e;split at e
 ·rename_i n k;split at e
  ·rename_i xs e1;split at e
   ·rename_i j e2;cases e;unfold RV at ro ri;obtain ⟨a,rfl,ha⟩:=ro;obtain ⟨a',o',h1,h2,vs,rfl,h4⟩:=S.at_ n _ e1;rw [ha] at h1;cases h1;have hm:a∈b.b:=Aw ha;refine ⟨a,vs,k,j,rfl,ri,h2,by rw [← h4.length];exact e2,q _ b (Ext.wr hm S.zb (qIZ h2)) (S.wr (x := .l (xs.set j p)) ha ⟨_,rfl,?_⟩)⟩
    have ew:Ext H b (upd H a (.lst (vs.set j v))) b:=Ext.wr hm S.zb (qIZ h2);exact RVs.set (RV.ext ew p rp) j (RVs.ext ew xs h4)
   ·cases e
  ·cases e
 ·cases e
theorem qIJ {fo fi:FE} {o i:Expr} {tpos:Pos} (ho:VE X E o fo) (hi:VE X E i fi) (h:VE X E e f)
  (hs:swapsWithSole [.Subscript o i tpos] e pos.line X.env=pure false:=by rfl) (hw:swappedStores [.Subscript o i tpos] e X.env=pure none:=by rfl) (h1:(assignEach [.Subscript o i tpos] X.env).map (·.2)=[assign (.Subscript o i tpos) X.env]:=by rfl)
  (ha:∀ v,assign (.Subscript o i tpos) X.env v=(do
   let ov ← holding [v] (eval o X.env);let iv ← holding [v,ov] (eval i X.env)
   standAt tpos
   holding [v,ov,iv] (setItem ov iv v)
   release [v,ov,iv] []):=by intro _;rfl):VS X E (.Assign [.Subscript o i tpos] e pos) (qCO fo fi f) :=
 PS.imp (qEf h (qIM ho hi qE0 ha) hs hw h1) fun D s H ⟨b,r,st,S,R,P⟩=>⟨b,r,st,S,R,PostE.bindS P fun p s1 u H1 b1 e1 S1 r1 P1 =>
  ⟨b1,r,s1,S1,R.ext e1,PostE.bindS P1 fun o s2 ou H2 b2 e2 S2 r2 P2=>⟨b2,r,s2,S2,(R.ext e1).ext e2,PostE.bindS P2 fun i s3 iu H3 b3 e3 S3 r3 P3=>by
   split at P3
   ·rename_i s4 e4;exact qF3 S3 (RV.ext e3 o r2) r3 (RV.ext e3 p (RV.ext e2 p r1)) e4 fun H' b' e' S'=>P3 s H' b' e' S' ((((R.ext e1).ext e2).ext e3).ext e')
   ·exact P3.elim⟩⟩⟩
structure ItP where
 l:List PV
 G:qC->Prop
def jB (K:W.Frag) (H0:Hp) (b0:Bz) (J:It) (w:ItP):Prop := ∀ H1 b1 st1,WE H0 b0 H1 b1->SR K H1 b1 st1->w.G st1 ->
 (∀ (i:Nat) (p:PV),w.l[i]? = some p->J.go i H1 ∧ ∀ x H2,J.yld i H1 x H2->Same H1 H2∧SR K H2 b1 st1∧RV K H2 b1 p x) ∧ ∀ i,w.l.length≤i->J.stop i H1
def PostI (K:W.Frag) (E:XK) (H:Hp) (b:Bz) (r:Rs ItP) (R:It->Hp->Prop):Prop:=match r with
 | .ok w st => ∀ J H' b',Ext H b H' b'->SR K H' b' st->jB K H' b' J w->R J H'
 | .ex x st=>XP K E H b x st
 | .no=>False
abbrev FI:=qv->qC->Rs ItP
def rdI (K:W.Frag) (E:XK) (f:FI):TI:=fun s H R => ∃ b r st,SR K H b st∧REnv K H b r s∧PostI K E H b (f r st) R
abbrev VI (X:Cx) (E:XK) (tg e:Expr) (f:FI):Prop:=PI X tg e (rdI X.K E f)
theorem PostI.ext {K:W.Frag} {E:XK} {H H1:Hp} {b b1:Bz} {r:Rs ItP} {R:It->Hp->Prop} (h:PostI K E H b r R) (e:Ext H b H1 b1):PostI K E H1 b1 r R:=by
 cases r with
 |ok p st=>exact fun J H' b' e'=>h J H' b' (e.trans e')
 |ex x st=>exact XP.ext h e
 |no=>exact h
theorem PostE.bindI {K:W.Frag} {E:XK} {H:Hp} {b:Bz} {r:Rs PV} {k:PV->qC->Rs ItP} {Q:It->Hp->Prop} {R:VK} (P:PostI K E H b (r.bind k) Q)
  (h:∀ p st v H1 b1,Ext H b H1 b1->SR K H1 b1 st->RV K H1 b1 p v->PostI K E H1 b1 (k p st) Q->R v H1):PostE K E H b r R:=by
 cases r with
 |ok p st=>exact fun v H1 b1 e S r=>h p st v H1 b1 e S r (PostI.ext (show PostI K E H b (k p st) Q from P) e)
 |ex x st=>exact P
 |no=>exact P
theorem PostA.bindI {K:W.Frag} {E:XK} {H:Hp} {b:Bz} {r:Rs (List PV)} {k:List PV->qC->Rs ItP} {Q:It->Hp->Prop} {R:List V->Hp->Prop} (P:PostI K E H b (r.bind k) Q)
  (h:∀ p st v H1 b1,Ext H b H1 b1->SR K H1 b1 st->RVs K H1 b1 p v->PostI K E H1 b1 (k p st) Q->R v H1):PostA K E H b r R:=by
 cases r with
 |ok p st=>exact fun v H1 b1 e S r=>h p st v H1 b1 e S r (PostI.ext (show PostI K E H b (k p st) Q from P) e)
 |ex x st=>exact P
 |no=>exact P
def qG1 (p:PV) (st:qC):Rs ItP:=match p with
 | .ref i=>match asL st (.ref i) with
  |some l => .ok ⟨l,fun s=>s[i]? = some (.l l)⟩ st
  |none => .no
 |p=>match Wy st p with
  |some l => .ok ⟨l,fun _=>True⟩ st
  |none => .no
def qq (f:FE):FI:=fun r st=>(f r st).bind qG1
theorem qJT {l tg:Expr} {tl:TE} (hl:PE X l tl):PI X tg l (fun σ H R=>tl σ H fun x H1 => ∃ a,x = .ref a∧(((∃ xs,SqL X.K H1 a xs)∧R (Itl X.K a) H1)∨((∃ xs,SqT X.K H1 a xs)∧R (Itt X.K a) H1))):=by
 intro pins s σ H R I h;refine thn (hl pins s σ H _ I h) fun v s1 ⟨x,H1,I1,r1,q1⟩ => ?_;obtain ⟨a,e,q⟩:=q1;subst e;cases r1;rcases q with ⟨⟨xs,hq⟩,q⟩ |⟨⟨xs,hq⟩,q⟩
 ·obtain ⟨its,rv,p,hz⟩:=I1.list hq;refine wpAny_pyIter_list p.isList ?_;refine ⟨s1.heap.objs.size,[s1.heap.objs.size],_,_,H1,rfl,I1.kept (t':=s1.toks) fun b o e=>AG _ e,qDQ a _,⟨_,AX _ rfl,rfl,rfl⟩,fun b hb => ?_,q⟩;have e:b=s1.heap.objs.size:=by simpa using hb
  subst e;exact I1.fpOk (AK _) (I1.hok.fresh (AK _))
 ·obtain ⟨its,rv,p,hz⟩:=I1.tuple hq;refine wpAny_pyIter_tuple (show s1.heap.IsTuple a its.toArray from p) ?_;refine ⟨s1.heap.objs.size,[s1.heap.objs.size],_,_,H1,rfl,I1.kept (t':=s1.toks) fun b o e=>AG _ e,qBY a _,⟨_,AX _ rfl,rfl,rfl⟩,fun b hb => ?_,q⟩;have e:b=s1.heap.objs.size:=by simpa using hb
  subst e;exact I1.fpOk (AK _) (I1.hok.fresh (AK _))
theorem jz {K:W.Frag} {H0:Hp} {b0:Bz} {a:Addr} {l:List PV} {G:qC->Prop}
  (h:∀ H1 b1 st1,WE H0 b0 H1 b1->SR K H1 b1 st1->G st1 -> ∃ xs,SqL K H1 a xs∧RVs K H1 b1 l xs):jB K H0 b0 (Itl K a) ⟨l,G⟩:=by
 intro H1 b1 st1 e S g;obtain ⟨xs,hq,r⟩:=h H1 b1 st1 e S g;refine ⟨fun i p hp => ?_,fun i hi=>⟨xs,hq,by rw [← r.length];exact hi⟩⟩
 obtain ⟨x,hx,rx⟩:=r.get hp;exact ⟨⟨xs,x,hq,hx⟩,fun y H2 ⟨e2,hy⟩=>by
  subst e2
  have:=hy xs hq
  rw [hx] at this;cases this;exact ⟨Same.refl _,S,rx⟩⟩
theorem qEG {K:W.Frag} {H0:Hp} {b0:Bz} {a:Addr} {l:List PV} {G:qC->Prop}
  (h:∀ H1 b1 st1,WE H0 b0 H1 b1->SR K H1 b1 st1->G st1 -> ∃ xs,SqT K H1 a xs∧RVs K H1 b1 l xs):jB K H0 b0 (Itt K a) ⟨l,G⟩:=by
 intro H1 b1 st1 e S g;obtain ⟨xs,hq,r⟩:=h H1 b1 st1 e S g;refine ⟨fun i p hp => ?_,fun i hi=>⟨xs,hq,by rw [← r.length];exact hi⟩⟩
 obtain ⟨x,hx,rx⟩:=r.get hp;exact ⟨⟨xs,x,hq,hx⟩,fun y H2 ⟨e2,hy⟩=>by
  subst e2
  have:=hy xs hq
  rw [hx] at this;cases this;exact ⟨Same.refl _,S,rx⟩⟩
theorem Qg {tg:Expr} (h:VE X E e f):VI X E tg e (qq f):=fun pins s σ H R I q=>qJT h pins s σ H R I (by
 obtain ⟨b,r,st,S,RE,P⟩:=q;refine ⟨b,r,st,S,RE,PostE.bindI P fun p s1 u H1 b1 e1 S1 r1 P1 => ?_⟩;unfold qG1 at P1;split at P1
 ·rename_i i;split at P1
  ·rename_i l el;have r0:=r1;unfold RV at r1;obtain ⟨a,rfl,ha⟩:=r1;obtain ⟨a',xs,e2,hq,hr⟩:=wH S1 r0 el;cases e2;refine ⟨a,rfl,.inl ⟨⟨xs,hq⟩,P1 _ H1 b1 (Ext.refl _ _) S1 (jz fun H2 b2 st2 e2 S2 g2 => ?_)⟩⟩;obtain ⟨a'',o,k1,k2,vs,rfl,k4⟩:=S2.at_ i _ g2;rw [e2.ix ha] at k1;cases k1;exact ⟨vs,SqL.of k2,k4⟩
  ·exact P1.elim
 ·split at P1
  ·rename_i l el;cases p with
   |tup m =>have em:m=l:=Ai el;subst em;unfold RV at r1;obtain ⟨a,xs,rfl,h2,h3⟩:=r1;exact ⟨a,rfl,.inr ⟨⟨xs,h2.sq⟩,P1 _ H1 b1 (Ext.refl _ _) S1 (qEG fun H2 b2 st2 e2 S2 _=>⟨xs,(h2.wext e2).sq,RVs.wext e2 m h3⟩)⟩⟩
   |lst m =>have em:m=l:=Ai el;subst em;unfold RV at r1;obtain ⟨a,xs,rfl,h2,h3⟩:=r1;exact ⟨a,rfl,.inl ⟨⟨xs,h2.sq⟩,P1 _ H1 b1 (Ext.refl _ _) S1 (jz fun H2 b2 st2 e2 S2 _=>⟨xs,(h2.wext e2).sq,RVs.wext e2 m h3⟩)⟩⟩
   |ref i=>rename_i hx;exact (hx i rfl).elim
   |_=>cases el
  ·exact P1.elim)
def yj (lo hi:Int):List PV:=(List.range (hi - lo).toNat).map fun (i:Nat)=>PV.int (lo + (i:Int))
def JW (l:List PV) (st:qC):Rs ItP:=match l with
 |[.int j]=>if -(2 ^ 62)≤j∧j < 2 ^ 62 then .ok ⟨yj 0 j,fun _=>True⟩ st else .no
 |_ => .no
def JZ (l:List PV) (st:qC):Rs ItP:=match l with
 |[.int i,.int j]=>if -(2 ^ 62)≤i∧i < 2 ^ 62 ∧ -(2 ^ 62)≤j∧j < 2 ^ 62 then .ok ⟨yj i j,fun _=>True⟩ st else .no
 |_ => .no
theorem qAY {K:W.Frag} {H0:Hp} {b0:Bz} {lo hi:Int}:jB K H0 b0 (Itr lo (hi - lo).toNat) ⟨yj lo hi,fun _=>True⟩:=by
 intro H1 b1 st1 e S g;have hl:(yj lo hi).length=(hi - lo).toNat:=by simp [yj]
 refine ⟨fun i p hp => ?_,fun i hi'=>by rw [show (ItP.mk (yj lo hi) fun _=>True).l.length=(hi - lo).toNat from hl] at hi';exact hi'⟩
 have hi':i < (hi - lo).toNat:=by
  have:=(AR.mp hp).1
  rw [← hl];exact this
 unfold yj at hp;dsimp only at hp;rw [A1,List.getElem?_range hi'] at hp;cases hp;exact ⟨hi',fun x H2 ⟨e1,e2⟩=>by subst e1;subst e2;exact ⟨Same.refl _,S,Qf⟩⟩
def Q4 (t:FA):FI:=fun r st=>(t r st).bind JW
def qAi (t:FA):FI:=fun r st=>(t r st).bind JZ
theorem QQ {tg:Expr} {t:FA} {p:Pos} (hg:Gl X "range") (hm:X.mg "range" = none) (ha:VA X E [a] t) (hs:starEach [a] X.env=[(false,eval a X.env)]:=by rfl):VI X E tg (.Call (.Name "range" p) [a] [] pos) (Q4 t):=fun pins s σ H R I q=>qDm hg hm ha hs pins s σ H R I (by
 obtain ⟨b,r,st,S,RE,P⟩:=q;refine ⟨b,r,st,S,RE,PostA.bindI P fun l s1 us H1 b1 e1 S1 r1 P1 => ?_⟩;unfold JW at P1;split at P1
 ·obtain ⟨u,rfl,h1⟩:=RVs.one r1;unfold RV at h1;subst h1;split at P1
  ·rename_i j hj;refine ⟨j,rfl,hj.1,hj.2,?_⟩
   have:=P1 (Itr 0 (j - 0).toNat) H1 b1 (Ext.refl _ _) S1 qAY
   rw [Int.sub_zero] at this;exact this
  ·exact P1.elim
 ·exact P1.elim)
theorem qDW {tg:Expr} {t:FA} {p:Pos} (hg:Gl X "range") (hm:X.mg "range" = none) (ha:VA X E [a,c] t) (hs:starEach [a,c] X.env=[(false,eval a X.env),(false,eval c X.env)]:=by rfl) (hs2:starEach [c] X.env=[(false,eval c X.env)]:=by rfl):VI X E tg (.Call (.Name "range" p) [a,c] [] pos) (qAi t):=fun pins s σ H R I q=>qDY hg hm ha hs hs2 pins s σ H R I (by
 obtain ⟨b,r,st,S,RE,P⟩:=q;refine ⟨b,r,st,S,RE,PostA.bindI P fun l s1 us H1 b1 e1 S1 r1 P1 => ?_⟩;unfold JZ at P1;split at P1
 ·obtain ⟨u,v,rfl,h1,h2⟩:=RVs.two r1;unfold RV at h1 h2;subst h1;subst h2;split at P1
  ·rename_i i j hj;exact ⟨i,j,rfl,hj,P1 _ H1 b1 (Ext.refl _ _) S1 qAY⟩
  ·exact P1.elim
 ·exact P1.elim)
theorem PSs.unbare {X:Cx} {st:List Stmt} {t:TS} (h:PSs X.nox st t) {pins:List (Addr×Obj)} {s:Shared} {σ:L2.St} {H:Hp} {D:Ends} {E:Value->Shared->Prop} (I:L2.Inv X pins σ H s) (q:t D σ H):wpAny (model X.prog X.w) X.A (execs st X.env) (SP X pins D) E s :=
 wpAny_noRaise (thn (h pins s σ H D (I.wish _) q) fun f s' hs=>hs.unwish)
theorem PG.unbare {X:Cx} {tg:Expr} {t:TG} (h:PG X.nox tg t) {pins:List (Addr×Obj)} {s:Shared} {σ:L2.St} {H:Hp} {v:V} {u:Value} {Q:L2.St->Hp->Prop} {E:Value->Shared->Prop} (I:L2.Inv X pins σ H s) (r:RelV v u) (q:t v σ H Q):wpAny (model X.prog X.w) X.A (assign tg X.env u) (fun _ s' => ∃ σ' H',L2.Inv X pins σ' H' s'∧Q σ' H') E s :=
 wpAny_noRaise (thn (h pins s σ H v u Q (I.wish _) r q) fun f s' ⟨σ',H',I',q'⟩=>⟨σ',H',I'.unwish,q'⟩)
theorem qGA {tg iter:Expr} {body:List Stmt} {wi:TI} {g:TG} {tb:TS} {pos:Pos} (hi:PI X tg iter wi) (hg:PG X.nox tg g) (hb:PSs X.nox body tb)
  (hs:∀ x,foldedSetIterable iter X.env x=pure x:=by intro _;rfl):PS X (.For tg iter body [] pos) (qLW wi g tb):=by
 intro pins s σ H D I h;refine wpAny_For (thn (hi pins s σ H _ I h) fun v s1 h1=>thn h1 fun itv s2 h2 => ?_) hs;obtain ⟨it,fp,tn,J,H2,e,I2,T,st2,f2,W,⟨m0,w0⟩,turn⟩:=h2;subst e;have stat:∀ {H':Hp},(∀ b∈fp,H' b=none) -> ∀ b∈fp,YF X pins H' b:=fun hn b hb=>⟨hn b hb,(f2 b hb).2⟩;refine codeAny_forLoop_any (fun n s' => ∃ i σ' H',L2.Inv X pins σ' H' s'∧tn i s'.heap∧(∀ b∈fp,H' b=none)∧W i n σ' H') ?_ m0 ⟨0,σ,H2,I2,st2,fun b hb=>(f2 b hb).1,w0⟩
 rintro n s3 ⟨i,σ3,H3,I3,st3,fr3,w3⟩
 rcases turn i n σ3 H3 w3 with ⟨stop,qn⟩ |⟨go,N,hN,step⟩
 ·refine thn (T.done X rfl rfl rfl rfl i pins s3 σ3 H3 _ I3 (stat fr3) st3 stop) fun r s4 ⟨hr,I4⟩ => ?_;subst hr;exact wpAny_execs_nil ⟨σ3,H3,I4,qn⟩
 ·refine thn (T.item X rfl rfl rfl rfl i pins s3 σ3 H3 _ I3 (stat fr3) st3 go) fun r s4 ⟨u,hr,h4⟩ => ?_;subst hr;refine thn h4 fun _ s5 ⟨x,H5,I5,r5,y5,st5,fr5⟩ => ?_;have I5':=I5.pinned (stat fr5) (T.obj _ _ st5);refine thn (PG.unbare hg I5' r5 (step x H5 y5)) fun _ s6 ⟨σ6,H6,I6,q6⟩ => ?_;refine thn (PSs.unbare hb I6 q6) fun f s7 q7 => ?_;have again:∀ {σ7:L2.St} {H7:Hp},L2.Inv X (pins++Yx fp s5.heap) σ7 H7 s7->N σ7 H7 -> ∃ m,m < n ∧ ∃ i σ' H',L2.Inv X pins σ' H' s7∧tn i s7.heap∧(∀ b∈fp,H' b=none)∧W i m σ' H':=fun {σ7 H7} I7 n7=>by obtain ⟨m',hm,w7⟩:=hN σ7 H7 n7;refine ⟨m',hm,i + 1,σ7,H7,I7.unpinned,T.keep _ _ _ st5 fun b hb o e=>(I7.pin (b,o) (A2 _ (A2 _ (zY hb e)))).1,fun b hb => ?_,w7⟩;obtain ⟨o,e,d⟩:=T.obj _ _ st5 b hb;exact (I7.pin (b,o) (A2 _ (A2 _ (zY hb e)))).2.1
  cases f with
  |next=>obtain ⟨σ7,H7,I7,n7⟩:=q7;exact again I7 n7
  |cont=>obtain ⟨σ7,H7,I7,n7⟩:=q7;exact again I7 n7
  |brk=>obtain ⟨σ7,H7,I7,q7⟩:=q7;exact ⟨σ7,H7,I7.unpinned,q7⟩
  |ret v=>obtain ⟨x7,σ7,H7,I7,r7,q7⟩:=q7;exact ⟨x7,σ7,H7,I7.unpinned,r7,q7⟩
open Classical in
noncomputable def Qz (G:qC->Prop) (g:FG) (F:FS):List PV->qv->qC->RS
 |[],r,st=>if G st then .nx r st else .no
 |p::ps,r,st=>if G st then
   match g p r with
   |none => .no
   |some r1=>match F r1 st with
    | .nx r2 s2=>Qz G g F ps r2 s2
    | .ct r2 s2=>Qz G g F ps r2 s2
    | .bk r2 s2 => .nx r2 s2
    | .rt v s2 => .rt v s2
    | .ex _ _ => .no
    | .no => .no
  else .no
noncomputable def Wt (fi:FI) (g:FG) (F:FS):FS:=fun r st=>(fi r st).bindS fun w s=>Qz w.G g F w.l r s
theorem PostI.bindS {K:W.Frag} {E:XK} {H:Hp} {b:Bz} {r:Rs ItP} {k:ItP->qC->RS} {D:Ends} {R:It->Hp->Prop} (P:PostS K E H b (r.bindS k) D)
  (h:∀ w st J H1 b1,Ext H b H1 b1->SR K H1 b1 st->jB K H1 b1 J w->PostS K E H1 b1 (k w st) D->R J H1):PostI K E H b r R:=by
 cases r with
 |ok p st=>exact fun J H1 b1 e S r=>h p st J H1 b1 e S r (PostS.ext (show PostS K E H b (k p st) D from P) e)
 |ex x st=>exact P
 |no=>exact P
theorem Wr {tg iter:Expr} {body:List Stmt} {fi:FI} {g:FG} (hi:VI X E tg iter fi) (hg:VG X.nox tg g) (hb:VSs X.nox E0 body F) (hs:∀ x,foldedSetIterable iter X.env x=pure x:=by intro _;rfl):VS X E (.For tg iter body [] pos) (Wt fi g F):=by
 refine PS.imp (qGA hi hg hb hs) fun D s H ⟨b,r,st,S,R,P⟩ => ?_;refine ⟨b,r,st,S,R,PostI.bindS P fun w st1 J H1 b1 e1 S1 it P1 => ?_⟩;refine ⟨fun i m σ' H' => ∃ b2 r2 st2,Ext H1 b1 H' b2∧SR X.K H' b2 st2∧REnv X.K H' b2 r2 σ'∧m=w.l.length + 1 - i∧i≤w.l.length∧PostS X.K E H' b2 (Qz w.G g F (w.l.drop i) r2 st2) D,⟨w.l.length + 1,b1,r,st1,Ext.refl _ _,S1,R.ext e1,by omega,A7 _,by simpa using P1⟩,?_⟩
 rintro i m σ' H' ⟨b2,r2,st2,e2,S2,R2,hm,hi',P2⟩
 by_cases hlt:i < w.l.length
 ·have hd:w.l.drop i=w.l[i]::w.l.drop (i + 1):=List.drop_eq_getElem_cons hlt;rw [hd] at P2;unfold Qz at P2;by_cases hG:w.G st2
  ·rw [AH hG] at P2;obtain ⟨h1,h2⟩:=it H' b2 st2 e2.toWE S2 hG;obtain ⟨go,yl⟩:=h1 i w.l[i] (AU hlt);refine .inr ⟨go,fun σ3 H3 => ∃ b3 r3 st3,Ext H1 b1 H3 b3∧SR X.K H3 b3 st3∧REnv X.K H3 b3 r3 σ3∧PostS X.K E H3 b3 (Qz w.G g F (w.l.drop (i + 1)) r3 st3) D,?_,?_⟩
   ·rintro σ3 H3 ⟨b3,r3,st3,k1,k2,k3,k4⟩
    exact ⟨w.l.length + 1 - (i + 1),by omega,b3,r3,st3,k1,k2,k3,rfl,hlt,k4⟩
   ·intro x H3 hx;obtain ⟨e3',S3,r3⟩:=yl x H3 hx;have e3:Ext H' b2 H3 b2:=Ext.of_same e3';cases eg:g w.l[i] r2 with
    |none=>rw [eg] at P2;exact P2.elim
    |some r4 =>
     rw [eg] at P2;refine ⟨b2,r2,w.l[i],st2,S3,R2.ext e3,r3,r4,eg,fun s4 R4=>⟨b2,r4,st2,S3,R4,?_⟩⟩;have P3:=PostS.ext P2 e3;dsimp only at P3;have e13:=e2.trans e3;cases eF:F r4 st2 with
     |nx r5 s5=>rw [eF] at P3;exact fun s6 H6 b6 e6 S6 R6=>⟨b6,r5,s5,e13.trans e6,S6,R6,PostS.ext P3 e6⟩
     |ct r5 s5=>rw [eF] at P3;exact fun s6 H6 b6 e6 S6 R6=>⟨b6,r5,s5,e13.trans e6,S6,R6,PostS.ext P3 e6⟩
     |bk r5 s5=>rw [eF] at P3;exact P3
     |rt v s5=>rw [eF] at P3;exact P3
     |ex x s5=>rw [eF] at P3;exact P3.elim
     |no=>rw [eF] at P3;exact P3.elim
  ·rw [AJ hG] at P2;exact P2.elim
 ·have hl:i=w.l.length:=by omega
  subst hl;rw [List.drop_length] at P2;unfold Qz at P2;by_cases hG:w.G st2
  ·rw [AH hG] at P2;obtain ⟨h1,h2⟩:=it H' b2 st2 e2.toWE S2 hG;exact .inl ⟨h2 _ (AK _),P2 σ' H' b2 (Ext.refl _ _) S2 R2⟩
  ·rw [AJ hG] at P2;exact P2.elim
end
theorem QZ {x n:Str} {a c:Addr} {r:List (Str×Addr)} (h:List.lookup x ((n,a)::r)=some c):(x=n∧a=c)∨(x≠n∧List.lookup x r=some c):=by
 rw [Az] at h;cases hb:x==n with
 |true=>rw [hb] at h;exact .inl ⟨A4.mp hb,Ai h⟩
 |false=>rw [hb] at h;exact .inr ⟨fun z=>(by rw [A4.mpr z] at hb;cases hb),h⟩
theorem wC {x:Str} {c:Addr}:∀ {names:List (Str×NameKind)} {n:Nat} {acc:List (Str×Addr)},(cellsFrom n names acc).lookup x=some c->(n≤c∧(x,NameKind.cell)∈names)∨acc.lookup x=some c
 |[],_,_,h => .inr h
 |(nm,k)::r,n,acc,h=>by
  unfold cellsFrom at h;split at h
  ·rename_i hk;have hk':k = .cell:=by simpa using hk
   rcases wC h with ⟨h1,h2⟩ |h1
   ·exact .inl ⟨Nat.le_of_succ_le h1,AD _ h2⟩
   ·rcases QZ h1 with ⟨e1,e2⟩ |⟨_,e2⟩
    ·exact .inl ⟨Nat.le_of_eq e2,by rw [e1,hk'];exact AI⟩
    ·exact .inr e2
  ·rcases wC h with ⟨h1,h2⟩ |h1
   ·exact .inl ⟨h1,AD _ h2⟩
   ·exact .inr h1
theorem W8 {x:Str} {c:Addr} {n0:Nat}:∀ {names:List (Str×NameKind)} {n:Nat} {acc:List (Str×Addr)},n0≤n->((∃ a,acc.lookup x=some a∧n0≤a)∨(x,NameKind.cell)∈names)->(cellsFrom n names acc).lookup x=some c->n0≤c
 |[],_,acc,_,h,e=>by
  rcases h with ⟨a,h1,h2⟩ |h
  ·have:acc.lookup x=some c:=e
   rw [h1] at this;cases this;exact h2
  ·exact absurd h (by simp)
 |(nm,k)::r,n,acc,hn,h,e=>by
  unfold cellsFrom at e;split at e
  ·rename_i hk;refine W8 (n:=n + 1) (Nat.le_succ_of_le hn) ?_ e;by_cases hx:x=nm
   ·exact .inl ⟨n,by rw [Az,hx,As],hn⟩
   ·rcases h with ⟨a,h1,h2⟩ |h
    ·exact .inl ⟨a,by rw [Az,Bq hx];exact h1,h2⟩
    ·rcases AE.mp h with q |q
     ·exact absurd (CP q).1 hx
     ·exact .inr q
  ·rename_i hk;refine W8 hn ?_ e;rcases h with h |h
   ·exact .inl h
   ·rcases AE.mp h with q |q
    ·exact absurd (by rw [← (CP q).2];rfl) hk
    ·exact .inr q
theorem W9 {x y:Str} {c:Addr}:∀ {names:List (Str×NameKind)} {n:Nat} {acc:List (Str×Addr)},(∀ z a,acc.lookup z=some a->a < n)->(cellsFrom n names acc).lookup x=some c->(cellsFrom n names acc).lookup y=some c ->
  x=y∨(acc.lookup x=some c∧acc.lookup y=some c)
 |[],_,_,_,h1,h2 => .inr ⟨h1,h2⟩
 |(nm,k)::r,n,acc,hb,h1,h2=>by
  unfold cellsFrom at h1 h2;split at h1
  ·rename_i hk;rw [AH hk] at h2;have hb':∀ z a,List.lookup z ((nm,n)::acc)=some a->a < n + 1:=fun z a h=>by
    rcases QZ h with ⟨_,e⟩ |⟨_,e⟩
    ·rw [← e];exact Nat.lt_succ_self _
    ·exact A8 (hb z a e)
   rcases W9 hb' h1 h2 with e |⟨e1,e2⟩
   ·exact .inl e
   ·rcases QZ e1 with ⟨p1,p2⟩ |⟨p1,p2⟩ <;> rcases QZ e2 with ⟨q1,q2⟩ |⟨q1,q2⟩
    ·exact .inl (p1.trans q1.symm)
    ·exact absurd (hb y c q2) (by rw [← p2];exact BJ _)
    ·exact absurd (hb x c p2) (by rw [← q2];exact BJ _)
    ·exact .inr ⟨p2,q2⟩
  ·rename_i hk;rw [AJ hk] at h2;exact W9 hb h1 h2
theorem WT {x:Str}:∀ {names:List (Str×NameKind)} {n:Nat} {acc:List (Str×Addr)},((∃ a,acc.lookup x=some a)∨(x,NameKind.cell)∈names) -> ∃ c,(cellsFrom n names acc).lookup x=some c
 |[],_,_,h=>h.elim (fun h=>h) fun h=>absurd h (by simp)
 |(nm,k)::r,n,acc,h=>by
  unfold cellsFrom;split
  ·rename_i hk;refine WT ?_;by_cases hx:x=nm
   ·exact .inl ⟨n,by rw [Az,hx,As]⟩
   ·rcases h with ⟨a,h1⟩ |h
    ·exact .inl ⟨a,by rw [Az,Bq hx];exact h1⟩
    ·rcases AE.mp h with q |q
     ·exact absurd (CP q).1 hx
     ·exact .inr q
  ·rename_i hk;refine WT ?_;rcases h with h |h
   ·exact .inl h
   ·rcases AE.mp h with q |q
    ·exact absurd (by rw [← (CP q).2];rfl) hk
    ·exact .inr q
theorem Wo {x:Str} {c:Addr}:∀ {names:List (Str×NameKind)} {h:Heap} {acc:List (Str×Addr)},(cellsFrom h.objs.size names acc).lookup x=some c->(∃ o,acc.lookup x=some c∧o=())∨(pushCells h names).IsCell c none
 |[],_,_,e => .inl ⟨(),e,rfl⟩
 |(nm,k)::r,h,acc,e=>by
  unfold cellsFrom at e;unfold pushCells;split at e
  ·rename_i hk;rw [AH hk];have e':(cellsFrom (h.push { cls := .type "cell",data := .cell none }).objs.size r ((nm,h.objs.size)::acc)).lookup x=some c:=by rw [B1];exact e
   rcases Wo e' with ⟨_,q,_⟩ |q
   ·rcases QZ q with ⟨_,e2⟩ |⟨_,e2⟩
    ·subst e2;exact .inr ⟨_,pushCells_keeps _ _ _ _ (AX _ rfl),rfl⟩
    ·exact .inl ⟨(),e2,rfl⟩
   ·exact .inr q
  ·rename_i hk;rw [AJ hk];exact Wo e
def clF (env:Env):List (Str×NameKind)->List (Str×Addr)->List (Str×Addr)
 |[],acc=>acc
 |(n,k)::r,acc=>if k == .free then clF env r ((n,(env.cells.lookup n).getD 0)::acc) else clF env r acc
theorem qE7 {env:Env} (f:Str×NameKind->List (Str×Addr)->Sem (ForInStep (List (Str×Addr))))
  (hf:∀ n k acc,f (n,k) acc=if k == .free then (do let a ← cellOf env n;pure (.yield ((n,a)::acc))) else pure (.yield acc)) :
  ∀ (names:List (Str×NameKind)) (acc:List (Str×Addr)),(∀ x∈names,x.2 = .free -> ∃ c,env.cells.lookup x.1=some c)->forIn names acc f=(pure (clF env names acc):Sem _)
 |[],acc,_=>by rw [List.forIn_nil];rfl
 |(n,k)::r,acc,h=>by
  rw [List.forIn_cons,hf];unfold clF;have ih:=fun a=>qE7 f hf r a fun x hx=>h x (AD _ hx);split
  ·rename_i hk;have hk':k = .free:=by simpa using hk
   obtain ⟨c,e⟩:=h (n,k) AI hk';have ec:cellOf env n=pure c:=by unfold cellOf;rw [show env.cells.lookup n=some c from e]
   rw [ec];simp only [pure_bind];rw [ih,show env.cells.lookup n=some c from e];rfl
  ·simp only [pure_bind];exact ih acc
theorem qB1 {scope:Scope} {env:Env} (h:∀ x∈scope.names,x.2 = .free -> ∃ c,env.cells.lookup x.1=some c):closureFor scope env=pure (clF env scope.names []):=by
 unfold closureFor;dsimp only;rw [qE7 _ (fun n k acc=>by cases hk:k==NameKind.free <;> simp [hk]) _ _ h]
 rfl
theorem Ys {env:Env} {x:Str} {c:Addr}:∀ {names:List (Str×NameKind)} {acc:List (Str×Addr)},(∀ y∈names,y.2 = .free -> ∃ c,env.cells.lookup y.1=some c)->(clF env names acc).lookup x=some c->env.cells.lookup x=some c∨acc.lookup x=some c
 |[],_,_,e => .inr e
 |(n,k)::r,acc,h,e=>by
  unfold clF at e;have h':=fun y hy=>h y (AD _ hy);split at e
  ·rename_i hk;have hk':k = .free:=by simpa using hk
   obtain ⟨a,ea⟩:=h (n,k) AI hk';rcases Ys h' e with q |q
   ·exact .inl q
   ·rcases QZ q with ⟨e1,e2⟩ |⟨_,e2⟩
    ·rw [show env.cells.lookup n=some a from ea] at e2;exact .inl (by rw [e1,show env.cells.lookup n=some a from ea];exact CU some e2)
    ·exact .inr e2
  ·exact Ys h' e
theorem YS {env:Env} {x:Str}:∀ {names:List (Str×NameKind)} {acc:List (Str×Addr)},((x,NameKind.free)∈names ∨ ∃ a,acc.lookup x=some a) -> ∃ c,(clF env names acc).lookup x=some c
 |[],_,h=>h.elim (fun h=>absurd h (by simp)) fun h=>h
 |(n,k)::r,acc,h=>by
  unfold clF;split
  ·refine YS ?_;by_cases hx:x=n
   ·exact .inr ⟨_,by rw [Az,hx,As]⟩
   ·rcases h with h |⟨a,h⟩
    ·rcases AE.mp h with q |q
     ·exact absurd (CP q).1 hx
     ·exact .inl q
    ·exact .inr ⟨a,by rw [Az,Bq hx];exact h⟩
  ·rename_i hk;refine YS ?_;rcases h with h |h
   ·rcases AE.mp h with q |q
    ·exact absurd (by rw [← (CP q).2];rfl) hk
    ·exact .inl q
   ·exact .inr h
def qLT (X:Cx) (scope:Scope) (C:Addr):Env :=
 { scope:=relabel scope X.env,locals:=C,globals:=X.env.globals,cells:=cellsFrom (C + 1) scope.names (clF X.env scope.names []),qual:=X.env.qual,func:=none,code:=X.env.code,frame:=X.env.frame,builtins:=X.env.builtins }
def cCx (X:Cx) (scope:Scope) (N:List Str) (s:Shared) (H:Hp) (fp:List Addr) (pn:List (Addr×Obj)):Cx where
 prog:=X.prog
 w:=X.w
 K:=X.K
 mg:=X.mg
 base:=X.base
 A:=X.A
 N:=N
 s₀:=s
 H₀:=H
 env:=qLT X scope s.heap.objs.size
 outer:=X.stack
 stack:=X.stack
 ex:=fp
 fn:=fun x=>scope.names.lookup x==some .cell
 calm:=X.calm
 pn:=pn
 xe:=fun _ _=>False
structure CSc (X:Cx) (scope:Scope) (capN locN:List Str) (caps:List Nat):Prop where
 kind:scope.kind = .function
 nd:(scope.names.map (·.1)).Nodup
 fr:∀ x∈scope.names,x.2 = .free->(X.env.kindOf x.1=some .cell∨X.env.kindOf x.1=some .free)
 len:capN.length=caps.length
 cap:∀ (i:Nat) (x:Str) (j:Nat),capN[i]? = some x->caps[i]? = some j->X.N[j]? = some x∧(x,NameKind.free)∈scope.names
theorem zX {x:Str} {k:NameKind}:∀ {names:List (Str×NameKind)},(names.map (·.1)).Nodup->(x,k)∈names->names.lookup x=some k
 |(n,k')::r,nd,h=>by
  rw [Aj,Ax] at nd;rw [Az];rcases AE.mp h with q |q
  ·obtain ⟨rfl,rfl⟩:=CP q;rw [As]
  ·have hne:x≠n:=fun z=>nd.1 (by rw [← z];exact AW.mpr ⟨(x,k),q,rfl⟩)
   rw [Bq hne];exact zX nd.2 q
theorem w5 {env:Env} {x:Str}:∀ {names:List (Str×NameKind)},
  (names.map fun (n,k)=>if (k==NameKind.free&&env.scope.kind == .function&&env.kindOf n==some .cell) then (n,NameKind.cell) else (n,k)).lookup x=(names.lookup x).map fun k=>if (k==NameKind.free&&env.scope.kind == .function&&env.kindOf x==some .cell) then NameKind.cell else k
 |[]=>rfl
 |(n,k)::r=>by
  rw [Aj,Az];show List.lookup x ((if (k==NameKind.free&&env.scope.kind == .function&&env.kindOf n==some .cell)=true then (n,NameKind.cell) else (n,k))::_)=_;cases hx:x==n with
  |true =>
   have hx':x=n:=A4.mp hx;subst hx';by_cases hc:(k==NameKind.free&&env.scope.kind == .function&&env.kindOf x==some .cell)=true
   ·rw [AH hc];simp only [Az,As,Option.map_some];rw [AH hc]
   ·rw [AJ hc];simp only [Az,As,Option.map_some];rw [AJ hc]
  |false =>
   by_cases hc:(k==NameKind.free&&env.scope.kind == .function&&env.kindOf n==some .cell)=true
   ·rw [AH hc];simp only [Az,hx];exact w5
   ·rw [AJ hc];simp only [Az,hx];exact w5
theorem qCB {X:Cx} {scope:Scope} {capN locN:List Str} {caps:List Nat} (cs:CSc X scope capN locN caps) {pins:List (Addr×Obj)} {σ:L2.St} {H:Hp} {s s4:Shared} {fp:List Addr} (I:L2.Inv X pins σ H s) (hf:∀ b∈fp,YF X pins H b) (hlt:∀ b∈fp,b < s.heap.objs.size)
  (h4:s4={ s with heap:=pushCells (s.heap.push { cls := .type "dict",data := .dict #[] }) scope.names }) :
  L2.Inv (cCx X scope (capN++locN) s H fp (X.pn++pins)) [] ((caps.map fun j=>(σ[j]?).join)++List.replicate locN.length none) H s4:=by
 have hfree:∀ x∈scope.names,x.2 = .free -> ∃ c,X.env.cells.lookup x.1=some c:=fun x hx hk=>I.ok.has x.1 (cs.fr x hx hk);have keep:∀ b o,s.heap.get? b=some o->s4.heap.get? b=some o:=fun b o e=>by subst h4;exact pushCells_keeps _ _ _ _ (AG _ e)
 have clook:∀ x c,(clF X.env scope.names []).lookup x=some c->X.env.cells.lookup x=some c:=fun x c e=>(Ys hfree e).elim (fun q=>q) fun q=>by cases q
 have clt:∀ x c,(clF X.env scope.names []).lookup x=some c->c < s.heap.objs.size:=fun x c e=>by obtain ⟨v,q⟩:=I.cell x c (clook x c e);exact q.lt
 have cases':∀ x c,(cellsFrom (s.heap.objs.size + 1) scope.names (clF X.env scope.names [])).lookup x=some c->(s.heap.objs.size + 1≤c)∨(c < s.heap.objs.size∧X.env.cells.lookup x=some c):=fun x c e=>by
  rcases wC e with ⟨q,_⟩ |q
  ·exact .inl q
  ·exact .inr ⟨clt x c q,clook x c q⟩
 have isfree:∀ x,(X.env.kindOf x=some .cell∨X.env.kindOf x=some .free)->True:=fun _ _=>trivial;refine ⟨⟨I.ok.mod,cs.kind,I.ok.glob,I.ok.blt,AK _,fun x y c h1 h2 => ?_,fun x hx => ?_,fun x c hx e => ?_,I.ok.hd,I.ok.frames,.inl rfl,fun b hb=>⟨Ab (hlt b hb),fun x c e => ?_⟩,fun b o e=>I.bs b o e,Ae I.ok.bsz I.sz,fun b o e hb => ?_,fun b hb hm => ?_,I.stack,I.stkFree⟩,
  by subst h4;rfl,by subst h4;exact I.bare,Un.kept keep,?_,fun x c e => ?_,I.hok.fresh (AK _),fun x c e => ?_,fun p hp => ?_,I.hok.kept keep,?_,I.hnd⟩
 ·rcases W9 (fun z a e=>A8 (clt z a e)) h1 h2 with e |⟨e1,e2⟩
  ·exact e
  ·exact I.ok.inj x y c (clook x c e1) (clook y c e2)
 ·refine WT ?_;have hx':(relabel scope X.env).names.lookup x=some .cell∨(relabel scope X.env).names.lookup x=some .free:=hx;have e:(relabel scope X.env).names.lookup x=(scope.names.lookup x).map fun k=>if (k==NameKind.free&&X.env.scope.kind == .function&&X.env.kindOf x==some .cell) then NameKind.cell else k:=w5;rw [e] at hx';cases q:scope.names.lookup x with
  |none=>rw [q] at hx';rcases hx' with z |z <;> cases z
  |some k =>
   rw [q] at hx';have hm:=BU q;by_cases hk:k = .free
   ·subst hk;exact .inl (YS (.inl hm))
   ·have hkf:(k==NameKind.free)=false:=by simpa using hk
    simp only [Option.map_some,hkf,CF,A0,BX] at hx';rcases hx' with z |z
    ·cases z;exact .inr hm
    ·cases z;exact absurd rfl hk
 ·have hx':scope.names.lookup x=some .cell:=by simpa [cCx] using hx
  exact Nat.le_of_succ_le (W8 (n0:=s.heap.objs.size + 1) (AK _) (.inr (BU hx')) e)
 ·rcases cases' x c e with q |⟨q,q'⟩
  ·exact fun z=>by rw [z] at q;exact absurd (hlt b hb) (Nat.not_lt.mpr (Nat.le_of_succ_le q))
  ·exact (hf b hb).2.2.2.2.1 x c q'
 ·obtain ⟨_,_,_,h3,_⟩:=hf b hb;rcases h3 with q |q
  ·exact I.ok.noex b o e q
  ·exact absurd (AT e) (Nat.not_lt.mpr (Ae I.ok.bsz q))
 ·obtain ⟨_,h1,h2,_⟩:=hf b hb;exact (AE.mp (I.stkSub b hm)).elim h1 h2
 ·refine ⟨fun _=>none,?_,fun i x v e1 e2 e3 => ?_⟩
  ·subst h4;exact (Heap.Ns.new s.heap (.type "dict")).keeps (pushCells_keeps _ _)
  ·have hi:i < caps.length:=by
    by_cases hi:i < caps.length
    ·exact hi
    ·rw [Av (by simpa using hi),Bh] at e2
     split at e2 <;> cases e2
   rw [Af (by simpa using hi),A1] at e2
   have e1':(capN++locN)[i]? = some x:=e1;rw [Af (by rw [cs.len];exact hi)] at e1'
   cases ej:caps[i]? with
   |none=>rw [ej] at e2;cases e2
   |some j =>
    rw [ej] at e2;obtain ⟨k1,k2⟩:=cs.cap i x j e1' ej;have e2':σ[j]? = some (some v):=by
     have e2'':(σ[j]?).join=some v:=Ai e2;cases q:σ[j]? with
     |none=>rw [q] at e2'';cases e2''
     |some o=>rw [q] at e2'';exact CU some e2''
    have hk:=cs.fr _ k2 rfl;obtain ⟨m,hn,hl⟩:=I.loc;obtain ⟨u,ru,lu⟩:=hl j x v k1 e2' (hk.elim (fun z => .inr (.inl z)) fun z => .inr (.inr z));refine ⟨u,ru,.inr ?_⟩;have hc:∃ c,X.env.cells.lookup x=some c∧s.heap.IsCell c (some u):=by
     rcases lu with ⟨z,_⟩ |⟨_,z⟩
     ·rcases hk with y |y <;> · rw [z] at y;cases y
     ·exact z
    obtain ⟨c,c1,c2⟩:=hc;obtain ⟨c',e'⟩:=YS (env:=X.env) (acc:=[]) (.inl k2);have e2:=clook x c' e';rw [c1] at e2;cases e2;have hlk:scope.names.lookup x=some .free:=zX cs.nd k2;refine ⟨?_,c,?_,c2.keeps keep⟩
    ·show (relabel scope X.env).names.lookup x=some .cell∨(relabel scope X.env).names.lookup x=some .free;have e:(relabel scope X.env).names.lookup x=(scope.names.lookup x).map fun k=>if (k==NameKind.free&&X.env.scope.kind == .function&&X.env.kindOf x==some .cell) then NameKind.cell else k:=w5;rw [e,hlk];simp only [Option.map_some];split
     ·exact .inl rfl
     ·exact .inr rfl
    ·obtain ⟨d,hd⟩:=WT (names:=scope.names) (n:=s.heap.objs.size + 1) (acc:=clF X.env scope.names []) (x:=x) (.inl ⟨c,e'⟩);rcases wC hd with ⟨q,q'⟩ |q
     ·have:=zX cs.nd q'
      rw [hlk] at this;cases this
     ·rw [e'] at q;cases q;exact hd
 ·rcases wC e with ⟨q,_⟩ |q
  ·have e':(cellsFrom (s.heap.push { cls := .type "dict",data := .dict #[] }).objs.size scope.names (clF X.env scope.names [])).lookup x=some c:=by rw [B1];exact e
   rcases Wo e' with ⟨_,z,_⟩ |z
   ·obtain ⟨v,y⟩:=I.cell x c (clook x c z);exact ⟨v,y.keeps keep⟩
   ·subst h4;exact ⟨none,z⟩
  ·obtain ⟨v,y⟩:=I.cell x c (clook x c q);exact ⟨v,y.keeps keep⟩
 ·rcases cases' x c e with q |⟨q,q'⟩
  ·exact I.hok.fresh (Nat.le_of_succ_le q)
  ·exact I.freeC x c q'
 ·have hp':p∈X.pn++pins:=by simpa [cCx] using hp
  obtain ⟨k1,k2,k3,k4,k5⟩:=I.pin p hp';exact ⟨keep _ _ k1,k2,Ab (AT k1),fun z=>(AE.mp (I.stkSub p.1 z)).elim k3 k4,k5⟩
 ·show ((caps.map fun j=>(σ[j]?).join)++List.replicate locN.length none).length=(capN++locN).length;rw [AY,AC,List.length_replicate,AY,cs.len]
theorem qEz {X:Cx} {scope:Scope} {N:List Str} {pins:List (Addr×Obj)} {σ σ':L2.St} {H H':Hp} {s s':Shared} {h'':Heap} {fp:List Addr} (I:L2.Inv X pins σ H s) (hf:∀ b∈fp,YF X pins H b)
  (J:L2.Inv (cCx X scope N s H fp (X.pn++pins)) [] σ' H' s') (sb:Heap.SameBut s.heap.objs.size s'.heap h''):L2.Inv X pins σ H' { s' with heap:=h'' }:=by
 have hos:s'.os=s.os:=J.os;have hC:∀ b o,s.heap.get? b=some o->b≠s.heap.objs.size:=fun b o e=>Ab (AT e);have u:Un (frs X.stack) fp H H' s.heap h'':=by have u0:=J.base;exact ⟨fun b o e n h1 h2=>sb.extBut b o (hC b o e) (u0.keep b o e n h1 h2),fun b o e n h1 h2=>(u0.slot b o e n h1 h2).elim fun sl q=>⟨sl,sb.extBut b _ (hC b o e) q⟩,u0.free,fun b o e h2=>(u0.there b o e h2).elim fun o' q=>⟨o',sb.extBut b o' (hC b o e) q⟩,u0.tups,u0.frzs,u0.tbls⟩
 have hok:HOk X.prog X.w H' h'':=fun a o e=>by
  refine (J.hok a o e).stay (fun b v hb q=>sb.extBut b v ?_ q) (fun _ q=>q) fun _ _ q=>q;have hn:H' s.heap.objs.size=none:=J.free;rcases hb with z |z
  ·rw [z];exact qV e hn
  ·exact qV z hn
 obtain ⟨hh,g,d,t,os'⟩:=s';obtain rfl:os'=s.os:=hos;have fin:=L2.Inv.call (s:=s) (h':=h'') (g':=g) (d':=d) (t':=t) (ch:=fp) I u hok J.bare fun b hb=>by obtain ⟨k0,k1,k2,k3,k4,k5⟩:=hf b hb;exact ⟨k3,k1,k4,k5⟩
 exact fin
theorem jD {elt:Expr} {gens:List Comprehension} {scope:Scope} {pos:Pos} {d:Nat} {it acc:Value} {env:Env} {g:Comprehension} (hg:gens[d]? = some g) (ha:g.is_async=0) (hn:gens[d + 1]? = none) :
  compTurn (.ListComp elt gens scope pos) d it acc env=(standAt g.iter.pos >>= fun _=>pyNext it >>= fun r=>match r with
   |none=>pure (.done .next)
   |some v=>letOwnedTupleGo g.target it v >>= fun _=>assign g.target env v >>= fun _ =>
    (forIn g.ifs true fun c r=>if r=true then do let ok ← isTrue c env (eval c env);pure (ForInStep.yield ok) else pure (ForInStep.yield r)) >>= fun ok =>
    if ok=true then (eval elt env >>= fun x=>call (.builtin "list.append") [acc,x] >>= fun _=>pure ()) >>= fun _=>again (.compLoop (.ListComp elt gens scope pos) d it acc env)
    else again (.compLoop (.ListComp elt gens scope pos) d it acc env)):=by unfold compTurn;dsimp only;rw [hg];dsimp only;rw [hn,ha];rfl
theorem jJ {elt:Expr} {gens:List Comprehension} {scope:Scope} {pos:Pos} {d:Nat} {it acc:Value} {env:Env} {g g':Comprehension} (hg:gens[d]? = some g) (ha:g.is_async=0) (hn:gens[d + 1]? = some g') (ha':g'.is_async=0) :
  compTurn (.ListComp elt gens scope pos) d it acc env=(standAt g.iter.pos >>= fun _=>pyNext it >>= fun r=>match r with
   |none=>pure (.done .next)
   |some v=>letOwnedTupleGo g.target it v >>= fun _=>assign g.target env v >>= fun _ =>
    (forIn g.ifs true fun c r=>if r=true then do let ok ← isTrue c env (eval c env);pure (ForInStep.yield ok) else pure (ForInStep.yield r)) >>= fun ok =>
    if ok=true then (eval g'.iter env >>= fun x=>standAt g'.iter.pos >>= fun _=>foldedSetIterable g'.iter env x >>= fun x=>holding [x] (pyIter x) >>= fun it'=>runOwn (.compStart (.ListComp elt gens scope pos) (d + 1) it' acc env) env >>= fun _=>again (.compLoop (.ListComp elt gens scope pos) d it acc env))
    else again (.compLoop (.ListComp elt gens scope pos) d it acc env)):=by unfold compTurn;dsimp only;rw [hg];dsimp only;rw [hn,ha];dsimp only;rw [ha'];rfl
theorem yP {prog:Program} {w:World} {A:Around} {R:Result->Shared->Prop} {s:Shared} {elt:Expr} {gens:List Comprehension} {scope:Scope} {pos:Pos} {d:Nat} {it acc:Value} {env:Env} {g:Comprehension} (hg:gens[d]? = some g) (ha:g.is_async=0)
  (h0:codeAny (model prog w) A (.compLoop (.ListComp elt gens scope pos) d it acc env) R s)
  (h:wpAny (model prog w) A (pyIter it) (fun it' s'=>codeAny (model prog w) A (.compLoop (.ListComp elt gens scope pos) d it' acc env) R s') (notedBy (model prog w) A env fun x s'=>R (.error x) s') s) :
  codeAny (model prog w) A (.compStart (.ListComp elt gens scope pos) d it acc env) R s:=by
 refine codeAny_of_tree ?_;show wpAny _ _ ((compStart (.ListComp elt gens scope pos) d it acc env).onRaise (fun x=>do noteFrame x env;standAt theWindowsPlace)) _ _ s;refine wpAny_notedAt ?_;unfold compStart;have e1:(clausesOf (.ListComp elt gens scope pos))[d]? = some g:=hg;rw [e1];simp only [Option.elim_some,ha];refine AA (wpAny_askSetting (wpAny_ite ?_));split
 ·exact AA (AF (AF (And.intro rfl h0)))
 ·exact AA (wpAny_rule (AA (Cd (AA (Bc h (fun it' s' h'=>AF (And.intro rfl h')) fun _ _ x=>x)))))
structure GenF where
 fi:FI
 g:FG
 ts:List FT
def wc:List FT->FT
 |[],_,st => .ok true st
 |t::ts,r,st=>(t r st).bind fun k s=>if k=true then wc ts r s else .ok false s
open Classical in
noncomputable def QI (G:qC->Prop) (k:PV->qC->Rs (List PV)):List PV->qC->Rs (List PV)
 |[],st=>if G st then .ok [] st else .no
 |p::ps,st=>if G st then (k p st).bind fun l s=>(QI G k ps s).bind fun m s' => .ok (l++m) s' else .no
def Qk (g:GenF) (rest:FL) (r:qv) (p:PV) (s:qC):Rs (List PV):=match g.g p r with
 |none => .no
 |some r'=>(wc g.ts r' s).bind fun k s1=>if k=true then rest r' s1 else .ok [] s1
noncomputable def wB:List GenF->FE->FL
 |[],f=>fun r st=>(f r st).bind fun p s => .ok [p] s
 |g::gs,f=>fun r st=>(g.fi r st).bind fun w s=>QI w.G (Qk g (wB gs f) r) w.l s
def Le (r r':qv):Prop:=r.length=r'.length ∧ ∀ (i:Nat) (p:PV),r[i]? = some (some p)->r'[i]? = some (some p)
theorem REnv.le {K:W.Frag} {H:Hp} {b:Bz} {r r':qv} {s:L2.St} (h:REnv K H b r' s) (l:Le r r'):REnv K H b r s:=⟨l.1.trans h.1,fun i p e=>h.2 i p (l.2 i p e)⟩
def qCK (g:FG):Prop := ∀ p r r',g p r=some r'->Le r r'
inductive TsOk (X:Cx):List Expr->List FT->Prop where
 |nil:TsOk X [] []
 |cons {e:Expr} {t:FT} {es:List Expr} {ts:List FT} (h:VT X E0 e t) (r:TsOk X es ts):TsOk X (e::es) (t::ts)
theorem qAO {X:Cx} (hx:∀ e s,X.xe e s->False):∀ {es:List Expr} {ts:List FT},TsOk X es ts -> ∀ {pins:List (Addr×Obj)} {s:Shared} {σ:L2.St} {H:Hp} {b:Bz} {r:qv} {st st':qC} {k:Bool} {Q:Bool->Shared->Prop} {E:Value->Shared->Prop},L2.Inv X pins σ H s->SR X.K H b st->REnv X.K H b r σ->wc ts r st = .ok k st' ->
  (∀ s' H' b',L2.Inv X pins σ H' s'->Ext H b H' b'->SR X.K H' b' st'->Q k s') ->
  wpAny (model X.prog X.w) X.A (forIn es true fun c r=>if r=true then do let ok ← isTrue c X.env (eval c X.env);pure (ForInStep.yield ok) else pure (ForInStep.yield r)) Q E s
 |_,_,.nil,pins,s,σ,H,b,r,st,st',k,Q,E,I,S,R,e,q=>by cases e;exact wpAny_tests_nil (q s H b I (Ext.refl _ _) S)
 |_,_,@TsOk.cons _ c t es ts h hr,pins,s,σ,H,b,r,st,st',k,Q,E,I,S,R,e,q=>by
  rw [List.forIn_cons];simp only [CN];unfold wc at e;cases et:t r st with
  |no=>rw [et] at e;cases e
  |ex x s1=>rw [et] at e;cases e
  |ok k1 s1 =>
   rw [et] at e;have e:(if k1=true then wc ts r s1 else .ok false s1) = .ok k st':=e;refine AA (AA (Bc (h pins s σ H (fun k' H'=>k'=k1 ∧ ∃ b',Ext H b H' b'∧SR X.K H' b' s1) I ⟨b,r,st,S,R,by rw [et];exact fun H' b' e' S'=>⟨rfl,b',e',S'⟩⟩) (fun k' s2 hq => ?_) fun e' s' z=>(hx e' s' z).elim))
   obtain ⟨H2,I2,rfl,b2,e2,S2⟩:=hq;refine AF ?_;dsimp only;cases k' with
   |true =>rw [AH rfl] at e;exact qAO hx hr I2 S2 (R.ext e2) e fun s' H' b' I' e' S'=>q s' H' b' I' (e2.trans e') S'
   |false =>
    rw [AJ BP] at e;cases e;have skip:∀ (es:List Expr),wpAny (model X.prog X.w) X.A (forIn es false fun c r=>if r=true then do let ok ← isTrue c X.env (eval c X.env);pure (ForInStep.yield ok) else pure (ForInStep.yield r)) Q E s2:=by
     intro es;induction es with
     |nil=>rw [List.forIn_nil];exact AF (q s2 H2 b2 I2 e2 S2)
     |cons c es ih =>rw [List.forIn_cons];simp only [A0,BX];exact AA (AF ih)
    exact skip es
structure GOk (X:Cx) (c:Comprehension) (g:GenF):Prop where
 tg:VG X c.target g.g
 fr:qCK g.g
 ts:TsOk X c.ifs g.ts
 asy:c.is_async=0
structure GOk' (X:Cx) (c:Comprehension) (g:GenF):Prop extends GOk X c g where
 it:VI X E0 c.target c.iter g.fi
 fold:∀ x,foldedSetIterable c.iter X.env x=pure x
inductive GsOk (X:Cx):List Comprehension->List GenF->Prop where
 |nil:GsOk X [] []
 |cons {c:Comprehension} {g:GenF} {cs:List Comprehension} {gs:List GenF} (h:GOk' X c g) (r:GsOk X cs gs):GsOk X (c::cs) (g::gs)
theorem qDv {X:Cx} (hx:∀ e s,X.xe e s->False) {pins:List (Addr×Obj)} {s:Shared} {σ:L2.St} {H:Hp} {D:Addr} {xs:List V} {y:V} {u:Value} {Q:Value->Shared->Prop} {E:Value->Shared->Prop} (I:L2.Inv X pins σ H s) (hD:H D=some (.lst xs)) (hl:xs.length < sizeLine) (ry:RelV y u)
  (q:∀ v s',L2.Inv X pins σ (upd H D (.lst (xs++[y]))) s'->Q v s'):wpAny (model X.prog X.w) X.A (call (.builtin "list.append") [.ref D,u]) Q E s :=
 Bc (jv pins s σ H (.ref D) [y] (.ref D) [u] (fun v H'=>H'=upd H D (.lst (xs++[y]))) I rfl (.cons ry .nil) ⟨D,xs,y,rfl,rfl,hD,hl,rfl⟩) (fun v s' ⟨x,H',I',r',e⟩=>by subst e;exact q v s' I') fun e' s' z=>(hx e' s' z).elim
structure DE (D:Addr) (H:Hp) (b:Bz) (H':Hp) (b':Bz):Prop extends WE H b H' b' where
 same:b'.z=b.z
 hid:∀ a o,a∈b.z->a≠D->H a=some o->H' a=some o
 fz:∀ a o u,a≠D->H a=some (.frz o u)->H' a=some (.frz o u)
theorem DE.of {D:Addr} {H H':Hp} {b b':Bz} (e:Ext H b H' b'):DE D H b H' b':=⟨e.toWE,e.same,fun a o ha _ h=>e.hid a o ha h,fun a o u _ h=>e.fz a o u h⟩
theorem DE.trans {D:Addr} {H H1 H2:Hp} {b b1 b2:Bz} (e:DE D H b H1 b1) (f:DE D H1 b1 H2 b2):DE D H b H2 b2:=⟨e.toWE.trans f.toWE,f.same.trans e.same,fun a o ha hn h=>f.hid a o (by rw [e.same];exact ha) hn (e.hid a o ha hn h),fun a o u n h=>f.fz a o u n (e.fz a o u n h)⟩
theorem DE.wr {D:Addr} {H:Hp} {b:Bz} {o:HO} (h:D∈b.z):DE D H b (upd H D o) b:=⟨WE.wr (.inr h),rfl,fun a u ha hn e=>by rw [qY hn];exact e,fun a u v hn e=>by rw [qY hn];exact e⟩
def qLM (X:Cx) (D:Addr) (c:Code) (inner:Sem Fin) (rest:FL):Prop :=
 ∀ (pins:List (Addr×Obj)) (s:Shared) (σ:L2.St) (H:Hp) (b:Bz) (r:qv) (st st':qC) (l:List PV) (accV:List V) (QF:Fin->Shared->Prop) (E:Value->Shared->Prop),L2.Inv X pins σ H s->SR X.K H b st->REnv X.K H b r σ->D∈b.z->H D=some (.lst accV) ->
  rest r st = .ok l st'->accV.length + l.length≤sizeLine ->
  (∀ s' σ' H' b' lV,L2.Inv X pins σ' H' s'->DE D H b H' b'->SR X.K H' b' st'->REnv X.K H' b' r σ'->H' D=some (.lst (accV++lV))->RVs X.K H' b' l lV->QF (.again c) s')->wpAny (model X.prog X.w) X.A inner QF E s
theorem qAI {X:Cx} (hx:∀ e s,X.xe e s->False) {elt:Expr} {gens:List Comprehension} {scope:Scope} {pos:Pos} {d:Nat} {it D:Addr} {c:Comprehension} {g:GenF} (hg:GOk X c g) {inner:Sem Fin} {rest:FL} (hin:qLM X D (.compLoop (.ListComp elt gens scope pos) d (.ref it) (.ref D) X.env) inner rest)
  (hturn:compTurn (.ListComp elt gens scope pos) d (.ref it) (.ref D) X.env=(standAt c.iter.pos >>= fun _=>pyNext (.ref it) >>= fun r=>match r with
   |none=>pure (.done .next)
   |some v=>letOwnedTupleGo c.target (.ref it) v >>= fun _=>assign c.target X.env v >>= fun _ =>
    (forIn c.ifs true fun c r=>if r=true then do let ok ← isTrue c X.env (eval c X.env);pure (ForInStep.yield ok) else pure (ForInStep.yield r)) >>= fun ok =>
    if ok=true then inner else again (.compLoop (.ListComp elt gens scope pos) d (.ref it) (.ref D) X.env)))
  {pins:List (Addr×Obj)} {s:Shared} {σ:L2.St} {H:Hp} {b:Bz} {r:qv} {st st':qC} {fp:List Addr} {tn:Nat->Heap->Prop} {J:It} {w:ItP} {accV:List V} {l:List PV} {R:Result->Shared->Prop}
  (I:L2.Inv X pins σ H s) (S:SR X.K H b st) (RE:REnv X.K H b r σ) (hDz:D∈b.z) (hD:H D=some (.lst accV)) (T:Turn X.prog X.w X.K X.A c.target J fp it tn) (t0:tn 0 s.heap) (hf:∀ a∈fp,YF X pins H a)
  (hit:jB X.K H b J w)
  (hv:QI w.G (Qk g rest r) w.l st = .ok l st') (hsz:accV.length + l.length≤sizeLine)
  (hR:∀ s' σ' H' b' lV,L2.Inv X pins σ' H' s'->DE D H b H' b'->SR X.K H' b' st'->REnv X.K H' b' r σ'->H' D=some (.lst (accV++lV))->RVs X.K H' b' l lV->R (.ok .next) s') :
  codeAny (model X.prog X.w) X.A (.compLoop (.ListComp elt gens scope pos) d (.ref it) (.ref D) X.env) R s:=by
 have stat:∀ {H':Hp},(∀ a∈fp,H' a=none) -> ∀ a∈fp,YF X pins H' a:=fun hn a ha=>⟨hn a ha,(hf a ha).2⟩;refine codeAny_loop rfl (fun n s1 => ∃ i σ1 H1 b1 st1 done doneV m,n=w.l.length + 1 - i∧i≤w.l.length∧L2.Inv X pins σ1 H1 s1∧DE D H b H1 b1∧SR X.K H1 b1 st1∧REnv X.K H1 b1 r σ1∧H1 D=some (.lst (accV++doneV))∧RVs X.K H1 b1 done doneV∧tn i s1.heap∧(∀ a∈fp,H1 a=none) ∧
  QI w.G (Qk g rest r) (w.l.drop i) st1 = .ok m st'∧done++m=l) ?_ (w.l.length + 1)
  ⟨0,σ,H,b,st,[],[],l,by omega,A7 _,I,DE.of (Ext.refl _ _),S,RE,by simpa using hD,RVs.nil,t0,fun a ha=>(hf a ha).1,by simpa using hv,rfl⟩
 rintro n s1 ⟨i,σ1,H1,b1,st1,done,doneV,m,hn,hi,I1,e1,S1,R1,hD1,rd1,t1,fr1,hv1,hm⟩
 show wpAny _ X.A ((compTurn (.ListComp elt gens scope pos) d (.ref it) (.ref D) X.env).onRaise (fun x=>do noteFrame x X.env;theTreesLotGoes x)) _ _ s1;refine wpAny_noted ?_;rw [hturn];refine AA (Cd (AA ?_));have hz1:D∈b1.z:=by rw [e1.same];exact hDz
 by_cases hlt:i < w.l.length
 ·have hd:w.l.drop i=w.l[i]::w.l.drop (i + 1):=List.drop_eq_getElem_cons hlt;rw [hd] at hv1;unfold QI at hv1;by_cases hG:w.G st1
  ·rw [AH hG] at hv1;obtain ⟨h1,h2⟩:=hit H1 b1 st1 e1.toWE S1 hG;obtain ⟨go,yl⟩:=h1 i w.l[i] (AU hlt);cases ek:Qk g rest r w.l[i] st1 with
   |no=>rw [ek] at hv1;cases hv1
   |ex x s5=>rw [ek] at hv1;cases hv1
   |ok l1 s5 =>
    rw [ek] at hv1;have hv1:(QI w.G (Qk g rest r) (w.l.drop (i + 1)) s5).bind (fun m s' => .ok (l1++m) s') = .ok m st':=hv1;cases ek2:QI w.G (Qk g rest r) (w.l.drop (i + 1)) s5 with
    |no=>rw [ek2] at hv1;cases hv1
    |ex x s6=>rw [ek2] at hv1;cases hv1
    |ok m2 s6 =>
     rw [ek2] at hv1;have hv1:Rs.ok (l1++m2) s6 = .ok m st':=hv1;injection hv1 with hv1a hv1b;subst hv1a;subst hv1b;refine thn (T.item X rfl rfl rfl rfl i pins s1 σ1 H1 _ I1 (stat fr1) t1 go) fun rr s2 ⟨u,hr,h4⟩ => ?_;subst hr;refine AA (thn h4 fun _ s3 ⟨x,H3,I3,r3,y3,t3,fr3⟩ => ?_);obtain ⟨sm3,S3,rx3⟩:=yl x H3 y3;have e3:Ext H1 b1 H3 b1:=Ext.of_same sm3;have hD3:=sm3 _ _ hD1;unfold Qk at ek;cases eg:g.g w.l[i] r with
     |none=>rw [eg] at ek;cases ek
     |some r' =>
      rw [eg] at ek;have ek:(wc g.ts r' st1).bind (fun k s1=>if k=true then rest r' s1 else .ok [] s1) = .ok l1 s5:=ek;cases et:wc g.ts r' st1 with
      |no=>rw [et] at ek;cases ek
      |ex x s7=>rw [et] at ek;cases ek
      |ok k s7 =>
       rw [et] at ek;have ek:(if k=true then rest r' s7 else .ok [] s7) = .ok l1 s5:=ek;have I3':=I3.pinned (stat fr3) (T.obj _ _ t3);refine AA (Bc (hg.tg _ s3 σ1 H3 x u (fun σ' H'=>H'=H3∧REnv X.K H3 b1 r' σ') I3' r3 ⟨b1,r,w.l[i],st1,S3,R1.ext e3,rx3,r',eg,fun s' R'=>⟨rfl,R'⟩⟩) (fun _ s4 hq => ?_) fun e' s' z=>(hx e' s' z).elim);obtain ⟨σ4,H4,I4,rfl,R4⟩:=hq;refine AA (qAO hx hg.ts I4 S3 R4 et fun s5' H5 b5 I5 e5 S5 => ?_);have hz5:D∈b5.z:=by rw [e5.same];exact hz1
       have hD5:=e5.hid _ _ hz1 hD3;have e15:DE D H b H5 b5:=(e1.trans (DE.of e3)).trans (DE.of e5);have back:∀ {s7':Shared} {σ7:L2.St} {H7:Hp} {b7:Bz} {l1V:List V},L2.Inv X (pins++Yx fp s3.heap) σ7 H7 s7'->DE D H5 b5 H7 b7->SR X.K H7 b7 s5->REnv X.K H7 b7 r' σ7->H7 D=some (.lst (accV++doneV++l1V))->RVs X.K H7 b7 l1 l1V ->
         ∃ m,m < n ∧ ∃ i σ1 H1 b1 st1 done doneV mm,m=w.l.length + 1 - i∧i≤w.l.length∧L2.Inv X pins σ1 H1 s7'∧DE D H b H1 b1∧SR X.K H1 b1 st1∧REnv X.K H1 b1 r σ1∧H1 D=some (.lst (accV++doneV))∧RVs X.K H1 b1 done doneV∧tn i s7'.heap∧(∀ a∈fp,H1 a=none) ∧
         QI w.G (Qk g rest r) (w.l.drop i) st1 = .ok mm s6∧done++mm=l:=fun {s7' σ7 H7 b7 l1V} I7 e7 S7 R7 hD7 rl7=>by
        refine ⟨w.l.length + 1 - (i + 1),by omega,i + 1,σ7,H7,b7,s5,done++l1,doneV++l1V,m2,rfl,hlt,I7.unpinned,e15.trans e7,S7,R7.le (hg.fr _ _ _ eg),by rw [hD7,Al],?_,T.keep _ _ _ t3 fun a ha o e=>(I7.pin (a,o) (A2 _ (A2 _ (zY ha e)))).1,fun a ha => ?_,ek2,by rw [Al];exact hm⟩
        ·exact RVs.append (RVs.wext e7.toWE done (RVs.ext e5 done (RVs.ext e3 done rd1))) rl7
        ·obtain ⟨o,e,_⟩:=T.obj _ _ t3 a ha;exact (I7.pin (a,o) (A2 _ (A2 _ (zY ha e)))).2.1
       cases k with
       |false =>rw [AJ BP] at ek ⊢;injection ek with ek1 ek2';subst ek1;subst ek2';refine AF ⟨rfl,back I5 (DE.of (Ext.refl _ _)) S5 (R4.ext e5) (by rw [BB];exact hD5) RVs.nil⟩
       |true =>
        rw [AH rfl] at ek ⊢;refine hin _ s5' σ4 H5 b5 r' s7 s5 l1 (accV++doneV) _ _ I5 S5 (R4.ext e5) hz5 hD5 ek ?_ fun s8 σ8 H8 b8 lV I8 e8 S8 R8 hD8 r8=>⟨rfl,back I8 e8 S8 R8 hD8 r8⟩;have h1:=rd1.length;have h2:l.length=done.length + (l1.length + m2.length):=by rw [← hm,AY,AY]
        rw [AY];omega
  ·rw [AJ hG] at hv1;cases hv1
 ·have hl:i=w.l.length:=by omega
  subst hl;rw [List.drop_length] at hv1;unfold QI at hv1;by_cases hG:w.G st1
  ·rw [AH hG] at hv1;injection hv1 with k1 k2;subst k1;subst k2;obtain ⟨h1,h2⟩:=hit H1 b1 st1 e1.toWE S1 hG;refine thn (T.done X rfl rfl rfl rfl _ pins s1 σ1 H1 _ I1 (stat fr1) t1 (h2 _ (AK _))) fun r2 s2 ⟨hr,I2⟩ => ?_;subst hr;rw [BB] at hm;subst hm;exact AF (hR s2 σ1 H1 b1 doneV I2 e1 S1 R1 hD1 rd1)
  ·rw [AJ hG] at hv1;cases hv1
theorem qDH {X:Cx} (hx:∀ e s,X.xe e s->False) {elt:Expr} {gens:List Comprehension} {scope:Scope} {pos:Pos} {f:FE} {D:Addr} (he:VE X E0 elt f) :
  ∀ (gs:List GenF) (cs:List Comprehension) (d:Nat) (c:Comprehension) (g:GenF),gens.drop d=c::cs->GOk X c g->GsOk X cs gs ->
  ∀ (pins:List (Addr×Obj)) (s:Shared) (σ:L2.St) (H:Hp) (b:Bz) (r:qv) (st st':qC) (it:Addr) (fp:List Addr) (tn:Nat->Heap->Prop) (J:It) (w:ItP) (accV:List V) (l:List PV) (R:Result->Shared->Prop),
  L2.Inv X pins σ H s->SR X.K H b st->REnv X.K H b r σ->D∈b.z->H D=some (.lst accV)->Turn X.prog X.w X.K X.A c.target J fp it tn->tn 0 s.heap->(∀ a∈fp,YF X pins H a)->jB X.K H b J w ->
  QI w.G (Qk g (wB gs f) r) w.l st = .ok l st'->accV.length + l.length≤sizeLine ->
  (∀ s' σ' H' b' lV,L2.Inv X pins σ' H' s'->DE D H b H' b'->SR X.K H' b' st'->REnv X.K H' b' r σ'->H' D=some (.lst (accV++lV))->RVs X.K H' b' l lV->R (.ok .next) s') ->
  codeAny (model X.prog X.w) X.A (.compLoop (.ListComp elt gens scope pos) d (.ref it) (.ref D) X.env) R s:=by
 intro gs;induction gs with
 |nil =>
  intro cs d c g hdr hg hgs pins s σ H b r st st' it fp tn J w accV l R I S RE hDz hD T t0 hf hit hv hsz hR;cases hgs;have hgd:gens[d]? = some c:=by
   have:(gens.drop d)[0]? = some c:=by rw [hdr];rfl
   simpa using this
  have hgn:gens[d + 1]? = none:=by
   have:(gens.drop d)[1]? = none:=by rw [hdr];rfl
   simpa using this
  refine qAI hx hg ?_ (jD hgd hg.asy hgn) I S RE hDz hD T t0 hf hit hv hsz hR;intro pins s σ H b r st st' l accV QF E I S RE hDz hD hv hsz q;have hv:(f r st).bind (fun p s => .ok [p] s) = .ok l st':=hv;cases ef:f r st with
  |no=>rw [ef] at hv;cases hv
  |ex x s1=>rw [ef] at hv;cases hv
  |ok p s1 =>
   rw [ef] at hv;have hv:Rs.ok [p] s1 = .ok l st':=hv;injection hv with h1 h2;subst h1;subst h2;refine AA (AA (Bc (he pins s σ H (fun v H' => ∃ b',Ext H b H' b'∧SR X.K H' b' s1∧RV X.K H' b' p v) I ⟨b,r,st,S,RE,by rw [ef];exact fun v H' b' e' S' r'=>⟨b',e',S',r'⟩⟩) (fun u s2 hq => ?_) fun e' s' z=>(hx e' s' z).elim))
   obtain ⟨v,H2,I2,rv,b2,e2,S2,r2⟩:=hq;have hz2:D∈b2.z:=by rw [e2.same];exact hDz
   refine AA (qDv hx I2 (e2.hid _ _ hDz hD) (by rw [BZ] at hsz;omega) rv fun _ s3 I3=>AF (AF ?_))
   have dw:DE D H2 b2 (upd H2 D (.lst (accV++[v]))) b2:=DE.wr hz2;exact q s3 σ _ b2 [v] I3 ((DE.of e2).trans dw) (SR.wrz S2 hz2) ((RE.ext e2).wext dw.toWE) Qr (RVs.cons (RV.wext dw.toWE p r2) RVs.nil)
 |cons g2 gs ih =>
  intro cs d c g hdr hg hgs pins s σ H b r st st' it fp tn J w accV l R I S RE hDz hD T t0 hf hit hv hsz hR;cases hgs with
  | @cons c2 _ cs _ h2 hr2 =>
   have hgd:gens[d]? = some c:=by
    have:(gens.drop d)[0]? = some c:=by rw [hdr];rfl
    simpa using this
   have hgn:gens[d + 1]? = some c2:=by
    have:(gens.drop d)[1]? = some c2:=by rw [hdr];rfl
    simpa using this
   have hdr2:gens.drop (d + 1)=c2::cs:=by
    have:(gens.drop d).drop 1=c2::cs:=by rw [hdr];rfl
    rwa [List.drop_drop] at this
   refine qAI hx hg ?_ (jJ hgd hg.asy hgn h2.asy) I S RE hDz hD T t0 hf hit hv hsz hR;intro pins s σ H b r st st' l accV QF E I S RE hDz hD hv hsz q;have hv:(g2.fi r st).bind (fun w s=>QI w.G (Qk g2 (wB gs f) r) w.l s) = .ok l st':=hv;cases ef:g2.fi r st with
   |no=>rw [ef] at hv;cases hv
   |ex x s1=>rw [ef] at hv;cases hv
   |ok w2 s1 =>
    rw [ef] at hv;have hv:QI w2.G (Qk g2 (wB gs f) r) w2.l s1 = .ok l st':=hv;have hi:=h2.it pins s σ H (fun J H' => ∃ b',Ext H b H' b'∧SR X.K H' b' s1∧jB X.K H' b' J w2) I ⟨b,r,st,S,RE,by rw [ef];exact fun J H' b' e' S' i'=>⟨b',e',S',i'⟩⟩
    refine AA (Bc hi (fun u s2 hq => ?_) fun e' s' z=>(hx e' s' z).elim);refine AA (Cd (AA (Ao (h2.fold u) (AA (Ap (Bc hq (fun itv s3 hq3 => ?_) fun e' s' z=>(hx e' s' z).elim))))));obtain ⟨it2,fp2,tn2,J2,H3,rfl,I3,T2,t2,f2,b3,e3,S3,i3⟩:=hq3;have hz3:D∈b3.z:=by rw [e3.same];exact hDz
    have hD3:=e3.hid _ _ hDz hD;refine AA (wpAny_runOwn ?_);have loop:=ih cs (d + 1) c2 g2 hdr2 h2.toGOk hr2 pins s3 σ H3 b3 r s1 st' it2 fp2 tn2 J2 w2 accV l (fun r s'=>match r with
     | .ok f=>wpAny (model X.prog X.w) X.A (again (.compLoop (.ListComp elt gens scope pos) d (.ref it) (.ref D) X.env)) QF E s'
     | .error e=>cameBackBy (model X.prog X.w) X.A X.env E e s') I3 S3 (RE.ext e3) hz3 hD3 T2 t2 f2 i3 hv hsz
     fun s' σ' H' b' lV I' e' S' R' hD' r'=>AF (q s' σ' H' b' lV I' ((DE.of e3).trans e') S' R' hD' r')
    exact yP hgn h2.asy loop (T2.self X.A 0 s3 _ _ t2 loop)
theorem qEk {M:Model} {A:Around} {E:Value->Shared->Prop} {s:Shared} {scope:Scope} {env:Env} {cl:List (Str×Addr)} {Q:Env->Shared->Prop}
  (h:Q { scope:=scope,locals:=s.heap.objs.size,globals:=env.globals,cells:=cellsFrom (s.heap.objs.size + 1) scope.names cl,qual:=env.qual,func:=none,code:=env.code,frame:=env.frame,builtins:=env.builtins } { s with heap:=pushCells (s.heap.push { cls := .type "dict",data := .dict #[] }) scope.names }) :
  wpAny M A (newFunctionEnv scope env.globals cl [] env.qual none .none (some env)) Q E s:=by
 simp only [newFunctionEnv,Option.isSome_some,CN];refine AA (wpAny_alloc ?_);refine AA (wpAny_layCells _ (fun name kind cells=>by cases hkc:kind==NameKind.cell <;> simp [hkc]) _ _ _ _ ?_)
 rw [show ({ s with heap:=s.heap.push { cls := .type "dict",data := .dict #[] } }:Shared).heap.objs.size=s.heap.objs.size + 1 from B1 ..];exact AA (AF (AF h))
def Wd (caps:List Nat) (n:Nat) (r:qv):qv:=(caps.map fun j=>(r[j]?).join)++List.replicate n none
noncomputable def qx (caps:List Nat) (n:Nat) (fi:FI) (g:FG) (ts:List FT) (gs:List GenF) (f:FE):FL:=fun r st=>(fi r st).bind fun w s=>match QI w.G (Qk ⟨fi,g,ts⟩ (wB gs f) (Wd caps n r)) w.l s with
 | .ok l s'=>if l.length≤sizeLine then .ok l s' else .no
 |_ => .no
theorem qFQ {K:W.Frag} {H:Hp} {b:Bz} {r:qv} {σ:L2.St} {caps:List Nat} {n:Nat} (R:REnv K H b r σ):REnv K H b (Wd caps n r) ((caps.map fun j=>(σ[j]?).join)++List.replicate n none):=by
 refine ⟨by simp [Wd],fun i p e => ?_⟩
 unfold Wd at e;by_cases hi:i < caps.length
 ·rw [Af (by simpa using hi),A1] at e
  rw [Af (by simpa using hi),A1]
  cases ej:caps[i]? with
  |none=>rw [ej] at e;cases e
  |some j =>
   rw [ej] at e;have e':(r[j]?).join=some p:=Ai e;have e2:r[j]? = some (some p):=by
    cases q:r[j]? with
    |none=>rw [q] at e';cases e'
    |some o=>rw [q] at e';exact CU some e'
   obtain ⟨v,h1,h2⟩:=R.2 j p e2;refine ⟨v,?_,h2⟩;show some (σ[j]?).join=some (some v);rw [h1];rfl
 ·rw [Av (by simpa using hi),Bh] at e
  split at e <;> cases e
theorem qC8 {K:W.Frag} {H:Hp} {b:Bz} {J:It} {w:ItP} {D:Addr} {o:HO} (h:jB K H b J w) (hD:H D=none):jB K (upd H D o) ⟨b.b,D::b.z⟩ J w:=fun H1 b1 st1 e S g=>h H1 b1 st1 ((WE.hide hD).trans e) S g
theorem QD {X:Cx} {E:XK} {elt:Expr} {c:Comprehension} {cs:List Comprehension} {scope:Scope} {pos:Pos} {capN locN:List Str} {caps:List Nat} {fi:FI} {g:FG} {ts:List FT} {gs:List GenF} {f:FE} (hcs:CSc X scope capN locN caps)
  (hi:VI X E c.target c.iter fi) (sub:∀ s H fp pn,VE (cCx X scope (capN++locN) s H fp pn) E0 elt f∧GOk (cCx X scope (capN++locN) s H fp pn) c ⟨fi,g,ts⟩∧GsOk (cCx X scope (capN++locN) s H fp pn) cs gs)
  (hs:∀ x,foldedSetIterable c.iter X.env x=pure x:=by intro _;rfl):VN X E (.ListComp elt (c::cs) scope pos) (qx caps locN.length fi g ts gs f):=by
 intro pins s σ H Q I hq;obtain ⟨b,r,st,S,RE,P⟩:=hq;have hfree:∀ x∈scope.names,x.2 = .free -> ∃ c,X.env.cells.lookup x.1=some c:=fun x hx hk=>I.ok.has x.1 (hcs.fr x hx hk);obtain ⟨c1,c2,c3,c4⟩:=c;have hasy:c4=0:=(sub s H [] []).2.1.asy;subst hasy;rw [eval_ListComp];refine wpAny_comprehension_free (use:=none) rfl hs (qB1 hfree) hcs.kind (fun x hx hl=>zX hcs.nd (by rw [← hl];exact hx)) ?_
 show wpAny _ _ (eval c2 X.env) _ _ s;unfold qx at P;cases ef:fi r st with
 |no=>rw [ef] at P;exact P.elim
 |ex x s1 =>
  rw [ef] at P;refine thn (hi pins s σ H (fun _ _=>False) I ⟨b,r,st,S,RE,by rw [ef];exact P⟩) fun v s2 h2=>thn h2 fun itv s3 h3 => ?_
  obtain ⟨_,_,_,_,_,_,_,_,_,_,z⟩:=h3;exact z.elim
 |ok w s1 =>
  rw [ef] at P;refine thn (hi pins s σ H (fun J H' => ∃ b',Ext H b H' b'∧SR X.K H' b' s1∧jB X.K H' b' J w) I ⟨b,r,st,S,RE,by rw [ef];exact fun J H' b' e' S' i'=>⟨b',e',S',i'⟩⟩) fun v s2 h2=>thn h2 fun itv s3 h3 => ?_
  obtain ⟨it,fp,tn,J,H2,rfl,I2,T,t2,f2,b2,e2,S2,i2⟩:=h3;have P:PostN X.K E H b (match QI w.G (Qk ⟨fi,g,ts⟩ (wB gs f) (Wd caps locN.length r)) w.l s1 with | .ok l s'=>if l.length≤sizeLine then .ok l s' else .no |_ => .no) Q:=P;cases ev:QI w.G (Qk ⟨fi,g,ts⟩ (wB gs f) (Wd caps locN.length r)) w.l s1 with
  |no=>rw [ev] at P;exact P.elim
  |ex x s4=>rw [ev] at P;exact P.elim
  |ok l st' =>
   rw [ev] at P;have P:PostN X.K E H b (if l.length≤sizeLine then .ok l st' else .no) Q:=P;by_cases hl:l.length≤sizeLine
   ·rw [AH hl] at P;have hfr:H2 s3.heap.objs.size=none:=I2.hok.fresh (AK _);refine wpAny_newList ?_;generalize hs3:({ s3 with heap:=s3.heap.push { cls := .type "list",data := .seq ([]:List Value).toArray } }:Shared)=s3';have I3:L2.Inv X pins σ (upd H2 s3.heap.objs.size (.lst [])) s3':=by rw [← hs3];exact I2.laid (t':=s3.toks) (fun a u e=>AG _ e) (AK _) (show ObjOk X.prog X.w _ _ _ (.lst []) from ⟨A7 _,[],0,.nil,AX _ rfl⟩)
    have k3:∀ a o,s3.heap.get? a=some o->s3'.heap.get? a=some o:=fun a o e=>by rw [← hs3];exact AG _ e
    have hlt:∀ a∈fp,a < s3.heap.objs.size:=fun a ha=>by obtain ⟨o,e,_⟩:=T.obj _ _ t2 a ha;exact AT e
    have f3:∀ a∈fp,YF X pins (upd H2 s3.heap.objs.size (.lst [])) a:=fun a ha=>⟨by rw [qY (Ab (hlt a ha))];exact (f2 a ha).1,(f2 a ha).2⟩
    have hlt3:∀ a∈fp,a < s3'.heap.objs.size:=fun a ha=>by obtain ⟨o,e,_⟩:=T.obj _ _ t2 a ha;exact AT (k3 a o e)
    generalize hD:s3.heap.objs.size=D at I3 f3 hfr;refine qEk ?_;have J0:=qCB hcs I3 f3 hlt3 rfl;obtain ⟨he,hg,hgs⟩:=sub s3' (upd H2 D (.lst [])) fp (X.pn++pins);have k4:∀ a o,s3'.heap.get? a=some o->(pushCells (s3'.heap.push { cls := .type "dict",data := .dict #[] }) scope.names).get? a=some o:=fun a o e=>pushCells_keeps _ _ _ _ (AG _ e);have hDz:D ∉ b2.z:=(S2.new_notin hfr).2;have loop:=qDH (X:=cCx X scope (capN++locN) s3' (upd H2 D (.lst [])) fp (X.pn++pins)) (fun _ _ z=>z) (gens:=⟨c1,c2,c3,0⟩::cs) (scope:=scope) (pos:=pos) (D:=D) he gs cs 0 ⟨c1,c2,c3,0⟩ ⟨fi,g,ts⟩ rfl hg hgs [] _ _ _ ⟨b2.b,D::b2.z⟩ (Wd caps locN.length r) s1 st' it fp tn J w [] l
     (compPost (model X.prog X.w) X.A X.xe none (EP X pins σ Q) (.ref D) s3'.heap.objs.size) J0 (SR.hide S2 hfr) (qFQ ((RE.ext e2).wext (WE.hide hfr))) AI Qr T (T.keep _ _ _ t2 fun a ha o e=>k4 a o (k3 a o e))
     (fun a ha=>⟨(f3 a ha).1,(J0.ok.exf a ha).1,J0.ok.exfs a ha,.inl ha,(J0.ok.exf a ha).2,fun p hp=>(f3 a ha).2.2.2.2.2 p (by simpa [cCx] using hp)⟩) (qC8 i2 hfr) ev (by simpa using hl)
     (fun s' σ' H' b' lV I' e' S' R' hD' r'=>by
      obtain ⟨m,hn,_⟩:=I'.loc;refine ⟨m,hn,fun h'' sb => ?_⟩;have fin:=qEz I3 f3 I' sb;have hz':b'.z=D::b2.z:=e'.same;refine ⟨.ref D,H',fin,rfl,?_⟩;have ex:Ext H2 b2 H' ⟨b'.b,b2.z⟩:=by
       refine ⟨⟨?_,⟨[],rfl,by simp⟩,fun a o ha ho => ?_,fun a o ha => ?_⟩,rfl,fun a o hz ha => ?_,fun a o u ha=>e'.fz a o u (qV ha hfr) (by rw [qY (qV ha hfr)];exact ha)⟩
       ·obtain ⟨n,hb,hh⟩:=e'.more;exact ⟨n,hb,fun a ha=>by
         have:=hh a ha
         by_cases q:a=D
         ·rw [q];exact hfr
         ·rwa [qY q] at this⟩
       ·have hne:a≠D:=qV ha hfr;exact e'.keep a o (by rw [qY hne];exact ha) ⟨ho.1,fun z=>(AE.mp z).elim hne ho.2⟩
       ·have hne:a≠D:=qV ha hfr;exact e'.dom a o (by rw [qY hne];exact ha)
       ·have hne:a≠D:=qV ha hfr;exact e'.hid a o (AD _ hz) hne (by rw [qY hne];exact ha)
      have hb':(⟨b'.b,D::b2.z⟩:Bz)=b':=by rw [← hz']
      refine P D lV H' ⟨b'.b,b2.z⟩ (e2.trans ex) (e2.none_of hfr) (by simpa using hD') hDz ?_ ?_
      ·show SR X.K H' ⟨b'.b,D::b2.z⟩ st';rw [hb'];exact S'
      ·show RVs X.K H' ⟨b'.b,D::b2.z⟩ l lV;rw [hb'];exact r')
    exact yP rfl rfl loop (T.self X.A 0 _ _ _ (T.keep _ _ _ t2 fun a ha o e=>k4 a o (k3 a o e)) loop)
   ·rw [AJ hl] at P;exact P.elim
def Qh (n:Nat) (l:List PV):qv:=l.map some++List.replicate (n - l.length) none
def qGt:RS->Rs PV
 | .nx _ st => .ok .non st
 | .rt v st => .ok v st
 | .ex x st => .ex x st
 |_ => .no
def Refn (n:Nat) (r r':Rs PV):Prop := ∀ (K:W.Frag) (E:XK) (H:Hp) (b:Bz) (Q:VK),b.b.length=n->PostE K E H b r' Q->PostE K E H b r Q
theorem Refn.refl {n:Nat} {r:Rs PV}:Refn n r r:=fun _ _ _ _ _ _ h=>h
theorem REnv.init {K:W.Frag} {H:Hp} {b:Bz} {N:List Str} {l:List PV} {vs:List V} (h:RVs K H b l vs):REnv K H b (Qh N.length l) (start N vs):=by
 have hl:=h.length;refine ⟨by simp [Qh,L2.start,hl],fun i p e => ?_⟩
 unfold Qh at e;unfold L2.start;by_cases hi:i < l.length
 ·rw [Af (by simpa using hi),A1] at e
  rw [Af (by simpa [← hl] using hi),A1]
  cases q:l[i]? with
  |none=>rw [q] at e;cases e
  |some p' =>rw [q] at e;cases e;obtain ⟨v,h1,h2⟩:=h.get q;exact ⟨v,by rw [h1];rfl,h2⟩
 ·rw [Av (by simpa using hi),Bh] at e
  split at e <;> cases e
section
variable {P:Program} {w:World} {K:W.Frag} {mg:Str->Option Value} {base:Heap}
theorem okV {CX:CXT} {x qual:Str} {st:Stmt} {f:Addr} {fd:FuncData} {N ps:List Str} {k:Nat} {g:List PV->qC->Rs PV} (F:Fun K x qual st f fd) (S:FnScope N ps (qH st))
  (body:∀ (cdv:Value) (A:Around) (outer:List Env) (s:Shared) (H:Hp) (E:XK),Room k (A.deeper (envOfC qual (qH st) s.heap.objs.size f cdv))->(0 < k->A.handled=none) ->
   ∃ B:FS,VSs (Q7 CX P w K mg base N qual (qH st) f cdv A outer s H E) E (qU st) B ∧ ∀ l s0,l.length=ps.length->g l s0 ≠ .no->Refn s0.length (qGt (B (Qh N.length l) s0)) (g l s0)):FnOk P w K mg base CX (k + 1) f fd ps (spG K ps.length g):=by
 obtain ⟨oc,od,kV,doc,pm,an,cdv,ct,osl,rfl,lk,hcd⟩:=F.ex;refine qKG lk hcd S (fun vs H Q E h=>h.1) fun A outer s H vs Q E hr hcm hsp => ?_;obtain ⟨B,hB,hg⟩:=body cdv A outer s H E hr hcm;obtain ⟨hl,b,l,st0,S0,r0,P0⟩:=hsp;refine ⟨_,hB,b,Qh N.length l,st0,S0,REnv.init r0,?_⟩;have hne:g l st0 ≠ .no:=fun z=>by rw [z] at P0;exact P0
 have P1:=hg l st0 (by rw [r0.length];exact hl) hne K E H b Q S0.len P0
 cases e:B (Qh N.length l) st0 with
 |nx r st=>rw [e] at P1;exact fun s H' b' e' S' R'=>P1 .non H' b' e' S' (by unfold RV;rfl)
 |rt v st=>rw [e] at P1;exact P1
 |bk r st=>rw [e] at P1;exact P1.elim
 |ct r st=>rw [e] at P1;exact P1.elim
 |ex x st=>rw [e] at P1;exact P1
 |no=>rw [e] at P1;exact P1.elim
end
mutual
def peq:PV->PV->Bool
 | .non,.non=>true
 | .bl a,.bl c=>a==c
 | .int a,.int c=>a==c
 | .bl a,.int c=>(if a then 1 else 0)==c
 | .int a,.bl c=>a==(if c then 1 else 0)
 | .str a,.str c=>a==c
 | .tup l,.tup m=>peqs l m
 | .lst l,.lst m=>peqs l m
 |_,_=>false
def peqs:List PV->List PV->Bool
 |[],[]=>true
 |p::ps,q::qs=>peq p q&&peqs ps qs
 |_,_=>false
end
mutual
def nr:PV->Bool
 | .tup l=>nrs l
 | .lst l=>nrs l
 | .ref _=>false
 | .dct=>false
 | .ty _=>false
 | .fn _=>false
 | .exc _ _=>false
 |_=>true
def nrs:List PV->Bool
 |[]=>true
 |p::ps=>nr p&&nrs ps
end
mutual
def dep:PV->Nat
 | .tup l=>deps l + 1
 | .lst l=>deps l + 1
 |_=>0
def deps:List PV->Nat
 |[]=>0
 |p::ps=>max (dep p) (deps ps)
end
mutual
def RW (K:W.Frag) (H:Hp):PV->V->Prop
 | .non,v=>v = .non
 | .bl x,v=>v = .bl x
 | .int i,v=>v = .int i
 | .str x,v=>v = .str x
 | .tup l,v => ∃ a xs,v = .ref a∧SqT K H a xs∧RWs K H l xs
 | .lst l,v => ∃ a xs,v = .ref a∧SqL K H a xs∧RWs K H l xs
 |_,_=>False
def RWs (K:W.Frag) (H:Hp):List PV->List V->Prop
 |[],xs=>xs=[]
 |p::ps,xs => ∃ x r,xs=x::r∧RW K H p x∧RWs K H ps r
end
mutual
theorem RV.rw {K:W.Frag} {H:Hp} {b:Bz}:∀ (p:PV) {v:V},nr p=true->RV K H b p v->RW K H p v
 | .non,_,_,h=>by unfold RV at h;unfold RW;exact h
 | .bl _,_,_,h=>by unfold RV at h;unfold RW;exact h
 | .int _,_,_,h=>by unfold RV at h;unfold RW;exact h
 | .str _,_,_,h=>by unfold RV at h;unfold RW;exact h
 | .tup l,_,n,h=>by unfold RV at h;unfold RW;unfold nr at n;obtain ⟨a,xs,h1,h2,h3⟩:=h;exact ⟨a,xs,h1,h2.sq,RVs.rws l n h3⟩
 | .lst l,_,n,h=>by unfold RV at h;unfold RW;unfold nr at n;obtain ⟨a,xs,h1,h2,h3⟩:=h;exact ⟨a,xs,h1,h2.sq,RVs.rws l n h3⟩
 | .ref _,_,n,_=>by unfold nr at n;cases n
 | .dct,_,n,_=>by unfold nr at n;cases n
 | .ty _,_,n,_=>by unfold nr at n;cases n
 | .fn _,_,n,_=>by unfold nr at n;cases n
 | .exc _ _,_,n,_=>by unfold nr at n;cases n
theorem RVs.rws {K:W.Frag} {H:Hp} {b:Bz}:∀ (l:List PV) {xs:List V},nrs l=true->RVs K H b l xs->RWs K H l xs
 |[],_,_,h=>by unfold RVs at h;unfold RWs;exact h
 |p::ps,_,n,h=>by unfold RVs at h;unfold RWs;unfold nrs at n;rw [AZ] at n;obtain ⟨x,r,h1,h2,h3⟩:=h;exact ⟨x,r,h1,RV.rw p n.1 h2,RVs.rws ps n.2 h3⟩
end
theorem RWs.length {K:W.Frag} {H:Hp}:∀ {l:List PV} {xs:List V},RWs K H l xs->l.length=xs.length
 |[],_,h=>by unfold RWs at h;rw [h];rfl
 |p::ps,_,h=>by unfold RWs at h;obtain ⟨x,r,rfl,_,h3⟩:=h;rw [AM,AM,RWs.length h3]
section
variable {X:Cx} {pins:List (Addr×Obj)} {σ:L2.St} {H:Hp} {s:Shared}
theorem Z9 (I:L2.Inv X pins σ H s) {a:Addr} {xs ys:List V} (h1:SqL X.K H a xs) (h2:SqT X.K H a ys):False:=by obtain ⟨its,_,p,_⟩:=I.list h1;obtain ⟨its',_,q,_⟩:=I.tuple h2;obtain ⟨o,ho,hc,n,hd⟩:=p.isList;obtain ⟨o',ho',hc',_⟩:=q;rw [ho] at ho';cases ho';rw [hc] at hc';injection hc' with z;exact absurd z (by decide)
mutual
theorem RW.same (I:L2.Inv X pins σ H s):∀ (p q:PV) {v:V},RW X.K H p v->RW X.K H q v->peq p q=true
 | .non,q,v,h,g=>by unfold RW at h;subst h;cases q <;> unfold RW at g <;> first |rfl |exact (g:False).elim |(obtain ⟨_,_,e,_⟩:=g;cases e) |cases g
 | .bl x,q,v,h,g=>by unfold RW at h;subst h;cases q <;> unfold RW at g <;> first |(obtain ⟨_,_,e,_⟩:=g;cases e) |(cases g;simp [peq];done) |exact (g:False).elim |cases g
 | .int x,q,v,h,g=>by unfold RW at h;subst h;cases q <;> unfold RW at g <;> first |(obtain ⟨_,_,e,_⟩:=g;cases e) |(cases g;simp [peq];done) |exact (g:False).elim |cases g
 | .str x,q,v,h,g=>by unfold RW at h;subst h;cases q <;> unfold RW at g <;> first |(obtain ⟨_,_,e,_⟩:=g;cases e) |(cases g;simp [peq];done) |exact (g:False).elim |cases g
 | .tup l,q,v,h,g=>by
  unfold RW at h;obtain ⟨a,xs,rfl,h2,h3⟩:=h;cases q with
  |tup m =>
   unfold RW at g;obtain ⟨a',ys,e,g2,g3⟩:=g;cases e
   have:=I.tuple_inj h2 g2
   subst this;unfold peq;exact RWs.same I l m h3 g3
  |lst m =>unfold RW at g;obtain ⟨a',ys,e,g2,g3⟩:=g;cases e;exact (Z9 I g2 h2).elim
  |ref _=>unfold RW at g;exact g.elim
  |dct=>unfold RW at g;exact g.elim
  |ty _=>unfold RW at g;exact g.elim
  |fn _=>unfold RW at g;exact g.elim
  |exc _ _=>unfold RW at g;exact g.elim
  |non=>unfold RW at g;cases g
  |bl _=>unfold RW at g;cases g
  |int _=>unfold RW at g;cases g
  |str _=>unfold RW at g;cases g
 | .lst l,q,v,h,g=>by
  unfold RW at h;obtain ⟨a,xs,rfl,h2,h3⟩:=h;cases q with
  |lst m =>
   unfold RW at g;obtain ⟨a',ys,e,g2,g3⟩:=g;cases e
   have:=I.list_inj h2 g2
   subst this;unfold peq;exact RWs.same I l m h3 g3
  |tup m =>unfold RW at g;obtain ⟨a',ys,e,g2,g3⟩:=g;cases e;exact (Z9 I h2 g2).elim
  |ref _=>unfold RW at g;exact g.elim
  |dct=>unfold RW at g;exact g.elim
  |ty _=>unfold RW at g;exact g.elim
  |fn _=>unfold RW at g;exact g.elim
  |exc _ _=>unfold RW at g;exact g.elim
  |non=>unfold RW at g;cases g
  |bl _=>unfold RW at g;cases g
  |int _=>unfold RW at g;cases g
  |str _=>unfold RW at g;cases g
 | .ref _,_,_,h,_=>by unfold RW at h;exact h.elim
 | .dct,_,_,h,_=>by unfold RW at h;exact h.elim
 | .ty _,_,_,h,_=>by unfold RW at h;exact h.elim
 | .fn _,_,_,h,_=>by unfold RW at h;exact h.elim
 | .exc _ _,_,_,h,_=>by unfold RW at h;exact h.elim
theorem RWs.same (I:L2.Inv X pins σ H s):∀ (l m:List PV) {xs:List V},RWs X.K H l xs->RWs X.K H m xs->peqs l m=true
 |[],m,xs,h,g=>by
  unfold RWs at h;subst h;cases m with
  |nil=>rfl
  |cons _ _=>unfold RWs at g;obtain ⟨_,_,e,_⟩:=g;cases e
 |p::ps,m,xs,h,g=>by
  unfold RWs at h;obtain ⟨x,r,rfl,h2,h3⟩:=h;cases m with
  |nil=>unfold RWs at g;cases g
  |cons q qs =>unfold RWs at g;obtain ⟨y,t,e,g2,g3⟩:=g;cases e;unfold peqs;rw [RW.same I p q h2 g2,RWs.same I ps qs h3 g3];rfl
end
def eqN (l m:List PV) (j:Nat):Bool:=match l[j]?,m[j]? with
 |some p,some q=>peq p q
 |_,_=>false
theorem za:∀ (l m:List PV),l.length=m.length->(List.range l.length).all (eqN l m)=peqs l m
 |[],[],_=>rfl
 |p::ps,q::qs,h=>by
  have ih:=za ps qs (by simpa using h)
  rw [AM,List.range_succ_eq_map,CL,List.all_map];unfold peqs;have e0:eqN (p::ps) (q::qs) 0=peq p q:=rfl;have e1:(eqN (p::ps) (q::qs) ∘ Nat.succ)=eqN ps qs:=by funext j;rfl
  rw [e0,e1,ih]
 |[],_::_,h=>by simp at h
 |_::_,[],h=>by simp at h
theorem Wq:∀ (l m:List PV),l.length≠m.length->peqs l m=false
 |[],[],h=>absurd rfl h
 |[],_::_,_=>rfl
 |_::_,[],_=>rfl
 |p::ps,q::qs,h=>by unfold peqs;rw [Wq ps qs (by intro z;apply h;rw [AM,AM,z]),BK]
theorem RWs.get' {K:W.Frag} {H:Hp}:∀ {l:List PV} {xs:List V} {i:Nat} {x:V},RWs K H l xs->xs[i]? = some x -> ∃ p,l[i]? = some p∧RW K H p x
 |[],_,_,_,h,e=>by unfold RWs at h;subst h;simp at e
 |p::ps,_,0,x,h,e=>by unfold RWs at h;obtain ⟨y,r,rfl,h2,h3⟩:=h;simp at e;subst e;exact ⟨p,rfl,h2⟩
 |p::ps,_,i + 1,x,h,e=>by
  unfold RWs at h;obtain ⟨y,r,rfl,h2,h3⟩:=h;obtain ⟨q,e1,e2⟩:=RWs.get' (i:=i) h3 (by simpa using e)
  exact ⟨q,by simpa using e1,e2⟩
theorem Vals.get2:∀ {xs:List V} {us:List Value} {i:Nat} {u:Value},Vals xs us->us[i]? = some u -> ∃ x,xs[i]? = some x∧RelV x u
 |_,_,_,_,.nil,e=>by simp at e
 |_,_,0,_,.cons r _,e=>by simp at e;subst e;exact ⟨_,rfl,r⟩
 |_,_,i + 1,u,.cons _ t,e=>by
  obtain ⟨x,h1,h2⟩:=Vals.get2 (i:=i) (u:=u) t (by simpa using e)
  exact ⟨x,by simpa using h1,h2⟩
theorem wE (I:L2.Inv X pins σ H s) (p q:PV) {v u:V} {uv uu:Value} {A:Around} (hd:dep p=0) (hu':A.units < cLine) (hp:RW X.K H p v) (hq:RW X.K H q u) (rv:RelV v uv) (ru:RelV u uu):SeqAt.EqAt A s uv uu (peq p q):=by
 cases p with
 |tup l=>unfold dep at hd;omega
 |lst l=>unfold dep at hd;omega
 |ref _=>unfold RW at hp;exact hp.elim
 |dct=>unfold RW at hp;exact hp.elim
 |ty _=>unfold RW at hp;exact hp.elim
 |fn _=>unfold RW at hp;exact hp.elim
 |exc _ _=>unfold RW at hp;exact hp.elim
 |non =>
  unfold RW at hp;subst hp;cases rv;cases q with
  |non=>unfold RW at hq;subst hq;cases ru;exact SeqAt.EqAt.same _
  |bl _=>unfold RW at hq;subst hq;cases ru;exact SeqAt.EqAt.none_bool _
  |int _=>unfold RW at hq;subst hq;obtain ⟨t,rfl⟩:=ru;exact SeqAt.EqAt.none_int _ _
  |str _=>unfold RW at hq;subst hq;obtain ⟨t,rfl⟩:=ru;exact SeqAt.EqAt.none_str _ _
  |tup _=>unfold RW at hq;obtain ⟨a,xs,rfl,h2,_⟩:=hq;cases ru;obtain ⟨its,_,t,_⟩:=I.tuple h2;exact SeqAt.EqAt.none_tuple t hu'
  |lst _=>unfold RW at hq;obtain ⟨a,xs,rfl,h2,_⟩:=hq;cases ru;obtain ⟨its,_,t,_⟩:=I.list h2;exact SeqAt.EqAt.none_list t.isList hu'
  |ref _=>unfold RW at hq;exact hq.elim
  |dct=>unfold RW at hq;exact hq.elim
  |ty _=>unfold RW at hq;exact hq.elim
  |fn _=>unfold RW at hq;exact hq.elim
  |exc _ _=>unfold RW at hq;exact hq.elim
 |bl x =>
  unfold RW at hp;subst hp;cases rv;cases q with
  |non=>unfold RW at hq;subst hq;cases ru;exact SeqAt.EqAt.bool_none _
  |bl _=>unfold RW at hq;subst hq;cases ru;exact SeqAt.EqAt.bool_bool _ _
  |int _=>unfold RW at hq;subst hq;obtain ⟨t,rfl⟩:=ru;exact SeqAt.EqAt.bool_int _ _ _
  |str _=>unfold RW at hq;subst hq;obtain ⟨t,rfl⟩:=ru;exact SeqAt.EqAt.bool_str _ _ _
  |tup _=>unfold RW at hq;obtain ⟨a,xs,rfl,h2,_⟩:=hq;cases ru;obtain ⟨its,_,t,_⟩:=I.tuple h2;exact SeqAt.EqAt.bool_tuple _ t hu'
  |lst _=>unfold RW at hq;obtain ⟨a,xs,rfl,h2,_⟩:=hq;cases ru;obtain ⟨its,_,t,_⟩:=I.list h2;exact SeqAt.EqAt.bool_list _ t.isList hu'
  |ref _=>unfold RW at hq;exact hq.elim
  |dct=>unfold RW at hq;exact hq.elim
  |ty _=>unfold RW at hq;exact hq.elim
  |fn _=>unfold RW at hq;exact hq.elim
  |exc _ _=>unfold RW at hq;exact hq.elim
 |int x =>
  unfold RW at hp;subst hp;obtain ⟨t0,rfl⟩:=rv;cases q with
  |non=>unfold RW at hq;subst hq;cases ru;exact SeqAt.EqAt.int_none _ _
  |bl _=>unfold RW at hq;subst hq;cases ru;exact SeqAt.EqAt.int_bool _ _ _
  |int _=>unfold RW at hq;subst hq;obtain ⟨t,rfl⟩:=ru;exact SeqAt.EqAt.int_int _ _ _ _
  |str _=>unfold RW at hq;subst hq;obtain ⟨t,rfl⟩:=ru;exact SeqAt.EqAt.int_str _ _ _ _
  |tup _=>unfold RW at hq;obtain ⟨a,xs,rfl,h2,_⟩:=hq;cases ru;obtain ⟨its,_,t,_⟩:=I.tuple h2;exact SeqAt.EqAt.int_tuple _ _ t hu'
  |lst _=>unfold RW at hq;obtain ⟨a,xs,rfl,h2,_⟩:=hq;cases ru;obtain ⟨its,_,t,_⟩:=I.list h2;exact SeqAt.EqAt.int_list _ _ t.isList hu'
  |ref _=>unfold RW at hq;exact hq.elim
  |dct=>unfold RW at hq;exact hq.elim
  |ty _=>unfold RW at hq;exact hq.elim
  |fn _=>unfold RW at hq;exact hq.elim
  |exc _ _=>unfold RW at hq;exact hq.elim
 |str x =>
  unfold RW at hp;subst hp;obtain ⟨t0,rfl⟩:=rv;cases q with
  |non=>unfold RW at hq;subst hq;cases ru;exact SeqAt.EqAt.str_none _ _
  |bl _=>unfold RW at hq;subst hq;cases ru;exact SeqAt.EqAt.str_bool _ _ _
  |int _=>unfold RW at hq;subst hq;obtain ⟨t,rfl⟩:=ru;exact SeqAt.EqAt.str_int _ _ _ _
  |str _=>unfold RW at hq;subst hq;obtain ⟨t,rfl⟩:=ru;exact SeqAt.EqAt.str_str _ _ _ _
  |tup _=>unfold RW at hq;obtain ⟨a,xs,rfl,h2,_⟩:=hq;cases ru;obtain ⟨its,_,t,_⟩:=I.tuple h2;exact SeqAt.EqAt.str_tuple _ _ t hu'
  |lst _=>unfold RW at hq;obtain ⟨a,xs,rfl,h2,_⟩:=hq;cases ru;obtain ⟨its,_,t,_⟩:=I.list h2;exact SeqAt.EqAt.str_list _ _ t.isList hu'
  |ref _=>unfold RW at hq;exact hq.elim
  |dct=>unfold RW at hq;exact hq.elim
  |ty _=>unfold RW at hq;exact hq.elim
  |fn _=>unfold RW at hq;exact hq.elim
  |exc _ _=>unfold RW at hq;exact hq.elim
theorem zG:∀ {l:List PV} {i:Nat} {p:PV},l[i]? = some p->dep p≤deps l
 |[],_,_,h=>by simp at h
 |q::qs,0,p,h=>by simp at h;subst h;unfold deps;exact Nat.le_max_left _ _
 |q::qs,i + 1,p,h=>by unfold deps;exact Ae (zG (l:=qs) (i:=i) (by simpa using h)) (Nat.le_max_right _ _)
theorem qA4 (I:L2.Inv X pins σ H s):∀ (n:Nat) (p q:PV) (v u:V) (uv uu:Value) (A:Around),dep p≤n->A.units + n < cLine->RW X.K H p v->RW X.K H q u->RelV v uv->RelV u uu->SeqAt.EqAt A s uv uu (peq p q):=by
 intro n;induction n with
 |zero=>intro p q v u uv uu A hd hu hp hq rv ru;exact wE I p q (Nat.le_zero.mp hd) hu hp hq rv ru
 |succ n ih =>
  intro p q v u uv uu A hd hu hp hq rv ru;have hu':A.units < cLine:=Ba (Nat.le_add_right _ _) hu;have hin:A.in1.units + n < cLine:=by show A.units + 1 + n < cLine;omega
  have elt:∀ {l m:List PV} {xs ys:List V} {its its2:List Value},deps l≤n->RWs X.K H l xs->RWs X.K H m ys->Vals xs its->Vals ys its2 -> ∀ j (h1:j < its.toArray.size) (h2:j < its2.toArray.size),SeqAt.EqAt A.in1 s its.toArray[j] its2.toArray[j] (eqN l m j):=fun {l m xs ys its its2} hdl hl hm vl vm j h1 h2=>by
   have e1:its[j]? = some its.toArray[j]:=by simp
   have e2:its2[j]? = some its2.toArray[j]:=by simp
   obtain ⟨x,hx,rx⟩:=Vals.get2 vl e1;obtain ⟨y,hy,ry⟩:=Vals.get2 vm e2;obtain ⟨p',hp',rp'⟩:=RWs.get' hl hx;obtain ⟨q',hq',rq'⟩:=RWs.get' hm hy
   have:eqN l m j=peq p' q':=by unfold eqN;rw [hp',hq']
   rw [this];exact ih p' q' x y _ _ A.in1 (Ae (zG hp') hdl) hin rp' rq' rx ry
  cases p with
  |tup l =>
   have hp0:=hp;unfold RW at hp;unfold dep at hd;obtain ⟨a,xs,rfl,h2,h3⟩:=hp;cases rv;obtain ⟨its,vl,tl,_⟩:=I.tuple h2;cases q with
   |non=>unfold RW at hq;subst hq;cases ru;exact SeqAt.EqAt.tuple_none tl hu'
   |bl _=>unfold RW at hq;subst hq;cases ru;exact SeqAt.EqAt.tuple_bool _ tl hu'
   |int _=>unfold RW at hq;subst hq;obtain ⟨t,rfl⟩:=ru;exact SeqAt.EqAt.tuple_int _ _ tl hu'
   |str _=>unfold RW at hq;subst hq;obtain ⟨t,rfl⟩:=ru;exact SeqAt.EqAt.tuple_str _ _ tl hu'
   |lst _=>unfold RW at hq;obtain ⟨a,xs,rfl,h2,_⟩:=hq;cases ru;obtain ⟨its,_,t,_⟩:=I.list h2;exact SeqAt.EqAt.tuple_list tl t.isList hu'
   |ref _=>unfold RW at hq;exact hq.elim
   |dct=>unfold RW at hq;exact hq.elim
   |ty _=>unfold RW at hq;exact hq.elim
   |fn _=>unfold RW at hq;exact hq.elim
   |exc _ _=>unfold RW at hq;exact hq.elim
   |tup m =>
    have hq0:=hq;unfold RW at hq;obtain ⟨a2,ys,rfl,g2,g3⟩:=hq;cases ru;obtain ⟨its2,vm,tm,_⟩:=I.tuple g2;by_cases ha:a=a2
    ·subst ha;rw [RW.same I _ _ hp0 hq0];exact SeqAt.EqAt.same _
    ·refine SeqAt.EqAt.of_refs ha ?_;have rc:=SeqAt.RcAt.tuples (e:=eqN l m) tl tm hu' (elt (by omega) h3 g3 vl vm)
     have hl1:its.toArray.size=l.length:=by rw [AO,← vl.length,h3.length]
     have hl2:its2.toArray.size=m.length:=by rw [AO,← vm.length,g3.length]
     rw [hl1,hl2] at rc;have e:((List.range (min l.length m.length)).all (eqN l m)&&l.length==m.length)=peq (.tup l) (.tup m):=by
      unfold peq;by_cases hlm:l.length=m.length
      ·rw [← hlm,Nat.min_self,za l m hlm,As,Bf]
      ·rw [Wq l m hlm,Bq hlm,BK]
     rw [e] at rc;exact rc
  |lst l =>
   have hp0:=hp;unfold RW at hp;unfold dep at hd;obtain ⟨a,xs,rfl,h2,h3⟩:=hp;cases rv;obtain ⟨its,vl,tl',_⟩:=I.list h2;have tl:=tl'.isList;cases q with
   |non=>unfold RW at hq;subst hq;cases ru;exact SeqAt.EqAt.list_none tl hu'
   |bl _=>unfold RW at hq;subst hq;cases ru;exact SeqAt.EqAt.list_bool _ tl hu'
   |int _=>unfold RW at hq;subst hq;obtain ⟨t,rfl⟩:=ru;exact SeqAt.EqAt.list_int _ _ tl hu'
   |str _=>unfold RW at hq;subst hq;obtain ⟨t,rfl⟩:=ru;exact SeqAt.EqAt.list_str _ _ tl hu'
   |tup _=>unfold RW at hq;obtain ⟨a,xs,rfl,h2,_⟩:=hq;cases ru;obtain ⟨its,_,t,_⟩:=I.tuple h2;exact SeqAt.EqAt.list_tuple tl t hu'
   |ref _=>unfold RW at hq;exact hq.elim
   |dct=>unfold RW at hq;exact hq.elim
   |ty _=>unfold RW at hq;exact hq.elim
   |fn _=>unfold RW at hq;exact hq.elim
   |exc _ _=>unfold RW at hq;exact hq.elim
   |lst m =>
    have hq0:=hq;unfold RW at hq;obtain ⟨a2,ys,rfl,g2,g3⟩:=hq;cases ru;obtain ⟨its2,vm,tm',_⟩:=I.list g2;have tm:=tm'.isList;by_cases ha:a=a2
    ·subst ha;rw [RW.same I _ _ hp0 hq0];exact SeqAt.EqAt.same _
    ·refine SeqAt.EqAt.of_refs ha ?_;have hl1:its.toArray.size=l.length:=by rw [AO,← vl.length,h3.length]
     have hl2:its2.toArray.size=m.length:=by rw [AO,← vm.length,g3.length]
     unfold peq;by_cases hlm:l.length=m.length
     ·have rc:=SeqAt.RcAt.lists (e:=eqN l m) tl tm (by rw [hl1,hl2,hlm]) hu' (elt (by omega) h3 g3 vl vm)
      rw [hl1,za l m hlm] at rc;exact rc
     ·rw [Wq l m hlm];exact SeqAt.RcAt.lists_lengths tl tm (by rw [hl1,hl2];exact bne_iff_ne.mpr hlm) hu'
  |non=>exact wE I _ q rfl hu' hp hq rv ru
  |bl _=>exact wE I _ q rfl hu' hp hq rv ru
  |int _=>exact wE I _ q rfl hu' hp hq rv ru
  |str _=>exact wE I _ q rfl hu' hp hq rv ru
  |ref _=>exact wE I _ q rfl hu' hp hq rv ru
  |dct=>exact wE I _ q rfl hu' hp hq rv ru
  |ty _=>exact wE I _ q rfl hu' hp hq rv ru
  |fn _=>exact wE I _ q rfl hu' hp hq rv ru
  |exc _ _=>exact wE I _ q rfl hu' hp hq rv ru
end
section
variable {X:Cx} {pins:List (Addr×Obj)} {σ:L2.St} {H:Hp} {s:Shared}
mutual
theorem RW.det (I:L2.Inv X pins σ H s):∀ (p q:PV) {v:V},RW X.K H p v->RW X.K H q v->p=q
 | .non,q,v,h,g=>by unfold RW at h;subst h;cases q <;> unfold RW at g <;> first |rfl |exact (g:False).elim |(obtain ⟨_,_,e,_⟩:=g;cases e) |cases g
 | .bl x,q,v,h,g=>by unfold RW at h;subst h;cases q <;> unfold RW at g <;> first |(obtain ⟨_,_,e,_⟩:=g;cases e) |(cases g;rfl) |exact (g:False).elim |cases g
 | .int x,q,v,h,g=>by unfold RW at h;subst h;cases q <;> unfold RW at g <;> first |(obtain ⟨_,_,e,_⟩:=g;cases e) |(cases g;rfl) |exact (g:False).elim |cases g
 | .str x,q,v,h,g=>by unfold RW at h;subst h;cases q <;> unfold RW at g <;> first |(obtain ⟨_,_,e,_⟩:=g;cases e) |(cases g;rfl) |exact (g:False).elim |cases g
 | .tup l,q,v,h,g=>by
  unfold RW at h;obtain ⟨a,xs,rfl,h2,h3⟩:=h;cases q with
  |tup m =>
   unfold RW at g;obtain ⟨a',ys,e,g2,g3⟩:=g;cases e
   have:=I.tuple_inj h2 g2
   subst this;rw [RWs.det I l m h3 g3]
  |lst m =>unfold RW at g;obtain ⟨a',ys,e,g2,g3⟩:=g;cases e;exact (Z9 I g2 h2).elim
  |ref _=>unfold RW at g;exact g.elim
  |dct=>unfold RW at g;exact g.elim
  |ty _=>unfold RW at g;exact g.elim
  |fn _=>unfold RW at g;exact g.elim
  |exc _ _=>unfold RW at g;exact g.elim
  |non=>unfold RW at g;cases g
  |bl _=>unfold RW at g;cases g
  |int _=>unfold RW at g;cases g
  |str _=>unfold RW at g;cases g
 | .lst l,q,v,h,g=>by
  unfold RW at h;obtain ⟨a,xs,rfl,h2,h3⟩:=h;cases q with
  |lst m =>
   unfold RW at g;obtain ⟨a',ys,e,g2,g3⟩:=g;cases e
   have:=I.list_inj h2 g2
   subst this;rw [RWs.det I l m h3 g3]
  |tup m =>unfold RW at g;obtain ⟨a',ys,e,g2,g3⟩:=g;cases e;exact (Z9 I h2 g2).elim
  |ref _=>unfold RW at g;exact g.elim
  |dct=>unfold RW at g;exact g.elim
  |ty _=>unfold RW at g;exact g.elim
  |fn _=>unfold RW at g;exact g.elim
  |exc _ _=>unfold RW at g;exact g.elim
  |non=>unfold RW at g;cases g
  |bl _=>unfold RW at g;cases g
  |int _=>unfold RW at g;cases g
  |str _=>unfold RW at g;cases g
 | .ref _,_,_,h,_=>by unfold RW at h;exact h.elim
 | .dct,_,_,h,_=>by unfold RW at h;exact h.elim
 | .ty _,_,_,h,_=>by unfold RW at h;exact h.elim
 | .fn _,_,_,h,_=>by unfold RW at h;exact h.elim
 | .exc _ _,_,_,h,_=>by unfold RW at h;exact h.elim
theorem RWs.det (I:L2.Inv X pins σ H s):∀ (l m:List PV) {xs:List V},RWs X.K H l xs->RWs X.K H m xs->l=m
 |[],m,xs,h,g=>by
  unfold RWs at h;subst h;cases m with
  |nil=>rfl
  |cons _ _=>unfold RWs at g;obtain ⟨_,_,e,_⟩:=g;cases e
 |p::ps,m,xs,h,g=>by
  unfold RWs at h;obtain ⟨x,r,rfl,h2,h3⟩:=h;cases m with
  |nil=>unfold RWs at g;cases g
  |cons q qs =>unfold RWs at g;obtain ⟨y,t,e,g2,g3⟩:=g;cases e;rw [RW.det I p q h2 g2,RWs.det I ps qs h3 g3]
end
theorem wW (I:L2.Inv X pins σ H s) (p q:PV) {v u:V} {uv uu:Value} {A:Around} (hd:dep p=0) (hu':A.units < cLine) (hp:RW X.K H p v) (hq:RW X.K H q u) (rv:RelV v uv) (ru:RelV u uu):SeqAt.RcAt A s uv uu (peq p q):=by
 cases p with
 |tup l=>unfold dep at hd;omega
 |lst l=>unfold dep at hd;omega
 |ref _=>unfold RW at hp;exact hp.elim
 |dct=>unfold RW at hp;exact hp.elim
 |ty _=>unfold RW at hp;exact hp.elim
 |fn _=>unfold RW at hp;exact hp.elim
 |exc _ _=>unfold RW at hp;exact hp.elim
 |non =>
  unfold RW at hp;subst hp;cases rv;cases q with
  |non=>unfold RW at hq;subst hq;cases ru;exact SeqAt.RcAt.none_none
  |bl _=>unfold RW at hq;subst hq;cases ru;exact SeqAt.RcAt.none_bool _
  |int _=>unfold RW at hq;subst hq;obtain ⟨t,rfl⟩:=ru;exact SeqAt.RcAt.none_int _ _
  |str _=>unfold RW at hq;subst hq;obtain ⟨t,rfl⟩:=ru;exact SeqAt.RcAt.none_str _ _
  |tup _=>unfold RW at hq;obtain ⟨a,xs,rfl,h2,_⟩:=hq;cases ru;obtain ⟨its,_,t,_⟩:=I.tuple h2;exact SeqAt.RcAt.none_tuple t hu'
  |lst _=>unfold RW at hq;obtain ⟨a,xs,rfl,h2,_⟩:=hq;cases ru;obtain ⟨its,_,t,_⟩:=I.list h2;exact SeqAt.RcAt.none_list t.isList hu'
  |ref _=>unfold RW at hq;exact hq.elim
  |dct=>unfold RW at hq;exact hq.elim
  |ty _=>unfold RW at hq;exact hq.elim
  |fn _=>unfold RW at hq;exact hq.elim
  |exc _ _=>unfold RW at hq;exact hq.elim
 |bl x =>
  unfold RW at hp;subst hp;cases rv;cases q with
  |non=>unfold RW at hq;subst hq;cases ru;exact SeqAt.RcAt.bool_none _
  |bl _=>unfold RW at hq;subst hq;cases ru;exact SeqAt.RcAt.bool_bool _ _
  |int _=>unfold RW at hq;subst hq;obtain ⟨t,rfl⟩:=ru;exact SeqAt.RcAt.bool_int _ _ _
  |str _=>unfold RW at hq;subst hq;obtain ⟨t,rfl⟩:=ru;exact SeqAt.RcAt.bool_str _ _ _
  |tup _=>unfold RW at hq;obtain ⟨a,xs,rfl,h2,_⟩:=hq;cases ru;obtain ⟨its,_,t,_⟩:=I.tuple h2;exact SeqAt.RcAt.bool_tuple _ t hu'
  |lst _=>unfold RW at hq;obtain ⟨a,xs,rfl,h2,_⟩:=hq;cases ru;obtain ⟨its,_,t,_⟩:=I.list h2;exact SeqAt.RcAt.bool_list _ t.isList hu'
  |ref _=>unfold RW at hq;exact hq.elim
  |dct=>unfold RW at hq;exact hq.elim
  |ty _=>unfold RW at hq;exact hq.elim
  |fn _=>unfold RW at hq;exact hq.elim
  |exc _ _=>unfold RW at hq;exact hq.elim
 |int x =>
  unfold RW at hp;subst hp;obtain ⟨t0,rfl⟩:=rv;cases q with
  |non=>unfold RW at hq;subst hq;cases ru;exact SeqAt.RcAt.int_none _ _
  |bl _=>unfold RW at hq;subst hq;cases ru;exact SeqAt.RcAt.int_bool _ _ _
  |int _=>unfold RW at hq;subst hq;obtain ⟨t,rfl⟩:=ru;exact SeqAt.RcAt.int_int _ _ _ _
  |str _=>unfold RW at hq;subst hq;obtain ⟨t,rfl⟩:=ru;exact SeqAt.RcAt.int_str _ _ _ _
  |tup _=>unfold RW at hq;obtain ⟨a,xs,rfl,h2,_⟩:=hq;cases ru;obtain ⟨its,_,t,_⟩:=I.tuple h2;exact SeqAt.RcAt.int_tuple _ _ t hu'
  |lst _=>unfold RW at hq;obtain ⟨a,xs,rfl,h2,_⟩:=hq;cases ru;obtain ⟨its,_,t,_⟩:=I.list h2;exact SeqAt.RcAt.int_list _ _ t.isList hu'
  |ref _=>unfold RW at hq;exact hq.elim
  |dct=>unfold RW at hq;exact hq.elim
  |ty _=>unfold RW at hq;exact hq.elim
  |fn _=>unfold RW at hq;exact hq.elim
  |exc _ _=>unfold RW at hq;exact hq.elim
 |str x =>
  unfold RW at hp;subst hp;obtain ⟨t0,rfl⟩:=rv;cases q with
  |non=>unfold RW at hq;subst hq;cases ru;exact SeqAt.RcAt.str_none _ _
  |bl _=>unfold RW at hq;subst hq;cases ru;exact SeqAt.RcAt.str_bool _ _ _
  |int _=>unfold RW at hq;subst hq;obtain ⟨t,rfl⟩:=ru;exact SeqAt.RcAt.str_int _ _ _ _
  |str _=>unfold RW at hq;subst hq;obtain ⟨t,rfl⟩:=ru;exact SeqAt.RcAt.str_str _ _ _ _
  |tup _=>unfold RW at hq;obtain ⟨a,xs,rfl,h2,_⟩:=hq;cases ru;obtain ⟨its,_,t,_⟩:=I.tuple h2;exact SeqAt.RcAt.str_tuple _ _ t hu'
  |lst _=>unfold RW at hq;obtain ⟨a,xs,rfl,h2,_⟩:=hq;cases ru;obtain ⟨its,_,t,_⟩:=I.list h2;exact SeqAt.RcAt.str_list _ _ t.isList hu'
  |ref _=>unfold RW at hq;exact hq.elim
  |dct=>unfold RW at hq;exact hq.elim
  |ty _=>unfold RW at hq;exact hq.elim
  |fn _=>unfold RW at hq;exact hq.elim
  |exc _ _=>unfold RW at hq;exact hq.elim
theorem wT (I:L2.Inv X pins σ H s) (p q:PV) {v u:V} {uv uu:Value} {A:Around} (hd:dep p=0) (hu':A.units < cLine) (hp:RW X.K H p v) (hq:RW X.K H q u) (rv:RelV v uv) (ru:RelV u uu):SeqAt.RcNeAt A s uv uu (!peq p q):=by
 cases p with
 |tup l=>unfold dep at hd;omega
 |lst l=>unfold dep at hd;omega
 |ref _=>unfold RW at hp;exact hp.elim
 |dct=>unfold RW at hp;exact hp.elim
 |ty _=>unfold RW at hp;exact hp.elim
 |fn _=>unfold RW at hp;exact hp.elim
 |exc _ _=>unfold RW at hp;exact hp.elim
 |non =>
  unfold RW at hp;subst hp;cases rv;cases q with
  |non=>unfold RW at hq;subst hq;cases ru;exact SeqAt.RcNeAt.none_none
  |bl _=>unfold RW at hq;subst hq;cases ru;exact SeqAt.RcNeAt.none_bool _
  |int _=>unfold RW at hq;subst hq;obtain ⟨t,rfl⟩:=ru;exact SeqAt.RcNeAt.none_int _ _
  |str _=>unfold RW at hq;subst hq;obtain ⟨t,rfl⟩:=ru;exact SeqAt.RcNeAt.none_str _ _
  |tup _=>unfold RW at hq;obtain ⟨a,xs,rfl,h2,_⟩:=hq;cases ru;obtain ⟨its,_,t,_⟩:=I.tuple h2;exact SeqAt.RcNeAt.none_tuple t hu'
  |lst _=>unfold RW at hq;obtain ⟨a,xs,rfl,h2,_⟩:=hq;cases ru;obtain ⟨its,_,t,_⟩:=I.list h2;exact SeqAt.RcNeAt.none_list t.isList hu'
  |ref _=>unfold RW at hq;exact hq.elim
  |dct=>unfold RW at hq;exact hq.elim
  |ty _=>unfold RW at hq;exact hq.elim
  |fn _=>unfold RW at hq;exact hq.elim
  |exc _ _=>unfold RW at hq;exact hq.elim
 |bl x =>
  unfold RW at hp;subst hp;cases rv;cases q with
  |non=>unfold RW at hq;subst hq;cases ru;exact SeqAt.RcNeAt.bool_none _
  |bl _=>unfold RW at hq;subst hq;cases ru;exact SeqAt.RcNeAt.bool_bool _ _
  |int _=>unfold RW at hq;subst hq;obtain ⟨t,rfl⟩:=ru;exact SeqAt.RcNeAt.bool_int _ _ _
  |str _=>unfold RW at hq;subst hq;obtain ⟨t,rfl⟩:=ru;exact SeqAt.RcNeAt.bool_str _ _ _
  |tup _=>unfold RW at hq;obtain ⟨a,xs,rfl,h2,_⟩:=hq;cases ru;obtain ⟨its,_,t,_⟩:=I.tuple h2;exact SeqAt.RcNeAt.bool_tuple _ t hu'
  |lst _=>unfold RW at hq;obtain ⟨a,xs,rfl,h2,_⟩:=hq;cases ru;obtain ⟨its,_,t,_⟩:=I.list h2;exact SeqAt.RcNeAt.bool_list _ t.isList hu'
  |ref _=>unfold RW at hq;exact hq.elim
  |dct=>unfold RW at hq;exact hq.elim
  |ty _=>unfold RW at hq;exact hq.elim
  |fn _=>unfold RW at hq;exact hq.elim
  |exc _ _=>unfold RW at hq;exact hq.elim
 |int x =>
  unfold RW at hp;subst hp;obtain ⟨t0,rfl⟩:=rv;cases q with
  |non=>unfold RW at hq;subst hq;cases ru;exact SeqAt.RcNeAt.int_none _ _
  |bl _=>unfold RW at hq;subst hq;cases ru;exact SeqAt.RcNeAt.int_bool _ _ _
  |int _=>unfold RW at hq;subst hq;obtain ⟨t,rfl⟩:=ru;exact SeqAt.RcNeAt.int_int _ _ _ _
  |str _=>unfold RW at hq;subst hq;obtain ⟨t,rfl⟩:=ru;exact SeqAt.RcNeAt.int_str _ _ _ _
  |tup _=>unfold RW at hq;obtain ⟨a,xs,rfl,h2,_⟩:=hq;cases ru;obtain ⟨its,_,t,_⟩:=I.tuple h2;exact SeqAt.RcNeAt.int_tuple _ _ t hu'
  |lst _=>unfold RW at hq;obtain ⟨a,xs,rfl,h2,_⟩:=hq;cases ru;obtain ⟨its,_,t,_⟩:=I.list h2;exact SeqAt.RcNeAt.int_list _ _ t.isList hu'
  |ref _=>unfold RW at hq;exact hq.elim
  |dct=>unfold RW at hq;exact hq.elim
  |ty _=>unfold RW at hq;exact hq.elim
  |fn _=>unfold RW at hq;exact hq.elim
  |exc _ _=>unfold RW at hq;exact hq.elim
 |str x =>
  unfold RW at hp;subst hp;obtain ⟨t0,rfl⟩:=rv;cases q with
  |non=>unfold RW at hq;subst hq;cases ru;exact SeqAt.RcNeAt.str_none _ _
  |bl _=>unfold RW at hq;subst hq;cases ru;exact SeqAt.RcNeAt.str_bool _ _ _
  |int _=>unfold RW at hq;subst hq;obtain ⟨t,rfl⟩:=ru;exact SeqAt.RcNeAt.str_int _ _ _ _
  |str _=>unfold RW at hq;subst hq;obtain ⟨t,rfl⟩:=ru;exact SeqAt.RcNeAt.str_str _ _ _ _
  |tup _=>unfold RW at hq;obtain ⟨a,xs,rfl,h2,_⟩:=hq;cases ru;obtain ⟨its,_,t,_⟩:=I.tuple h2;exact SeqAt.RcNeAt.str_tuple _ _ t hu'
  |lst _=>unfold RW at hq;obtain ⟨a,xs,rfl,h2,_⟩:=hq;cases ru;obtain ⟨its,_,t,_⟩:=I.list h2;exact SeqAt.RcNeAt.str_list _ _ t.isList hu'
  |ref _=>unfold RW at hq;exact hq.elim
  |dct=>unfold RW at hq;exact hq.elim
  |ty _=>unfold RW at hq;exact hq.elim
  |fn _=>unfold RW at hq;exact hq.elim
  |exc _ _=>unfold RW at hq;exact hq.elim
theorem qLK (I:L2.Inv X pins σ H s) (p q:PV) {v u:V} {uv uu:Value} {A:Around} (hu:A.units + (dep p + 1) < cLine) (hp:RW X.K H p v) (hq:RW X.K H q u) (rv:RelV v uv) (ru:RelV u uu):SeqAt.RcAt A s uv uu (peq p q):=by
 have hu':A.units < cLine:=Ba (Nat.le_add_right _ _) hu;have elt:∀ {n:Nat} {l m:List PV} {xs ys:List V} {its its2:List Value},A.in1.units + n < cLine->deps l≤n->RWs X.K H l xs->RWs X.K H m ys->Vals xs its->Vals ys its2 -> ∀ j (h1:j < its.toArray.size) (h2:j < its2.toArray.size),SeqAt.EqAt A.in1 s its.toArray[j] its2.toArray[j] (eqN l m j):=fun {n l m xs ys its its2} hin hdl hl hm vl vm j h1 h2=>by
  have e1:its[j]? = some its.toArray[j]:=by simp
  have e2:its2[j]? = some its2.toArray[j]:=by simp
  obtain ⟨x,hx,rx⟩:=Vals.get2 vl e1;obtain ⟨y,hy,ry⟩:=Vals.get2 vm e2;obtain ⟨p',hp',rp'⟩:=RWs.get' hl hx;obtain ⟨q',hq',rq'⟩:=RWs.get' hm hy
  have:eqN l m j=peq p' q':=by unfold eqN;rw [hp',hq']
  rw [this];exact qA4 I n p' q' x y _ _ A.in1 (Ae (zG hp') hdl) hin rp' rq' rx ry
 cases p with
 |tup l =>
  have hp0:=hp;unfold RW at hp;obtain ⟨a,xs,rfl,h2,h3⟩:=hp;cases rv;obtain ⟨its,vl,tl,_⟩:=I.tuple h2;unfold dep at hu;cases q with
  |non=>unfold RW at hq;subst hq;cases ru;exact SeqAt.RcAt.tuple_none tl hu'
  |bl _=>unfold RW at hq;subst hq;cases ru;exact SeqAt.RcAt.tuple_bool _ tl hu'
  |int _=>unfold RW at hq;subst hq;obtain ⟨t,rfl⟩:=ru;exact SeqAt.RcAt.tuple_int _ _ tl hu'
  |str _=>unfold RW at hq;subst hq;obtain ⟨t,rfl⟩:=ru;exact SeqAt.RcAt.tuple_str _ _ tl hu'
  |lst _=>unfold RW at hq;obtain ⟨a,xs,rfl,h2,_⟩:=hq;cases ru;obtain ⟨its,_,t,_⟩:=I.list h2;exact SeqAt.RcAt.tuple_list tl t.isList hu'
  |ref _=>unfold RW at hq;exact hq.elim
  |dct=>unfold RW at hq;exact hq.elim
  |ty _=>unfold RW at hq;exact hq.elim
  |fn _=>unfold RW at hq;exact hq.elim
  |exc _ _=>unfold RW at hq;exact hq.elim
  |tup m =>
   unfold RW at hq;obtain ⟨a2,ys,rfl,g2,g3⟩:=hq;cases ru;obtain ⟨its2,vm,tm,_⟩:=I.tuple g2;have rc:=SeqAt.RcAt.tuples (e:=eqN l m) tl tm hu' (elt (n:=deps l) (by show A.units + 1 + deps l < cLine;omega) (AK _) h3 g3 vl vm)
   have hl1:its.toArray.size=l.length:=by rw [AO,← vl.length,h3.length]
   have hl2:its2.toArray.size=m.length:=by rw [AO,← vm.length,g3.length]
   rw [hl1,hl2] at rc;have e:((List.range (min l.length m.length)).all (eqN l m)&&l.length==m.length)=peq (.tup l) (.tup m):=by
    unfold peq;by_cases hlm:l.length=m.length
    ·rw [← hlm,Nat.min_self,za l m hlm,As,Bf]
    ·rw [Wq l m hlm,Bq hlm,BK]
   rw [e] at rc;exact rc
 |lst l =>
  have hp0:=hp;unfold RW at hp;obtain ⟨a,xs,rfl,h2,h3⟩:=hp;cases rv;obtain ⟨its,vl,tl',_⟩:=I.list h2;have tl:=tl'.isList;unfold dep at hu;cases q with
  |non=>unfold RW at hq;subst hq;cases ru;exact SeqAt.RcAt.list_none tl hu'
  |bl _=>unfold RW at hq;subst hq;cases ru;exact SeqAt.RcAt.list_bool _ tl hu'
  |int _=>unfold RW at hq;subst hq;obtain ⟨t,rfl⟩:=ru;exact SeqAt.RcAt.list_int _ _ tl hu'
  |str _=>unfold RW at hq;subst hq;obtain ⟨t,rfl⟩:=ru;exact SeqAt.RcAt.list_str _ _ tl hu'
  |tup _=>unfold RW at hq;obtain ⟨a,xs,rfl,h2,_⟩:=hq;cases ru;obtain ⟨its,_,t,_⟩:=I.tuple h2;exact SeqAt.RcAt.list_tuple tl t hu'
  |ref _=>unfold RW at hq;exact hq.elim
  |dct=>unfold RW at hq;exact hq.elim
  |ty _=>unfold RW at hq;exact hq.elim
  |fn _=>unfold RW at hq;exact hq.elim
  |exc _ _=>unfold RW at hq;exact hq.elim
  |lst m =>
   unfold RW at hq;obtain ⟨a2,ys,rfl,g2,g3⟩:=hq;cases ru;obtain ⟨its2,vm,tm',_⟩:=I.list g2;have tm:=tm'.isList;have hl1:its.toArray.size=l.length:=by rw [AO,← vl.length,h3.length]
   have hl2:its2.toArray.size=m.length:=by rw [AO,← vm.length,g3.length]
   unfold peq;by_cases hlm:l.length=m.length
   ·have rc:=SeqAt.RcAt.lists (e:=eqN l m) tl tm (by rw [hl1,hl2,hlm]) hu' (elt (n:=deps l) (by show A.units + 1 + deps l < cLine;omega) (AK _) h3 g3 vl vm)
    rw [hl1,za l m hlm] at rc;exact rc
   ·rw [Wq l m hlm];exact SeqAt.RcAt.lists_lengths tl tm (by rw [hl1,hl2];exact bne_iff_ne.mpr hlm) hu'
 |non=>exact wW I _ q rfl hu' hp hq rv ru
 |bl _=>exact wW I _ q rfl hu' hp hq rv ru
 |int _=>exact wW I _ q rfl hu' hp hq rv ru
 |str _=>exact wW I _ q rfl hu' hp hq rv ru
 |ref _=>exact wW I _ q rfl hu' hp hq rv ru
 |dct=>exact wW I _ q rfl hu' hp hq rv ru
 |ty _=>exact wW I _ q rfl hu' hp hq rv ru
 |fn _=>exact wW I _ q rfl hu' hp hq rv ru
 |exc _ _=>exact wW I _ q rfl hu' hp hq rv ru
theorem qKe (I:L2.Inv X pins σ H s) (p q:PV) {v u:V} {uv uu:Value} {A:Around} (hu:A.units + (dep p + 1) < cLine) (hp:RW X.K H p v) (hq:RW X.K H q u) (rv:RelV v uv) (ru:RelV u uu):SeqAt.RcNeAt A s uv uu (!peq p q):=by
 have hu':A.units < cLine:=Ba (Nat.le_add_right _ _) hu;have elt:∀ {n:Nat} {l m:List PV} {xs ys:List V} {its its2:List Value},A.in1.units + n < cLine->deps l≤n->RWs X.K H l xs->RWs X.K H m ys->Vals xs its->Vals ys its2 -> ∀ j (h1:j < its.toArray.size) (h2:j < its2.toArray.size),SeqAt.EqAt A.in1 s its.toArray[j] its2.toArray[j] (eqN l m j):=fun {n l m xs ys its its2} hin hdl hl hm vl vm j h1 h2=>by
  have e1:its[j]? = some its.toArray[j]:=by simp
  have e2:its2[j]? = some its2.toArray[j]:=by simp
  obtain ⟨x,hx,rx⟩:=Vals.get2 vl e1;obtain ⟨y,hy,ry⟩:=Vals.get2 vm e2;obtain ⟨p',hp',rp'⟩:=RWs.get' hl hx;obtain ⟨q',hq',rq'⟩:=RWs.get' hm hy
  have:eqN l m j=peq p' q':=by unfold eqN;rw [hp',hq']
  rw [this];exact qA4 I n p' q' x y _ _ A.in1 (Ae (zG hp') hdl) hin rp' rq' rx ry
 cases p with
 |tup l =>
  have hp0:=hp;unfold RW at hp;obtain ⟨a,xs,rfl,h2,h3⟩:=hp;cases rv;obtain ⟨its,vl,tl,_⟩:=I.tuple h2;unfold dep at hu;cases q with
  |non=>unfold RW at hq;subst hq;cases ru;exact SeqAt.RcNeAt.tuple_none tl hu'
  |bl _=>unfold RW at hq;subst hq;cases ru;exact SeqAt.RcNeAt.tuple_bool _ tl hu'
  |int _=>unfold RW at hq;subst hq;obtain ⟨t,rfl⟩:=ru;exact SeqAt.RcNeAt.tuple_int _ _ tl hu'
  |str _=>unfold RW at hq;subst hq;obtain ⟨t,rfl⟩:=ru;exact SeqAt.RcNeAt.tuple_str _ _ tl hu'
  |lst _=>unfold RW at hq;obtain ⟨a,xs,rfl,h2,_⟩:=hq;cases ru;obtain ⟨its,_,t,_⟩:=I.list h2;exact SeqAt.RcNeAt.tuple_list tl t.isList hu'
  |ref _=>unfold RW at hq;exact hq.elim
  |dct=>unfold RW at hq;exact hq.elim
  |ty _=>unfold RW at hq;exact hq.elim
  |fn _=>unfold RW at hq;exact hq.elim
  |exc _ _=>unfold RW at hq;exact hq.elim
  |tup m =>
   unfold RW at hq;obtain ⟨a2,ys,rfl,g2,g3⟩:=hq;cases ru;obtain ⟨its2,vm,tm,_⟩:=I.tuple g2;have rc:=SeqAt.RcNeAt.tuples (e:=eqN l m) tl tm hu' (elt (n:=deps l) (by show A.units + 1 + deps l < cLine;omega) (AK _) h3 g3 vl vm)
   have hl1:its.toArray.size=l.length:=by rw [AO,← vl.length,h3.length]
   have hl2:its2.toArray.size=m.length:=by rw [AO,← vm.length,g3.length]
   rw [hl1,hl2] at rc;have e:((List.range (min l.length m.length)).all (eqN l m)&&l.length==m.length)=peq (.tup l) (.tup m):=by
    unfold peq;by_cases hlm:l.length=m.length
    ·rw [← hlm,Nat.min_self,za l m hlm,As,Bf]
    ·rw [Wq l m hlm,Bq hlm,BK]
   rw [e] at rc;exact rc
 |lst l =>
  have hp0:=hp;unfold RW at hp;obtain ⟨a,xs,rfl,h2,h3⟩:=hp;cases rv;obtain ⟨its,vl,tl',_⟩:=I.list h2;have tl:=tl'.isList;unfold dep at hu;cases q with
  |non=>unfold RW at hq;subst hq;cases ru;exact SeqAt.RcNeAt.list_none tl hu'
  |bl _=>unfold RW at hq;subst hq;cases ru;exact SeqAt.RcNeAt.list_bool _ tl hu'
  |int _=>unfold RW at hq;subst hq;obtain ⟨t,rfl⟩:=ru;exact SeqAt.RcNeAt.list_int _ _ tl hu'
  |str _=>unfold RW at hq;subst hq;obtain ⟨t,rfl⟩:=ru;exact SeqAt.RcNeAt.list_str _ _ tl hu'
  |tup _=>unfold RW at hq;obtain ⟨a,xs,rfl,h2,_⟩:=hq;cases ru;obtain ⟨its,_,t,_⟩:=I.tuple h2;exact SeqAt.RcNeAt.list_tuple tl t hu'
  |ref _=>unfold RW at hq;exact hq.elim
  |dct=>unfold RW at hq;exact hq.elim
  |ty _=>unfold RW at hq;exact hq.elim
  |fn _=>unfold RW at hq;exact hq.elim
  |exc _ _=>unfold RW at hq;exact hq.elim
  |lst m =>
   unfold RW at hq;obtain ⟨a2,ys,rfl,g2,g3⟩:=hq;cases ru;obtain ⟨its2,vm,tm',_⟩:=I.list g2;have tm:=tm'.isList;have hl1:its.toArray.size=l.length:=by rw [AO,← vl.length,h3.length]
   have hl2:its2.toArray.size=m.length:=by rw [AO,← vm.length,g3.length]
   unfold peq;by_cases hlm:l.length=m.length
   ·have rc:=SeqAt.RcNeAt.lists (e:=eqN l m) tl tm (by rw [hl1,hl2,hlm]) hu' (elt (n:=deps l) (by show A.units + 1 + deps l < cLine;omega) (AK _) h3 g3 vl vm)
    rw [hl1,za l m hlm] at rc;exact rc
   ·rw [Wq l m hlm];exact SeqAt.RcNeAt.lists_lengths tl tm (by rw [hl1,hl2];exact bne_iff_ne.mpr hlm) hu'
 |non=>exact wT I _ q rfl hu' hp hq rv ru
 |bl _=>exact wT I _ q rfl hu' hp hq rv ru
 |int _=>exact wT I _ q rfl hu' hp hq rv ru
 |str _=>exact wT I _ q rfl hu' hp hq rv ru
 |ref _=>exact wT I _ q rfl hu' hp hq rv ru
 |dct=>exact wT I _ q rfl hu' hp hq rv ru
 |ty _=>exact wT I _ q rfl hu' hp hq rv ru
 |fn _=>exact wT I _ q rfl hu' hp hq rv ru
 |exc _ _=>exact wT I _ q rfl hu' hp hq rv ru
end
def res (st:qC) (p:PV):PV:=match asL st p with
 |some l => .lst l
 |none=>p
theorem Zw {K:W.Frag} {H:Hp} {b:Bz} {st:qC} {p:PV} {v:V} (S:SR K H b st) (r:RV K H b p v) (h:nr (res st p)=true):RW K H (res st p) v:=by
 unfold res at h ⊢;cases e:asL st p with
 |none=>rw [e] at h;exact RV.rw p h r
 |some l =>rw [e] at h;obtain ⟨a,xs,rfl,h2,h3⟩:=wH S r e;dsimp only at h ⊢;unfold nr at h;unfold RW;exact ⟨a,xs,rfl,h2,RVs.rws l h h3⟩
abbrev zg:Nat:=60
def zd (p q:PV):Bool:=nr p&&nr q&&decide (dep p≤zg)
def gEq:PV->PV->qC->Rs PV:=fun p q st=>if zd (res st p) (res st q)=true then .ok (.bl (peq (res st p) (res st q))) st else .no
def gNe:PV->PV->qC->Rs PV:=fun p q st=>if zd (res st p) (res st q)=true then .ok (.bl (!peq (res st p) (res st q))) st else .no
section
variable {X:Cx} {E:XK} {e a c d:Expr} {es:List Expr} {f fa fb fc:FE} {pos:Pos}
def qGx (K:W.Frag) (neg:Bool):R2:=fun u v H Q => ∃ p q,RW K H p u∧RW K H q v∧dep p≤zg∧Q (.bl (if neg then !peq p q else peq p q)) H
theorem WZ (hr:X.A.units + 64 < cLine):OpR X (compareOp .Eq) (qGx X.K false):=by intro pins s σ H x y v u Q I rx ry h;obtain ⟨p,q,hp,hq,hd,h⟩:=h;exact qLK I p q (by have:dep p≤60:=hd;omega) hp hq rx ry _ _ _ _ ⟨.bl _,H,I,rfl,h⟩
theorem Wa (hr:X.A.units + 64 < cLine):OpR X (compareOp .NotEq) (qGx X.K true):=by intro pins s σ H x y v u Q I rx ry h;obtain ⟨p,q,hp,hq,hd,h⟩:=h;exact qKe I p q (by have:dep p≤60:=hd;omega) hp hq rx ry _ _ _ _ ⟨.bl _,H,I,rfl,h⟩
theorem Y3 {p q:PV} (h:zd p q=true):nr p=true∧nr q=true∧dep p≤zg:=by unfold zd at h;rw [AZ,AZ] at h;exact ⟨h.1.1,h.1.2,Aq h.2⟩
theorem zq:OpG X E (qGx X.K false) gEq:=by
 intro H b st p q u v Q S rp rq P;unfold gEq at P;split at P
 ·rename_i h;obtain ⟨h1,h2,h3⟩:=Y3 h;exact ⟨_,_,Zw S rp h1,Zw S rq h2,h3,PostE.here P S zj⟩
 ·exact P.elim
theorem zi:OpG X E (qGx X.K true) gNe:=by
 intro H b st p q u v Q S rp rq P;unfold gNe at P;split at P
 ·rename_i h;obtain ⟨h1,h2,h3⟩:=Y3 h;exact ⟨_,_,Zw S rp h1,Zw S rq h2,h3,PostE.here P S zj⟩
 ·exact P.elim
theorem qCv (hr:X.A.units + 64 < cLine) (ha:VE X E a fa) (hb:VE X E c fb):VE X E (.Compare a [.Eq] [c] pos) (qP gEq fa fb):=Ya (WZ hr) zq ha hb
theorem qKQ (hr:X.A.units + 64 < cLine) (ha:VE X E a fa) (hb:VE X E c fb):VE X E (.Compare a [.NotEq] [c] pos) (qP gNe fa fb):=Ya (Wa hr) zi ha hb
def pin (x:PV):List PV->Bool
 |[]=>false
 |y::ys=>peq y x || pin x ys
def gIn (neg:Bool):PV->PV->qC->Rs PV:=fun p q st=>match Wy st q with
 |some l=>if nrs l=true∧nr (res st p)=true∧deps l≤zg then .ok (.bl (if neg then !pin (res st p) l else pin (res st p) l)) st else .no
 |none => .no
def qJF (K:W.Frag) (neg:Bool):R2:=fun u v H Q => ∃ p l a xs,v = .ref a∧(SqL K H a xs∨SqT K H a xs)∧RW K H p u∧RWs K H l xs∧deps l≤zg∧Q (.bl (if neg then !pin p l else pin p l)) H
theorem YJ {X:Cx} {pins:List (Addr×Obj)} {σ:L2.St} {H:Hp} {s:Shared} (I:L2.Inv X pins σ H s) {A:Around} {p:PV} {u:V} {uu:Value} (hp:RW X.K H p u) (ru:RelV u uu) (hA:A.units + 60 < cLine)
  {l:List PV} {xs:List V} {its:List Value} (hl:RWs X.K H l xs) (vl:Vals xs its) (hd:deps l≤zg):∃ g:Value->Bool,(∀ y∈its,SeqAt.EqAt A s y uu (g y))∧its.any g=pin p l:=by
 classical
 have key:∀ (q:PV) (x:V) (y:Value),RW X.K H q x->RelV x y->decide (∃ q x,RW X.K H q x∧RelV x y∧peq q p=true)=peq q p:=fun q x y h1 h2=>by
  by_cases hb:peq q p=true
  ·rw [hb];exact AQ ⟨q,x,h1,h2,hb⟩
  ·rw [show peq q p=false by simpa using hb]
   refine AV fun ⟨q',x',k1,k2,k3⟩=>hb ?_;have ex:x'=x:=k2.inj h2;subst ex;rw [RW.det I q q' h1 k1];exact k3
 refine ⟨fun y=>decide (∃ q x,RW X.K H q x∧RelV x y∧peq q p=true),fun y hy => ?_,?_⟩
 ·obtain ⟨i,hi⟩:=BH hy;obtain ⟨x,hx,rx⟩:=Vals.get2 vl hi;obtain ⟨q,hq,rq⟩:=RWs.get' hl hx;dsimp only;rw [key q x y rq rx];exact qA4 I 60 q p x u y uu A (Ae (zG hq) hd) hA rq hp rx ru
 ·have go:∀ (l:List PV) (xs:List V) (its:List Value),RWs X.K H l xs->Vals xs its->its.any (fun y=>decide (∃ q x,RW X.K H q x∧RelV x y∧peq q p=true))=pin p l:=by
   intro l;induction l with
   |nil=>intro xs its h v;unfold RWs at h;subst h;cases v;rfl
   |cons q qs ih =>
    intro xs its h v;unfold RWs at h;obtain ⟨x,r,rfl,h2,h3⟩:=h;cases v with
    |cons rv vr =>rw [List.any_cons,key q x _ h2 rv,ih _ _ h3 vr];rfl
  exact go l xs its hl vl
theorem qB7 (hr:X.A.units + 64 < cLine):OpR X (compareOp .In) (qJF X.K false):=by
 intro pins s σ H x y v u Q I rx ry h;obtain ⟨p,l,a,xs,rfl,hs,hp,hl,hd,h⟩:=h;cases ry;have hA:X.A.in1.units + 60 < cLine:=by show X.A.units + 1 + 60 < cLine;omega
 rcases hs with hs |hs
 ·obtain ⟨its,vl,t,_⟩:=I.list hs;obtain ⟨g,h1,h2⟩:=YJ I hp rx hA hl vl hd;exact SeqAt.in_listAt g t.isList (fun y hy=>h1 y (by simpa using hy)) ⟨.bl _,H,I,by show _=_;rw [List.any_toArray,h2];rfl,h⟩
 ·obtain ⟨its,vl,t,_⟩:=I.tuple hs;obtain ⟨g,h1,h2⟩:=YJ I hp rx hA hl vl hd;exact SeqAt.in_tupleAt g t (fun y hy=>h1 y (by simpa using hy)) ⟨.bl _,H,I,by show _=_;rw [List.any_toArray,h2];rfl,h⟩
theorem zF (hr:X.A.units + 64 < cLine):OpR X (compareOp .NotIn) (qJF X.K true):=by
 intro pins s σ H x y v u Q I rx ry h;obtain ⟨p,l,a,xs,rfl,hs,hp,hl,hd,h⟩:=h;cases ry;have hA:X.A.in1.units + 60 < cLine:=by show X.A.units + 1 + 60 < cLine;omega
 rcases hs with hs |hs
 ·obtain ⟨its,vl,t,_⟩:=I.list hs;obtain ⟨g,h1,h2⟩:=YJ I hp rx hA hl vl hd;exact SeqAt.notIn_listAt g t.isList (fun y hy=>h1 y (by simpa using hy)) ⟨.bl _,H,I,by show _=_;rw [List.any_toArray,h2];rfl,h⟩
 ·obtain ⟨its,vl,t,_⟩:=I.tuple hs;obtain ⟨g,h1,h2⟩:=YJ I hp rx hA hl vl hd;exact SeqAt.notIn_tupleAt g t (fun y hy=>h1 y (by simpa using hy)) ⟨.bl _,H,I,by show _=_;rw [List.any_toArray,h2];rfl,h⟩
theorem y1 {neg:Bool}:OpG X E (qJF X.K neg) (gIn neg):=by
 intro H b st p q u v Q S rp rq P;unfold gIn at P;split at P
 ·rename_i l el;split at P
  ·rename_i hh;obtain ⟨h1,h2,h3⟩:=hh;obtain ⟨a,xs,rfl,k2,k3⟩:=Ze S rq el;exact ⟨_,l,a,xs,rfl,k2,Zw S rp h2,RVs.rws l h1 k3,h3,PostE.here P S zj⟩
  ·exact P.elim
 ·exact P.elim
theorem qFg (hr:X.A.units + 64 < cLine) (ha:VE X E a fa) (hb:VE X E c fb) (hm:behindInMarks .In c=false:=by with_unfolding_all rfl):VE X E (.Compare a [.In] [c] pos) (qP (gIn false) fa fb):=Ya (qB7 hr) y1 ha hb hm
end
end EV
end
section
namespace EV
open PySem PySem.Spec PyProof.Rows L2 EX
section
variable {X:Cx} {E:XK} {e a c d:Expr} {es:List Expr} {f fa fb fc:FE} {pos:Pos} {F G:FS}
def qKI:FS:=fun _ _ => .no
theorem qKt {st:Stmt}:VS X E st qKI:=PS.imp qFX fun D s H ⟨b,r,st,S,R,P⟩=>P.elim
def yO (C:Addr) (t:FA):FS:=fun r st=>match t r st with
 | .ok ps s=>if ps.length≤sizeLine then .ex ⟨C,[]⟩ s else .no
 | .ex x s => .ex x s
 | .no => .no
theorem YZ {x:Str} {C:Addr} {t:FA} {np cpos:Pos} (hz:Rz X E) (hc:X.calm=true) (hg:Gl X x) (hm:X.mg x=some (.ref C)) (q:W.excIn X.K C bmV "ValueError.__new__" = true) (ha:VA X E (e::es) t) (hdb:(x==("__debug__":Str))=false:=by decide)
  (he:starEach (e::es) X.env=(false,eval e X.env)::starEach es X.env:=by rfl) (hpl:(backTo cpos (starEach es X.env)).any (·.1)=false:=by rfl):VS X E (.Raise (some (.Call (.Name x np) (e::es) [] cpos)) none pos) (yO C t) :=
 PS.imp (qD5 hz hc hg hm q ha hdb he hpl) fun D s H ⟨b,r,st,S,R,P⟩=>⟨b,r,st,S,R,by
  unfold yO at P;cases ef:t r st with
  |no=>rw [ef] at P;exact P.elim
  |ex x s1=>rw [ef] at P;exact P
  |ok ps s1 =>
   rw [ef] at P;dsimp only at P;by_cases hl:ps.length≤sizeLine
   ·rw [AH hl] at P;exact fun vs H' b' e' S' r'=>⟨by rw [← r'.length];exact hl,P (.ref C) none H' b' e' S' ⟨rfl,.inl ⟨rfl,rfl⟩⟩⟩
   ·rw [AJ hl] at P;exact P.elim⟩
theorem REnv.lose {K:W.Frag} {H:Hp} {b:Bz} {r:qv} {s:L2.St} (h:REnv K H b r s) (i:Nat):REnv K H b (r.set i none) (s.set i none):=by
 refine ⟨by simp [h.1],fun j q hq => ?_⟩
 by_cases hj:i=j
 ·subst hj;by_cases hl:i < r.length
  ·rw [A5 hl] at hq;cases hq
  ·rw [List.getElem?_eq_none (by simpa using hl)] at hq;cases hq
 ·rw [BA hj] at hq ⊢;exact h.2 j q hq
def Y2 (i n:Nat) (cs:List Addr) (Fb Fh:FS):FS:=fun r st=>match Fb r st with
 | .ex x s=>if x.cls∈cs then (match Fh ((List.replicate n none).set i (some (.exc x.cls x.fs))) s with
  | .nx r' s' => .nx (r'.set i none) s'
  | .bk r' s' => .bk (r'.set i none) s'
  | .ct r' s' => .ct (r'.set i none) s'
  | .rt v s' => .rt v s'
  | .ex _ _ => .no
  | .no => .no) else .no
 |o=>o
theorem qIl {x n:Str} {Bx:Addr} {dd:Option Addr} {cd:ClassData} {sl:Array (Option Value)} {body:List Stmt} {b0:Stmt} {suite:List Stmt} {np hpos:Pos} {cs:List Addr} {Fb Fh:FS} (i:Nat) (FX:FrameX X) (hc:X.calm=true) (hN:X.N.Nodup)
  (hg:Gl X x) (hm:X.mg x=some (.ref Bx)) (o1:X.K.lookup Bx=some ⟨.type "type",dd,.cls cd,sl⟩) (m1:W.mroIn X.K Bx (.type "BaseException")=some true) (hcs:∀ C∈cs,W.mroIn X.K C (.ref Bx)=some true)
  (hb:∀ (pins:List (Addr×Obj)) (xe:Value->Shared->Prop) (E':XK),ZR (CXF X.prog X.w) (qAc X pins xe) E'->VSs (qAc X pins xe) E' body Fb) (hh:∀ ea,VSs (suX X ea) E0 (b0::suite) Fh)
  (hi:X.N[i]? = some n:=by rfl) (hl:X.env.scope.names.lookup n=some .local:=by rfl) (hdb:(x==("__debug__":Str))=false:=by decide) :
  VS X E (.Try body [.ExceptHandler (some (.Name x np)) (some n) (b0::suite) hpos] [] [] pos) (Y2 i X.N.length cs Fb Fh):=by
 refine PS.imp (qJ1 (ok:=fun v => ∃ C∈cs,v = .ref C) (tb:=fun E'=>rdS X.K E' Fb) (th:=rdS X.K E0 Fh) FX hc hN hi hl hg hm o1 m1 (fun v ⟨C,hC,e⟩=>⟨C,e,hcs C hC⟩) hb hh hdb) fun D σ H ⟨b,r,st,S,R,P⟩=>⟨b,r,st,S,R,?_⟩;unfold Y2 at P;cases eb:Fb r st with
 |nx r' s'=>rw [eb] at P;exact P
 |rt r' s'=>rw [eb] at P;exact P
 |bk r' s'=>rw [eb] at P;exact P
 |ct r' s'=>rw [eb] at P;exact P
 |no=>rw [eb] at P;exact P
 |ex x s1 =>
  rw [eb] at P;dsimp only at P;by_cases hx:x.cls∈cs
  ·rw [AH hx] at P;intro c d H' b' e' S' rx;obtain ⟨rc,rf⟩:=rx;refine ⟨⟨x.cls,hx,rc⟩,fun σ' ea oe hlen hn hcls hdict hdata=>⟨b',(List.replicate X.N.length none).set i (some (.exc x.cls x.fs)),s1,S'.new hn,⟨by simp [hlen],fun j p hp => ?_⟩,?_⟩⟩
   ·by_cases hj:i=j
    ·subst hj;have hl':i < X.N.length:=(AR.mp hi).1;rw [A5 (by simpa using hl')] at hp
     cases hp;refine ⟨.ref ea,by rw [A5 (by rw [hlen];exact hl')],?_⟩
     unfold RV;refine ⟨ea,oe,_,rfl,Qr,S'.new_notin hn,hcls.trans rc,hdata,rf.imp (fun q=>⟨q.1,hdict.trans q.2⟩) fun ⟨a,q1,q2,q3⟩=>⟨a,hdict.trans q1,by rw [qY (qV q2 hn)];exact q2,q3⟩⟩
    ·rw [BA hj,Bh] at hp;split at hp <;> cases hp
   ·have P2:=PostS.ext P (e'.trans (Ext.new (o := .frz oe qEY) hn));cases eh:Fh ((List.replicate X.N.length none).set i (some (.exc x.cls x.fs))) s1 with
    |nx r' s'=>rw [eh] at P2;exact fun s2 H2 b2 e2 S2 R2=>P2 _ H2 b2 e2 S2 (R2.lose i)
    |bk r' s'=>rw [eh] at P2;exact fun s2 H2 b2 e2 S2 R2=>P2 _ H2 b2 e2 S2 (R2.lose i)
    |ct r' s'=>rw [eh] at P2;exact fun s2 H2 b2 e2 S2 R2=>P2 _ H2 b2 e2 S2 (R2.lose i)
    |rt v s'=>rw [eh] at P2;exact P2
    |ex y s'=>rw [eh] at P2;exact P2.elim
    |no=>rw [eh] at P2;exact P2.elim
  ·rw [AJ hx] at P;exact P.elim
def tyP:PV->Option Value
 | .non=>some (.type "NoneType")
 | .bl _=>some (.type "bool")
 | .int _=>some (.type "int")
 | .str _=>some (.type "str")
 | .tup _=>some (.type "tuple")
 | .lst _=>some (.type "list")
 | .ref _=>some (.type "list")
 | .dct=>some (.type "dict")
 | .exc c _=>some (.ref c)
 |_=>none
def clP:PV->Option Value
 | .ty n=>some (.type n)
 | .fn a=>some (.ref a)
 |_=>none
def qC6 (kit:Value->Value->Option Bool) (p c:PV):Option Bool:=match tyP p,clP c with
 |some t,some c=>kit t c
 |_,_=>none
def J8 (kit:Value->Value->Option Bool) (p:PV):List PV->Option Bool
 |[]=>some false
 |c::r=>match qC6 kit p c with
  |some true=>some true
  |some false=>J8 kit p r
  |none=>none
def qLJ (kit:Value->Value->Option Bool) (p:PV):PV->Option Bool
 | .tup cs=>if (tyP p).isSome then J8 kit p cs else none
 |c=>qC6 kit p c
structure KitOk (K:W.Frag) (kit:Value->Value->Option Bool):Prop where
 one:∀ t c b,kit t c=some b->W.kitOne K t c=some b
 exc:∀ a c b,kit (.ref a) c=some b->ExcK K a
end
end EV
end
section
namespace EX
open PySem PySem.Spec PyProof.Rows L2
section
variable {X:Cx}
def qK7 (K:W.Frag):R2:=fun x y H Q => ∃ l b xs zs,x = .ref l∧y = .ref b∧SqL K H l xs∧SqL K H b zs∧xs.length + zs.length≤sizeLine ∧ ∀ p,H p=none->Q (.ref p) (upd H p (.lst (xs++zs)))
theorem qHW:OpR X (binaryOp .Add) (qK7 X.K):=by
 intro pins s σ H x y v u Q I rx ry h;obtain ⟨l,b,xs,zs,rfl,rfl,h1,h2,hz,q⟩:=h;cases rx;cases ry;obtain ⟨us,r1,p1,_⟩:=I.list h1;obtain ⟨ws,r2,p2,_⟩:=I.list h2;obtain ⟨⟨c1,d1,a1,s1⟩,o1,e1,m1,f1⟩:=id p1.isList;obtain ⟨⟨c2,d2,a2,s2⟩,o2,e2,m2,f2⟩:=id p2.isList;have e1:c1=_:=e1;have e2:c2=_:=e2;have f1:a1=_:=f1;have f2:a2=_:=f2;subst e1;subst e2;subst f1;subst f2;have z:us.length + ws.length≤sizeLine:=by rw [← r1.length,← r2.length];exact hz
 refine concat_meets ⟨_,o1,rfl⟩ ⟨_,o2,rfl⟩ noFill_list_add seq_list_add F.slot_list_add F.entry_list_add (F.args_list_add_2 _ _) (list_addW l b us.toArray ws.toArray m1 m2 d1 d2 s1 s2 (by simpa using z)) ⟨o1,o2,?_⟩
 rw [show us.toArray++ws.toArray=(us++ws).toArray by simp]
 exact ⟨.ref _,_,I.lnew (t':=s.toks) (r1.append r2) (by rw [AY];exact hz),rfl,q _ I.fresh⟩
def qIE (K:W.Frag):R2:=fun x y H Q => ∃ a b xs ys,x = .ref a∧y = .ref b∧SqT K H a xs∧SqT K H b ys∧xs.length + ys.length≤sizeLine ∧
 (xs=[]->Q (.ref b) H)∧(xs≠[]->ys=[]->Q (.ref a) H)∧(xs≠[]->ys≠[] -> ∀ p,H p=none->Q (.ref p) (upd H p (.tup (xs++ys))))
theorem qEI:OpR X (binaryOp .Add) (qIE X.K):=by
 intro pins s σ H x y v u Q I rx ry h;obtain ⟨a,b,xs,ys,rfl,rfl,ha,hb,hz,q0,q1,q2⟩:=h;by_cases hx:xs=[]
 ·cases rx;cases ry;obtain ⟨us,r1,p1,_⟩:=I.tuple ha;obtain ⟨ws,r2,p2,_⟩:=I.tuple hb;obtain ⟨⟨c1,d1,a1,s1⟩,o1,e1,m1,f1⟩:=id p1;obtain ⟨⟨c2,d2,a2,s2⟩,o2,e2,m2,f2⟩:=id p2;have e1:c1=_:=e1;have e2:c2=_:=e2;have f1:a1=_:=f1;have f2:a2=_:=f2;subst e1;subst e2;subst f1;subst f2;exact concat_meets ⟨_,o1,rfl⟩ ⟨_,o2,rfl⟩ noFill_tuple_add seq_tuple_add F.slot_tuple_add F.entry_tuple_add (F.args_tuple_add_2 _ _) (tuple_addW0 a b us.toArray ws.toArray m1 m2 d1 d2 s1 s2 (by simp [r1.nil_iff.mpr hx])) ⟨o1,o2,.ref b,H,I,rfl,q0 hx⟩
 ·exact qGL pins s σ H _ _ v u Q I rx ry ⟨a,b,xs,ys,rfl,rfl,ha,hb,hx,hz,q1 hx,q2 hx⟩
def qLw (K:W.Frag):V->Option Int->Option Int->Hp->VK->Prop:=fun x lo hi H Q => ∃ a xs,x = .ref a∧SqT K H a xs∧HT.sIx xs.length 0 lo=0∧HT.sIx xs.length xs.length hi=xs.length∧Q (.ref a) H
theorem qF2:SlR X (qLw X.K):=by
 intro pins s σ H x v vl vu lo hi sl Q I rx hs pl pu h;obtain ⟨a,xs,rfl,hx,w1,w2,q⟩:=h;cases rx;obtain ⟨its,r,ht,hz⟩:=I.tuple hx;have hlen:its.toArray.size=xs.length:=by rw [AO];exact r.length.symm
 refine ⟨"tuple",_,PyProof.Rows.slot_tuple_getitem.lookup,ht.typeIs,?_⟩;obtain ⟨os,hos,hcs,hds⟩:=id hs;have hTs:s.TypeIs (.ref sl) "slice" := ⟨os,hos,hcs⟩;unfold getItem;try with_reducible refine Ap ?_
 first |refine AA (AF ?_) |skip
 refine AA (wpAny_sequenceKey ht.typeIs (by decide) ?_)
 refine AA (Bg (name:=Str.ofString "__getitem__") ht.typeIs Bb (B2 Bb ht.typeIs PyProof.Rows.entry_tuple_getitem ?_ (PyProof.Rows.args_tuple_getitem _ _)));show wpAny _ _ (Builtin.Tuple.tupleItemsOf (.ref a) >>= _) _ _ s;refine AA (tupleItemsOf_ ht ?_);refine AA (Bp hTs ?_);rw [AH (by decide)]
 refine AA (HT.sliceApplied_gen hs pl pu ?_);rw [hlen,w1,w2];dsimp only;rw [AH (show ((((0:Nat):Int)==0&&(1:Int)==1&&xs.length - 0==xs.length)=true) by simp)]
 unfold Builtin.Tuple.tupleIsExact;refine AA (AA (Bp ht.typeIs (AF ?_)));rw [AH (by simp)]
 exact AA (wpAny_rule (AF ⟨_,rfl,AF ⟨.ref a,H,I,rfl,q⟩⟩))
def PJ (X:Cx) (es:List Expr) (t:Str->L2.St->Hp->(Str->Hp->Prop)->Prop):Prop := ∀ (out:Str) (pins:List (Addr×Obj)) (s:Shared) (σ:L2.St) (H:Hp) (Q:Str->Hp->Prop),L2.Inv X pins σ H s->t out σ H Q ->
 wpAny (model X.prog X.w) X.A (joinParts out (evalEach es X.env)) (fun u s' => ∃ x H',L2.Inv X pins σ H' s'∧(∃ t,u = .str x t)∧Q x H') X.xe s
theorem qI6:PJ X [] (fun out _ H Q=>out.length≤sizeLine∧Q out H):=fun out pins s σ H Q I h=>joinParts_nil ⟨out,H,I.tok _,⟨_,rfl⟩,h.2⟩ h.1
theorem qHZ {e:Expr} {es:List Expr} {te:TE} {t:Str->L2.St->Hp->(Str->Hp->Prop)->Prop} (h1:PE X e te) (h2:PJ X es t):PJ X (e::es) (fun out σ H Q=>te σ H fun v H1 => ∃ y,v = .str y∧(out++y).length≤sizeLine∧t (out++y) σ H1 Q) :=
 fun out pins s σ H Q I h=>joinParts_cons (thn (h1 pins s σ H _ I h) fun u s1 ⟨v,H1,I1,r1,y,e,z,q⟩=>by
  subst e;obtain ⟨t',rfl⟩:=r1;exact ⟨z,h2 (out++y) pins s1 σ H1 Q I1 q⟩)
theorem qJQ {e:Expr} {te:TE} {pos:Pos} (h:PE X e te):PE X (.FormattedValue e (-1) none pos) (fun σ H Q=>te σ H fun v H1 => ∃ i,v = .int i∧i.natAbs.log2 < 1920∧Q (.str (toString i)) H1) :=
 fun pins s σ H Q I q=>FormattedValue_plain (thn (h pins s σ H _ I q) fun u s1 ⟨v,H1,I1,r1,i,e,z,q⟩=>by
  subst e;obtain ⟨t',rfl⟩:=r1;exact wpAny_formatField_int z ⟨.str _,H1,I1.tok _,⟨_,rfl⟩,q⟩)
theorem qHG {e1 e2:Expr} {es:List Expr} {t:Str->L2.St->Hp->(Str->Hp->Prop)->Prop} {pos:Pos} (h:PJ X (e1::e2::es) t):PE X (.JoinedStr (e1::e2::es) pos) (fun σ H Q=>t Str.empty σ H fun x H1=>Q (.str x) H1) :=
 fun pins s σ H Q I q=>JoinedStr_many (thn (h Str.empty pins s σ H _ I q) fun u s1 ⟨x,H1,I1,r1,q1⟩=>⟨.str x,H1,I1,r1,q1⟩)
end
end EX
end
section
namespace EV
open PySem PySem.Spec PyProof.Rows L2 EX
section
variable {X:Cx} {E:XK} {e a c d:Expr} {es:List Expr} {f fa fb fc:FE} {pos:Pos} {F G:FS}
theorem ZG {x:Str} {n:String} {pos:Pos} (hg:Gl X x) (hm:X.mg x=none) (hv:bootBuiltins x=some (.type n)) (hn:x ≠ "__name__" := by decide) (hd:(x==("__debug__":Str))=false:=by decide):VE X E (.Name x pos) (vC (.ty n)) :=
 qBK (qHb (v := .ty n) hg hm hv rfl hn hd) fun _ _=>by unfold RV;rfl
theorem ZQ {x:Str} {a:Addr} {pos:Pos} (hg:Gl X x) (hm:X.mg x=some (.ref a)) (hd:(x==("__debug__":Str))=false:=by decide):VE X E (.Name x pos) (vC (.fn a)) :=
 qBK (qCf (v := .ref a) hg hm rfl hd) fun _ _=>by unfold RV;rfl
def lk (st:qC):PV->Bool
 | .ref i=>match st[i]? with
  |some (.l _)=>true
  |_=>false
 |_=>true
theorem qFK {kit:Value->Value->Option Bool} (hk:KitOk X.K kit) {pins:List (Addr×Obj)} {σ:L2.St} {H:Hp} {s:Shared} (I:L2.Inv X pins σ H s) {b:Bz} {st:qC} (S:SR X.K H b st) {p:PV} {v:V} {u t:Value} (r:RV X.K H b p v) (ru:RelV v u) (ht:tyP p=some t) (hlk:lk st p=true) (hx:∀ a,t = .ref a->ExcK X.K a) :
  ∃ Hh,W.KitX X.K u t Hh∧Hh s.heap∧u ≠ .builtin "__main__.__loader__#opaque" := by
 cases p with
 |non=>unfold RV at r;subst r;cases ht;cases (show u=Value.none from ru);exact ⟨_,W.kitx_none,trivial,fun z=>nomatch z⟩
 |bl x=>unfold RV at r;subst r;cases ht;cases (show u=Value.bool x from ru);exact ⟨_,W.kitx_bool,trivial,fun z=>nomatch z⟩
 |int x=>unfold RV at r;subst r;cases ht;obtain ⟨t,rfl⟩:=(show ∃ t,u=Value.int x t from ru);exact ⟨_,W.kitx_int,trivial,fun z=>nomatch z⟩
 |str x=>unfold RV at r;subst r;cases ht;obtain ⟨t,rfl⟩:=(show ∃ t,u=Value.str x t from ru);exact ⟨_,W.kitx_str,trivial,fun z=>nomatch z⟩
 |tup l =>unfold RV at r;obtain ⟨a,xs,rfl,h2,h3⟩:=r;cases ht;cases (show u=Value.ref a from ru);obtain ⟨its,_,⟨o,h4,h5,_⟩,_⟩:=I.tuple h2.sq;exact ⟨_,W.kitx_tuple,⟨o,h4,h5⟩,fun z=>nomatch z⟩
 |lst l =>unfold RV at r;obtain ⟨a,xs,rfl,h2,h3⟩:=r;cases ht;cases (show u=Value.ref a from ru);obtain ⟨its,_,⟨o,n,h4,h5,_⟩,_⟩:=I.list h2.sq;exact ⟨_,W.kitx_list,⟨o,h4,h5⟩,fun z=>nomatch z⟩
 |ref i =>
  unfold RV at r;obtain ⟨a,rfl,h2⟩:=r;cases ht;cases (show u=Value.ref a from ru);have hl:i < st.length:=by rw [← S.len];exact (AR.mp h2).1
  obtain ⟨a',o,h3,h4,h5⟩:=S.at_ i _ (AU hl);rw [h2] at h3;cases h3;have hq:∃ vs,o = .lst vs:=by
   cases hx:st[i] with
   |l xs=>rw [hx] at h5;obtain ⟨vs,e,_⟩:=h5;exact ⟨vs,e⟩
   |z xs=>unfold lk at hlk;dsimp only at hlk;rw [AU hl,hx] at hlk;cases hlk
   |d xs=>unfold lk at hlk;dsimp only at hlk;rw [AU hl,hx] at hlk;cases hlk
  obtain ⟨vs,rfl⟩:=hq;obtain ⟨its,_,⟨o,n,h6,h7,_⟩,_⟩:=I.list (SqL.of h4);exact ⟨_,W.kitx_list,⟨o,h6,h7⟩,fun z=>nomatch z⟩
 |dct =>unfold RV at r;obtain ⟨a,rfl,h2,h3⟩:=r;cases ht;cases (show u=Value.ref a from ru);obtain ⟨_,_,vs,_,o,_,_,h4,h5,_⟩:=(show ObjOk X.prog X.w H s.heap a (.dK []) from I.hok a _ h2);exact ⟨_,W.kitx_dict,⟨o,h4,h5.1⟩,fun z=>nomatch z⟩
 |exc c fs =>
  unfold RV at r;obtain ⟨a,o,w,rfl,h2,h3,h4,⟨vs,h6⟩,h5⟩:=r;cases ht;cases (show u=Value.ref a from ru);have ho:s.heap.get? a=some o:=(I.hok a _ h2).1;have hn:W.notCls o=true:=by obtain ⟨c',d',dt,sl⟩:=o;have h6:dt=_:=h6;subst h6;rfl
  refine ⟨_,qEq (hx c rfl),?_,fun z=>nomatch z⟩;rcases h5 with ⟨_,h5⟩ |⟨d,h5,h7,h8⟩
  ·exact ⟨o,none,ho,h4,hn,by rw [h5];trivial⟩
  ·obtain ⟨od,h9⟩:=got (I.hok d _ h7);exact ⟨o,some od,ho,h4,hn,by rw [h5];exact h9⟩
 |ty n=>cases ht
 |fn n=>cases ht
theorem qHv {K:W.Frag} {H:Hp} {b:Bz} {c:PV} {v:V} {u t:Value} (r:RV K H b c v) (ru:RelV v u) (ht:clP c=some t):u=t:=by
 cases c with
 |ty n=>unfold RV at r;subst r;cases ht;exact ru
 |fn a=>unfold RV at r;subst r;cases ht;exact ru
 |_=>cases ht
theorem qA3 {kit:Value->Value->Option Bool} (hk:KitOk X.K kit) {H:Hp} {b:Bz} {p:PV} {t:Value} (ht:tyP p=some t):∀ {cs:List PV} {xs:List V} {us:List Value} {k:Bool},RVs X.K H b cs xs->Vals xs us->J8 kit p cs=some k->W.kitAny X.K t us=some k
 |[],_,_,k,h,r,e=>by unfold RVs at h;subst h;cases r;exact e
 |c::cs,_,_,k,h,r,e=>by
  unfold RVs at h;obtain ⟨x,xs,rfl,h1,h2⟩:=h;cases r with
  | @cons _ u _ us r1 r2 =>
   unfold J8 qC6 at e;rw [ht] at e;cases hc:clP c with
   |none=>rw [hc] at e;cases e
   |some c' =>
    rw [hc] at e;have eu:=qHv h1 r1 hc;subst eu;dsimp only at e;unfold W.kitAny;cases q:kit t u with
    |none=>rw [q] at e;cases e
    |some bb =>
     rw [q] at e;rw [hk.one _ _ _ q];cases bb with
     |true=>exact e
     |false=>exact qA3 hk ht h2 r2 e
theorem qEe {kit:Value->Value->Option Bool} (hk:KitOk X.K kit) {p:PV} {t:Value} (ht:tyP p=some t):∀ {cs:List PV} {k:Bool},cs≠[]->J8 kit p cs=some k -> ∀ a,t = .ref a->ExcK X.K a
 |[],_,h,_,_,_=>absurd rfl h
 |c::cs,k,_,e,a,ha=>by
  unfold J8 qC6 at e;rw [ht] at e;cases hc:clP c with
  |none=>rw [hc] at e;cases e
  |some c' =>
   rw [hc] at e;dsimp only at e;cases q:kit t c' with
   |none=>rw [q] at e;cases e
   |some bb=>subst ha;exact hk.exc _ _ _ q
theorem qFJ {kit:Value->Value->Option Bool} (hk:KitOk X.K kit):Wb X (.builtin "isinstance") (fun vs H Q => ∃ b st p c k,SR X.K H b st∧RVs X.K H b [p,c] vs∧(∀ cs,c = .tup cs->cs≠[])∧lk st p=true∧qLJ kit p c=some k∧Q (.bl k) H):=by
 intro pins s σ H xs us Q I r h;obtain ⟨b,st,p,c,k,S,rs,hne,hlk,e,q⟩:=h;obtain ⟨x,y,rfl,r1,r2⟩:=RVs.two rs;obtain ⟨u,v,rfl,ru,rv⟩:=qCJ r;by_cases hc:∃ cs,c = .tup cs
 ·obtain ⟨cs,rfl⟩:=hc;have e:(if (tyP p).isSome then J8 kit p cs else none)=some k:=e;cases ht:tyP p with
  |none=>rw [ht] at e;cases e
  |some t =>rw [ht] at e;have e:J8 kit p cs=some k:=e;obtain ⟨Hh,Z,hh,hx⟩:=qFK hk I S r1 ru ht hlk (qEe hk ht (hne cs rfl) e);unfold RV at r2;obtain ⟨a,ys,rfl,h2,h3⟩:=r2;cases (show v=Value.ref a from rv);obtain ⟨its,r',⟨o,h4,h5,n,h6⟩,_⟩:=I.tuple h2.sq;obtain ⟨c1,d1,dt,sl⟩:=o;have h5:c1=_:=h5;have h6:dt=_:=h6;subst h5;subst h6;exact W.kia_tup Z I.kIn hh h4 (qA3 hk ht h3 r' e) hx fun tk=>⟨.bl k,H,I.tok _,rfl,q⟩
 ·have e:qC6 kit p c=some k:=by cases c <;> first |exact e |exact (hc ⟨_,rfl⟩).elim
  unfold qC6 at e;cases ht:tyP p with
  |none=>rw [ht] at e;cases e
  |some t =>
   cases hc2:clP c with
   |none=>rw [ht,hc2] at e;cases e
   |some c' =>
    rw [ht,hc2] at e;have eu:=qHv r2 rv hc2;subst eu;obtain ⟨Hh,Z,hh,hx⟩:=qFK hk I S r1 ru ht hlk (fun a ha=>by subst ha;exact hk.exc _ _ _ e)
    exact W.kia_one Z I.kIn hh (hk.one _ _ _ e) hx fun tk=>⟨.bl k,H,I.tok _,rfl,q⟩
def Qa (kit:Value->Value->Option Bool):List PV->qC->Rs PV:=fun ps st=>match ps with
 |[p,c]=>match c with
  | .tup [] => .no
  |c=>match qLJ kit p c with
   |some b=>if lk st p=true then .ok (.bl b) st else .no
   |none => .no
 |_ => .no
theorem Qn {kit:Value->Value->Option Bool} {ta:FA} {p:Pos} (hk:KitOk X.K kit) (hm:X.mg "isinstance" = none) (ha:VA X E (e::es) ta) (hg:Gl X "isinstance" := by rfl)
  (he:starEach (e::es) X.env=(false,eval e X.env)::starEach es X.env:=by rfl) (hpl:(backTo pos (starEach es X.env)).any (·.1)=false:=by rfl):VE X E (.Call (.Name "isinstance" p) (e::es) [] pos) (qI (Qa kit) ta) :=
 WB (qFJ hk) (fun H b st ps vs Q S r P=>by
  unfold Qa at P;split at P
  ·rename_i p c;split at P
   ·exact P.elim
   ·rename_i hc;split at P
    ·rename_i k hk';split at P
     ·rename_i hlk;exact ⟨b,st,p,c,k,S,r,fun cs e z=>by subst e;subst z;exact hc rfl,hlk,hk',PostE.here P S zj⟩
     ·exact P.elim
    ·exact P.elim
  ·exact P.elim) hg hm PyProof.Rows.boot_isinstance ha (he:=he) (hpl:=hpl)
end
def pbl:PV->Option Bool
 | .bl b=>some b
 |_=>none
def qAL:PV->Option Int
 | .int i=>some i
 |_=>none
def Q3 {α:Type} (f:PV->Option α):List PV->Option (List α)
 |[]=>some []
 |p::ps=>match f p with
  |some a=>match Q3 f ps with
   |some r=>some (a::r)
   |none=>none
  |none=>none
section
variable {X:Cx} {E:XK} {e a c d:Expr} {es:List Expr} {f fa fb fc:FE} {pos:Pos} {F G:FS}
theorem qET {K:W.Frag} {H:Hp} {b:Bz}:∀ {l:List PV} {xs:List V} {bs:List Bool},RVs K H b l xs->Q3 pbl l=some bs->xs=bs.map V.bl
 |[],_,_,h,e=>by unfold RVs at h;subst h;cases e;rfl
 |p::ps,_,bs,h,e=>by
  unfold RVs at h;obtain ⟨x,r,rfl,h1,h2⟩:=h;unfold Q3 at e;cases p with
  |bl k =>
   unfold RV at h1;subst h1;cases q:Q3 pbl ps with
   |none=>rw [q] at e;cases e
   |some r'=>rw [q] at e;cases e;rw [qET h2 q];rfl
  |_=>cases e
theorem YM {K:W.Frag} {H:Hp} {b:Bz}:∀ {l:List PV} {xs:List V} {bs:List Int},RVs K H b l xs->Q3 qAL l=some bs->xs=bs.map V.int
 |[],_,_,h,e=>by unfold RVs at h;subst h;cases e;rfl
 |p::ps,_,bs,h,e=>by
  unfold RVs at h;obtain ⟨x,r,rfl,h1,h2⟩:=h;unfold Q3 at e;cases p with
  |int k =>
   unfold RV at h1;subst h1;cases q:Q3 qAL ps with
   |none=>rw [q] at e;cases e
   |some r'=>rw [q] at e;cases e;rw [YM h2 q];rfl
  |_=>cases e
def qEW {α:Type} (k:PV->Option α) (g:List α->PV):List PV->qC->Rs PV:=fun ps st=>match ps with
 |[p]=>match asL st p with
  |some l=>match Q3 k l with
   |some r => .ok (g r) st
   |none => .no
  |none => .no
 |_ => .no
def zu:=qEW pbl fun bs => .bl (bs.all id)
theorem qIf:yu X E (fun xs H Q => ∃ (p:Addr) (bs:List Bool),xs=[.ref p]∧SqL X.K H p (bs.map V.bl)∧Q (.bl (bs.all id)) H) zu:=by
 intro H b st ps vs Q S r P;unfold zu qEW at P;split at P
 ·obtain ⟨v,rfl,r1⟩:=RVs.one r;split at P
  ·rename_i l e;split at P
   ·rename_i bs eb;obtain ⟨a,xs,rfl,h2,h3⟩:=wH S r1 e;rw [qET h3 eb] at h2;exact ⟨a,bs,rfl,h2,PostE.here P S zj⟩
   ·exact P.elim
  ·exact P.elim
 ·exact P.elim
section
variable {ta:FA} {p:Pos} (ha:VA X E (e::es) ta)
include ha
theorem Zu (hm:X.mg "all" = none) (hg:Gl X "all" := by rfl) (he:starEach (e::es) X.env=(false,eval e X.env)::starEach es X.env:=by rfl) (hpl:(backTo pos (starEach es X.env)).any (·.1)=false:=by rfl):VE X E (.Call (.Name "all" p) (e::es) [] pos) (qI zu ta) :=
 WB qDE qIf hg hm Boot.«all» ha (he:=he) (hpl:=hpl)
theorem we (hm:X.mg "len" = none) (hg:Gl X "len" := by rfl) (he:starEach (e::es) X.env=(false,eval e X.env)::starEach es X.env:=by rfl) (hpl:(backTo pos (starEach es X.env)).any (·.1)=false:=by rfl):VE X E (.Call (.Name "len" p) (e::es) [] pos) (qI w4 ta) :=
 WB JN qJL hg hm Boot.«len» ha (he:=he) (hpl:=hpl)
theorem qGe (hc:X.calm=true) (hm:X.mg "max" = none) (hg:Gl X "max" := by rfl) (he:starEach (e::es) X.env=(false,eval e X.env)::starEach es X.env:=by rfl) (hpl:(backTo pos (starEach es X.env)).any (·.1)=false:=by rfl):VE X E (.Call (.Name "max" p) (e::es) [] pos) (qI qEm ta) :=
 WB (qDD hc) qI2 hg hm Boot.«max» ha (he:=he) (hpl:=hpl)
theorem Ja (hc:X.calm=true) (hm:X.mg "min" = none) (hg:Gl X "min" := by rfl) (he:starEach (e::es) X.env=(false,eval e X.env)::starEach es X.env:=by rfl) (hpl:(backTo pos (starEach es X.env)).any (·.1)=false:=by rfl):VE X E (.Call (.Name "min" p) (e::es) [] pos) (qI JY ta) :=
 WB (qC7 hc) qIW hg hm Boot.«min» ha (he:=he) (hpl:=hpl)
theorem wz (hm:X.mg "tuple" = none) (hg:Gl X "tuple" := by rfl) (he:starEach (e::es) X.env=(false,eval e X.env)::starEach es X.env:=by rfl) (hpl:(backTo pos (starEach es X.env)).any (·.1)=false:=by rfl):VE X E (.Call (.Name "tuple" p) (e::es) [] pos) (qI w9 ta) :=
 jU jM qEL hg hm Boot.«tuple» ha (he:=he) (hpl:=hpl)
theorem qHP (hm:X.mg "int" = none) (hg:Gl X "int" := by rfl) (he:starEach (e::es) X.env=(false,eval e X.env)::starEach es X.env:=by rfl) (hpl:(backTo pos (starEach es X.env)).any (·.1)=false:=by rfl):VE X E (.Call (.Name "int" p) (e::es) [] pos) (qI qB3 ta) :=
 jU qDh qJj hg hm Boot.«int» ha (he:=he) (hpl:=hpl)
end
theorem qAd {p:Pos} (hm:X.mg "list" = none) (ha:VE X E e f) (hg:Gl X "list" := by rfl) (he:starEach [e] X.env=(false,eval e X.env)::starEach [] X.env:=by rfl) (hpl:(backTo pos (starEach [] X.env)).any (·.1)=false:=by rfl):VN X E (.Call (.Name "list" p) [e] [] pos) (YA f) :=
 qGC hg hm Boot.«list» ha he hpl
def zP (fa fb:FE):FL:=fun r st=>(fa r st).bind fun p s1=>(fb r s1).bind fun q s2=>match asL s2 p with
 |some l=>match asL s2 q with
  |some m=>if l.length + m.length≤sizeLine then .ok (l++m) s2 else .no
  |none => .no
 |none => .no
theorem W7 (ha:VE X E a fa) (hb:VE X E c fb):VN X E (.BinOp a .Add c pos) (zP fa fb):=PE.imp (qFd qHW ha hb) fun s H Q ⟨b,r,st,S,R,P⟩ =>
 ⟨b,r,st,S,R,PostE.bindN P fun p s1 u H1 b1 e1 S1 r1 P1=>⟨b1,r,s1,S1,R.ext e1,PostE.bindN P1 fun q s2 v H2 b2 e2 S2 r2 P2=>by
  split at P2
  ·rename_i l el;split at P2
   ·rename_i m em;split at P2
    ·rename_i hl;obtain ⟨x,xs,rfl,h2,h3⟩:=wH S2 (RV.ext e2 p r1) el;obtain ⟨y,ys,rfl,h4,h5⟩:=wH S2 r2 em;exact ⟨x,y,xs,ys,rfl,rfl,h2,h4,by rw [← h3.length,← h5.length];exact hl,fun z hz=>PostN.lay P2 S2 (h3.append h5) hz⟩
    ·exact P2.elim
   ·exact P2.elim
  ·exact P2.elim⟩⟩
theorem RVs.rep {K:W.Frag} {H:Hp} {b:Bz} {l:List PV} {xs:List V} (h:RVs K H b l xs):∀ n,RVs K H b (List.replicate n l).flatten (List.replicate n xs).flatten
 |0=>RVs.nil
 |n + 1=>by rw [BV,BV,Bt,Bt];exact h.append (RVs.rep h n)
def JG (fa:FL) (fb:FE):FL:=fun r st=>(fa r st).bind fun l s1=>(fb r s1).bind fun q s2=>match q with
 | .int k=>if -(2 ^ 63)≤k∧k < 2 ^ 63∧l.length * k.toNat≤sizeLine then .ok (List.replicate k.toNat l).flatten s2 else .no
 |_ => .no
end
theorem WE.hid1 {H H':Hp} {b b':Bz} {p:Addr} (e:Ext H b H' b') (hn:H p=none):WE H b H' ⟨b'.b,p::b'.z⟩ :=
 ⟨e.more,⟨[p],by rw [e.same];rfl,fun a ha=>by rw [Ah.mp ha];exact hn⟩,e.keep,e.dom⟩
theorem Ext.unhide {H H' H2:Hp} {b b' b4:Bz} {p:Addr} (e:Ext H b H' b') (hn:H p=none) (e4:Ext H' ⟨b'.b,p::b'.z⟩ H2 b4):Ext H b H2 ⟨b4.b,b'.z⟩:=by
 obtain ⟨n,hb,hh⟩:=e.more;obtain ⟨n4,hb4,hh4⟩:=e4.more;refine ⟨⟨⟨n++n4,?_,fun a ha => ?_⟩,⟨[],by rw [e.same];rfl,by simp⟩,fun a o ha ho => ?_,fun a o ha => ?_⟩,e.same,fun a o ha ho => ?_,fun a o u ha=>e4.fz a o u (e.fz a o u ha)⟩
 ·show b4.b=b.b++(n++n4);rw [hb4];show b'.b++n4=_;rw [hb,Al]
 ·rcases An.mp ha with ha |ha
  ·exact hh a ha
  ·exact e.none_of (hh4 a ha)
 ·have o2:=e.not_in ha ho;exact e4.keep a o (e.keep a o ha ho) ⟨o2.1,fun z=>(AE.mp z).elim (qV ha hn) o2.2⟩
 ·obtain ⟨o',h'⟩:=e.dom a o ha;exact e4.dom a o' h'
 ·exact e4.hid a o (AD _ (by rw [e.same];exact ha)) (e.hid a o ha ho)
theorem qHi {b4:Bz} {z:List Addr} (h:b4.z=z):b4=⟨b4.b,z⟩:=by cases b4;cases h;rfl
section
variable {X:Cx} {E:XK} {e a c d:Expr} {es:List Expr} {f fa fb fc:FE} {fl:FL} {pos:Pos} {F G:FS}
theorem qBL (ha:VN X E a fl) (hb:VE X E c fb):VN X E (.BinOp a .Mult c pos) (JG fl fb):=PE.imp (qFd qIO ha hb) fun s H Q ⟨b,r,st,S,R,P⟩=>⟨b,r,st,S,R,by
 unfold JG at P;cases ef:fl r st with
 |no=>rw [ef] at P;exact P.elim
 |ex x s1=>rw [ef] at P;exact P
 |ok l s1 =>
  rw [ef] at P;have P:PostN X.K E H b ((fb r s1).bind fun q s2=>match q with | .int k=>if -(2 ^ 63)≤k∧k < 2 ^ 63∧l.length * k.toNat≤sizeLine then .ok (List.replicate k.toNat l).flatten s2 else .no |_ => .no) Q:=P;intro p xs H' b' e1 hn hp hz S1 r1;refine ⟨⟨b'.b,p::b'.z⟩,r,s1,S1,R.wext (WE.hid1 e1 hn),?_⟩;cases eb:fb r s1 with
  |no=>rw [eb] at P;exact P.elim
  |ex x s2 =>rw [eb] at P;intro cc dd H2 b2 e2 S2 rx;have e3:=Ext.unhide e1 hn e2;have hb2:b2=⟨b2.b,p::b'.z⟩:=qHi e2.same;refine P cc dd H2 ⟨b2.b,b'.z⟩ e3 (by rw [hb2] at S2;exact S2.bare) ⟨rx.1,rx.2.imp id fun ⟨a,q1,q2,q3⟩=>⟨a,q1,q2,by rw [hb2] at q3;exact ⟨q3.1,fun z=>q3.2 (AD _ z)⟩⟩⟩
  |ok q s2 =>
   rw [eb] at P;intro v H2 b2 e2 S2 rv;have e3:=Ext.unhide e1 hn e2;have hb2:b2=⟨b2.b,p::b'.z⟩:=qHi e2.same;dsimp only [Rs.bind] at P;split at P
   ·rename_i k;split at P
    ·rename_i hk;unfold RV at rv;have hH2:H2 p=some (.lst xs):=e2.hid p _ AI hp;have S3:SR X.K H2 ⟨b2.b,b'.z⟩ s2:=by rw [hb2] at S2;exact S2.bare
     have r3:RVs X.K H2 ⟨b2.b,b'.z⟩ l xs:=RVs.sh Sh.bare l (by have:=RVs.ext e2 l r1;rw [hb2] at this;exact this)
     refine ⟨p,k,xs,rfl,rv,hH2,hk.1,hk.2.1,by rw [← r1.length];exact hk.2.2,fun z hz' => ?_⟩
     exact PostN.lay (PostN.ext (show PostN X.K E H b (.ok (List.replicate k.toNat l).flatten s2) Q from P) e3) S3 (RVs.rep r3 k.toNat) hz'
    ·exact P.elim
   ·exact P.elim⟩
def Z2:PV->PV->qC->Rs PV:=fun p q st=>match p,q with
 | .tup l,.tup m=>if l.length + m.length≤sizeLine then .ok (.tup (l++m)) st else .no
 |_,_ => .no
theorem qCp (ha:VE X E a fa) (hb:VE X E c fb):VE X E (.BinOp a .Add c pos) (qP Z2 fa fb):=Z6 qEI (fun H b st p q u v Q S rp rq P=>by
 unfold Z2 at P;split at P
 ·rename_i l m;split at P
  ·rename_i hl;have rp0:=rp;have rq0:=rq;unfold RV at rp rq;obtain ⟨x,xs,rfl,h2,h3⟩:=rp;obtain ⟨y,ys,rfl,h4,h5⟩:=rq;have n1:=h3.length;have n2:=h5.length;refine ⟨x,y,xs,ys,rfl,rfl,h2.sq,h4.sq,by rw [← n1,← n2];exact hl,fun z => ?_,fun _ z => ?_,fun _ _ w hw=>PostE.layT P S (h3.append h5) hw⟩
   ·have:l=[]:=List.length_eq_zero_iff.mp (by rw [n1,z];rfl)
    subst this;exact PostE.here P S rq0
   ·have:m=[]:=List.length_eq_zero_iff.mp (by rw [n2,z];rfl)
    subst this;rw [BB] at P;exact PostE.here P S rp0
  ·exact P.elim
 ·exact P.elim) ha hb
abbrev FO:=qv->qC->Rs (Option Int)
def PostO (K:W.Frag) (E:XK) (H:Hp) (b:Bz) (r:Rs (Option Int)) (Q:Option Int->Hp->Prop):Prop:=match r with
 | .ok k st => ∀ H' b',Ext H b H' b'->SR K H' b' st->Q k H'
 | .ex x st=>XP K E H b x st
 | .no=>False
def rdO (K:W.Frag) (E:XK) (f:FO):TO:=fun s H Q => ∃ b r st,SR K H b st∧REnv K H b r s∧PostO K E H b (f r st) Q
abbrev VO (X:Cx) (E:XK) (e:Option Expr) (f:FO):Prop:=PO X e (rdO X.K E f)
def WF:FO:=fun _ st => .ok none st
def wM (f:FE):FO:=fun r st=>(f r st).bind fun p s=>match p with
 | .int i => .ok (some i) s
 |_ => .no
theorem zW:VO X E none WF:=fun pins s σ H Q I ⟨b,r,st,S,R,P⟩=>qF6 pins s σ H Q I (P H b (Ext.refl _ _) S)
theorem zV (h:VE X E e f):VO X E (some e) (wM f):=fun pins s σ H Q I ⟨b,r,st,S,R,P⟩=>qGS h pins s σ H Q I ⟨b,r,st,S,R,by
 unfold wM at P;cases ef:f r st with
 |no=>rw [ef] at P;exact P.elim
 |ex x s1=>rw [ef] at P;exact P
 |ok p s1 =>
  rw [ef] at P;intro v H1 b1 e1 S1 r1;dsimp only [Rs.bind] at P;split at P
  ·rename_i i;unfold RV at r1;exact ⟨i,r1,P H1 b1 e1 S1⟩
  ·exact P.elim⟩
def ZT (l:List PV) (lo hi:Option Int):List PV:=(l.drop (HT.sIx l.length 0 lo)).take (HT.sIx l.length l.length hi - HT.sIx l.length 0 lo)
def Z1 (f:FE) (lo hi:FO):FE:=fun r st=>(f r st).bind fun p s1=>(lo r s1).bind fun a s2=>(hi r s2).bind fun c s3=>match p with
 | .tup l => .ok (.tup (ZT l a c)) s3
 |_ => .no
theorem PostO.bind {K:W.Frag} {E:XK} {H:Hp} {b:Bz} {r:Rs (Option Int)} {k:Option Int->qC->Rs PV} {Q:VK} {R:Option Int->Hp->Prop} (P:PostE K E H b (r.bind k) Q)
  (h:∀ p st H1 b1,Ext H b H1 b1->SR K H1 b1 st->PostE K E H1 b1 (k p st) Q->R p H1):PostO K E H b r R:=by
 cases r with
 |ok p st=>exact fun H1 b1 e S=>h p st H1 b1 e S (PostE.ext (show PostE K E H b (k p st) Q from P) e)
 |ex x st=>exact P
 |no=>exact P
theorem yi {lo hi:Option Expr} {flo fhi:FO} {p2:Pos} (h:VE X E e f) (hl:VO X E lo flo) (hh:VO X E hi fhi):VE X E (.Subscript e (.Slice lo hi none p2) pos) (Z1 f flo fhi) :=
 PE.imp (qA2 (sl_tup.or qF2) h hl hh) fun s H Q ⟨b,r,st,S,R,P⟩=>⟨b,r,st,S,R,PostE.bind P fun p s1 u H1 b1 e1 S1 r1 P1=>⟨b1,r,s1,S1,R.ext e1,PostO.bind P1 fun k s2 H2 b2 e2 S2 P2=>⟨b2,r,s2,S2,(R.ext e1).ext e2,PostO.bind P2 fun m s3 H3 b3 e3 S3 P3=>by
  split at P3
  ·rename_i l;have r3:=RV.ext e3 _ (RV.ext e2 _ r1);have r0:=r3;unfold RV at r3;obtain ⟨x,xs,rfl,h2,h3⟩:=r3;have hlen:=h3.length;by_cases hw:HT.sIx xs.length 0 k=0∧HT.sIx xs.length xs.length m=xs.length
   ·refine .inr ⟨x,xs,rfl,h2.sq,hw.1,hw.2,?_⟩
    have:ZT l k m=l:=by unfold ZT;rw [hlen,hw.1,hw.2,List.drop_zero,Nat.sub_zero,← hlen,List.take_length]
    rw [this] at P3;exact PostE.here P3 S3 r0
   ·refine .inl ⟨x,xs,rfl,h2.sq,hw,fun z hz => ?_⟩;have hc:RVs X.K H3 b3 (ZT l k m) (jF xs k m):=by unfold ZT jF;rw [hlen];exact (h3.drop _).take _
    exact PostE.layT P3 S3 hc hz
  ·exact P3.elim⟩⟩⟩
def WW (fo f:FE):FS:=fun r st=>(fo r st).bindS fun o s1=>match o with
 | .ref n=>if lk s1 (.ref n)=true then (f r s1).bindS fun p s2=>match s2[n]? with
  |some (.l xs)=>if xs.length < sizeLine then .nx r (s2.set n (.l (xs++[p]))) else .no
  |_ => .no else .no
 |_ => .no
theorem yg {fo:FE} {o:Expr} {apos cpos:Pos} (ho:VE X E o fo) (h:VE X E e f) (hs:swapsWith (.Call (.Attribute o "append" apos) [e] [] cpos) none pos.line X.env=pure false:=by rfl)
  (hbase:attributeBase o "append" X.env (eval o X.env)=eval o X.env:=by rfl)
  (hfew:((backTo cpos (starEach [e] X.env)).all (fun x => !x.1)&&(backToKw cpos (keywordEach [] X.env)).all (fun x=>x.1.isSome)&&decide ([e].length + ([]:List Keyword).length + (if ([]:List Keyword).isEmpty then 0 else 1) < 30))=true:=by rfl)
  (hline:(apos.endLine==cpos.line)=true:=by rfl) (h1:starEach [e] X.env=(false,eval e X.env)::starEach [] X.env:=by rfl) (hplain:(backTo cpos (starEach [] X.env)).any (·.1)=false:=by rfl) :
  VS X E (.Expr (.Call (.Attribute o "append" apos) [e] [] cpos) pos) (WW fo f) :=
 PS.imp (qCn (qEg PySem.F.plainAttrs_list PySem.F.slot_list_append PySem.F.type_list_append jv ho (Z3 h Yd h1) hbase hfew hline h1 hplain) hs) fun D s H ⟨b,r,st,S,R,P⟩=>⟨b,r,st,S,R,PostE.bindS P fun o s1 u H1 b1 e1 S1 r1 P1=>by
  have key:∀ {n:Nat},o = .ref n->lk s1 (.ref n)=true->tyV X.K "list" u H1:=fun {n} ho hlk=>by
   subst ho;unfold RV at r1;obtain ⟨x,rfl,hx⟩:=r1;have hl:n < s1.length:=by rw [← S1.len];exact (AR.mp hx).1
   obtain ⟨a',o',h3,h4,h5⟩:=S1.at_ n _ (AU hl);rw [hx] at h3;cases h3;cases hq:s1[n] with
   |l xs=>rw [hq] at h5;obtain ⟨vs,e,_⟩:=h5;subst e;exact .inl ⟨rfl,vs,SqL.of h4⟩
   |z xs=>unfold lk at hlk;dsimp only at hlk;rw [AU hl,hq] at hlk;cases hlk
   |d xs=>unfold lk at hlk;dsimp only at hlk;rw [AU hl,hq] at hlk;cases hlk
  cases o with
  |ref n =>
   have P1:PostS X.K E H1 b1 (if lk s1 (.ref n)=true then ((f r s1).bindS fun p s2=>match s2[n]? with |some (.l xs)=>if xs.length < sizeLine then .nx r (s2.set n (.l (xs++[p]))) else .no |_ => .no) else .no) D:=P1;by_cases hlk:lk s1 (.ref n)=true
   rotate_left
   ·rw [AJ hlk] at P1;exact P1.elim
   rw [AH hlk] at P1;refine ⟨key rfl hlk,b1,r,s1,S1,R.ext e1,?_⟩;cases eb:f r s1 with
   |no=>rw [eb] at P1;exact P1.elim
   |ex x s2=>rw [eb] at P1;exact P1
   |ok p s2 =>
    rw [eb] at P1;intro v H2 b2 e2 S2 r2;have P2:PostS X.K E H1 b1 (match s2[n]? with |some (.l xs)=>if xs.length < sizeLine then .nx r (s2.set n (.l (xs++[p]))) else .no |_ => .no) D:=P1;split at P2
    ·rename_i xs ex;split at P2
     ·rename_i hl;have r1':=RV.ext e2 _ r1;unfold RV at r1';obtain ⟨x,rfl,hx⟩:=r1';obtain ⟨x',o',h1,h2,vs,rfl,h4⟩:=S2.at_ n _ ex;rw [hx] at h1;cases h1;refine ⟨x,vs,v,rfl,rfl,h2,by rw [← h4.length];exact hl,?_⟩
      have hm:x∈b2.b:=Aw hx;have ew:Ext H2 b2 (upd H2 x (.lst (vs++[v]))) b2:=Ext.wr hm S2.zb (qIZ h2);exact P2 s _ b2 (e2.trans ew) (S2.wr (x := .l (xs++[p])) hx ⟨_,rfl,(RVs.ext ew xs h4).append (RVs.cons (RV.ext ew p r2) RVs.nil)⟩) (((R.ext e1).ext e2).ext ew)
     ·exact P2.elim
    ·exact P2.elim
  |_=>exact P1.elim⟩
def qD0 (p:PV):List PV->Option Nat
 |[]=>none
 |q::qs=>if peq q p=true then some 0 else (qD0 p qs).map (· + 1)
theorem jp (p:PV):∀ {l:List PV} {j:Nat},qD0 p l=some j->(∃ q,l[j]? = some q∧peq q p=true) ∧ ∀ m,m < j -> ∃ q,l[m]? = some q∧peq q p=false
 |[],_,h=>by cases h
 |q::qs,j,h=>by
  unfold qD0 at h;split at h
  ·rename_i hq;cases h;exact ⟨⟨q,rfl,hq⟩,fun m hm=>by omega⟩
  ·rename_i hq;cases e:qD0 p qs with
   |none=>rw [e] at h;cases h
   |some k =>
    rw [e] at h;cases h;obtain ⟨⟨q',h1,h2⟩,h3⟩:=jp p e;refine ⟨⟨q',by simpa using h1,h2⟩,fun m hm => ?_⟩
    cases m with
    |zero=>exact ⟨q,rfl,by simpa using hq⟩
    |succ m=>obtain ⟨q2,h4,h5⟩:=h3 m (by have hm:m + 1 < k + 1:=hm;omega);exact ⟨q2,by simpa using h4,h5⟩
theorem qE5 {pins:List (Addr×Obj)} {σ:L2.St} {H:Hp} {s:Shared} (I:L2.Inv X pins σ H s) {A:Around} {p:PV} {u:V} {uu:Value} (hp:RW X.K H p u) (ru:RelV u uu) (hA:A.units + 60 < cLine)
  {l:List PV} {xs:List V} {its:List Value} (hl:RWs X.K H l xs) (vl:Vals xs its) (hd:deps l≤zg):∃ g:Value->Bool,(∀ y∈its,SeqAt.EqAt A s y uu (g y)) ∧ ∀ (i:Nat) (q:PV) (y:Value),l[i]? = some q->its[i]? = some y->g y=peq q p:=by
 classical
 have key:∀ (q:PV) (x:V) (y:Value),RW X.K H q x->RelV x y->decide (∃ q x,RW X.K H q x∧RelV x y∧peq q p=true)=peq q p:=fun q x y h1 h2=>by
  by_cases hb:peq q p=true
  ·rw [hb];exact AQ ⟨q,x,h1,h2,hb⟩
  ·rw [show peq q p=false by simpa using hb]
   refine AV fun ⟨q',x',k1,k2,k3⟩=>hb ?_;have ex:x'=x:=k2.inj h2;subst ex;rw [RW.det I q q' h1 k1];exact k3
 refine ⟨fun y=>decide (∃ q x,RW X.K H q x∧RelV x y∧peq q p=true),fun y hy => ?_,fun i q y hq hy => ?_⟩
 ·obtain ⟨i,hi⟩:=BH hy;obtain ⟨x,hx,rx⟩:=Vals.get2 vl hi;obtain ⟨q,hq,rq⟩:=RWs.get' hl hx;dsimp only;rw [key q x y rq rx];exact qA4 I 60 q p x u y uu A (Ae (zG hq) hd) hA rq hp rx ru
 ·obtain ⟨x,hx,rx⟩:=Vals.get2 vl hy;obtain ⟨q',hq',rq⟩:=RWs.get' hl hx;rw [hq] at hq';cases hq';exact key q x y rq rx
theorem qFE (hr:X.A.units + 64 < cLine):MtM X "list.index" (fun x vs H Q => ∃ l xs a p v j,x = .ref a∧vs=[v]∧SqL X.K H a xs∧RWs X.K H l xs∧RW X.K H p v∧deps l≤zg∧qD0 p l=some j∧Q (.int j) H):=by
 intro pins s σ H x vs v us Q I rx rv h;obtain ⟨l,xs,ad,p,y,j,rfl,rfl,hs,hl,hp,hd,hj,q⟩:=h;cases rx;obtain ⟨u,rfl,ru⟩:=rv.one;obtain ⟨its,r',pl,hz⟩:=I.list hs;obtain ⟨⟨c1,d1,a1,s1⟩,o1,e1,m1,f1⟩:=id pl.isList;have e1:c1=_:=e1;have f1:a1=_:=f1;subst e1;subst f1;have hA:X.A.in1.units + 60 < cLine:=by show X.A.units + 1 + 60 < cLine;omega
 obtain ⟨g,g1,g2⟩:=qE5 I hp ru hA hl r' hd;obtain ⟨⟨q1,k1,k2⟩,k3⟩:=jp p hj;have n1:l.length=its.length:=by rw [hl.length,r'.length]
 have jl:j < l.length:=(AR.mp k1).1;have ji:j < its.length:=by rw [← n1];exact jl
 refine call_meets F.slot_list_index ⟨_,o1,rfl⟩ F.entry_list_index (F.args_list_index_2 _ _) (SeqAt.list_indexAt ad its.toArray m1 d1 s1 u g j (by simpa using ji) ?_ ?_ fun m hm hlt => ?_) ⟨o1,fun y hy=>g1 y (by simpa using hy),⟨.int j,H,I.tok _,⟨_,rfl⟩,q⟩⟩
 ·have:its.length≤sizeLine:=by rw [← r'.length];exact hz
  have h2:(sizeLine:Nat) < 2 ^ 62:=by decide
  omega
 ·rw [show its.toArray[j]=its[j] by simp,g2 j q1 _ k1 (AU ji)];exact k2
 ·obtain ⟨q2,k4,k5⟩:=k3 m hlt;have mi:m < its.length:=by simpa using hm
  rw [show its.toArray[m]=its[m] by simp,g2 m q2 _ k4 (AU mi)];exact k5
def qKq (fo f:FE):FE:=fun r st=>(fo r st).bind fun o s1=>match asL s1 o with
 |some _=>(f r s1).bind fun p s2=>match asL s2 o with
  |some l=>if nrs l=true∧nr p=true∧deps l≤zg then (match qD0 p l with |some j => .ok (.int j) s2 |none => .no) else .no
  |none => .no
 |none => .no
theorem qEX {fo:FE} {o:Expr} {apos cpos:Pos} (hr:X.A.units + 64 < cLine) (ho:VE X E o fo) (h:VE X E e f) (hbase:attributeBase o "index" X.env (eval o X.env)=eval o X.env:=by rfl)
  (hfew:((backTo cpos (starEach [e] X.env)).all (fun x => !x.1)&&(backToKw cpos (keywordEach [] X.env)).all (fun x=>x.1.isSome)&&decide ([e].length + ([]:List Keyword).length + (if ([]:List Keyword).isEmpty then 0 else 1) < 30))=true:=by rfl)
  (hline:(apos.endLine==cpos.line)=true:=by rfl) (h1:starEach [e] X.env=(false,eval e X.env)::starEach [] X.env:=by rfl) (hplain:(backTo cpos (starEach [] X.env)).any (·.1)=false:=by rfl) :
  VE X E (.Call (.Attribute o "index" apos) [e] [] cpos) (qKq fo f) :=
 PE.imp (qEg PySem.F.plainAttrs_list PySem.F.slot_list_index PySem.F.type_list_index (qFE hr) ho (Z3 h Yd h1) hbase hfew hline h1 hplain) fun s H Q ⟨b,r,st,S,R,P⟩=>⟨b,r,st,S,R,PostE.bind P fun o s1 u H1 b1 e1 S1 r1 P1=>by
  split at P1
  ·rename_i l1 el1;obtain ⟨x,xs,rfl,h2,h3⟩:=wH S1 r1 el1;refine ⟨.inl ⟨rfl,xs,h2⟩,b1,r,s1,S1,R.ext e1,PostE.bind P1 fun p s2 v H2 b2 e2 S2 r2 P2 => ?_⟩;split at P2
   ·rename_i l el;split at P2
    ·rename_i hc;split at P2
     ·rename_i j hj;obtain ⟨x',ys,ex,h4,h5⟩:=wH S2 (RV.ext e2 o r1) el;cases ex;exact ⟨l,ys,x,p,v,j,rfl,rfl,h4,RVs.rws l hc.1 h5,RV.rw p hc.2.1 r2,hc.2.2,hj,PostE.here P2 S2 Qf⟩
     ·exact P2.elim
    ·exact P2.elim
   ·exact P2.elim
  ·exact P1.elim⟩
def qLm (i:Int):Str:=toString i
def qIL (f:FE):FE:=fun r st=>(f r st).bind fun p s=>match p with
 | .int i=>if i.natAbs.log2 < 1920 then .ok (.str (qLm i)) s else .no
 |_ => .no
theorem qFb (h:VE X E e f):VE X E (.FormattedValue e (-1) none pos) (qIL f):=PE.imp (qJQ h) fun s H Q ⟨b,r,st,S,R,P⟩=>⟨b,r,st,S,R,PostE.bind P fun p s1 u H1 b1 e1 S1 r1 P1=>by
 split at P1
 ·rename_i i;split at P1
  ·rename_i hi;unfold RV at r1;exact ⟨i,r1,hi,PostE.here P1 S1 (by unfold RV;rfl)⟩
  ·exact P1.elim
 ·exact P1.elim⟩
def vJ:List FE->Str->qv->qC->Rs PV
 |[],out,_,st=>if out.length≤sizeLine then .ok (.str out) st else .no
 |f::fs,out,r,st=>(f r st).bind fun p s=>match p with
  | .str y=>if (out++y).length≤sizeLine then vJ fs (out++y) r s else .no
  |_ => .no
def VJ (X:Cx) (E:XK) (es:List Expr) (fs:List FE):Prop:=PJ X es (fun out σ H Q => ∃ b r st,SR X.K H b st∧REnv X.K H b r σ∧PostE X.K E H b (vJ fs out r st) (fun v H' => ∃ x,v = .str x∧Q x H'))
theorem qIG:VJ X E [] []:=fun out pins s σ H Q I ⟨b,r,st,S,R,P⟩=>qI6 out pins s σ H Q I (by
 unfold vJ at P;split at P
 ·rename_i h;obtain ⟨x,e,q⟩:=PostE.here P S (by unfold RV;rfl)
  cases e;exact ⟨h,q⟩
 ·exact P.elim)
theorem YO {fs:List FE} (h1:VE X E e f) (h2:VJ X E es fs):VJ X E (e::es) (f::fs):=fun out pins s σ H Q I ⟨b,r,st,S,R,P⟩=>qHZ h1 h2 out pins s σ H Q I (by
 unfold vJ at P;refine ⟨b,r,st,S,R,PostE.bind P fun p s1 u H1 b1 e1 S1 r1 P1 => ?_⟩;split at P1
 ·rename_i y;split at P1
  ·rename_i h;unfold RV at r1;exact ⟨y,r1,h,b1,r,s1,S1,R.ext e1,P1⟩
  ·exact P1.elim
 ·exact P1.elim)
theorem qGH {e1 e2:Expr} {fs:List FE} (h:VJ X E (e1::e2::es) fs):VE X E (.JoinedStr (e1::e2::es) pos) (vJ fs Str.empty):=fun pins s σ H Q I ⟨b,r,st,S,R,P⟩=>qHG h pins s σ H Q I ⟨b,r,st,S,R,by
 cases e:vJ fs Str.empty r st with
 |ex x s1=>rw [e] at P;exact P
 |no=>rw [e] at P;exact P
 |ok p s1 =>
  rw [e] at P;intro v H' b' e' S' r';have q:=P v H' b' e' S' r';have hp:∃ y,p = .str y:=by
   have key:∀ (fs:List FE) (out:Str) (st:qC) (p:PV) (s1:qC),vJ fs out r st = .ok p s1 -> ∃ y,p = .str y:=by
    intro fs;induction fs with
    |nil=>intro out st p s1 h;unfold vJ at h;split at h;(cases h;exact ⟨_,rfl⟩);cases h
    |cons g gs ih =>
     intro out st p s1 h;unfold vJ at h;cases eg:g r st with
     |no=>rw [eg] at h;cases h
     |ex x s2=>rw [eg] at h;cases h
     |ok p2 s2 =>
      rw [eg] at h;dsimp only [Rs.bind] at h;split at h
      ·split at h
       ·exact ih _ _ _ _ h
       ·cases h
      ·cases h
   exact key _ _ _ _ _ e
  obtain ⟨y,rfl⟩:=hp;unfold RV at r';exact ⟨y,r',by rw [r'] at q;exact q⟩⟩
theorem qf {P:Program} {w:World} (X:Cx):ZR (CXF P w) X E0:=fun pins σ H s e s' I h=>by obtain ⟨_,_,_,_,_,_,_,_,_,_,_,_,q⟩:=h;exact q.elim
def q9 (i:Nat):FG:=fun p r=>match r[i]? with
 |some none=>some (r.set i (some p))
 |_=>none
theorem qCu {i:Nat} {p:PV} {r r':qv} (h:q9 i p r=some r'):r[i]? = some none∧r'=r.set i (some p):=by
 unfold q9 at h;split at h
 ·rename_i e;cases h;exact ⟨e,rfl⟩
 ·cases h
theorem QK (i:Nat) {x:Str} (hN:X.N.Nodup) (hi:X.N[i]? = some x:=by rfl) (hx:Loc X.env.scope x:=by first |exact Or.inl rfl |exact Or.inr rfl) (hf:X.fn x=true∨X.env.scope.names.lookup x=some .local:=by first |exact .inl rfl |exact .inr rfl |assumption):VG X (.Name x pos) (q9 i) :=
 PG.imp (qe i hN hi hx hf) fun v s H Q ⟨b,r,p,st,S,R,rv,r',e,q⟩=>⟨b,r,p,st,S,R,rv,r',by rw [(qCu e).2];rfl,q⟩
theorem Le.refl (r:qv):Le r r:=⟨rfl,fun _ _ h=>h⟩
theorem Le.trans {r r1 r2:qv} (h:Le r r1) (g:Le r1 r2):Le r r2:=⟨h.1.trans g.1,fun i p e=>g.2 i p (h.2 i p e)⟩
theorem qb (i:Nat):qCK (q9 i):=fun p r r' h=>by
 obtain ⟨h1,rfl⟩:=qCu h;refine ⟨by simp,fun j q e => ?_⟩
 by_cases hj:i=j
 ·subst hj;rw [h1] at e;cases e
 ·rw [BA hj];exact e
def Jo (g:FGs):Prop := ∀ p r r',g p r=some r'->Le r r'
theorem qDS:Jo zO:=fun p r r' h=>by
 unfold zO at h;split at h
 ·cases h;exact Le.refl _
 ·cases h
theorem Zx {g:FG} {gs:FGs} (h1:qCK g) (h2:Jo gs):Jo (QH g gs):=fun p r r' h=>by
 unfold QH at h;split at h
 ·split at h
  ·rename_i r1 e;exact (h1 _ _ _ e).trans (h2 _ _ _ h)
  ·cases h
 ·cases h
theorem qDK {n:Nat} {gs:FGs} (h1:Jo gs):qCK (zC n gs):=fun p r r' h=>by
 unfold zC at h;split at h
 ·split at h
  ·exact h1 _ _ _ h
  ·cases h
 ·cases h
theorem max_at {ns:List Int} {m:Int} {i:Nat} (hm:ns.max? = some m) (hi:i≤ns.length - 1) (h:∀ j,j≤ns.length - 1->ns.getD j 0≤ns.getD i 0):ns.getD i 0=m:=by
 have hne:ns≠[]:=by intro z;subst z;cases hm
 have hl:0 < ns.length:=CQ.mpr hne;obtain ⟨h1,h2⟩:=List.max?_eq_some_iff.mp hm;have hil:i < ns.length:=by omega
 have e1:ns.getD i 0=ns[i]:=by simp [Ac,hil]
 have a1:ns.getD i 0≤m:=by rw [e1];exact h2 _ (Bj hil)
 obtain ⟨j,hj,rfl⟩:=List.mem_iff_getElem.mp h1
 have:=h j (by omega)
 have e2:ns.getD j 0=ns[j]:=by simp [Ac,hj]
 omega
theorem qC9:Wb X (.builtin "max") (fun xs H Q => ∃ (p:Addr) (ns:List Int) (m:Int),xs=[.ref p]∧SqT X.K H p (ns.map V.int)∧ns.max? = some m∧Q (.int m) H):=by
 intro pins s σ H xs us Q I r h;obtain ⟨p,ns,m,rfl,hq,hm,q⟩:=h;obtain ⟨u,rfl,rx⟩:=yA r;cases rx;obtain ⟨its,r',pl,hz⟩:=I.tuple hq;have hl:=r'.length;rw [AC] at hl;obtain ⟨ob,po,_⟩:=id pl;have hlt:p < s.heap.objs.size:=AT po;have hne:ns≠[]:=by intro z;subst z;cases hm
 have hpos:0 < ns.length:=CQ.mpr hne;have hsz:its.toArray.size=ns.length:=by rw [AO,← hl]
 refine call_max_walk (wpAny_pyIter_tuple pl ⟨_,_,_,_,_,_,_,rfl,qAZ (A:=X.A.in1) _ p (Ab hlt) its.toArray (qHo I),⟨⟨⟨_,AX _ rfl,rfl,rfl⟩,(show s.heap.IsTuple p its.toArray from pl).at fun o e=>AG _ e⟩,?_⟩,fun b hb => ?_,by rw [hsz];exact hpos,CmpOf.ints_gt (fun i=>ns.getD i 0) fun i v hv=>ZF r' (by simpa using hv),fun v h' tk hv hk => ?_⟩)
 ·exact Hnd.frame (show Hnd X.A.in1 s.heap from I.hndH) fun b _ o e=>AG _ e
 ·show b < (s.heap.push _).objs.size;rw [B1];rcases AE.mp hb with rfl |hb
  ·exact Nat.lt_succ_self _
  ·rcases AE.mp hb with rfl |hb
   ·exact A8 hlt
   ·have hd:X.A.handled=some (.ref b):=by
     unfold yD at hb;split at hb
     ·rename_i a ha;rw [Ah.mp hb];exact ha
     ·cases hb
    obtain ⟨a,oe,vs,e1,e2,_⟩:=I.hndH _ hd;cases e1;exact A8 (AT e2)
 ·rw [hsz] at hv;rw [List.getElem?_toArray] at hv;obtain ⟨t,rfl⟩:=ZF r' hv;obtain ⟨g1,g2⟩:=argBest_gt (fun i=>ns.getD i 0) (ns.length - 1);rw [max_at hm g1 g2];refine ⟨.int m,H,I.kept (t':=tk) fun b o e=>hk b o (by simp;exact Ab (AT e)) (AG _ e),⟨t,rfl⟩,q⟩
def qAn:List PV->qC->Rs PV:=fun ps st=>match ps with
 |[.tup l]=>match Q3 qAL l with
  |some ns=>match ns.max? with
   |some m => .ok (.int m) st
   |none => .no
  |none => .no
 |_ => .no
theorem qF8 {ta:FA} {p:Pos} (ha:VA X E (e::es) ta) (hm:X.mg "max" = none) (hg:Gl X "max" := by rfl) (he:starEach (e::es) X.env=(false,eval e X.env)::starEach es X.env:=by rfl) (hpl:(backTo pos (starEach es X.env)).any (·.1)=false:=by rfl):VE X E (.Call (.Name "max" p) (e::es) [] pos) (qI qAn ta) :=
 WB qC9 (fun H b st ps vs Q S r P=>by
  unfold qAn at P;split at P
  ·rename_i l;split at P
   ·rename_i ns en;split at P
    ·rename_i m em;obtain ⟨v,rfl,r1⟩:=RVs.one r;unfold RV at r1;obtain ⟨x,xs,rfl,h2,h3⟩:=r1;rw [YM h3 en] at h2;exact ⟨x,ns,m,rfl,h2.sq,em,PostE.here P S Qf⟩
    ·exact P.elim
   ·exact P.elim
  ·exact P.elim) hg hm Boot.«max» ha (he:=he) (hpl:=hpl)
end
structure DefG (P:Program) (w:World) (K:W.Frag) (mg:Str->Option Value) (base:Heap) (k:Nat) (x:Str) (fa:Addr) (n:Nat) (g:List PV->qC->Rs PV):Prop where
 ok:∃ fd ps,ps.length=n∧FnOk P w K mg base (CXF P w) k fa fd ps (spG K ps.length g)∧L2.Binds K fd ps [] ∧ ∀ l st,g l st ≠ .no->l.length=ps.length
 mg:mg x=some (.ref fa)
 kp:W.keepIn K (.ref fa)=true
section
variable {X:Cx} {E:XK} {e a c d:Expr} {es:List Expr} {f fa fb fc:FE} {fl:FL} {pos:Pos} {F G:FS}
theorem DefG.call {k n:Nat} {x:Str} {fa:Addr} {g:List PV->qC->Rs PV} (D:DefG X.prog X.w X.K X.mg X.base k x fa n g) (hr:Room k X.A) (hx:ZR (CXF X.prog X.w) X E) (hg:Gl X x:=by rfl) (hdb:(x==("__debug__":Str))=false:=by decide):qIq X E x g:=by obtain ⟨fd,ps,_,F,B,hl⟩:=D.ok;exact qLp (n:=n) F hr hg D.mg D.kp B hx hl hdb
end
def qo (n N:Nat) (B:FS):List PV->qC->Rs PV:=fun l st=>if l.length=n then qGt (B (Qh N l) st) else .no
theorem wS {n N:Nat} {B:FS} {l:List PV} {st:qC} (h:qo n N B l st ≠ .no):l.length=n:=by
 unfold qo at h;split at h
 ·assumption
 ·exact absurd rfl h
section
variable {X:Cx} {E:XK} {e a c d:Expr} {f fa fb fc:FE} {pos:Pos}
def jL (f:FE):FE:=fun r st=>(f r st).bind fun p s=>match p with
 | .int i => .ok (.int (-i)) s
 |_ => .no
theorem yd (h:VE X E e f):VE X E (.UnaryOp .USub e pos) (jL f):=PE.imp (qLG qId h) fun s H Q ⟨b,r,st,S,R,P⟩=>⟨b,r,st,S,R,PostE.bind P fun p s1 u H1 b1 e1 S1 r1 P1=>by
 split at P1
 ·rename_i i;unfold RV at r1;exact ⟨i,r1,PostE.here P1 S1 Qf⟩
 ·exact P1.elim⟩
end
theorem qHE {k:Nat} {A:Around} {v:Option Value} (h:Room k A) (hk:1≤k:=by omega):Room 1 (A.mark v) :=
 ⟨fun z=>absurd z (by decide),by have:=h.dp;show A.depth + 3 * 1 + 5 < recursionLimit;omega,by have:=h.un;show A.units + 16 * 1 + 200 < cLine;omega,h.gd⟩
theorem wF {n N m:Nat} {B:FS} {l:List PV} {s0:qC} (hl:l.length=n):Refn m (qGt (B (Qh N l) s0)) (qo n N B l s0):=by unfold qo;rw [AH hl];exact Refn.refl
section
variable {P:Program} {w:World} {K:W.Frag} {mg:Str->Option Value} {base:Heap}
theorem yG {x:Str} {st:Stmt} {fa:Addr} {fd:FuncData} {N ps:List Str} {k:Nat} {B:FS} {g:List PV->qC->Rs PV} (F:Fun K x x st fa fd) (S:FnScope N ps (qH st)) (b:L2.Binds K fd ps []) (m:mg x=some (.ref fa)) (hlen:∀ l s,g l s ≠ .no->l.length=ps.length)
  (body:∀ (cdv:Value) (A:Around) (outer:List Env) (s:Shared) (H:Hp) (E:XK),Room k (A.deeper (envOfC x (qH st) s.heap.objs.size fa cdv))->(0 < k->A.handled=none)->VSs (Q7 (CXF P w) P w K mg base N x (qH st) fa cdv A outer s H E) E (qU st) B)
  (hg:∀ l s0,l.length=ps.length->g l s0 ≠ .no->Refn s0.length (qGt (B (Qh N.length l) s0)) (g l s0)):DefG P w K mg base (k + 1) x fa ps.length g :=
 ⟨⟨fd,ps,rfl,okV F S fun cdv A outer s H E hr hc=>⟨B,body cdv A outer s H E hr hc,hg⟩,b,hlen⟩,m,F.kp⟩
end
section
variable {X:Cx} {E:XK} {es:List Expr} {f:FE} {g:FA} {pos:Pos}
theorem qd {c:Const} {j:Nat} (h:VE X E (.Constant c j pos) f) (h2:VA X E es g):VA X E (.Constant c j pos::es) (qA f g):=Q6 h h2 rfl
theorem qN {x:Str} (h:VE X E (.Name x pos) f) (h2:VA X E es g):VA X E (.Name x pos::es) (qA f g):=Q6 h h2 rfl
theorem Q9 {a b c} (h:VE X E (.Call a b c pos) f) (h2:VA X E es g):VA X E (.Call a b c pos::es) (qA f g):=Q6 h h2 rfl
theorem Wz {a b c} (h:VE X E (.BinOp a b c pos) f) (h2:VA X E es g):VA X E (.BinOp a b c pos::es) (qA f g):=Q6 h h2 rfl
theorem Ww {a b} (h:VE X E (.Tuple a b pos) f) (h2:VA X E es g):VA X E (.Tuple a b pos::es) (qA f g):=Q6 h h2 rfl
theorem qLE {a} (h:VE X E (.List a pos) f) (h2:VA X E es g):VA X E (.List a pos::es) (qA f g):=Q6 h h2 rfl
theorem qAz {a b} (h:VE X E (.Subscript a b pos) f) (h2:VA X E es g):VA X E (.Subscript a b pos::es) (qA f g):=Q6 h h2 rfl
theorem qFU {a b} (h:VE X E (.UnaryOp a b pos) f) (h2:VA X E es g):VA X E (.UnaryOp a b pos::es) (qA f g):=Q6 h h2 rfl
theorem qLQ {a b c} (h:VE X E (.Compare a b c pos) f) (h2:VA X E es g):VA X E (.Compare a b c pos::es) (qA f g):=Q6 h h2 rfl
theorem jK {a b c} (h:VE X E (.ListComp a b c pos) f) (h2:VA X E es g):VA X E (.ListComp a b c pos::es) (qA f g):=Q6 h h2 rfl
theorem qLU {a} (h:VE X E (.JoinedStr a pos) f) (h2:VA X E es g):VA X E (.JoinedStr a pos::es) (qA f g):=Q6 h h2 rfl
theorem qL2 {a b c} (h:VE X E (.IfExp a b c pos) f) (h2:VA X E es g):VA X E (.IfExp a b c pos::es) (qA f g):=Q6 h h2 rfl
theorem qL3 {a b} (h:VE X E (.BoolOp a b pos) f) (h2:VA X E es g):VA X E (.BoolOp a b pos::es) (qA f g):=Q6 h h2 rfl
end
section
variable {X:Cx} {E:XK} {e a c d:Expr} {es:List Expr} {f fa fb fc:FE} {fl:FL} {pos:Pos} {F G:FS}
theorem qAX:Wb X (.builtin "divmod") (fun xs H Q => ∃ i j:Int,xs=[.int i,.int j]∧0 < j∧j < 1073741824 ∧ ∀ p,H p=none->Q (.ref p) (upd H p (.tup [.int (i / j),.int (i % j)]))):=by
 intro pins s σ H xs us Q I r h;obtain ⟨i,j,rfl,h1,h2,q⟩:=h;obtain ⟨u,w',rfl,⟨t,rfl⟩,⟨t',rfl⟩⟩:=qCJ r;refine divmod_int (by omega) ?_ (.inl (PyProof.noPylong_small (by omega)))
 rw [Int.fdiv_eq_ediv_of_nonneg i (by omega),Int.fmod_eq_emod_of_nonneg i (by omega)]
 refine ⟨.ref s.heap.objs.size,_,I.laid (t':=s.toks + 1 + 1) (o := .tup [.int (i / j),.int (i % j)]) (fun b ob q=>AG _ q) (AK _) ?_,rfl,q _ (I.hok.fresh (AK _))⟩;exact ⟨show 2≤sizeLine by decide,_,.cons ⟨_,rfl⟩ (.cons ⟨_,rfl⟩ .nil),IsTup.new _ _⟩
def yE:List PV->qC->Rs PV:=fun ps st=>match ps with
 |[.int i,.int j]=>if 0 < j∧j < 1073741824 then .ok (.tup [.int (i / j),.int (i % j)]) st else .no
 |_ => .no
theorem qDd {ta:FA} {p:Pos} (ha:VA X E (e::es) ta) (hm:X.mg "divmod" = none) (hg:Gl X "divmod" := by rfl) (he:starEach (e::es) X.env=(false,eval e X.env)::starEach es X.env:=by rfl) (hpl:(backTo pos (starEach es X.env)).any (·.1)=false:=by rfl):VE X E (.Call (.Name "divmod" p) (e::es) [] pos) (qI yE ta) :=
 WB qAX (fun H b st ps vs Q S r P=>by
  unfold yE at P;split at P
  ·rename_i i j;split at P
   ·rename_i hc;obtain ⟨v,w,rfl,r1,r2⟩:=RVs.two r;unfold RV at r1 r2;subst r1;subst r2;exact ⟨i,j,rfl,hc.1,hc.2,fun p hp=>PostE.layT P S (RVs.cons Qf (RVs.cons Qf RVs.nil)) hp⟩
   ·exact P.elim
  ·exact P.elim) hg hm PyProof.Rows.boot_divmod ha (he:=he) (hpl:=hpl)
def qDc (p:PV):List PV->Nat
 |[]=>0
 |q::qs=>(if peq q p=true then 1 else 0) + qDc p qs
theorem jZ {p:PV} {g:Value->Bool}:∀ {l:List PV} {its:List Value},l.length=its.length->(∀ (i:Nat) (q:PV) (y:Value),l[i]? = some q->its[i]? = some y->g y=peq q p)->its.countP g=qDc p l
 |[],[],_,_=>rfl
 |q::qs,y::ys,hl,h=>by
  rw [List.countP_cons,jZ (l:=qs) (its:=ys) (by simpa using hl) fun i q' y' h1 h2=>h (i + 1) q' y' (by simpa using h1) (by simpa using h2),h 0 q y rfl rfl]
  show _=(if peq q p=true then 1 else 0) + qDc p qs;rw [Nat.add_comm]
 |[],_::_,hl,_=>by simp at hl
 |_::_,[],hl,_=>by simp at hl
theorem qD8 (hr:X.A.units + 64 < cLine):MtM X "list.count" (fun x vs H Q => ∃ l xs a p v,x = .ref a∧vs=[v]∧SqL X.K H a xs∧RWs X.K H l xs∧RW X.K H p v∧deps l≤zg∧Q (.int (qDc p l)) H):=by
 intro pins s σ H x vs v us Q I rx rv h;obtain ⟨l,xs,ad,p,y,rfl,rfl,hs,hl,hp,hd,q⟩:=h;cases rx;obtain ⟨u,rfl,ru⟩:=rv.one;obtain ⟨its,r',pl,hz⟩:=I.list hs;obtain ⟨⟨c1,d1,a1,s1⟩,o1,e1,m1,f1⟩:=id pl.isList;have e1:c1=_:=e1;have f1:a1=_:=f1;subst e1;subst f1;have hA:X.A.in1.units + 60 < cLine:=by show X.A.units + 1 + 60 < cLine;omega
 obtain ⟨g,g1,g2⟩:=qE5 I hp ru hA hl r' hd;have n1:l.length=its.length:=by rw [hl.length,r'.length]
 refine call_meets F.slot_list_count ⟨_,o1,rfl⟩ F.entry_list_count (F.args_list_count_2 _ _) (SeqAt.list_countAt ad its.toArray m1 d1 s1 u g) ⟨o1,fun y hy=>g1 y (by simpa using hy),⟨.int (qDc p l),H,I.tok _,⟨s.toks,?_⟩,q⟩⟩
 show Value.int ((its.toArray.toList.countP g:Nat):Int) s.toks=_;rw [show its.toArray.toList=its from rfl,jZ (its:=its) n1 g2]
def qBa (fo f:FE):FE:=fun r st=>(fo r st).bind fun o s1=>match asL s1 o with
 |some _=>(f r s1).bind fun p s2=>match asL s2 o with
  |some l=>if nrs l=true∧nr p=true∧deps l≤zg then .ok (.int (qDc p l)) s2 else .no
  |none => .no
 |none => .no
theorem qFZ {fo:FE} {o:Expr} {apos cpos:Pos} (hr:X.A.units + 64 < cLine) (ho:VE X E o fo) (h:VE X E e f) (hbase:attributeBase o "count" X.env (eval o X.env)=eval o X.env:=by rfl)
  (hfew:((backTo cpos (starEach [e] X.env)).all (fun x => !x.1)&&(backToKw cpos (keywordEach [] X.env)).all (fun x=>x.1.isSome)&&decide ([e].length + ([]:List Keyword).length + (if ([]:List Keyword).isEmpty then 0 else 1) < 30))=true:=by rfl)
  (hline:(apos.endLine==cpos.line)=true:=by rfl) (h1:starEach [e] X.env=(false,eval e X.env)::starEach [] X.env:=by rfl) (hplain:(backTo cpos (starEach [] X.env)).any (·.1)=false:=by rfl) :
  VE X E (.Call (.Attribute o "count" apos) [e] [] cpos) (qBa fo f) :=
 PE.imp (qEg PySem.F.plainAttrs_list PySem.F.slot_list_count PySem.F.type_list_count (qD8 hr) ho (Z3 h Yd h1) hbase hfew hline h1 hplain) fun s H Q ⟨b,r,st,S,R,P⟩=>⟨b,r,st,S,R,PostE.bind P fun o s1 u H1 b1 e1 S1 r1 P1=>by
  split at P1
  ·rename_i l1 el1;obtain ⟨x,xs,rfl,h2,h3⟩:=wH S1 r1 el1;refine ⟨.inl ⟨rfl,xs,h2⟩,b1,r,s1,S1,R.ext e1,PostE.bind P1 fun p s2 v H2 b2 e2 S2 r2 P2 => ?_⟩;split at P2
   ·rename_i l el;split at P2
    ·rename_i hc;obtain ⟨x',ys,ex,h4,h5⟩:=wH S2 (RV.ext e2 o r1) el;cases ex;exact ⟨l,ys,x,p,v,rfl,rfl,h4,RVs.rws l hc.1 h5,RV.rw p hc.2.1 r2,hc.2.2,PostE.here P2 S2 Qf⟩
    ·exact P2.elim
   ·exact P2.elim
  ·exact P1.elim⟩
theorem qJg:VE X E (.Dict [] [] pos) (vC .dct):=PE.imp qE3 fun s H Q ⟨b,r,st,S,R,P⟩ p hp=>by refine P (.ref p) _ b (Ext.new hp) (S.new hp) ?_;unfold RV;exact ⟨p,rfl,Qr,S.new_notin hp⟩
end
section
variable {X:Cx} {E:XK} {es:List Expr} {f:FE} {g:FA} {pos:Pos}
theorem qLP {a b} (h:VE X E (.Dict a b pos) f) (h2:VA X E es g):VA X E (.Dict a b pos::es) (qA f g):=Q6 h h2 rfl
end
section
variable {X:Cx} {E:XK} {e a c d:Expr} {es:List Expr} {f fa fb fc:FE} {pos:Pos}
def CMulB (i j:Int):Prop:=Builtin.Int.intBits i + Builtin.Int.intBits j≤bitsLine
theorem CMulB.ok {i j:Int} (h:CMulB i j):IntMulOk i j:=by
 unfold IntMulOk Builtin.Int.intTooBig;have h':¬ (((Builtin.Int.intBits i:Int) + (Builtin.Int.intBits j:Int)) > (bitsLine:Int)):=by unfold CMulB at h;omega
 rw [AV h'];simp
theorem qHT:OpR X (binaryOp .Mult) (rI CMulB fun i j => .int (i * j)):=opI fun _ _ _ _ _ _ _ hc q=>mul_int q hc.ok
def qCx:=gI fun i j=>if Builtin.Int.intBits i + Builtin.Int.intBits j≤bitsLine then some (.int (i * j)) else none
theorem qGV (ha:VE X E a fa) (hb:VE X E c fb):VE X E (.BinOp a .Mult c pos) (qP qCx fa fb):=Z6 qHT (qFH fun i j z e=>by
 split at e
 ·rename_i hc;cases e;exact ⟨hc,fun _ _=>Qf⟩
 ·cases e) ha hb
theorem qJ3 {i j:Int} {st:qC} (h:Builtin.Int.intBits i + Builtin.Int.intBits j≤bitsLine):qCx (.int i) (.int j) st = .ok (.int (i * j)) st:=by unfold qCx gI;dsimp only;rw [AH h]
theorem Jn {x:Int} {n:Nat} (h:x.natAbs < 2 ^ n):Builtin.Int.intBits x≤n:=by
 unfold Builtin.Int.intBits;by_cases h0:x=0
 ·subst h0;exact A7 _
 ·rw [AJ (by simpa using h0)]
  have:x.natAbs≠0:=by omega
  exact (Nat.log2_lt this).mpr h
theorem qF5 {x:Int} {n:Nat} (h:Builtin.Int.intBits x≤n):x.natAbs < 2 ^ n:=by
 unfold Builtin.Int.intBits at h;by_cases h0:x=0
 ·subst h0;exact Nat.two_pow_pos n
 ·rw [AJ (by simpa using h0)] at h
  have:x.natAbs≠0:=by omega
  exact (Nat.log2_lt this).mp (by omega)
end
end EV
end
section
namespace Att
open PySem PySem.W PySem.Calls PyProof.Rows
theorem Y6:∀ {ns:List Int} {n:Int},n∈ns->WData.weight (.int n)≤WData.weightAll (ns.map WData.int)
 |m::ns,n,h=>by
  show _≤WData.weight (.int m) + 1 + WData.weightAll (ns.map WData.int);rcases AE.mp h with rfl |h
  ·omega
  ·have:=Y6 h;omega
theorem qAA {ns:List Int} (h:WData.layableAll [WData.list (ns.map WData.int)]=true):∀ n∈ns,Builtin.Int.intBits n≤2 ^ 20:=by
 intro n hn;unfold WData.layableAll at h;have h1:WData.layable (WData.list (ns.map WData.int))=true:=by simpa using h
 unfold WData.layable at h1;rw [AZ] at h1;have h2:WData.weight (WData.list (ns.map WData.int))≤2 ^ 20:=Aq h1.2;have h3:WData.weightAll (ns.map WData.int)≤2 ^ 20:=h2;exact Ae (Y6 hn) h3
theorem attach_callB {l:OpenLaw} {n:Nat} {q:Program} {loose:List Str} {XP:(Str->Option Value)->Heap->Prop} {YP:World->Heap->Prop} {d:DefRec}
  (hn:l.most=some n) (hdf:d.params.defaults=[])
  (call:∀ (w:World) (s₀ s₁:Shared) (mg mb:Str->Option Value) (fa:Addr) (o:Obj) (pm cd doc:Value) (a:Addr) (vs:List Value) (ns:List Int),
   Ground q loose [] XP w s₀ mg mb s₁.heap->YP w s₁.heap ->
   s₁.heap.get? fa=some o->o.data = .func (docDef d.name d.params d.body d.scope pm cd doc)->s₁.heap.CodeRec cd d.name->mg d.name=some (.ref fa) ->
   s₁.heap.get? a=some { cls := .type "list",data := .seq vs.toArray }->IntsAre vs ns->ns.length≤n->(∀ k∈ns,Builtin.Int.intBits k≤2 ^ 20)->s₁.gens = #[] ->
   codeAny (model l.prog w) callerA (.call (.ref fa) ⟨[.ref a],[]⟩) (fun r s'=>r = .ok (.ret (.bool true))∧OldK s₁.heap s'.heap∧s'.os=s₁.os∧AllBare s'.gens) s₁) :
  WalkO q loose XP YP l.row.toRowW d [] (fun f vs=>PySem.call f vs):=by intro w s₀ s₁ mg mb G Y fa o pm cd doc dV kV ho hd hcd hD hmg hg args vals as hpre hlay hrd hwl hlo;obtain rfl:dV = .none:=Dflts.none hD hdf;obtain rfl:kV = .none:=Dflts.noKw hD;obtain ⟨a,vs,ns,rfl,rfl,hobj,hints,hlen⟩:=qDu hn hpre hwl;refine enter_call (codeAny_mono (call w s₀ s₁ mg mb fa o pm cd doc a vs ns G Y ho (fd_plain hd) hcd hmg hobj hints hlen (qAA hlay) hg) fun r s' hq => ?_);obtain ⟨rfl,h2,h3,h4⟩:=hq;exact ⟨.inl ⟨.bool true,.bool true,[],rfl,fun _=>rfl,.bool true,qC5 l _,fun _=>⟨List.Pairwise.nil,fun _ hm=>(nomatch hm)⟩⟩,h2,h3,h4⟩
end Att
end
section
namespace EX
open PySem PySem.Spec PyProof.Rows L2
section
variable {X:Cx} {pins:List (Addr×Obj)} {σ:L2.St} {H:Hp} {s:Shared}
theorem qDg:Wb X (.builtin "max") (fun xs H Q => ∃ (p:Addr) (ns:List Int) (m:Int),xs=[.ref p]∧SqL X.K H p (ns.map V.int)∧ns.max? = some m∧Q (.int m) H):=by
 intro pins s σ H xs us Q I r h;obtain ⟨p,ns,m,rfl,hq,hm,q⟩:=h;obtain ⟨u,rfl,rx⟩:=yA r;cases rx;obtain ⟨its,r',pl,hz⟩:=I.list hq;have hl:=r'.length;rw [AC] at hl;have hne:ns≠[]:=by intro z;subst z;cases hm
 have hpos:0 < ns.length:=CQ.mpr hne;have hsz:its.toArray.size=ns.length:=by rw [AO,← hl]
 refine call_max_walk (yX I pl fun W st fp k=>⟨_,_,_,_,_,_,_,rfl,W,st,fp,by rw [hsz];exact hpos,CmpOf.ints_gt (fun i=>ns.getD i 0) fun i v hv=>ZF r' (by simpa using hv),fun v h' tk hv hk => ?_⟩)
 rw [hsz] at hv;rw [List.getElem?_toArray] at hv;obtain ⟨t,rfl⟩:=ZF r' hv;obtain ⟨g1,g2⟩:=argBest_gt (fun i=>ns.getD i 0) (ns.length - 1);rw [EV.max_at hm g1 g2];exact ⟨.int m,H,I.kept (t':=tk) (k h' hk),⟨t,rfl⟩,q⟩
end
end EX
namespace EV
open PySem PySem.Spec PyProof.Rows L2 EX
section
variable {X:Cx} {E:XK} {e a c d:Expr} {es:List Expr} {f fa fb fc:FE} {fl:FL} {pos:Pos} {F G:FS}
def qL1:List PV->qC->Rs PV:=fun ps st=>match ps with
 |[.tup l]=>match Q3 qAL l with
  |some ns => .ok (.int ns.sum) st
  |none => .no
 |_ => .no
def jt:List PV->qC->Rs PV:=fun ps st=>match ps with
 |[p]=>match asL st p with
  |some l=>match Q3 qAL l with
   |some ns=>match ns.max? with
    |some m => .ok (.int m) st
    |none => .no
   |none => .no
  |none => .no
 |_ => .no
theorem qG0 {ta:FA} {p:Pos} (ha:VA X E (e::es) ta) (hm:X.mg "max" = none) (hg:Gl X "max" := by rfl) (he:starEach (e::es) X.env=(false,eval e X.env)::starEach es X.env:=by rfl) (hpl:(backTo pos (starEach es X.env)).any (·.1)=false:=by rfl):VE X E (.Call (.Name "max" p) (e::es) [] pos) (qI jt ta) :=
 WB qDg (fun H b st ps vs Q S r P=>by
  unfold jt at P;split at P
  ·rename_i p';split at P
   ·rename_i l el;split at P
    ·rename_i ns en;split at P
     ·rename_i m em;obtain ⟨v,rfl,r1⟩:=RVs.one r;obtain ⟨x,xs,rfl,h2,h3⟩:=wH S r1 el;rw [YM h3 en] at h2;exact ⟨x,ns,m,rfl,h2,em,PostE.here P S Qf⟩
     ·exact P.elim
    ·exact P.elim
   ·exact P.elim
  ·exact P.elim) hg hm Boot.«max» ha (he:=he) (hpl:=hpl)
end
end EV
end
section
namespace HT
open PySem PySem.Spec PyProof.Rows L2
end HT
namespace L2
open PySem PySem.Spec PyProof.Rows
end L2
end
section
namespace EV
open PySem PySem.Spec PyProof.Rows L2
end EV
namespace EV
open PySem PySem.Spec PyProof.Rows L2
end EV
end
section
namespace EX
open PySem PySem.Spec PyProof.Rows L2
end EX
namespace EV
open PySem PySem.Spec PyProof.Rows L2 EX
end EV
end
section
namespace EV
open PySem PySem.Spec PyProof.Rows L2 EX
section
variable {X:Cx} {E:XK}
def qJR (sc:Scope) (x:Str):Bool:=match sc.names.lookup x with
 |some .local=>true
 |some .cell=>true
 |some .free=>true
 |_=>false
theorem qIm {sc:Scope} {x:Str} (h:qJR sc x=true):Vis sc x:=by
 unfold qJR at h;unfold Vis;split at h
 ·rename_i e;exact .inl e
 ·rename_i e;exact .inr (.inl e)
 ·rename_i e;exact .inr (.inr e)
 ·cases h
theorem qG (i:Nat) {x:Str} {pos:Pos} (hN:X.N[i]? = some x:=by rfl) (hv:qJR X.env.scope x=true:=by rfl) (hd:((x==("__debug__":Str)) || (x==("__classdict__":Str)))=false:=by rfl):VE X E (.Name x pos) (qB i):=by rw [Bool.or_eq_false_iff] at hd;exact qKr (pv i hN (qIm hv) hd.1 hd.2)
def frB (X:Cx):List (Str×NameKind)->Bool
 |[]=>true
 |(x,.free)::l=>(match X.env.kindOf x with |some .cell=>true |some .free=>true |_=>false)&&frB X l
 |_::l=>frB X l
theorem qFN:∀ {l:List (Str×NameKind)},frB X l=true -> ∀ x∈l,x.2 = .free->(X.env.kindOf x.1=some .cell∨X.env.kindOf x.1=some .free)
 |[],_,x,hx,_=>by cases hx
 |(y,k)::l,h,x,hx,hk=>by
  rcases AE.mp hx with rfl |hx
  ·have hk:k = .free:=hk;subst hk;unfold frB at h;rw [AZ] at h;have h:=h.1;split at h
   ·rename_i e;exact .inl e
   ·rename_i e;exact .inr e
   ·cases h
  ·refine qFN (l:=l) ?_ x hx hk;unfold frB at h;split at h
   ·rename_i he;cases he
   ·rename_i he;cases he;rw [AZ] at h;exact h.2
   ·rename_i he;cases he;exact h
def qG6 (X:Cx) (l:List (Str×NameKind)):List Str->List Nat->Prop
 |x::xs,j::js=>(X.N[j]? = some x∧l.lookup x=some .free)∧qG6 X l xs js
 |_,_=>True
theorem Y9 {x:Str} {k:NameKind}:∀ {l:List (Str×NameKind)},l.lookup x=some k->(x,k)∈l
 |[],h=>by cases h
 |(y,q)::l,h=>by
  rw [Az] at h;split at h
  ·rename_i e;cases h;rw [eq_of_beq e];exact AI
  ·exact AD _ (Y9 h)
theorem qCH {l:List (Str×NameKind)}:∀ {xs:List Str} {js:List Nat},qG6 X l xs js -> ∀ (i:Nat) (x:Str) (j:Nat),xs[i]? = some x->js[i]? = some j->X.N[j]? = some x∧(x,NameKind.free)∈l
 |[],_,_,i,x,j,h1,_=>by cases h1
 |_::_,[],_,i,x,j,_,h2=>by cases h2
 |a::xs,b::js,h,i,x,j,h1,h2=>by
  unfold qG6 at h;cases i with
  |zero=>cases h1;cases h2;exact ⟨h.1.1,Y9 h.1.2⟩
  |succ i=>exact qCH h.2 i x j h1 h2
theorem QR {scope:Scope} {capN locN:List Str} {caps:List Nat} (h1:scope.kind = .function) (h2:(scope.names.map (·.1)).Nodup) (h3:frB X scope.names=true) (h4:capN.length=caps.length) (h5:qG6 X scope.names capN caps):CSc X scope capN locN caps :=
 ⟨h1,h2,qFN h3,h4,qCH h5⟩
end
end EV
end
section
namespace EX
open PySem PySem.Spec PyProof.Rows L2
end EX
namespace EV
open PySem PySem.Spec PyProof.Rows L2 EX
end EV
end
section
namespace EV
open PySem PySem.Spec PyProof.Rows L2 EX
section
variable {X:Cx} {E:XK} {e:Expr} {es:List Expr} {pos:Pos}
theorem qL4 {a:Expr} {n:Str} {f:FE} {g:FA} (h:VE X E (.Attribute a n pos) f) (h2:VA X E es g):VA X E (.Attribute a n pos::es) (qA f g):=Q6 h h2 rfl
end
end EV
end
section
namespace EX
open PySem PySem.Spec PyProof.Rows L2
end EX
namespace EV
open PySem PySem.Spec PyProof.Rows L2 EX
end EV
end
section
namespace EX
open PySem PySem.Spec PyProof.Rows L2
end EX
namespace EV
open PySem PySem.Spec PyProof.Rows L2 EX
end EV
end
section
namespace EX
open PySem PySem.Spec PyProof.Rows L2
end EX
namespace EV
open PySem PySem.Spec PyProof.Rows L2 EX
end EV
end
section
namespace EV
open PySem PySem.Spec PyProof.Rows L2 EX
section
variable {X:Cx} {E:XK} {e a c d:Expr} {es:List Expr} {f fa fb fc:FE} {fl:FL} {pos:Pos} {F G:FS}
def qFB (f:FE) (lo hi:FO):FE:=fun r st=>(f r st).bind fun p s1=>(lo r s1).bind fun k s2=>(hi r s2).bind fun m s3=>match asL s3 p with
 |some l => .ok (.lst (ZT l k m)) s3
 |none => .no
theorem qGW {l:List PV} {xs:List V} (h:l.length=xs.length) {K:W.Frag} {H:Hp} {b:Bz} (r:RVs K H b l xs) (k m:Option Int):RVs K H b (ZT l k m) (jF xs k m):=by unfold ZT jF;rw [h];exact RVs.take _ (RVs.drop _ r)
theorem qJ0 {lo hi:Option Expr} {flo fhi:FO} {p2:Pos} (h:VE X E e f) (hl:VO X E lo flo) (hh:VO X E hi fhi):VE X E (.Subscript e (.Slice lo hi none p2) pos) (qFB f flo fhi) :=
 PE.imp (qA2 qHC h hl hh) fun s H Q ⟨b,r,st,S,R,P⟩=>⟨b,r,st,S,R,PostE.bind P fun p s1 u H1 b1 e1 S1 r1 P1=>⟨b1,r,s1,S1,R.ext e1,PostO.bind P1 fun k s2 H2 b2 e2 S2 P2=>⟨b2,r,s2,S2,(R.ext e1).ext e2,PostO.bind P2 fun m s3 H3 b3 e3 S3 P3=>by
  split at P3
  ·rename_i l el;obtain ⟨x,xs,rfl,h2,h3⟩:=wH S3 (RV.ext e3 _ (RV.ext e2 _ r1)) el;refine ⟨x,xs,rfl,h2,fun p hp=>PostN.lay (PostN.of (r := .ok (ZT l k m) s3) P3) S3 (qGW h3.length h3 k m) hp⟩
  ·exact P3.elim⟩⟩⟩
end
end EV
end
section
namespace EX
open PySem PySem.Spec PyProof.Rows L2
end EX
namespace EV
open PySem PySem.Spec PyProof.Rows L2 EX
end EV
end
section
namespace EX
open PySem PySem.Spec PyProof.Rows L2
def byT (w:World):Bool:=w.params.followText "set-order"
section
variable {prog:Program} {w:World} {A:Around} {E:Value->Shared->Prop} {s:Shared}
theorem qCr {a:Value} {Q:Value->Shared->Prop} (h:Q (.ref s.heap.objs.size) { s with heap:=s.heap.push { cls := .type "set",data := .set #[] 0 (SetTable.fresh 0 0 (!byT w)) } }) :
  codeAny (model prog w) A (.call (.builtin "set.__new__") ⟨[.type "set",a],[]⟩) (wants Q E) s:=by
 refine CI F.plain_set_new F.entry_set_new (Ao (F.newCall_set_1 a) ?_);unfold Builtin.«set.__new__» Builtin.Frozenset.newClass;dsimp only;refine AA (AA (Ao (a:=true) rfl ?_));rw [AJ (by decide)]
 refine AA (Ao sub_set_self ?_);rw [AJ (by decide)]
 refine AF (AA ?_);unfold newSet setsByText;refine AA (AA (wpAny_askSetting (AF ?_)));dsimp only;unfold newObj;dsimp only;rw [AJ (by decide)]
 unfold newObjAsIs;refine AA (wpAny_alloc ?_);dsimp only;exact AF (AF h)
end
end EX
namespace EV
open PySem PySem.Spec PyProof.Rows L2 EX
section
variable {X:Cx} {E:XK} {e:Expr} {f:FE} {p p2 pos pos2:Pos}
theorem zw {K:W.Frag} {H:Hp} {b:Bz}:∀ (ns:List Int),RVs K H b (ns.map PV.int) (ns.map V.int)
 |[]=>RVs.nil
 |n::ns=>RVs.cons Qf (zw ns)
end
end EV
end
section
namespace EX
open PySem PySem.Spec PyProof.Rows L2
inductive LexG (A:Around) (s:Shared) (r:Bool):List Value->List Value->Prop where
 |nn:r=false->LexG A s r [] []
 |nc {w ws}:r=true->LexG A s r [] (w::ws)
 |cn {v vs}:r=false->LexG A s r (v::vs) []
 |eq {v vs w ws}:SeqAt.EqAt A s v w true->LexG A s r vs ws->LexG A s r (v::vs) (w::ws)
 |ne {v vs w ws}:SeqAt.EqAt A s v w false->(∀ (prog:Program) (wd:World) (E:Value->Shared->Prop) (Q:Value->Shared->Prop),Q (.bool r) s->wpAny (model prog wd) A (richCompare .Lt v w) Q E s)->LexG A s r (v::vs) (w::ws)
section
open PySem.SeqAt
open PySem.AutoSeq1 (wpAny_loadPart')
open PySem.MeetsSeq PySem.MeetsSeq2 PySem.MeetsSeq3
theorem Jl (l b:Addr) (items items2:Array Value) (n n2:Nat) (dd dd2:Option Addr) (sl sl2:Array (Option Value)) (r:Bool) :
  Meets (Builtin.«tuple.__lt__» ⟨[.ref l,.ref b],[]⟩)
   (fun A R s=>s.heap.get? l=some { cls := .type "tuple",dict:=dd,data := .seq items n,slots:=sl }∧s.heap.get? b=some { cls := .type "tuple",dict:=dd2,data := .seq items2 n2,slots:=sl2 }∧LexG A.in1 s r items.toList items2.toList ∧
    R (.ok (.ret (.bool r))) s) :=
 .of_wp fun prog w A R s h=>by
  obtain ⟨hp,g,d,tk,os⟩:=s;obtain ⟨hl,hb,hG,h⟩:=h;have f2:=AutoSeq1.sub_tuple_tuple
  wp_walk using wpAny_loadPart' hl,wpAny_loadPart' hb,B4 _ (fun rest b s'=>b.1=none∧s'=⟨hp,g,d,tk,os⟩ ∧ ∃ (vs ws:List Value),rest=vs.zip ws∧LexG A.in1 ⟨hp,g,d,tk,os⟩ r vs ws ∧
   vs.length + items2.size=ws.length + items.size) _
  case turn =>
   rintro ⟨y,x⟩ rest b s' ⟨hb',rfl,vs,ws,hz,hG',hlen⟩
   cases hG' with
   |nn _=>cases hz
   |nc _=>cases hz
   |cn _=>rw [List.zip_nil_right] at hz;cases hz
   |eq he hG2 =>
    rw [Ar] at hz;injection hz with hyx hrest;injection hyx with hy hx;subst hy hx;simp only [AM] at hlen;refine AA (he prog w _ _ ?_)
    wp_walk
    exact ⟨rfl,rfl,_,_,hrest,hG2,by omega⟩
   |ne he hc =>
    rw [Ar] at hz;injection hz with hyx hrest;injection hyx with hy hx;subst hy hx;refine AA (he prog w _ _ ?_);have hri:=hc prog w
    wp_walk using hri
    exact ⟨_,rfl,by simpa using h⟩
  case fin =>
   rintro ⟨b1,b2⟩ s' ⟨hb',rfl,vs,ws,hz,hG',hlen⟩
   simp only at hb';subst hb';have hv:r=decide (items.size < items2.size):=by
    cases hG' with
    |nn hr =>simp only [BS] at hlen;rw [hr];exact (AV (by omega)).symm
    |nc hr =>simp only [BS,AM] at hlen;rw [hr];exact (AQ (by omega)).symm
    |cn hr =>simp only [BS,AM] at hlen;rw [hr];exact (AV (by omega)).symm
    |eq he hG2=>rw [Ar] at hz;cases hz
    |ne he hc=>rw [Ar] at hz;cases hz
   rw [hv] at h
   wp_walk
   exact ⟨_,rfl,by simpa [Builtin.Tuple.tupleCompareSizes] using h⟩
  case h =>exact ⟨rfl,rfl,items.toList,items2.toList,rfl,hG,by simp;omega⟩
end
end EX
namespace EV
open PySem PySem.Spec PyProof.Rows L2 EX
mutual
def plt:PV->PV->Option Bool
 | .int i,.int j=>some (decide (i < j))
 | .tup l,.tup m=>plts l m
 |_,_=>none
def plts:List PV->List PV->Option Bool
 |[],[]=>some false
 |[],_::_=>some true
 |_::_,[]=>some false
 |p::ps,q::qs=>if peq p q=true then plts ps qs else plt p q
end
section
variable {X:Cx} {pins:List (Addr×Obj)} {σ:L2.St} {H:Hp} {s:Shared}
def qKP (X:Cx) (H:Hp) (s:Shared) (A:Around) (p q:PV):Prop := ∀ {v u:V} {uv uu:Value} {r:Bool},RW X.K H p v->RW X.K H q u->RelV v uv->RelV u uu->plt p q=some r ->
  ∀ (prog:Program) (wd:World) (E:Value->Shared->Prop) (Q:Value->Shared->Prop),Q (.bool r) s->wpAny (model prog wd) A (richCompare .Lt uv uu) Q E s
theorem qJx (I:L2.Inv X pins σ H s) {n:Nat} {A:Around} {r:Bool} (hu:A.units + n < cLine) (ih:∀ p q,dep p≤n->qKP X H s A p q):∀ {l m:List PV} {xs ys:List V} {its its2:List Value},deps l≤n->RWs X.K H l xs->RWs X.K H m ys->Vals xs its->Vals ys its2->plts l m=some r->LexG A s r its its2:=by
 intro l;induction l with
 |nil =>
  intro m xs ys its its2 _ h1 h2 r1 r2 e;unfold RWs at h1;subst h1;cases r1;cases m with
  |nil=>unfold RWs at h2;subst h2;cases r2;unfold plts at e;cases e;exact .nn rfl
  |cons q qs=>unfold RWs at h2;obtain ⟨y,yr,rfl,_,_⟩:=h2;cases r2;unfold plts at e;cases e;exact .nc rfl
 |cons p ps ihl =>
  intro m xs ys its its2 hd h1 h2 r1 r2 e;unfold RWs at h1;obtain ⟨x,xr,rfl,hx,hxs⟩:=h1;unfold deps at hd;cases r1 with
  |cons rx rxs =>
   cases m with
   |nil=>unfold RWs at h2;subst h2;cases r2;unfold plts at e;cases e;exact .cn rfl
   |cons q qs =>
    unfold RWs at h2;obtain ⟨y,yr,rfl,hy,hys⟩:=h2;cases r2 with
    |cons ry rys =>
     have he:=qA4 I n p q x y _ _ A (by omega) hu hx hy rx ry
     unfold plts at e;cases hq:peq p q with
     |true =>rw [hq] at e he;exact .eq he (ihl (by omega) hxs hys rxs rys e)
     |false =>rw [hq] at e he;exact .ne he (ih p q (by omega) hx hy rx ry e)
theorem qKo (I:L2.Inv X pins σ H s):∀ (n:Nat) (p q:PV) (A:Around),dep p≤n->A.units + n < cLine->qKP X H s A p q:=by
 intro n;induction n with
 |zero =>
  intro p q A hd hu v u uv uu r hp hq rv ru e prog wd E Q h;cases p with
  |int i =>
   cases q with
   |int j =>unfold RW at hp hq;subst hp;subst hq;obtain ⟨t,rfl⟩:=rv;obtain ⟨t',rfl⟩:=ru;unfold plt at e;cases e;exact HT.rcLt_int A s i t j t' prog wd E Q h
   |_=>simp [plt] at e
  |tup l=>unfold dep at hd;omega
  |_=>cases q <;> simp [plt] at e
 |succ n ih =>
  intro p q A hd hu v u uv uu r hp hq rv ru e prog wd E Q h;cases p with
  |int i =>
   cases q with
   |int j =>unfold RW at hp hq;subst hp;subst hq;obtain ⟨t,rfl⟩:=rv;obtain ⟨t',rfl⟩:=ru;unfold plt at e;cases e;exact HT.rcLt_int A s i t j t' prog wd E Q h
   |_=>simp [plt] at e
  |tup l =>
   cases q with
   |tup m =>
    unfold RW at hp hq;obtain ⟨a,xs,rfl,h2,h3⟩:=hp;obtain ⟨a',ys,rfl,k2,k3⟩:=hq;cases rv;cases ru;obtain ⟨its,r1,t1,_⟩:=I.tuple h2;obtain ⟨its2,r2,t2,_⟩:=I.tuple k2;unfold plt at e;unfold dep at hd;obtain ⟨⟨cls,dd,data,sl⟩,ho,hc,n1,hda⟩:=id t1;obtain ⟨⟨cls2,dd2,data2,sl2⟩,ho2,hc2,n2,hda2⟩:=id t2;simp only at hc hda hc2 hda2;subst hc hda hc2 hda2;have hu1:A.in1.units + n < cLine:=by show A.units + 1 + n < cLine;omega
    have G:=qJx I (n:=n) (A:=A.in1) hu1 (fun p q hd=>ih p q A.in1 hd hu1) (by omega) h3 k3 r1 r2 e
    exact richCompare_meets_room (op := .Lt) ⟨_,ho,rfl⟩ ⟨_,ho2,rfl⟩ PySem.F.slot_tuple_lt PySem.F.entry_tuple_lt (PySem.F.args_tuple_lt_2 _ _) (Jl _ _ its.toArray its2.toArray n1 n2 dd dd2 sl sl2 r)
     ⟨ho,ho2,by simpa using G,show Value.bool r≠Value.notImplemented∧Q (.bool r) s from ⟨(fun x=>nomatch x),h⟩⟩ (by omega)
   |_=>simp [plt] at e
  |_=>cases q <;> simp [plt] at e
end
section
variable {X:Cx} {E:XK} {a c:Expr} {fa fb:FE} {pos:Pos}
def qKd (K:W.Frag):R2:=fun u v H Q => ∃ p q r,RW K H p u∧RW K H q v∧dep p≤zg∧plt p q=some r∧Q (.bl r) H
theorem qJD (hr:X.A.units + 64 < cLine):OpR X (compareOp .Lt) (qKd X.K):=by intro pins s σ H x y v u Q I rx ry h;obtain ⟨p,q,r,hp,hq,hd,e,h⟩:=h;exact qKo I 60 p q X.A hd (by omega) hp hq rx ry e _ _ _ _ ⟨.bl _,H,I,rfl,h⟩
def qC3:PV->PV->qC->Rs PV:=fun p q st=>if zd (res st p) (res st q)=true then (match plt (res st p) (res st q) with |some r => .ok (.bl r) st |none => .no) else .no
theorem qJe:OpG X E (qKd X.K) qC3:=by
 intro H b st p q u v Q S rp rq P;unfold qC3 at P;split at P
 ·rename_i h;obtain ⟨h1,h2,h3⟩:=Y3 h;split at P
  ·rename_i r hr;exact ⟨_,_,r,Zw S rp h1,Zw S rq h2,h3,hr,PostE.here P S zj⟩
  ·exact P.elim
 ·exact P.elim
theorem qIH (hu:X.A.units + 64 < cLine) (ha:VE X E a fa) (hb:VE X E c fb):VE X E (.Compare a [.Lt] [c] pos) (qP qC3 fa fb):=Ya (qJD hu) qJe ha hb
end
end EV
end
section
namespace ET
open PySem
def Rz (xs:Array Nat):Prop := ∀ i k,i < k->k < xs.size->xs.getD i 0 < xs.getD k 0
theorem qHQ {xs:Array Nat} {i a b:Nat} (h:i < xs.size):xs.getD i a=xs.getD i b:=by rw [AL,AL,AS h];rfl
theorem Yj {xs:Array Nat} {j:Nat} (R:Rz xs):∀ (f lo hi:Nat),lo≤hi->hi≤xs.size->hi - lo≤f->(∀ i,i < lo->xs.getD i 0 < j)->(∀ i,hi≤i->i < xs.size->j≤xs.getD i 0) ->
  (∀ i,i < SetTable.below.go xs j f lo hi->xs.getD i 0 < j)∧(∀ i,SetTable.below.go xs j f lo hi≤i->i < xs.size->j≤xs.getD i 0)∧SetTable.below.go xs j f lo hi≤xs.size
 |0,lo,hi,h1,h2,h3,h4,h5=>by
  have:lo=hi:=by omega
  subst this;exact ⟨h4,h5,h2⟩
 |f + 1,lo,hi,h1,h2,h3,h4,h5=>by
  unfold SetTable.below.go;by_cases hl:lo < hi
  ·rw [AH hl];have hm1:lo≤(lo + hi) / 2:=by omega
   have hm2:(lo + hi) / 2 < hi:=by omega
   dsimp only;rw [qHQ (b:=0) (show (lo + hi) / 2 < xs.size by omega)]
   by_cases hq:xs.getD ((lo + hi) / 2) 0 < j
   ·rw [AH hq];refine Yj R f _ _ (by omega) h2 (by omega) (fun i hi' => ?_) h5
    by_cases he:i=(lo + hi) / 2
    ·rw [he];exact hq
    ·exact Nat.lt_trans (R i _ (by omega) (by omega)) hq
   ·rw [AJ hq];refine Yj R f _ _ (by omega) (by omega) (by omega) h4 (fun i hi' hs => ?_)
    by_cases he:i=(lo + hi) / 2
    ·rw [he];omega
    ·have:=R _ i (show (lo + hi) / 2 < i by omega) hs
     omega
  ·rw [AJ hl]
   have:lo=hi:=by omega
   subst this;exact ⟨h4,h5,h2⟩
theorem zS {xs:Array Nat} (R:Rz xs) (j:Nat):(∀ i,i < SetTable.below xs j->xs.getD i 0 < j)∧(∀ i,SetTable.below xs j≤i->i < xs.size->j≤xs.getD i 0)∧SetTable.below xs j≤xs.size :=
 Yj R _ _ _ (A7 _) (AK _) (AK _) (fun i h=>absurd h (BC _)) (fun i h1 h2=>absurd h2 (by omega))
theorem qFF {xs:Array Nat} (R:Rz xs) {i:Nat} (h:i < xs.size):SetTable.below xs (xs.getD i 0)=i:=by
 obtain ⟨h1,h2,h3⟩:=zS R (xs.getD i 0);by_cases hq:SetTable.below xs (xs.getD i 0)=i
 ·exact hq
 ·rcases Nat.lt_or_gt_of_ne hq with q |q
  ·have:=h2 _ (AK _) (by omega)
   have:=R _ _ q h
   omega
  ·have:=h1 i q;omega
theorem mem_getD {xs:Array Nat} {j:Nat}:j∈xs.toList ↔ ∃ i,i < xs.size∧xs.getD i 0=j:=by
 constructor
 ·intro h;obtain ⟨i,hi,e⟩:=List.getElem_of_mem h;refine ⟨i,by simpa using hi,?_⟩
  rw [AL,AS (by simpa using hi)]
  simpa using e
 ·rintro ⟨i,hi,rfl⟩
  rw [AL,AS hi];exact Array.mem_toList_iff.mpr (Array.getElem_mem hi)
theorem qCD (j:Nat):SetTable.has #[] j=false:=by unfold SetTable.has;simp
theorem jV {t:SetTable} (R:Rz t.place) {i:Nat} (h:i < t.place.size):t.slot (t.place.getD i 0) = .live i:=by unfold SetTable.slot;rw [qFF R h];dsimp only;rw [AH];rw [AL,AS h];simp
theorem qBc {t:SetTable} (hd:t.dummies = #[]) {j:Nat} (h:j ∉ t.place.toList):t.slot j = .empty:=by
 unfold SetTable.slot;dsimp only;rw [AJ,hd,qCD]
 ·simp
 ·intro q;refine h (mem_getD.mpr ⟨SetTable.below t.place j,?_⟩);have q:=eq_of_beq q;obtain ⟨h1,h2⟩:=BW.mp q;refine ⟨h1,?_⟩;rw [AL,q];rfl
def qBo (mask:Nat) (p:SetTable.Probe):SetTable.Probe :=
 if p.more > 0 then { p with j:=p.j + 1,more:=p.more - 1 } else
 { p with j:=(SetTable.leap mask p.i p.perturb).1,more:=SetTable.runEnd mask (SetTable.leap mask p.i p.perturb).1 - (SetTable.leap mask p.i p.perturb).1,i:=(SetTable.leap mask p.i p.perturb).1,perturb:=(SetTable.leap mask p.i p.perturb).2 }
theorem qJ5 (t:SetTable) (p:SetTable.Probe):t.advance p=qBo t.mask p:=rfl
def sq (mask:Nat) (h:Int):Nat->SetTable.Probe
 |0=>⟨SetTable.bits h % (mask + 1),SetTable.runEnd mask (SetTable.bits h % (mask + 1)) - SetTable.bits h % (mask + 1),SetTable.bits h % (mask + 1),SetTable.bits h,none⟩
 |n + 1=>qBo mask (sq mask h n)
def lp (mask:Nat) (h:Int):Nat->Nat×Nat
 |0=>(SetTable.bits h % (mask + 1),SetTable.bits h)
 |n + 1=>SetTable.leap mask (lp mask h n).1 (lp mask h n).2
def rn (mask i:Nat):Nat:=SetTable.runEnd mask i - i
def lpN (mask:Nat) (h:Int):Nat->Nat
 |0=>0
 |n + 1=>lpN mask h n + rn mask (lp mask h n).1 + 1
theorem qCC {mask:Nat} {h:Int} {m n:Nat} (e:sq mask h n=⟨(lp mask h m).1,rn mask (lp mask h m).1,(lp mask h m).1,(lp mask h m).2,none⟩):∀ k,k≤rn mask (lp mask h m).1->sq mask h (n + k)=⟨(lp mask h m).1 + k,rn mask (lp mask h m).1 - k,(lp mask h m).1,(lp mask h m).2,none⟩
 |0,_=>e
 |k + 1,hk=>by
  rw [← Nat.add_assoc,sq,qCC e k (by omega)]
  unfold qBo;rw [AH (show rn mask (lp mask h m).1 - k > 0 by omega)]
  show SetTable.Probe.mk _ _ _ _ _=_;rw [show rn mask (lp mask h m).1 - k - 1=rn mask (lp mask h m).1 - (k + 1) by omega,Nat.add_assoc]
theorem qCc {mask:Nat} {h:Int}:∀ m,sq mask h (lpN mask h m)=⟨(lp mask h m).1,rn mask (lp mask h m).1,(lp mask h m).1,(lp mask h m).2,none⟩
 |0=>rfl
 |m + 1=>by
  rw [lpN,sq,qCC (qCc m) _ (AK _)];unfold qBo;rw [AJ (show ¬ rn mask (lp mask h m).1 - rn mask (lp mask h m).1 > 0 by omega)]
  rfl
theorem qH2 {mask:Nat} {h:Int} {m k:Nat} (hk:k≤rn mask (lp mask h m).1):(sq mask h (lpN mask h m + k)).j=(lp mask h m).1 + k:=by rw [qCC (qCc m) k hk]
theorem qKT (mask i:Nat):rn mask i≤9:=by unfold rn SetTable.runEnd;split <;> omega
theorem qFf {mask:Nat} {h:Int}:∀ m,lpN mask h m≤10 * m
 |0=>AK _
 |m + 1=>by
  have:=qFf (mask:=mask) (h:=h) m
  have:=qKT mask (lp mask h m).1
  rw [lpN];omega
theorem qKS {mask:Nat} {h:Int}:∀ m,(lp mask h m).1≤mask
 |0=>Nat.le_of_lt_succ (Nat.mod_lt _ (CY _))
 |m + 1=>Nat.le_of_lt_succ (Nat.mod_lt _ (CY _))
theorem qCM {mask:Nat} {h:Int}:∀ m,(lp mask h m).2=SetTable.bits h / 32 ^ m
 |0=>by simp [lp]
 |m + 1=>by show (lp mask h m).2 / 32=_;rw [qCM m,Nat.div_div_eq_div_mul,Nat.pow_succ]
theorem Jn (h:Int):SetTable.bits h < 2 ^ 64:=by
 unfold SetTable.bits
 have:=Int.emod_lt_of_pos h (show (0:Int) < 2 ^ 64 by decide)
 have:=Int.emod_nonneg h (show (2 ^ 64:Int)≠0 by decide)
 omega
theorem qJP {mask:Nat} {h:Int} (m:Nat) (hm:13≤m):(lp mask h m).2=0:=by rw [qCM];refine Nat.div_eq_of_lt (Am (Jn h) ?_);exact Ae (show 2 ^ 64≤32 ^ 13 by decide) (Nat.pow_le_pow_right (by decide) hm)
def cy (mask:Nat) (a:Nat):Nat->Nat
 |0=>a
 |n + 1=>(cy mask a n * 5 + 1) % (mask + 1)
theorem Ym {mask a:Nat} (m:Nat):∀ n,cy mask (cy mask a m) n=cy mask a (m + n)
 |0=>rfl
 |n + 1=>by rw [← Nat.add_assoc,cy,cy,Ym m n]
def Cyc (mask:Nat):Prop := ∀ a,a≤mask -> ∀ e,e≤mask -> ∃ k,k≤mask∧cy mask a k=e
def cyl (mask:Nat):Nat->Nat->List Nat
 |0,_=>[]
 |n + 1,a=>a::cyl mask n ((a * 5 + 1) % (mask + 1))
theorem qCh {mask:Nat}:∀ (n a i:Nat),i < n->(cyl mask n a)[i]? = some (cy mask a i)
 |0,_,_,h=>absurd h (BC _)
 |n + 1,a,0,_=>rfl
 |n + 1,a,i + 1,h=>by
  rw [cyl,List.getElem?_cons_succ,qCh n _ i (by omega)]
  have:=Ym (mask:=mask) (a:=a) 1 i
  rw [show i + 1=1 + i by omega,← this]
  rfl
theorem qCs {mask:Nat}:∀ (n a:Nat),(cyl mask n a).length=n
 |0,_=>rfl
 |n + 1,a=>by rw [cyl,AM,qCs n]
def qLF (mask:Nat):Bool:=Nat.beq (cy mask 0 (mask + 1)) 0&&(List.range (mask + 1)).all fun e=>(cyl mask (mask + 1) 0).any fun x=>Nat.beq x e
theorem JU {mask:Nat} (h:qLF mask=true):Cyc mask:=by
 unfold qLF at h;rw [AZ,At] at h;obtain ⟨h0,hall⟩:=h;have h0:=Nat.eq_of_beq_eq_true h0;have hat:∀ e,e≤mask -> ∃ k,k≤mask∧cy mask 0 k=e:=fun e he=>by
  obtain ⟨x,hx,q⟩:=List.any_eq_true.mp (hall e (A9.mpr (by omega)))
  have q:=Nat.eq_of_beq_eq_true q;obtain ⟨k,hk⟩:=BH hx;have hl:=(AR.mp hk).1;rw [qCs] at hl;rw [qCh _ _ _ hl] at hk;cases hk;exact ⟨k,by omega,q⟩
 intro a ha e he;obtain ⟨k1,h1,e1⟩:=hat a ha;obtain ⟨k2,h2,e2⟩:=hat e he;by_cases hq:k1≤k2
 ·refine ⟨k2 - k1,by omega,?_⟩
  rw [← e1,Ym,show k1 + (k2 - k1)=k2 by omega,e2]
 ·refine ⟨k2 + (mask + 1) - k1,by omega,?_⟩
  rw [← e1,Ym,show k1 + (k2 + (mask + 1) - k1)=(mask + 1) + k2 by omega,← Ym,h0,e2]
theorem qLn:Cyc 7:=JU (by decide +kernel)
theorem qK8:Cyc 31:=JU (by decide +kernel)
theorem qJn:Cyc 127:=JU (by decide +kernel)
theorem qJ6:Cyc 511:=JU (by decide +kernel)
theorem qH4 {mask:Nat} {h:Int}:∀ n,(lp mask h (13 + n)).1=cy mask (lp mask h 13).1 n
 |0=>rfl
 |n + 1=>by
  show ((lp mask h (13 + n)).1 * 5 + 1 + (lp mask h (13 + n)).2 / 32) % (mask + 1)=_;rw [qJP _ (by omega),qH4 n]
  rfl
theorem qFA {mask:Nat} {h:Int} (C:Cyc mask) {e:Nat} (he:e≤mask):∃ m,m≤mask + 13∧(lp mask h m).1=e:=by obtain ⟨k,hk,q⟩:=C _ (qKS (mask:=mask) (h:=h) 13) e he;exact ⟨13 + k,by omega,by rw [qH4,q]⟩
theorem zR {mask:Nat} {h:Int} (C:Cyc mask) {e:Nat} (he:e≤mask):∃ n,n < 10 * SetTable.turns mask∧(sq mask h n).j=e:=by
 obtain ⟨m,hm,q⟩:=qFA (h:=h) C he;refine ⟨lpN mask h m,?_,?_⟩
 ·have:=qFf (mask:=mask) (h:=h) m
  unfold SetTable.turns;omega
 ·rw [qCc];exact q
structure TbG (t:SetTable) (n:Nat):Prop where
 dum:t.dummies = #[]
 sz:t.place.size=n
 ris:Rz t.place
 le:∀ j∈t.place.toList,j≤t.mask
 room:n≤t.mask
theorem qBx:∀ (n:Nat) (l:List Nat),l.length < n -> ∃ e,e < n∧e ∉ l
 |0,l,h=>absurd h (BC _)
 |n + 1,l,h=>by
  by_cases hn:n∈l
  ·obtain ⟨e,he,hq⟩:=qBx n (l.filter (· ≠ n)) (by
    have:(l.filter (· ≠ n)).length < l.length:=by apply List.length_filter_lt_length_iff_exists.mpr;exact ⟨n,hn,by simp⟩
    omega)
   refine ⟨e,by omega,fun q=>hq (BO.mpr ⟨q,by simp;omega⟩)⟩
  ·exact ⟨n,by omega,hn⟩
theorem TbG.free {t:SetTable} {n:Nat} (T:TbG t n):∃ e,e≤t.mask∧e ∉ t.place.toList:=by
 obtain ⟨e,h1,h2⟩:=qBx (t.mask + 1) t.place.toList (by rw [Aa,T.sz];have:=T.room;omega)
 exact ⟨e,by omega,h2⟩
theorem qAw {P:Nat->Prop} (hd:∀ n,Decidable (P n)):∀ {n:Nat},P n -> ∃ k,k≤n∧P k ∧ ∀ m,m < k -> ¬ P m
 |0,h=>⟨0,AK _,h,fun m hm=>absurd hm (BC _)⟩
 |n + 1,h=>by
  by_cases hq:∃ m,m≤n∧P m
  ·obtain ⟨m,hm,hp⟩:=hq
   have:∀ (f:Nat) (m:Nat),m≤f->P m -> ∃ k,k≤m∧P k ∧ ∀ m',m' < k -> ¬ P m':=by
    intro f;induction f with
    |zero =>
     intro m hm hp
     have:m=0:=by omega
     subst this;exact ⟨0,AK _,hp,fun m hm=>absurd hm (BC _)⟩
    |succ f ih =>
     intro m hm hp;by_cases hz:∃ m',m' < m∧P m'
     ·obtain ⟨m',h1,h2⟩:=hz;obtain ⟨k,k1,k2,k3⟩:=ih m' (by omega) h2
      exact ⟨k,by omega,k2,k3⟩
     ·exact ⟨m,AK _,hp,fun m' h1 h2=>hz ⟨m',h1,h2⟩⟩
   obtain ⟨k,k1,k2,k3⟩:=this m m (AK _) hp;exact ⟨k,by omega,k2,k3⟩
  ·exact ⟨n + 1,AK _,h,fun m hm hp=>hq ⟨m,by omega,hp⟩⟩
theorem TbG.first {t:SetTable} {n:Nat} (T:TbG t n) (C:Cyc t.mask) (h:Int):∃ k,k < 10 * SetTable.turns t.mask∧(sq t.mask h k).j ∉ t.place.toList ∧ ∀ m,m < k->(sq t.mask h m).j∈t.place.toList:=by
 obtain ⟨e,he,hq⟩:=T.free;obtain ⟨k,hk,hj⟩:=zR (h:=h) C he;obtain ⟨k',k1,k2,k3⟩:=qAw (P:=fun k=>(sq t.mask h k).j ∉ t.place.toList) (fun _=>inferInstance) (n:=k) (by rw [hj];exact hq)
 exact ⟨k',by omega,k2,fun m hm=>Decidable.not_not.mp (k3 m hm)⟩
theorem Y8 (mask:Nat) (h:Int):∀ n,(sq mask h n).dummy=none
 |0=>rfl
 |n + 1=>by
  rw [sq];unfold qBo;split
  ·exact Y8 mask h n
  ·exact Y8 mask h n
theorem qAy {t:SetTable} {n:Nat} (T:TbG t n) (f:Nat->Int) (h:Int) {k:Nat} (hk:(sq t.mask h k).j ∉ t.place.toList) (hb:∀ m,m < k->(sq t.mask h m).j∈t.place.toList):∀ (F m:Nat),m≤k->k - m < F ->
  ((∀ x,m≤x->x < k -> ∀ i,t.place.getD i 0=(sq t.mask h x).j->i < t.place.size->f i≠h)∧SetTable.probe.go t f h F (sq t.mask h m)=some (.empty (sq t.mask h k).j none)) ∨
  ∃ x i,m≤x∧x < k∧i < t.place.size∧t.place.getD i 0=(sq t.mask h x).j∧f i=h∧(∀ y,m≤y->y < x -> ∀ i,t.place.getD i 0=(sq t.mask h y).j->i < t.place.size->f i≠h)∧SetTable.probe.go t f h F (sq t.mask h m)=some (.candidate (sq t.mask h x).j i (sq t.mask h (x + 1)))
 |0,m,_,h2=>absurd h2 (BC _)
 |F + 1,m,h1,h2=>by
  rw [SetTable.probe.go];by_cases he:m=k
  ·subst he;left;refine ⟨fun x a b=>absurd b (by omega),?_⟩
   rw [qBc T.dum hk,Y8]
  ·have hm:=hb m (by omega)
   obtain ⟨i,hi,e⟩:=mem_getD.mp hm;have hsl:t.slot (sq t.mask h m).j = .live i:=by rw [← e];exact jV T.ris hi
   rw [hsl];dsimp only;have uniq:∀ i',t.place.getD i' 0=(sq t.mask h m).j->i' < t.place.size->i'=i:=fun i' e' h'=>by
    rcases Nat.lt_trichotomy i' i with q |q |q
    ·have:=T.ris _ _ q hi;omega
    ·exact q
    ·have:=T.ris _ _ q h';omega
   by_cases hf:f i=h
   ·rw [AH (by rw [hf];exact As h)]
    right;exact ⟨m,i,AK _,by omega,hi,e,hf,fun y a b=>absurd b (by omega),rfl⟩
   ·rw [AJ (by simpa using hf)]
    have:=qAy T f h hk hb F (m + 1) (by omega) (by omega)
    rw [qJ5];have hs:qBo t.mask (sq t.mask h m)=sq t.mask h (m + 1):=rfl;rw [hs];rcases this with ⟨a,b⟩ |⟨x,i',a,b,c,d,e1,e2,e3⟩
    ·left;refine ⟨fun x h1 h2 i' e' h' => ?_,b⟩;by_cases hx:x=m
     ·subst hx;rw [uniq i' e' h'];exact hf
     ·exact a x (by omega) h2 i' e' h'
    ·right;refine ⟨x,i',by omega,b,c,d,e1,fun y h1 h2 i'' e' h' => ?_,e3⟩
     by_cases hx:y=m
     ·subst hx;rw [uniq i'' e' h'];exact hf
     ·exact e2 y (by omega) h2 i'' e' h'
def Rch {α:Type} (t:SetTable) (es:List (Int×α)):Prop := ∀ q∈t.place.toList.zip es,∃ m,(sq t.mask q.2.1 m).j=q.1 ∧ ∀ m',m' < m->(sq t.mask q.2.1 m').j∈t.place.toList
theorem qGF {α:Type} (xs:Array α) (p:Nat) (x:α):(SetTable.insertAt xs p x).toList=xs.toList.take p++x::xs.toList.drop p:=by unfold SetTable.insertAt;simp [Array.toList_append,B7]
theorem ris_list {xs:Array Nat}:Rz xs ↔ xs.toList.Pairwise (· < ·):=by
 rw [Bu];constructor
 ·intro R i j hi hj hij
  have:=R i j hij (by simpa using hj)
  rw [AL,AL,AS (by simpa using hi),AS (by simpa using hj)] at this
  simpa using this
 ·intro R i k hik hk
  have:=R i k (by simp;omega) (by simpa using hk) hik
  rw [AL,AL,AS (by omega),AS hk]
  simpa using this
theorem qGZ {xs:Array Nat} (R:Rz xs) {j:Nat}:∀ x∈xs.toList.take (SetTable.below xs j),x < j:=by
 intro x hx;obtain ⟨i,hi,e⟩:=List.getElem_of_mem hx;rw [B3,Aa] at hi
 have:=(zS R j).1 i (by omega)
 rw [AL,AS (by omega)] at this
 rw [List.getElem_take] at e;simp at e this;omega
theorem qCF {xs:Array Nat} (R:Rz xs) {j:Nat}:∀ x∈xs.toList.drop (SetTable.below xs j),j≤x:=by
 intro x hx;obtain ⟨i,hi,e⟩:=List.getElem_of_mem hx;rw [CH,Aa] at hi
 have:=(zS R j).2.1 (SetTable.below xs j + i) (by omega) (by omega)
 rw [AL,AS (by omega)] at this
 rw [List.getElem_drop] at e;simp at e this;omega
theorem qG2 {xs:Array Nat} (R:Rz xs) {j:Nat} (h:j ∉ xs.toList):Rz (SetTable.insertAt xs (SetTable.below xs j) j):=by
 rw [ris_list,qGF];have P:=ris_list.mp R;rw [List.pairwise_append];refine ⟨P.sublist (List.take_sublist _ _),?_,?_⟩
 ·rw [BG];refine ⟨fun x hx => ?_,P.sublist (List.drop_sublist _ _)⟩
  have:=qCF R x hx
  have:x≠j:=fun q=>h (by rw [← q];exact List.mem_of_mem_drop hx)
  omega
 ·intro a ha b hb;have h1:=qGZ R a ha;rcases AE.mp hb with q |q
  ·omega
  ·have:=qCF R b q;omega
theorem qHD {α β:Type} {xs:List α} {ys:List β} {p:Nat} {x:α} {y:β} (hl:xs.length=ys.length):(xs.take p++x::xs.drop p).zip (ys.take p++y::ys.drop p)=(xs.zip ys).take p++(x,y)::(xs.zip ys).drop p:=by rw [List.zip_append (by simp [hl]),Ar,List.zip_eq_zipWith,List.zip_eq_zipWith,List.zip_eq_zipWith,List.take_zipWith,List.drop_zipWith]
theorem qJi {α:Type} {t:SetTable} {es:Array (Int×α)} {h:Int} {x:α} {k:Nat} (T:TbG t es.size) (hr:es.size + 1≤t.mask) (R:Rch t es.toList) (hjm:(sq t.mask h k).j≤t.mask) (hk:(sq t.mask h k).j ∉ t.place.toList) (hb:∀ m,m < k->(sq t.mask h m).j∈t.place.toList) :
  TbG (t.put (sq t.mask h k).j).1 (es.size + 1)∧Rch (t.put (sq t.mask h k).j).1 (SetTable.insertAt es (t.put (sq t.mask h k).j).2 (h,x)).toList∧(SetTable.insertAt es (t.put (sq t.mask h k).j).2 (h,x)).toList.Perm ((h,x)::es.toList):=by
 have hp:(t.put (sq t.mask h k).j).1.place.toList=t.place.toList.take (SetTable.below t.place (sq t.mask h k).j)++(sq t.mask h k).j::t.place.toList.drop (SetTable.below t.place (sq t.mask h k).j):=qGF _ _ _;have hmem:∀ j,j∈(t.put (sq t.mask h k).j).1.place.toList ↔ j=(sq t.mask h k).j∨j∈t.place.toList:=by
  intro j;rw [hp,An,AE];constructor
  ·rintro (q |q |q)
   ·exact .inr (List.mem_of_mem_take q)
   ·exact .inl q
   ·exact .inr (List.mem_of_mem_drop q)
  ·rintro (q |q)
   ·exact .inr (.inl q)
   ·rw [← List.take_append_drop (SetTable.below t.place (sq t.mask h k).j) t.place.toList,An] at q;rcases q with q |q
    ·exact .inl q
    ·exact .inr (.inr q)
 refine ⟨⟨?_,?_,qG2 T.ris hk,?_,hr⟩,?_,?_⟩
 ·show (if SetTable.has t.dummies _=true then SetTable.eraseAt t.dummies _ else t.dummies) = #[];rw [T.dum,qCD];rfl
 ·rw [← Aa,hp]
  have:=(zS T.ris (sq t.mask h k).j).2.2
  rw [AY,B3,AM,CH,Aa,T.sz] at *;omega
 ·intro j hj;rcases (hmem j).mp hj with q |q
  ·rw [q];exact hjm
  ·exact T.le j q
 ·intro q hq;rw [hp,qGF] at hq;have hq:q∈(t.place.toList.take (SetTable.below t.place (sq t.mask h k).j)++(sq t.mask h k).j::t.place.toList.drop (SetTable.below t.place (sq t.mask h k).j)).zip (es.toList.take (SetTable.below t.place (sq t.mask h k).j)++(h,x)::es.toList.drop (SetTable.below t.place (sq t.mask h k).j)):=hq;rw [qHD (by rw [Aa,Aa,T.sz]),An,AE] at hq
  have old:q∈t.place.toList.zip es.toList -> ∃ m,(sq t.mask q.2.1 m).j=q.1 ∧ ∀ m',m' < m->(sq t.mask q.2.1 m').j∈(t.put (sq t.mask h k).j).1.place.toList:=fun hq=>by obtain ⟨m,h1,h2⟩:=R q hq;exact ⟨m,h1,fun m' hm=>(hmem _).mpr (.inr (h2 m' hm))⟩
  rcases hq with hq |hq |hq
  ·exact old (List.mem_of_mem_take hq)
  ·subst hq;exact ⟨k,rfl,fun m' hm=>(hmem _).mpr (.inr (hb m' hm))⟩
  ·exact old (List.mem_of_mem_drop hq)
 ·rw [qGF];refine List.perm_middle.trans ?_;rw [List.take_append_drop]
structure Ow (mask:Nat) (owner:Array (Option Nat)) (hs:List Int) (js:List Nat):Prop where
 size:owner.size=mask + 1
 len:js.length=hs.length
 iff:∀ (j k:Nat),owner[j]? = some (some k) ↔ js[k]? = some j
 way:∀ (k:Nat) (h:Int) (j:Nat),hs[k]? = some h->js[k]? = some j -> ∃ m,(sq mask h m).j=j ∧ ∀ m',m' < m->(sq mask h m').j∈js
 le:∀ j∈js,j≤mask
theorem qAB {mask:Nat} {h:Int} {a:Nat}:∀ {b:Nat},a≤b->lpN mask h a≤lpN mask h b
 |0,q=>by
  have:a=0:=by omega
  subst this;exact AK _
 |b + 1,q=>by
  by_cases e:a=b + 1
  ·subst e;exact AK _
  ·have:=qAB (mask:=mask) (h:=h) (a:=a) (b:=b) (by omega)
   rw [lpN];omega
theorem qIk {mask:Nat} {h:Int} {a b:Nat} (q:a < b):lpN mask h a < lpN mask h b:=by
 have:=qAB (mask:=mask) (h:=h) (show a + 1≤b by omega)
 rw [lpN] at this;omega
theorem qCa {mask:Nat} {owner:Array (Option Nat)} {hs:List Int} {js:List Nat} (O:Ow mask owner hs js) {h:Int} {k0:Nat} (hk:(sq mask h k0).j ∉ js) (hkm:(sq mask h k0).j≤mask) (hb:∀ m,m < k0->(sq mask h m).j∈js) :
  ∀ (F m:Nat),lpN mask h m≤k0->k0 < lpN mask h (m + F)->SetTable.layClean.free mask owner F (lp mask h m).1 (lp mask h m).2=some (sq mask h k0).j
 |0,m,h1,h2=>by rw [Nat.add_zero] at h2;omega
 |F + 1,m,h1,h2=>by
  rw [SetTable.layClean.free];have hrn:SetTable.runEnd mask (lp mask h m).1 + 1 - (lp mask h m).1=rn mask (lp mask h m).1 + 1:=by unfold rn SetTable.runEnd;split <;> omega
  have occ:∀ k,k≤rn mask (lp mask h m).1->lpN mask h m + k < k0->(owner.getD ((lp mask h m).1 + k) (some 0)).isNone=false:=fun k a b=>by
   have:=hb _ b
   rw [qH2 a] at this;obtain ⟨i,hi⟩:=BH this
   have:=(O.iff _ _).mpr hi
   rw [AL,this];rfl
  rw [hrn];by_cases hq:k0≤lpN mask h m + rn mask (lp mask h m).1
  ·have ej:(sq mask h k0).j=(lp mask h m).1 + (k0 - lpN mask h m):=by
    have:=qH2 (mask:=mask) (h:=h) (m:=m) (k:=k0 - lpN mask h m) (by omega)
    rw [show lpN mask h m + (k0 - lpN mask h m)=k0 by omega] at this
    exact this
   have hf:(List.range (rn mask (lp mask h m).1 + 1)).find? (fun k=>(owner.getD ((lp mask h m).1 + k) (some 0)).isNone)=some (k0 - lpN mask h m):=by
    rw [List.find?_range_eq_some];refine ⟨?_,A9.mpr (by omega),fun j hj => ?_⟩
    ·rw [← ej,AL,AS (by rw [O.size];omega)]
     cases hx:owner[(sq mask h k0).j]'(by rw [O.size];omega) with
     |none=>rfl
     |some k' =>exfalso;refine hk (Aw ((O.iff _ k').mp ?_));rw [AS (by rw [O.size];omega),hx]
    ·rw [occ j (by omega) (by omega)];rfl
   rw [hf,ej]
  ·have hf:(List.range (rn mask (lp mask h m).1 + 1)).find? (fun k=>(owner.getD ((lp mask h m).1 + k) (some 0)).isNone)=none:=by
    rw [List.find?_eq_none];intro k hk';rw [occ k (by have:=A9.mp hk';omega) (by have:=A9.mp hk';omega)]
    simp
   rw [hf];exact qCa O hk hkm hb F (m + 1) (by rw [lpN];omega) (by rw [show m + 1 + F=m + (F + 1) by omega];exact h2)
theorem qHe {mask:Nat} {h:Int} (n:Nat):(sq mask h n).j≤mask:=by
 have:∀ n,(sq mask h n).j + (sq mask h n).more≤mask∧(sq mask h n).i≤mask:=by
  intro n;have key:∀ i,i≤mask->i + (SetTable.runEnd mask i - i)≤mask:=fun i hi=>by unfold SetTable.runEnd;split <;> omega
  induction n with
  |zero =>have hi:SetTable.bits h % (mask + 1)≤mask:=Nat.le_of_lt_succ (Nat.mod_lt _ (CY _));exact ⟨key _ hi,hi⟩
  |succ n ih =>
   rw [sq];unfold qBo;split
   ·rename_i hm;exact ⟨by show (sq mask h n).j + 1 + ((sq mask h n).more - 1)≤mask;omega,ih.2⟩
   ·have hi:(SetTable.leap mask (sq mask h n).i (sq mask h n).perturb).1≤mask:=Nat.le_of_lt_succ (Nat.mod_lt _ (CY _));exact ⟨key _ hi,hi⟩
 have:=(this n).1
 omega
theorem Ow.step {mask:Nat} {owner:Array (Option Nat)} {hs:List Int} {js:List Nat} (O:Ow mask owner hs js) (C:Cyc mask) (hl:hs.length≤mask) (h:Int):∃ j,SetTable.layClean.free mask owner (SetTable.turns mask) (SetTable.bits h % (mask + 1)) (SetTable.bits h)=some j∧Ow mask (owner.setIfInBounds j (some hs.length)) (hs++[h]) (js++[j]):=by
 obtain ⟨e,he,hq⟩:=qBx (mask + 1) js (by rw [O.len];omega)
 obtain ⟨m,hm,q⟩:=qFA (h:=h) C (show e≤mask by omega)
 obtain ⟨k0,k1,k2,k3⟩:=qAw (P:=fun k=>(sq mask h k).j ∉ js) (fun _=>inferInstance) (n:=lpN mask h m) (by rw [qCc,q];exact hq)
 have hb:∀ m,m < k0->(sq mask h m).j∈js:=fun m hm=>Decidable.not_not.mp (k3 m hm);have hj:=qHe (mask:=mask) (h:=h) k0;refine ⟨_,qCa O k2 hj hb (SetTable.turns mask) 0 (A7 _) ?_,?_⟩
 ·rw [Nat.zero_add];refine Ba k1 (qIk ?_);unfold SetTable.turns;omega
 ·have hmem:∀ x,x∈js++[(sq mask h k0).j] ↔ x∈js∨x=(sq mask h k0).j:=fun x=>by simp
  refine ⟨by simp [O.size],by simp [O.len],fun j k => ?_,fun k h' j h1 h2 => ?_,fun j hj' => ?_⟩
  ·rw [Array.getElem?_setIfInBounds];by_cases hjj:(sq mask h k0).j=j
   ·rw [AH hjj,AH (by rw [O.size];omega)]
    constructor
    ·intro z;cases z;rw [Av (by rw [O.len];exact AK _),O.len,Nat.sub_self]
     simp [hjj]
    ·intro z;by_cases hkl:k < js.length
     ·rw [Af hkl] at z;exact absurd (by rw [hjj];exact Aw z) k2
     ·rw [Av (by omega)] at z
      have:k - js.length=0:=by
       have:=(AR.mp z).1
       simp at this;omega
      rw [show k=hs.length by have:=O.len;omega]
   ·rw [AJ hjj,O.iff];constructor
    ·intro z;rw [Af (AR.mp z).1];exact z
    ·intro z;by_cases hkl:k < js.length
     ·rwa [Af hkl] at z
     ·rw [Av (by omega)] at z
      have h0:=(AR.mp z).1
      have:k - js.length=0:=by simp at h0;omega
      rw [this] at z;simp at z;exact absurd z hjj
  ·by_cases hkl:k < js.length
   ·rw [Af hkl] at h2;rw [Af (by rw [← O.len];exact hkl)] at h1
    obtain ⟨m,a,b⟩:=O.way k h' j h1 h2;exact ⟨m,a,fun m' hm'=>(hmem _).mpr (.inl (b m' hm'))⟩
   ·rw [Av (by omega)] at h2
    rw [Av (by have:=O.len;omega)] at h1
    have h0:=(AR.mp h2).1;have z:k - js.length=0:=by simp at h0;omega
    rw [← O.len,z] at h1;rw [z] at h2;simp at h1 h2;subst h1;subst h2;exact ⟨k0,rfl,fun m' hm'=>(hmem _).mpr (.inl (hb m' hm'))⟩
  ·rcases (hmem j).mp hj' with q |q
   ·exact O.le j q
   ·rw [q];exact hj
theorem qAa {mask:Nat} (C:Cyc mask):∀ (r hs:List Int) (owner:Array (Option Nat)) (js:List Nat),Ow mask owner hs js->hs.length + r.length≤mask + 1 ->
  ∃ owner' js',r.foldl (fun acc h=>do
   let (owner,k) ← acc;let j ← SetTable.layClean.free mask owner (SetTable.turns mask) (SetTable.bits h % (mask + 1)) (SetTable.bits h)
   pure (owner.setIfInBounds j (some k),k + 1)) (some (owner,hs.length))=some (owner',(hs++r).length)∧Ow mask owner' (hs++r) js'
 |[],hs,owner,js,O,_=>⟨owner,js,by simp,by simpa using O⟩
 |h::r,hs,owner,js,O,hl=>by
  rw [AM] at hl;obtain ⟨j,e,O'⟩:=O.step C (by omega) h
  obtain ⟨ow,js',e2,O2⟩:=qAa C r (hs++[h]) _ _ O' (by rw [AY,BZ];omega)
  refine ⟨ow,js',?_,by simpa using O2⟩
  rw [List.foldl_cons]
  have:(do
   let (owner,k) ← some (owner,hs.length);let j ← SetTable.layClean.free mask owner (SetTable.turns mask) (SetTable.bits h % (mask + 1)) (SetTable.bits h)
   pure (owner.setIfInBounds j (some k),k + 1))=some (owner.setIfInBounds j (some hs.length),hs.length + 1):=by
   show (do
    let j ← SetTable.layClean.free mask owner (SetTable.turns mask) (SetTable.bits h % (mask + 1)) (SetTable.bits h)
    pure (owner.setIfInBounds j (some hs.length),hs.length + 1))=_
   rw [e];rfl
  rw [this];simpa using e2
theorem qEC {mask:Nat} (C:Cyc mask) (hashes:Array Int) (hl:hashes.size≤mask + 1):∃ owner js,SetTable.layClean mask hashes=some owner∧Ow mask owner hashes.toList js:=by
 obtain ⟨owner,js,e,O⟩:=qAa C hashes.toList [] (Array.replicate (mask + 1) none) [] ⟨by simp,rfl,fun j k=>by
  constructor
  ·intro z;rw [Array.getElem?_replicate] at z;split at z <;> simp at z
  ·intro z;simp at z,fun k h j h1 h2=>by simp at h1,fun j h=>by simp at h⟩ (by simpa using hl)
 refine ⟨owner,js,?_,by simpa using O⟩
 unfold SetTable.layClean;rw [← Array.foldl_toList];have e':=e;simp only [List.nil_append] at e';have h0:(some (Array.replicate (mask + 1) none,([]:List Int).length):Option (Array (Option Nat)×Nat))=some (Array.replicate (mask + 1) none,0):=rfl;rw [h0] at e';rw [e'];rfl
theorem Zh {α:Type} [DecidableEq α]:∀ {l m:List α},l.Nodup->m.Nodup->(∀ x,x∈l ↔ x∈m)->l.Perm m
 |[],m,_,_,h=>by
  cases m with
  |nil=>exact .refl _
  |cons y m=>exact absurd ((h y).mpr AI) (by simp)
 |x::l,m,h1,h2,h=>by
  have hx:=(h x).mp AI;refine List.Perm.trans ?_ (List.perm_cons_erase hx).symm;refine List.Perm.cons x (Zh (Ax.mp h1).2 (h2.erase x) fun y => ?_);rw [h2.mem_erase_iff];constructor
  ·intro hy;exact ⟨fun z=>(Ax.mp h1).1 (by rw [← z];exact hy),(h y).mp (AD _ hy)⟩
  ·rintro ⟨a,b⟩
   rcases AE.mp ((h y).mpr b) with q |q
   ·exact absurd q a
   ·exact q
theorem qE8 {α:Type} (l:List α):(List.range l.length).filterMap (fun i=>l[i]?)=l:=by
 induction l with
 |nil=>rfl
 |cons x l ih =>rw [AM,List.range_succ_eq_map,Bi];show x::((List.range l.length).map Nat.succ).filterMap _=_;rw [List.filterMap_map];congr 1
theorem qFO {α β:Type} {f:α->Option β} {g:α->β}:∀ {l:List α},(∀ x∈l,f x=some (g x))->l.filterMap f=l.map g
 |[],_=>rfl
 |x::l,h=>by rw [Bi,h x AI,Aj,qFO fun y hy=>h y (AD _ hy)]
theorem JK {α:Type} [Inhabited α] {mask finger moves:Nat} {led plain:Bool} (C:Cyc mask) {es:Array (Int×α)} (hl:es.size≤mask):∃ t order,SetTable.laid mask finger moves led plain (es.map (·.1))=some (t,order)∧t.mask=mask∧t.led=led∧t.plain=plain ∧
  (order.filterMap (es[·]?)).toList.Perm es.toList∧TbG t es.size∧Rch t (order.filterMap (es[·]?)).toList:=by
 obtain ⟨owner,js,e,O⟩:=qEC C (es.map (·.1)) (by simp;omega)
 refine ⟨_,_,by unfold SetTable.laid;rw [e];rfl,rfl,rfl,rfl,?_⟩
 generalize hL:(List.range (mask + 1)).filterMap (fun j=>(owner.getD j none).map (j,·))=L;have hmem:∀ q,q∈L ↔ js[q.2]? = some q.1:=by
  intro ⟨j,k⟩;rw [← hL,CV];constructor
  ·rintro ⟨a,ha,hb⟩
   have ha:=A9.mp ha;rw [AL,AS (by rw [O.size];omega)] at hb
   cases hx:owner[a]'(by rw [O.size];omega) with
   |none=>rw [hx] at hb;simp at hb
   |some k' =>rw [hx] at hb;simp at hb;obtain ⟨rfl,rfl⟩:=hb;exact (O.iff _ _).mp (by rw [AS (by rw [O.size];omega),hx])
  ·intro z;have z':=(O.iff _ _).mpr z;refine ⟨j,A9.mpr (by have:=O.le j (Aw z);omega),?_⟩
   rw [AL,z'];rfl
 have hlen:js.length=es.size:=by rw [O.len];simp
 have hinj:∀ a b j,js[a]? = some j->js[b]? = some j->a=b:=fun a b j h1 h2=>by have h1:=(O.iff j a).mpr h1;have h2:=(O.iff j b).mpr h2;rw [h1] at h2;cases h2;rfl
 have hpw:L.Pairwise (fun p q=>p.1 < q.1):=by rw [← hL,List.pairwise_filterMap];refine List.Pairwise.imp ?_ List.pairwise_lt_range;intro a b hab x hx y hy;simp only [Option.map_eq_some_iff] at hx hy;obtain ⟨_,_,rfl⟩:=hx;obtain ⟨_,_,rfl⟩:=hy;exact hab
 have hnd:(L.map (·.2)).Nodup:=by
  rw [List.nodup_iff_pairwise_ne,CA];refine List.Pairwise.imp_of_mem (R:=fun p q=>p.1 < q.1) ?_ hpw;intro a b ha hb hab z;have h1:=(hmem a).mp ha;have h2:=(hmem b).mp hb;rw [z,h2] at h1
  have:=Ai h1
  omega
 have hperm:(L.map (·.2)).Perm (List.range es.size):=by
  refine Zh hnd List.nodup_range fun k => ?_;rw [A9,AW];constructor
  ·rintro ⟨q,hq,rfl⟩
   have:=(AR.mp ((hmem q).mp hq)).1
   omega
  ·intro hk
   have:js[k]? = some (js[k]'(by omega)):=AU _
   exact ⟨(js[k]'(by omega),k),(hmem _).mpr this,rfl⟩
 have hLl:L.length=es.size:=by have:=hperm.length_eq;simpa using this
 have hfm:(((L.map (·.2)).toArray.filterMap (es[·]?)).toList)=L.map fun q=>es.toList.getD q.2 (0,default):=by
  rw [List.filterMap_toArray];show (L.map (·.2)).filterMap (fun i=>es[i]?)=_;rw [List.filterMap_map];refine qFO fun q hq => ?_
  have:=(AR.mp ((hmem q).mp hq)).1
  show es[q.2]? = _;rw [AS (by omega),Ac,A3,AS (by omega)]
  rfl
 refine ⟨?_,⟨rfl,by simp [hLl],?_,?_,hl⟩,?_⟩
 ·have h1:((L.map (·.2)).toArray.filterMap (es[·]?)).toList=(L.map (·.2)).filterMap (fun i=>es.toList[i]?):=by rw [List.filterMap_toArray];simp
  rw [h1];refine (hperm.filterMap _).trans ?_
  have:=qE8 es.toList
  rw [Aa] at this;rw [this]
 ·rw [ris_list];show (L.map (·.1)).Pairwise _;rw [CA];exact hpw
 ·intro j hj;have hj:j∈L.map (·.1):=hj;obtain ⟨q,hq,rfl⟩:=AW.mp hj;exact O.le _ (Aw ((hmem q).mp hq))
 ·intro q hq;rw [hfm] at hq;have hq:q∈(L.map (·.1)).zip (L.map fun q=>es.toList.getD q.2 (0,default)):=hq;rw [List.zip_map,AW] at hq;obtain ⟨⟨u,v⟩,huv,rfl⟩:=hq;have huv':u=v∧u∈L:=by
   have:∀ (l:List (Nat×Nat)) (p:(Nat×Nat)×(Nat×Nat)),p∈l.zip l->p.1=p.2∧p.1∈l:=by
    intro l;induction l with
    |nil=>intro p hp;simp at hp
    |cons a l ih =>
     intro p hp;rw [Ar] at hp;rcases AE.mp hp with z |z
     ·subst z;exact ⟨rfl,AI⟩
     ·exact ⟨(ih p z).1,AD _ (ih p z).2⟩
   exact this L _ huv
  obtain ⟨rfl,hu⟩:=huv';have hj:=(hmem u).mp hu;have hlt:=(AR.mp hj).1;have hh:(es.map (·.1)).toList[u.2]? = some (es.toList.getD u.2 (0,default)).1:=by
   rw [Ac,A3,A3,Array.getElem?_map,AS (show u.2 < es.size by omega)]
   rfl
  obtain ⟨m,h1,h2⟩:=O.way _ _ _ hh hj;refine ⟨m,h1,fun m' hm' => ?_⟩
  have:=h2 m' hm'
  obtain ⟨i,hi⟩:=BH this;show _∈L.map (·.1);exact AW.mpr ⟨((sq mask (es.toList.getD u.2 (0,default)).1 m').j,i),(hmem _).mpr hi,rfl⟩
end ET
end
section
namespace ET
open PySem PySem.Spec PyProof.Rows L2 EX
section
variable {prog:Program} {w:World} {A:Around} {E:Value->Shared->Prop} {s:Shared}
abbrev TK (prog:Program) (w:World) (h:Heap) (ks:List Int) (b:Addr):Prop:=IsTupleKey (intKind prog w) h ks b
abbrev hsT (prog:Program) (w:World) (ks:List Int):Int:=tupleKeyHash (intKind prog w) ks
theorem ZE {ks:List Int} {vs:List Value} (h:ItemsAre (intKind prog w) ks vs):∀ v∈vs,∃ n t,v=Value.int n t:=by
 induction h with
 |nil=>intro v hv;cases hv
 | @cons k v ks vs h1 _ ih =>
  intro u hu;rcases AE.mp hu with q |q
  ·subst q;cases u with
   |int n t=>exact ⟨n,t,rfl⟩
   |_=>exact Bool.noConfusion (show false=true from h1)
  ·exact ih u q
theorem TK.keep {h h':Heap} {ks:List Int} {b:Addr} (k:TK prog w h ks b) (e:∀ o,h.get? b=some o->h'.get? b=some o):TK prog w h' ks b:=by obtain ⟨o,its,n,h1,h2⟩:=k;exact ⟨o,its,n,e o h1,h2⟩
theorem hbv {ks:List Int} {b:Addr} {Q:Bool->Shared->Prop} (k:TK prog w s.heap ks b) (h:Q true s):wpAny (model prog w) A (hashByValue 8 (.ref b)) Q E s:=by
 have hT:=k.typeIs;obtain ⟨o,items,n,ho,_,hd,hi⟩:=k;unfold hashByValue;refine AA (wpAny_specialOf hT F.slot_tuple_hash.lookup ?_);dsimp only;refine AA (By ho hd ?_);show wpAny _ _ (forIn items _ _ >>= _) _ _ s;refine AA ?_;rw [← Array.forIn_toList];refine B4 _ (fun rest r s'=>r.1=none∧s'=s ∧ ∀ v∈rest,∃ n t,v=Value.int n t) _ ?_ ?_ _ _ ⟨rfl,rfl,ZE hi⟩
 ·rintro v rest r s' ⟨hr,rfl,hall⟩
  obtain ⟨n,t,rfl⟩:=hall v AI;refine AA (Ao (a:=true) (by rw [hashByValue_scannable 7 (x := .int n t) rfl];rfl) ?_)
  simp only [Bool.not_true,A0,BX];exact AF ⟨rfl,rfl,fun u hu'=>hall u (AD _ hu')⟩
 ·rintro ⟨r1,r2⟩ s' ⟨hr,rfl,_⟩
  simp only at hr;subst hr;exact AF h
theorem oac {ks:List Int} {b:Addr} {Q:Bool->Shared->Prop} (k:TK prog w s.heap ks b) (h:Q false s):wpAny (model prog w) A (ofAClassStatement 8 (.ref b)) Q E s:=by
 have hT:=k.typeIs;obtain ⟨o,items,n,ho,_,hd,hi⟩:=k;unfold ofAClassStatement;refine AA (Bp hT ?_);dsimp only;rw [AH (by decide)]
 refine AA (AF ?_);rw [AJ (by decide)]
 refine AA (By ho hd ?_);dsimp only;refine AA ?_;rw [← Array.forIn_toList];refine B4 _ (fun rest r s'=>r.1=none∧s'=s ∧ ∀ v∈rest,∃ n t,v=Value.int n t) _ ?_ ?_ _ _ ⟨rfl,rfl,ZE hi⟩
 ·rintro v rest r s' ⟨hr,rfl,hall⟩
  obtain ⟨n,t,rfl⟩:=hall v AI;refine AA (Ao (a:=false) (by unfold ofAClassStatement;rfl) ?_)
  rw [AJ (by decide)]
  exact AF ⟨rfl,rfl,fun u hu'=>hall u (AD _ hu')⟩
 ·rintro ⟨r1,r2⟩ s' ⟨hr,rfl,_⟩
  simp only at hr;subst hr;exact AF h
theorem qLN {ks:List Int} {b:Addr} {Q:Bool->Shared->Prop} (k:TK prog w s.heap ks b) (l:List Value) (hl:∀ v∈l,∃ c ks',v = .ref c∧TK prog w s.heap ks' c) (h:Q false s):wpAny (model prog w) A (searchCouldBeSeen (.ref b) l) Q E s:=by
 unfold searchCouldBeSeen;refine AA ?_;refine B4 _ (fun rest r s'=>r.1=none∧s'=s ∧ ∀ v∈rest,∃ c ks',v = .ref c∧TK prog w s.heap ks' c) _ ?_ ?_ _ _ ⟨rfl,rfl,hl⟩
 ·rintro v rest r s' ⟨hr,rfl,hall⟩
  obtain ⟨c,ks',rfl,k'⟩:=hall v AI;dsimp only;by_cases hbc:(b==c || (carriedByValue (.ref b)&&carriedByValue (.ref c)))=true
  ·rw [AH hbc];exact AF ⟨rfl,rfl,fun u hu'=>hall u (AD _ hu')⟩
  ·rw [AJ hbc];refine AA (wpAny_eqIsQuiet_tuple k ?_);rw [AJ (by decide)]
   refine AA (wpAny_eqIsQuiet_tuple k' ?_);rw [AJ (by decide)]
   refine AA (oac k ?_);rw [AJ (by decide)]
   refine AA (oac k' ?_);rw [AJ (by decide)]
   exact AF ⟨rfl,rfl,fun u hu'=>hall u (AD _ hu')⟩
 ·rintro ⟨r1,r2⟩ s' ⟨hr,rfl,_⟩
  simp only at hr;subst hr;exact AF h
inductive EsT (prog:Program) (w:World) (h:Heap):List (Int×Value)->List (List Int)->Prop
 |nil:EsT prog w h [] []
 |cons {ks:List Int} {b:Addr} {l:List (Int×Value)} {kss:List (List Int)}:TK prog w h ks b->EsT prog w h l kss->EsT prog w h ((hsT prog w ks,.ref b)::l) (ks::kss)
theorem EsT.len {h:Heap} {l:List (Int×Value)} {kss:List (List Int)} (e:EsT prog w h l kss):l.length=kss.length:=by
 induction e with
 |nil=>rfl
 |cons _ _ ih=>rw [AM,AM,ih]
theorem EsT.keep {h h':Heap} {l:List (Int×Value)} {kss:List (List Int)} (e:EsT prog w h l kss) (k:∀ b ks,TK prog w h ks b->TK prog w h' ks b):EsT prog w h' l kss:=by
 induction e with
 |nil=>exact .nil
 |cons a _ ih=>exact .cons (k _ _ a) ih
theorem EsT.get {h:Heap} {l:List (Int×Value)} {kss:List (List Int)} (e:EsT prog w h l kss):∀ {i:Nat} {x:Int×Value},l[i]? = some x -> ∃ ks b,kss[i]? = some ks∧x=(hsT prog w ks,.ref b)∧TK prog w h ks b:=by
 induction e with
 |nil=>intro i x hx;simp at hx
 | @cons ks b l kss a _ ih =>
  intro i x hx;cases i with
  |zero=>simp at hx;exact ⟨ks,b,rfl,hx.symm,a⟩
  |succ i=>simp at hx;simpa using ih hx
theorem EsT.get' {h:Heap} {l:List (Int×Value)} {kss:List (List Int)} (e:EsT prog w h l kss):∀ {i:Nat} {ks:List Int},kss[i]? = some ks -> ∃ b,l[i]? = some (hsT prog w ks,.ref b)∧TK prog w h ks b:=by
 induction e with
 |nil=>intro i x hx;simp at hx
 | @cons ks b l kss a _ ih =>
  intro i x hx;cases i with
  |zero=>simp at hx;subst hx;exact ⟨b,rfl,a⟩
  |succ i=>simp at hx;simpa using ih hx
theorem EsT.perm {h:Heap} {l l':List (Int×Value)} (p:l.Perm l'):∀ {kss:List (List Int)},EsT prog w h l kss -> ∃ kss',kss.Perm kss'∧EsT prog w h l' kss':=by
 induction p with
 |nil=>intro kss e;exact ⟨kss,.refl _,e⟩
 |cons x _ ih =>
  intro kss e;cases e with
  |cons a e =>obtain ⟨k',q,r⟩:=ih e;exact ⟨_,q.cons _,.cons a r⟩
 |swap x y l =>
  intro kss e;cases e with
  |cons a e =>
   cases e with
   |cons b e=>exact ⟨_,.swap _ _ _,.cons b (.cons a e)⟩
 |trans _ _ ih1 ih2 =>intro kss e;obtain ⟨k1,q1,r1⟩:=ih1 e;obtain ⟨k2,q2,r2⟩:=ih2 r1;exact ⟨k2,q1.trans q2,r2⟩
theorem EsT.mem {h:Heap} {l:List (Int×Value)} {kss:List (List Int)} (e:EsT prog w h l kss):∀ x∈l,∃ ks b,ks∈kss∧x=(hsT prog w ks,.ref b)∧TK prog w h ks b:=by intro x hx;obtain ⟨i,hi⟩:=BH hx;obtain ⟨ks,b,h1,h2,h3⟩:=e.get hi;exact ⟨ks,b,Aw h1,h2,h3⟩
def Lv (mask n:Nat):Prop:=(mask=7∧n≤4)∨(mask=31∧n≤18)∨(mask=127∧n≤76)∨(mask=511∧n≤306)
theorem Lv.cyc {mask n:Nat} (h:Lv mask n):Cyc mask:=by
 rcases h with ⟨rfl,_⟩ |⟨rfl,_⟩ |⟨rfl,_⟩ |⟨rfl,_⟩
 ·exact qLn
 ·exact qK8
 ·exact qJn
 ·exact qJ6
structure TbT (w:World) (t:SetTable) (es:Array (Int×Value)):Prop where
 g:TbG t es.size
 r:Rch t es.toList
 lv:Lv t.mask es.size
 led:t.led = !byT w
 pl:t.plain=true
structure SetT (prog:Program) (w:World) (h:Heap) (a:Addr) (es:Array (Int×Value)) (ep:Nat) (t:SetTable) (kss:List (List Int)):Prop where
 ex:∃ o,h.get? a=some o∧o.ExactSet∧o.data=Data.set es ep t
 el:EsT prog w h es.toList kss
 nd:kss.Nodup
 tb:TbT w t es
theorem JS {t:SetTable} {n:Nat} (T:TbG t n):t.fits n=true:=by
 unfold SetTable.fits;rw [AZ];refine ⟨by rw [T.sz];exact As _,AQ ?_⟩
 unfold SetTable.fill;rw [T.dum,T.sz];exact T.room
theorem qFi {t:SetTable} {n:Nat} (h:Lv t.mask n):t.gaveWay=false:=by unfold SetTable.gaveWay;rcases h with ⟨h,_⟩ |⟨h,_⟩ |⟨h,_⟩ |⟨h,_⟩ <;> rw [h] <;> rfl
theorem qFh {a:Addr} {es:Array (Int×Value)} {ep:Nat} {t:SetTable} {kss:List (List Int)} {ks:List Int} {b:Addr} {adding:Bool} {Q:SetFound->Shared->Prop} (hu:A.units < cLine) (S:SetT prog w s.heap a es ep t kss) (k:TK prog w s.heap ks b) {k0:Nat}
  (hk:(sq t.mask (hsT prog w ks) k0).j ∉ t.place.toList) (hb:∀ m,m < k0->(sq t.mask (hsT prog w ks) m).j∈t.place.toList) (hk0:k0 < 10 * SetTable.turns t.mask)
  (h1:ks∈kss -> ∀ oi,(adding=false->oi.isSome=true)->Q (.there oi) s) (h2:ks ∉ kss->Q (.free (sq t.mask (hsT prog w ks) k0).j false) s) :
  ∀ (f m:Nat) (st:Option SetTable.Probe),m≤k0->k0 - m < f->st.getD (t.probeStart (hsT prog w ks))=sq t.mask (hsT prog w ks) m->(∀ y,y < m -> ∀ i,t.place.getD i 0=(sq t.mask (hsT prog w ks) y).j->i < t.place.size->kss[i]? ≠ some ks) ->
   wpAny (model prog w) A (setSearchFrom a (.ref b) (hsT prog w ks) adding f st) Q E s
 |0,m,st,_,hf,_,_=>absurd hf (BC _)
 |f + 1,m,st,hm,hf,hst,hn=>by
  obtain ⟨o,ho,hx,hd⟩:=S.ex;have hfit:=JS S.tb.g;have hsz:t.place.size=es.size:=S.tb.g.sz;have hkl:es.size=kss.length:=by rw [← S.el.len,Aa]
  rw [setSearchFrom];refine AA (Be ho hd hfit ?_);dsimp only;rw [qFi S.tb.lv];simp only [A0,BX];rw [hst];have hp:=qAy S.tb.g (fun i=>(es[i]?.map (·.1)).getD 0) (hsT prog w ks) hk hb (10 * SetTable.turns t.mask) m hm (by omega)
  rcases hp with ⟨hall,e⟩ |⟨x,i,hx1,hx2,hi,hpl,hfi,hall,e⟩
  ·generalize hg:t.probe _ (hsT prog w ks) (sq t.mask (hsT prog w ks) m)=pr;have e2:=hg.symm.trans e;subst e2;dsimp only;refine AF (h2 fun hmem => ?_);obtain ⟨i,hi⟩:=BH hmem;have hil:i < es.size:=by rw [hkl];exact (AR.mp hi).1
   obtain ⟨c,hc,_⟩:=S.el.get' hi;have hz:(t.place.getD i 0,(hsT prog w ks,Value.ref c))∈t.place.toList.zip es.toList:=by
    refine Aw (i:=i) ?_;rw [List.getElem?_zip_eq_some];refine ⟨?_,hc⟩;rw [A3,AS (by omega),AL,AS (by omega)]
    rfl
   obtain ⟨y,hy1,hy2⟩:=S.tb.r _ hz;have hyk:y < k0:=by
    rcases Nat.lt_trichotomy y k0 with q |q |q
    ·exact q
    ·subst q;exact absurd (by rw [hy1];exact mem_getD.mpr ⟨i,by omega,rfl⟩) hk
    ·exact absurd (hy2 k0 q) hk
   by_cases hym:y < m
   ·exact hn y hym i hy1.symm (by omega) hi
   ·refine hall y (by omega) hyk i hy1.symm (by omega) ?_
    show (es[i]?.map (·.1)).getD 0=_;rw [← A3,hc];rfl
  ·generalize hg:t.probe _ (hsT prog w ks) (sq t.mask (hsT prog w ks) m)=pr;have e2:=hg.symm.trans e;subst e2;dsimp only;have hie:i < es.size:=by omega
   obtain ⟨ks',c,hks',hc,kc⟩:=S.el.get (i:=i) (x:=es[i]) (by rw [A3,AS hie])
   have hsl:t.slot (sq t.mask (hsT prog w ks) x).j = .live i:=by rw [← hpl];exact jV S.tb.g.ris hi
   cases hled:t.led
   case' true=>simp only [Bool.not_true,A0,BX]
   case' false =>
    simp only [Bool.not_false,CN];refine AA (qLN k _ (fun v hv=>(by
     obtain ⟨e',he',rfl⟩:=AW.mp hv;have he':e'∈es.toList:=Array.mem_toList_iff.mpr (Array.mem_filter.mp (Array.mem_toList_iff.mp he')).1;obtain ⟨ks'',c',_,hh,kk⟩:=S.el.mem _ he';exact ⟨c',ks'',by rw [hh],kk⟩)) ?_)
    simp only [A0,BX]
   all_goals
    rw [AS hie,hc];dsimp only;refine AA (Ap (wpAny_eqBool_tuple hu kc k ?_));refine AA (Be ho hd hfit ?_);dsimp only;by_cases hq:ks'=ks
    ·subst hq;rw [AQ rfl];have hmem:ks'∈kss:=Aw hks';cases adding with
     |true=>exact AF (h1 hmem none fun z=>by cases z)
     |false =>
      simp only [CF,A0,BX];rw [show t.sameMemory t.moves t.mask=some true by unfold SetTable.sameMemory;rw [AH (As _)]]
      dsimp only;rw [AH rfl,hsl];dsimp only;rw [AS hie,hc];dsimp only;refine AA (wpAny_isSame_ref_self (AA (AF ?_)));rw [AH rfl];dsimp only;exact AF (h1 hmem (some i) fun _=>rfl)
    ·rw [AV hq];rw [BK];simp only [A0,BX];rw [show t.sameMemory t.moves t.mask=some true by unfold SetTable.sameMemory;rw [AH (As _)]]
     dsimp only;rw [AH rfl,hsl];dsimp only;rw [AS hie,hc];dsimp only;refine AA (wpAny_isSame_ref_self (AA (AF ?_)));rw [AH rfl];dsimp only;refine qFh hu S k hk hb hk0 h1 h2 f (x + 1) _ (by omega) (by omega) rfl fun y hy j hj hjl => ?_
     by_cases hym:y < m
     ·exact hn y hym j hj hjl
     ·have uniq:t.place.getD j 0=t.place.getD i 0->j=i:=fun e'=>by
       rcases Nat.lt_trichotomy j i with q |q |q
       ·have:=S.tb.g.ris _ _ q hi;omega
       ·exact q
       ·have:=S.tb.g.ris _ _ q hjl;omega
      by_cases hyx:y=x
      ·subst hyx;rw [uniq (hj.trans hpl.symm),hks'];intro z;cases z;exact hq rfl
      ·intro z;refine hall y (by omega) (by omega) j hj hjl ?_
       obtain ⟨c',hc',_⟩:=S.el.get' z;show (es[j]?.map (·.1)).getD 0=_;rw [← A3,hc'];rfl
theorem SetT.first {h:Heap} {a:Addr} {es:Array (Int×Value)} {ep:Nat} {t:SetTable} {kss:List (List Int)} (S:SetT prog w h a es ep t kss) (hs:Int):∃ k,k < 10 * SetTable.turns t.mask∧(sq t.mask hs k).j ∉ t.place.toList ∧ ∀ m,m < k->(sq t.mask hs m).j∈t.place.toList:=S.tb.g.first S.tb.lv.cyc hs
theorem qAT {mask n:Nat} (h:Lv mask n):10 * SetTable.turns mask < 100000:=by unfold SetTable.turns;rcases h with ⟨h,_⟩ |⟨h,_⟩ |⟨h,_⟩ |⟨h,_⟩ <;> omega
theorem qGm {a:Addr} {es:Array (Int×Value)} {ep:Nat} {t:SetTable} {kss:List (List Int)} {ks:List Int} {b:Addr} {adding:Bool} {Q:SetFound->Shared->Prop} (hu:A.units < cLine) (S:SetT prog w s.heap a es ep t kss) (k:TK prog w s.heap ks b)
  (h1:ks∈kss -> ∀ oi,(adding=false->oi.isSome=true)->Q (.there oi) s)
  (h2:ks ∉ kss -> ∀ k0,(sq t.mask (hsT prog w ks) k0).j ∉ t.place.toList->(∀ m,m < k0->(sq t.mask (hsT prog w ks) m).j∈t.place.toList)->Q (.free (sq t.mask (hsT prog w ks) k0).j false) s) :
  wpAny (model prog w) A (setSearch a (.ref b) (hsT prog w ks) adding) Q E s:=by
 obtain ⟨k0,hk0,hk,hb⟩:=S.first (hsT prog w ks)
 have:=qAT S.tb.lv
 exact qFh hu S k hk hb hk0 h1 (fun q=>h2 q k0 hk hb) 100000 0 none (A7 _) (by omega) rfl fun y hy=>absurd hy (BC _)
theorem qGo {mask n:Nat} (h:Lv mask n) (hn:n + 1≤300) (hf:¬ (n + 1) * 5 ≥ mask * 3):Lv mask (n + 1):=by
 rcases h with ⟨rfl,h⟩ |⟨rfl,h⟩ |⟨rfl,h⟩ |⟨rfl,h⟩
 ·exact .inl ⟨rfl,by omega⟩
 ·exact .inr (.inl ⟨rfl,by omega⟩)
 ·exact .inr (.inr (.inl ⟨rfl,by omega⟩))
 ·exact .inr (.inr (.inr ⟨rfl,by omega⟩))
theorem qHB {mask n:Nat} (h:Lv mask n) (hn:n + 1≤300) (hf:(n + 1) * 5 ≥ mask * 3):Lv (SetTable.sizeAbove (SetTable.grown (n + 1)) - 1) (n + 1)∧SetTable.sizeAbove (SetTable.grown (n + 1))≤512:=by
 rcases h with ⟨rfl,h⟩ |⟨rfl,h⟩ |⟨rfl,h⟩ |⟨rfl,h⟩
 ·have:n=4:=by omega
  subst this;exact ⟨.inr (.inl ⟨by decide,by omega⟩),by decide⟩
 ·have:n=18:=by omega
  subst this;exact ⟨.inr (.inr (.inl ⟨by decide,by omega⟩)),by decide⟩
 ·have:n=76:=by omega
  subst this;exact ⟨.inr (.inr (.inr ⟨by decide,by omega⟩)),by decide⟩
 ·omega
theorem qCP {mask n:Nat} (h:Lv mask n):n + 1≤mask:=by rcases h with ⟨rfl,h⟩ |⟨rfl,h⟩ |⟨rfl,h⟩ |⟨rfl,h⟩ <;> omega
theorem qKX {a:Addr} {es:Array (Int×Value)} {ep:Nat} {t:SetTable} {kss:List (List Int)} {ks:List Int} {b:Addr} {Q:Bool->Shared->Prop} (hu:A.units < cLine) (S:SetT prog w s.heap a es ep t kss) (k:TK prog w s.heap ks b) (hn:kss.length + 1≤300)
  (h:∀ (h':Heap) (es':Array (Int×Value)) (ep':Nat) (t':SetTable) (kss':List (List Int)),Heap.SameBut a s.heap h'->SetT prog w h' a es' ep' t' kss'->kss'.Perm (if ks∈kss then kss else kss++[ks])->(∀ e∈es'.toList,e∈es.toList∨e.2 = .ref b)->Q (decide (ks ∉ kss)) { s with heap:=h' }) :
  wpAny (model prog w) A (setAddHashed a (.ref b) (hsT prog w ks)) Q E s:=by
 obtain ⟨o,ho,hx,hd⟩:=S.ex;have hfit:=JS S.tb.g;have hlen:es.size=kss.length:=by rw [← S.el.len,Aa]
 unfold setAddHashed;refine Ap ?_;rw [setAddHashedIn.eq_def];refine AA (Be ho hd hfit ?_);dsimp only;rw [AJ (by unfold byScan;exact fun q=>Bool.noConfusion (show false=true from q))]
 refine AA (qGm (adding:=true) hu S k (fun q oi _ => ?_) fun q k0 hk hb => ?_)
 ·dsimp only;refine AF ?_
  have:=h s.heap es ep t kss ⟨rfl,fun _ _=>rfl⟩ S (by rw [AH q]) (fun e he => .inl he)
  rw [AV (not_not_intro q)] at this;exact this
 ·dsimp only;refine AA (Be ho hd hfit ?_);dsimp only;have hne:∀ ks' c,TK prog w s.heap ks' c->c≠a:=fun ks' c kc z=>by subst z;obtain ⟨o',_,_,g1,g2,g3,_⟩:=kc;rw [ho] at g1;cases g1;rw [hd] at g3;cases g3
  obtain ⟨T1,R1,P1⟩:=qJi (x:=Value.ref b) S.tb.g (qCP S.tb.lv) S.tb.r (qHe k0) hk hb;generalize ht:t.put (sq t.mask (hsT prog w ks) k0).j=tp at T1 R1 P1 ⊢;obtain ⟨t1,p1⟩:=tp;dsimp only at T1 R1 P1 ⊢;have hm1:t1.mask=t.mask:=by have:=CU (fun x=>x.1.mask) ht;exact this.symm
  have hl1:t1.led=t.led:=by have:=CU (fun x=>x.1.led) ht;exact this.symm
  have hp1:t1.plain=t.plain:=by have:=CU (fun x=>x.1.plain) ht;exact this.symm
  rw [AH (hp1.trans S.tb.pl)];refine AA (hbv k ?_);rw [AH rfl];have hsz1:(SetTable.insertAt es p1 (hsT prog w ks,Value.ref b)).size=es.size + 1:=by
   have:=P1.length_eq
   simpa using this
  refine AA (wpAny_storeSet_of ho hd ?_ (by rw [hsz1];exact Ae (show es.size + 1≤300 by omega) (by decide)))
  obtain ⟨oc,od,odt,osl⟩:=o;have hd:odt=Data.set es ep t:=hd;subst hd;have hu1:(s.heap.update a (Obj.putSet (SetTable.insertAt es p1 (hsT prog w ks,.ref b)) t1)).get? a=some ⟨oc,od,Data.set (SetTable.insertAt es p1 (hsT prog w ks,.ref b)) (ep + 1) t1,osl⟩:=by rw [BD _ ho rfl];rfl
  have hsb:Heap.SameBut a s.heap (s.heap.update a (Obj.putSet (SetTable.insertAt es p1 (hsT prog w ks,.ref b)) t1)):=⟨CJ ..,fun c hc=>Heap.get?_update_ne _ _ _ _ hc⟩;generalize s.heap.update a (Obj.putSet (SetTable.insertAt es p1 (hsT prog w ks,.ref b)) t1)=h1 at hu1 hsb ⊢;have keep:∀ c ks',TK prog w s.heap ks' c->TK prog w h1 ks' c:=fun c ks' kc=>kc.keep fun o' ho'=>(hsb.2 c (hne ks' c kc)).trans ho';have E1:EsT prog w h1 ((hsT prog w ks,Value.ref b)::es.toList) (ks::kss) := .cons (keep _ _ k) (S.el.keep keep);obtain ⟨kss1,q1,E2⟩:=E1.perm P1.symm;have nd1:kss1.Nodup:=q1.nodup_iff.mp (Ax.mpr ⟨q,S.nd⟩);have qp:kss1.Perm (if ks∈kss then kss else kss++[ks]):=by rw [AJ q];exact q1.symm.trans (List.perm_append_comm (l₁:=[ks]) (l₂:=kss))
  have hfull:t1.tooFull=decide ((es.size + 1) * 5 ≥ t.mask * 3):=by unfold SetTable.tooFull SetTable.fill;rw [T1.dum,T1.sz,hm1];rfl
  rw [hfull];have fresh1:∀ e∈(SetTable.insertAt es p1 (hsT prog w ks,Value.ref b)).toList,e∈es.toList∨e.2 = .ref b:=fun e he=>by
   rcases AE.mp (P1.mem_iff.mp he) with z |z
   ·exact .inr (by rw [z])
   ·exact .inl z
  have fin:∀ (h2:Heap),(∀ es' ep' t' kss',Heap.SameBut a s.heap h2->SetT prog w h2 a es' ep' t' kss'->kss'.Perm (if ks∈kss then kss else kss++[ks])->(∀ e∈es'.toList,e∈es.toList∨e.2 = .ref b)->Q true { s with heap:=h2 }):=fun h2 es' ep' t' kss' a1 a2 a3 a4=>by
   have:=h h2 es' ep' t' kss' a1 a2 a3 a4
   rw [AQ q] at this;exact this
  by_cases hf:(es.size + 1) * 5 ≥ t.mask * 3
  ·rw [AQ hf];simp only [Bool.not_false,Bool.and_self,CN];obtain ⟨L1,L2⟩:=qHB S.tb.lv (by omega) hf
   unfold setRelay;refine AA ?_;refine AA (Be (s:={ s with heap:=h1 }) hu1 rfl (by rw [hsz1];exact JS T1) ?_)
   dsimp only;rw [AJ (by rw [Bw];omega)]
   obtain ⟨t2,order,e2,m2,l2,p2,P2,T2,R2⟩:=JK (finger:=t1.finger) (moves:=t1.movedTo (SetTable.sizeAbove (SetTable.grown (es.size + 1)) - 1)) (led:=t1.led) (plain:=t1.plain) L1.cyc (es:=SetTable.insertAt es p1 (hsT prog w ks,Value.ref b)) (by rw [hsz1];have:=qCP L1;omega)
   have e2:t1.relaid ((SetTable.insertAt es p1 (hsT prog w ks,Value.ref b)).map (·.1)) (SetTable.grown (es.size + 1))=some (t2,order):=e2;rw [e2];have hsz2:(order.filterMap ((SetTable.insertAt es p1 (hsT prog w ks,Value.ref b))[·]?)).size=es.size + 1:=by
    have:=P2.length_eq
    rw [Aa,Aa,hsz1] at this;exact this
   refine AA (Ao (a:=(order.filterMap ((SetTable.insertAt es p1 (hsT prog w ks,Value.ref b))[·]?),t2)) ?_ ?_)
   ·show (if ((order.filterMap ((SetTable.insertAt es p1 (hsT prog w ks,Value.ref b))[·]?)).size != (SetTable.insertAt es p1 (hsT prog w ks,Value.ref b)).size)=true then _ else pure _)=pure _;rw [AJ (by rw [hsz2,hsz1];simp)]
   ·dsimp only;refine wpAny_storeSet_of (s:={ s with heap:=h1 }) hu1 rfl ?_ (by rw [hsz2];exact Ae (show es.size + 1≤300 by omega) (by decide))
    have hu2:(h1.update a (Obj.putSet (order.filterMap ((SetTable.insertAt es p1 (hsT prog w ks,Value.ref b))[·]?)) t2)).get? a=some ⟨oc,od,Data.set (order.filterMap ((SetTable.insertAt es p1 (hsT prog w ks,Value.ref b))[·]?)) (ep + 1 + 1) t2,osl⟩:=by rw [BD _ hu1 rfl];rfl
    have hsb2:Heap.SameBut a h1 (h1.update a (Obj.putSet (order.filterMap ((SetTable.insertAt es p1 (hsT prog w ks,Value.ref b))[·]?)) t2)):=⟨CJ ..,fun c hc=>Heap.get?_update_ne _ _ _ _ hc⟩;refine AF ?_;generalize h1.update a (Obj.putSet (order.filterMap ((SetTable.insertAt es p1 (hsT prog w ks,Value.ref b))[·]?)) t2)=h2 at hu2 hsb2 ⊢;obtain ⟨kss2,q2,E3⟩:=E2.perm P2.symm;have E4:EsT prog w h2 (order.filterMap ((SetTable.insertAt es p1 (hsT prog w ks,Value.ref b))[·]?)).toList kss2:=E3.keep fun c ks' kc=>kc.keep fun o' ho'=>(hsb2.2 c (fun z=>by
     subst z;obtain ⟨o',_,_,g1,g2,g3,_⟩:=kc;rw [hu1] at g1;cases g1;cases g3)).trans ho'
    refine fin h2 _ _ _ kss2 ⟨hsb2.1.trans hsb.1,fun c hc=>(hsb2.2 c hc).trans (hsb.2 c hc)⟩ ⟨⟨_,hu2,hx,rfl⟩,E4,q2.nodup_iff.mp nd1,⟨?_,R2,?_,?_,?_⟩⟩ (q2.symm.trans qp) (fun e he=>fresh1 e (P2.mem_iff.mp he))
    ·rw [hsz2,← hsz1];exact T2
    ·rw [hsz2,m2];exact L1
    ·rw [l2,hl1];exact S.tb.led
    ·rw [p2,hp1];exact S.tb.pl
  ·rw [AV hf];simp only [Bool.not_false,BK,A0,BX];refine AF (fin h1 _ _ _ kss1 hsb ⟨⟨_,hu1,hx,rfl⟩,E2,nd1,⟨?_,R1,?_,?_,?_⟩⟩ qp fresh1)
   ·rw [hsz1];exact T1
   ·rw [hsz1,hm1];exact qGo S.tb.lv (by omega) hf
   ·rw [hl1];exact S.tb.led
   ·rw [hp1];exact S.tb.pl
end
end ET
end
section
namespace ET
open PySem PySem.Spec PyProof.Rows L2 EX PySem.W
section
variable {O:KeyOrd} {key:Nat->O.α} {n:Nat}
def kOk (key:Nat->O.α) (n:Nat) {α:Type}:KasT α->(α->Prop)->Prop
 | .ret a,P=>P a
 | .ask i j k,P=>i < n∧j < n∧kOk key n (k (O.blt (key i) (key j))) P
theorem zJ {α β:Type} {f:α->KasT β} {P:β->Prop}:∀ {t:KasT α},kOk key n t (fun a=>kOk key n (f a) P)->kOk key n (t.bind f) P
 | .ret a,h=>h
 | .ask i j k,h=>⟨h.1,h.2.1,zJ h.2.2⟩
theorem J9 {α:Type} {cmp:Nat->Nat->(Bool->Shared->Prop)->Shared->Prop} {s:Shared} (hc:∀ i j C,i < n->j < n->C (O.blt (key i) (key j)) s->cmp i j C s) {P:α->Prop} {Q:α->Shared->Prop} (hq:∀ a,P a->Q a s):∀ (t:KasT α),kOk key n t P->t.kasWp cmp Q s
 | .ret a,h=>hq a h
 | .ask i j k,h=>hc i j _ h.1 h.2.1 (J9 hc hq _ h.2.2)
structure PB (n:Nat) (p:Array Nat):Prop where
 perm:p.Perm (List.range n).toArray
theorem PB.size {p:Array Nat} (h:PB n p):p.size=n:=by
 have:=h.perm.size_eq;simpa using this
theorem PB.lt {p:Array Nat} (h:PB n p) {k:Nat} (hk:k < n):p.getD k 0 < n:=by
 have hs:=h.size;rw [AL,AS (by omega)]
 have:p[k]∈(List.range n).toArray.toList:=(Array.perm_iff_toList_perm.mp h.perm).mem_iff.mp (by simp)
 simpa using this
def kq (key:Nat->O.α) (p:Array Nat) (k:Nat):O.α:=key (p.getD k 0)
def Srt (key:Nat->O.α) (p:Array Nat) (k:Nat):Prop := ∀ i j,i≤j->j < k->O.kle (kq key p i) (kq key p j)
def Nin (key:Nat->O.α) (p:Array Nat) (k:Nat):Prop := ∀ i j,i≤j->j < k->O.kle (kq key p j) (kq key p i)
theorem yQ {p:Array Nat} {i j:Nat} (hj:j≤p.size) (k:Nat):kq key (kas_rev p i j) k=if i≤k∧k < j then kq key p (i + j - 1 - k) else kq key p k:=by
 have e:=getElem?_mirror_all (i:=i) hj k;unfold kq kas_rev;rw [AL,e];split
 ·rw [AL]
 ·rw [AL]
theorem WA {p:Array Nat} {i j:Nat} (hj:j≤p.size) (heq:∀ k,i≤k->k < j->kq key p k=kq key p (j - 1)) (k:Nat):kq key (kas_rev p i j) k=kq key p k:=by
 rw [yQ hj];split
 ·rw [heq _ (by omega) (by omega),heq k (by omega) (by omega)]
 ·rfl
theorem jo {p:Array Nat} {src d:Nat} (hs:src < p.size) (hd:d≤src) (k:Nat):kq key (bubble p src d) k=if k=src - d then kq key p src else if src - d < k∧k≤src then kq key p (k - 1) else kq key p k:=by
 have e:=getElem?_bubble hs d hd k;unfold kq;rw [AL,AL,AL,AL,e];split
 ·rfl
 ·split <;> rfl
theorem PB.rev {p:Array Nat} (h:PB n p) (i j:Nat):PB n (kas_rev p i j):=⟨(mirror_perm _ _ _ _).trans h.perm⟩
theorem qBT {p:Array Nat} (B:PB n p) {nrem:Nat} (hn:nrem≤n) {P:Nat->Prop} (h:∀ m,1≤m->m≤nrem->Srt key p m->(m=nrem∨O.klt (kq key p m) (kq key p (m - 1)))->P m):∀ (f a:Nat),1≤a->a + f=nrem->Srt key p a->kOk key n (kas_asc p f a) P
 |0,a,h1,h2,hs=>h a h1 (by omega) hs (.inl (by omega))
 |f + 1,a,h1,h2,hs=>by
  refine ⟨B.lt (by omega),B.lt (by omega),?_⟩
  show kOk key n (if O.blt (kq key p a) (kq key p (a - 1))=true then .ret a else kas_asc p f (a + 1)) P;cases hl:O.blt (kq key p a) (kq key p (a - 1)) with
  |true=>rw [AH rfl];exact h a h1 (by omega) hs (.inr hl)
  |false =>
   rw [AJ (by simp)]
   refine qBT B hn h f (a + 1) (by omega) (by omega) fun i j hij hj => ?_
   by_cases hja:j < a
   ·exact hs i j hij hja
   ·have:j=a:=by omega
    subst this;by_cases hi':i=j
    ·subst hi';exact BT _
    ·exact CK (hs i (j - 1) (by omega) (by omega)) hl
theorem qAe {p:Array Nat} (B:PB n p) {nrem m:Nat} (hn:nrem≤n) (h1:1≤m) (hm:m≤nrem) (hs:Nin key p m) {P:Nat×Array Nat->Prop} (h:∀ m' p',PB n p'->1≤m'->m'≤nrem->Srt key p' m'->P (m',p')):kOk key n (kas_tail3 m nrem p) P:=by
 unfold kas_tail3;have hsz:m≤p.size:=by rw [B.size];omega
 refine zJ (qBT (B.rev 0 m) hn (fun m' a b c _=>h m' _ (B.rev 0 m) a b c) _ _ h1 (by omega) fun i j hij hj => ?_)
 rw [yQ hsz,yQ hsz,AH (by omega),AH (by omega)]
 exact hs _ _ (by omega) (by omega)
theorem YH {nrem:Nat} (hn:nrem≤n) {P:Array Nat×Nat×Nat->Prop}
  (h:∀ m neq p',PB n p'->1≤m->m≤nrem->Nin key p' m->neq + 1≤m->(∀ i,m - (neq + 1)≤i->i < m->kq key p' i=kq key p' (m - 1))->P (p',m,neq)) :
  ∀ (f:Nat) (p:Array Nat) (x neq:Nat),PB n p->1≤x->x + f=nrem->Nin key p x->neq + 1≤x->(∀ i,x - (neq + 1)≤i->i < x->kq key p i=kq key p (x - 1))->kOk key n (kas_desc f p x neq) P
 |0,p,x,neq,B,h1,h2,hs,hq,he=>h x neq p B h1 (by omega) hs hq he
 |f + 1,p,x,neq,B,h1,h2,hs,hq,he=>by
  have hsz:x≤p.size:=by rw [B.size];omega
  refine ⟨B.lt (by omega),B.lt (by omega),?_⟩
  show kOk key n (if O.blt (kq key p x) (kq key p (x - 1))=true then (if neq > 0 then kas_desc f (kas_rev p (x - (neq + 1)) x) (x + 1) 0 else kas_desc f p (x + 1) 0) else .ask (p.getD (x - 1) 0) (p.getD x 0) fun d=>if d=true then .ret (p,x,neq) else kas_desc f p (x + 1) (neq + 1)) P;cases hl:O.blt (kq key p x) (kq key p (x - 1)) with
  |true =>
   rw [AH rfl];have step1:∀ p':Array Nat,(∀ k,kq key p' k=kq key p k)->Nin key p' (x + 1):=by
    intro p' hk i j hij hj;rw [hk,hk];by_cases hjx:j < x
    ·exact hs i j hij hjx
    ·have hj':j=x:=by omega
     subst hj';by_cases hi':i=j
     ·subst hi';exact BT _
     ·exact CK (CB hl) (hs i (j - 1) (by omega) (by omega))
   by_cases hneq:neq > 0
   ·rw [AH hneq];exact YH hn h f _ _ _ (B.rev _ _) (by omega) (by omega) (step1 _ (WA hsz he)) (by omega) fun i h1 h2=>by congr 1;omega
   ·rw [AJ hneq];exact YH hn h f _ _ _ B (by omega) (by omega) (step1 _ fun _=>rfl) (by omega) fun i h1 h2=>by congr 1;omega
  |false =>
   rw [AJ (by simp)]
   refine ⟨B.lt (by omega),B.lt (by omega),?_⟩
   show kOk key n (if O.blt (kq key p (x - 1)) (kq key p x)=true then .ret (p,x,neq) else kas_desc f p (x + 1) (neq + 1)) P;cases hg:O.blt (kq key p (x - 1)) (kq key p x) with
   |true=>rw [AH rfl];exact h x neq p B h1 (by omega) hs hq he
   |false =>
    rw [AJ (by simp)]
    have heqx:kq key p x=kq key p (x - 1):=KeyOrd.kle_antisymm hg hl;refine YH hn h f _ _ _ B (by omega) (by omega) (fun i j hij hj => ?_) (by omega) fun i h1 h2 => ?_
    ·by_cases hjx:j < x
     ·exact hs i j hij hjx
     ·have hj':j=x:=by omega
      subst hj';by_cases hi':i=j
      ·subst hi';exact BT _
      ·rw [heqx];exact hs i (j - 1) (by omega) (by omega)
    ·rw [show x + 1 - 1=x by omega]
     by_cases hix:i=x
     ·subst hix;rfl
     ·rw [heqx];exact he i (by omega) (by omega)
theorem yw {p:Array Nat} (B:PB n p) {nrem m:Nat} (hn:nrem≤n) (hm:m + 1≤nrem) (hs:Nin key p (m + 1)) {P:Nat×Array Nat->Prop} (h:∀ m' p',PB n p'->1≤m'->m'≤nrem->Srt key p' m'->P (m',p')):kOk key n (kas_descPart m nrem p) P:=by
 unfold kas_descPart;refine zJ (YH hn (fun m' neq p' B' a1 a2 hs' hq he => ?_) _ _ _ _ B (by omega) (by omega) hs (by omega) fun i h1 h2=>by congr 1;omega)
 dsimp only;have hsz:m'≤p'.size:=by rw [B'.size];omega
 by_cases hneq:neq > 0
 ·rw [AH hneq];refine qAe (B'.rev _ _) hn a1 a2 (fun i j hij hj => ?_) h;rw [WA hsz he,WA hsz he];exact hs' i j hij hj
 ·rw [AJ hneq];exact qAe B' hn a1 a2 hs' h
theorem qEw {p:Array Nat} (B:PB n p) (h1:1≤n) {P:Nat×Array Nat->Prop} (h:∀ m' p',PB n p'->1≤m'->m'≤n->Srt key p' m'->P (m',p')):kOk key n (kas_count n p) P:=by
 unfold kas_count;refine zJ (qBT B (AK n) (fun m hm1 hm2 hsn hor => ?_) _ _ (AK 1) (by omega) fun i j hij hj=>by have:i=j:=(by omega);subst this;exact BT _)
 by_cases hnn:m=n
 ·rw [AH (by simpa using hnn)]
  exact h m p B hm1 hm2 hsn
 ·rw [AJ (by simpa using hnn)]
  have hlt:O.klt (kq key p m) (kq key p (m - 1)):=hor.resolve_left hnn;have hsz:m≤p.size:=by rw [B.size];omega
  by_cases hgt:m > 1
  ·rw [AH hgt];refine ⟨B.lt (by omega),B.lt (by omega),?_⟩
   show kOk key n (if O.blt (kq key p 0) (kq key p (m - 1))=true then .ret (m,p) else kas_descPart m n (kas_rev p 0 m)) P;cases hrose:O.blt (kq key p 0) (kq key p (m - 1)) with
   |true=>rw [AH rfl];exact h m p B hm1 hm2 hsn
   |false =>
    rw [AJ (by simp)]
    have hall:∀ k,0≤k->k < m->kq key p k=kq key p (m - 1):=by
     intro k _ hk;have a1:=hsn 0 k (by omega) hk
     have a2:=hsn k (m - 1) (by omega) (by omega)
     exact KeyOrd.kle_antisymm a2 (CK hrose a1)
    refine yw (B.rev _ _) (AK n) (by omega) (fun i j hij hj => ?_) h
    rw [WA hsz hall,WA hsz hall];by_cases hjn:j < m
    ·rw [hall i (by omega) (by omega),hall j (by omega) hjn];exact BT _
    ·have hj':j=m:=by omega
     subst hj';by_cases hi':i=j
     ·subst hi';exact BT _
     ·rw [hall i (by omega) (by omega)];exact CB hlt
  ·rw [AJ hgt];have hn1':m=1:=by omega
   subst hn1';refine yw B (AK n) (by omega) (fun i j hij hj => ?_) h
   by_cases hi':i=j
   ·subst hi';exact BT _
   ·have hi0:i=0:=by omega
    have hj1:j=1:=by omega
    subst hi0;subst hj1;exact CB hlt
theorem YX {p:Array Nat} (B:PB n p) {k:Nat} (hk:k < n) (hs:Srt key p k) {P:Nat->Prop} (h:∀ l,l≤k->(∀ i,i < l->O.kle (kq key p i) (kq key p k))->(∀ i,l≤i->i < k->O.klt (kq key p k) (kq key p i))->P l) :
  ∀ (f l r:Nat),l≤r->r≤k->r - l≤f->(∀ i,i < l->O.kle (kq key p i) (kq key p k))->(∀ i,r≤i->i < k->O.klt (kq key p k) (kq key p i))->kOk key n (kas_place p k f l r) P
 |0,l,r,h1,h2,h3,h4,h5=>by
  have:l=r:=by omega
  subst this;exact h l h2 h4 h5
 |f + 1,l,r,h1,h2,h3,h4,h5=>by
  unfold kas_place;by_cases hge:l ≥ r
  ·rw [AH hge]
   have:l=r:=by omega
   subst this;exact h l h2 h4 h5
  ·rw [AJ hge];refine ⟨B.lt hk,B.lt (by omega),?_⟩
   show kOk key n (if O.blt (kq key p k) (kq key p ((l + r) / 2))=true then kas_place p k f l ((l + r) / 2) else kas_place p k f ((l + r) / 2 + 1) r) P;cases hless:O.blt (kq key p k) (kq key p ((l + r) / 2)) with
   |true =>rw [AH rfl];exact YX B hk hs h f _ _ (by omega) (by omega) (by omega) h4 fun i a b=>KeyOrd.klt_of_klt_of_kle hless (hs _ _ a b)
   |false =>
    rw [AJ (by simp)]
    exact YX B hk hs h f _ _ (by omega) (by omega) (by omega) (fun i a=>CK (hs i ((l + r) / 2) (by omega) (by omega)) (show O.kle _ _ from hless)) h5
theorem JT {P:Array Nat->Prop} (h:∀ p,PB n p->Srt key p n->P p):∀ (f:Nat) (p:Array Nat) (k:Nat),PB n p->k + f=n->Srt key p k->kOk key n (kas_bin f p k) P
 |0,p,k,B,h1,hs=>h p B (by
  have:k=n:=by omega
  subst this;exact hs)
 |f + 1,p,k,B,h1,hs=>by
  unfold kas_bin;refine zJ (YX B (by omega) hs (fun l hlk hlo hhi => ?_) k 0 k (by omega) (AK _) (by omega) (fun i hi=>absurd hi (BC _)) fun i a b=>absurd b (by omega))
  refine JT h f _ (k + 1) ⟨(bubble_perm _ _ _).trans B.perm⟩ (by omega) fun i j hij hj => ?_
  have hks:k < p.size:=by rw [B.size];omega
  rw [jo hks (by omega),jo hks (by omega),show k - (k - l)=l by omega]
  repeat' split
  all_goals first
   |(exfalso;omega)
   |exact BT _
   |exact hlo _ (by omega)
   |exact CB (hhi _ (by omega) (by omega))
   |exact hs _ _ (by omega) (by omega)
theorem qGv (h1:1≤n):kOk key n (kas_sort n) fun p=>PB n p∧Srt key p n:=by
 unfold kas_sort;refine zJ (qEw ⟨Array.Perm.refl _⟩ h1 fun m p B a b hs => ?_);dsimp only;by_cases hlt:m < n
 ·rw [AH hlt,show max m 1=m by omega]
  exact JT (fun p B hs=>⟨B,hs⟩) _ _ _ B (by omega) hs
 ·rw [AJ hlt]
  have:m=n:=by omega
  subst this;exact ⟨B,hs⟩
end
section
variable {prog:Program} {w:World} {A:Around} {E:Value->Shared->Prop} {s:Shared} {O:KeyOrd}
theorem qDF {vs:List Value} (hsz:vs.toArray.size=vs.length) (h2:vs.toArray.size < 2):List.toArray ((List.range vs.length).toArray.toList.map fun i=>vs.getD i Value.none)=(vs.toArray.zip vs.toArray).map (·.2):=by
 match vs,hsz,h2 with
 |[],_,_=>simp
 |[v],_,_=>simp
 |v₁::v₂::rest,hsz,h2=>rw [hsz,AM,AM] at h2;omega
theorem qHV {a:Addr} {vs:List Value} {n:Nat} {P:PySem.Fin->Shared->Prop} {key:Nat->O.α} {κ:SortKind} (ho:s.heap.get? a=some (seqObj "list" vs.toArray n)) (h64:vs.length < 64)
  (hk:2≤vs.length -> ∀ (h6:Heap) (Q:SortKind->Shared->Prop),(∀ b o,b≠a->s.heap.get? b=some o->h6.get? b=some o)->Q κ { s with heap:=h6 }->wpAny (model prog w) A (keyKind' vs.toArray) Q E { s with heap:=h6 })
  (hc:∀ (h6:Heap) (i j:Nat) (C:Bool->Shared->Prop),(∀ b o,b≠a->s.heap.get? b=some o->h6.get? b=some o)->i < vs.length->j < vs.length->C (O.blt (key i) (key j)) { s with heap:=h6 }->wpAny (model prog w) A (keyLt' κ (vs.getD i Value.none) (vs.getD j Value.none)) C (fun _ _=>False) { s with heap:=h6 })
  (h:∀ p:Array Nat,PB vs.length p->Srt key p vs.length->P (.done (.ret .none)) { s with heap:=sortedHeap s.heap a vs (List.toArray (p.toList.map fun i=>vs.getD i Value.none)) }) :
  wpAny (model prog w) A (Builtin.«list.sort» ⟨[.ref a],[]⟩) P E s:=by
 rw [list_sort_plain];have ha:a < s.heap.objs.size:=AT ho;refine AA (listItems_at ho rfl ?_);refine AA (listUpdate_at ho rfl ?_);obtain ⟨e1,ho1⟩:∃ e1,(s.heap.update a (Obj.mapSeq fun _ => #[])).get? a=some (seqObj "list" #[] e1):=⟨_,get?_update_seq ho (fun _ => #[])⟩;refine AA (seqEpoch_at ho1 rfl ?_);refine AA (wpAny_newTuple ?_);refine AA (wpAny_newList ?_);refine Ap ?_;have ho6:(((s.heap.update a (Obj.mapSeq fun _ => #[])).push (seqObj "tuple" vs.toArray 0)).push (seqObj "list" #[] 0)).get? a=some (seqObj "list" #[] e1):=by
  rw [Heap.get?_push_ne _ _ _ (by rw [size_push',CJ];exact Ab (A8 ha)),Heap.get?_push_ne _ _ _ (by rw [CJ];exact Ab ha)]
  exact ho1
 have keep:∀ b o,b≠a->s.heap.get? b=some o->(((s.heap.update a (Obj.mapSeq fun _ => #[])).push (seqObj "tuple" vs.toArray 0)).push (seqObj "list" #[] 0)).get? b=some o:=fun b o hb q =>
  AG _ (AG _ ((Ak _ _ (Ne.symm hb)).trans q))
 show wpAny (model prog w) A _ P E { s with heap:=((s.heap.update a (Obj.mapSeq fun _ => #[])).push (seqObj "tuple" vs.toArray 0)).push (seqObj "list" #[] 0) };dsimp only;have hsz:vs.toArray.size=vs.length:=by simp
 by_cases h2:vs.toArray.size < 2
 ·rw [AH h2,AH h2];refine AA (AF ?_);rw [StateT.run_pure];refine AA (AF ?_);dsimp only;refine AA (seqEpoch_at ho6 rfl ?_);refine AA (listUpdate_at ho6 rfl ?_ (hsz2:=by rw [Array.size_map];show (pairsOf vs).size≤_;rw [pairsOf_size,Bw];omega))
  simp only [bne_self_eq_false,A0,BX];refine AF ?_
  have:=h (List.range vs.length).toArray ⟨Array.Perm.refl _⟩ fun i j hij hj=>by
   have:i=j:=by omega
   subst this;exact BT _
  have e:List.toArray ((List.range vs.length).toArray.toList.map fun i=>vs.getD i Value.none)=(arrOf (SortSt.mk' general' (vs.toArray.zip vs.toArray) #[] 7 none)).map (·.2):=qDF hsz h2;rw [e] at this;exact this
 ·rw [AJ h2,AJ h2];have h2':2≤vs.length:=by omega
  refine AA (hk h2' _ _ keep ?_);have hw:(kas_sort vs.length).kasWp (kas_ask prog w A κ vs) (fun p s'=>s'={ s with heap:=((s.heap.update a (Obj.mapSeq fun _ => #[])).push (seqObj "tuple" vs.toArray 0)).push (seqObj "list" #[] 0) }∧PB vs.length p∧Srt key p vs.length) { s with heap:=((s.heap.update a (Obj.mapSeq fun _ => #[])).push (seqObj "tuple" vs.toArray 0)).push (seqObj "list" #[] 0) } :=
   J9 (O:=O) (key:=key) (n:=vs.length) (fun i j C hi hj hC=>hc _ i j C keep hi hj hC) (P:=fun p=>PB vs.length p∧Srt key p vs.length) (fun p hp=>⟨rfl,hp⟩) _ (qGv (by omega))
  refine AA (Bc (kat_run (Q:=fun st' s' => ∃ p:Array Nat,p.size=vs.length∧arrOf st'=p.map (kas_item (vs.toArray.zip vs.toArray))∧failedOf st'=none∧s'={ s with heap:=((s.heap.update a (Obj.mapSeq fun _ => #[])).push (seqObj "tuple" vs.toArray 0)).push (seqObj "list" #[] 0) }∧PB vs.length p∧Srt key p vs.length)
   rfl h2' h64 (fun p' st' s' a1 a2 a3 a4=>⟨p',a1,a2,a3,a4⟩) hw) ?_ fun _ _ e=>e)
  rintro ⟨⟨⟩,st'⟩ s' ⟨p,hp,har,hf,rfl,B,S⟩
  dsimp only;have hout:=kat_snds rfl har;refine AA (seqEpoch_at ho6 rfl ?_);refine AA (listUpdate_at ho6 rfl ?_ (hsz2:=by rw [hout,AO,AC,Aa,hp,Bw];omega))
  rw [hf];simp only [bne_self_eq_false,A0,BX];rw [hout];exact AF (h p B S)
theorem qBC {l:Addr} {vs:List Value} {Q:List Value->Shared->Prop} (hl:∃ o,s.heap.get? l=some o∧o.cls = .type "tuple" ∧ ∃ n,o.data = .seq vs.toArray n) (hz:vs.length≤sizeLine)
  (h:Q vs { s with heap:=(s.heap.push (seqObj "list" #[] 0)).update s.heap.objs.size (Obj.mapSeq (· ++ vs.toArray)) }):wpAny (model prog w) A (collect (.ref l)) Q E s:=by
 obtain ⟨ob,g1,g2,nn,g3⟩:=hl;unfold collect;refine AA (wpAny_runValue (BN entry_proto_collect' ?_));show wpAny _ _ (do again (.builtin "list.__iadd__" ⟨[← newList [],.ref l],[]⟩)) _ _ s;refine AA (wpAny_newList (AF ⟨Code.quiet_builtin _ (by decide +kernel),BN entry_list_iadd' ?_⟩))
 show wpAny _ _ (Builtin.List.listExtendWith (.ref s.heap.objs.size) (.ref l) (.ref s.heap.objs.size)) _ _ { s with heap:=s.heap.push (seqObj "list" #[] 0) };unfold Builtin.List.listExtendWith;have g4:(s.heap.push (seqObj "list" #[] 0)).get? l=some ob:=AG _ g1;refine AA (Bp (T := "tuple") ⟨ob,g4,g2⟩ ?_);have g5:(Value.type "tuple" == Value.type "tuple")=true:=by rfl
 rw [AH (by rw [g5];simp)]
 refine AA (listItems_at g4 g3 ?_);refine AA (listItems_at (xs := #[]) (n:=0) (AX _ rfl) rfl ?_);rw [AJ (by simp)]
 refine AA (listUpdate_at (xs := #[]) (n:=0) (AX _ rfl) rfl ?_ (A7 _) (by show (#[]++vs.toArray).size≤sizeLine + 1;simp only [Array.size_append,AO,BS];omega))
 refine AF ?_;show wpAny _ _ (load s.heap.objs.size >>= _) Q E _;refine AA (wpAny_load (get?_update_seq (AX _ rfl) _) ?_);show wpAny _ _ (pure ((#[]:Array Value)++vs.toArray).toList) Q E _;rw [show ((#[]:Array Value)++vs.toArray).toList=vs by simp]
 exact AF h
theorem qDw {l:Addr} {vs:List Value} {Q:Value->Shared->Prop} {key:Nat->O.α} {κ:SortKind} (hcol:∀ {E':Value->Shared->Prop} {Q':List Value->Shared->Prop},Q' vs { s with heap:=(s.heap.push (seqObj "list" #[] 0)).update s.heap.objs.size (Obj.mapSeq (· ++ vs.toArray)) }->wpAny (model prog w) A.in1 (collect (.ref l)) Q' E' s) (h64:vs.length < 64)
  (hk:2≤vs.length -> ∀ (A':Around) (E':Value->Shared->Prop) (h6:Heap) (Q:SortKind->Shared->Prop),(∀ b o,s.heap.get? b=some o->h6.get? b=some o)->Q κ { s with heap:=h6 }->wpAny (model prog w) A' (keyKind' vs.toArray) Q E' { s with heap:=h6 })
  (hc:∀ (h6:Heap) (i j:Nat) (C:Bool->Shared->Prop),(∀ b o,s.heap.get? b=some o->h6.get? b=some o)->i < vs.length->j < vs.length->C (O.blt (key i) (key j)) { s with heap:=h6 }->wpAny (model prog w) A.in1.in1 (keyLt' κ (vs.getD i Value.none) (vs.getD j Value.none)) C (fun _ _=>False) { s with heap:=h6 })
  (h:∀ p:Array Nat,PB vs.length p->Srt key p vs.length->Q (.ref (s.heap.objs.size + 1)) { s with heap:=sortedAll s.heap vs (List.toArray (p.toList.map fun i=>vs.getD i Value.none)) }) :
  wpAny (model prog w) A (call (.builtin "sorted") [.ref l]) Q E s:=by
 refine Calls.call_function_entry kind_sorted plain_sorted entry_sorted (args_sorted1 _) ?_;unfold Builtin.«sorted»;refine AA (m:=checkCount "sorted" 1 1 _) (AF ?_);refine AA (hcol ?_);refine AA (wpAny_newList ?_ (by rw [Bw];omega))
 have hsz:((s.heap.push (seqObj "list" #[] 0)).update s.heap.objs.size (Obj.mapSeq (· ++ vs.toArray))).objs.size=s.heap.objs.size + 1:=by rw [CJ,size_push']
 have hoL:(((s.heap.push (seqObj "list" #[] 0)).update s.heap.objs.size (Obj.mapSeq (· ++ vs.toArray))).push (seqObj "list" vs.toArray 0)).get? (s.heap.objs.size + 1)=some (seqObj "list" vs.toArray 0):=by rw [← hsz];exact AX _ rfl
 have keep:∀ b o,s.heap.get? b=some o->(((s.heap.push (seqObj "list" #[] 0)).update s.heap.objs.size (Obj.mapSeq (· ++ vs.toArray))).push (seqObj "list" vs.toArray 0)).get? b=some o:=fun b o q=>by
  have hlt:b < s.heap.objs.size:=AT q;rw [Heap.get?_push_ne _ _ _ (by rw [hsz];exact Ab (A8 hlt)),Heap.get?_update_ne _ _ _ _ (Ab hlt),Heap.get?_push_ne _ _ _ (Ab hlt)]
  exact q
 show wpAny _ _ _ _ _ { s with heap:=((s.heap.push (seqObj "list" #[] 0)).update s.heap.objs.size (Obj.mapSeq (· ++ vs.toArray))).push (seqObj "list" vs.toArray 0) };rw [hsz];have hne:∀ b o,s.heap.get? b=some o->b≠s.heap.objs.size + 1:=fun b o q=>Ab (A8 (AT q));refine AA (Ap (B2 slot_list_sort ⟨_,hoL,rfl⟩ entry_list_sort (qHV (O:=O) (key:=key) (κ:=κ) hoL h64 (fun h2 h6 Q' k q=>hk h2 _ _ h6 Q' (fun b o hb=>k b o (hne b o hb) (keep b o hb)) q) (fun h6 i j C k hi hj q=>hc h6 i j C (fun b o hb=>k b o (hne b o hb) (keep b o hb)) hi hj q) fun p a1 a2=>⟨_,rfl,?_⟩) (args_list_sort _)));exact AF ⟨_,rfl,h p a1 a2⟩
end
def lxb:List Int->List Int->Bool
 |_,[]=>false
 |[],_::_=>true
 |a::l,b::m=>if a < b then true else if b < a then false else lxb l m
theorem YL:∀ l,lxb l l=false
 |[]=>rfl
 |a::l=>by rw [lxb,AJ (CM a),AJ (CM a)];exact YL l
theorem qBS:∀ a b c,lxb a b=true->lxb b c=true->lxb a c=true
 |_,_,[],_,h=>by cases ‹List Int› <;> simp [lxb] at h
 |_,[],_::_,h,_=>by simp [lxb] at h
 |[],_::_,_::_,_,_=>rfl
 |x::l,y::m,z::n,h1,h2=>by
  unfold lxb at h1 h2 ⊢;by_cases hxy:x < y
  ·by_cases hyz:y < z
   ·rw [AH (by omega)]
   ·rw [AJ hyz] at h2;by_cases hzy:z < y
    ·rw [AH hzy] at h2;cases h2
    ·rw [AH (by omega)]
  ·rw [AJ hxy] at h1;by_cases hyx:y < x
   ·rw [AH hyx] at h1;cases h1
   ·rw [AJ hyx] at h1;by_cases hyz:y < z
    ·rw [AH (by omega)]
    ·rw [AJ hyz] at h2;by_cases hzy:z < y
     ·rw [AH hzy] at h2;cases h2
     ·rw [AJ hzy] at h2;rw [AJ (by omega),AJ (by omega)]
      exact qBS l m n h1 h2
theorem YN:∀ a b,lxb a b=false->lxb b a=false->a=b
 |[],[],_,_=>rfl
 |[],_::_,h,_=>by cases h
 |_::_,[],_,h=>by cases h
 |x::l,y::m,h1,h2=>by
  unfold lxb at h1 h2;by_cases hxy:x < y
  ·rw [AH hxy] at h1;cases h1
  ·by_cases hyx:y < x
   ·rw [AH hyx] at h2;cases h2
   ·rw [AJ hxy,AJ hyx] at h1;rw [AJ hyx,AJ hxy] at h2
    have:x=y:=by omega
    rw [this,YN l m h1 h2]
def lxO:KeyOrd where
 α:=List Int
 blt:=lxb
 irrefl:=YL
 trans:=qBS
 total:=YN
 negTrans:=fun a b c h=>by
  cases h1:lxb a b with
  |true=>exact .inl rfl
  |false =>
   right;cases h2:lxb b a with
   |true=>exact qBS b a c h2 h
   |false=>rw [← YN a b h1 h2];exact h
section
variable {prog:Program} {w:World} {A:Around} {E:Value->Shared->Prop} {s:Shared}
theorem qHH (b:Bool) {x y:Int} {t u:Tok} {Q:Bool->Shared->Prop} (h:Q (decide (x < y)) s):wpAny (model prog w) A (oneLt' b (.int x t) (.int y u)) Q E s:=by
 cases b with
 |true=>exact oneLt_int h
 |false=>exact kat_one _ _ (wpAny_lt_int h)
theorem qIn {b fin:Bool} {Q:Bool->Shared->Prop} {ks:List Int} {vs:List Value} (hx:ItemsAre (intKind prog w) ks vs):∀ {ks':List Int} {us:List Value} (i:Nat),ItemsAre (intKind prog w) ks' us->decide (vs.length < us.length)=fin->Q (lxb ks ks') s->KatLex prog w A b fin Q (vs.zip us) i s:=by
 induction hx with
 |nil =>
  intro ks' us i hy hf h;refine kat_nil ?_;cases hy with
  |nil=>rw [← hf];exact h
  |cons _ _=>rw [← hf,BS,AM,AQ (CY _)];exact h
 | @cons k v ks vs h1 h2 ih =>
  intro ks' us i hy hf h;cases hy with
  |nil=>refine kat_nil ?_;rw [← hf];exact h
  | @cons k' u ks' us g1 g2 =>
   rw [Ar];refine kat_cons ((intKind prog w).eqBool h1 g1 ?_);obtain ⟨n1,t1,rfl⟩:=ZE (.cons h1 h2) v AI;obtain ⟨n2,t2,rfl⟩:=ZE (.cons g1 g2) u AI;have e1:n1=k:=(intKind prog w).inj _ _ _ (intKind_is prog w n1 t1) h1;have e2:n2=k':=(intKind prog w).inj _ _ _ (intKind_is prog w n2 t2) g1;subst e1;subst e2;unfold lxb at h;by_cases hq:n1=n2
   ·rw [AQ hq];rw [AJ (by omega),AJ (by omega)] at h
    exact kat_yes (ih (i + 1) g2 (by simpa using hf) h)
   ·rw [AV hq];refine kat_no (qHH _ ?_);by_cases hl:n1 < n2
    ·rw [AH hl] at h;rw [AQ hl];exact h
    ·rw [AJ hl,AH (by omega)] at h;rw [AV hl];exact h
theorem qKa {b:Bool} {ks ks':List Int} {x y:Addr} {Q:Bool->Shared->Prop} (hx:TK prog w s.heap ks x) (hy:TK prog w s.heap ks' y) (h:Q (lxb ks ks') s):wpAny (model prog w) A (keyLt' (tuples' b) (.ref x) (.ref y)) Q E s:=by obtain ⟨ox,xs,n,h1,_,h3,h4⟩:=hx;obtain ⟨oy,ys,m,g1,_,g3,g4⟩:=hy;exact kat_lt h1 h3 g1 g3 (qIn h4 0 g4 (by simp) h)
inductive TsV (prog:Program) (w:World) (h:Heap):List Value->List (List Int)->Prop
 |nil:TsV prog w h [] []
 |cons {ks:List Int} {b:Addr} {vs:List Value} {kss:List (List Int)}:TK prog w h ks b->ks≠[]->TsV prog w h vs kss->TsV prog w h (.ref b::vs) (ks::kss)
theorem TsV.len {h:Heap} {vs:List Value} {kss:List (List Int)} (e:TsV prog w h vs kss):vs.length=kss.length:=by
 induction e with
 |nil=>rfl
 |cons _ _ _ ih=>rw [AM,AM,ih]
theorem TsV.keep {h h':Heap} {vs:List Value} {kss:List (List Int)} (e:TsV prog w h vs kss) (k:∀ b o,(∃ ks,TK prog w h ks b)->h.get? b=some o->h'.get? b=some o):TsV prog w h' vs kss:=by
 induction e with
 |nil=>exact .nil
 |cons a ne _ ih=>exact .cons (a.keep fun o=>k _ o ⟨_,a⟩) ne ih
theorem TsV.get {h:Heap} {vs:List Value} {kss:List (List Int)} (e:TsV prog w h vs kss):∀ {i:Nat},i < vs.length -> ∃ b,vs.getD i Value.none = .ref b∧TK prog w h (kss.getD i []) b:=by
 induction e with
 |nil=>intro i hi;exact absurd hi (BC _)
 | @cons ks b vs kss a _ _ ih =>
  intro i hi;cases i with
  |zero=>exact ⟨b,rfl,a⟩
  |succ i=>simpa using ih (i:=i) (by simpa using hi)
theorem TsV.kat {h:Heap} {vs:List Value} {kss:List (List Int)} (e:TsV prog w h vs kss):∃ fs:List Value,KatTups h vs fs∧fs.length=vs.length ∧ ∀ v∈fs,∃ n t,v=Value.int n t:=by
 induction e with
 |nil=>exact ⟨[],KatTups.nil,rfl,fun v hv=>(Ag hv).elim⟩
 | @cons ks b vs kss a ne _ ih =>
  obtain ⟨fs,h1,h2,h3⟩:=ih;obtain ⟨o,its,n,g1,g2,g3,g4⟩:=a;have hv:=ZE g4;cases hq:its.toList with
  |nil =>rw [hq] at g4;cases g4;exact absurd rfl ne
  |cons f r =>
   have hf:its[0]? = some f:=by rw [← A3,hq];rfl
   refine ⟨f::fs,KatTups.cons g1 g2 g3 hf h1,by rw [AM,AM,h2],fun v hv' => ?_⟩
   rcases AE.mp hv' with q |q
   ·rw [q];exact hv f (by rw [hq];exact AI)
   ·exact h3 v q
theorem qI8 {vs:List Value} {kss:List (List Int)} {Q:SortKind->Shared->Prop} (e:TsV prog w s.heap vs kss) (h2:2≤vs.length) (h:Q (tuples' true) s):wpAny (model prog w) A (keyKind' vs.toArray) Q E s:=by
 obtain ⟨fs,h1,h3,h4⟩:=e.kat;refine kat_kind (T := .type "int") h1 (by omega) (fun v hv => ?_) (by decide) ?_
 ·obtain ⟨n,t,rfl⟩:=h4 v hv;exact .now
 ·rw [show (Value.type "int" != Value.type "tuple")=true by decide];exact h
def srt (kss:List (List Int)):List (List Int):=kss.mergeSort fun a b => !lxb b a
theorem wL (kss:List (List Int)):(srt kss).Perm kss:=List.mergeSort_perm _ _
theorem qFC (kss:List (List Int)):(srt kss).Pairwise fun a b=>lxb b a=false:=by
 have:=List.pairwise_mergeSort (le:=fun a b:List Int => !lxb b a) (fun a b c h1 h2=>by
  simp only [Bool.not_eq_eq_eq_not,Bool.not_true] at h1 h2 ⊢;exact CK (O:=lxO) h1 h2) (fun a b=>by
  cases h:lxb b a with
  |false=>simp
  |true =>
   have:lxb a b=false:=CB (O:=lxO) (a:=b) (b:=a) h
   simp [this]) kss
 exact this.imp fun h=>by simpa using h
theorem qHl:∀ {l m:List (List Int)},l.Pairwise (fun a b=>lxb b a=false)->m.Pairwise (fun a b=>lxb b a=false)->l.Perm m->l=m
 |[],m,_,_,p=>(List.Perm.eq_nil p.symm).symm
 |x::l,[],_,_,p=>by have:=p.length_eq;simp at this
 |x::l,y::m,hl,hm,p=>by
  have hx:x∈y::m:=p.mem_iff.mp AI;have hy:y∈x::l:=p.mem_iff.mpr AI;have e:x=y:=by
   have h1:lxb y x=false:=by
    rcases AE.mp hy with q |q
    ·rw [q];exact YL _
    ·exact (BG.mp hl).1 y q
   have h2:lxb x y=false:=by
    rcases AE.mp hx with q |q
    ·rw [q];exact YL _
    ·exact (BG.mp hm).1 x q
   exact YN _ _ h2 h1
  subst e;rw [qHl (BG.mp hl).2 (BG.mp hm).2 (List.Perm.cons_inv p)]
theorem qLI {h:Heap} {vs:List Value} {kss:List (List Int)} (e:TsV prog w h vs kss) {p:Array Nat} (B:PB vs.length p) (S:Srt (O:=lxO) (fun i=>kss.getD i []) p vs.length):p.toList.map (fun i=>kss.getD i [])=srt kss:=by
 have hsz:=B.size;refine qHl ?_ (qFC kss) ?_
 ·rw [CA,Bu];intro i j hi hj hij
  have:=S i j (by omega) (by rw [Aa] at hj;omega)
  unfold kq at this;rw [AL,AL,AS (by simpa using hi),AS (by simpa using hj)] at this
  exact this
 ·refine ((Array.perm_iff_toList_perm.mp B.perm).map _).trans (.trans ?_ (wL kss).symm)
  have:(List.range vs.length).map (fun i=>kss.getD i [])=kss:=by
   rw [e.len];refine List.ext_getElem (by simp) fun i h1 h2 => ?_
   simp [Ac,AU h2]
  show ((List.range vs.length).map fun i=>kss.getD i []).Perm kss;rw [this]
end
end ET
end
section
namespace ET
open PySem PySem.Spec PyProof.Rows L2
open EX
def jH (acc:List (List Int)) (k:List Int):List (List Int):=if k∈acc then acc else acc++[k]
def ddT (kss:List (List Int)):List (List Int):=kss.foldl jH []
theorem qFm {kss:List (List Int)} {i:Nat} (h:i < kss.length):ddT (kss.take (i + 1))=jH (ddT (kss.take i)) (kss.getD i []):=by unfold ddT;rw [List.take_succ_eq_append_getElem h,List.foldl_append,Ac,AU h];rfl
theorem qDf {a b:List (List Int)} {k:List Int} (h:a.Perm b):(if k∈a then a else a++[k]).Perm (jH b k):=by
 unfold jH;by_cases q:k∈a
 ·rw [AH q,AH (h.mem_iff.mp q)];exact h
 ·rw [AJ q,AJ (fun z=>q (h.mem_iff.mpr z))];exact h.append_right _
theorem YQ:∀ (kss acc:List (List Int)),(kss.foldl jH acc).length≤acc.length + kss.length
 |[],acc=>AK _
 |k::vs,acc=>by
  rw [List.foldl_cons,AM];have h:=YQ vs (jH acc k)
  have:(jH acc k).length≤acc.length + 1:=by
   unfold jH;split
   ·omega
   ·rw [AY];exact AK _
  omega
section
variable {prog:Program} {w:World} {A:Around} {E:Value->Shared->Prop} {R:Result->Shared->Prop}
theorem SetT.same {h h':Heap} {a:Addr} {es:Array (Int×Value)} {ep:Nat} {t:SetTable} {kss:List (List Int)} (S:SetT prog w h a es ep t kss) (e:∀ b o,(b=a ∨ ∃ ks,TK prog w h ks b)->h.get? b=some o->h'.get? b=some o):SetT prog w h' a es ep t kss:=by obtain ⟨⟨o,h1,h2⟩,el,nd,tb⟩:=S;exact ⟨⟨o,e a o (.inl rfl) h1,h2⟩,el.keep fun b ks k=>k.keep fun o' ho'=>e b o' (.inr ⟨ks,k⟩) ho',nd,tb⟩
theorem qBO {h:Heap} {b:Addr} {o:Obj} (ho:h.get? b=some o) (hc:o.cls ≠ .type "tuple"):∀ ks,¬ TK prog w h ks b:=fun ks ⟨o',_,_,h1,h2,_⟩=>by rw [ho] at h1;cases h1;exact hc h2
theorem SetT.not {h:Heap} {a:Addr} {es:Array (Int×Value)} {ep:Nat} {t:SetTable} {kss:List (List Int)} (S:SetT prog w h a es ep t kss) (ks:List Int):¬ TK prog w h ks a:=by obtain ⟨o,ho,hx,_⟩:=S.ex;exact qBO ho (by rw [hx.1];decide) ks
theorem qA7 {I:Addr} {fp wr:List Addr} {n:Nat} {P:Nat->Value->Prop} {St:Nat->Heap->Prop} (W:Walks prog w A.in1 I fp wr n P St) (hwr:∀ i h,St i h -> ∀ b∈wr,∀ ks,¬ TK prog w h ks b) (hu:A.in1.units < cLine) {Sa:Addr} (hS:Sa ∉ fp) {its:List Value} {kss:List (List Int)} (hn:its.length=n) (h3:n≤299) (hv:∀ i v,P i v->its[i]? = some v) :
  ∀ (k i:Nat) (s:Shared) (es:Array (Int×Value)) (ep:Nat) (t:SetTable) (ks1:List (List Int)),n - i=k->i≤n->St i s.heap->TsV prog w s.heap its kss->SetT prog w s.heap Sa es ep t ks1->(∀ e∈es.toList,e.2∈its)->ks1.Perm (ddT (kss.take i)) ->
   (∀ (h':Heap) (tk:Nat) (es':Array (Int×Value)) (ep':Nat) (t':SetTable) (ks':List (List Int)),(∀ b o,b ∉ Sa::wr->s.heap.get? b=some o->h'.get? b=some o)->SetT prog w h' Sa es' ep' t' ks'->ks'.Perm (ddT kss)->(∀ e∈es'.toList,e.2∈its)->R (.ok (.ret .none)) { s with heap:=h',toks:=tk }) ->
   codeAny (model prog w) A (.builtin "set.update.loop" ⟨[.ref Sa,.ref I],[]⟩) R s:=by
 intro k;induction k with
 |zero =>
  intro i s es ep t ks1 hk hi hSt V S hE hp h
  have:i=n:=by omega
  subst this;refine BN F.entry_set_update_loop ?_;rw [Bv F.plain_set_update_loop];unfold Builtin.«set.update.loop»;refine AA (W.done _ _ _ hSt fun h' tk hk' => ?_);dsimp only;refine AF ?_;refine h h' tk es ep t ks1 (fun b o hb'=>hk' b o fun q=>hb' (AD _ q)) (S.same fun b o hb=>hk' b o fun q=>hb.elim (fun z=>hS (W.sub _ (by rw [← z];exact q))) fun ⟨ks,z⟩=>hwr _ _ hSt b q ks z) ?_ ?_
  ·rw [← hn,V.len,List.take_length] at hp;exact hp
  ·exact hE
 |succ k ih =>
  intro i s es ep t ks1 hk hi hSt V S hE hp h;have hi':i < n:=by omega
  refine BN F.entry_set_update_loop ?_;rw [Bv F.plain_set_update_loop];unfold Builtin.«set.update.loop»;refine AA (W.item i _ _ _ hi' hSt fun v h' tk hP hSt' hk' => ?_);obtain ⟨b,hb,kb⟩:=V.get (i:=i) (by omega)
  have hvi:=hv i v hP;have evb:v = .ref b:=by rw [Ac,hvi] at hb;exact hb
  subst evb;have low:∀ c o,(∃ ks,TK prog w s.heap ks c)->s.heap.get? c=some o->h'.get? c=some o:=fun c o ⟨ks,z⟩=>hk' c o fun q=>hwr _ _ hSt c q ks z;have kb':TK prog w h' (kss.getD i []) b:=kb.keep fun o=>low b o ⟨_,kb⟩;have S':SetT prog w h' Sa es ep t ks1:=S.same fun c o hc=>hc.elim (fun z=>hk' c o fun q=>hS (W.sub _ (by rw [← z];exact q))) fun z=>low c o z
  have V':TsV prog w h' its kss:=V.keep low;dsimp only;refine AA (Ap ?_);unfold setAdd;refine Ap (AA (wpAny_pyHash_tuple (s:={ s with heap:=h',toks:=tk }) hu kb' ?_));have hl:ks1.length + 1≤300:=by
   have:=YQ (kss.take i) []
   have e:(ddT (kss.take i)).length≤i:=by have q:=List.length_take_le i kss;unfold ddT;have z:([]:List (List Int)).length=0:=rfl;omega
   rw [hp.length_eq];omega
  refine qKX (s:={ s with heap:=h',toks:=tk + ((kss.getD i []).length + 1) }) hu S' kb' hl fun h2 es2 ep2 t2 ks2 hs2 S2 hp2 he2 => ?_;refine AF ⟨Ce F.plain_set_update_loop _,?_⟩;refine ih (i + 1) _ es2 ep2 t2 ks2 (by omega) (by omega) (W.frame _ _ _ hSt' fun b hbf o ho=>by
   rw [hs2.2 b (fun z=>hS (by rw [← z];exact hbf))];exact ho) ?_ S2 (fun e he=>(he2 e he).elim (hE e) fun z=>by rw [z];exact Aw hvi) ?_ fun h3 tk3 es3 ep3 t3 ks3 hh S3 hp3 hE3 => ?_
  ·exact V'.keep fun c o ⟨ks,z⟩ ho=>(hs2.2 c (fun e=>S'.not ks (by rw [← e];exact z))).trans ho
  ·rw [qFm (by rw [← V.len];omega)]
   exact hp2.trans (qDf hp)
  ·exact h h3 tk3 es3 ep3 t3 ks3 (fun b o hbn ho=>hh b o hbn (by
    have:b≠Sa:=fun z=>hbn (by rw [z];exact AI)
    rw [hs2.2 b this];exact hk' b o (fun q=>hbn (AD _ q)) ho)) S3 hp3 hE3
theorem qCe {h:Heap} {led:Bool} (hl:led = !byT w):SetT prog w (h.push { cls := .type "set",data := .set #[] 0 (SetTable.fresh 0 0 led) }) h.objs.size #[] 0 (SetTable.fresh 0 0 led) [] :=
 ⟨⟨_,AX _ rfl,⟨rfl,rfl,rfl⟩,rfl⟩,.nil,Bk,⟨⟨rfl,rfl,fun i k _ hk=>absurd hk (BC _),fun j hj=>(Ag hj).elim,A7 _⟩,fun q hq=>(Ag hq).elim,.inl ⟨rfl,A7 _⟩,hl,rfl⟩⟩
theorem qBQ {s:Shared} {l:Addr} {items:Array Value} {kss:List (List Int)} {Q:Value->Shared->Prop} (hh:A.handled=none) (hu:A.units + 8 < cLine) (hl:s.heap.IsList l items) (V:TsV prog w s.heap items.toList kss) (h3:kss.length≤299)
  (h:∀ (h':Heap) (tk:Nat) (es':Array (Int×Value)) (ep':Nat) (t':SetTable) (ks':List (List Int)),SetT prog w h' s.heap.objs.size es' ep' t' ks'->ks'.Perm (ddT kss)->(∀ e∈es'.toList,e.2∈items.toList)->(∀ b o,b < s.heap.objs.size->s.heap.get? b=some o->h'.get? b=some o)->Q (.ref s.heap.objs.size) { s with heap:=h',toks:=tk }) :
  wpAny (model prog w) A (call (.type "set") [.ref l]) Q E s:=by
 refine B6 (codeAny_of_tree (Ao (a:=Fin.again (.builtin "type.__call__" ⟨[.type "set",.ref l],[]⟩)) rfl ⟨Code.quiet_builtin _ (by decide +kernel),?_⟩))
 refine BN F.entry_type_call ?_;rw [Around.under_plain (weight_type_call_type _ _ _) rfl];unfold Builtin.«type.__call__»;dsimp only;rw [AJ (by rw [F.called_set.notType];decide),AJ (by rw [F.called_set.canCreate];decide)]
 refine AA (Ao (F.typeCall_set_1 _) ?_);obtain ⟨c,tl,hm⟩:=F.called_set.mro;refine AA (Ao hm ?_);rw [AJ (by simp)]
 refine AA (Ao F.called_set.made ?_);dsimp only;refine AA (AF (AA (Ap (B6 (qCr ?_)))));have hT:({ s with heap:=s.heap.push { cls := .type "set",data := .set #[] 0 (SetTable.fresh 0 0 (!byT w)) } }:Shared).TypeIs (.ref s.heap.objs.size) "set" := ⟨_,AX _ rfl,rfl⟩;refine AA (BQ hT sub_set_self ?_);rw [AJ (by decide)]
 refine AA (Ap ?_);unfold callSpecial?;refine AA (wpAny_specialOf hT F.called_set.init.lookup ?_);dsimp only;refine Ap (AA (Ao (F.called_set.init.bind _) ?_));dsimp only;refine AA (B6 (CI F.called_set.init.plain F.entry_set_init (check_set_init_1 hT ?_)));unfold Builtin.«set.__init__»;refine AA (Ao (a:=()) rfl ?_);show wpAny _ _ (do
  let n ← typeNameOfCut 200 (.ref s.heap.objs.size)
  checkCount n 0 1 1
  let a ← Builtin.Frozenset.addrOf (.ref s.heap.objs.size);let u ← setUsed a
  if u=true then do
   Builtin.Frozenset.clearAll a
   Builtin.Frozenset.updateFrom "set.__init__" a (.ref l)
   ret Value.none
  else do
   Builtin.Frozenset.updateFrom "set.__init__" a (.ref l)
   ret Value.none) _ _ _
 unfold typeNameOfCut shownTypeOf;refine AA (AA (AA (Bp hT ?_)));rw [AJ (by decide)]
 refine AF (Ao (a := "set") (by rfl) ?_)
 refine AA (Ao (a:=()) rfl ?_);refine AA (Ao (a:=s.heap.objs.size) rfl ?_);unfold setUsed;have hg:(s.heap.push { cls := .type "set",data := .set #[] 0 (SetTable.fresh 0 0 (!byT w)) }).get? s.heap.objs.size=some { cls := .type "set",data := .set #[] 0 (SetTable.fresh 0 0 (!byT w)) }:=AX _ rfl;refine AA (AA (Be hg rfl rfl (AF ?_)));rw [AJ (by intro q;exact Bool.noConfusion (show false=true from q))]
 refine AA ?_;unfold Builtin.Frozenset.updateFrom Builtin.Frozenset.isAnySet;have hl':(s.heap.push { cls := .type "set",data := .set #[] 0 (SetTable.fresh 0 0 (!byT w)) }).IsList l items:=hl.push _;refine AA (AA (BQ (T := "list") hl'.typeIs F.sub_list_set ?_));show wpAny _ _ (isInstance (.ref l) (.type "frozenset")) _ _ _;refine BQ (T := "list") hl'.typeIs F.sub_list_frozenset ?_;rw [AJ (by decide)]
 refine AA (Bp (T := "list") hl'.typeIs ?_);rw [AJ (by decide)]
 refine AA (wpAny_pyIter_list hl' (AA (wpAny_runValue ?_)));have hlt:l < s.heap.objs.size:=by obtain ⟨o,ho,_⟩:=hl;exact AT ho
 have hS:=qCe (prog:=prog) (w:=w) (h:=s.heap) (led := !byT w) rfl;have hsz:(s.heap.push { cls := .type "set",data := .set #[] 0 (SetTable.fresh 0 0 (!byT w)) }).objs.size=s.heap.objs.size + 1:=B1 ..;have hlen:items.size=kss.length:=by rw [← V.len,Aa]
 refine qA7 (A:=A.in1.in1) (Walks.list (A:=A.in1.in1.in1) hh (s.heap.push { cls := .type "set",data := .set #[] 0 (SetTable.fresh 0 0 (!byT w)) }).objs.size l (by rw [hsz];exact Ab (A8 hlt)) items) (fun i h' hst b hb ks=>by
  rw [Ah.mp hb];obtain ⟨o,ho,hc,_⟩:=hst.1;exact qBO ho (by rw [hc];decide) ks) (by show A.units + 3 < cLine;omega) (Sa:=s.heap.objs.size) (by
  rw [hsz];intro q;rcases AE.mp q with q |q
  ·exact absurd q (by show ¬ s.heap.objs.size=s.heap.objs.size + 1;omega)
  ·have:=Ah.mp q;exact absurd hlt (by rw [← this];exact BJ _)) (its:=items.toList) (kss:=kss) (by rw [Aa]) (by omega) (fun i v hi=>by rw [A3];exact hi) _ 0 _ #[] 0 _ [] rfl (A7 _) ⟨⟨_,AX _ rfl,rfl,rfl⟩,hl'.push _⟩ (V.keep fun b o _ ho=>AG _ (AG _ ho)) (hS.same fun b o _ ho=>AG _ ho) (fun e he=>(Ag he).elim) (by rw [List.take_zero];exact .refl _) fun h' tk es' ep' t' ks' hk S' hp hE' => ?_
 refine AF (AF ?_);refine AF ?_;dsimp only;rw [AJ (by decide)]
 refine AF ?_;refine h h' tk es' ep' t' ks' S' hp hE' fun b o hb' ho=>hk b o (fun q => ?_) (AG _ (AG _ ho));rw [hsz] at q;rcases AE.mp q with q |q
 ·exact absurd hb' (by rw [q];exact BJ _)
 ·have:=Ah.mp q;exact absurd hb' (by rw [this];exact Nat.not_lt_of_le (Nat.le_succ _))
theorem qBt {s:Shared} {l:Addr} {items:Array Value} {kss:List (List Int)} {Q:Value->Shared->Prop} (hh:A.handled=none) (hu:A.units + 8 < cLine) (hl:s.heap.IsTuple l items) (V:TsV prog w s.heap items.toList kss) (h3:kss.length≤299)
  (h:∀ (h':Heap) (tk:Nat) (es':Array (Int×Value)) (ep':Nat) (t':SetTable) (ks':List (List Int)),SetT prog w h' s.heap.objs.size es' ep' t' ks'->ks'.Perm (ddT kss)->(∀ e∈es'.toList,e.2∈items.toList)->(∀ b o,b < s.heap.objs.size->s.heap.get? b=some o->h'.get? b=some o)->Q (.ref s.heap.objs.size) { s with heap:=h',toks:=tk }) :
  wpAny (model prog w) A (call (.type "set") [.ref l]) Q E s:=by
 refine B6 (codeAny_of_tree (Ao (a:=Fin.again (.builtin "type.__call__" ⟨[.type "set",.ref l],[]⟩)) rfl ⟨Code.quiet_builtin _ (by decide +kernel),?_⟩))
 refine BN F.entry_type_call ?_;rw [Around.under_plain (weight_type_call_type _ _ _) rfl];unfold Builtin.«type.__call__»;dsimp only;rw [AJ (by rw [F.called_set.notType];decide),AJ (by rw [F.called_set.canCreate];decide)]
 refine AA (Ao (F.typeCall_set_1 _) ?_);obtain ⟨c,tl,hm⟩:=F.called_set.mro;refine AA (Ao hm ?_);rw [AJ (by simp)]
 refine AA (Ao F.called_set.made ?_);dsimp only;refine AA (AF (AA (Ap (B6 (qCr ?_)))));have hT:({ s with heap:=s.heap.push { cls := .type "set",data := .set #[] 0 (SetTable.fresh 0 0 (!byT w)) } }:Shared).TypeIs (.ref s.heap.objs.size) "set" := ⟨_,AX _ rfl,rfl⟩;refine AA (BQ hT sub_set_self ?_);rw [AJ (by decide)]
 refine AA (Ap ?_);unfold callSpecial?;refine AA (wpAny_specialOf hT F.called_set.init.lookup ?_);dsimp only;refine Ap (AA (Ao (F.called_set.init.bind _) ?_));dsimp only;refine AA (B6 (CI F.called_set.init.plain F.entry_set_init (check_set_init_1 hT ?_)));unfold Builtin.«set.__init__»;refine AA (Ao (a:=()) rfl ?_);show wpAny _ _ (do
  let n ← typeNameOfCut 200 (.ref s.heap.objs.size)
  checkCount n 0 1 1
  let a ← Builtin.Frozenset.addrOf (.ref s.heap.objs.size);let u ← setUsed a
  if u=true then do
   Builtin.Frozenset.clearAll a
   Builtin.Frozenset.updateFrom "set.__init__" a (.ref l)
   ret Value.none
  else do
   Builtin.Frozenset.updateFrom "set.__init__" a (.ref l)
   ret Value.none) _ _ _
 unfold typeNameOfCut shownTypeOf;refine AA (AA (AA (Bp hT ?_)));rw [AJ (by decide)]
 refine AF (Ao (a := "set") (by rfl) ?_)
 refine AA (Ao (a:=()) rfl ?_);refine AA (Ao (a:=s.heap.objs.size) rfl ?_);unfold setUsed;have hg:(s.heap.push { cls := .type "set",data := .set #[] 0 (SetTable.fresh 0 0 (!byT w)) }).get? s.heap.objs.size=some { cls := .type "set",data := .set #[] 0 (SetTable.fresh 0 0 (!byT w)) }:=AX _ rfl;refine AA (AA (Be hg rfl rfl (AF ?_)));rw [AJ (by intro q;exact Bool.noConfusion (show false=true from q))]
 refine AA ?_;unfold Builtin.Frozenset.updateFrom Builtin.Frozenset.isAnySet;have hl':(s.heap.push { cls := .type "set",data := .set #[] 0 (SetTable.fresh 0 0 (!byT w)) }).IsTuple l items:=hl.push _;refine AA (AA (BQ (T := "tuple") hl'.typeIs F.sub_tuple_set ?_));show wpAny _ _ (isInstance (.ref l) (.type "frozenset")) _ _ _;refine BQ (T := "tuple") hl'.typeIs F.sub_tuple_frozenset ?_;rw [AJ (by decide)]
 refine AA (Bp (T := "tuple") hl'.typeIs ?_);rw [AJ (by decide)]
 refine AA (wpAny_pyIter_tuple hl' (AA (wpAny_runValue ?_)));have hlt:l < s.heap.objs.size:=by obtain ⟨o,ho,_⟩:=hl;exact AT ho
 have hS:=qCe (prog:=prog) (w:=w) (h:=s.heap) (led := !byT w) rfl;have hsz:(s.heap.push { cls := .type "set",data := .set #[] 0 (SetTable.fresh 0 0 (!byT w)) }).objs.size=s.heap.objs.size + 1:=B1 ..;have hlen:items.size=kss.length:=by rw [← V.len,Aa]
 refine qA7 (A:=A.in1.in1) (Walks.tuple (A:=A.in1.in1.in1) hh (s.heap.push { cls := .type "set",data := .set #[] 0 (SetTable.fresh 0 0 (!byT w)) }).objs.size l (by rw [hsz];exact Ab (A8 hlt)) items) (fun i h' hst b hb ks=>by
  rw [Ah.mp hb];obtain ⟨o,ho,hc,_⟩:=hst.1;exact qBO ho (by rw [hc];decide) ks) (by show A.units + 3 < cLine;omega) (Sa:=s.heap.objs.size) (by
  rw [hsz];intro q;rcases AE.mp q with q |q
  ·exact absurd q (by show ¬ s.heap.objs.size=s.heap.objs.size + 1;omega)
  ·have:=Ah.mp q;exact absurd hlt (by rw [← this];exact BJ _)) (its:=items.toList) (kss:=kss) (by rw [Aa]) (by omega) (fun i v hi=>by rw [A3];exact hi) _ 0 _ #[] 0 _ [] rfl (A7 _) ⟨⟨_,AX _ rfl,rfl,rfl⟩,hl'.push _⟩ (V.keep fun b o _ ho=>AG _ (AG _ ho)) (hS.same fun b o _ ho=>AG _ ho) (fun e he=>(Ag he).elim) (by rw [List.take_zero];exact .refl _) fun h' tk es' ep' t' ks' hk S' hp hE' => ?_
 refine AF (AF ?_);refine AF ?_;dsimp only;rw [AJ (by decide)]
 refine AF ?_;refine h h' tk es' ep' t' ks' S' hp hE' fun b o hb' ho=>hk b o (fun q => ?_) (AG _ (AG _ ho));rw [hsz] at q;rcases AE.mp q with q |q
 ·exact absurd hb' (by rw [q];exact BJ _)
 ·have:=Ah.mp q;exact absurd hb' (by rw [this];exact Nat.not_lt_of_le (Nat.le_succ _))
end
end ET
end
section
namespace ET
open PySem PySem.Spec PyProof.Rows L2 PySem.W
open EX
section
variable {prog:Program} {w:World} {A:Around} {E:Value->Shared->Prop} {s:Shared}
theorem TsV.pick {h:Heap} {vs:List Value} {kss:List (List Int)} (e:TsV prog w h vs kss) (hne:∀ ks∈kss,ks≠[]):∀ (l:List Nat),(∀ i∈l,i < vs.length)->TsV prog w h (l.map fun i=>vs.getD i Value.none) (l.map fun i=>kss.getD i [])
 |[],_ => .nil
 |i::l,hl=>by
  have hi:=hl i AI;obtain ⟨b,h1,h2⟩:=e.get hi;rw [Aj,Aj,h1];refine .cons h2 ?_ (e.pick hne l fun j hj=>hl j (AD _ hj));have hk:i < kss.length:=by rw [← e.len];exact hi
  refine hne _ ?_;rw [Ac,AU hk];exact Bj hk
theorem TsV.ne {h:Heap} {vs:List Value} {kss:List (List Int)} (e:TsV prog w h vs kss):∀ ks∈kss,ks≠[]:=by
 induction e with
 |nil=>intro ks hk;cases hk
 |cons _ ne _ ih =>
  intro ks hk;rcases AE.mp hk with q |q
  ·rw [q];exact ne
  ·exact ih ks q
theorem PB.mem {n:Nat} {p:Array Nat} (B:PB n p):∀ i∈p.toList,i < n:=fun i hi=>by
 have:=(Array.perm_iff_toList_perm.mp B.perm).mem_iff.mp hi
 simpa using this
end
inductive TsL (K:W.Frag) (H:Hp):List V->List (List Int)->Prop
 |nil:TsL K H [] []
 |cons {a:Addr} {ks:List Int} {xs:List V} {kss:List (List Int)}:SqT K H a (ks.map V.int)->ks≠[]->TsL K H xs kss->TsL K H (.ref a::xs) (ks::kss)
section
variable {X:Cx} {pins:List (Addr×Obj)} {σ:L2.St} {H:Hp} {s:Shared}
theorem qAu {prog:Program} {w:World}:∀ {ks:List Int} {its:List Value},Vals (ks.map V.int) its->ItemsAre (intKind prog w) ks its
 |[],its,h=>by
  cases its with
  |nil=>exact .nil
  |cons u us=>cases h
 |k::ks,its,h=>by
  rw [Aj] at h;cases h with
  |cons r t =>obtain ⟨tk,rfl⟩:=(show ∃ t,_=Value.int k t from r);exact .cons (intKind_is prog w k tk) (qAu t)
theorem qHx (I:L2.Inv X pins σ H s) {a:Addr} {ks:List Int} (h:SqT X.K H a (ks.map V.int)):TK X.prog X.w s.heap ks a:=by obtain ⟨its,rv,⟨o,h1,h2,n,h3⟩,hz⟩:=I.tuple h;exact ⟨o,its.toArray,n,h1,h2,h3,qAu rv⟩
theorem tsv_of (I:L2.Inv X pins σ H s) {xs:List V} {kss:List (List Int)} (h:TsL X.K H xs kss):∀ {its:List Value},Vals xs its->TsV X.prog X.w s.heap its kss:=by
 induction h with
 |nil=>intro its hv;cases hv;exact .nil
 | @cons a ks xs kss h1 ne _ ih =>
  intro its hv;cases hv with
  |cons r t =>obtain rfl:=(show _=Value.ref a from r);exact .cons (qHx I h1) ne (ih t)
theorem TsL.mem {xs:List V} {kss:List (List Int)} (h:TsL X.K H xs kss):∀ x∈xs,∃ a ks,x = .ref a∧SqT X.K H a (ks.map V.int)∧ks≠[]:=by
 induction h with
 |nil=>intro x hx;cases hx
 |cons h1 ne _ ih =>
  intro x hx;rcases AE.mp hx with q |q
  ·exact ⟨_,_,q,h1,ne⟩
  ·exact ih x q
theorem qDb {xs:List V} {its:List Value} (h:Vals xs its):∀ b,Value.ref b∈its->(∀ x∈xs,∃ a,x=V.ref a)->V.ref b∈xs:=by
 induction h with
 |nil=>intro b hb;cases hb
 | @cons x u xs us r t ih =>
  intro b hb hx;obtain ⟨a,rfl⟩:=hx _ AI;obtain rfl:=(show u=Value.ref a from r);rcases AE.mp hb with q |q
  ·cases q;exact AI
  ·exact AD _ (ih b q fun y hy=>hx y (AD _ hy))
theorem TsL.zip {xs:List V} {kss:List (List Int)} (h:TsL X.K H xs kss):∀ a,V.ref a∈xs -> ∃ ks,(V.ref a,ks)∈xs.zip kss∧SqT X.K H a (ks.map V.int):=by
 induction h with
 |nil=>intro a hx;cases hx
 | @cons b ks xs kss h1 ne _ ih =>
  intro a hx;rw [Ar];rcases AE.mp hx with q |q
  ·cases q;exact ⟨ks,AI,h1⟩
  ·obtain ⟨ks,i1,i2⟩:=ih a q;exact ⟨ks,AD _ i1,i2⟩
theorem qIz (I:L2.Inv X pins σ H s) {xs:List V} {kss0:List (List Int)} (T:TsL X.K H xs kss0) {its:List Value} (rv:Vals xs its) {h':Heap} (hk:∀ b o,s.heap.get? b=some o->h'.get? b=some o) :
  ∀ {out:List Value} {kss:List (List Int)},TsV X.prog X.w h' out kss->(∀ v∈out,v∈its) -> ∃ L:List (V×List Int),L.map (·.2)=kss∧Vals (L.map (·.1)) out ∧ ∀ q∈L,q∈xs.zip kss0:=by
 intro out kss V;induction V with
 |nil=>intro _;exact ⟨[],rfl,.nil,fun y hy=>(Ag hy).elim⟩
 | @cons ks b vs kss k ne _ ih =>
  intro hin;obtain ⟨L,h1,h2,h3⟩:=ih fun v hv=>hin v (AD _ hv);have hm:=qDb rv b (hin _ AI) fun x hx=>by obtain ⟨a,_,e,_⟩:=T.mem x hx;exact ⟨a,e⟩
  obtain ⟨ks2,hz,hs⟩:=T.zip b hm;have k2:TK X.prog X.w h' ks2 b:=(qHx I hs).keep fun o=>hk b o
  have:=k.inj k2
  subst this;exact ⟨(.ref b,ks)::L,by rw [Aj,h1],.cons rfl h2,fun y hy=>(AE.mp hy).elim (fun z=>by rw [z];exact hz) (h3 y)⟩
end
section
variable {X:Cx} {e:Expr} {te:TE} {p p2 pos pos2:Pos}
theorem qEK {A:Around} {E:Value->Shared->Prop} {pins:List (Addr×Obj)} {σ:L2.St} {H:Hp} {s:Shared} {Q:Value->Shared->Prop} {a:Addr} {xs:List V} {kss:List (List Int)} (I:L2.Inv X pins σ H s) (hh:A.handled=none) (hu:A.units + 8 < cLine) (hq:SqL X.K H a xs∨SqT X.K H a xs) (T:TsL X.K H xs kss) (h3:kss.length≤299)
  (h:∀ (its:List Value) (h':Heap) (tk:Nat) (es':Array (Int×Value)) (ep':Nat) (t':SetTable) (ks':List (List Int)),Vals xs its->SetT X.prog X.w h' s.heap.objs.size es' ep' t' ks'->ks'.Perm (ddT kss)->(∀ e∈es'.toList,e.2∈its)->(∀ b o,b < s.heap.objs.size->s.heap.get? b=some o->h'.get? b=some o)->Q (.ref s.heap.objs.size) { s with heap:=h',toks:=tk }) :
  wpAny (model X.prog X.w) A (call (.type "set") [.ref a]) Q E s:=by
 rcases hq with hq |hq
 ·obtain ⟨its,rv,ht,hz⟩:=I.list hq;exact qBQ hh hu ht.isList (by simpa using tsv_of I T rv) h3 fun h' tk es' ep' t' ks' S hp hE hk=>h its h' tk es' ep' t' ks' rv S hp (by simpa using hE) hk
 ·obtain ⟨its,rv,ht,hz⟩:=I.tuple hq;exact qBt hh hu ht (by simpa using tsv_of I T rv) h3 fun h' tk es' ep' t' ks' S hp hE hk=>h its h' tk es' ep' t' ks' rv S hp (by simpa using hE) hk
def qIU (K:W.Frag) (te:TE):TE:=fun σ H Q=>te σ H fun x H1 => ∃ a xs kss,x = .ref a∧(SqL K H1 a xs∨SqT K H1 a xs)∧TsL K H1 xs kss∧kss.length≤299∧Q (.int (ddT kss).length) H1
def qIX (K:W.Frag) (te:TE):TE:=fun σ H Q=>te σ H fun x H1 => ∃ a xs kss,x = .ref a∧(SqL K H1 a xs∨SqT K H1 a xs)∧TsL K H1 xs kss∧kss.length < 64 ∧ ∀ p (L:List (V×List Int)),H1 p=none->(∀ q∈L,q∈xs.zip kss)->L.map (·.2)=srt kss->Q (.ref p) (upd H1 p (.lst (L.map (·.1))))
theorem qF1 (hu:X.A.units + 64 < cLine) (hg:Gl X "sorted") (hm:X.mg "sorted" = none) (he:PE X e te) (h1:starEach [e] X.env=(false,eval e X.env)::starEach [] X.env:=by rfl) :
  PE X (.Call (.Name "sorted" p) [e] [] pos) (qIX X.K te):=by
 intro pins s σ H Q I h;refine Bo (zx I hg hm PyProof.Rows.boot_sorted ?_ (by decide) (by decide))
 refine PyProof.Rows.callWith_builtin1 ?_ h1 rfl;rw [h1];show wpAny _ _ (spliced ((false,eval e X.env)::[])) _ _ s;refine CW (thn (he pins s σ H _ I h) fun u s1 ⟨x,H1,I1,r1,q1⟩=>Calls.spliced_nil ?_);obtain ⟨a,xs,kss,rfl,hq,T,h64,q⟩:=q1;cases r1;obtain ⟨its,rv,hcol⟩:∃ its,Vals xs its∧(its.length < 64 -> ∀ {E':Value->Shared->Prop} {Q':List Value->Shared->Prop},Q' its { s1 with heap:=(s1.heap.push (seqObj "list" #[] 0)).update s1.heap.objs.size (Obj.mapSeq (· ++ its.toArray)) }->wpAny (model X.prog X.w) X.A.in1 (collect (.ref a)) Q' E' s1):=by
  rcases hq with hq |hq
  ·obtain ⟨its,rv,ht,_⟩:=I1.list hq;exact ⟨its,rv,fun h _ _ q=>collect_list ht.isList q (by rw [Bw];omega)⟩
  ·obtain ⟨its,rv,ht,_⟩:=I1.tuple hq;exact ⟨its,rv,fun h _ _ q=>qBC ht (by rw [Bw];omega) q⟩
 have V:=tsv_of I1 T rv;have hl:=V.len;refine qDw (O:=lxO) (key:=fun i=>kss.getD i []) (κ:=tuples' true) (s:=s1) (vs:=its) (hcol (by omega)) (by omega) (fun h2 A' E' h6 Q' k q'=>qI8 (s:={ s1 with heap:=h6 }) (V.keep fun b o _ ho=>k b o ho) h2 q') (fun h6 i j C k hi hj q' => ?_) fun pp B S => ?_
 ·obtain ⟨b,e1,k1⟩:=V.get hi;obtain ⟨c,e2,k2⟩:=V.get hj;rw [e1,e2];exact qKa (s:={ s1 with heap:=h6 }) (k1.keep fun o=>k b o) (k2.keep fun o=>k c o) q'
 ·have V2:=V.pick V.ne pp.toList B.mem;rw [qLI V B S] at V2;have keep:∀ b o,s1.heap.get? b=some o->(sortedAll s1.heap its (List.toArray (pp.toList.map fun i=>its.getD i Value.none))).get? b=some o:=fun b o hb=>sortedAll_old hb;obtain ⟨L,lk,rv2,hin2⟩:=qIz I1 T rv keep (V2.keep fun b o _ ho=>keep b o ho) fun v hv=>by obtain ⟨i,hi,rfl⟩:=AW.mp hv;have hi:=B.mem i hi;rw [Ac,AU hi];exact Bj hi
  obtain ⟨e',he'⟩:=sortedAll_at s1.heap its (List.toArray (pp.toList.map fun i=>its.getD i Value.none));have hlen:(L.map (·.1)).length≤sizeLine:=by rw [rv2.length,AC,Aa,B.size,Bw];omega
  refine ⟨.ref (s1.heap.objs.size + 1),_,I1.laid (t':=s1.toks) (o := .lst (L.map (·.1))) keep (Nat.le_succ _) ⟨hlen,_,e',rv2,he'⟩,rfl,q _ L (I1.hok.fresh (Nat.le_succ _)) hin2 lk⟩
end
open EX
section
variable {X:Cx} {e:Expr} {te:TE} {p p2 pos pos2:Pos}
theorem qEN (hc:X.calm=true) (hu:X.A.units + 64 < cLine) (hg:Gl X "len") (hm:X.mg "len" = none) (hg2:Gl X "set") (hm2:X.mg "set" = none) (he:PE X e te)
  (h1:starEach [.Call (.Name "set" p2) [e] [] pos2] X.env=(false,eval (.Call (.Name "set" p2) [e] [] pos2) X.env)::starEach [] X.env:=by rfl) (h2:starEach [e] X.env=(false,eval e X.env)::starEach [] X.env:=by rfl) :
  PE X (.Call (.Name "len" p) [.Call (.Name "set" p2) [e] [] pos2] [] pos) (qIU X.K te):=by
 intro pins s σ H Q I h;refine Bo (zx I hg hm PyProof.Rows.Boot.«len» ?_ (by decide) (by decide))
 refine PyProof.Rows.callWith_builtin1 ?_ h1 rfl;rw [h1];show wpAny _ _ (spliced ((false,eval (.Call (.Name "set" p2) [e] [] pos2) X.env)::[])) _ _ s;refine CW ?_;refine Bo (zx I hg2 hm2 PyProof.Rows.Boot.«set» ?_ (by decide) (by decide))
 refine Bn ?_ h2 rfl;rw [h2];show wpAny _ _ (spliced ((false,eval e X.env)::[])) _ _ s;refine CW (thn (he pins s σ H _ I h) fun u s1 ⟨x,H1,I1,r1,q1⟩=>Calls.spliced_nil ?_);obtain ⟨a,xs,kss,rfl,hq,T,h3,q⟩:=q1;cases r1;have hh:X.A.handled=none:=I.ok.hd hc;refine qEK I1 hh (by omega) hq T h3 fun its h' tk es' ep' t' ks' rv S hp hE hk=>Calls.spliced_nil ?_
 obtain ⟨o,ho,hx,hd⟩:=S.ex;have hsz:es'.size=(ddT kss).length:=by rw [← hp.length_eq,← S.el.len,Aa]
 have hdl:(ddT kss).length≤299:=by
  have:=YQ kss []
  have z:([]:List (List Int)).length=0:=rfl;unfold ddT;omega
 refine call_len_set (s:={ s1 with heap:=h',toks:=tk }) ho hx hd (JS S.tb.g) (by omega) ?_
 refine ⟨.int (ddT kss).length,H1,(I1.kept (h':=h') (t':=tk + 1 + 1) fun b u hb=>hk b u (AT hb) hb),⟨tk + 1,by rw [hsz]⟩,q⟩
end
end ET
namespace EV
open PySem PySem.Spec PyProof.Rows L2 EX ET
def Zy:PV->Option (List Int)
 | .tup (p::l)=>Q3 qAL (p::l)
 |_=>none
def YC (ks:List Int):PV := .tup (ks.map PV.int)
section
variable {K:W.Frag} {H:Hp} {b:Bz}
theorem J4 {p:PV} {v:V} {ks:List Int} (r:RV K H b p v) (h:Zy p=some ks):∃ a,v = .ref a∧SqT K H a (ks.map V.int)∧ks≠[]∧RV K H b (YC ks) v:=by
 unfold Zy at h;split at h
 ·rename_i p l;have r':=r;unfold RV at r;obtain ⟨a,xs,rfl,h2,h3⟩:=r;have e:=YM h3 h;subst e;refine ⟨a,rfl,h2.sq,?_,?_⟩
  ·intro z;subst z
   have:=h3.length
   simp at this
  ·unfold YC RV;exact ⟨a,ks.map V.int,rfl,h2,zw ks⟩
 ·cases h
theorem JF:∀ {l:List PV} {xs:List V} {kss:List (List Int)},RVs K H b l xs->Q3 Zy l=some kss->TsL K H xs kss ∧ ∀ q∈xs.zip kss,RV K H b (YC q.2) q.1
 |[],xs,kss,r,h=>by unfold RVs at r;subst r;cases h;exact ⟨.nil,fun q hq=>(Ag hq).elim⟩
 |p::l,xs,kss,r,h=>by
  unfold RVs at r;obtain ⟨x,t,rfl,h2,h3⟩:=r;unfold Q3 at h;cases e1:Zy p with
  |none=>rw [e1] at h;cases h
  |some ks =>
   rw [e1] at h;dsimp only at h;cases e2:Q3 Zy l with
   |none=>rw [e2] at h;cases h
   |some kss' =>
    rw [e2] at h;cases h;obtain ⟨a,rfl,h4,h5,h6⟩:=J4 h2 e1;obtain ⟨i1,i2⟩:=JF h3 e2;refine ⟨.cons h4 h5 i1,fun q hq => ?_⟩;rw [Ar] at hq;rcases AE.mp hq with z |z
    ·rw [z];exact h6
    ·exact i2 q z
theorem jj {xs:List V} {kss:List (List Int)} (hr:∀ q∈xs.zip kss,RV K H b (YC q.2) q.1):∀ {L:List (V×List Int)},(∀ q∈L,q∈xs.zip kss)->RVs K H b ((L.map (·.2)).map YC) (L.map (·.1))
 |[],_=>RVs.nil
 |q::L,h=>by rw [Aj,Aj,Aj];exact RVs.cons (hr q (h q AI)) (jj hr fun y hy=>h y (AD _ hy))
end
section
variable {X:Cx} {E:XK} {e:Expr} {f:FE} {p p2 pos pos2:Pos}
def qLr:PV->qC->Rs PV:=fun q st=>match Wy st q with
 |some l=>match Q3 Zy l with
  |some kss=>if kss.length≤299∧(ddT kss).length < 64 then .ok (.lst ((srt (ddT kss)).map YC)) st else .no
  |none => .no
 |none => .no
def Y1:PV->qC->Rs PV:=fun q st=>match Wy st q with
 |some l=>match Q3 Zy l with
  |some kss=>if kss.length≤299 then .ok (.int (ddT kss).length) st else .no
  |none => .no
 |none => .no
def Yw (f:FE):FE:=fun r st=>(f r st).bind Y1
theorem qEo (hc:X.calm=true) (hu:X.A.units + 64 < cLine) (hm:X.mg "len" = none) (hm2:X.mg "set" = none) (h:VE X E e f) (hg:Gl X "len" := by rfl) (hg2:Gl X "set" := by rfl)
  (h1:starEach [.Call (.Name "set" p2) [e] [] pos2] X.env=(false,eval (.Call (.Name "set" p2) [e] [] pos2) X.env)::starEach [] X.env:=by rfl) (h2:starEach [e] X.env=(false,eval e X.env)::starEach [] X.env:=by rfl) :
  VE X E (.Call (.Name "len" p) [.Call (.Name "set" p2) [e] [] pos2] [] pos) (Yw f) :=
 PE.imp (qEN hc hu hg hm hg2 hm2 h h1 h2) fun s H Q ⟨b,r,st,S,R,P⟩=>⟨b,r,st,S,R,PostE.bind P fun q s1 u H1 b1 e1 S1 r1 P1=>by
  unfold Y1 at P1;split at P1
  ·rename_i l el;split at P1
   ·rename_i kss ek;split at P1
    ·rename_i hn;obtain ⟨x,xs,rfl,h2,h3⟩:=Ze S1 r1 el;obtain ⟨T,hr⟩:=JF h3 ek;exact ⟨x,xs,kss,rfl,h2,T,hn,PostE.here P1 S1 Qf⟩
    ·exact P1.elim
   ·exact P1.elim
  ·exact P1.elim⟩
def Zq:PV->qC->Rs PV:=fun q st=>match Wy st q with
 |some l=>match Q3 Zy l with
  |some kss=>if kss.length < 64 then .ok (.lst ((srt kss).map YC)) st else .no
  |none => .no
 |none => .no
def zA (f:FE):FE:=fun r st=>(f r st).bind Zq
theorem zK (hu:X.A.units + 64 < cLine) (hm:X.mg "sorted" = none) (h:VE X E e f) (hg:Gl X "sorted" := by rfl) (h1:starEach [e] X.env=(false,eval e X.env)::starEach [] X.env:=by rfl) :
  VE X E (.Call (.Name "sorted" p) [e] [] pos) (zA f) :=
 PE.imp (qF1 hu hg hm h h1) fun s H Q ⟨b,r,st,S,R,P⟩=>⟨b,r,st,S,R,PostE.bind P fun q s1 u H1 b1 e1 S1 r1 P1=>by
  unfold Zq at P1;split at P1
  ·rename_i l el;split at P1
   ·rename_i kss ek;split at P1
    ·rename_i hn;obtain ⟨x,xs,rfl,h2,h3⟩:=Ze S1 r1 el;obtain ⟨T,hr⟩:=JF h3 ek;exact ⟨x,xs,kss,rfl,h2,T,hn,fun p L hp hin hL=>PostN.lay (PostN.of (r := .ok ((srt kss).map YC) s1) P1) S1 (by rw [← hL];exact jj hr hin) hp⟩
    ·exact P1.elim
   ·exact P1.elim
  ·exact P1.elim⟩
end
end EV
end
section
namespace EJ
open PySem PySem.Spec PyProof.Rows L2 PySem.W EX ET
end EJ
namespace EV
open PySem PySem.Spec PyProof.Rows L2 EX ET EJ
end EV
end
section
namespace EX
open PySem PySem.Spec PyProof.Rows L2 PySem.W
end EX
namespace EX
open PySem PySem.Spec PyProof.Rows L2 PySem.W
end EX
namespace EV
open PySem PySem.Spec PyProof.Rows L2 EX
end EV
end
section
namespace EX
open PySem PySem.Spec PyProof.Rows L2 PySem.W
inductive LexO (op:CmpOp) (z:Nat->Nat->Bool) (A:Around) (s:Shared) (r:Bool):List Value->List Value->Prop where
 |nl {ws}:r=z 0 ws.length->LexO op z A s r [] ws
 |nr {vs}:r=z vs.length 0->LexO op z A s r vs []
 |eq {v vs w ws}:SeqAt.EqAt A s v w true->LexO op z A s r vs ws->LexO op z A s r (v::vs) (w::ws)
 |ne {v vs w ws}:SeqAt.EqAt A s v w false->(∀ (prog:Program) (wd:World) (E:Value->Shared->Prop) (Q:Value->Shared->Prop),Q (.bool r) s->wpAny (model prog wd) A (richCompare op v w) Q E s)->LexO op z A s r (v::vs) (w::ws)
def qBu (z:Nat->Nat->Bool) (o:Int->Int->Bool):List Int->List Int->Bool
 |[],m=>z 0 m.length
 |a::l,[]=>z (l.length + 1) 0
 |a::l,b::m=>if a=b then qBu z o l m else o a b
theorem yW {op:CmpOp} {z:Nat->Nat->Bool} {o:Int->Int->Bool} {A:Around} {s:Shared} (hop:∀ (i j:Int) (t u:Tok) (prog:Program) (w:World) (E:Value->Shared->Prop) (Q:Value->Shared->Prop),Q (.bool (o i j)) s->wpAny (model prog w) A (richCompare op (.int i t) (.int j u)) Q E s) :
  ∀ {ks ms:List Int} {its its2:List Value},Vals (ks.map V.int) its->Vals (ms.map V.int) its2->LexO op z A s (qBu z o ks ms) its its2
 |[],ms,its,its2,h1,h2=>by cases h1;refine .nl ?_;rw [← h2.length,AC];rfl
 |k::ks,[],its,its2,h1,h2=>by cases h2;refine .nr ?_;rw [← h1.length,AC];rfl
 |k::ks,m::ms,its,its2,h1,h2=>by
  rw [Aj] at h1 h2;cases h1 with
  |cons r1 t1 =>
   cases h2 with
   |cons r2 t2 =>
    obtain ⟨t,rfl⟩:=(show ∃ t,_=Value.int k t from r1);obtain ⟨u,rfl⟩:=(show ∃ t,_=Value.int m t from r2);have he:=SeqAt.EqAt.int_int (A:=A) (s:=s) k t m u;unfold qBu;by_cases q:k=m
    ·rw [AH q];rw [A4.mpr q] at he;exact .eq he (yW hop t1 t2)
    ·rw [AJ q];rw [AB.mpr q] at he;exact .ne he (hop k m t u)
def TI (h:Heap) (ks:List Int) (a:Addr):Prop := ∃ (o:Obj) (its:List Value) (n:Nat),h.get? a=some o∧o.cls = .type "tuple" ∧ o.data = .seq its.toArray n∧Vals (ks.map V.int) its
theorem TI.keep {h h':Heap} {ks:List Int} {a:Addr} (t:TI h ks a) (k:∀ o,h.get? a=some o->h'.get? a=some o):TI h' ks a:=by obtain ⟨o,its,n,h1,h2⟩:=t;exact ⟨o,its,n,k o h1,h2⟩
section
open PySem.SeqAt
open PySem.AutoSeq1 (wpAny_loadPart')
open PySem.MeetsSeq PySem.MeetsSeq2 PySem.MeetsSeq3
theorem Ju (l b:Addr) (items items2:Array Value) (n n2:Nat) (dd dd2:Option Addr) (sl sl2:Array (Option Value)) (r:Bool) :
  Meets (Builtin.«tuple.__gt__» ⟨[.ref l,.ref b],[]⟩)
   (fun A R s=>s.heap.get? l=some { cls := .type "tuple",dict:=dd,data := .seq items n,slots:=sl }∧s.heap.get? b=some { cls := .type "tuple",dict:=dd2,data := .seq items2 n2,slots:=sl2 }∧LexO .Gt (fun i j=>decide (i > j)) A.in1 s r items.toList items2.toList ∧
    R (.ok (.ret (.bool r))) s) :=
 .of_wp fun prog w A R s h=>by
  obtain ⟨hp,g,d,tk,os⟩:=s;obtain ⟨hl,hb,hG,h⟩:=h;have f2:=AutoSeq1.sub_tuple_tuple
  wp_walk using wpAny_loadPart' hl,wpAny_loadPart' hb,B4 _ (fun rest b s'=>b.1=none∧s'=⟨hp,g,d,tk,os⟩ ∧ ∃ (vs ws:List Value),rest=vs.zip ws∧LexO .Gt (fun i j=>decide (i > j)) A.in1 ⟨hp,g,d,tk,os⟩ r vs ws ∧
   vs.length + items2.size=ws.length + items.size) _
  case turn =>
   rintro ⟨y,x⟩ rest b s' ⟨hb',rfl,vs,ws,hz,hG',hlen⟩
   cases hG' with
   |nl _=>cases hz
   |nr _=>rw [List.zip_nil_right] at hz;cases hz
   |eq he hG2 =>
    rw [Ar] at hz;injection hz with hyx hrest;injection hyx with hy hx;subst hy hx;simp only [AM] at hlen;refine AA (he prog w _ _ ?_)
    wp_walk
    exact ⟨rfl,rfl,_,_,hrest,hG2,by omega⟩
   |ne he hc =>
    rw [Ar] at hz;injection hz with hyx hrest;injection hyx with hy hx;subst hy hx;refine AA (he prog w _ _ ?_);have hri:=hc prog w
    wp_walk using hri
    exact ⟨_,rfl,by simpa using h⟩
  case fin =>
   rintro ⟨b1,b2⟩ s' ⟨hb',rfl,vs,ws,hz,hG',hlen⟩
   simp only at hb';subst hb';have hv:r=decide (items.size > items2.size):=by
    cases hG' with
    |nl hr=>rw [hr];simp only [BS] at hlen ⊢;exact Bl.mpr (by omega)
    |nr hr=>rw [hr];simp only [BS] at hlen ⊢;exact Bl.mpr (by omega)
    |eq he hG2=>rw [Ar] at hz;cases hz
    |ne he hc=>rw [Ar] at hz;cases hz
   rw [hv] at h
   wp_walk
   exact ⟨_,rfl,by simpa [Builtin.Tuple.tupleCompareSizes] using h⟩
  case h =>exact ⟨rfl,rfl,items.toList,items2.toList,rfl,hG,by simp;omega⟩
theorem JI (l b:Addr) (items items2:Array Value) (n n2:Nat) (dd dd2:Option Addr) (sl sl2:Array (Option Value)) (r:Bool) :
  Meets (Builtin.«tuple.__le__» ⟨[.ref l,.ref b],[]⟩)
   (fun A R s=>s.heap.get? l=some { cls := .type "tuple",dict:=dd,data := .seq items n,slots:=sl }∧s.heap.get? b=some { cls := .type "tuple",dict:=dd2,data := .seq items2 n2,slots:=sl2 }∧LexO .LtE (fun i j=>decide (i≤j)) A.in1 s r items.toList items2.toList ∧
    R (.ok (.ret (.bool r))) s) :=
 .of_wp fun prog w A R s h=>by
  obtain ⟨hp,g,d,tk,os⟩:=s;obtain ⟨hl,hb,hG,h⟩:=h;have f2:=AutoSeq1.sub_tuple_tuple
  wp_walk using wpAny_loadPart' hl,wpAny_loadPart' hb,B4 _ (fun rest b s'=>b.1=none∧s'=⟨hp,g,d,tk,os⟩ ∧ ∃ (vs ws:List Value),rest=vs.zip ws∧LexO .LtE (fun i j=>decide (i≤j)) A.in1 ⟨hp,g,d,tk,os⟩ r vs ws ∧
   vs.length + items2.size=ws.length + items.size) _
  case turn =>
   rintro ⟨y,x⟩ rest b s' ⟨hb',rfl,vs,ws,hz,hG',hlen⟩
   cases hG' with
   |nl _=>cases hz
   |nr _=>rw [List.zip_nil_right] at hz;cases hz
   |eq he hG2 =>
    rw [Ar] at hz;injection hz with hyx hrest;injection hyx with hy hx;subst hy hx;simp only [AM] at hlen;refine AA (he prog w _ _ ?_)
    wp_walk
    exact ⟨rfl,rfl,_,_,hrest,hG2,by omega⟩
   |ne he hc =>
    rw [Ar] at hz;injection hz with hyx hrest;injection hyx with hy hx;subst hy hx;refine AA (he prog w _ _ ?_);have hri:=hc prog w
    wp_walk using hri
    exact ⟨_,rfl,by simpa using h⟩
  case fin =>
   rintro ⟨b1,b2⟩ s' ⟨hb',rfl,vs,ws,hz,hG',hlen⟩
   simp only at hb';subst hb';have hv:r=decide (items.size≤items2.size):=by
    cases hG' with
    |nl hr=>rw [hr];simp only [BS] at hlen ⊢;exact Bl.mpr (by omega)
    |nr hr=>rw [hr];simp only [BS] at hlen ⊢;exact Bl.mpr (by omega)
    |eq he hG2=>rw [Ar] at hz;cases hz
    |ne he hc=>rw [Ar] at hz;cases hz
   rw [hv] at h
   wp_walk
   exact ⟨_,rfl,by simpa [Builtin.Tuple.tupleCompareSizes] using h⟩
  case h =>exact ⟨rfl,rfl,items.toList,items2.toList,rfl,hG,by simp;omega⟩
theorem qKR {a b:Addr} {ks ms:List Int} {s:Shared} {A:Around} {prog:Program} {w:World} {E:Value->Shared->Prop} {Q:Value->Shared->Prop} (t1:TI s.heap ks a) (t2:TI s.heap ms b) (hu:A.units + 8 < cLine) (h:Q (.bool (qBu (fun i j=>decide (i > j)) (fun i j=>decide (i > j)) ks ms)) s):wpAny (model prog w) A (richCompare .Gt (.ref a) (.ref b)) Q E s:=by
 obtain ⟨⟨cls,dd,data,sl⟩,its,n1,ho,hc,hda,r1⟩:=t1;obtain ⟨⟨cls2,dd2,data2,sl2⟩,its2,n2,ho2,hc2,hda2,r2⟩:=t2;simp only at hc hda hc2 hda2;subst hc hda hc2 hda2;have G:=yW (op := .Gt) (z:=fun i j=>decide (i > j)) (o:=fun i j=>decide (i > j)) (A:=A.in1) (s:=s) (fun i j t u prog w E Q h=>richCompare_gives (op := .Gt) (Cb _ _ t) (Cb _ _ u) F.slot_int_gt F.entry_int_gt (F.args_int_gt_2 _ _) (gives_int_gt _ _ t u) (fun x=>nomatch x) h) r1 r2;exact richCompare_meets_room (op := .Gt) ⟨_,ho,rfl⟩ ⟨_,ho2,rfl⟩ PySem.F.slot_tuple_gt PySem.F.entry_tuple_gt (PySem.F.args_tuple_gt_2 _ _) (Ju _ _ its.toArray its2.toArray n1 n2 dd dd2 sl sl2 _)
  ⟨ho,ho2,by simpa using G,show Value.bool _≠Value.notImplemented∧Q (.bool _) s from ⟨(fun x=>nomatch x),h⟩⟩ (by omega)
theorem qKO {a b:Addr} {ks ms:List Int} {s:Shared} {A:Around} {prog:Program} {w:World} {E:Value->Shared->Prop} {Q:Value->Shared->Prop} (t1:TI s.heap ks a) (t2:TI s.heap ms b) (hu:A.units + 8 < cLine) (h:Q (.bool (qBu (fun i j=>decide (i≤j)) (fun i j=>decide (i≤j)) ks ms)) s):wpAny (model prog w) A (richCompare .LtE (.ref a) (.ref b)) Q E s:=by
 obtain ⟨⟨cls,dd,data,sl⟩,its,n1,ho,hc,hda,r1⟩:=t1;obtain ⟨⟨cls2,dd2,data2,sl2⟩,its2,n2,ho2,hc2,hda2,r2⟩:=t2;simp only at hc hda hc2 hda2;subst hc hda hc2 hda2;have G:=yW (op := .LtE) (z:=fun i j=>decide (i≤j)) (o:=fun i j=>decide (i≤j)) (A:=A.in1) (s:=s) (fun i j t u prog w E Q h=>richCompare_gives (op := .LtE) (Cb _ _ t) (Cb _ _ u) F.slot_int_le F.entry_int_le (F.args_int_le_2 _ _) (gives_int_le _ _ t u) (fun x=>nomatch x) h) r1 r2;exact richCompare_meets_room (op := .LtE) ⟨_,ho,rfl⟩ ⟨_,ho2,rfl⟩ PySem.F.slot_tuple_le PySem.F.entry_tuple_le (PySem.F.args_tuple_le_2 _ _) (JI _ _ its.toArray its2.toArray n1 n2 dd dd2 sl sl2 _)
  ⟨ho,ho2,by simpa using G,show Value.bool _≠Value.notImplemented∧Q (.bool _) s from ⟨(fun x=>nomatch x),h⟩⟩ (by omega)
end
section
variable {prog:Program} {w:World} {A:Around} {R:Result->Shared->Prop} {I:Addr} {fp wr:List Addr} {n:Nat} {P:Nat->Value->Prop} {St:Nat->Heap->Prop}
def Kp (wr:List Addr) (S:Addr) (h h':Heap):Prop := ∀ b o,b ∉ wr->b≠S->h.get? b=some o->h'.get? b=some o
theorem Kp.tr {wr:List Addr} {S:Addr} {h h' h2:Heap} (x:Kp wr S h h') (y:Kp wr S h' h2):Kp wr S h h2:=fun b o e1 e2 e=>y b o e1 e2 (x b o e1 e2 e)
theorem qG9 (W:Walks prog w A.in1 I fp wr n P St) (bt:Nat->Nat->Bool) {S:Addr} (hSf:S ∉ fp) {h0:Heap}
  (hcmp:∀ i j vi vj (s:Shared) (Q:Value->Shared->Prop) (E:Value->Shared->Prop),Kp wr S h0 s.heap->P i vi->P j vj->Q (.bool (bt i j)) s->wpAny (model prog w) A.in1 (richCompare .Gt vi vj) Q E s) :
  ∀ (k j:Nat) (s:Shared) (vb:Value) (c:Nat),n - (j + 1)=k->j + 1≤n->Kp wr S h0 s.heap->St (j + 1) s.heap->P (argBest bt j) vb->s.heap.get? S=some { cls := .type "list",dict:=none,data := .seq #[vb,vb] c,slots := #[] } ->
   (∀ v h' tk,P (argBest bt (n - 1)) v->Kp wr S s.heap h'->R (.ok (.ret v)) { s with heap:=h',toks:=tk })->codeAny (model prog w) A (.builtin "max.loop" ⟨[.ref I,.none,.ref S],[]⟩) R s:=by
 have hSw:S ∉ wr:=fun h=>hSf (W.sub _ h);have nm:(toString "max" ++ toString ".loop":String) = "max.loop" := by decide
 intro k;induction k with
 |zero =>
  intro j s vb c hk hj hK hst hP hS hR;have e1:n=j + 1:=by omega
  subst e1;refine BN F.entry_max_loop ?_;rw [Bv Bm _];show wpAny _ A.in1 (seqItems? (.ref S) >>= _) _ _ s;refine AA (By hS rfl ?_);show wpAny _ A.in1 (tryCatch (pyNext (.ref I)) _ >>= _) _ _ s;refine AA (wpAny_tryCatch (W.done s _ _ hst fun h2 t2 k2 => ?_));show wpAny _ A.in1 (updateSeq S (fun _ => #[]) >>= _) _ _ _;exact AA (wpAny_updateSeq (k2 S _ hSw hS) rfl (AA (wpAny_letGo (AF (hR vb _ t2 hP fun b o n1 n2 e=>(Ak _ _ (Ne.symm n2)).trans (k2 b o n1 e))))))
 |succ k ih =>
  intro j s vb c hk hj hK hst hP hS hR;have e1:j + 1 < n:=by omega
  refine BN F.entry_max_loop ?_;rw [Bv Bm _];show wpAny _ A.in1 (seqItems? (.ref S) >>= _) _ _ s;refine AA (By hS rfl ?_);show wpAny _ A.in1 (tryCatch (pyNext (.ref I)) _ >>= _) _ _ s;refine AA (wpAny_tryCatch (W.item (j + 1) s _ _ e1 hst fun v h2 t2 hv st2 k2 => ?_));have S2:=k2 S _ hSw hS;have K2:Kp wr S s.heap h2:=fun b o n1 _ e=>k2 b o n1 e;show wpAny _ A.in1 (tryCatch (holding [v,v] (richCompare .Gt v vb >>= _)) _ >>= _) _ _ _;refine AA (wpAny_tryCatch (Ap (AA (hcmp (j + 1) (argBest bt j) v vb _ _ _ (hK.tr K2) hv hP ?_))));refine AA (Ap (Bs ?_));refine AA (wpAny_letGo (AF ?_));cases q:bt (j + 1) (argBest bt j) with
  |true =>
   simp only [CN];refine AA (wpAny_updateSeq S2 rfl (AA (wpAny_letGo ?_)));rw [nm];have K3:Kp wr S s.heap (h2.update S (Obj.mapSeq fun _ => #[v,v])):=fun b o n1 n2 e=>(Ak _ _ (Ne.symm n2)).trans (k2 b o n1 e);exact AF ⟨Ce Bm _,ih (j + 1) _ v _ (by omega) e1 (hK.tr K3) (W.frame _ _ _ st2 fun b hb o e=>(Ak _ _ (fun z:S=b=>hSf (by rw [z];exact hb))).trans e) (by simp only [argBest,q,CN];exact hv) (BD _ S2 rfl)
    fun v' h3 t3 p3 k3=>hR v' h3 t3 p3 (K3.tr k3)⟩
  |false =>simp only [A0,BX];refine AA (wpAny_letGo ?_);rw [nm];exact AF ⟨Ce Bm _,ih (j + 1) _ vb c (by omega) e1 (hK.tr K2) st2 (by simp only [argBest,q,A0,BX];exact hP) S2 fun v' h3 t3 p3 k3=>hR v' h3 t3 p3 (K2.tr k3)⟩
theorem qEl (W:Walks prog w A.in1 I fp wr n P St) (bt:Nat->Nat->Bool) {S:Addr} (hSf:S ∉ fp) (hn:0 < n) {s:Shared} {c:Nat}
  (hcmp:∀ i j vi vj (s':Shared) (Q:Value->Shared->Prop) (E:Value->Shared->Prop),Kp wr S s.heap s'.heap->P i vi->P j vj->Q (.bool (bt i j)) s'->wpAny (model prog w) A.in1 (richCompare .Gt vi vj) Q E s')
  (hst:St 0 s.heap) (hS:s.heap.get? S=some { cls := .type "list",dict:=none,data := .seq #[] c,slots := #[] })
  (hR:∀ v h' tk,P (argBest bt (n - 1)) v->Kp wr S s.heap h'->R (.ok (.ret v)) { s with heap:=h',toks:=tk }):codeAny (model prog w) A (.builtin "max.loop" ⟨[.ref I,.none,.ref S],[]⟩) R s:=by
 have hSw:S ∉ wr:=fun h=>hSf (W.sub _ h);have nm:(toString "max" ++ toString ".loop":String) = "max.loop" := by decide
 refine BN F.entry_max_loop ?_;rw [Bv Bm _];show wpAny _ A.in1 (seqItems? (.ref S) >>= _) _ _ s;refine AA (By hS rfl ?_);show wpAny _ A.in1 (tryCatch (pyNext (.ref I)) _ >>= _) _ _ s;refine AA (wpAny_tryCatch (W.item 0 s _ _ hn hst fun v h2 t2 hv st2 k2 => ?_));show wpAny _ A.in1 (updateSeq S (fun _ => #[v,v]) >>= _) _ _ _;refine AA (wpAny_updateSeq (k2 S _ hSw hS) rfl ?_);rw [nm];have K3:Kp wr S s.heap (h2.update S (Obj.mapSeq fun _ => #[v,v])):=fun b o n1 n2 e=>(Ak _ _ (Ne.symm n2)).trans (k2 b o n1 e);exact AF ⟨Ce Bm _,qG9 W bt hSf hcmp _ 0 _ v _ rfl hn K3 (W.frame _ _ _ st2 fun b hb o e=>(Ak _ _ (fun z:S=b=>hSf (by rw [z];exact hb))).trans e) hv (BD _ (k2 S _ hSw hS) rfl) fun v' h3 t3 p3 k3=>hR v' h3 t3 p3 (K3.tr k3)⟩
end
section
variable {prog:Program} {w:World} {A:Around} {E:Value->Shared->Prop} {s:Shared}
theorem qGj {x:Value} {Q:Value->Shared->Prop}
  (h:wpAny (model prog w) A.in1 (pyIter x) (fun it s₂ => ∃ I fp wr n P St bt,it = .ref I∧Walks prog w A.in1 I fp wr n P St∧St 0 s₂.heap∧(∀ b∈fp,b < s₂.heap.objs.size)∧0 < n ∧
   (∀ i j vi vj (s':Shared) (Q:Value->Shared->Prop) (E:Value->Shared->Prop),(∀ b o,b ∉ wr->s₂.heap.get? b=some o->s'.heap.get? b=some o)->P i vi->P j vj->Q (.bool (bt i j)) s'->wpAny (model prog w) A.in1 (richCompare .Gt vi vj) Q E s') ∧
   ∀ v h' tk,P (argBest bt (n - 1)) v->(∀ b o,b ∉ wr->s₂.heap.get? b=some o->h'.get? b=some o)->Q v { s₂ with heap:=h',toks:=tk }) E s):wpAny (model prog w) A (call (.builtin "max") [x]) Q E s:=by
 have nm:(toString "max" ++ toString ".loop":String) = "max.loop" := by decide
 refine call_function_tree F.kind_max F.plain_max F.entry_max (F.args_max1 _) ?_;show wpAny _ A.in1 (Builtin.Builtins.bindParams "max" ["key","default"] 0 ⟨[],[]⟩ >>= _) _ _ s;refine AA (Ao (show Builtin.Builtins.bindParams "max" ["key","default"] 0 ⟨[],[]⟩=pure [none,none] from rfl) (AA (AF ?_)));refine AA (Bc h (fun it s₂ h₂ => ?_) fun _ _ e=>e);obtain ⟨I,fp,wr,n,P,St,bt,rfl,W,hst,hfp,hn,hc,hQ⟩:=h₂;refine AA (BM ?_);have old:∀ b o,s₂.heap.get? b=some o->b≠s₂.heap.objs.size:=fun b o e=>Ab (AT e);rw [nm];exact AF ⟨Ce Bm _,qEl W bt (fun hm=>BJ _ (hfp _ hm)) hn (fun i j vi vj s' Q E k p1 p2 q=>hc i j vi vj s' Q E (fun b o n1 e=>k b o n1 (old b o e) (AG _ e)) p1 p2 q)
  (W.frame _ _ _ hst fun b _ o e=>AG _ e) (AX _ rfl) fun v h' tk p k=>hQ v h' tk p fun b o n1 e=>k b o n1 (old b o e) (AG _ e)⟩
end
section
variable {X:Cx}
def gtL (a b:List Int):Bool:=qBu (fun i j=>decide (i > j)) (fun i j=>decide (i > j)) a b
def leL (a b:List Int):Bool:=qBu (fun i j=>decide (i≤j)) (fun i j=>decide (i≤j)) a b
def yH (kss:List (List Int)):Nat:=argBest (fun i j=>gtL (kss.getD i []) (kss.getD j [])) (kss.length - 1)
theorem YI (bt:Nat->Nat->Bool):∀ n,argBest bt n≤n
 |0=>AK _
 |n + 1=>by
  unfold argBest;split
  ·exact AK _
  ·exact Nat.le_succ_of_le (YI bt n)
theorem qEt {pins:List (Addr×Obj)} {σ:L2.St} {H:Hp} {s:Shared} (I:L2.Inv X pins σ H s) {a:Addr} {ks:List Int} (h:SqT X.K H a (ks.map V.int)):TI s.heap ks a:=by obtain ⟨its,rv,⟨o,h1,h2,n,h3⟩,hz⟩:=I.tuple h;exact ⟨o,its,n,h1,h2,h3,rv⟩
theorem qIc {pins:List (Addr×Obj)} {σ:L2.St} {H:Hp} {s:Shared} (I:L2.Inv X pins σ H s) {xs:List V} {kss:List (List Int)} (T:ET.TsL X.K H xs kss):∀ {its:List Value},Vals xs its -> ∀ (i:Nat) (v:Value),its[i]? = some v -> ∃ a,v = .ref a∧xs.getD i .non = .ref a∧TI s.heap (kss.getD i []) a:=by
 induction T with
 |nil=>intro its rv i v e;cases rv;simp at e
 | @cons a ks xs kss h1 ne _ ih =>
  intro its rv i v e;cases rv with
  |cons r t =>
   cases i with
   |zero =>obtain rfl:=(show _=Value.ref a from r);simp only [List.getElem?_cons_zero,Option.some.injEq] at e;exact ⟨a,e.symm,rfl,qEt I h1⟩
   |succ i=>exact ih t i v (by simpa using e)
theorem qC4 (hu:X.A.units + 64 < cLine):Wb X (.builtin "max") (fun xs H Q => ∃ (p:Addr) (vs:List V) (kss:List (List Int)),xs=[.ref p]∧SqL X.K H p vs∧ET.TsL X.K H vs kss∧kss≠[]∧Q (vs.getD (yH kss) .non) H):=by
 intro pins s σ H xs us Q I r h;obtain ⟨p,vs,kss,rfl,hq,T,hne,q⟩:=h;obtain ⟨u,rfl,rx⟩:=yA r;cases rx;obtain ⟨its,r',pl,hz⟩:=I.list hq;have V:=ET.tsv_of I T r';have hl:=V.len;have hpos:0 < kss.length:=CQ.mpr hne;have hsz:its.toArray.size=kss.length:=by rw [AO,hl]
 have hat:=fun i v (e:its.toArray[i]? = some v)=>qIc I T r' i v (by simpa using e)
 refine qGj (yX I pl fun W st fp k=>⟨_,_,_,_,_,_,fun i j=>gtL (kss.getD i []) (kss.getD j []),rfl,W,st,fp,by rw [hsz];exact hpos,fun i j vi vj s' Q' E' kk p1 p2 q' => ?_,fun v h' tk hv hk => ?_⟩)
 ·obtain ⟨a1,rfl,_,t1⟩:=hat i vi p1;obtain ⟨a2,rfl,_,t2⟩:=hat j vj p2;exact qKR (t1.keep fun o e=>k s'.heap kk a1 o e) (t2.keep fun o e=>k s'.heap kk a2 o e) (by show X.A.units + 1 + 8 < cLine;omega) q'
 ·rw [hsz] at hv;obtain ⟨a1,rfl,e1,t1⟩:=hat _ v hv;have q:Q (vs.getD (argBest (fun i j=>gtL (kss.getD i []) (kss.getD j [])) (kss.length - 1)) .non) H:=q;rw [e1] at q;exact ⟨.ref a1,H,I.kept (t':=tk) (k h' hk),rfl,q⟩
def qK2 (K:W.Frag):R2:=fun u v H Q => ∃ a b ks ms,u = .ref a∧v = .ref b∧SqT K H a (ks.map V.int)∧SqT K H b (ms.map V.int)∧Q (.bl (leL ks ms)) H
theorem qJr (hu:X.A.units + 64 < cLine):OpR X (compareOp .LtE) (qK2 X.K):=by intro pins s σ H x y v u Q I rx ry h;obtain ⟨a,b,ks,ms,rfl,rfl,h1,h2,q⟩:=h;cases rx;cases ry;exact qKO (qEt I h1) (qEt I h2) (by omega) ⟨.bl _,H,I,rfl,q⟩
end
end EX
namespace EV
open PySem PySem.Spec PyProof.Rows L2 EX ET
section
variable {X:Cx} {E:XK} {e a c:Expr} {es:List Expr} {fa fb:FE} {pos:Pos}
def jW:List PV->qC->Rs PV:=fun ps st=>match ps with
 |[p]=>match asL st p with
  |some l=>match Q3 Zy l with
   |some (ks::kss) => .ok (YC ((ks::kss).getD (yH (ks::kss)) [])) st
   |_ => .no
  |none => .no
 |_ => .no
theorem qG4 {K:W.Frag} {H:Hp} {xs:List V} {kss:List (List Int)} (T:TsL K H xs kss):xs.length=kss.length:=by
 induction T with
 |nil=>rfl
 |cons _ _ _ ih=>rw [AM,AM,ih]
theorem qEb {α β:Type} {d:α} {d':β}:∀ {l:List α} {m:List β} {i:Nat},l.length=m.length->i < l.length->(l.getD i d,m.getD i d')∈l.zip m
 |[],_,i,_,h=>absurd h (BC i)
 |x::l,[],i,h,_=>by cases h
 |x::l,y::m,0,_,_=>AI
 |x::l,y::m,i + 1,h,h2=>AD _ (qEb (l:=l) (m:=m) (i:=i) (by simpa using h) (by simpa using h2))
theorem qHI {ta:FA} {p:Pos} (hu:X.A.units + 64 < cLine) (ha:VA X E (e::es) ta) (hm:X.mg "max" = none) (hg:Gl X "max" := by rfl) (he:starEach (e::es) X.env=(false,eval e X.env)::starEach es X.env:=by rfl) (hpl:(backTo pos (starEach es X.env)).any (·.1)=false:=by rfl):VE X E (.Call (.Name "max" p) (e::es) [] pos) (qI jW ta) :=
 WB (qC4 hu) (fun H b st ps vs Q S r P=>by
  unfold jW at P;split at P
  ·rename_i p';split at P
   ·rename_i l el;split at P
    ·rename_i ks kss en;obtain ⟨v,rfl,r1⟩:=RVs.one r;obtain ⟨x,xs,rfl,h2,h3⟩:=wH S r1 el;obtain ⟨T,hr⟩:=JF h3 en;have hl:=qG4 T;have hb:yH (ks::kss) < xs.length:=by rw [hl];unfold yH;have:=YI (fun i j=>gtL ((ks::kss).getD i []) ((ks::kss).getD j [])) ((ks::kss).length - 1);simp only [AM] at this ⊢;omega
     exact ⟨x,xs,ks::kss,rfl,h2,T,(fun z=>by cases z),PostE.here P S (hr _ (qEb hl hb))⟩
    ·exact P.elim
   ·exact P.elim
  ·exact P.elim) hg hm Boot.«max» ha (he:=he) (hpl:=hpl)
def qFS:PV->PV->qC->Rs PV:=fun p q st=>match Zy p,Zy q with
 |some ks,some ms => .ok (.bl (leL ks ms)) st
 |_,_ => .no
theorem qJN:OpG X E (qK2 X.K) qFS:=by
 intro H b st p q u v Q S rp rq P;unfold qFS at P;split at P
 ·rename_i ks ms e1 e2;obtain ⟨x,rfl,h1,_,_⟩:=J4 rp e1;obtain ⟨y,rfl,h2,_,_⟩:=J4 rq e2;exact ⟨x,y,ks,ms,rfl,rfl,h1,h2,PostE.here P S (by unfold RV;rfl)⟩
 ·exact P.elim
end
end EV
end
noncomputable section
namespace K61
open PySem PySem.Spec PyProof.Rows L2 EX EV
structure Ad where
 (Z0 Z1 Z2 Z3 Z4 Z5 Z6 Z7 Z8 Z9 Z10 Z11:Addr)
 (is_whole is_whole_within are_wholes is_rising is_length need_length is_bar places_of is_within covered_by is_packing is_filling need_filling block_bars blocks_in lies_across turn_at need_block blocks_of turned rises law_cell law_mix law_box law_take law_cover law_laid law_whole law_odd law_square law_blocks law_swung law_blocky law_kind law_said law_right law:Addr)
def kitTab:List ((String×String)×Bool):=[(("NoneType","int"),false),(("NoneType","bool"),false),(("NoneType","tuple"),false),(("NoneType","list"),false),(("int","int"),true),(("int","bool"),false),(("int","tuple"),false),(("int","list"),false),(("bool","int"),true),(("bool","bool"),true),(("bool","tuple"),false),(("bool","list"),false),(("str","int"),false),(("str","bool"),false),(("str","tuple"),false),(("str","list"),false),(("tuple","int"),false),(("tuple","bool"),false),(("tuple","tuple"),true),(("tuple","list"),false),(("list","int"),false),(("list","bool"),false),(("list","tuple"),false),(("list","list"),true),(("dict","int"),false),(("dict","bool"),false),(("dict","tuple"),false),(("dict","list"),false)]
def qKK (s T:String):Option Bool:=kitTab.lookup (s,T)
def Ad.kinds (a:Ad):List Addr:=[a.Z1,a.Z2,a.Z3,a.Z4,a.Z5,a.Z6,a.Z7,a.Z8,a.Z9,a.Z10,a.Z11]
def Dist (a:Ad):Prop:=a.kinds.Nodup
instance (a:Ad):Decidable (Dist a):=by unfold Dist;infer_instance
theorem Dist.nd {a:Ad} (h:Dist a):a.kinds.Nodup:=h
def QN (a:Ad):List Addr:=[a.Z1,a.Z3,a.Z7]
def kit (a:Ad):Value->Value->Option Bool
 | .type s,.type T=>qKK s T
 | .ref x,.ref d=>if x∈QN a∧d∈a.kinds then some (x==d) else none
 | .ref x,.type T=>if x∈QN a∧T = "ValueError" then some true else none
 |_,_=>none
def top (i:Nat):Stmt:=PySem.Challenge.pw_barfloors_k61_blocks_turned.main.body.getD i (.Pass ⟨0,0,0,0⟩)
abbrev WM:Stmt:=top 16
abbrev QX:Stmt:=top 17
abbrev wX:Stmt:=top 18
abbrev wq:Stmt:=top 19
abbrev wo:Stmt:=top 20
abbrev Qv:Stmt:=top 21
abbrev Wm:Stmt:=top 26
abbrev wN:Stmt:=top 27
abbrev wu:Stmt:=top 28
abbrev wY:Stmt:=top 29
abbrev wV:Stmt:=top 31
abbrev wU:Stmt:=top 33
abbrev Q1:Stmt:=top 34
abbrev wA:Stmt:=top 36
abbrev wx:Stmt:=top 37
abbrev Qw:Stmt:=top 38
abbrev WK:Stmt:=top 39
abbrev wR:Stmt:=top 40
abbrev wy:Stmt:=top 41
abbrev zH:Stmt:=top 42
abbrev Za:Stmt:=top 43
abbrev WR:Stmt:=top 45
abbrev Wk:Stmt:=top 46
abbrev Wj:Stmt:=top 47
abbrev WO:Stmt:=top 48
abbrev ww:Stmt:=top 49
abbrev WJ:Stmt:=top 50
abbrev wm:Stmt:=top 51
abbrev Wi:Stmt:=top 52
abbrev wQ:Stmt:=top 53
abbrev wZ:Stmt:=top 54
abbrev wp:Stmt:=top 55
abbrev wP:Stmt:=top 56
abbrev WL:Stmt:=top 57
abbrev wg:Stmt:=top 58
abbrev wk:Stmt:=top 59
abbrev zn:Stmt:=top 60
def qBP (a:Ad):FS:=(qt (ZU (qI (Qa (kit a)) (qA (qB 0) (qA (vC (.ty "int")) qD))) (qI5 (qI (Qa (kit a)) (qA (qB 0) (qA (vC (.ty "bool")) qD))))))
def Ws (a:Ad):List PV->qC->Rs PV:=qo 1 1 (qBP a)
def W1 (a:Ad):FS:=(qt (ZU (qI (Ws a) (qA (qB 0) qD)) (ye gLe gLe (qB 1) (qB 0) (qB 2))))
def QW (a:Ad):List PV->qC->Rs PV:=qo 3 3 (W1 a)
def JQ (a:Ad):FS:=(qt (ZU (qI (Qa (kit a)) (qA (qB 0) (qA (vC (.ty "tuple")) qD))) (ZU (ye gLe gLe (qB 1) (qI w4 (qA (qB 0) qD)) (qB 2)) (qI zu (qA (vFz (qx [] 1 (qq (qB 0)) (q9 0) [] [] (qI (Ws a) (qA (qB 0) qD)))) qD)))))
def zf (a:Ad):List PV->qC->Rs PV:=qo 3 3 (JQ a)
def J7 (a:Ad):FS:=(qt (qI zu (qA (vFz (qx [0] 1 (qAi (qA (vC (.int 1)) (qA (qI w4 (qA (qB 0) qD)) qD))) (q9 1) [] [] (qP qC3 (qP gIx (qB 0) (qP yS (qB 1) (vC (.int 1)))) (qP gIx (qB 0) (qB 1))))) qD)))
def ZN (a:Ad):List PV->qC->Rs PV:=qo 1 1 (J7 a)
def ZI (a:Ad):FS:=(qt (qI (QW a) (qA (qB 0) (qA (vC (.int 2)) (qA (vC (.int 5)) qD)))))
def ZD (a:Ad):List PV->qC->Rs PV:=qo 1 1 (ZI a)
def W5 (a:Ad):FS:=(Qm (wb (QL (qI (ZD a) (qA (qB 0) qD)))) (yO a.Z1 (qA (vJ [(vC (.str "a length is a whole number from ")),(qIL (vC (.int 2))),(vC (.str " to ")),(qIL (vC (.int 5)))] Str.empty) qD)) QU)
def Qu (a:Ad):List PV->qC->Rs PV:=qo 1 1 (W5 a)
def qAg (a:Ad):FS:=(qT (Qm (zr (wb (QL (qI (Qa (kit a)) (qA (qB 0) (qA (vC (.ty "tuple")) qD))))) (vTB (qP gNe (qI w4 (qA (qB 0) qD)) (vC (.int 3))))) (qt (vC (.bl false))) QU) (qT (Wx (qB 0) (zC 3 (QH (qu 1) (QH (qu 2) (QH (qu 3) zO))))) (qT (Qm (zr (wb (QL (qI (QW a) (qA (qB 1) (qA (jL (vC (.int 40))) (qA (vC (.int 40)) qD)))))) (wb (QL (qI (QW a) (qA (qB 2) (qA (jL (vC (.int 40))) (qA (vC (.int 40)) qD))))))) (qt (vC (.bl false))) QU) (qt (qI (QW a) (qA (qB 3) (qA (vC (.int 0)) (qA (vC (.int 1)) qD))))))))
def yI (a:Ad):List PV->qC->Rs PV:=qo 1 4 (qAg a)
def y0 (a:Ad):FS:=(qT (Wx (qB 0) (zC 3 (QH (qu 2) (QH (qu 3) (QH (qu 4) zO))))) (qT (Qm (vTB (qP gEq (qB 4) (vC (.int 0)))) (qt (qI w9 (qA (vFz (qx [2,3] 1 (Q4 (qA (qB 1) qD)) (q9 2) [] [] (qy (qA (qB 0) (qA (qP QV (qB 1) (qB 2)) qD))))) qD))) QU) (qt (qI w9 (qA (vFz (qx [3,2] 1 (Q4 (qA (qB 1) qD)) (q9 2) [] [] (qy (qA (qP QV (qB 1) (qB 2)) (qA (qB 0) qD))))) qD)))))
def wJ (a:Ad):List PV->qC->Rs PV:=qo 2 5 (y0 a)
def qBJ (a:Ad):FS:=(qt (qI zu (qA (vFz (qx [0] 1 (qq (qI (wJ a) (qA (qB 1) (qA (qB 2) qD)))) (q9 1) [] [] (qP (gIn false) (qB 1) (qB 0)))) qD)))
def W2 (a:Ad):List PV->qC->Rs PV:=qo 3 3 (qBJ a)
def JC (a:Ad):FS:=(qt (vFz (qx [1] 2 (qq (qB 0)) (q9 1) [] [⟨(qq (qI (wJ a) (qA (qB 1) (qA (qB 0) qD)))),(q9 2),[]⟩] (qB 2))))
def zM (a:Ad):List PV->qC->Rs PV:=qo 2 2 (JC a)
def Jq (a:Ad):FS:=(qT (WD (qI (Qu a) (qA (qB 1) qD))) (qT (Qm (zr (wb (QL (qI (Qa (kit a)) (qA (qB 2) (qA (vC (.ty "tuple")) qD))))) (zr (wb (QL (qI zu (qA (vFz (qx [] 1 (qq (qB 2)) (q9 0) [] [] (qI (yI a) (qA (qB 0) qD)))) qD)))) (wb (QL (qI (ZN a) (qA (qB 2) qD)))))) (qt (vC (.bl false))) QU) (qT (Qm (wb (QL (qI zu (qA (vFz (qx [0,1] 1 (qq (qB 2)) (q9 2) [] [] (qI (W2 a) (qA (qB 0) (qA (qB 2) (qA (qB 1) qD)))))) qD)))) (qt (vC (.bl false))) QU) (qT (qj 3 (qI (zM a) (qA (qB 2) (qA (qB 1) qD)))) (qt (qP gEq (Yw (qB 3)) (qI w4 (qA (qB 3) qD))))))))
def Wh (a:Ad):List PV->qC->Rs PV:=qo 3 4 (Jq a)
def JV (a:Ad):FS:=(qt (ZU (qI (Wh a) (qA (qB 0) (qA (qB 1) (qA (qB 2) qD)))) (qP gEq (qP zt (qI w4 (qA (qB 2) qD)) (qB 1)) (qI w4 (qA (qB 0) qD)))))
def Wf (a:Ad):List PV->qC->Rs PV:=qo 3 3 (JV a)
def ZH (a:Ad):FS:=(Qm (wb (QL (qI (Wf a) (qA (qB 0) (qA (qB 1) (qA (qB 2) qD)))))) (yO a.Z3 (qA (vC (.str "a filling of the floor is wanted")) qD)) QU)
def QJ (a:Ad):List PV->qC->Rs PV:=qo 3 3 (ZH a)
def yJ (a:Ad):FS:=(qT (Wx (qB 0) (zC 2 (QH (qu 3) (QH (qu 4) zO)))) (qT (Qm (vTB (qP gEq (qB 2) (vC (.int 0)))) (qt (vFz (qx [4,3] 1 (Q4 (qA (qB 1) qD)) (q9 2) [] [] (qy (qA (qP QV (qB 1) (qB 2)) (qA (qB 0) (qA (vC (.int 0)) qD))))))) QU) (qt (vFz (qx [3,4] 1 (Q4 (qA (qB 1) qD)) (q9 2) [] [] (qy (qA (qB 0) (qA (qP QV (qB 1) (qB 2)) (qA (vC (.int 1)) qD)))))))))
def Qq (a:Ad):List PV->qC->Rs PV:=qo 3 5 (yJ a)
def qBA (a:Ad):FS:=(Zm (qx [0,1] 3 (qq (qB 0)) (zC 3 (QH (q9 2) (QH (q9 3) (QH (q9 4) zO)))) [(QL (qI zu (qA (vFz (qx [0] 1 (qq (qI (Qq a) (qA (qy (qA (qB 2) (qA (qB 3) qD))) (qA (qB 1) (qA (qB 4) qD))))) (q9 1) [] [] (qP (gIn false) (qB 1) (qB 0)))) qD)))] [] (qy (qA (qB 2) (qA (qB 3) qD)))))
def W3 (a:Ad):List PV->qC->Rs PV:=qo 2 2 (qBA a)
def Zi (a:Ad):FS:=(qT (Wx (qB 1) (zC 2 (QH (qu 2) (QH (qu 3) zO)))) (qt (qP (gIn false) (qy (qA (qB 2) (qA (qB 3) (qA (vC (.int 0)) qD)))) (qB 0))))
def WS (a:Ad):List PV->qC->Rs PV:=qo 2 4 (Zi a)
def jR (a:Ad):FS:=(qT (qj 3 (qI (Qq a) (qA (qB 2) (qA (qB 1) (qA (vC (.int 0)) qD))))) (qT (qj 4 (qI (Qq a) (qA (qB 2) (qA (qB 1) (qA (vC (.int 1)) qD))))) (qT (Wx (vIf (QL (qI (WS a) (qA (qB 0) (qA (qB 2) qD)))) (qy (qA (qB 3) (qA (qB 4) qD))) (qy (qA (qB 4) (qA (qB 3) qD)))) (zC 2 (QH (qu 5) (QH (qu 6) zO)))) (qt (qI w9 (qA (zA (vFz (zP (vFz (qx [5] 1 (qq (qB 0)) (q9 1) [(vTB (qP (gIn true) (qB 1) (qB 0)))] [] (qB 1))) (qB 6)))) qD))))))
def yT (a:Ad):List PV->qC->Rs PV:=qo 3 7 (jR a)
def Jm (a:Ad):FS:=(qT (WD (qI (QJ a) (qA (qB 0) (qA (qB 1) (qA (qB 2) qD))))) (Qm (zr (wb (QL (qI (zf a) (qA (qB 3) (qA (vC (.int 2)) (qA (vC (.int 2)) qD)))))) (vTB (qP (gIn true) (qB 3) (qI (W3 a) (qA (qB 2) (qA (qB 1) qD)))))) (yO a.Z7 (qA (vC (.str "a block of the filling is wanted")) qD)) QU))
def Qs (a:Ad):List PV->qC->Rs PV:=qo 4 4 (Jm a)
def qAN (a:Ad):FS:=(qT (WD (qI (QJ a) (qA (qB 0) (qA (qB 1) (qA (qB 2) qD))))) (qt (qI (W3 a) (qA (qB 2) (qA (qB 1) qD)))))
def wn (a:Ad):List PV->qC->Rs PV:=qo 3 3 (qAN a)
def qEr (a:Ad):FS:=(qT (WD (qI (Qs a) (qA (qB 0) (qA (qB 1) (qA (qB 2) (qA (qB 3) qD)))))) (qt (qI (yT a) (qA (qB 2) (qA (qB 1) (qA (qB 3) qD))))))
def WU (a:Ad):List PV->qC->Rs PV:=qo 4 4 (qEr a)
def qGh (a:Ad):FS:=(qT (WD (qI (Qs a) (qA (qB 0) (qA (qB 1) (qA (qB 2) (qA (qB 3) qD)))))) (qt (qI (WS a) (qA (qB 2) (qA (qB 3) qD)))))
def ZX (a:Ad):List PV->qC->Rs PV:=qo 4 4 (qGh a)
def qBb (a:Ad):FS:=(qT (Qm (vTB (qP gLt (qB 1) (qI w4 (qA (qB 0) qD)))) (qt (qP gIx (qB 0) (qB 1))) QU) (qt (qP QV (qP zt (vC (.int 6151)) (qB 1)) (vC (.int 29)))))
def zQ (a:Ad):List PV->qC->Rs PV:=qo 2 2 (qBb a)
def qDx (a:Ad):FS:=(qT (qj 2 (qP QV (qP zt (qP QV (qB 0) (vC (.int 1))) (vC (.int 40692))) (qP zt (vC (.int 104729)) (qB 1)))) (qT (qj 2 (qP QV (qP qBW (qP qCx (qB 2) (qB 2)) (vC (.int 2147483399))) (qB 1))) (qt (qP qBW (qP zt (qB 2) (qP QV (qB 2) (vC (.int 31)))) (vC (.int 2147483563))))))
def ZY (a:Ad):List PV->qC->Rs PV:=qo 2 3 (qDx a)
def qDG (a:Ad):FS:=(qT (qj 2 (qI (zQ a) (qA (qB 0) (qA (qB 1) qD)))) (qT (Qm (vTB (qP gEq (qP qBW (qB 2) (vC (.int 2))) (vC (.int 0)))) (Zm (Qy (qA (qP qDl (qB 2) (vC (.int 2))) qD))) QU) (qT (qj 3 (vC (.int 0))) (qT (Wt (Q4 (qA (vC (.int 24)) qD)) (qu 4) (qj 3 (qP QV (qP zt (qB 3) (vC (.int 2147483647))) (qI (ZY a) (qA (qB 2) (qA (qB 4) qD)))))) (Zm (Qy (qA (qB 3) qD)))))))
def yf (a:Ad):List PV->qC->Rs PV:=qo 2 5 (qDG a)
def qBh (a:Ad):FS:=(qT (Wx (qI yE (qA (qP gIx (qB 0) (vC (.int 0))) (qA (qB 1) qD))) (zC 2 (QH (qu 2) (QH (qu 3) zO)))) (qT (qCO (qB 0) (vC (.int 0)) (qB 2)) (qt (qB 3))))
def qa (a:Ad):List PV->qC->Rs PV:=qo 2 4 (qBh a)
def qAF (a:Ad):FS:=(qT (Wx (qB 0) (zC 3 (QH (qu 2) (QH (qu 3) (QH (qu 4) zO))))) (qt (vFz (qx [2,4,3] 1 (Q4 (qA (qB 1) qD)) (q9 3) [] [] (qy (qA (qP QV (qB 0) (qP zt (qB 3) (qB 1))) (qA (qP yS (qP QV (qB 2) (qB 3)) (qP zt (qB 3) (qB 1))) qD)))))))
def W4 (a:Ad):List PV->qC->Rs PV:=qo 2 5 (qAF a)
def layT:FT:=(zk (vTB (qP qFS (qI jW (qA (qB 10) qD)) (qy (qA (vC (.int 7)) (qA (vC (.int 7)) qD))))) (zk (vTB (qP gLt (qI jt (qA (vFz (qx [] 1 (qq (qB 10)) (q9 0) [] [] (qP gIx (qB 0) (vC (.int 1))))) qD)) (vC (.int 8)))) (vTB (qP gEq (vFz (qx [3] 1 (qq (qB 10)) (q9 1) [(vTB (qP (gIn false) (qB 1) (qB 0)))] [] (qB 1))) (vFz (Qy qD))))))
def ZK (a:Ad):FS:=(qT (qj 8 (qy (qA (qI (qa a) (qA (qB 0) (qA (qB 5) qD))) (qA (qI (qa a) (qA (qB 0) (qA (qB 6) qD))) (qA (qI (qa a) (qA (qB 0) (qA (vC (.int 2)) qD))) qD))))) (qT (Qm (zk (vTB (qP gNe (qB 4) (vFz (Qy qD)))) (vTB (qP gEq (qI (qa a) (qA (qB 0) (qA (vC (.int 2)) qD))) (vC (.int 0))))) (qT (qj 9 (qP gIx (qB 4) (jL (vC (.int 1))))) (qj 8 (qy (qA (qI JY (qA (vC (.int 7)) (qA (qP yS (qP QV (qP gIx (qB 9) (vC (.int 0))) (vC (.int 1))) (qP gIx (qB 9) (vC (.int 2)))) qD))) (qA (qI JY (qA (vC (.int 7)) (qA (qP QV (qP gIx (qB 9) (vC (.int 1))) (qP gIx (qB 9) (vC (.int 2)))) qD))) (qA (qP gIx (qB 9) (vC (.int 2))) qD)))))) QU) (qT (qj 10 (qI (W4 a) (qA (qB 8) (qA (qB 1) qD)))) (Qm layT (qT (WW (qB 4) (qB 8)) (qj 3 (vFz (zP (qB 3) (qB 10))))) QU))))
def YV (a:Ad):FS:=(qT (qj 3 (vFz (Qy qD))) (qT (Zp 4 (Qy qD)) (qT (qCz 5 6 (qA (qP QV (qB 1) (qI (qa a) (qA (qB 0) (qA (qP yS (vC (.int 9)) (qB 1)) qD)))) (qA (qP QV (qB 1) (qI (qa a) (qA (qB 0) (qA (qP yS (vC (.int 9)) (qB 1)) qD)))) qD))) (qT (Wt (Q4 (qA (qP QV (vC (.int 1)) (qI (qa a) (qA (qB 0) (qA (qB 2) qD)))) qD)) (qu 7) (ZK a)) (qt (qy (qA (qI w9 (qA (zA (qB 3)) qD)) (qA (qI w9 (qA (zA (qB 4)) qD)) qD))))))))
def ze (a:Ad):List PV->qC->Rs PV:=qo 3 11 (YV a)
def qAC (a:Ad):FS:=(qt (ZU (qI (Qa (kit a)) (qA (qB 0) (qA (vC (.ty "int")) qD))) (qI5 (qI (Qa (kit a)) (qA (qB 0) (qA (vC (.ty "bool")) qD))))))
def wt (a:Ad):List PV->qC->Rs PV:=qo 1 1 (qAC a)
def qDr (a:Ad):FS:=(qT (qj 1 (vFz (Qy (qA (vC .non) (qA (vC (.bl true)) (qA (vC (.bl false)) (qA (jL (vC (.int 1))) (qA (vC (.int 0)) (qA (vC (.int 1)) (qA (vC (.int 2)) (qA (vC (.int 5)) (qA (vC (.int 6)) (qA (vC (.str "")) (qA (vC (.str "0")) (qA (vC (.str "none")) (qA (qy qD) (qA (qy (qA (vC (.int 0)) qD)) (qA (qy (qA (vC (.int 0)) (qA (vC (.int 0)) qD))) (qA (qy (qA (vC (.int 0)) (qA (vC (.int 0)) (qA (vC (.int 0)) qD)))) (qA (vFz (Qy (qA (vC (.int 0)) qD))) (qA (vC .dct) (qA (qy (qA (vC (.int 0)) (qA (vC (.int 0)) (qA (vC (.bl true)) qD)))) qD)))))))))))))))))))))) (qT (qj 1 (vFz (zP (qB 1) (vFz (Qy (qA (qy (qA (qy (qA (vC (.int 0)) (qA (vC (.int 0)) (qA (vC (.int 0)) qD)))) qD)) (qA (qy (qA (qy (qA (vC (.int 0)) (qA (vC (.int 0)) (qA (vC (.int 1)) qD)))) qD)) (qA (vFz (Qy (qA (qy (qA (vC (.int 0)) (qA (vC (.int 0)) (qA (vC (.int 0)) qD)))) qD))) (qA (qP qLH (vC (.int 10)) (vC (.int 39))) (qA (qy (qA (vC (.int 0)) (qA (vC (.int 0)) (qA (vC (.int 2)) qD)))) (qA (qy (qA (vC (.int 0)) (qA (jL (vC (.int 1))) (qA (vC (.int 0)) qD)))) (qA (qy (qA (qy (qA (vC (.int 0)) (qA (vC (.int 0)) qD))) qD)) (qA (qy (qA (vC (.int 0)) (qA (vC (.int 0)) (qA (vC (.int 0)) (qA (vC (.int 0)) qD))))) qD))))))))))))) (qt (qP gIx (qB 1) (qI (qa a) (qA (qB 0) (qA (qI w4 (qA (qB 1) qD)) qD)))))))
def yb (a:Ad):List PV->qC->Rs PV:=qo 1 2 (qDr a)
def Jf (a:Ad):FS:=(qT (Wx (qB 0) (zC 2 (QH (qu 3) (QH (qu 4) zO)))) (qT (Qm (vTB (qP gEq (qB 2) (vC (.int 0)))) (qt (vFz (qx [4,3] 1 (Q4 (qA (qB 1) qD)) (q9 2) [] [] (qy (qA (qP QV (qB 1) (qB 2)) (qA (qB 0) (qA (vC (.int 0)) qD))))))) QU) (qt (vFz (qx [3,4] 1 (Q4 (qA (qB 1) qD)) (q9 2) [] [] (qy (qA (qB 0) (qA (qP QV (qB 1) (qB 2)) (qA (vC (.int 1)) qD)))))))))
def Q5 (a:Ad):List PV->qC->Rs PV:=qo 3 5 (Jf a)
def qEp (a:Ad):FS:=(Qm (vTB (qP gEq (vFz (qx [1] 1 (qq (qI (Q5 a) (qA (qy (qA (qB 3) (qA (qB 4) qD))) (qA (qB 0) (qA (qB 5) qD))))) (q9 1) [(vTB (qP (gIn true) (qB 1) (qB 0)))] [] (qB 1))) (vFz (Qy qD)))) (WW (qB 2) (qy (qA (qB 3) (qA (qB 4) (qA (qB 5) qD))))) QU)
def J1 (a:Ad):FS:=(qT (Zp 2 (Qy qD)) (qT (Wt (qq (qB 1)) (zC 3 (QH (qu 3) (QH (qu 4) (QH (qu 5) zO)))) (qEp a)) (qt (qB 2))))
def Wg (a:Ad):List PV->qC->Rs PV:=qo 2 6 (J1 a)
def qAD (a:Ad):FS:=(qT (Wx (qB 2) (zC 3 (QH (qu 3) (QH (qu 4) (QH (qu 5) zO))))) (qT (qj 6 (qI (Q5 a) (qA (qy (qA (qB 3) (qA (qB 4) qD))) (qA (qB 0) (qA (qB 5) qD))))) (qT (qj 7 (qI (Q5 a) (qA (qy (qA (qB 3) (qA (qB 4) qD))) (qA (qB 0) (qA (qP yS (vC (.int 1)) (qB 5)) qD))))) (qt (qI w9 (qA (zA (vFz (zP (vFz (qx [6] 1 (qq (qB 1)) (q9 1) [(vTB (qP (gIn true) (qB 1) (qB 0)))] [] (qB 1))) (qB 7)))) qD))))))
def WY (a:Ad):List PV->qC->Rs PV:=qo 3 8 (qAD a)
def qBg (a:Ad):FS:=(qj 7 (vFz (zP (qB 7) (qI (W4 a) (qA (qB 8) (qA (qB 1) qD))))))
def qHf:FE:=(ZU (qP gLt (qP QV (qI w4 (qA (qB 2) qD)) (qI w4 (qA (qB 7) qD))) (vC (.int 26))) (qP gEq (vFz (qx [2] 1 (qq (qB 7)) (q9 1) [(zr (vTB (qP gGt (qI qAn (qA (qB 1) qD)) (vC (.int 7)))) (vTB (qP (gIn false) (qB 1) (qB 0))))] [] (qB 1))) (vFz (Qy qD))))
def Yc (a:Ad):FS:=(qT (qj 5 (qy (qA (qI (qa a) (qA (qB 0) (qA (vC (.int 7)) qD))) (qA (qI (qa a) (qA (qB 0) (qA (vC (.int 7)) qD))) qD)))) (qT (qj 6 (qI (Q5 a) (qA (qB 5) (qA (qB 1) (qA (qI (qa a) (qA (qB 0) (qA (vC (.int 2)) qD))) qD))))) (qT (Qm (zk (vTB (qP gGt (qB 4) (vC (.int 0)))) (vTB (qP gEq (qI (qa a) (qA (qB 0) (qA (vC (.int 2)) qD))) (vC (.int 0))))) (qj 6 (qFB (qB 6) WF (wM (vC (.int 1))))) QU) (qT (qj 7 (vFz (Qy qD))) (qT (Wt (qq (qB 6)) (qu 8) (qBg a)) (qT (qj 9 qHf) (Qm (QL (qB 9)) (qT (qj 3 (vFz (zP (qB 3) (qB 6)))) (qj 2 (vFz (zP (qB 2) (qB 7))))) QU)))))))
def yL (a:Ad):FS:=(qT (qj 2 (vFz (Qy qD))) (qT (qj 3 (vFz (Qy qD))) (qT (Wt (Q4 (qA (qP QV (vC (.int 1)) (qI (qa a) (qA (qB 0) (qA (vC (.int 4)) qD)))) qD)) (qu 4) (Yc a)) (qt (qy (qA (qI w9 (qA (zA (qB 2)) qD)) (qA (qI w9 (qA (zA (qB 3)) qD)) qD)))))))
def zZ (a:Ad):List PV->qC->Rs PV:=qo 2 10 (yL a)
def qBD (a:Ad):FS:=(qT (Qm (QL (qP gIx (qB 1) (vC (.int 10)))) qKI QU) (qT (qj 2 (vFz (Qy (qA (vC (.str "length")) (qA (vC (.str "number")) (qA (vC (.str "bars")) (qA (vC (.str "box")) (qA (vC (.str "weights")) (qA (vC (.str "sorts")) (qA (vC (.str "turn")) (qA (vC (.str "place")) (qA (vC (.str "text")) (qA (vC (.str "row")) qD))))))))))))) (qt (qP qJl (vC (.str "! ")) (qP gIx (qB 2) (qKq (qB 1) (vC (.bl true))))))))
def qB8 (a:Ad):FS:=(qT (qj 1 (vFz (Qy (qA (qI (Qa (kit a)) (qA (qB 0) (qA (vC (.fn a.Z1)) qD))) (qA (qI (Qa (kit a)) (qA (qB 0) (qA (vC (.fn a.Z2)) qD))) (qA (qI (Qa (kit a)) (qA (qB 0) (qA (vC (.fn a.Z3)) qD))) (qA (qI (Qa (kit a)) (qA (qB 0) (qA (vC (.fn a.Z4)) qD))) qD))))))) (qT (qj 1 (vFz (zP (qB 1) (vFz (Qy (qA (qI (Qa (kit a)) (qA (qB 0) (qA (vC (.fn a.Z5)) qD))) (qA (qI (Qa (kit a)) (qA (qB 0) (qA (vC (.fn a.Z6)) qD))) (qA (qI (Qa (kit a)) (qA (qB 0) (qA (vC (.fn a.Z7)) qD))) (qA (qI (Qa (kit a)) (qA (qB 0) (qA (vC (.fn a.Z8)) qD))) qD))))))))) (qT (qj 1 (vFz (zP (qB 1) (vFz (Qy (qA (qI (Qa (kit a)) (qA (qB 0) (qA (vC (.fn a.Z9)) qD))) (qA (qI (Qa (kit a)) (qA (qB 0) (qA (vC (.fn a.Z10)) qD))) (qA (qI (Qa (kit a)) (qA (qB 0) (qA (vC (.fn a.Z11)) qD))) qD)))))))) (qT (Qm (zr (wb (QL (qI (Qa (kit a)) (qA (qB 0) (qA (vC (.ty "ValueError")) qD))))) (vTB (qP gNe (qBa (qB 1) (vC (.bl true))) (vC (.int 1))))) (qt (vC (.str "! other"))) QU) (qBD a)))))
def Qx (a:Ad):List PV->qC->Rs PV:=qo 1 3 (qB8 a)
def Yo (a:Ad):FS:=(qT (qj 5 (vC (.str "! other"))) (qT (Y2 6 7 (QN a) (Qm (vTB (qP gEq (qB 0) (vC (.int 0)))) (qj 5 (qI (wn a) (qA (qB 1) (qA (qB 2) (qA (qB 3) qD))))) (Qm (vTB (qP gEq (qB 0) (vC (.int 1)))) (qj 5 (qI (WU a) (qA (qB 1) (qA (qB 2) (qA (qB 3) (qA (qB 4) qD)))))) (qj 5 (qI (ZX a) (qA (qB 1) (qA (qB 2) (qA (qB 3) (qA (qB 4) qD)))))))) (qj 5 (qI (Qx a) (qA (qB 6) qD)))) (qt (qB 5))))
def QG (a:Ad):List PV->qC->Rs PV:=qo 5 7 (Yo a)
def qEA (a:Ad):FS:=(qT (qj 5 (qI (QG a) (qA (vC (.int 0)) (qA (qB 0) (qA (qB 1) (qA (qB 2) (qA (vC .non) qD))))))) (qT (Qm (zr (wb (QL (qI (Qa (kit a)) (qA (qB 5) (qA (vC (.ty "list")) qD))))) (vTB (qP gNe (qB 5) (vFz (qx [] 1 (qq (qB 3)) (q9 0) [] [] (Z1 (qB 0) WF (wM (vC (.int 2))))))))) (qt (vC (.bl false))) QU) (WW (qB 5) (qy (qA (vC (.int 0)) (qA (vC (.int 0)) qD))))))
def Jp (a:Ad):FS:=(qT (qj 7 (qI (WY a) (qA (qB 1) (qA (qB 2) (qA (qB 6) qD))))) (qT (Qm (zr (vTB (qP gNe (qI (QG a) (qA (vC (.int 1)) (qA (qB 0) (qA (qB 1) (qA (qB 2) (qA (Z1 (qB 6) WF (wM (vC (.int 2)))) qD)))))) (qB 7))) (vTB (qP gNe (qI (WU a) (qA (qB 0) (qA (qB 1) (qA (qB 7) (qA (Z1 (qB 6) WF (wM (vC (.int 2)))) qD))))) (qB 2)))) (qt (vC (.bl false))) QU) (qT (qj 8 (qI (QG a) (qA (vC (.int 2)) (qA (qB 0) (qA (qB 1) (qA (qB 2) (qA (Z1 (qB 6) WF (wM (vC (.int 2)))) qD))))))) (Qm (zr (wb (QL (qI (Qa (kit a)) (qA (qB 8) (qA (vC (.ty "bool")) qD))))) (vTB (qP gNe (qB 8) (qP gEq (qP gIx (qB 6) (vC (.int 2))) (vC (.int 0)))))) (qt (vC (.bl false))) QU))))
def qBB (a:Ad):FS:=(qT (qj 3 (qI (Wg a) (qA (qB 1) (qA (qB 2) qD)))) (qT (Wt (Q4 (qA (vC (.int 2)) qD)) (qu 4) (qEA a)) (qT (Wt (qq (qB 3)) (qu 6) (Jp a)) (qt (vC (.bl true))))))
def ZP (a:Ad):List PV->qC->Rs PV:=qo 3 9 (qBB a)
def JL (a:Ad):FS:=(qT (qj 11 (ZU (qI (Qa (kit a)) (qA (qB 10) (qA (vC (.ty "tuple")) qD))) (qI zu (qA (vFz (qx [] 1 (qq (qB 10)) (q9 0) [] [] (qI (wt a) (qA (qB 0) qD)))) qD)))) (Qm (zr (wb (QL (qB 11))) (vTB (qP (gIn true) (qB 10) (vFz (qx [] 1 (qq (qB 7)) (q9 0) [] [] (Z1 (qB 0) WF (wM (vC (.int 2))))))))) (Qm (vTB (qP gNe (vFz (qx [4,3,5,10] 1 (qq (qy (qA (vC (.int 1)) (qA (vC (.int 2)) qD)))) (q9 4) [] [] (qI (QG a) (qA (qB 4) (qA (qB 0) (qA (qB 1) (qA (qB 2) (qA (qB 3) qD)))))))) (vFz (Qy (qA (vC (.str "! turn")) (qA (vC (.str "! turn")) qD)))))) (qt (vC (.bl false))) QU) QU))
def qBr (a:Ad):FS:=(Qm (vTB (qP gNe (vFz (qx [4,3,12,8] 1 (Q4 (qA (vC (.int 3)) qD)) (q9 4) [] [] (qI (QG a) (qA (qB 4) (qA (qB 0) (qA (qB 1) (qA (qB 2) (qA (qB 3) qD)))))))) (vFz (JG (Qy (qA (vC (.str "! bars")) qD)) (vC (.int 3)))))) (qt (vC (.bl false))) QU)
def qB2 (a:Ad):FS:=(qT (Qm (wb (QL (qI (ZP a) (qA (qB 4) (qA (qB 3) (qA (qB 5) qD)))))) (qt (vC (.bl false))) QU) (qT (qj 7 (qI (Wg a) (qA (qB 3) (qA (qB 5) qD)))) (qT (qj 8 (qI (yb a) (qA (qB 2) qD))) (qT (qj 9 (qy (qA (qI (qa a) (qA (qB 2) (qA (vC (.int 8)) qD))) (qA (qI (qa a) (qA (qB 2) (qA (vC (.int 8)) qD))) qD)))) (qT (Wt (qq (vFz (Qy (qA (qB 9) (qA (qB 8) (qA (qy (qA (jL (vC (.int 1))) (qA (vC (.int 0)) qD))) (qA (qP Z2 (qB 9) (qy (qA (vC (.int 0)) qD))) (qA (vFz (YA (qB 9))) (qA (qy (qA (qP gIx (qB 9) (vC (.int 0))) (qA (vC (.bl true)) qD))) (qA (qy (qA (vC (.int 8)) (qA (vC (.int 8)) qD))) qD)))))))))) (qu 10) (JL a)) (qT (Wt (qq (vFz (zP (vFz (Qy (qA (vFz (YA (qB 5))) (qA (vC .non) (qA (qP Z2 (qB 5) (qy (qA (qy (qA (vC (.int 9)) (qA (vC (.int 9)) (qA (vC (.int 0)) qD)))) qD))) qD))))) (vFz (JG (Qy (qA (Z1 (qB 5) (wM (vC (.int 1))) WF) qD)) (qI qB3 (qA (qP gNe (qB 5) (qy qD)) qD))))))) (qu 12) (qBr a)) (qT (Qm (vTB (qP gNe (vFz (qx [4,8] 1 (Q4 (qA (vC (.int 3)) qD)) (q9 2) [] [] (qI (QG a) (qA (qB 2) (qA (qB 0) (qA (vC (.int 6)) (qA (vC .non) (qA (qB 1) qD)))))))) (vFz (JG (Qy (qA (vC (.str "! length")) qD)) (vC (.int 3)))))) (qt (vC (.bl false))) QU) (Qm (vTB (qP gNe (qB 7) (vFz (Qy qD)))) (qj 5 (qI (WY a) (qA (qB 3) (qA (qB 5) (qA (qP gIx (qB 7) (qI (qa a) (qA (qB 2) (qA (qI w4 (qA (qB 7) qD)) qD)))) qD))))) QU))))))))
def yB (a:Ad):FS:=(qT (qj 2 (qI (yf a) (qA (qB 0) (qA (qB 1) qD)))) (qT (qj 3 (qP QV (vC (.int 2)) (qI (qa a) (qA (qB 2) (qA (vC (.int 4)) qD))))) (qT (Wx (qI (zZ a) (qA (qB 2) (qA (qB 3) qD))) (zC 2 (QH (qu 4) (QH (qu 5) zO)))) (qT (Qm (vTB (qP gEq (qI (qa a) (qA (qB 2) (qA (vC (.int 3)) qD))) (vC (.int 0)))) (Wx (qI (ze a) (qA (qB 2) (qA (qB 3) (qA (qP qDl (vC (.int 24)) (qB 3)) qD)))) (zC 2 (QH (qu 4) (QH (qu 5) zO)))) QU) (Wt (Q4 (qA (vC (.int 3)) qD)) (qu 6) (qB2 a))))))
def qHr (a:Ad):FS:=(qT (Wt (Q4 (qA (qI qEm (qA (vC (.int 1)) (qA (qI JY (qA (qI w4 (qA (qB 0) qD)) (qA (vC (.int 4)) qD))) qD))) qD)) (qu 1) (yB a)) (qt (vC (.bl true))))
def qAf (a:Ad):List PV->qC->Rs PV:=qo 1 13 (qHr a)
structure Env (K:W.Frag) (mg:Str->Option Value) (a:Ad):Prop where
 kit:KitOk K (kit a)
 n_ValueError:mg "ValueError" = none
 n_all:mg "all" = none
 n_bool:mg "bool" = none
 n_divmod:mg "divmod" = none
 n_int:mg "int" = none
 n_isinstance:mg "isinstance" = none
 n_len:mg "len" = none
 n_list:mg "list" = none
 n_max:mg "max" = none
 n_min:mg "min" = none
 n_range:mg "range" = none
 n_set:mg "set" = none
 n_sorted:mg "sorted" = none
 n_tuple:mg "tuple" = none
 c_LEAST_LENGTH:∃ t,mg "LEAST_LENGTH" = some (.int 2 t)
 c_MOST_LENGTH:∃ t,mg "MOST_LENGTH" = some (.int 5 t)
 c_FURTHEST:∃ t,mg "FURTHEST" = some (.int 40 t)
 c_ACROSS:∃ t,mg "ACROSS" = some (.int 0 t)
 c_DOWN:∃ t,mg "DOWN" = some (.int 1 t)
 k_Z0:mg "BarError" = some (.ref a.Z0)
 k_Z1:mg "NoLength" = some (.ref a.Z1)
 k_Z2:mg "NoNumber" = some (.ref a.Z2)
 k_Z3:mg "NoBars" = some (.ref a.Z3)
 k_Z4:mg "NoBox" = some (.ref a.Z4)
 k_Z5:mg "NoWeights" = some (.ref a.Z5)
 k_Z6:mg "NoSorts" = some (.ref a.Z6)
 k_Z7:mg "NoTurn" = some (.ref a.Z7)
 k_Z8:mg "NoPlace" = some (.ref a.Z8)
 k_Z9:mg "NoText" = some (.ref a.Z9)
 k_Z10:mg "NoRow" = some (.ref a.Z10)
 k_Z11:mg "TooMany" = some (.ref a.Z11)
 x_Z1:W.excIn K a.Z1 bmV "ValueError.__new__" = true
 e_Z1:W.mroIn K a.Z1 (.ref a.Z0)=some true
 x_Z3:W.excIn K a.Z3 bmV "ValueError.__new__" = true
 e_Z3:W.mroIn K a.Z3 (.ref a.Z0)=some true
 x_Z7:W.excIn K a.Z7 bmV "ValueError.__new__" = true
 e_Z7:W.mroIn K a.Z7 (.ref a.Z0)=some true
 o_Z0:∃ dd cd sl,K.lookup a.Z0=some ⟨.type "type",dd,.cls cd,sl⟩
 b_Z0:W.mroIn K a.Z0 (.type "BaseException")=some true
 m_is_whole:mg "is_whole" = some (.ref a.is_whole)
 f_is_whole:∃ fd,Fun K "is_whole" "is_whole" WM a.is_whole fd
 m_is_whole_within:mg "is_whole_within" = some (.ref a.is_whole_within)
 f_is_whole_within:∃ fd,Fun K "is_whole_within" "is_whole_within" QX a.is_whole_within fd
 m_are_wholes:mg "are_wholes" = some (.ref a.are_wholes)
 f_are_wholes:∃ fd,Fun K "are_wholes" "are_wholes" wX a.are_wholes fd
 m_is_rising:mg "is_rising" = some (.ref a.is_rising)
 f_is_rising:∃ fd,Fun K "is_rising" "is_rising" wq a.is_rising fd
 m_is_length:mg "is_length" = some (.ref a.is_length)
 f_is_length:∃ fd,Fun K "is_length" "is_length" wo a.is_length fd
 m_need_length:mg "need_length" = some (.ref a.need_length)
 f_need_length:∃ fd,Fun K "need_length" "need_length" Qv a.need_length fd
 m_is_bar:mg "is_bar" = some (.ref a.is_bar)
 f_is_bar:∃ fd,Fun K "is_bar" "is_bar" Wm a.is_bar fd
 m_places_of:mg "places_of" = some (.ref a.places_of)
 f_places_of:∃ fd,Fun K "places_of" "places_of" wN a.places_of fd
 m_is_within:mg "is_within" = some (.ref a.is_within)
 f_is_within:∃ fd,Fun K "is_within" "is_within" wu a.is_within fd
 m_covered_by:mg "covered_by" = some (.ref a.covered_by)
 f_covered_by:∃ fd,Fun K "covered_by" "covered_by" wY a.covered_by fd
 m_is_packing:mg "is_packing" = some (.ref a.is_packing)
 f_is_packing:∃ fd,Fun K "is_packing" "is_packing" wV a.is_packing fd
 m_is_filling:mg "is_filling" = some (.ref a.is_filling)
 f_is_filling:∃ fd,Fun K "is_filling" "is_filling" wU a.is_filling fd
 m_need_filling:mg "need_filling" = some (.ref a.need_filling)
 f_need_filling:∃ fd,Fun K "need_filling" "need_filling" Q1 a.need_filling fd
 m_block_bars:mg "block_bars" = some (.ref a.block_bars)
 f_block_bars:∃ fd,Fun K "block_bars" "block_bars" wA a.block_bars fd
 m_blocks_in:mg "blocks_in" = some (.ref a.blocks_in)
 f_blocks_in:∃ fd,Fun K "blocks_in" "blocks_in" wx a.blocks_in fd
 m_lies_across:mg "lies_across" = some (.ref a.lies_across)
 f_lies_across:∃ fd,Fun K "lies_across" "lies_across" Qw a.lies_across fd
 m_turn_at:mg "turn_at" = some (.ref a.turn_at)
 f_turn_at:∃ fd,Fun K "turn_at" "turn_at" WK a.turn_at fd
 m_need_block:mg "need_block" = some (.ref a.need_block)
 f_need_block:∃ fd,Fun K "need_block" "need_block" wR a.need_block fd
 m_blocks_of:mg "blocks_of" = some (.ref a.blocks_of)
 f_blocks_of:∃ fd,Fun K "blocks_of" "blocks_of" wy a.blocks_of fd
 m_turned:mg "turned" = some (.ref a.turned)
 f_turned:∃ fd,Fun K "turned" "turned" zH a.turned fd
 m_rises:mg "rises" = some (.ref a.rises)
 f_rises:∃ fd,Fun K "rises" "rises" Za a.rises fd
 m_law_cell:mg "_law_cell" = some (.ref a.law_cell)
 f_law_cell:∃ fd,Fun K "_law_cell" "_law_cell" WR a.law_cell fd
 m_law_mix:mg "_law_mix" = some (.ref a.law_mix)
 f_law_mix:∃ fd,Fun K "_law_mix" "_law_mix" Wk a.law_mix fd
 m_law_box:mg "_law_box" = some (.ref a.law_box)
 f_law_box:∃ fd,Fun K "_law_box" "_law_box" Wj a.law_box fd
 m_law_take:mg "_law_take" = some (.ref a.law_take)
 f_law_take:∃ fd,Fun K "_law_take" "_law_take" WO a.law_take fd
 m_law_cover:mg "_law_cover" = some (.ref a.law_cover)
 f_law_cover:∃ fd,Fun K "_law_cover" "_law_cover" ww a.law_cover fd
 m_law_laid:mg "_law_laid" = some (.ref a.law_laid)
 f_law_laid:∃ fd,Fun K "_law_laid" "_law_laid" WJ a.law_laid fd
 m_law_whole:mg "_law_whole" = some (.ref a.law_whole)
 f_law_whole:∃ fd,Fun K "_law_whole" "_law_whole" wm a.law_whole fd
 m_law_odd:mg "_law_odd" = some (.ref a.law_odd)
 f_law_odd:∃ fd,Fun K "_law_odd" "_law_odd" Wi a.law_odd fd
 m_law_square:mg "_law_square" = some (.ref a.law_square)
 f_law_square:∃ fd,Fun K "_law_square" "_law_square" wQ a.law_square fd
 m_law_blocks:mg "_law_blocks" = some (.ref a.law_blocks)
 f_law_blocks:∃ fd,Fun K "_law_blocks" "_law_blocks" wZ a.law_blocks fd
 m_law_swung:mg "_law_swung" = some (.ref a.law_swung)
 f_law_swung:∃ fd,Fun K "_law_swung" "_law_swung" wp a.law_swung fd
 m_law_blocky:mg "_law_blocky" = some (.ref a.law_blocky)
 f_law_blocky:∃ fd,Fun K "_law_blocky" "_law_blocky" wP a.law_blocky fd
 m_law_kind:mg "_law_kind" = some (.ref a.law_kind)
 f_law_kind:∃ fd,Fun K "_law_kind" "_law_kind" WL a.law_kind fd
 m_law_said:mg "_law_said" = some (.ref a.law_said)
 f_law_said:∃ fd,Fun K "_law_said" "_law_said" wg a.law_said fd
 m_law_right:mg "_law_right" = some (.ref a.law_right)
 f_law_right:∃ fd,Fun K "_law_right" "_law_right" wk a.law_right fd
 m_law:mg "law" = some (.ref a.law)
 f_law:∃ fd,Fun K "law" "law" zn a.law fd
theorem cxc {CX:CXT} {P:Program} {w:World} {K:W.Frag} {mg:Str->Option Value} {base:Heap} {N:List Str} {x:Str} {sc:Scope} {fa:Addr} {cdv:Value} {A:Around} {outer:List PySem.Env} {s:Shared} {H:Hp} {E:XK} (h:A.handled=none):(Q7 CX P w K mg base N x sc fa cdv A outer s H E).calm=true:=by show A.handled.isNone=true;rw [h];rfl
theorem scm {N P:List Str} {sc:Scope} (h1:sc.kind = .function:=by rfl) (h2:sc.isCoroutine=false:=by rfl) (h3:sc.isGenerator=false:=by rfl) (h4:N.Nodup:=by decide +kernel) (h5:N.take P.length=P:=by rfl) (h6:∀ x∈P,sc.names.lookup x=some .local∨sc.names.lookup x=some .cell:=by decide +kernel) (h7:∀ y∈sc.names,y.2 ≠ .free:=by decide +kernel):FnScope N P sc:=⟨h1,h2,h3,h4,h5,h6,h7⟩
theorem mkB {P:Program} {w:World} {K:W.Frag} {mg:Str->Option Value} {base:Heap} {x:Str} {st:Stmt} {fa:Addr} {N ps:List Str} {k:Nat} {B:FS} (F:∃ fd,Fun K x x st fa fd) (S:FnScope N ps (qH st)) (m:mg x=some (.ref fa)) (body:∀ (cdv:Value) (A:Around) (outer:List PySem.Env) (s:Shared) (H:Hp) (E:XK),Room k (A.deeper (envOfC x (qH st) s.heap.objs.size fa cdv))->(0 < k->A.handled=none)->(0 < k->(Q7 (CXF P w) P w K mg base N x (qH st) fa cdv A outer s H E).calm=true)->VSs (Q7 (CXF P w) P w K mg base N x (qH st) fa cdv A outer s H E) E (qU st) B) (hb:∀ (kV doc pm:Value) (an:Option Addr) (cdv ct:Value) (us:List Value),us.length=ps.length->bindArgs (W.fnOf x x (qW st) (qU st) (qH st) Value.none kV doc pm an cdv ct) { pos:=us }=pure (ps.zip us)):DefG P w K mg base (k + 1) x fa ps.length (qo ps.length N.length B):=by obtain ⟨fd,F⟩:=F;exact yG (B:=B) F S (F.binds (ps:=ps) hb) m (fun l st h=>wS h) (fun cdv A outer s H E hr hcm=>body cdv A outer s H E hr hcm fun h=>cxc (hcm h)) (fun l s0 hl hn=>wF hl)
theorem qE1 {P:Program} {w:World} {K:W.Frag} {mg:Str->Option Value} {base:Heap} {x:Str} {st:Stmt} {fa:Addr} {N ps:List Str} {k:Nat} {B:FS} (F:∃ fd,Fun K x x st fa fd) (S:FnScope N ps (qH st)) (m:mg x=some (.ref fa)) (body:∀ (cdv:Value) (A:Around) (outer:List PySem.Env) (s:Shared) (H:Hp) (E:XK),Room k (A.deeper (envOfC x (qH st) s.heap.objs.size fa cdv))->(0 < k->A.handled=none)->(0 < k->(Q7 (CXF P w) P w K mg base N x (qH st) fa cdv A outer s H E).calm=true)->VSs (Q7 (CXF P w) P w K mg base N x (qH st) fa cdv A outer s H E) E (qU st) B) (hl:ps.length=1:=by rfl) (hb:∀ (kV doc pm:Value) (an:Option Addr) (cdv ct u0:Value),bindArgs (W.fnOf x x (qW st) (qU st) (qH st) Value.none kV doc pm an cdv ct) { pos:=[u0] }=pure (ps.zip [u0]):=by intros;rfl):DefG P w K mg base (k + 1) x fa ps.length (qo ps.length N.length B) :=
 mkB F S m body fun kV doc pm an cdv ct us hu=>match us,hu.trans hl with |[u0],_=>hb kV doc pm an cdv ct u0
theorem JE {P:Program} {w:World} {K:W.Frag} {mg:Str->Option Value} {base:Heap} {x:Str} {st:Stmt} {fa:Addr} {N ps:List Str} {k:Nat} {B:FS} (F:∃ fd,Fun K x x st fa fd) (S:FnScope N ps (qH st)) (m:mg x=some (.ref fa)) (body:∀ (cdv:Value) (A:Around) (outer:List PySem.Env) (s:Shared) (H:Hp) (E:XK),Room k (A.deeper (envOfC x (qH st) s.heap.objs.size fa cdv))->(0 < k->A.handled=none)->(0 < k->(Q7 (CXF P w) P w K mg base N x (qH st) fa cdv A outer s H E).calm=true)->VSs (Q7 (CXF P w) P w K mg base N x (qH st) fa cdv A outer s H E) E (qU st) B) (hl:ps.length=2:=by rfl) (hb:∀ (kV doc pm:Value) (an:Option Addr) (cdv ct u0 u1:Value),bindArgs (W.fnOf x x (qW st) (qU st) (qH st) Value.none kV doc pm an cdv ct) { pos:=[u0,u1] }=pure (ps.zip [u0,u1]):=by intros;rfl):DefG P w K mg base (k + 1) x fa ps.length (qo ps.length N.length B) :=
 mkB F S m body fun kV doc pm an cdv ct us hu=>match us,hu.trans hl with |[u0,u1],_=>hb kV doc pm an cdv ct u0 u1
theorem YW {P:Program} {w:World} {K:W.Frag} {mg:Str->Option Value} {base:Heap} {x:Str} {st:Stmt} {fa:Addr} {N ps:List Str} {k:Nat} {B:FS} (F:∃ fd,Fun K x x st fa fd) (S:FnScope N ps (qH st)) (m:mg x=some (.ref fa)) (body:∀ (cdv:Value) (A:Around) (outer:List PySem.Env) (s:Shared) (H:Hp) (E:XK),Room k (A.deeper (envOfC x (qH st) s.heap.objs.size fa cdv))->(0 < k->A.handled=none)->(0 < k->(Q7 (CXF P w) P w K mg base N x (qH st) fa cdv A outer s H E).calm=true)->VSs (Q7 (CXF P w) P w K mg base N x (qH st) fa cdv A outer s H E) E (qU st) B) (hl:ps.length=3:=by rfl) (hb:∀ (kV doc pm:Value) (an:Option Addr) (cdv ct u0 u1 u2:Value),bindArgs (W.fnOf x x (qW st) (qU st) (qH st) Value.none kV doc pm an cdv ct) { pos:=[u0,u1,u2] }=pure (ps.zip [u0,u1,u2]):=by intros;rfl):DefG P w K mg base (k + 1) x fa ps.length (qo ps.length N.length B) :=
 mkB F S m body fun kV doc pm an cdv ct us hu=>match us,hu.trans hl with |[u0,u1,u2],_=>hb kV doc pm an cdv ct u0 u1 u2
theorem qJy {P:Program} {w:World} {K:W.Frag} {mg:Str->Option Value} {base:Heap} {x:Str} {st:Stmt} {fa:Addr} {N ps:List Str} {k:Nat} {B:FS} (F:∃ fd,Fun K x x st fa fd) (S:FnScope N ps (qH st)) (m:mg x=some (.ref fa)) (body:∀ (cdv:Value) (A:Around) (outer:List PySem.Env) (s:Shared) (H:Hp) (E:XK),Room k (A.deeper (envOfC x (qH st) s.heap.objs.size fa cdv))->(0 < k->A.handled=none)->(0 < k->(Q7 (CXF P w) P w K mg base N x (qH st) fa cdv A outer s H E).calm=true)->VSs (Q7 (CXF P w) P w K mg base N x (qH st) fa cdv A outer s H E) E (qU st) B) (hl:ps.length=4:=by rfl) (hb:∀ (kV doc pm:Value) (an:Option Addr) (cdv ct u0 u1 u2 u3:Value),bindArgs (W.fnOf x x (qW st) (qU st) (qH st) Value.none kV doc pm an cdv ct) { pos:=[u0,u1,u2,u3] }=pure (ps.zip [u0,u1,u2,u3]):=by intros;rfl):DefG P w K mg base (k + 1) x fa ps.length (qo ps.length N.length B) :=
 mkB F S m body fun kV doc pm an cdv ct us hu=>match us,hu.trans hl with |[u0,u1,u2,u3],_=>hb kV doc pm an cdv ct u0 u1 u2 u3
section
variable {P:Program} {w:World} {K:W.Frag} {mg:Str->Option Value} {base:Heap} {a:Ad}
theorem qBH:FnScope ["thing"] ["thing"] (qH WM):=scm
theorem Yl (V:Env K mg a):DefG P w K mg base 2 "is_whole" a.is_whole 1 (Ws a):=by refine qE1 V.f_is_whole qBH V.m_is_whole fun cdv A outer s H E hr hcm hcc => ?_;have hu:=hr.units;exact (qO (qi (zy (Qn V.kit V.n_isinstance (@qN _ _ _ _ _ _ _ (qG 0) (@qN _ _ _ _ _ _ _ (ZG rfl V.n_int Boot.«int») qF))) (Zk (qE9 (Qn V.kit V.n_isinstance (@qN _ _ _ _ _ _ _ (qG 0) (@qN _ _ _ _ _ _ _ (ZG rfl V.n_bool Boot.«bool») qF))))))))
theorem Zt:FnScope ["thing","least","most"] ["thing","least","most"] (qH QX):=scm
theorem wI (V:Env K mg a):DefG P w K mg base 3 "is_whole_within" a.is_whole_within 3 (QW a):=by refine YW V.f_is_whole_within Zt V.m_is_whole_within fun cdv A outer s H E hr hcm hcc => ?_;have hu:=hr.units;exact (qO (qi (zy (qQ ((Yl V).call (hr.mono (by omega)) qX) (@qN _ _ _ _ _ _ _ (qG 0) qF)) (Zk (qBE qCL qCL qCT qCT (qG 1) (qG 0) (qG 2))))))
theorem jC:FnScope ["thing","least","most"] ["thing","least","most"] (qH wX):=scm
theorem Js (V:Env K mg a):DefG P w K mg base 3 "are_wholes" a.are_wholes 3 (zf a):=by refine YW V.f_are_wholes jC V.m_are_wholes fun cdv A outer s H E hr hcm hcc => ?_;have hu:=hr.units;exact (qO (qi (zy (Qn V.kit V.n_isinstance (@qN _ _ _ _ _ _ _ (qG 0) (@qN _ _ _ _ _ _ _ (ZG rfl V.n_tuple Boot.«tuple») qF))) (zy (qBE qCL qCL qCT qCT (qG 1) (we (@qN _ _ _ _ _ _ _ (qG 0) qF) V.n_len) (qG 2)) (Zk (Zu (@jK _ _ _ _ _ _ _ _ _ (ql (QD (capN:=([])) (locN:=(["number"])) (caps:=([])) (by exact QR rfl (by decide +kernel) rfl rfl trivial) (Qg (qG 0)) (fun s' H' fp pn=>⟨(qQ ((Yl V).call (hr.mono (by omega)) (qf _)) (@qN _ _ _ _ _ _ _ (qG 0) qF)),⟨(QK 0 (show (["number"]:List Str).Nodup by decide +kernel)),(qb 0),TsOk.nil,rfl⟩,GsOk.nil⟩))) qF) V.n_all))))))
theorem JH:FnScope ["things"] ["things"] (qH wq):=scm
theorem qAk (V:Env K mg a):DefG P w K mg base 2 "is_rising" a.is_rising 1 (ZN a):=by refine qE1 V.f_is_rising JH V.m_is_rising fun cdv A outer s H E hr hcm hcc => ?_;have hu:=hr.units;exact (qO (qi (Zu (@jK _ _ _ _ _ _ _ _ _ (ql (QD (capN:=(["things"])) (locN:=(["at"])) (caps:=([0])) (by exact QR rfl (by decide +kernel) rfl rfl ⟨⟨rfl,rfl⟩,trivial⟩) (qDW rfl V.n_range (@qd _ _ _ _ _ _ _ _ qL (@Q9 _ _ _ _ _ _ _ _ _ (we (@qN _ _ _ _ _ _ _ (qG 0) qF) V.n_len) qF))) (fun s' H' fp pn=>⟨(qIH hu (WV (qG 0) (yR (qG 1) qL)) (WV (qG 0) (qG 1))),⟨(QK 1 (show (["things","at"]:List Str).Nodup by decide +kernel)),(qb 1),TsOk.nil,rfl⟩,GsOk.nil⟩))) qF) V.n_all)))
theorem Jb:FnScope ["thing"] ["thing"] (qH wo):=scm
theorem qBI (V:Env K mg a):DefG P w K mg base 4 "is_length" a.is_length 1 (ZD a):=by obtain ⟨fd,F⟩:=V.f_is_length;obtain ⟨_,c_LEAST_LENGTH⟩:=V.c_LEAST_LENGTH;obtain ⟨_,c_MOST_LENGTH⟩:=V.c_MOST_LENGTH;refine yG (B:=ZI a) F Jb (F.binds (ps:=["thing"]) fun _ _ _ _ _ _ us hl=>match us,hl with |[_],_=>rfl) V.m_is_length (fun l st h=>wS h) (fun cdv A outer s H E hr hcm => ?_) (fun l s0 hl hn=>wF hl);have hu:=hr.units;exact (qO (qi (qQ ((wI V).call (hr.mono (by omega)) qX) (@qN _ _ _ _ _ _ _ (qG 0) (@qN _ _ _ _ _ _ _ (Qp rfl c_LEAST_LENGTH) (@qN _ _ _ _ _ _ _ (Qp rfl c_MOST_LENGTH) qF))))))
theorem Yu:FnScope ["thing"] ["thing"] (qH Qv):=scm
theorem jE (V:Env K mg a):DefG P w K mg base 5 "need_length" a.need_length 1 (Qu a):=by
 obtain ⟨fd,F⟩:=V.f_need_length;obtain ⟨_,c_LEAST_LENGTH⟩:=V.c_LEAST_LENGTH;obtain ⟨_,c_MOST_LENGTH⟩:=V.c_MOST_LENGTH;refine yG (B:=W5 a) F Yu (F.binds (ps:=["thing"]) fun _ _ _ _ _ _ us hl=>match us,hl with |[_],_=>rfl) V.m_need_length (fun l st h=>wS h) (fun cdv A outer s H E hr hcm => ?_) (fun l s0 hl hn=>wF hl);have hu:=hr.units;have hc:(Q7 (CXF P w) P w K mg base ["thing"] "need_length" (qH Qv) a.need_length cdv A outer s H E).calm=true:=by show A.handled.isNone=true;rw [hcm (by omega)];rfl
 exact (qO (Qe (wj (Q8 (qQ ((qBI V).call (hr.mono (by omega)) qX) (@qN _ _ _ _ _ _ _ (qG 0) qF)))) (qO (YZ qFx hc rfl V.k_Z1 V.x_Z1 (@qLU _ _ _ _ _ _ _ (qGH (YO Qb (YO (qFb (Qp rfl c_LEAST_LENGTH)) (YO Qb (YO (qFb (Qp rfl c_MOST_LENGTH)) qIG))))) qF))) q5))
theorem sc_is_bar:FnScope ["thing","row","column","way"] ["thing"] (qH Wm):=scm
theorem qFo (V:Env K mg a):DefG P w K mg base 4 "is_bar" a.is_bar 1 (yI a):=by
 obtain ⟨fd,F⟩:=V.f_is_bar;obtain ⟨_,c_FURTHEST⟩:=V.c_FURTHEST;obtain ⟨_,c_ACROSS⟩:=V.c_ACROSS;obtain ⟨_,c_DOWN⟩:=V.c_DOWN;refine yG (B:=qAg a) F sc_is_bar (F.binds (ps:=["thing"]) fun _ _ _ _ _ _ us hl=>match us,hl with |[_],_=>rfl) V.m_is_bar (fun l st h=>wS h) (fun cdv A outer s H E hr hcm => ?_) (fun l s0 hl hn=>wF hl);have hu:=hr.units;have hc:(Q7 (CXF P w) P w K mg base ["thing","row","column","way"] "is_bar" (qH Wm) a.is_bar cdv A outer s H E).calm=true:=by show A.handled.isNone=true;rw [hcm (by omega)];rfl
 exact (qM (Qe (ya (ZO (wj (Q8 (Qn V.kit V.n_isinstance (@qN _ _ _ _ _ _ _ (qG 0) (@qN _ _ _ _ _ _ _ (ZG rfl V.n_tuple Boot.«tuple») qF))))) (W6 (QE (Wa hu) zi (we (@qN _ _ _ _ _ _ _ (qG 0) qF) V.n_len) qL)))) (qO (qi WC)) q5) (qM (Wn (qG 0) (WN hc (qg (qe 1 sc_is_bar.nd) (qg (qe 2 sc_is_bar.nd) (qg (qe 3 sc_is_bar.nd) wO))))) (qM (Qe (ya (ZO (wj (Q8 (qQ ((wI V).call (hr.mono (by omega)) qX) (@qN _ _ _ _ _ _ _ (qG 1) (@qFU _ _ _ _ _ _ _ _ (yd (Qp rfl c_FURTHEST)) (@qN _ _ _ _ _ _ _ (Qp rfl c_FURTHEST) qF)))))) (W6 (wj (Q8 (qQ ((wI V).call (hr.mono (by omega)) qX) (@qN _ _ _ _ _ _ _ (qG 2) (@qFU _ _ _ _ _ _ _ _ (yd (Qp rfl c_FURTHEST)) (@qN _ _ _ _ _ _ _ (Qp rfl c_FURTHEST) qF))))))))) (qO (qi WC)) q5) (qO (qi (qQ ((wI V).call (hr.mono (by omega)) qX) (@qN _ _ _ _ _ _ _ (qG 3) (@qN _ _ _ _ _ _ _ (Qp rfl c_ACROSS) (@qN _ _ _ _ _ _ _ (Qp rfl c_DOWN) qF)))))))))
theorem sc_places_of:FnScope ["bar","length","row","column","way"] ["bar","length"] (qH wN):=scm
theorem YB (V:Env K mg a):DefG P w K mg base 2 "places_of" a.places_of 2 (wJ a):=by
 obtain ⟨fd,F⟩:=V.f_places_of;obtain ⟨_,c_ACROSS⟩:=V.c_ACROSS;refine yG (B:=y0 a) F sc_places_of (F.binds (ps:=["bar","length"]) fun _ _ _ _ _ _ us hl=>match us,hl with |[_,_],_=>rfl) V.m_places_of (fun l st h=>wS h) (fun cdv A outer s H E hr hcm => ?_) (fun l s0 hl hn=>wF hl);have hu:=hr.units;have hc:(Q7 (CXF P w) P w K mg base ["bar","length","row","column","way"] "places_of" (qH wN) a.places_of cdv A outer s H E).calm=true:=by show A.handled.isNone=true;rw [hcm (by omega)];rfl
 exact (qM (Wn (qG 0) (WN hc (qg (qe 2 sc_places_of.nd) (qg (qe 3 sc_places_of.nd) (qg (qe 4 sc_places_of.nd) wO))))) (qM (Qe (QE (WZ hu) zq (qG 4) (Qp rfl c_ACROSS)) (qO (qi (wz (@jK _ _ _ _ _ _ _ _ _ (ql (QD (capN:=(["row","column"])) (locN:=(["step"])) (caps:=([2,3])) (by exact QR rfl (by decide +kernel) rfl rfl ⟨⟨rfl,rfl⟩,⟨⟨rfl,rfl⟩,trivial⟩⟩) (QQ rfl V.n_range (@qN _ _ _ _ _ _ _ (qG 1) qF)) (fun s' H' fp pn=>⟨(qk (@qN _ _ _ _ _ _ _ (qG 0) (@Wz _ _ _ _ _ _ _ _ _ (QP (qG 1) (qG 2)) qF))),⟨(QK 2 (show (["row","column","step"]:List Str).Nodup by decide +kernel)),(qb 2),TsOk.nil,rfl⟩,GsOk.nil⟩))) qF) V.n_tuple))) q5) (qO (qi (wz (@jK _ _ _ _ _ _ _ _ _ (ql (QD (capN:=(["column","row"])) (locN:=(["step"])) (caps:=([3,2])) (by exact QR rfl (by decide +kernel) rfl rfl ⟨⟨rfl,rfl⟩,⟨⟨rfl,rfl⟩,trivial⟩⟩) (QQ rfl V.n_range (@qN _ _ _ _ _ _ _ (qG 1) qF)) (fun s' H' fp pn=>⟨(qk (@Wz _ _ _ _ _ _ _ _ _ (QP (qG 1) (qG 2)) (@qN _ _ _ _ _ _ _ (qG 0) qF))),⟨(QK 2 (show (["column","row","step"]:List Str).Nodup by decide +kernel)),(qb 2),TsOk.nil,rfl⟩,GsOk.nil⟩))) qF) V.n_tuple)))))
theorem Jv:FnScope ["floor","bar","length"] ["floor","bar","length"] (qH wu):=scm
theorem qA1 (V:Env K mg a):DefG P w K mg base 3 "is_within" a.is_within 3 (W2 a):=by refine YW V.f_is_within Jv V.m_is_within fun cdv A outer s H E hr hcm hcc => ?_;have hu:=hr.units;exact (qO (qi (Zu (@jK _ _ _ _ _ _ _ _ _ (ql (QD (capN:=(["floor"])) (locN:=(["place"])) (caps:=([0])) (by exact QR rfl (by decide +kernel) rfl rfl ⟨⟨rfl,rfl⟩,trivial⟩) (Qg (qQ ((YB V).call (hr.mono (by omega)) qX) (@qN _ _ _ _ _ _ _ (qG 1) (@qN _ _ _ _ _ _ _ (qG 2) qF)))) (fun s' H' fp pn=>⟨(qFg hu (qG 1) (qG 0)),⟨(QK 1 (show (["floor","place"]:List Str).Nodup by decide +kernel)),(qb 1),TsOk.nil,rfl⟩,GsOk.nil⟩))) qF) V.n_all)))
theorem jN:FnScope ["bars","length"] ["bars","length"] (qH wY):=scm
theorem j0 (V:Env K mg a):DefG P w K mg base 3 "covered_by" a.covered_by 2 (zM a):=by refine JE V.f_covered_by jN V.m_covered_by fun cdv A outer s H E hr hcm hcc => ?_;have hu:=hr.units;exact (qO (qi (ql (QD (capN:=(["length"])) (locN:=(["bar","place"])) (caps:=([1])) (by exact QR rfl (by decide +kernel) rfl rfl ⟨⟨rfl,rfl⟩,trivial⟩) (Qg (qG 0)) (fun s' H' fp pn=>⟨(qG 2),⟨(QK 1 (show (["length","bar","place"]:List Str).Nodup by decide +kernel)),(qb 1),TsOk.nil,rfl⟩,(GsOk.cons ⟨⟨(QK 2 (show (["length","bar","place"]:List Str).Nodup by decide +kernel)),(qb 2),TsOk.nil,rfl⟩,(Qg (qQ ((YB V).call (hr.mono (by omega)) (qf _)) (@qN _ _ _ _ _ _ _ (qG 1) (@qN _ _ _ _ _ _ _ (qG 0) qF)))),by intro _;rfl⟩ GsOk.nil)⟩)))))
theorem sc_is_packing:FnScope ["floor","length","thing","places"] ["floor","length","thing"] (qH wV):=scm
theorem JD (V:Env K mg a):DefG P w K mg base 6 "is_packing" a.is_packing 3 (Wh a):=by
 refine YW V.f_is_packing sc_is_packing V.m_is_packing fun cdv A outer s H E hr hcm hcc => ?_;have hu:=hr.units;have hc:=hcc (by omega)
 exact (qM (yM (qQ ((jE V).call (hr.mono (by omega)) qX) (@qN _ _ _ _ _ _ _ (qG 1) qF))) (qM (Qe (ya (ZO (wj (Q8 (Qn V.kit V.n_isinstance (@qN _ _ _ _ _ _ _ (qG 2) (@qN _ _ _ _ _ _ _ (ZG rfl V.n_tuple Boot.«tuple») qF))))) (ZO (wj (Q8 (Zu (@jK _ _ _ _ _ _ _ _ _ (ql (QD (capN:=([])) (locN:=(["bar"])) (caps:=([])) (by exact QR rfl (by decide +kernel) rfl rfl trivial) (Qg (qG 2)) (fun s' H' fp pn=>⟨(qQ ((qFo V).call (hr.mono (by omega)) (qf _)) (@qN _ _ _ _ _ _ _ (qG 0) qF)),⟨(QK 0 (show (["bar"]:List Str).Nodup by decide +kernel)),(qb 0),TsOk.nil,rfl⟩,GsOk.nil⟩))) qF) V.n_all))) (W6 (wj (Q8 (qQ ((qAk V).call (hr.mono (by omega)) qX) (@qN _ _ _ _ _ _ _ (qG 2) qF)))))))) (qO (qi WC)) q5) (qM (Qe (wj (Q8 (Zu (@jK _ _ _ _ _ _ _ _ _ (ql (QD (capN:=(["floor","length"])) (locN:=(["bar"])) (caps:=([0,1])) (by exact QR rfl (by decide +kernel) rfl rfl ⟨⟨rfl,rfl⟩,⟨⟨rfl,rfl⟩,trivial⟩⟩) (Qg (qG 2)) (fun s' H' fp pn=>⟨(qQ ((qA1 V).call (hr.mono (by omega)) (qf _)) (@qN _ _ _ _ _ _ _ (qG 0) (@qN _ _ _ _ _ _ _ (qG 2) (@qN _ _ _ _ _ _ _ (qG 1) qF)))),⟨(QK 2 (show (["floor","length","bar"]:List Str).Nodup by decide +kernel)),(qb 2),TsOk.nil,rfl⟩,GsOk.nil⟩))) qF) V.n_all))) (qO (qi WC)) q5) (qM (qh 3 sc_is_packing.nd (qQ ((j0 V).call (hr.mono (by omega)) qX) (@qN _ _ _ _ _ _ _ (qG 2) (@qN _ _ _ _ _ _ _ (qG 1) qF)))) (qO (qi (qCv hu (qEo hc hu V.n_len V.n_set (qG 3)) (we (@qN _ _ _ _ _ _ _ (qG 3) qF) V.n_len))))))))
theorem jO:FnScope ["floor","length","thing"] ["floor","length","thing"] (qH wU):=scm
theorem Jd (V:Env K mg a):DefG P w K mg base 7 "is_filling" a.is_filling 3 (Wf a):=by refine YW V.f_is_filling jO V.m_is_filling fun cdv A outer s H E hr hcm hcc => ?_;have hu:=hr.units;exact (qO (qi (zy (qQ ((JD V).call (hr.mono (by omega)) qX) (@qN _ _ _ _ _ _ _ (qG 0) (@qN _ _ _ _ _ _ _ (qG 1) (@qN _ _ _ _ _ _ _ (qG 2) qF)))) (Zk (qCv hu (ZB (we (@qN _ _ _ _ _ _ _ (qG 2) qF) V.n_len) (qG 1)) (we (@qN _ _ _ _ _ _ _ (qG 0) qF) V.n_len))))))
theorem YE:FnScope ["floor","length","thing"] ["floor","length","thing"] (qH Q1):=scm
theorem ZJ (V:Env K mg a):DefG P w K mg base 8 "need_filling" a.need_filling 3 (QJ a):=by
 refine YW V.f_need_filling YE V.m_need_filling fun cdv A outer s H E hr hcm hcc => ?_;have hu:=hr.units;have hc:=hcc (by omega)
 exact (qO (Qe (wj (Q8 (qQ ((Jd V).call (hr.mono (by omega)) qX) (@qN _ _ _ _ _ _ _ (qG 0) (@qN _ _ _ _ _ _ _ (qG 1) (@qN _ _ _ _ _ _ _ (qG 2) qF)))))) (qO (YZ qFx hc rfl V.k_Z3 V.x_Z3 (@qd _ _ _ _ _ _ _ _ Qb qF))) q5))
theorem sc_block_bars:FnScope ["place","length","way","row","column"] ["place","length","way"] (qH wA):=scm
theorem zT (V:Env K mg a):DefG P w K mg base 2 "block_bars" a.block_bars 3 (Qq a):=by
 obtain ⟨fd,F⟩:=V.f_block_bars;obtain ⟨_,c_ACROSS⟩:=V.c_ACROSS;obtain ⟨_,c_DOWN⟩:=V.c_DOWN;refine yG (B:=yJ a) F sc_block_bars (F.binds (ps:=["place","length","way"]) fun _ _ _ _ _ _ us hl=>match us,hl with |[_,_,_],_=>rfl) V.m_block_bars (fun l st h=>wS h) (fun cdv A outer s H E hr hcm => ?_) (fun l s0 hl hn=>wF hl);have hu:=hr.units;have hc:(Q7 (CXF P w) P w K mg base ["place","length","way","row","column"] "block_bars" (qH wA) a.block_bars cdv A outer s H E).calm=true:=by show A.handled.isNone=true;rw [hcm (by omega)];rfl
 exact (qM (Wn (qG 0) (WN hc (qg (qe 3 sc_block_bars.nd) (qg (qe 4 sc_block_bars.nd) wO)))) (qM (Qe (QE (WZ hu) zq (qG 2) (Qp rfl c_ACROSS)) (qO (qi (ql (QD (capN:=(["column","row"])) (locN:=(["step"])) (caps:=([4,3])) (by exact QR rfl (by decide +kernel) rfl rfl ⟨⟨rfl,rfl⟩,⟨⟨rfl,rfl⟩,trivial⟩⟩) (QQ rfl V.n_range (@qN _ _ _ _ _ _ _ (qG 1) qF)) (fun s' H' fp pn=>⟨(qk (@Wz _ _ _ _ _ _ _ _ _ (QP (qG 1) (qG 2)) (@qN _ _ _ _ _ _ _ (qG 0) (@qN _ _ _ _ _ _ _ (Qp rfl c_ACROSS) qF)))),⟨(QK 2 (show (["column","row","step"]:List Str).Nodup by decide +kernel)),(qb 2),TsOk.nil,rfl⟩,GsOk.nil⟩))))) q5) (qO (qi (ql (QD (capN:=(["row","column"])) (locN:=(["step"])) (caps:=([3,4])) (by exact QR rfl (by decide +kernel) rfl rfl ⟨⟨rfl,rfl⟩,⟨⟨rfl,rfl⟩,trivial⟩⟩) (QQ rfl V.n_range (@qN _ _ _ _ _ _ _ (qG 1) qF)) (fun s' H' fp pn=>⟨(qk (@qN _ _ _ _ _ _ _ (qG 0) (@Wz _ _ _ _ _ _ _ _ _ (QP (qG 1) (qG 2)) (@qN _ _ _ _ _ _ _ (Qp rfl c_DOWN) qF)))),⟨(QK 2 (show (["row","column","step"]:List Str).Nodup by decide +kernel)),(qb 2),TsOk.nil,rfl⟩,GsOk.nil⟩)))))))
theorem j4:FnScope ["filling","length"] ["filling","length"] (qH wx):=scm
theorem yv (V:Env K mg a):DefG P w K mg base 3 "blocks_in" a.blocks_in 2 (W3 a):=by
 refine JE V.f_blocks_in j4 V.m_blocks_in fun cdv A outer s H E hr hcm hcc => ?_;have hu:=hr.units;have hc:=hcc (by omega)
 exact (qO (j7 (QD (capN:=(["filling","length"])) (locN:=(["row","column","way"])) (caps:=([0,1])) (by exact QR rfl (by decide +kernel) rfl rfl ⟨⟨rfl,rfl⟩,⟨⟨rfl,rfl⟩,trivial⟩⟩) (Qg (qG 0)) (fun s' H' fp pn=>⟨(qk (@qN _ _ _ _ _ _ _ (qG 2) (@qN _ _ _ _ _ _ _ (qG 3) qF))),⟨(WN hc (qg (QK 2 (show (["filling","length","row","column","way"]:List Str).Nodup by decide +kernel)) (qg (QK 3 (show (["filling","length","row","column","way"]:List Str).Nodup by decide +kernel)) (qg (QK 4 (show (["filling","length","row","column","way"]:List Str).Nodup by decide +kernel)) wO)))),(qDK (Zx (qb 2) (Zx (qb 3) (Zx (qb 4) qDS)))),(TsOk.cons (Q8 (Zu (@jK _ _ _ _ _ _ _ _ _ (ql (QD (capN:=(["filling"])) (locN:=(["bar"])) (caps:=([0])) (by exact QR rfl (by decide +kernel) rfl rfl ⟨⟨rfl,rfl⟩,trivial⟩) (Qg (qQ ((zT V).call (hr.mono (by omega)) (qf _)) (@Ww _ _ _ _ _ _ _ _ (qk (@qN _ _ _ _ _ _ _ (qG 2) (@qN _ _ _ _ _ _ _ (qG 3) qF))) (@qN _ _ _ _ _ _ _ (qG 1) (@qN _ _ _ _ _ _ _ (qG 4) qF))))) (fun s' H' fp pn=>⟨(qFg hu (qG 1) (qG 0)),⟨(QK 1 (show (["filling","bar"]:List Str).Nodup by decide +kernel)),(qb 1),TsOk.nil,rfl⟩,GsOk.nil⟩))) qF) V.n_all)) TsOk.nil),rfl⟩,GsOk.nil⟩))))
theorem sc_lies_across:FnScope ["filling","place","row","column"] ["filling","place"] (qH Qw):=scm
theorem Zg (V:Env K mg a):DefG P w K mg base 2 "lies_across" a.lies_across 2 (WS a):=by
 obtain ⟨fd,F⟩:=V.f_lies_across;obtain ⟨_,c_ACROSS⟩:=V.c_ACROSS;refine yG (B:=Zi a) F sc_lies_across (F.binds (ps:=["filling","place"]) fun _ _ _ _ _ _ us hl=>match us,hl with |[_,_],_=>rfl) V.m_lies_across (fun l st h=>wS h) (fun cdv A outer s H E hr hcm => ?_) (fun l s0 hl hn=>wF hl);have hu:=hr.units;have hc:(Q7 (CXF P w) P w K mg base ["filling","place","row","column"] "lies_across" (qH Qw) a.lies_across cdv A outer s H E).calm=true:=by show A.handled.isNone=true;rw [hcm (by omega)];rfl
 exact (qM (Wn (qG 1) (WN hc (qg (qe 2 sc_lies_across.nd) (qg (qe 3 sc_lies_across.nd) wO)))) (qO (qi (qFg hu (qk (@qN _ _ _ _ _ _ _ (qG 2) (@qN _ _ _ _ _ _ _ (qG 3) (@qN _ _ _ _ _ _ _ (Qp rfl c_ACROSS) qF)))) (qG 0)))))
theorem sc_turn_at:FnScope ["filling","length","place","across","down","old","new"] ["filling","length","place"] (qH WK):=scm
theorem qDo (V:Env K mg a):DefG P w K mg base 3 "turn_at" a.turn_at 3 (yT a):=by
 obtain ⟨fd,F⟩:=V.f_turn_at;obtain ⟨_,c_ACROSS⟩:=V.c_ACROSS;obtain ⟨_,c_DOWN⟩:=V.c_DOWN;refine yG (B:=jR a) F sc_turn_at (F.binds (ps:=["filling","length","place"]) fun _ _ _ _ _ _ us hl=>match us,hl with |[_,_,_],_=>rfl) V.m_turn_at (fun l st h=>wS h) (fun cdv A outer s H E hr hcm => ?_) (fun l s0 hl hn=>wF hl);have hu:=hr.units;have hc:(Q7 (CXF P w) P w K mg base ["filling","length","place","across","down","old","new"] "turn_at" (qH WK) a.turn_at cdv A outer s H E).calm=true:=by show A.handled.isNone=true;rw [hcm (by omega)];rfl
 exact (qM (qh 3 sc_turn_at.nd (qQ ((zT V).call (hr.mono (by omega)) qX) (@qN _ _ _ _ _ _ _ (qG 2) (@qN _ _ _ _ _ _ _ (qG 1) (@qN _ _ _ _ _ _ _ (Qp rfl c_ACROSS) qF))))) (qM (qh 4 sc_turn_at.nd (qQ ((zT V).call (hr.mono (by omega)) qX) (@qN _ _ _ _ _ _ _ (qG 2) (@qN _ _ _ _ _ _ _ (qG 1) (@qN _ _ _ _ _ _ _ (Qp rfl c_DOWN) qF))))) (qM (Wn (qLD (Q8 (qQ ((Zg V).call (hr.mono (by omega)) qX) (@qN _ _ _ _ _ _ _ (qG 0) (@qN _ _ _ _ _ _ _ (qG 2) qF)))) (qk (@qN _ _ _ _ _ _ _ (qG 3) (@qN _ _ _ _ _ _ _ (qG 4) qF))) (qk (@qN _ _ _ _ _ _ _ (qG 4) (@qN _ _ _ _ _ _ _ (qG 3) qF)))) (WN hc (qg (qe 5 sc_turn_at.nd) (qg (qe 6 sc_turn_at.nd) wO)))) (qO (qi (wz (@Q9 _ _ _ _ _ _ _ _ _ (zK hu V.n_sorted (ql (W7 (ql (QD (capN:=(["old"])) (locN:=(["bar"])) (caps:=([5])) (by exact QR rfl (by decide +kernel) rfl rfl ⟨⟨rfl,rfl⟩,trivial⟩) (Qg (qG 0)) (fun s' H' fp pn=>⟨(qG 1),⟨(QK 1 (show (["old","bar"]:List Str).Nodup by decide +kernel)),(qb 1),(TsOk.cons (QE (zF hu) y1 (qG 1) (qG 0)) TsOk.nil),rfl⟩,GsOk.nil⟩))) (qG 6)))) qF) V.n_tuple))))))
theorem jI:FnScope ["floor","length","filling","place"] ["floor","length","filling","place"] (qH wR):=scm
theorem yC (V:Env K mg a):DefG P w K mg base 9 "need_block" a.need_block 4 (Qs a):=by
 refine qJy V.f_need_block jI V.m_need_block fun cdv A outer s H E hr hcm hcc => ?_;have hu:=hr.units;have hc:=hcc (by omega)
 exact (qM (yM (qQ ((ZJ V).call (hr.mono (by omega)) qX) (@qN _ _ _ _ _ _ _ (qG 0) (@qN _ _ _ _ _ _ _ (qG 1) (@qN _ _ _ _ _ _ _ (qG 2) qF))))) (qO (Qe (ya (ZO (wj (Q8 (qQ ((Js V).call (hr.mono (by omega)) qX) (@qN _ _ _ _ _ _ _ (qG 3) (@qd _ _ _ _ _ _ _ _ qL (@qd _ _ _ _ _ _ _ _ qL qF)))))) (W6 (QE (zF hu) y1 (qG 3) (qQ ((yv V).call (hr.mono (by omega)) qX) (@qN _ _ _ _ _ _ _ (qG 2) (@qN _ _ _ _ _ _ _ (qG 1) qF))))))) (qO (YZ qFx hc rfl V.k_Z7 V.x_Z7 (@qd _ _ _ _ _ _ _ _ Qb qF))) q5)))
theorem Jt:FnScope ["floor","length","filling"] ["floor","length","filling"] (qH wy):=scm
theorem qBG (V:Env K mg a):DefG P w K mg base 9 "blocks_of" a.blocks_of 3 (wn a):=by refine YW V.f_blocks_of Jt V.m_blocks_of fun cdv A outer s H E hr hcm hcc => ?_;have hu:=hr.units;exact (qM (yM (qQ ((ZJ V).call (hr.mono (by omega)) qX) (@qN _ _ _ _ _ _ _ (qG 0) (@qN _ _ _ _ _ _ _ (qG 1) (@qN _ _ _ _ _ _ _ (qG 2) qF))))) (qO (qi (qQ ((yv V).call (hr.mono (by omega)) qX) (@qN _ _ _ _ _ _ _ (qG 2) (@qN _ _ _ _ _ _ _ (qG 1) qF))))))
theorem qDs:FnScope ["floor","length","filling","place"] ["floor","length","filling","place"] (qH zH):=scm
theorem qAo (V:Env K mg a):DefG P w K mg base 10 "turned" a.turned 4 (WU a):=by refine qJy V.f_turned qDs V.m_turned fun cdv A outer s H E hr hcm hcc => ?_;have hu:=hr.units;exact (qM (yM (qQ ((yC V).call (hr.mono (by omega)) qX) (@qN _ _ _ _ _ _ _ (qG 0) (@qN _ _ _ _ _ _ _ (qG 1) (@qN _ _ _ _ _ _ _ (qG 2) (@qN _ _ _ _ _ _ _ (qG 3) qF)))))) (qO (qi (qQ ((qDo V).call (hr.mono (by omega)) qX) (@qN _ _ _ _ _ _ _ (qG 2) (@qN _ _ _ _ _ _ _ (qG 1) (@qN _ _ _ _ _ _ _ (qG 3) qF)))))))
theorem qEy:FnScope ["floor","length","filling","place"] ["floor","length","filling","place"] (qH Za):=scm
theorem qGc (V:Env K mg a):DefG P w K mg base 10 "rises" a.rises 4 (ZX a):=by refine qJy V.f_rises qEy V.m_rises fun cdv A outer s H E hr hcm hcc => ?_;have hu:=hr.units;exact (qM (yM (qQ ((yC V).call (hr.mono (by omega)) qX) (@qN _ _ _ _ _ _ _ (qG 0) (@qN _ _ _ _ _ _ _ (qG 1) (@qN _ _ _ _ _ _ _ (qG 2) (@qN _ _ _ _ _ _ _ (qG 3) qF)))))) (qO (qi (qQ ((Zg V).call (hr.mono (by omega)) qX) (@qN _ _ _ _ _ _ _ (qG 2) (@qN _ _ _ _ _ _ _ (qG 3) qF))))))
theorem qAQ:FnScope ["_law_script","_law_k"] ["_law_script","_law_k"] (qH WR):=scm
theorem qB6 (V:Env K mg a):DefG P w K mg base 2 "_law_cell" a.law_cell 2 (zQ a):=by refine JE V.f_law_cell qAQ V.m_law_cell fun cdv A outer s H E hr hcm hcc => ?_;have hu:=hr.units;exact (qM (Qe (QE qEh qD9 (qG 1) (we (@qN _ _ _ _ _ _ _ (qG 0) qF) V.n_len)) (qO (qi (WV (qG 0) (qG 1)))) q5) (qO (qi (QP (ZB qL (qG 1)) qL))))
theorem sc_law_mix:FnScope ["_law_cell_here","_law_k","_law_number"] ["_law_cell_here","_law_k"] (qH Wk):=scm
theorem qDZ (V:Env K mg a):DefG P w K mg base 2 "_law_mix" a.law_mix 2 (ZY a):=by refine JE V.f_law_mix sc_law_mix V.m_law_mix fun cdv A outer s H E hr hcm hcc => ?_;have hu:=hr.units;exact (qM (qh 2 sc_law_mix.nd (QP (ZB (QP (qG 0) qL) qL) (ZB qL (qG 1)))) (qM (qh 2 sc_law_mix.nd (QP (qBz (qGV (qG 2) (qG 2)) qL) (qG 1))) (qO (qi (qBz (ZB (qG 2) (QP (qG 2) qL)) qL)))))
theorem sc_law_box:FnScope ["_law_script","_law_k","_law_here","_law_number","_law_j"] ["_law_script","_law_k"] (qH Wj):=scm
theorem qDN (V:Env K mg a):DefG P w K mg base 3 "_law_box" a.law_box 2 (yf a):=by refine JE V.f_law_box sc_law_box V.m_law_box fun cdv A outer s H E hr hcm hcc => ?_;have hu:=hr.units;exact (qM (qh 2 sc_law_box.nd (qQ ((qB6 V).call (hr.mono (by omega)) qX) (@qN _ _ _ _ _ _ _ (qG 0) (@qN _ _ _ _ _ _ _ (qG 1) qF)))) (qM (Qe (QE (WZ hu) zq (qBz (qG 2) qL) qL) (qO (j7 (QS (@Wz _ _ _ _ _ _ _ _ _ (qD3 (qG 2) qL) qF)))) q5) (qM (qh 3 sc_law_box.nd qL) (qM (Wr (QQ rfl V.n_range (@qd _ _ _ _ _ _ _ _ qL qF)) (qe 4 sc_law_box.nd) (qO (qh 3 sc_law_box.nd (QP (ZB (qG 3) qL) (qQ ((qDZ V).call (hr.mono (by omega)) (qf _)) (@qN _ _ _ _ _ _ _ (qG 2) (@qN _ _ _ _ _ _ _ (qG 4) qF))))))) (qO (j7 (QS (@qN _ _ _ _ _ _ _ (qG 3) qF))))))))
theorem sc_law_take:FnScope ["_law_box_here","_law_many","_law_left","_law_digit"] ["_law_box_here","_law_many"] (qH WO):=scm
theorem qz (V:Env K mg a):DefG P w K mg base 2 "_law_take" a.law_take 2 (qa a):=by
 refine JE V.f_law_take sc_law_take V.m_law_take fun cdv A outer s H E hr hcm hcc => ?_;have hu:=hr.units;have hc:=hcc (by omega)
 exact (qM (Wn (qDd (@qAz _ _ _ _ _ _ _ _ (WV (qG 0) qL) (@qN _ _ _ _ _ _ _ (qG 1) qF)) V.n_divmod) (WN hc (qg (qe 2 sc_law_take.nd) (qg (qe 3 sc_law_take.nd) wO)))) (qM (qIJ (qG 0) qL (qG 2)) (qO (qi (qG 3)))))
theorem sc_law_cover:FnScope ["_law_bar","_law_length","_law_row","_law_column","_law_way"] ["_law_bar","_law_length"] (qH ww):=scm
theorem yx (V:Env K mg a):DefG P w K mg base 2 "_law_cover" a.law_cover 2 (W4 a):=by
 refine JE V.f_law_cover sc_law_cover V.m_law_cover fun cdv A outer s H E hr hcm hcc => ?_;have hu:=hr.units;have hc:=hcc (by omega)
 exact (qM (Wn (qG 0) (WN hc (qg (qe 2 sc_law_cover.nd) (qg (qe 3 sc_law_cover.nd) (qg (qe 4 sc_law_cover.nd) wO))))) (qO (qi (ql (QD (capN:=(["_law_row","_law_way","_law_column"])) (locN:=(["_law_k"])) (caps:=([2,4,3])) (by exact QR rfl (by decide +kernel) rfl rfl ⟨⟨rfl,rfl⟩,⟨⟨rfl,rfl⟩,⟨⟨rfl,rfl⟩,trivial⟩⟩⟩) (QQ rfl V.n_range (@qN _ _ _ _ _ _ _ (qG 1) qF)) (fun s' H' fp pn=>⟨(qk (@Wz _ _ _ _ _ _ _ _ _ (QP (qG 0) (ZB (qG 3) (qG 1))) (@Wz _ _ _ _ _ _ _ _ _ (yR (QP (qG 2) (qG 3)) (ZB (qG 3) (qG 1))) qF))),⟨(QK 3 (show (["_law_row","_law_way","_law_column","_law_k"]:List Str).Nodup by decide +kernel)),(qb 3),TsOk.nil,rfl⟩,GsOk.nil⟩))))))
theorem sc_law_laid:FnScope ["_law_box_here","_law_length","_law_turns","_law_cells","_law_bars","_law_high","_law_wide","_law_turn","_law_bar","_law_last","_law_some"] ["_law_box_here","_law_length","_law_turns"] (qH WJ):=scm
theorem qBM (V:Env K mg a):DefG P w K mg base 3 "_law_laid" a.law_laid 3 (ze a):=by
 refine YW V.f_law_laid sc_law_laid V.m_law_laid fun cdv A outer s H E hr hcm hcc => ?_;have hu:=hr.units;have hc:=hcc (by omega)
 exact (qM (qh 3 sc_law_laid.nd (ql (QS qF))) (qM (qCi 4 sc_law_laid.nd (QS qF)) (qM (qJb 5 6 hc sc_law_laid.nd (@Wz _ _ _ _ _ _ _ _ _ (QP (qG 1) (qQ ((qz V).call (hr.mono (by omega)) qX) (@qN _ _ _ _ _ _ _ (qG 0) (@Wz _ _ _ _ _ _ _ _ _ (yR qL (qG 1)) qF)))) (@Wz _ _ _ _ _ _ _ _ _ (QP (qG 1) (qQ ((qz V).call (hr.mono (by omega)) qX) (@qN _ _ _ _ _ _ _ (qG 0) (@Wz _ _ _ _ _ _ _ _ _ (yR qL (qG 1)) qF)))) qF))) (qM (Wr (QQ rfl V.n_range (@Wz _ _ _ _ _ _ _ _ _ (QP qL (qQ ((qz V).call (hr.mono (by omega)) qX) (@qN _ _ _ _ _ _ _ (qG 0) (@qN _ _ _ _ _ _ _ (qG 2) qF)))) qF)) (qe 7 sc_law_laid.nd) (qM (qh 8 sc_law_laid.nd (qk (@Q9 _ _ _ _ _ _ _ _ _ (qQ ((qz V).call (hr.mono (by omega)) (qf _)) (@qN _ _ _ _ _ _ _ (qG 0) (@qN _ _ _ _ _ _ _ (qG 5) qF))) (@Q9 _ _ _ _ _ _ _ _ _ (qQ ((qz V).call (hr.mono (by omega)) (qf _)) (@qN _ _ _ _ _ _ _ (qG 0) (@qN _ _ _ _ _ _ _ (qG 6) qF))) (@Q9 _ _ _ _ _ _ _ _ _ (qQ ((qz V).call (hr.mono (by omega)) (qf _)) (@qN _ _ _ _ _ _ _ (qG 0) (@qd _ _ _ _ _ _ _ _ qL qF))) qF))))) (qM (Qe (ya (JJ (QE (Wa hu) zi (qG 4) (ql (QS qF))) (JP (QE (WZ hu) zq (qQ ((qz V).call (hr.mono (by omega)) (qf _)) (@qN _ _ _ _ _ _ _ (qG 0) (@qd _ _ _ _ _ _ _ _ qL qF))) qL)))) (qM (qh 9 sc_law_laid.nd (WV (qG 4) (yd qL))) (qO (qh 8 sc_law_laid.nd (qk (@Q9 _ _ _ _ _ _ _ _ _ (Ja (@qd _ _ _ _ _ _ _ _ qL (@Wz _ _ _ _ _ _ _ _ _ (yR (QP (WV (qG 9) qL) qL) (WV (qG 9) qL)) qF)) hc V.n_min) (@Q9 _ _ _ _ _ _ _ _ _ (Ja (@qd _ _ _ _ _ _ _ _ qL (@Wz _ _ _ _ _ _ _ _ _ (QP (WV (qG 9) qL) (WV (qG 9) qL)) qF)) hc V.n_min) (@qAz _ _ _ _ _ _ _ _ (WV (qG 9) qL) qF))))))) q5) (qM (qh 10 sc_law_laid.nd (qQ ((yx V).call (hr.mono (by omega)) (qf _)) (@qN _ _ _ _ _ _ _ (qG 8) (@qN _ _ _ _ _ _ _ (qG 1) qF)))) (qO (Qe (ya (JJ (QE (qJr hu) qJN (qHI hu (@qN _ _ _ _ _ _ _ (qG 10) qF) V.n_max) (qk (@qd _ _ _ _ _ _ _ _ qL (@qd _ _ _ _ _ _ _ _ qL qF)))) (JJ (QE qEh qD9 (qG0 (@jK _ _ _ _ _ _ _ _ _ (ql (QD (capN:=([])) (locN:=(["_law_cell_here"])) (caps:=([])) (by exact QR rfl (by decide +kernel) rfl rfl trivial) (Qg (qG 10)) (fun s' H' fp pn=>⟨(WV (qG 0) qL),⟨(QK 0 (show (["_law_cell_here"]:List Str).Nodup by decide +kernel)),(qb 0),TsOk.nil,rfl⟩,GsOk.nil⟩))) qF) V.n_max) qL) (JP (QE (WZ hu) zq (ql (QD (capN:=(["_law_cells"])) (locN:=(["_law_one"])) (caps:=([3])) (by exact QR rfl (by decide +kernel) rfl rfl ⟨⟨rfl,rfl⟩,trivial⟩) (Qg (qG 10)) (fun s' H' fp pn=>⟨(qG 1),⟨(QK 1 (show (["_law_cells","_law_one"]:List Str).Nodup by decide +kernel)),(qb 1),(TsOk.cons (QE (qB7 hu) y1 (qG 1) (qG 0)) TsOk.nil),rfl⟩,GsOk.nil⟩))) (ql (QS qF))))))) (qM (yg (qG 4) (qG 8)) (qO (qh 3 sc_law_laid.nd (ql (W7 (qG 3) (qG 10)))))) q5)))))) (qO (qi (qk (@Q9 _ _ _ _ _ _ _ _ _ (wz (@Q9 _ _ _ _ _ _ _ _ _ (zK hu V.n_sorted (qG 3)) qF) V.n_tuple) (@Q9 _ _ _ _ _ _ _ _ _ (wz (@Q9 _ _ _ _ _ _ _ _ _ (zK hu V.n_sorted (qG 4)) qF) V.n_tuple) qF)))))))))
theorem j5:FnScope ["_law_found"] ["_law_found"] (qH wm):=scm
theorem qAs (V:Env K mg a):DefG P w K mg base 2 "_law_whole" a.law_whole 1 (wt a):=by refine qE1 V.f_law_whole j5 V.m_law_whole fun cdv A outer s H E hr hcm hcc => ?_;have hu:=hr.units;exact (qO (qi (zy (Qn V.kit V.n_isinstance (@qN _ _ _ _ _ _ _ (qG 0) (@qN _ _ _ _ _ _ _ (ZG rfl V.n_int Boot.«int») qF))) (Zk (qE9 (Qn V.kit V.n_isinstance (@qN _ _ _ _ _ _ _ (qG 0) (@qN _ _ _ _ _ _ _ (ZG rfl V.n_bool Boot.«bool») qF))))))))
theorem sc_law_odd:FnScope ["_law_box_here","_law_some"] ["_law_box_here"] (qH Wi):=scm
theorem qDq (V:Env K mg a):DefG P w K mg base 3 "_law_odd" a.law_odd 1 (yb a):=by refine qE1 V.f_law_odd sc_law_odd V.m_law_odd fun cdv A outer s H E hr hcm hcc => ?_;have hu:=hr.units;exact (@qM _ _ _ _ _ _ (@qh _ _ _ _ _ 1 _ _ sc_law_odd.nd (@ql _ _ _ _ (@QS _ _ _ _ _ (@qd _ _ _ _ _ _ _ _ Jc (@qd _ _ _ _ _ _ _ _ WC (@qd _ _ _ _ _ _ _ _ WC (@qFU _ _ _ _ _ _ _ _ (@yd _ _ _ _ _ qL) (@qd _ _ _ _ _ _ _ _ qL (@qd _ _ _ _ _ _ _ _ qL (@qd _ _ _ _ _ _ _ _ qL (@qd _ _ _ _ _ _ _ _ qL (@qd _ _ _ _ _ _ _ _ qL (@qd _ _ _ _ _ _ _ _ Qb (@qd _ _ _ _ _ _ _ _ Qb (@qd _ _ _ _ _ _ _ _ Qb (@Ww _ _ _ _ _ _ _ _ (@qk _ _ _ _ _ _ qF) (@Ww _ _ _ _ _ _ _ _ (@qk _ _ _ _ _ _ (@qd _ _ _ _ _ _ _ _ qL qF)) (@Ww _ _ _ _ _ _ _ _ (@qk _ _ _ _ _ _ (@qd _ _ _ _ _ _ _ _ qL (@qd _ _ _ _ _ _ _ _ qL qF))) (@Ww _ _ _ _ _ _ _ _ (@qk _ _ _ _ _ _ (@qd _ _ _ _ _ _ _ _ qL (@qd _ _ _ _ _ _ _ _ qL (@qd _ _ _ _ _ _ _ _ qL qF)))) (@qLE _ _ _ _ _ _ _ (@ql _ _ _ _ (@QS _ _ _ _ _ (@qd _ _ _ _ _ _ _ _ qL qF))) (@qLP _ _ _ _ _ _ _ _ qJg (@Ww _ _ _ _ _ _ _ _ (@qk _ _ _ _ _ _ (@qd _ _ _ _ _ _ _ _ qL (@qd _ _ _ _ _ _ _ _ qL (@qd _ _ _ _ _ _ _ _ WC qF)))) qF))))))))))))))))))))) (by rfl) (by first |exact Or.inl rfl |exact Or.inr rfl) (by rfl) (by first |exact .inl rfl |exact .inr rfl |assumption)) (@qM _ _ _ _ _ _ (@qh _ _ _ _ _ 1 _ _ sc_law_odd.nd (@ql _ _ _ _ (@W7 _ _ _ _ _ _ _ (qG 1) (@ql _ _ _ _ (@QS _ _ _ _ _ (@Ww _ _ _ _ _ _ _ _ (@qk _ _ _ _ _ _ (@Ww _ _ _ _ _ _ _ _ (@qk _ _ _ _ _ _ (@qd _ _ _ _ _ _ _ _ qL (@qd _ _ _ _ _ _ _ _ qL (@qd _ _ _ _ _ _ _ _ qL qF)))) qF)) (@Ww _ _ _ _ _ _ _ _ (@qk _ _ _ _ _ _ (@Ww _ _ _ _ _ _ _ _ (@qk _ _ _ _ _ _ (@qd _ _ _ _ _ _ _ _ qL (@qd _ _ _ _ _ _ _ _ qL (@qd _ _ _ _ _ _ _ _ qL qF)))) qF)) (@qLE _ _ _ _ _ _ _ (@ql _ _ _ _ (@QS _ _ _ _ _ (@Ww _ _ _ _ _ _ _ _ (@qk _ _ _ _ _ _ (@qd _ _ _ _ _ _ _ _ qL (@qd _ _ _ _ _ _ _ _ qL (@qd _ _ _ _ _ _ _ _ qL qF)))) qF))) (@Wz _ _ _ _ _ _ _ _ _ (@qI9 _ _ _ _ _ _ _ qL qL) (@Ww _ _ _ _ _ _ _ _ (@qk _ _ _ _ _ _ (@qd _ _ _ _ _ _ _ _ qL (@qd _ _ _ _ _ _ _ _ qL (@qd _ _ _ _ _ _ _ _ qL qF)))) (@Ww _ _ _ _ _ _ _ _ (@qk _ _ _ _ _ _ (@qd _ _ _ _ _ _ _ _ qL (@qFU _ _ _ _ _ _ _ _ (@yd _ _ _ _ _ qL) (@qd _ _ _ _ _ _ _ _ qL qF)))) (@Ww _ _ _ _ _ _ _ _ (@qk _ _ _ _ _ _ (@Ww _ _ _ _ _ _ _ _ (@qk _ _ _ _ _ _ (@qd _ _ _ _ _ _ _ _ qL (@qd _ _ _ _ _ _ _ _ qL qF))) qF)) (@Ww _ _ _ _ _ _ _ _ (@qk _ _ _ _ _ _ (@qd _ _ _ _ _ _ _ _ qL (@qd _ _ _ _ _ _ _ _ qL (@qd _ _ _ _ _ _ _ _ qL (@qd _ _ _ _ _ _ _ _ qL qF))))) qF)))))))))))) (by rfl) (by first |exact Or.inl rfl |exact Or.inr rfl) (by rfl) (by first |exact .inl rfl |exact .inr rfl |assumption)) (@qO _ _ _ _ (@qi _ _ _ _ _ (@WV _ _ _ _ _ _ _ (qG 1) (@qQ _ _ _ _ _ _ _ _ _ ((qz V).call (hr.mono (by omega)) qX) (@qN _ _ _ _ _ _ _ (qG 0) (@Q9 _ _ _ _ _ _ _ _ _ (@we _ _ _ _ _ _ _ (@qN _ _ _ _ _ _ _ (qG 1) qF) V.n_len (by rfl) (by rfl) (by rfl)) qF)) (by rfl) (by rfl)) (by exact fun _ _=>rfl))))))
theorem sc_law_square:FnScope ["_law_place","_law_length","_law_way","_law_row","_law_column"] ["_law_place","_law_length","_law_way"] (qH wQ):=scm
theorem We (V:Env K mg a):DefG P w K mg base 2 "_law_square" a.law_square 3 (Q5 a):=by
 refine YW V.f_law_square sc_law_square V.m_law_square fun cdv A outer s H E hr hcm hcc => ?_;have hu:=hr.units;have hc:=hcc (by omega)
 exact (qM (Wn (qG 0) (WN hc (qg (qe 3 sc_law_square.nd) (qg (qe 4 sc_law_square.nd) wO)))) (qM (Qe (QE (WZ hu) zq (qG 2) qL) (qO (qi (ql (QD (capN:=(["_law_column","_law_row"])) (locN:=(["_law_k"])) (caps:=([4,3])) (by exact QR rfl (by decide +kernel) rfl rfl ⟨⟨rfl,rfl⟩,⟨⟨rfl,rfl⟩,trivial⟩⟩) (QQ rfl V.n_range (@qN _ _ _ _ _ _ _ (qG 1) qF)) (fun s' H' fp pn=>⟨(qk (@Wz _ _ _ _ _ _ _ _ _ (QP (qG 1) (qG 2)) (@qN _ _ _ _ _ _ _ (qG 0) (@qd _ _ _ _ _ _ _ _ qL qF)))),⟨(QK 2 (show (["_law_column","_law_row","_law_k"]:List Str).Nodup by decide +kernel)),(qb 2),TsOk.nil,rfl⟩,GsOk.nil⟩))))) q5) (qO (qi (ql (QD (capN:=(["_law_row","_law_column"])) (locN:=(["_law_k"])) (caps:=([3,4])) (by exact QR rfl (by decide +kernel) rfl rfl ⟨⟨rfl,rfl⟩,⟨⟨rfl,rfl⟩,trivial⟩⟩) (QQ rfl V.n_range (@qN _ _ _ _ _ _ _ (qG 1) qF)) (fun s' H' fp pn=>⟨(qk (@qN _ _ _ _ _ _ _ (qG 0) (@Wz _ _ _ _ _ _ _ _ _ (QP (qG 1) (qG 2)) (@qd _ _ _ _ _ _ _ _ qL qF)))),⟨(QK 2 (show (["_law_row","_law_column","_law_k"]:List Str).Nodup by decide +kernel)),(qb 2),TsOk.nil,rfl⟩,GsOk.nil⟩)))))))
theorem sc_law_blocks:FnScope ["_law_length","_law_bars","_law_found","_law_row","_law_column","_law_way"] ["_law_length","_law_bars"] (qH wZ):=scm
theorem Z8 (V:Env K mg a):DefG P w K mg base 3 "_law_blocks" a.law_blocks 2 (Wg a):=by
 refine JE V.f_law_blocks sc_law_blocks V.m_law_blocks fun cdv A outer s H E hr hcm hcc => ?_;have hu:=hr.units;have hc:=hcc (by omega)
 exact (qM (qCi 2 sc_law_blocks.nd (QS qF)) (qM (Wr (Qg (qG 1)) (WN hc (qg (qe 3 sc_law_blocks.nd) (qg (qe 4 sc_law_blocks.nd) (qg (qe 5 sc_law_blocks.nd) wO)))) (qO (Qe (QE (WZ hu) zq (ql (QD (capN:=(["_law_bars"])) (locN:=(["_law_bar"])) (caps:=([1])) (by exact QR rfl (by decide +kernel) rfl rfl ⟨⟨rfl,rfl⟩,trivial⟩) (Qg (qQ ((We V).call (hr.mono (by omega)) (qf _)) (@Ww _ _ _ _ _ _ _ _ (qk (@qN _ _ _ _ _ _ _ (qG 3) (@qN _ _ _ _ _ _ _ (qG 4) qF))) (@qN _ _ _ _ _ _ _ (qG 0) (@qN _ _ _ _ _ _ _ (qG 5) qF))))) (fun s' H' fp pn=>⟨(qG 1),⟨(QK 1 (show (["_law_bars","_law_bar"]:List Str).Nodup by decide +kernel)),(qb 1),(TsOk.cons (QE (zF hu) y1 (qG 1) (qG 0)) TsOk.nil),rfl⟩,GsOk.nil⟩))) (ql (QS qF))) (qO (yg (qG 2) (qk (@qN _ _ _ _ _ _ _ (qG 3) (@qN _ _ _ _ _ _ _ (qG 4) (@qN _ _ _ _ _ _ _ (qG 5) qF)))))) q5))) (qO (qi (qG 2)))))
theorem sc_law_swung:FnScope ["_law_length","_law_bars","_law_block","_law_row","_law_column","_law_way","_law_old","_law_new"] ["_law_length","_law_bars","_law_block"] (qH wp):=scm
theorem yy (V:Env K mg a):DefG P w K mg base 3 "_law_swung" a.law_swung 3 (WY a):=by
 refine YW V.f_law_swung sc_law_swung V.m_law_swung fun cdv A outer s H E hr hcm hcc => ?_;have hu:=hr.units;have hc:=hcc (by omega)
 exact (qM (Wn (qG 2) (WN hc (qg (qe 3 sc_law_swung.nd) (qg (qe 4 sc_law_swung.nd) (qg (qe 5 sc_law_swung.nd) wO))))) (qM (qh 6 sc_law_swung.nd (qQ ((We V).call (hr.mono (by omega)) qX) (@Ww _ _ _ _ _ _ _ _ (qk (@qN _ _ _ _ _ _ _ (qG 3) (@qN _ _ _ _ _ _ _ (qG 4) qF))) (@qN _ _ _ _ _ _ _ (qG 0) (@qN _ _ _ _ _ _ _ (qG 5) qF))))) (qM (qh 7 sc_law_swung.nd (qQ ((We V).call (hr.mono (by omega)) qX) (@Ww _ _ _ _ _ _ _ _ (qk (@qN _ _ _ _ _ _ _ (qG 3) (@qN _ _ _ _ _ _ _ (qG 4) qF))) (@qN _ _ _ _ _ _ _ (qG 0) (@Wz _ _ _ _ _ _ _ _ _ (yR qL (qG 5)) qF))))) (qO (qi (wz (@Q9 _ _ _ _ _ _ _ _ _ (zK hu V.n_sorted (ql (W7 (ql (QD (capN:=(["_law_old"])) (locN:=(["_law_bar"])) (caps:=([6])) (by exact QR rfl (by decide +kernel) rfl rfl ⟨⟨rfl,rfl⟩,trivial⟩) (Qg (qG 1)) (fun s' H' fp pn=>⟨(qG 1),⟨(QK 1 (show (["_law_old","_law_bar"]:List Str).Nodup by decide +kernel)),(qb 1),(TsOk.cons (QE (zF hu) y1 (qG 1) (qG 0)) TsOk.nil),rfl⟩,GsOk.nil⟩))) (qG 7)))) qF) V.n_tuple))))))
theorem sc_law_blocky:FnScope ["_law_box_here","_law_length","_law_cells","_law_bars","_law_turn","_law_place","_law_some","_law_more","_law_bar","_law_room"] ["_law_box_here","_law_length"] (qH wP):=scm
theorem J6 (V:Env K mg a):DefG P w K mg base 3 "_law_blocky" a.law_blocky 2 (zZ a):=by refine JE V.f_law_blocky sc_law_blocky V.m_law_blocky fun cdv A outer s H E hr hcm hcc => ?_;have hu:=hr.units;exact (qM (qh 2 sc_law_blocky.nd (ql (QS qF))) (qM (qh 3 sc_law_blocky.nd (ql (QS qF))) (qM (Wr (QQ rfl V.n_range (@Wz _ _ _ _ _ _ _ _ _ (QP qL (qQ ((qz V).call (hr.mono (by omega)) qX) (@qN _ _ _ _ _ _ _ (qG 0) (@qd _ _ _ _ _ _ _ _ qL qF)))) qF)) (qe 4 sc_law_blocky.nd) (qM (qh 5 sc_law_blocky.nd (qk (@Q9 _ _ _ _ _ _ _ _ _ (qQ ((qz V).call (hr.mono (by omega)) (qf _)) (@qN _ _ _ _ _ _ _ (qG 0) (@qd _ _ _ _ _ _ _ _ qL qF))) (@Q9 _ _ _ _ _ _ _ _ _ (qQ ((qz V).call (hr.mono (by omega)) (qf _)) (@qN _ _ _ _ _ _ _ (qG 0) (@qd _ _ _ _ _ _ _ _ qL qF))) qF)))) (qM (qh 6 sc_law_blocky.nd (qQ ((We V).call (hr.mono (by omega)) (qf _)) (@qN _ _ _ _ _ _ _ (qG 5) (@qN _ _ _ _ _ _ _ (qG 1) (@Q9 _ _ _ _ _ _ _ _ _ (qQ ((qz V).call (hr.mono (by omega)) (qf _)) (@qN _ _ _ _ _ _ _ (qG 0) (@qd _ _ _ _ _ _ _ _ qL qF))) qF))))) (qM (Qe (ya (JJ (QE qHz qHn (qG 4) qL) (JP (QE (WZ hu) zq (qQ ((qz V).call (hr.mono (by omega)) (qf _)) (@qN _ _ _ _ _ _ _ (qG 0) (@qd _ _ _ _ _ _ _ _ qL qF))) qL)))) (qO (qh 6 sc_law_blocky.nd (qJ0 (qG 6) zW (zV qL)))) q5) (qM (qh 7 sc_law_blocky.nd (ql (QS qF))) (qM (Wr (Qg (qG 6)) (qe 8 sc_law_blocky.nd) (qO (qh 7 sc_law_blocky.nd (ql (W7 (qG 7) (qQ ((yx V).call (hr.mono (by omega)) (qf _)) (@qN _ _ _ _ _ _ _ (qG 8) (@qN _ _ _ _ _ _ _ (qG 1) qF)))))))) (qM (qh 9 sc_law_blocky.nd (zy (qKn (QP (we (@qN _ _ _ _ _ _ _ (qG 2) qF) V.n_len) (we (@qN _ _ _ _ _ _ _ (qG 7) qF) V.n_len)) qL) (Zk (qCv hu (ql (QD (capN:=(["_law_cells"])) (locN:=(["_law_one"])) (caps:=([2])) (by exact QR rfl (by decide +kernel) rfl rfl ⟨⟨rfl,rfl⟩,trivial⟩) (Qg (qG 7)) (fun s' H' fp pn=>⟨(qG 1),⟨(QK 1 (show (["_law_cells","_law_one"]:List Str).Nodup by decide +kernel)),(qb 1),(TsOk.cons (ya (ZO (QE qHz qHn (qF8 (@qN _ _ _ _ _ _ _ (qG 1) qF) V.n_max) qL) (W6 (QE (qB7 hu) y1 (qG 1) (qG 0))))) TsOk.nil),rfl⟩,GsOk.nil⟩))) (ql (QS qF)))))) (qO (Qe (Q8 (qG 9)) (qM (qh 3 sc_law_blocky.nd (ql (W7 (qG 3) (qG 6)))) (qO (qh 2 sc_law_blocky.nd (ql (W7 (qG 2) (qG 7)))))) q5))))))))) (qO (qi (qk (@Q9 _ _ _ _ _ _ _ _ _ (wz (@Q9 _ _ _ _ _ _ _ _ _ (zK hu V.n_sorted (qG 2)) qF) V.n_tuple) (@Q9 _ _ _ _ _ _ _ _ _ (wz (@Q9 _ _ _ _ _ _ _ _ _ (zK hu V.n_sorted (qG 3)) qF) V.n_tuple) qF))))))))
theorem sc_law_kind:FnScope ["_law_e","_law_kinds","_law_words"] ["_law_e"] (qH WL):=scm
theorem qBs (V:Env K mg a):DefG P w K mg base 1 "_law_kind" a.law_kind 1 (Qx a):=by refine qE1 V.f_law_kind sc_law_kind V.m_law_kind fun cdv A outer s H E hr hcm hcc => ?_;have hu:=hr.units;exact (@qM _ _ _ _ _ _ (@qh _ _ _ _ _ 1 _ _ sc_law_kind.nd (@ql _ _ _ _ (@QS _ _ _ _ _ (@Q9 _ _ _ _ _ _ _ _ _ (Qn V.kit V.n_isinstance (@qN _ _ _ _ _ _ _ (qG 0) (@qN _ _ _ _ _ _ _ (@ZQ _ _ _ _ _ rfl V.k_Z1 (by decide)) qF))) (@Q9 _ _ _ _ _ _ _ _ _ (Qn V.kit V.n_isinstance (@qN _ _ _ _ _ _ _ (qG 0) (@qN _ _ _ _ _ _ _ (@ZQ _ _ _ _ _ rfl V.k_Z2 (by decide)) qF))) (@Q9 _ _ _ _ _ _ _ _ _ (Qn V.kit V.n_isinstance (@qN _ _ _ _ _ _ _ (qG 0) (@qN _ _ _ _ _ _ _ (@ZQ _ _ _ _ _ rfl V.k_Z3 (by decide)) qF))) (@Q9 _ _ _ _ _ _ _ _ _ (Qn V.kit V.n_isinstance (@qN _ _ _ _ _ _ _ (qG 0) (@qN _ _ _ _ _ _ _ (@ZQ _ _ _ _ _ rfl V.k_Z4 (by decide)) qF))) qF)))))) (by rfl) (by first |exact Or.inl rfl |exact Or.inr rfl) (by rfl) (by first |exact .inl rfl |exact .inr rfl |assumption)) (@qM _ _ _ _ _ _ (@qh _ _ _ _ _ 1 _ _ sc_law_kind.nd (@ql _ _ _ _ (@W7 _ _ _ _ _ _ _ (qG 1) (@ql _ _ _ _ (@QS _ _ _ _ _ (@Q9 _ _ _ _ _ _ _ _ _ (Qn V.kit V.n_isinstance (@qN _ _ _ _ _ _ _ (qG 0) (@qN _ _ _ _ _ _ _ (@ZQ _ _ _ _ _ rfl V.k_Z5 (by decide)) qF))) (@Q9 _ _ _ _ _ _ _ _ _ (Qn V.kit V.n_isinstance (@qN _ _ _ _ _ _ _ (qG 0) (@qN _ _ _ _ _ _ _ (@ZQ _ _ _ _ _ rfl V.k_Z6 (by decide)) qF))) (@Q9 _ _ _ _ _ _ _ _ _ (Qn V.kit V.n_isinstance (@qN _ _ _ _ _ _ _ (qG 0) (@qN _ _ _ _ _ _ _ (@ZQ _ _ _ _ _ rfl V.k_Z7 (by decide)) qF))) (@Q9 _ _ _ _ _ _ _ _ _ (Qn V.kit V.n_isinstance (@qN _ _ _ _ _ _ _ (qG 0) (@qN _ _ _ _ _ _ _ (@ZQ _ _ _ _ _ rfl V.k_Z8 (by decide)) qF))) qF)))))))) (by rfl) (by first |exact Or.inl rfl |exact Or.inr rfl) (by rfl) (by first |exact .inl rfl |exact .inr rfl |assumption)) (@qM _ _ _ _ _ _ (@qh _ _ _ _ _ 1 _ _ sc_law_kind.nd (@ql _ _ _ _ (@W7 _ _ _ _ _ _ _ (qG 1) (@ql _ _ _ _ (@QS _ _ _ _ _ (@Q9 _ _ _ _ _ _ _ _ _ (Qn V.kit V.n_isinstance (@qN _ _ _ _ _ _ _ (qG 0) (@qN _ _ _ _ _ _ _ (@ZQ _ _ _ _ _ rfl V.k_Z9 (by decide)) qF))) (@Q9 _ _ _ _ _ _ _ _ _ (Qn V.kit V.n_isinstance (@qN _ _ _ _ _ _ _ (qG 0) (@qN _ _ _ _ _ _ _ (@ZQ _ _ _ _ _ rfl V.k_Z10 (by decide)) qF))) (@Q9 _ _ _ _ _ _ _ _ _ (Qn V.kit V.n_isinstance (@qN _ _ _ _ _ _ _ (qG 0) (@qN _ _ _ _ _ _ _ (@ZQ _ _ _ _ _ rfl V.k_Z11 (by decide)) qF))) qF))))))) (by rfl) (by first |exact Or.inl rfl |exact Or.inr rfl) (by rfl) (by first |exact .inl rfl |exact .inr rfl |assumption)) (@qM _ _ _ _ _ _ (@Qe _ _ _ _ _ _ _ _ _ (@ya _ _ _ _ (@ZO _ _ _ _ _ _ _ _ (@wj _ _ _ _ _ (@Q8 _ _ _ _ (Qn V.kit V.n_isinstance (@qN _ _ _ _ _ _ _ (qG 0) (@qN _ _ _ _ _ _ _ (@ZG _ _ _ _ _ rfl V.n_ValueError Boot.«ValueError» (by decide) (by decide)) qF))) (by intro _;rfl))) (@W6 _ _ _ _ _ (@QE _ _ _ _ _ _ _ _ _ _ (Wa hu) zi (@qFZ _ _ _ _ _ _ _ _ hu (qG 1) WC (by rfl) (by rfl) (by rfl) (by rfl) (by rfl)) qL (by first |exact qBl _ |with_unfolding_all rfl))))) (@qO _ _ _ _ (@qi _ _ _ _ _ Qb)) q5) (@qM _ _ _ _ _ _ (@Qe _ _ _ _ _ _ _ _ _ (@Q8 _ _ _ _ (@WV _ _ _ _ _ _ _ (qG 1) qL (by exact fun _ _=>rfl)) (by intro _;rfl)) (@qO _ _ _ _ qKt) q5) (@qM _ _ _ _ _ _ (@qh _ _ _ _ _ 2 _ _ sc_law_kind.nd (@ql _ _ _ _ (@QS _ _ _ _ _ (@qd _ _ _ _ _ _ _ _ Qb (@qd _ _ _ _ _ _ _ _ Qb (@qd _ _ _ _ _ _ _ _ Qb (@qd _ _ _ _ _ _ _ _ Qb (@qd _ _ _ _ _ _ _ _ Qb (@qd _ _ _ _ _ _ _ _ Qb (@qd _ _ _ _ _ _ _ _ Qb (@qd _ _ _ _ _ _ _ _ Qb (@qd _ _ _ _ _ _ _ _ Qb (@qd _ _ _ _ _ _ _ _ Qb qF)))))))))))) (by rfl) (by first |exact Or.inl rfl |exact Or.inr rfl) (by rfl) (by first |exact .inl rfl |exact .inr rfl |assumption)) (@qO _ _ _ _ (@qi _ _ _ _ _ (@qGb _ _ _ _ _ _ _ Qb (@WV _ _ _ _ _ _ _ (qG 2) (@qEX _ _ _ _ _ _ _ _ hu (qG 1) WC (by rfl) (by rfl) (by rfl) (by rfl) (by rfl)) (by exact fun _ _=>rfl)))))))))))
theorem qDA (V:Env K mg a):∀ C∈QN a,W.mroIn K C (.ref a.Z0)=some true:=by
 intro C hC;unfold QN at hC;rcases AE.mp hC with rfl |hC
 ·exact V.e_Z1
 rcases AE.mp hC with rfl |hC
 ·exact V.e_Z3
 rcases AE.mp hC with rfl |hC
 ·exact V.e_Z7
 cases hC
theorem sc_law_said:FnScope ["_law_way","_law_floor","_law_length","_law_bars","_law_place","_law_found","_law_e"] ["_law_way","_law_floor","_law_length","_law_bars","_law_place"] (qH wg):=scm
theorem WP (V:Env K mg a):DefG P w K mg base 11 "_law_said" a.law_said 5 (QG a):=by
 obtain ⟨fd,F⟩:=V.f_law_said;obtain ⟨_,_,_,o_Z0⟩:=V.o_Z0;refine yG (B:=Yo a) F sc_law_said (F.binds (ps:=["_law_way","_law_floor","_law_length","_law_bars","_law_place"]) fun _ _ _ _ _ _ us hl=>match us,hl with |[_,_,_,_,_],_=>rfl) V.m_law_said (fun l st h=>wS h) (fun cdv A outer s H E hr hcm => ?_) (fun l s0 hl hn=>wF hl);have hu:=hr.units;have hc:(Q7 (CXF P w) P w K mg base ["_law_way","_law_floor","_law_length","_law_bars","_law_place","_law_found","_law_e"] "_law_said" (qH wg) a.law_said cdv A outer s H E).calm=true:=by show A.handled.isNone=true;rw [hcm (by omega)];rfl
 exact (qM (qh 5 sc_law_said.nd Qb) (qM (qIl 6 ⟨rfl,rfl,rfl⟩ hc sc_law_said.nd rfl V.k_Z0 o_Z0 V.b_Z0 (qDA V) (fun pins xe E' hp=>(qO (Qe (QE (WZ hu) zq (qG 0) qL) (qO (qh 5 sc_law_said.nd (qQ ((qBG V).call (hr.mono (by omega)) hp) (@qN _ _ _ _ _ _ _ (qG 1) (@qN _ _ _ _ _ _ _ (qG 2) (@qN _ _ _ _ _ _ _ (qG 3) qF)))))) (qO (Qe (QE (WZ hu) zq (qG 0) qL) (qO (qh 5 sc_law_said.nd (qQ ((qAo V).call (hr.mono (by omega)) hp) (@qN _ _ _ _ _ _ _ (qG 1) (@qN _ _ _ _ _ _ _ (qG 2) (@qN _ _ _ _ _ _ _ (qG 3) (@qN _ _ _ _ _ _ _ (qG 4) qF))))))) (qO (qh 5 sc_law_said.nd (qQ ((qGc V).call (hr.mono (by omega)) hp) (@qN _ _ _ _ _ _ _ (qG 1) (@qN _ _ _ _ _ _ _ (qG 2) (@qN _ _ _ _ _ _ _ (qG 3) (@qN _ _ _ _ _ _ _ (qG 4) qF)))))))))))) (fun ea=>(qO (qh 5 sc_law_said.nd (qQ ((qBs V).call (qHE hr) (qf _)) (@qN _ _ _ _ _ _ _ (qG 6) qF)))))) (qO (qi (qG 5)))))
theorem sc_law_right:FnScope ["_law_floor","_law_length","_law_bars","_law_some","_law_turn","_law_found","_law_block","_law_due","_law_told"] ["_law_floor","_law_length","_law_bars"] (qH wk):=scm
theorem qA8 (V:Env K mg a):DefG P w K mg base 12 "_law_right" a.law_right 3 (ZP a):=by refine YW V.f_law_right sc_law_right V.m_law_right fun cdv A outer s H E hr hcm hcc => ?_;have hu:=hr.units;exact (qM (qh 3 sc_law_right.nd (qQ ((Z8 V).call (hr.mono (by omega)) qX) (@qN _ _ _ _ _ _ _ (qG 1) (@qN _ _ _ _ _ _ _ (qG 2) qF)))) (qM (Wr (QQ rfl V.n_range (@qd _ _ _ _ _ _ _ _ qL qF)) (qe 4 sc_law_right.nd) (qM (qh 5 sc_law_right.nd (qQ ((WP V).call (hr.mono (by omega)) (qf _)) (@qd _ _ _ _ _ _ _ _ qL (@qN _ _ _ _ _ _ _ (qG 0) (@qN _ _ _ _ _ _ _ (qG 1) (@qN _ _ _ _ _ _ _ (qG 2) (@qd _ _ _ _ _ _ _ _ Jc qF))))))) (qM (Qe (ya (ZO (wj (Q8 (Qn V.kit V.n_isinstance (@qN _ _ _ _ _ _ _ (qG 5) (@qN _ _ _ _ _ _ _ (ZG rfl V.n_list Boot.«list») qF))))) (W6 (QE (Wa hu) zi (qG 5) (ql (QD (capN:=([])) (locN:=(["_law_block"])) (caps:=([])) (by exact QR rfl (by decide +kernel) rfl rfl trivial) (Qg (qG 3)) (fun s' H' fp pn=>⟨(yi (qG 0) zW (zV qL)),⟨(QK 0 (show (["_law_block"]:List Str).Nodup by decide +kernel)),(qb 0),TsOk.nil,rfl⟩,GsOk.nil⟩))))))) (qO (qi WC)) q5) (qO (yg (qG 5) (qk (@qd _ _ _ _ _ _ _ _ qL (@qd _ _ _ _ _ _ _ _ qL qF)))))))) (qM (Wr (Qg (qG 3)) (qe 6 sc_law_right.nd) (qM (qh 7 sc_law_right.nd (qQ ((yy V).call (hr.mono (by omega)) (qf _)) (@qN _ _ _ _ _ _ _ (qG 1) (@qN _ _ _ _ _ _ _ (qG 2) (@qN _ _ _ _ _ _ _ (qG 6) qF))))) (qM (Qe (ya (ZO (QE (Wa hu) zi (qQ ((WP V).call (hr.mono (by omega)) (qf _)) (@qd _ _ _ _ _ _ _ _ qL (@qN _ _ _ _ _ _ _ (qG 0) (@qN _ _ _ _ _ _ _ (qG 1) (@qN _ _ _ _ _ _ _ (qG 2) (@qAz _ _ _ _ _ _ _ _ (yi (qG 6) zW (zV qL)) qF)))))) (qG 7)) (W6 (QE (Wa hu) zi (qQ ((qAo V).call (hr.mono (by omega)) (qf _)) (@qN _ _ _ _ _ _ _ (qG 0) (@qN _ _ _ _ _ _ _ (qG 1) (@qN _ _ _ _ _ _ _ (qG 7) (@qAz _ _ _ _ _ _ _ _ (yi (qG 6) zW (zV qL)) qF))))) (qG 2))))) (qO (qi WC)) q5) (qM (qh 8 sc_law_right.nd (qQ ((WP V).call (hr.mono (by omega)) (qf _)) (@qd _ _ _ _ _ _ _ _ qL (@qN _ _ _ _ _ _ _ (qG 0) (@qN _ _ _ _ _ _ _ (qG 1) (@qN _ _ _ _ _ _ _ (qG 2) (@qAz _ _ _ _ _ _ _ _ (yi (qG 6) zW (zV qL)) qF))))))) (qO (Qe (ya (ZO (wj (Q8 (Qn V.kit V.n_isinstance (@qN _ _ _ _ _ _ _ (qG 8) (@qN _ _ _ _ _ _ _ (ZG rfl V.n_bool Boot.«bool») qF))))) (W6 (QE (Wa hu) zi (qG 8) (qCv hu (WV (qG 6) qL) qL))))) (qO (qi WC)) q5)))))) (qO (qi WC)))))
theorem sc_law:FnScope ["_law_script","_law_k","_law_box_here","_law_length","_law_floor","_law_bars","_law_turn","_law_some","_law_odd_here","_law_drawn","_law_place","_law_good","_law_bad"] ["_law_script"] (qH zn):=scm
theorem qJ7 {fd:FuncData} (V:Env K mg a) (F:Fun K "law" "law" zn a.law fd):FnOk P w K mg base (CXF P w) 13 a.law fd ["_law_script"] (spG K 1 (qAf a)):=by
 refine okV F sc_law fun cdv A outer s H E hr hcm=>⟨qHr a,?_,fun l s0 hl hn=>wF hl⟩;have hu:=hr.units;have hc:(Q7 (CXF P w) P w K mg base ["_law_script","_law_k","_law_box_here","_law_length","_law_floor","_law_bars","_law_turn","_law_some","_law_odd_here","_law_drawn","_law_place","_law_good","_law_bad"] "law" (qH zn) a.law cdv A outer s H E).calm=true:=by show A.handled.isNone=true;rw [hcm (by omega)];rfl
 exact (qM (Wr (QQ rfl V.n_range (@Q9 _ _ _ _ _ _ _ _ _ (qGe (@qd _ _ _ _ _ _ _ _ qL (@Q9 _ _ _ _ _ _ _ _ _ (Ja (@Q9 _ _ _ _ _ _ _ _ _ (we (@qN _ _ _ _ _ _ _ (qG 0) qF) V.n_len) (@qd _ _ _ _ _ _ _ _ qL qF)) hc V.n_min) qF)) hc V.n_max) qF)) (qe 1 sc_law.nd) (qM (qh 2 sc_law.nd (qQ ((qDN V).call (hr.mono (by omega)) (qf _)) (@qN _ _ _ _ _ _ _ (qG 0) (@qN _ _ _ _ _ _ _ (qG 1) qF)))) (qM (qh 3 sc_law.nd (QP qL (qQ ((qz V).call (hr.mono (by omega)) (qf _)) (@qN _ _ _ _ _ _ _ (qG 2) (@qd _ _ _ _ _ _ _ _ qL qF))))) (qM (Wn (qQ ((J6 V).call (hr.mono (by omega)) (qf _)) (@qN _ _ _ _ _ _ _ (qG 2) (@qN _ _ _ _ _ _ _ (qG 3) qF))) (WN hc (qg (qe 4 sc_law.nd) (qg (qe 5 sc_law.nd) wO)))) (qM (Qe (QE (WZ hu) zq (qQ ((qz V).call (hr.mono (by omega)) (qf _)) (@qN _ _ _ _ _ _ _ (qG 2) (@qd _ _ _ _ _ _ _ _ qL qF))) qL) (qO (Wn (qQ ((qBM V).call (hr.mono (by omega)) (qf _)) (@qN _ _ _ _ _ _ _ (qG 2) (@qN _ _ _ _ _ _ _ (qG 3) (@Wz _ _ _ _ _ _ _ _ _ (qD3 qL (qG 3)) qF)))) (WN hc (qg (qe 4 sc_law.nd) (qg (qe 5 sc_law.nd) wO))))) q5) (qO (Wr (QQ rfl V.n_range (@qd _ _ _ _ _ _ _ _ qL qF)) (qe 6 sc_law.nd) (qM (Qe (wj (Q8 (qQ ((qA8 V).call (hr.mono (by omega)) (qf _)) (@qN _ _ _ _ _ _ _ (qG 4) (@qN _ _ _ _ _ _ _ (qG 3) (@qN _ _ _ _ _ _ _ (qG 5) qF)))))) (qO (qi WC)) q5) (qM (qh 7 sc_law.nd (qQ ((Z8 V).call (hr.mono (by omega)) (qf _)) (@qN _ _ _ _ _ _ _ (qG 3) (@qN _ _ _ _ _ _ _ (qG 5) qF)))) (qM (qh 8 sc_law.nd (qQ ((qDq V).call (hr.mono (by omega)) (qf _)) (@qN _ _ _ _ _ _ _ (qG 2) qF))) (qM (qh 9 sc_law.nd (qk (@Q9 _ _ _ _ _ _ _ _ _ (qQ ((qz V).call (hr.mono (by omega)) (qf _)) (@qN _ _ _ _ _ _ _ (qG 2) (@qd _ _ _ _ _ _ _ _ qL qF))) (@Q9 _ _ _ _ _ _ _ _ _ (qQ ((qz V).call (hr.mono (by omega)) (qf _)) (@qN _ _ _ _ _ _ _ (qG 2) (@qd _ _ _ _ _ _ _ _ qL qF))) qF)))) (qM (Wr (Qg (ql (QS (@qN _ _ _ _ _ _ _ (qG 9) (@qN _ _ _ _ _ _ _ (qG 8) (@Ww _ _ _ _ _ _ _ _ (qk (@qFU _ _ _ _ _ _ _ _ (yd qL) (@qd _ _ _ _ _ _ _ _ qL qF))) (@Wz _ _ _ _ _ _ _ _ _ (qCp (qG 9) (qk (@qd _ _ _ _ _ _ _ _ qL qF))) (@Q9 _ _ _ _ _ _ _ _ _ (ql (qAd V.n_list (qG 9))) (@Ww _ _ _ _ _ _ _ _ (qk (@qAz _ _ _ _ _ _ _ _ (WV (qG 9) qL) (@qd _ _ _ _ _ _ _ _ WC qF))) (@Ww _ _ _ _ _ _ _ _ (qk (@qd _ _ _ _ _ _ _ _ qL (@qd _ _ _ _ _ _ _ _ qL qF))) qF)))))))))) (qe 10 sc_law.nd) (qM (qh 11 sc_law.nd (zy (Qn V.kit V.n_isinstance (@qN _ _ _ _ _ _ _ (qG 10) (@qN _ _ _ _ _ _ _ (ZG rfl V.n_tuple Boot.«tuple») qF))) (Zk (Zu (@jK _ _ _ _ _ _ _ _ _ (ql (QD (capN:=([])) (locN:=(["_law_one"])) (caps:=([])) (by exact QR rfl (by decide +kernel) rfl rfl trivial) (Qg (qG 10)) (fun s' H' fp pn=>⟨(qQ ((qAs V).call (hr.mono (by omega)) (qf _)) (@qN _ _ _ _ _ _ _ (qG 0) qF)),⟨(QK 0 (show (["_law_one"]:List Str).Nodup by decide +kernel)),(qb 0),TsOk.nil,rfl⟩,GsOk.nil⟩))) qF) V.n_all)))) (qO (Qe (ya (ZO (wj (Q8 (qG 11))) (W6 (QE (zF hu) y1 (qG 10) (ql (QD (capN:=([])) (locN:=(["_law_block"])) (caps:=([])) (by exact QR rfl (by decide +kernel) rfl rfl trivial) (Qg (qG 7)) (fun s' H' fp pn=>⟨(yi (qG 0) zW (zV qL)),⟨(QK 0 (show (["_law_block"]:List Str).Nodup by decide +kernel)),(qb 0),TsOk.nil,rfl⟩,GsOk.nil⟩))))))) (qO (Qe (QE (Wa hu) zi (ql (QD (capN:=(["_law_floor","_law_length","_law_bars","_law_place"])) (locN:=(["_law_way"])) (caps:=([4,3,5,10])) (by exact QR rfl (by decide +kernel) rfl rfl ⟨⟨rfl,rfl⟩,⟨⟨rfl,rfl⟩,⟨⟨rfl,rfl⟩,⟨⟨rfl,rfl⟩,trivial⟩⟩⟩⟩) (Qg (qk (@qd _ _ _ _ _ _ _ _ qL (@qd _ _ _ _ _ _ _ _ qL qF)))) (fun s' H' fp pn=>⟨(qQ ((WP V).call (hr.mono (by omega)) (qf _)) (@qN _ _ _ _ _ _ _ (qG 4) (@qN _ _ _ _ _ _ _ (qG 0) (@qN _ _ _ _ _ _ _ (qG 1) (@qN _ _ _ _ _ _ _ (qG 2) (@qN _ _ _ _ _ _ _ (qG 3) qF)))))),⟨(QK 4 (show (["_law_floor","_law_length","_law_bars","_law_place","_law_way"]:List Str).Nodup by decide +kernel)),(qb 4),TsOk.nil,rfl⟩,GsOk.nil⟩))) (ql (QS (@qd _ _ _ _ _ _ _ _ Qb (@qd _ _ _ _ _ _ _ _ Qb qF))))) (qO (qi WC)) q5)) q5)))) (qM (Wr (Qg (ql (W7 (ql (QS (@Q9 _ _ _ _ _ _ _ _ _ (ql (qAd V.n_list (qG 5))) (@qd _ _ _ _ _ _ _ _ Jc (@Wz _ _ _ _ _ _ _ _ _ (qCp (qG 5) (qk (@Ww _ _ _ _ _ _ _ _ (qk (@qd _ _ _ _ _ _ _ _ qL (@qd _ _ _ _ _ _ _ _ qL (@qd _ _ _ _ _ _ _ _ qL qF)))) qF))) qF))))) (ql (qBL (QS (@qAz _ _ _ _ _ _ _ _ (yi (qG 5) (zV qL) zW) qF)) (qHP (@qLQ _ _ _ _ _ _ _ _ _ (qKQ hu (qG 5) (qk qF)) qF) V.n_int)))))) (qe 12 sc_law.nd) (qO (Qe (QE (Wa hu) zi (ql (QD (capN:=(["_law_floor","_law_length","_law_bad","_law_odd_here"])) (locN:=(["_law_way"])) (caps:=([4,3,12,8])) (by exact QR rfl (by decide +kernel) rfl rfl ⟨⟨rfl,rfl⟩,⟨⟨rfl,rfl⟩,⟨⟨rfl,rfl⟩,⟨⟨rfl,rfl⟩,trivial⟩⟩⟩⟩) (QQ rfl V.n_range (@qd _ _ _ _ _ _ _ _ qL qF)) (fun s' H' fp pn=>⟨(qQ ((WP V).call (hr.mono (by omega)) (qf _)) (@qN _ _ _ _ _ _ _ (qG 4) (@qN _ _ _ _ _ _ _ (qG 0) (@qN _ _ _ _ _ _ _ (qG 1) (@qN _ _ _ _ _ _ _ (qG 2) (@qN _ _ _ _ _ _ _ (qG 3) qF)))))),⟨(QK 4 (show (["_law_floor","_law_length","_law_bad","_law_odd_here","_law_way"]:List Str).Nodup by decide +kernel)),(qb 4),TsOk.nil,rfl⟩,GsOk.nil⟩))) (ql (qBL (QS (@qd _ _ _ _ _ _ _ _ Qb qF)) qL))) (qO (qi WC)) q5))) (qM (Qe (QE (Wa hu) zi (ql (QD (capN:=(["_law_floor","_law_odd_here"])) (locN:=(["_law_way"])) (caps:=([4,8])) (by exact QR rfl (by decide +kernel) rfl rfl ⟨⟨rfl,rfl⟩,⟨⟨rfl,rfl⟩,trivial⟩⟩) (QQ rfl V.n_range (@qd _ _ _ _ _ _ _ _ qL qF)) (fun s' H' fp pn=>⟨(qQ ((WP V).call (hr.mono (by omega)) (qf _)) (@qN _ _ _ _ _ _ _ (qG 2) (@qN _ _ _ _ _ _ _ (qG 0) (@qd _ _ _ _ _ _ _ _ qL (@qd _ _ _ _ _ _ _ _ Jc (@qN _ _ _ _ _ _ _ (qG 1) qF)))))),⟨(QK 2 (show (["_law_floor","_law_odd_here","_law_way"]:List Str).Nodup by decide +kernel)),(qb 2),TsOk.nil,rfl⟩,GsOk.nil⟩))) (ql (qBL (QS (@qd _ _ _ _ _ _ _ _ Qb qF)) qL))) (qO (qi WC)) q5) (qO (Qe (QE (Wa hu) zi (qG 7) (ql (QS qF))) (qO (qh 5 sc_law.nd (qQ ((yy V).call (hr.mono (by omega)) (qf _)) (@qN _ _ _ _ _ _ _ (qG 3) (@qN _ _ _ _ _ _ _ (qG 5) (@qAz _ _ _ _ _ _ _ _ (WV (qG 7) (qQ ((qz V).call (hr.mono (by omega)) (qf _)) (@qN _ _ _ _ _ _ _ (qG 2) (@Q9 _ _ _ _ _ _ _ _ _ (we (@qN _ _ _ _ _ _ _ (qG 7) qF) V.n_len) qF)))) qF)))))) q5)))))))))))))))) (qO (qi WC)))
end
end K61
end
section
namespace EV
open PySem L2 EX
theorem wl {G:qC->Prop} {k:PV->qC->Rs (List PV)} {st:qC} (hG:G st) {F:PV->List PV}:∀ {l:List PV},(∀ p∈l,k p st = .ok (F p) st)->QI G k l st = .ok (l.flatMap F) st
 |[],_=>by unfold QI;rw [AH hG];rfl
 |p::l,h=>by unfold QI;rw [AH hG,h p AI];show (QI G k l st).bind _=_;rw [wl hG fun q hq=>h q (AD _ hq)];rfl
theorem yq {F:PV->PV}:∀ l:List PV,l.flatMap (fun p=>[F p])=l.map F
 |[]=>rfl
 |p::l=>by rw [List.flatMap_cons,yq l];rfl
theorem zz {c:PV->Bool}:∀ l:List PV,l.flatMap (fun p=>if c p=true then [p] else [])=l.filter c
 |[]=>rfl
 |p::l=>by rw [List.flatMap_cons,zz l,BY];cases c p <;> rfl
theorem QY {caps:List Nat} {n:Nat} {fi:FI} {g:FG} {f:FE} {r:qv} {st:qC} {w:ItP} {F:PV->PV} (hfi:fi r st = .ok w st) (hG:w.G st) (hl:w.l.length≤sizeLine)
  (h:∀ p∈w.l,∃ r',g p (Wd caps n r)=some r'∧f r' st = .ok (F p) st):qx caps n fi g [] [] f r st = .ok (w.l.map F) st:=by
 unfold qx;rw [hfi];show (match QI w.G (Qk ⟨fi,g,[]⟩ (wB [] f) (Wd caps n r)) w.l st with | .ok l s'=>if l.length≤sizeLine then Rs.ok l s' else Rs.no |_=>Rs.no)=_;rw [wl (F:=fun p=>[F p]) hG fun p hp=>by
  obtain ⟨r',h1,h2⟩:=h p hp;unfold Qk;show (match g p (Wd caps n r) with |none=>_ |some r'=>_)=_;rw [h1];show (wB [] f) r' st=_;unfold wB;rw [h2];rfl]
 rw [yq];dsimp only;rw [AH (by rw [AC];exact hl)]
theorem zN {caps:List Nat} {n:Nat} {fi:FI} {g:FG} {t:FT} {f:FE} {r:qv} {st:qC} {w:ItP} {c:PV->Bool} (hfi:fi r st = .ok w st) (hG:w.G st) (hl:w.l.length≤sizeLine)
  (h:∀ p∈w.l,∃ r',g p (Wd caps n r)=some r'∧t r' st = .ok (c p) st∧f r' st = .ok p st):qx caps n fi g [t] [] f r st = .ok (w.l.filter c) st:=by
 unfold qx;rw [hfi];show (match QI w.G (Qk ⟨fi,g,[t]⟩ (wB [] f) (Wd caps n r)) w.l st with | .ok l s'=>if l.length≤sizeLine then Rs.ok l s' else Rs.no |_=>Rs.no)=_;rw [wl (F:=fun p=>if c p=true then [p] else []) hG fun p hp=>by
  obtain ⟨r',h1,h2,h3⟩:=h p hp;unfold Qk;show (match g p (Wd caps n r) with |none=>_ |some r'=>_)=_;rw [h1];show (wc [t] r' st).bind _=_;unfold wc wc;rw [h2];cases hc:c p
  ·rfl
  ·show (wB [] f) r' st=_;unfold wB;rw [h3];rfl]
 rw [zz];dsimp only;rw [AH (Ae (BE _ _) hl)]
theorem qDI {G:qC->Prop} {g:FG} {F:FS} {r:qv} {st:qC} (h:G st):Qz G g F [] r st = .nx r st:=by unfold Qz;rw [AH h]
theorem qBU {G:qC->Prop} {g:FG} {F:FS} {r r1 r2:qv} {st s2:qC} {p:PV} {ps:List PV} (h:G st) (h1:g p r=some r1) (h2:F r1 st = .nx r2 s2):Qz G g F (p::ps) r st=Qz G g F ps r2 s2:=by rw [Qz,AH h,h1];dsimp only;rw [h2]
section
variable {F G:FS} {f:FE} {fl:FL} {fi:FI} {g:FG} {t:FT} {r r':qv} {st st':qC} {p:PV} {l:List PV} {w:ItP} {i:Nat}
theorem qJu (h:F r st = .nx r' st'):qT F G r st=G r' st':=by unfold qT;rw [h]
theorem qIB (h:F r st = .rt p st'):qT F G r st = .rt p st':=by unfold qT;rw [h]
theorem qJp {x:Exc} (h:F r st = .ex x st'):qT F G r st = .ex x st':=by unfold qT;rw [h]
theorem qIA {x:Exc} (h:f r st = .ex x st'):WD f r st = .ex x st':=by unfold WD;rw [h];rfl
theorem qGr {x:Exc} {n N:Nat} {B:FS} (hl:l.length=n) (h:B (Qh N l) st = .ex x st'):qo n N B l st = .ex x st':=by unfold qo;rw [AH hl,h];rfl
theorem qI1 (h:f r st = .ok p st'):WD f r st = .nx r st':=by unfold WD;rw [h];rfl
theorem qIv (h:f r st = .ok p st'):qj i f r st = .nx (r.set i (some p)) st':=by unfold qj;rw [h];rfl
theorem qHU (h:fl r st = .ok l st'):Zp i fl r st = .nx (r.set i (some (.ref st'.length))) (st'++[.l l]):=by unfold Zp;rw [h];rfl
theorem qCA (h:f r st = .ok p st'):qt f r st = .rt p st':=by unfold qt;rw [h];rfl
theorem qHL (h:fl r st = .ok l st'):Zm fl r st = .rt (.ref st'.length) (st'++[.l l]):=by unfold Zm;rw [h];rfl
theorem qJK (h:fi r st = .ok w st'):Wt fi g F r st=Qz w.G g F w.l r st':=by unfold Wt;rw [h];rfl
theorem qLX (h:t r st = .ok true st'):Qm t F G r st=F r st':=by unfold Qm;rw [h];rfl
theorem qLy (h:t r st = .ok false st'):Qm t F G r st=G r st':=by unfold Qm;rw [h];rfl
theorem qKx (h:fl r st = .ok l st'):vFz fl r st = .ok (.lst l) st':=by unfold vFz;rw [h];rfl
theorem Zc {k:List PV->qC->Rs PV} {fa:FA} (h:fa r st = .ok l st'):qI k fa r st=k l st':=by unfold qI;rw [h];rfl
theorem qGy {fa:FA} {st2:qC} (h:f r st = .ok p st') (h2:fa r st' = .ok l st2):qA f fa r st = .ok (p::l) st2:=by unfold qA;rw [h];show (fa r st').bind _=_;rw [h2];rfl
theorem JT {k:PV->PV->qC->Rs PV} {fb:FE} {q:PV} {st2:qC} (h:f r st = .ok p st') (h2:fb r st' = .ok q st2):qP k f fb r st=k p q st2:=by unfold qP;rw [h];show (fb r st').bind _=_;rw [h2];rfl
theorem qDJ {b:Bool} (h:f r st = .ok (.bl b) st'):QL f r st = .ok b st':=by unfold QL;rw [h];rfl
theorem qJB {b:Bool} (h:t r st = .ok b st'):wb t r st = .ok (!b) st':=by unfold wb;rw [h];rfl
theorem qK0 {b:Bool} (h:f r st = .ok (.bl b) st'):vTB f r st = .ok b st':=by unfold vTB;rw [h];rfl
theorem Jk {n N:Nat} {B:FS} (hl:l.length=n) (h:B (Qh N l) st = .rt p st'):qo n N B l st = .ok p st':=by unfold qo;rw [AH hl,h];rfl
end
section
variable {F G:FS} {f fb fo fi2:FE} {fl:FL} {fi:FI} {fa:FA} {g:FG} {t u:FT} {r r1 r':qv} {st s1 s2 s3:qC} {p q z:PV} {l m:List PV} {w:ItP} {i:Nat} {b c:Bool} {x:Exc} {o:RS} {R:Rs PV}
theorem qS {k:PV->PV->qC->Rs PV} (h:f r st = .ok p s1) (h2:fb r s1 = .ok q s2) (h3:k p q s2=R):qP k f fb r st=R:=by rw [JT h h2];exact h3
theorem qK {k:List PV->qC->Rs PV} (h:fa r st = .ok l s1) (h2:k l s1=R):qI k fa r st=R:=by rw [Zc h];exact h2
theorem qZ:qD r st = .ok [] st:=rfl
theorem qJ (h:f r st = .ok p s1) (h2:fa r s1 = .ok l s2):qA f fa r st = .ok (p::l) s2:=qGy h h2
theorem Wc (h:fa r st = .ok l s1) (hl:l.length≤sizeLine):qy fa r st = .ok (.tup l) s1:=by unfold qy;rw [h];exact AH hl
theorem ZA (h:fa r st = .ok l s1) (hl:l.length≤sizeLine):Qy fa r st = .ok l s1:=by unfold Qy;rw [h];exact AH hl
theorem Q0 (h:fl r st = .ok l s1):vFz fl r st = .ok (.lst l) s1:=qKx h
theorem Zj (h:f r st = .ok p s1) (h2:fb r s1 = .ok q s2) (e1:asL s2 p=some l) (e2:asL s2 q=some m) (hl:l.length + m.length≤sizeLine):zP f fb r st = .ok (l++m) s2:=by unfold zP;rw [h];show (fb r s1).bind _=_;rw [h2];show (match asL s2 p with |some l=>_ |none=>_)=_;rw [e1];dsimp only;rw [e2];dsimp only;rw [AH hl]
theorem QC (h:f r st = .ok (.bl b) s1):QL f r st = .ok b s1:=qDJ h
theorem Qo (h:f r st = .ok (.bl b) s1):vTB f r st = .ok b s1:=qK0 h
theorem w_not (h:t r st = .ok b s1):wb t r st = .ok (!b) s1:=qJB h
theorem Zr (h:t r st = .ok true s1):zr t u r st = .ok true s1:=by unfold zr;rw [h];rfl
theorem wG (h:t r st = .ok false s1) (h2:u r s1 = .ok b s2):zr t u r st = .ok b s2:=by unfold zr;rw [h];exact h2
theorem Jx (h:t r st = .ok false s1):zk t u r st = .ok false s1:=by unfold zk;rw [h];rfl
theorem yK (h:t r st = .ok true s1) (h2:u r s1 = .ok b s2):zk t u r st = .ok b s2:=by unfold zk;rw [h];exact h2
theorem qR (h:F r st = .nx r' s1) (h2:G r' s1=o):qT F G r st=o:=by rw [qJu h];exact h2
theorem Q2 (h:F r st = .rt p s1):qT F G r st = .rt p s1:=qIB h
theorem ZS (h:F r st = .ex x s1):qT F G r st = .ex x s1:=qJp h
theorem qr (h:f r st = .ok p s1):qj i f r st = .nx (r.set i (some p)) s1:=qIv h
theorem qEu (h:fl r st = .ok l s1):Zp i fl r st = .nx (r.set i (some (.ref s1.length))) (s1++[.l l]):=qHU h
theorem yU (h:f r st = .ok p s1):WD f r st = .nx r s1:=qI1 h
theorem zI (h:f r st = .ex x s1):WD f r st = .ex x s1:=qIA h
theorem QB (h:f r st = .ok p s1):qt f r st = .rt p s1:=qCA h
theorem qEn (h:f r st = .ex x s1):qt f r st = .ex x s1:=by unfold qt;rw [h];rfl
theorem qBd (h:fl r st = .ok l s1):Zm fl r st = .rt (.ref s1.length) (s1++[.l l]):=qHL h
theorem QO (h:t r st = .ok true s1) (h2:F r s1=o):Qm t F G r st=o:=by rw [qLX h];exact h2
theorem QA (h:t r st = .ok false s1) (h2:G r s1=o):Qm t F G r st=o:=by rw [qLy h];exact h2
theorem qGU (h:t r st = .ok true s1) (h2:f r s1=R):vIf t f fb r st=R:=by unfold vIf;rw [h];exact h2
theorem qF7 (h:t r st = .ok false s1) (h2:fb r s1=R):vIf t f fb r st=R:=by unfold vIf;rw [h];exact h2
theorem ZM (h:fi r st = .ok w s1) (h2:Qz w.G g F w.l r s1=o):Wt fi g F r st=o:=by rw [qJK h];exact h2
theorem Qi {Gd:qC->Prop} (h:Gd st):Qz Gd g F [] r st = .nx r st:=qDI h
theorem wf {Gd:qC->Prop} {ps:List PV} (h:Gd st) (h1:g p r=some r1) (h2:F r1 st = .nx r' s2) (h3:Qz Gd g F ps r' s2=o):Qz Gd g F (p::ps) r st=o:=by rw [qBU h h1 h2];exact h3
theorem zB {r1:qv} (h:f r st = .ok p s1) (h2:g p r=some r1):Wx f g r st = .nx r1 s1:=by unfold Wx;rw [h];show (match g p r with |some r'=>RS.nx r' s1 |none=>RS.no)=_;rw [h2]
theorem qKw {j:Nat} (h:fa r st = .ok [p,q] s1):qCz i j fa r st = .nx ((r.set i (some p)).set j (some q)) s1:=by unfold qCz;rw [h];rfl
theorem qJ9 (h:f r st = .ok p s1) (h2:fo r s1 = .ok q s2) (h3:fi2 r s2 = .ok z s3) {s4:qC} (h4:je s3 q z p=some s4):qCO fo fi2 f r st = .nx r s4:=by unfold qCO;rw [h];show (fo r s1).bindS _=_;rw [h2];show (fi2 r s2).bindS _=_;rw [h3];show (match je s3 q z p with |some s4=>RS.nx r s4 |none=>RS.no)=_;rw [h4]
theorem qm {n N:Nat} {B:FS} (hl:l.length=n) (h:B (Qh N l) st = .rt p s1):qo n N B l st = .ok p s1:=Jk hl h
theorem jq {n N:Nat} {B:FS} (hl:l.length=n) (h:B (Qh N l) st = .nx r1 s1):qo n N B l st = .ok .non s1:=by unfold qo;rw [AH hl,h];rfl
theorem wD {n N:Nat} {B:FS} (hl:l.length=n) (h:B (Qh N l) st = .ex x s1):qo n N B l st = .ex x s1:=qGr hl h
theorem sz {n:Nat} (h:Nat.ble n 1000=true):n≤sizeLine:=Ae (CG h) (by decide)
theorem Ye {i j:Int} (h:-(2 ^ 64) < i∧i < 2 ^ 64):zt (.int i) (.int j) st = .ok (.int (i * j)) st:=by unfold zt gI;dsimp only;rw [AH (.inl h)]
theorem qB4 {i j:Int} (h:-(2 ^ 64) < j∧j < 2 ^ 64):zt (.int i) (.int j) st = .ok (.int (i * j)) st:=by unfold zt gI;dsimp only;rw [AH (.inr h)]
theorem qD6 {i j:Int} (h:0 < j):qBW (.int i) (.int j) st = .ok (.int (i % j)) st:=by unfold qBW gI;dsimp only;rw [AH h]
theorem qHj {i j:Int} (h:0 < j∧j < 1073741824):qDl (.int i) (.int j) st = .ok (.int (i / j)) st:=by unfold qDl gI;dsimp only;rw [AH h]
theorem qFI {i j:Int} (h:0 < j∧j < 1073741824):yE [.int i,.int j] st = .ok (.tup [.int (i / j),.int (i % j)]) st:=by unfold yE;dsimp only;rw [AH h]
theorem WH {i j:Int}:QV (.int i) (.int j) st = .ok (.int (i + j)) st:=rfl
theorem qBp {i j:Int}:yS (.int i) (.int j) st = .ok (.int (i - j)) st:=rfl
theorem w_lt {i j:Int}:gLt (.int i) (.int j) st = .ok (.bl (decide (i < j))) st:=rfl
theorem qKc {i j:Int}:gGt (.int i) (.int j) st = .ok (.bl (decide (i > j))) st:=rfl
theorem qFj {i:Int} (h:Wy st p=some l) (h2:atI l i=some z):gIx p (.int i) st = .ok z st:=by unfold gIx;simp only [h,h2]
theorem zh (h:Wy st p=some l) {n:Int} (hn:(l.length:Int)=n):w4 [p] st = .ok (.int n) st:=by unfold w4;simp only [h];rw [hn]
theorem Yz {n:Nat} (h:st[n]? = some (.l l)):Wy st (.ref n)=some l:=by unfold Wy asL;simp only [h]
theorem qJM {n:Nat} (h:st[n]? = some (.l l)):asL st (.ref n)=some l:=by unfold asL;simp only [h]
theorem zp {n:Nat} (h:r[n]? = some (some p)):qB n r st = .ok p st:=by unfold qB;rw [h]
theorem qE2 {k:Int} (h:fl r st = .ok l s1) (h2:f r s1 = .ok (.int k) s2) (h0:0≤k) (h1:l.length * k.toNat≤sizeLine) (hk:k < 2 ^ 63):JG fl f r st = .ok (List.replicate k.toNat l).flatten s2:=by unfold JG;rw [h];show (f r s1).bind _=_;rw [h2];show (if -(2 ^ 63)≤k∧k < 2 ^ 63∧l.length * k.toNat≤sizeLine then Rs.ok (List.replicate k.toNat l).flatten s2 else Rs.no)=_;rw [AH ⟨by omega,hk,h1⟩]
theorem Y7 {n:Nat} (h:fo r st = .ok (.ref n) s1) (hk:lk s1 (.ref n)=true) (h2:f r s1 = .ok p s2) (h3:s2[n]? = some (.l l)) (hl:l.length < sizeLine):WW fo f r st = .nx r (s2.set n (.l (l++[p]))):=by unfold WW;rw [h];show (if lk s1 (.ref n)=true then (f r s1).bindS _ else RS.no)=_;rw [AH hk,h2];show (match s2[n]? with |some (.l xs)=>if xs.length < sizeLine then RS.nx r (s2.set n (.l (xs++[p]))) else .no |_ => .no)=_;rw [h3];exact AH hl
theorem JX {n:Nat} {k:Int} (h0:0≤k) (h1:k < n):ixN n k=some k.toNat:=by unfold ixN;rw [AH h0,AH (by omega)]
theorem yz {Gd:qC->Prop} {k:PV->qC->Rs (List PV)} (h:Gd st):QI Gd k [] st = .ok [] st:=by unfold QI;exact AH h
theorem yF {Gd:qC->Prop} {k:PV->qC->Rs (List PV)} {ps:List PV} (hG:Gd st) (h:k p st = .ok l s1) (h2:QI Gd k ps s1 = .ok m s2):QI Gd k (p::ps) st = .ok (l++m) s2:=by rw [QI,AH hG,h];show (QI Gd k ps s1).bind _=_;rw [h2];rfl
theorem yk (h:g p r=some r') (hf:f r' st = .ok q s1):Qk ⟨fi,g,[]⟩ (wB [] f) r p st = .ok [q] s1:=by unfold Qk;show (match g p r with |none=>_ |some r'=>_)=_;rw [h];show (wB [] f) r' st=_;unfold wB;rw [hf];rfl
theorem Jg {caps:List Nat} {n:Nat} {ts:List FT} {gs:List GenF} (hfi:fi r st = .ok w s1) (h:QI w.G (Qk ⟨fi,g,ts⟩ (wB gs f) (Wd caps n r)) w.l s1 = .ok l s2) (hl:l.length≤sizeLine):qx caps n fi g ts gs f r st = .ok l s2:=by unfold qx;rw [hfi];show (match QI w.G (Qk ⟨fi,g,ts⟩ (wB gs f) (Wd caps n r)) w.l s1 with | .ok l s'=>if l.length≤sizeLine then Rs.ok l s' else Rs.no |_=>Rs.no)=_;rw [h];exact AH hl
theorem zc (h:Wy st p=some l):w9 [p] st = .ok (.tup l) st:=by unfold w9;simp only [h]
theorem wK (h:f r st = .ok (.lst l) s1):qq f r st = .ok ⟨l,fun _=>True⟩ s1:=by unfold qq;rw [h];rfl
theorem Qj (h:f r st = .ok (.tup l) s1):qq f r st = .ok ⟨l,fun _=>True⟩ s1:=by unfold qq;rw [h];rfl
end
abbrev CE:=qv->Option PV
section
variable {F G:FS} {f fb fc fo fi2:FE} {fl:FL} {fi:FI} {fa:FL} {g:FG} {t u:FT} {c d e:CE} {co cp:CO} {f1 f2:FO} {r r':qv} {st s1 s2 s3:qC} {p q z:PV} {l:List PV} {n:Nat} {o:RS}
theorem Yf (h:f r st = .ok (.ref n) s1) (h2:s1[n]? = some (.l l)):qq f r st = .ok ⟨l,fun s=>s[n]? = some (.l l)⟩ s1:=by unfold qq;rw [h];show qG1 (.ref n) s1=_;unfold qG1;dsimp only;rw [qJM h2]
theorem qGT (h:st[n]? = some (.l l)):lk st (.ref n)=true:=by unfold lk;dsimp only;rw [h]
end
end EV
end
section
namespace EV
open PySem ET
abbrev qc:=Int×Int
def cP (c:qc):PV := .tup [.int c.1,.int c.2]
def cL (c:qc):List Int:=[c.1,c.2]
def lC:List Int->qc
 |[x,y]=>(x,y)
 |_=>(0,0)
theorem qAq:∀ l:List qc,nrs (l.map cP)=true
 |[]=>rfl
 |c::l=>by rw [Aj,nrs,qAq l];rfl
theorem YY:∀ l:List qc,deps (l.map cP)≤1
 |[]=>A7 _
 |c::l=>by
  rw [Aj,deps]
  have:=YY l
  have h:dep (cP c)=1:=rfl;omega
theorem qHg (a b:qc):peq (cP a) (cP b)=decide (a=b):=by
 obtain ⟨a1,a2⟩:=a;obtain ⟨b1,b2⟩:=b;show ((a1==b1)&&((a2==b2)&&true))=_;rw [Bf];by_cases h1:a1=b1
 ·by_cases h2:a2=b2
  ·subst h1;subst h2;simp
  ·rw [AB.mpr h2,BK];exact (AV (by simp [h2])).symm
 ·rw [AB.mpr h1,CF];exact (AV (by simp [h1])).symm
theorem qHm (c:qc):∀ l:List qc,pin (cP c) (l.map cP)=decide (c∈l)
 |[]=>rfl
 |d::l=>by
  rw [Aj,pin,qHg,qHm c l];by_cases h:d=c
  ·subst h;rw [AQ rfl,Bool.true_or];exact (AQ AI).symm
  ·rw [AV h,Bool.false_or];refine Bl.mpr ⟨fun q=>AD _ q,fun q => ?_⟩;rcases AE.mp q with z |z
   ·exact absurd z.symm h
   ·exact z
theorem qDR {neg:Bool} {c:qc} {l:List qc} {q:PV} {st:qC} (h:Wy st q=some (l.map cP)):gIn neg (cP c) q st = .ok (.bl (if neg then !decide (c∈l) else decide (c∈l))) st:=by
 unfold gIn;rw [h];dsimp only;rw [AH ⟨qAq l,rfl,Ae (YY l) (by decide)⟩]
 show Rs.ok (PV.bl (if neg then !pin (cP c) (l.map cP) else pin (cP c) (l.map cP))) st=_;rw [qHm]
theorem eq_nil {l:List qc} {st:qC}:gEq (.lst (l.map cP)) (.lst []) st = .ok (.bl l.isEmpty) st:=by
 have h1:zd (.lst (l.map cP)) (.lst [])=true:=by show (nrs (l.map cP)&&true&&decide (deps (l.map cP) + 1≤zg))=true;rw [qAq,AQ (Ae (B5 (YY l)) (by decide))];rfl
 show (if zd (.lst (l.map cP)) (.lst [])=true then Rs.ok (PV.bl (peq (PV.lst (l.map cP)) (PV.lst []))) st else Rs.no)=_;rw [AH h1];cases l <;> rfl
theorem qJq (c:qc):Zy (cP c)=some (cL c):=rfl
theorem J5:∀ l:List qc,Q3 Zy (l.map cP)=some (l.map cL)
 |[]=>rfl
 |c::l=>by rw [Aj,Q3,qJq];dsimp only;rw [J5 l];rfl
theorem qCR:∀ (vs acc:List (List Int)) (x:List Int),x∈vs.foldl jH acc ↔ x∈acc∨x∈vs
 |[],acc,x=>by simp
 |k::vs,acc,x=>by
  rw [List.foldl_cons,qCR vs _ x];unfold jH;split
  ·rename_i q;constructor
   ·rintro (h |h)
    ·exact .inl h
    ·exact .inr (AD _ h)
   ·rintro (h |h)
    ·exact .inl h
    ·rcases AE.mp h with rfl |h
     ·exact .inl q
     ·exact .inr h
  ·simp only [An,AE,Ag,B8];constructor
   ·rintro ((h |h) |h)
    ·exact .inl h
    ·exact .inr (.inl h)
    ·exact .inr (.inr h)
   ·rintro (h |h |h)
    ·exact .inl (.inl h)
    ·exact .inl (.inr h)
    ·exact .inr h
def yZ (l:List qc):List qc:=(srt (l.map cL)).map lC
theorem qCI (c:qc):lC (cL c)=c:=rfl
theorem qJo {l:List (List Int)} {m:List qc} (h:∀ x∈l,x∈m.map cL):l.map YC=(l.map lC).map cP:=by rw [Au];refine A6 fun x hx => ?_;obtain ⟨c,_,rfl⟩:=AW.mp (h x hx);rfl
theorem qHa (l:List qc):(srt (l.map cL)).map YC=(yZ l).map cP:=qJo fun x hx=>(wL _).mem_iff.mp hx
theorem ddT_in {l:List qc} {x:List Int}:x∈ddT (l.map cL) ↔ x∈l.map cL:=by unfold ddT;rw [qCR];simp
theorem mem_cL {l:List qc} {c:qc}:cL c∈l.map cL ↔ c∈l:=by
 rw [AW];constructor
 ·rintro ⟨d,hd,e⟩
  have:d=c:=by rw [← qCI d,e,qCI]
  rw [← this];exact hd
 ·intro h;exact ⟨c,h,rfl⟩
theorem mem_srtC {l:List qc} {c:qc}:c∈yZ l ↔ c∈l:=by
 unfold yZ;rw [AW];constructor
 ·rintro ⟨x,hx,rfl⟩
  obtain ⟨d,hd,rfl⟩:=AW.mp ((wL _).mem_iff.mp hx);exact hd
 ·intro h;exact ⟨cL c,(wL _).mem_iff.mpr (mem_cL.mpr h),rfl⟩
theorem qEQ (l:List qc):(yZ l).length=l.length:=by unfold yZ;rw [AC,(wL _).length_eq,AC]
theorem qGz (l:List qc):(ddT (l.map cL)).length≤l.length:=by
 have:=YQ (l.map cL) []
 have z:([]:List (List Int)).length=0:=rfl;rw [AC] at this;unfold ddT;omega
def clt (a b:qc):Prop:=a.1 < b.1∨(a.1=b.1∧a.2 < b.2)
instance (a b:qc):Decidable (clt a b):=by unfold clt;infer_instance
theorem qER {l:List qc} {q:PV} {st:qC} (h:Wy st q=some (l.map cP)) (hl:l.length≤63):Zq q st = .ok (.lst ((yZ l).map cP)) st:=by unfold Zq;rw [h];dsimp only;rw [J5];dsimp only;rw [AH (by rw [AC];omega),qHa]
theorem qIY {l:List qc} {q:PV} {st:qC} (h:Wy st q=some (l.map cP)) (hl:l.length≤299):Y1 q st = .ok (.int (ddT (l.map cL)).length) st:=by unfold Y1;rw [h];dsimp only;rw [J5];dsimp only;rw [AH (by rw [AC];omega)]
section
variable {F G:FS} {f fb fo fi2:FE} {fl:FL} {fi:FI} {fa:FA} {g:FG} {t u:FT} {r r1 r':qv} {st s1 s2 s3 s4:qC} {p q z:PV} {l m:List PV} {w:ItP} {n:Nat}
theorem Yy (h:f r st = .ok p s1) {R:Rs PV} (h2:Zq p s1=R):zA f r st=R:=by unfold zA;rw [h];exact h2
theorem qIj (h:f r st = .ok p s1) {R:Rs PV} (h2:Y1 p s1=R):Yw f r st=R:=by unfold Yw;rw [h];exact h2
theorem qK5 {a b:Option Int} {f1 f2:FO} (h:f r st = .ok p s1) (h1:f1 r s1 = .ok a s2) (h2:f2 r s2 = .ok b s3) (h3:asL s3 p=some l):qFB f f1 f2 r st = .ok (.lst (ZT l a b)) s3:=by unfold qFB;rw [h];show (f1 r s1).bind _=_;rw [h1];show (f2 r s2).bind _=_;rw [h2];show (match asL s3 p with |some l=>_ |none=>_)=_;rw [h3]
theorem Yn {i k:Nat} {cs:List Addr} {Fb Fh:FS} (h:Fb r st = .nx r1 s1):Y2 i k cs Fb Fh r st = .nx r1 s1:=by unfold Y2;rw [h]
theorem yc {i k:Nat} {cs:List Addr} {Fb Fh:FS} {x:Exc} (h:Fb r st = .ex x s1) (hx:x.cls∈cs) (h2:Fh ((List.replicate k none).set i (some (.exc x.cls x.fs))) s1 = .nx r1 s2):Y2 i k cs Fb Fh r st = .nx (r1.set i none) s2:=by unfold Y2;rw [h];dsimp only;rw [AH hx,h2]
theorem Je {k:Int} (h:f r st = .ok (.int k) s1):wM f r st = .ok (some k) s1:=by unfold wM;rw [h];rfl
end
end EV
end
noncomputable section
namespace K61
open PySem EV
def WI:PV->Bool
 | .non=>true | .bl _=>true | .int _=>true | .str _=>true | .tup _=>true | .lst _=>true | .dct=>true |_=>false
def isInt:PV->Bool
 | .int _=>true
 |_=>false
theorem jA {a:Ad} {v:PV} {st:qC} (h:WI v=true):Ws a [v] st = .ok (.bl (isInt v)) st:=by cases v <;> first |rfl |cases h
def QT (lo hi:Int):PV->Bool
 | .int i=>decide (lo≤i)&&decide (i≤hi)
 |_=>false
theorem yN {a:Ad} {v:PV} {st:qC} {lo hi:Int} (h:WI v=true):QW a [v,.int lo,.int hi] st = .ok (.bl (QT lo hi v)) st:=by
 refine Jk rfl ?_;unfold W1;refine (qCA (p := .bl (QT lo hi v)) (st':=st) ?_);unfold ZU;rw [Zc (l:=[v]) (st':=st) rfl,jA h];cases v with
 |int i =>show (match (PV.bl (decide (lo≤i))) with | .bl true=>Rs.ok (PV.bl (decide (i≤hi))) st | .bl false=>Rs.ok (.bl false) st |_ => .no)=_;unfold QT;dsimp only;cases decide (lo≤i) <;> rfl
 |_=>rfl
theorem qAM {a:Ad} {v:PV} {st:qC} (h:WI v=true):ZD a [v] st = .ok (.bl (QT 2 5 v)) st:=by refine Jk rfl ?_;unfold ZI;refine (qCA (p := .bl (QT 2 5 v)) (st':=st) ?_);rw [Zc (l:=[v,.int 2,.int 5]) (st':=st) rfl];exact yN h
theorem Zf {a:Ad} {v:PV} {st:qC} (h:WI v=true):Qu a [v] st=if QT 2 5 v=true then .ok .non st else .ex ⟨a.Z1,[]⟩ st:=by unfold Qu qo;rw [AH (show [v].length=1 from rfl)];unfold W5 Qm wb QL;rw [Zc (l:=[v]) (st':=st) rfl,qAM h];cases hw:QT 2 5 v <;> rfl
theorem qAH {f:PV->Bool}:∀ l:List PV,Q3 pbl (l.map fun p => .bl (f p))=some (l.map f)
 |[]=>rfl
 |p::l=>by simp only [Aj,Q3,pbl,qAH l]
theorem jb:∀ l:List Int,Q3 qAL (l.map PV.int)=some l
 |[]=>rfl
 |p::l=>by simp only [Aj,Q3,qAL,jb l]
theorem Wu {i j:Int} {st:qC}:gEq (.int i) (.int j) st = .ok (.bl (i==j)) st:=rfl
theorem wa {n:Nat} (h:n≤100000):n≤sizeLine:=Ae h (by decide)
def WG (L:Int):List Int:=(List.range L.toNat).map fun (i:Nat)=>(i:Int)
theorem qEc {L:Int}:yj 0 L=(WG L).map PV.int:=by unfold yj WG;rw [Au,Int.sub_zero];refine A6 fun i _ => ?_;show PV.int (0 + (i:Int))=PV.int i;rw [Int.zero_add]
theorem upto_mem {L i:Int}:i∈WG L ↔ 0≤i∧i < L:=by
 unfold WG;rw [AW];constructor
 ·rintro ⟨j,hj,rfl⟩;rw [A9] at hj;omega
 ·rintro ⟨h1,h2⟩;exact ⟨i.toNat,by rw [A9];omega,by omega⟩
theorem WX {L:Int}:(WG L).length=L.toNat:=by simp [WG]
theorem qHF {l:List Int} {L i:Int} (hl:l.length=L.toNat) (h0:0≤i) (h1:i < L):L2.atI (l.map PV.int) i=some (.int (l.getD i.toNat 0)):=by
 unfold L2.atI L2.ixN;rw [AC,AH h0,AH (by omega)]
 show (l.map PV.int)[i.toNat]? = _;have hi:i.toNat < l.length:=by omega
 rw [A1,AU hi,Ac,AU hi];rfl
theorem qJI {l:List Int} {L i:Int} {st:qC} (hl:l.length=L.toNat) (h0:0≤i) (h1:i < L):gIx (.lst (l.map PV.int)) (.int i) st = .ok (.int (l.getD i.toNat 0)) st:=by unfold gIx;simp only [Wy,asL,qHF hl h0 h1]
theorem Ql {a:Ad} {st j:qC} {x m:Int} (h:0 < m∧m < 1073741824):qa a [.ref st.length,.int m] (st ++ .l [.int x]::j) = .ok (.int (x % m)) (st ++ .l [.int (x / m)]::j):=by
 have hs:(st++SO.l [.int x]::j)[st.length]? = some (.l [.int x]):=by simp
 refine qm rfl (qR (zB (qK (qJ (qS rfl rfl (qFj (Yz hs) rfl)) (qJ rfl qZ)) (qFI h)) rfl) (qR (qJ9 rfl rfl rfl (s4:=st ++ .l [.int (x / m)]::j) ?_) (QB rfl)));unfold je;simp only [hs];show some ((st++SO.l [.int x]::j).set st.length (.l [.int (x / m)]))=_;rw [Br _ _ (AK _),Nat.sub_self];rfl
def Z4:Nat:=2 ^ 20
theorem qEv:64≤Z4:=by decide
theorem qEP:Z4 + Z4 + 100≤bitsLine:=by decide
theorem qGw {a:Ad} {ns:List Int} {k:Int} {st:qC} (hb:∀ n∈ns,Builtin.Int.intBits n≤2 ^ 20) (h0:0≤k) (h1:k < 100):∃ c:Int,c.natAbs < 2 ^ Z4∧zQ a [.lst (ns.map PV.int),.int k] st = .ok (.int c) st:=by
 have e1:vTB (qP gLt (qB 1) (qI w4 (qA (qB 0) qD))) (Qh 2 [.lst (ns.map PV.int),.int k]) st = .ok (decide (k < (ns.length:Int))) st :=
  Qo (qS rfl (qK (qJ rfl qZ) (zh (l:=ns.map PV.int) rfl (by rw [AC]))) w_lt)
 by_cases hk:k < (ns.length:Int)
 ·refine ⟨ns.getD k.toNat 0,?_,qm rfl (Q2 (QO (by rw [e1,AQ hk]) (QB (qS rfl rfl (qJI (L:=ns.length) (by omega) h0 hk)))))⟩
  have hi:k.toNat < ns.length:=by omega
  rw [Ac,AU hi];exact qF5 (hb _ (Bj hi))
 ·refine ⟨6151 * k + 29,?_,qm rfl (qR (r':=Qh 2 [.lst (ns.map PV.int),.int k]) (s1:=st) (QA (by rw [e1,AV hk]) rfl) (QB (qS (qS rfl rfl (Ye (by decide))) rfl WH)))⟩
  refine Am (m:=2 ^ 64) ?_ (Nat.pow_le_pow_right (by decide) qEv)
  omega
theorem qJH {a:Ad} {c k:Int} {st:qC} (hc:c.natAbs < 2 ^ Z4) (h0:0≤k) (h1:k < 24):∃ m:Int,ZY a [.int c,.int k] st = .ok (.int m) st:=by
 have hn:((c + 1) * 40692 + 104729 * k).natAbs < 2 ^ (Z4 + 30):=by
  rw [Nat.pow_add];have h2:0 < 2 ^ Z4:=Nat.two_pow_pos _;generalize 2 ^ Z4=N at hc h2
  have:(2:Nat) ^ 30=1073741824:=by decide
  rw [this];omega
 generalize hN:(c + 1) * 40692 + 104729 * k=n at hn;have hbits:Builtin.Int.intBits n + Builtin.Int.intBits n≤bitsLine:=by
  have:=Jn hn
  have:=qEP
  omega
 have hm1:0≤n * n % 2147483399:=Int.emod_nonneg _ (by decide)
 have hm2:n * n % 2147483399 < 2147483399:=Int.emod_lt_of_pos _ (by decide)
 refine ⟨(n * n % 2147483399 + k) * (n * n % 2147483399 + k + 31) % 2147483563,qm rfl (qR (qr (p := .int n) (s1:=st) (qS (qS (qS rfl rfl WH) rfl (qB4 (by decide))) (qS rfl rfl (Ye (by decide))) (by rw [WH,hN]))) (qR (qr (qS (qS (qS rfl rfl (qJ3 hbits)) rfl (qD6 (by decide))) rfl WH)) (QB (qS (qS rfl (qS rfl rfl WH) (Ye ⟨?_,?_⟩)) rfl (qD6 (by decide))))))⟩
 ·omega
 ·omega
def qHR (a:Ad):FS:=qj 3 (qP QV (qP zt (qB 3) (vC (.int 2147483647))) (qI (ZY a) (qA (qB 2) (qA (qB 4) qD))))
theorem qAp {a:Ad} {s:PV} {c k:Int} {st:qC} (hc:c.natAbs < 2 ^ Z4):∀ (js:List Int) (n:Int) (x:Option PV),(∀ j∈js,0≤j∧j < 24) -> ∃ n' x',Qz (fun _=>True) (qu 4) (qHR a) (js.map PV.int) [some s,some (.int k),some (.int c),some (.int n),x] st = .nx [some s,some (.int k),some (.int c),some (.int n'),x'] st
 |[],n,x,_=>⟨n,x,Qi trivial⟩
 |j::js,n,x,h=>by have hj:=h j AI;obtain ⟨m,hm⟩:=qJH (a:=a) (st:=st) hc hj.1 hj.2;obtain ⟨n',x',e2⟩:=qAp (a:=a) (s:=s) (k:=k) (st:=st) hc js (n * 2147483647 + m) (some (.int j)) fun q hq=>h q (AD _ hq);exact ⟨n',x',wf trivial rfl (qr (qS (qS rfl rfl (qB4 (by decide))) (qK (qJ rfl (qJ rfl qZ)) hm) WH)) e2⟩
theorem qJ2 {a:Ad} {ns:List Int} {k:Int} {st:qC} (hb:∀ n∈ns,Builtin.Int.intBits n≤2 ^ 20) (h0:0≤k) (h1:k < 100):∃ x,yf a [.lst (ns.map PV.int),.int k] st = .ok (.ref st.length) (st++[.l [.int x]]):=by
 obtain ⟨c,hc,e⟩:=qGw (a:=a) (st:=st) hb h0 h1;have ht:vTB (qP gEq (qP qBW (qB 2) (vC (.int 2))) (vC (.int 0))) [some (.lst (ns.map PV.int)),some (.int k),some (.int c),none,none] st = .ok (c % 2==0) st:=Qo (qS (qS rfl rfl (qD6 (by decide))) rfl Wu)
 have e0:qj 2 (qI (zQ a) (qA (qB 0) (qA (qB 1) qD))) (Qh 5 [.lst (ns.map PV.int),.int k]) st = .nx [some (.lst (ns.map PV.int)),some (.int k),some (.int c),none,none] st:=qr (qK (qJ rfl (qJ rfl qZ)) e);cases hp:(c % 2==0) with
 |true=>exact ⟨c / 2,qm rfl (qR e0 (Q2 (QO (by rw [ht,hp]) (qBd (ZA (qJ (qS rfl rfl (qHj (by decide))) qZ) (sz rfl))))))⟩
 |false =>obtain ⟨n',x',el⟩:=qAp (a:=a) (s := .lst (ns.map PV.int)) (k:=k) (st:=st) hc (WG 24) 0 none fun j hj=>upto_mem.mp hj;exact ⟨n',qm rfl (qR e0 (qR (r':=[some (.lst (ns.map PV.int)),some (.int k),some (.int c),none,none]) (s1:=st) (QA (by rw [ht,hp]) rfl) (qR (qr rfl) (qR (ZM (w:=⟨(WG 24).map PV.int,fun _=>True⟩) (s1:=st) rfl el) (qBd (ZA (qJ rfl qZ) (sz rfl)))))))⟩
theorem Wv {a:Ad} {x d:Addr} {st:qC} {r:qv} {b:Bool} (h0:r[0]? = some (some (.exc x []))) (hx:x∈QN a) (hd:d∈a.kinds) (hb:(x==d)=b):qI (Qa (kit a)) (qA (qB 0) (qA (vC (.fn d)) qD)) r st = .ok (.bl b) st:=by
 rw [Zc (l:=[.exc x [],.fn d]) (st':=st) (by unfold qA qB;rw [h0];rfl)]
 show (match (if x∈QN a∧d∈a.kinds then some (x==d) else none) with |some b=>Rs.ok (PV.bl b) st |none => .no)=_;rw [AH ⟨hx,hd⟩,hb]
theorem qJz {a:Ad} {x:Addr} {st:qC} {r:qv} (h0:r[0]? = some (some (.exc x []))) (hx:x∈QN a):qI (Qa (kit a)) (qA (qB 0) (qA (vC (.ty "ValueError")) qD)) r st = .ok (.bl true) st:=by
 rw [Zc (l:=[.exc x [],.ty "ValueError"]) (st':=st) (by unfold qA qB;rw [h0];rfl)]
 show (match (if x∈QN a ∧ "ValueError" = "ValueError" then some true else none) with |some b=>Rs.ok (PV.bl b) st |none => .no)=_;rw [AH ⟨hx,rfl⟩]
theorem qDM (a:Ad):a.Z1∈a.kinds∧a.Z2∈a.kinds∧a.Z3∈a.kinds∧a.Z4∈a.kinds∧a.Z5∈a.kinds∧a.Z6∈a.kinds∧a.Z7∈a.kinds∧a.Z8∈a.kinds∧a.Z9∈a.kinds∧a.Z10∈a.kinds∧a.Z11∈a.kinds:=by unfold Ad.kinds;simp
theorem Y4 {a:Ad} {x:Addr} {st:qC} {v:PV} (hx:x∈QN a) {b0 b1 b2 b3 b4 b5 b6 b7 b8 b9 b10:Bool} (e0:(x==a.Z1)=b0) (e1:(x==a.Z2)=b1) (e2:(x==a.Z3)=b2) (e3:(x==a.Z4)=b3) (e4:(x==a.Z5)=b4) (e5:(x==a.Z6)=b5) (e6:(x==a.Z7)=b6) (e7:(x==a.Z8)=b7) (e8:(x==a.Z9)=b8) (e9:(x==a.Z10)=b9) (e10:(x==a.Z11)=b10)
  (hc:qBa (qB 1) (vC (.bl true)) [some (.exc x []),some (.lst [.bl b0,.bl b1,.bl b2,.bl b3,.bl b4,.bl b5,.bl b6,.bl b7,.bl b8,.bl b9,.bl b10]),none] st = .ok (.int 1) st)
  (h:qBD a [some (.exc x []),some (.lst [.bl b0,.bl b1,.bl b2,.bl b3,.bl b4,.bl b5,.bl b6,.bl b7,.bl b8,.bl b9,.bl b10]),none] st = .rt v st):Qx a [.exc x []] st = .ok v st:=by
 obtain ⟨m0,m1,m2,m3,m4,m5,m6,m7,m8,m9,m10⟩:=qDM a;exact qm rfl (qR (qr (Q0 (ZA (qJ (Wv rfl hx m0 e0) (qJ (Wv rfl hx m1 e1) (qJ (Wv rfl hx m2 e2) (qJ (Wv rfl hx m3 e3) qZ)))) (sz rfl))))
  (qR (qr (Q0 (Zj (l:=[.bl b0,.bl b1,.bl b2,.bl b3]) rfl (Q0 (ZA (qJ (Wv rfl hx m4 e4) (qJ (Wv rfl hx m5 e5) (qJ (Wv rfl hx m6 e6) (qJ (Wv rfl hx m7 e7) qZ)))) (sz rfl))) rfl rfl (sz rfl))))
  (qR (qr (Q0 (Zj (l:=[.bl b0,.bl b1,.bl b2,.bl b3,.bl b4,.bl b5,.bl b6,.bl b7]) rfl (Q0 (ZA (qJ (Wv rfl hx m8 e8) (qJ (Wv rfl hx m9 e9) (qJ (Wv rfl hx m10 e10) qZ))) (sz rfl))) rfl rfl (sz rfl))))
  (qR (r':=[some (.exc x []),some (.lst [.bl b0,.bl b1,.bl b2,.bl b3,.bl b4,.bl b5,.bl b6,.bl b7,.bl b8,.bl b9,.bl b10]),none]) (s1:=st) (QA (wG (w_not (b:=true) (QC (qJz rfl hx))) (Qo (qS hc rfl rfl))) rfl) h))))
theorem qAV {a:Ad} (hd:Dist a) {st:qC}:Qx a [.exc a.Z1 []] st = .ok (.str "! length") st:=by have nd:=hd;unfold Dist Ad.kinds at nd;simp only [Ax,AE,Ag,not_or,B8] at nd;obtain ⟨⟨n1,n2,n3,n4,n5,n6,n7,n8,n9,n10⟩,_⟩:=nd;exact Y4 (by unfold QN;simp) (As _) (AB.mpr n1) (AB.mpr n2) (AB.mpr n3) (AB.mpr n4) (AB.mpr n5) (AB.mpr n6) (AB.mpr n7) (AB.mpr n8) (AB.mpr n9) (AB.mpr n10) rfl rfl
theorem itN {L:Int} {r:qv} {st s1:qC} {f:FA} (h1:0≤L) (h2:L≤1000) (hf:f r st = .ok [.int L] s1):(Q4 f) r st = .ok ⟨(WG L).map PV.int,fun _=>True⟩ s1:=by unfold Q4;rw [hf];show JW [.int L] s1=_;unfold JW;dsimp only;rw [AH (by omega),qEc]
theorem WQ {x m:Int} (h:0 < m):0≤x % m∧x % m < m:=⟨Int.emod_nonneg _ (by omega),Int.emod_lt_of_pos _ h⟩
def unC:PV->qc
 | .tup [.int x,.int y]=>(x,y)
 |_=>(0,0)
theorem qAv {d:qc->Bool} {l:List qc} {c:PV->Bool} (h:∀ x∈l,c (cP x)=d x):(l.map cP).filter c=(l.filter d).map cP:=by
 induction l with
 |nil=>rfl
 |cons x l ih =>rw [Aj,BY,BY,h x AI,ih fun y hy=>h y (AD _ hy)];cases d x <;> rfl
theorem qLl {st j:qC} {b:SO} {i:Nat} {o:SO} (h:j[i]? = some o):(st++b::j)[st.length + 1 + i]? = some o:=by rw [Av (by omega),show st.length + 1 + i - st.length=i + 1 by omega,List.getElem?_cons_succ];exact h
def In8 (c:qc):Prop:=0≤c.1∧c.1≤7∧0≤c.2∧c.2≤7
theorem qEi {fi:FI} {g:FG} {t:FT} {f:FE} {r r':qv} {st s1 s2:qC} {p q:PV} (h:g p r=some r') (ht:t r' st = .ok true s1) (hf:f r' s1 = .ok q s2):Qk ⟨fi,g,[t]⟩ (wB [] f) r p st = .ok [q] s2:=by unfold Qk;show (match g p r with |none=>_ |some r'=>_)=_;rw [h];show (wc [t] r' st).bind _=_;unfold wc wc;rw [ht];show (wB [] f) r' s1=_;unfold wB;rw [hf];rfl
theorem qES {fi:FI} {g:FG} {t:FT} {f:FE} {r r':qv} {st s1:qC} {p:PV} (h:g p r=some r') (ht:t r' st = .ok false s1):Qk ⟨fi,g,[t]⟩ (wB [] f) r p st = .ok [] s1:=by unfold Qk;show (match g p r with |none=>_ |some r'=>_)=_;rw [h];show (wc [t] r' st).bind _=_;unfold wc wc;rw [ht];rfl
theorem qKJ {st j:qC} {b o:SO} {i:Nat} (h:i < j.length):(st++b::j).set (st.length + 1 + i) o=st++b::j.set i o:=by rw [Br _ _ (by omega),show st.length + 1 + i - st.length=i + 1 by omega,List.set_cons_succ]
def okP:PV->Bool
 | .tup l=>Nat.ble l.length 1000&&l.all WI
 |p=>WI p
theorem yp {v:PV} (h:okP v=true):WI v=true:=by cases v <;> first |rfl |exact h
def okV:PV->Bool
 | .tup l=>Nat.ble l.length 59&&l.all okP
 |p=>WI p
theorem yn {v:PV} (h:okV v=true):WI v=true:=by cases v <;> first |rfl |exact h
theorem YK {a:Ad} {v:PV} {st:qC} (h:WI v=true):Qa (kit a) [v,.ty "tuple"] st = .ok (.bl (match v with | .tup _=>true |_=>false)) st:=by cases v <;> first |rfl |cases h
theorem Yg {f g:FE} {r:qv} {st s1:qC} {R:Rs PV} (h:f r st = .ok (.bl true) s1) (h2:g r s1=R):ZU f g r st=R:=by unfold ZU;rw [h];exact h2
theorem ZC {f g:FE} {r:qv} {st s1:qC} (h:f r st = .ok (.bl false) s1):ZU f g r st = .ok (.bl false) s1:=by unfold ZU;rw [h];rfl
theorem qI0 {l:List PV} {n:Int} {st:qC}:gNe (.int (l.length:Int)) (.int n) st = .ok (.bl (!decide ((l.length:Int)=n))) st:=by
 show Rs.ok (PV.bl (!((l.length:Int)==n))) st=_;by_cases h:(l.length:Int)=n
 ·rw [AQ h,A4.mpr h]
 ·rw [AV h,AB.mpr h]
theorem Zv {f:PV->Bool} {l:List PV} {st:qC}:zu [.lst (l.map fun p => .bl (f p))] st = .ok (.bl (l.all f)) st:=by unfold zu qEW;simp only [asL];rw [qAH];show Rs.ok (PV.bl ((l.map f).all id)) st=_;rw [List.all_map];rfl
theorem itR {lo hi:Int} {r:qv} {st s1:qC} {f:FA} (h1:0≤lo) (h2:lo≤1000) (h3:0≤hi) (h4:hi≤1000) (hf:f r st = .ok [.int lo,.int hi] s1):(qAi f) r st = .ok ⟨yj lo hi,fun _=>True⟩ s1:=by unfold qAi;rw [hf];show JZ [.int lo,.int hi] s1=_;unfold JZ;dsimp only;rw [AH ⟨by omega,by omega,by omega,by omega⟩]
theorem Zn {lo hi:Int} {p:PV} (h:QT lo hi p=true):∃ i,p = .int i∧lo≤i∧i≤hi:=by
 cases p with
 |int i =>have h:(decide (lo≤i)&&decide (i≤hi))=true:=h;rw [AZ] at h;exact ⟨i,rfl,Aq h.1,Aq h.2⟩
 |_=>cases h
theorem qF0 {a:Ad} {v:PV} {st:qC} (h:WI v=true):wt a [v] st = .ok (.bl (isInt v)) st:=by cases v <;> first |rfl |cases h
theorem qDV {a:Ad} {l:List PV} {r:qv} {st:qC} {f:FE} (hl:l.length≤1000) (h:∀ p∈l,WI p=true) (hf:f r st = .ok (.tup l) st):qI zu (qA (vFz (qx [] 1 (qq f) (q9 0) [] [] (qI (wt a) (qA (qB 0) qD)))) qD) r st = .ok (.bl (l.all isInt)) st:=by
 have e:=QY (caps:=[]) (n:=1) (fi:=qq f) (g:=q9 0) (f:=qI (wt a) (qA (qB 0) qD)) (r:=r) (st:=st) (w:=⟨l,fun _=>True⟩) (F:=fun p => .bl (isInt p)) (Qj hf) trivial (wa (by show l.length≤_;omega)) fun p hp=>⟨[some p],rfl,qK (l:=[p]) rfl (qF0 (h p hp))⟩
 exact qK (qJ (Q0 e) qZ) Zv
theorem Zz {lo hi i:Int}:QT lo hi (.int i)=(decide (lo≤i)&&decide (i≤hi)):=rfl
theorem qEJ:∀ F G:List qc,peqs (F.map cP) (G.map cP)=decide (F=G)
 |[],[]=>rfl
 |[],d::G=>rfl
 |c::F,[]=>rfl
 |c::F,d::G=>by
  rw [Aj,Aj,peqs,qHg,qEJ F G];by_cases h:c=d
  ·by_cases h2:F=G
   ·subst h;subst h2;simp
   ·rw [AV h2,BK];exact (AV (by simp [h2])).symm
  ·rw [AV h,CF];exact (AV (by simp [h])).symm
theorem qFR {f:FE} {r:qv} {st s1:qC} {l:List PV} (h:f r st = .ok (.tup l) s1):vFz (YA f) r st = .ok (.lst l) s1:=by unfold vFz YA;rw [h];rfl
theorem qJm {l:List PV} {i:Int} {st:qC} (h0:0≤i) (h1:i < l.length):∃ p,p∈l∧gIx (.lst l) (.int i) st = .ok p st:=by
 have hi:i.toNat < l.length:=by omega
 refine ⟨l[i.toNat],Bj hi,qFj rfl ?_⟩;unfold L2.atI;rw [JX h0 h1];exact AU hi
theorem qHy {f:FE} {lo hi:FO} {r:qv} {st s1 s2 s3:qC} {l:List PV} {p q:Option Int} (h:f r st = .ok (.tup l) s1) (h1:lo r s1 = .ok p s2) (h2:hi r s2 = .ok q s3):Z1 f lo hi r st = .ok (.tup (ZT l p q)) s3:=by unfold Z1;rw [h];show (lo r s1).bind _=_;rw [h1];show (hi r s2).bind _=_;rw [h2];rfl
theorem qFu {l m:List PV} {st:qC} (h:l.length + m.length≤1000):Z2 (.tup l) (.tup m) st = .ok (.tup (l++m)) st:=by unfold Z2;exact AH (Ae h (by decide))
theorem qBv {l:List PV} (hl:l.length≤59) (h:∀ p∈l,okP p=true):okV (.tup l)=true:=by show (Nat.ble l.length 59&&l.all okP)=true;rw [AZ,At];exact ⟨Nat.ble_eq_true_of_le hl,h⟩
theorem qHA {st j:qC} {b o p:SO}:(st++b::(j++[o])).set (st.length + 1 + j.length) p=st++b::(j++[p]):=by rw [qKJ (by rw [AY,BZ];omega),Br _ _ (AK _),Nat.sub_self];rfl
theorem Zd {st j:qC} {b o:SO}:(st++b::(j++[o]))[st.length + 1 + j.length]? = some o:=qLl (by simp)
theorem qCj {st j:qC} {b:SO}:(st++b::j).length=st.length + 1 + j.length:=by rw [AY,AM];omega
theorem qCy {st j:qC} {b o:SO}:(st++b::j)++[o]=st++b::(j++[o]):=by rw [Al];rfl
theorem qFy {i:Nat} {fl:FL} {r:qv} {S st j:qC} {b:SO} {l:List PV} (h:fl r S = .ok l (st++b::j)):Zp i fl r S = .nx (r.set i (some (.ref (st.length + 1 + j.length)))) (st++b::(j++[.l l])):=by rw [qEu h,qCj,qCy]
theorem qFz {fo f:FE} {r:qv} {st j:qC} {b b':SO} {l:List PV} {p:PV} (h:fo r (st++b::(j++[.l l])) = .ok (.ref (st.length + 1 + j.length)) (st++b::(j++[.l l]))) (h2:f r (st++b::(j++[.l l])) = .ok p (st++b'::(j++[.l l]))) (hl:l.length≤1000):WW fo f r (st++b::(j++[.l l])) = .nx r (st++b'::(j++[.l (l++[p])])):=by rw [Y7 h (qGT Zd) h2 Zd (Ba hl (by decide)),qHA]
end K61
end
noncomputable section
namespace K61
open PySem EV EX ET
abbrev Bar:=Int×Int×Int
def bP (b:Bar):PV := .tup [.int b.1,.int b.2.1,.int b.2.2]
def bL (b:Bar):List Int:=[b.1,b.2.1,b.2.2]
def lB:List Int->Bar
 |[x,y,z]=>(x,y,z)
 |_=>(0,0,0)
def unB:PV->Bar
 | .tup [.int x,.int y,.int z]=>(x,y,z)
 |_=>(0,0,0)
def J3 (b:Bar) (k:Int):qc:=(b.1 + k * b.2.2,b.2.1 + k - k * b.2.2)
def cov (L:Int) (b:Bar):List qc:=(WG L).map (J3 b)
theorem W0 {L:Int} {b:Bar}:(cov L b).length=L.toNat:=by unfold cov;rw [AC,WX]
theorem qAb {a:Ad} {b:Bar} {L:Int} {st:qC} (h1:0≤L) (h2:L≤1000):W4 a [bP b,.int L] st = .ok (.lst ((cov L b).map cP)) st:=by
 let G:PV->PV:=fun p=>match p with
  | .int k=>cP (J3 b k)
  |_=>p
 have e:=QY (caps:=[2,4,3]) (n:=1) (fi:=Q4 (qA (qB 1) qD)) (g:=q9 3) (f:=qy (qA (qP QV (qB 0) (qP zt (qB 3) (qB 1))) (qA (qP yS (qP QV (qB 2) (qB 3)) (qP zt (qB 3) (qB 1))) qD))) (r:=[some (bP b),some (.int L),some (.int b.1),some (.int b.2.1),some (.int b.2.2)]) (st:=st) (w:=⟨(WG L).map PV.int,fun _=>True⟩) (F:=G) (itN h1 h2 rfl) trivial (by rw [AC,WX];exact wa (by omega)) fun p hp=>by
  obtain ⟨k,hk,rfl⟩:=AW.mp hp;have hk:=upto_mem.mp hk;have hm:-(2 ^ 64) < k∧k < 2 ^ 64:=by omega
  exact ⟨[some (.int b.1),some (.int b.2.2),some (.int b.2.1),some (.int k)],rfl,Wc (qJ (qS rfl (qS rfl rfl (Ye hm)) WH) (qJ (qS (qS rfl rfl WH) (qS rfl rfl (Ye hm)) qBp) qZ)) (sz rfl)⟩
 have e2:((WG L).map PV.int).map G=(cov L b).map cP:=by unfold cov;rw [Au,Au];rfl
 rw [← e2];exact qm rfl (qR (zB (r1:=[some (bP b),some (.int L),some (.int b.1),some (.int b.2.1),some (.int b.2.2)]) rfl rfl) (QB (Q0 e)))
theorem jc {a:Ad} {b:Bar} {L:Int} {st:qC} (h1:0≤L) (h2:L≤1000) (hw:b.2.2=0∨b.2.2=1):wJ a [bP b,.int L] st = .ok (.tup ((cov L b).map cP)) st:=by
 have hl:((WG L).map PV.int).length≤sizeLine:=by rw [AC,WX];exact wa (by omega)
 rcases hw with hw |hw
 ·let G:PV->PV:=fun p=>match p with
   | .int k => .tup [.int b.1,.int (b.2.1 + k)]
   |_=>p
  have e:=QY (caps:=[2,3]) (n:=1) (fi:=Q4 (qA (qB 1) qD)) (g:=q9 2) (f:=qy (qA (qB 0) (qA (qP QV (qB 1) (qB 2)) qD))) (r:=[some (bP b),some (.int L),some (.int b.1),some (.int b.2.1),some (.int b.2.2)]) (st:=st) (w:=⟨(WG L).map PV.int,fun _=>True⟩) (F:=G) (itN h1 h2 rfl) trivial hl fun p hp=>by obtain ⟨k,hk,rfl⟩:=AW.mp hp;exact ⟨[some (.int b.1),some (.int b.2.1),some (.int k)],rfl,Wc (qJ rfl (qJ (qS rfl rfl WH) qZ)) (sz rfl)⟩
  have e2:((WG L).map PV.int).map G=(cov L b).map cP:=by unfold cov;rw [Au,Au];refine A6 fun k _ => ?_;show PV.tup [.int b.1,.int (b.2.1 + k)] = .tup [.int (b.1 + k * b.2.2),.int (b.2.1 + k - k * b.2.2)];rw [hw,Int.mul_zero,CZ,Int.sub_zero]
  rw [← e2];exact qm rfl (qR (zB (r1:=[some (bP b),some (.int L),some (.int b.1),some (.int b.2.1),some (.int b.2.2)]) rfl rfl) (Q2 (QO (Qo (qS rfl rfl (by rw [Wu,hw];rfl))) (QB (qK (qJ (Q0 e) qZ) (zc rfl))))))
 ·let G:PV->PV:=fun p=>match p with
   | .int k => .tup [.int (b.1 + k),.int b.2.1]
   |_=>p
  have e:=QY (caps:=[3,2]) (n:=1) (fi:=Q4 (qA (qB 1) qD)) (g:=q9 2) (f:=qy (qA (qP QV (qB 1) (qB 2)) (qA (qB 0) qD))) (r:=[some (bP b),some (.int L),some (.int b.1),some (.int b.2.1),some (.int b.2.2)]) (st:=st) (w:=⟨(WG L).map PV.int,fun _=>True⟩) (F:=G) (itN h1 h2 rfl) trivial hl fun p hp=>by obtain ⟨k,hk,rfl⟩:=AW.mp hp;exact ⟨[some (.int b.2.1),some (.int b.1),some (.int k)],rfl,Wc (qJ (qS rfl rfl WH) (qJ rfl qZ)) (sz rfl)⟩
  have e2:((WG L).map PV.int).map G=(cov L b).map cP:=by unfold cov;rw [Au,Au];refine A6 fun k _ => ?_;show PV.tup [.int (b.1 + k),.int b.2.1] = .tup [.int (b.1 + k * b.2.2),.int (b.2.1 + k - k * b.2.2)];rw [hw,Int.mul_one,Int.add_sub_cancel]
  rw [← e2];exact qm rfl (qR (zB (r1:=[some (bP b),some (.int L),some (.int b.1),some (.int b.2.1),some (.int b.2.2)]) rfl rfl) (qR (QA (Qo (qS rfl rfl (by rw [Wu,hw];rfl))) rfl) (QB (qK (qJ (Q0 e) qZ) (zc rfl)))))
theorem qEx:∀ l:List Bar,Q3 Zy (l.map bP)=some (l.map bL)
 |[]=>rfl
 |c::l=>by rw [Aj,Q3,show Zy (bP c)=some (bL c) from rfl];dsimp only;rw [qEx l];rfl
theorem qBk {l:List Bar} {q:PV} {st:qC} (h:Wy st q=some (l.map bP)) (hl:l.length≤63):∃ m:List Bar,m=(srt (l.map bL)).map lB∧m.length=l.length∧(∀ b∈m,b∈l)∧Zq q st = .ok (.lst (m.map bP)) st:=by
 have hp:=wL (l.map bL);have hb:∀ x∈srt (l.map bL),∃ b∈l,bL b=x:=fun x hx=>AW.mp (hp.mem_iff.mp hx);refine ⟨(srt (l.map bL)).map lB,rfl,by rw [AC,hp.length_eq,AC],fun b hm => ?_,?_⟩
 ·obtain ⟨x,hx,rfl⟩:=AW.mp hm;obtain ⟨c,hc,rfl⟩:=hb x hx;exact hc
 ·unfold Zq;rw [h];dsimp only;rw [qEx];dsimp only;rw [AH (by rw [AC];omega),Au]
  congr 2;refine A6 fun x hx => ?_;obtain ⟨c,hc,rfl⟩:=hb x hx;rfl
theorem qFT {num:Nat->Int} {bt:Nat->Nat->Bool} {n:Nat} (h1:∀ i j,i≤n->j≤n->num i > num j->bt i j=true) (h2:∀ i j,i≤n->j≤n->bt i j=true->num j≤num i):∀ k,k≤n -> ∀ j,j≤k->num j≤num (argBest bt k)
 |0,_,j,h=>by rw [Nat.le_zero.mp h];exact Int.le_refl _
 |k + 1,hn,j,h=>by
  have ih:=qFT h1 h2 k (by omega)
  have hb:argBest bt k≤n:=Ae (YI bt k) (by omega)
  unfold argBest;cases q:bt (k + 1) (argBest bt k) with
  |true =>
   rw [AH rfl];rcases Nat.lt_or_ge j (k + 1) with z |z
   ·exact Int.le_trans (ih j (by omega)) (h2 _ _ hn hb q)
   ·rw [show j=k + 1 by omega];exact Int.le_refl _
  |false =>
   rw [AJ (by simp)]
   rcases Nat.lt_or_ge j (k + 1) with z |z
   ·exact ih j (by omega)
   ·rw [show j=k + 1 by omega]
    rcases Int.lt_or_le (num (argBest bt k)) (num (k + 1)) with y |y
    ·rw [h1 _ _ hn hb y] at q;cases q
    ·exact y
theorem qHu {c d:qc}:(c.1 > d.1->gtL (cL c) (cL d)=true)∧(gtL (cL c) (cL d)=true->d.1≤c.1):=by
 show (c.1 > d.1->(if c.1=d.1 then _ else decide (c.1 > d.1))=true)∧((if c.1=d.1 then _ else decide (c.1 > d.1))=true->d.1≤c.1);by_cases q:c.1=d.1
 ·exact ⟨fun h=>by omega,fun _=>by omega⟩
 ·rw [AJ q];exact ⟨fun h=>AQ h,fun h=>by have:=Aq h;omega⟩
theorem qKW {C:List qc} {st:qC} (h:C≠[]):∃ c:qc,(∀ d∈C,d.1≤c.1)∧jW [.lst (C.map cP)] st = .ok (cP c) st:=by
 cases C with
 |nil=>exact absurd rfl h
 |cons c0 C =>
  have hD:∀ i,i≤C.length->((c0::C).map cL).getD i []=cL ((c0::C).getD i (0,0)):=fun i hi=>by
   have hi:i < (c0::C).length:=by rw [AM];omega
   rw [Ac,Ac,A1,AU hi];rfl
  have hl:((c0::C).map cL).length - 1=C.length:=by rw [AC,AM];rfl
  have hb:yH ((c0::C).map cL)≤C.length:=by unfold yH;rw [hl];exact YI _ _
  refine ⟨(c0::C).getD (yH ((c0::C).map cL)) (0,0),fun d hd => ?_,?_⟩
  ·obtain ⟨j,hj,rfl⟩:=List.mem_iff_getElem.mp hd;have hj':j≤C.length:=by rw [AM] at hj;omega
   have key:=qFT (num:=fun i=>((c0::C).getD i (0,0)).1) (bt:=fun i j=>gtL (((c0::C).map cL).getD i []) (((c0::C).map cL).getD j [])) (n:=C.length) (fun i j hi hj h=>by
    show gtL _ _=true;rw [hD i hi,hD j hj];exact qHu.1 h) (fun i j hi hj h=>by
    have h:gtL _ _=true:=h;rw [hD i hi,hD j hj] at h;exact qHu.2 h) C.length (AK _) j hj'
   have e:((c0::C).getD j (0,0))=(c0::C)[j]:=by rw [Ac,AU hj];rfl
   rw [← e];unfold yH;rw [hl];exact key
  ·unfold jW;simp only [asL];rw [J5];show Rs.ok (YC (((c0::C).map cL).getD (yH ((c0::C).map cL)) [])) st=_;rw [hD _ hb];rfl
theorem qLb {c:qc} {st:qC}:∃ b:Bool,qFS (cP c) (.tup [.int 7,.int 7]) st = .ok (.bl b) st∧(b=true->c.1≤7):=by
 refine ⟨leL (cL c) [7,7],rfl,fun h => ?_⟩;have h:(if c.1=7 then _ else decide (c.1≤7))=true:=h;by_cases q:c.1=7
 ·omega
 ·rw [AJ q] at h;exact Aq h
theorem qGP {ns:List Int} {st:qC} (h:ns≠[]):∃ m:Int,(∀ x∈ns,x≤m)∧jt [.lst (ns.map PV.int)] st = .ok (.int m) st:=by
 cases hm:ns.max? with
 |none=>exact absurd (List.max?_eq_none_iff.mp hm) h
 |some m =>refine ⟨m,(List.max?_eq_some_iff.mp hm).2,?_⟩;unfold jt;simp only [asL,jb,hm]
theorem qFG {t u:FT} {r:qv} {st s1:qC} {b c:Bool} (h:t r st = .ok b s1) (h2:b=true->u r s1 = .ok c s1):zk t u r st = .ok (b&&c) s1:=by
 cases b with
 |true=>exact yK h (h2 rfl)
 |false=>exact Jx h
theorem qKh {t u:FT} {r:qv} {st s1:qC} {b c:Bool} (h:t r st = .ok b s1) (h2:b=false->u r s1 = .ok c s1):zr t u r st = .ok (b || c) s1:=by
 cases b with
 |true=>exact Zr h
 |false=>exact wG h (h2 rfl)
def OKB (b:Bar):Prop:=0≤b.1∧b.1≤7∧0≤b.2.1∧b.2.1≤7∧(b.2.2=0∨b.2.2=1)
theorem jY:∀ l:List Bar,nrs (l.map bP)=true
 |[]=>rfl
 |c::l=>by rw [Aj,nrs,jY l];rfl
theorem yV:∀ l:List Bar,deps (l.map bP)≤1
 |[]=>A7 _
 |c::l=>by
  rw [Aj,deps]
  have:=yV l
  have h:dep (bP c)=1:=rfl;omega
theorem j6 {st:qC} {i:Nat} {l:List PV} (h:st[i]? = some (.l l)):res st (.ref i) = .lst l:=by unfold res;simp only [asL,h]
theorem qA9 {l:List Bar} {p:PV} {st:qC} (h:res st p = .lst (l.map bP)):gNe p (.lst []) st = .ok (.bl (!l.isEmpty)) st:=by
 have h1:zd (.lst (l.map bP)) (.lst [])=true:=by show (nrs (l.map bP)&&true&&decide (deps (l.map bP) + 1≤zg))=true;rw [jY,AQ (Ae (B5 (yV l)) (by decide))];rfl
 unfold gNe;rw [h];show (if zd (.lst (l.map bP)) (.lst [])=true then Rs.ok (PV.bl (!peq (PV.lst (l.map bP)) (PV.lst []))) st else Rs.no)=_;rw [AH h1];cases l <;> rfl
theorem qIr {L:Int} {b:Bar} (hL:L≤5) (h:OKB b):∀ c∈cov L b,0≤c.1∧0≤c.2∧c.1≤11∧c.2≤11:=fun c hc=>by
 obtain ⟨k,hk,rfl⟩:=AW.mp hc;have hk:=upto_mem.mp hk;unfold OKB at h;unfold J3;rcases h.2.2.2.2 with w |w
 ·rw [w,Int.mul_zero];dsimp only;omega
 ·rw [w,Int.mul_one];dsimp only;omega
theorem qEM {r:qv} {st:qC} {L:Int} {b:Bar} {cells:List qc} (hL1:2≤L) (hL2:L≤5) (hb:OKB b) (r3:r[3]? = some (some (.lst (cells.map cP)))) (r10:r[10]? = some (some (.lst ((cov L b).map cP)))):∃ k:Bool,layT r st = .ok k st∧(k=true -> ∀ c∈cov L b,In8 c∧c ∉ cells):=by
 have hne:cov L b≠[]:=fun z=>by have:=W0 (L:=L) (b:=b);rw [z] at this;have h0:([]:List qc).length=0:=rfl;omega
 have hlen:((cov L b).map cP).length≤sizeLine:=by rw [AC,W0];exact wa (by omega)
 obtain ⟨m,hm1,hm2⟩:=qKW (st:=st) hne;obtain ⟨k1,e1,e1'⟩:=qLb (c:=m) (st:=st);have hne2:(cov L b).map (·.2)≠[]:=fun z=>hne (List.map_eq_nil_iff.mp z);obtain ⟨n,hn1,hn2⟩:=qGP (st:=st) hne2;have f1:vTB (qP qFS (qI jW (qA (qB 10) qD)) (qy (qA (vC (.int 7)) (qA (vC (.int 7)) qD)))) r st = .ok k1 st:=Qo (qS (qK (qJ (zp r10) qZ) hm2) rfl e1);have f2:vTB (qP gLt (qI jt (qA (vFz (qx [] 1 (qq (qB 10)) (q9 0) [] [] (qP gIx (qB 0) (vC (.int 1))))) qD)) (vC (.int 8))) r st = .ok (decide (n < 8)) st:=by
  have e:=QY (caps:=[]) (n:=1) (fi:=qq (qB 10)) (g:=q9 0) (f:=qP gIx (qB 0) (vC (.int 1))) (r:=r) (st:=st) (w:=⟨(cov L b).map cP,fun _=>True⟩) (F:=fun p => .int (unC p).2) (wK (zp r10)) trivial hlen fun p hp=>by obtain ⟨c,_,rfl⟩:=AW.mp hp;exact ⟨[some (cP c)],rfl,rfl⟩
  have e2:((cov L b).map cP).map (fun p=>PV.int (unC p).2)=((cov L b).map (·.2)).map PV.int:=by rw [Au,Au];rfl
  have e3:=Q0 e;rw [e2] at e3;exact Qo (qS (qK (qJ e3 qZ) hn2) rfl w_lt)
 have hc3:Wd [3] 1 r=[some (.lst (cells.map cP)),none]:=by unfold Wd;show [(r[3]?).join]++_=_;rw [r3];rfl
 have f3:vTB (qP gEq (vFz (qx [3] 1 (qq (qB 10)) (q9 1) [(vTB (qP (gIn false) (qB 1) (qB 0)))] [] (qB 1))) (vFz (Qy qD))) r st = .ok ((cov L b).filter fun c=>decide (c∈cells)).isEmpty st:=by
  refine Qo (qS (Q0 ?_) rfl eq_nil);rw [zN (w:=⟨(cov L b).map cP,fun _=>True⟩) (c:=fun p=>decide (unC p∈cells)) (wK (zp r10)) trivial hlen fun p hp => ?_]
  ·rw [qAv (d:=fun c=>decide (c∈cells)) fun x _=>rfl]
  ·obtain ⟨c,_,rfl⟩:=AW.mp hp;exact ⟨[some (.lst (cells.map cP)),some (cP c)],by rw [hc3];rfl,Qo (qS rfl rfl (qDR rfl)),rfl⟩
 refine ⟨_,qFG f1 fun _=>qFG f2 fun _=>f3,fun h c hc => ?_⟩;rw [AZ,AZ] at h;have a1:=e1' h.1;have a2:=hm1 c hc;have a3:=Aq h.2.1;have a4:=hn1 c.2 (AW.mpr ⟨c,hc,rfl⟩);have a5:=qIr hL2 hb c hc;refine ⟨by unfold In8;omega,fun hm => ?_⟩
 have a6:=List.isEmpty_iff.mp h.2.2;exact (List.filter_eq_nil_iff.mp a6 c hc) (AQ hm)
theorem Zb {r:qv} {S1 S2 S3 S4:qC} {f g h:FE} {x y z:Int} (h1:f r S1 = .ok (.int x) S2) (h2:g r S2 = .ok (.int y) S3) (h3:h r S3 = .ok (.int z) S4):qy (qA f (qA g (qA h qD))) r S1 = .ok (bP (x,y,z)) S4 :=
 Wc (qJ h1 (qJ h2 (qJ h3 qZ))) (sz rfl)
theorem qDT {a:Ad} {st j:qC} {x L hi wd:Int} {bars:List Bar} {cells:List qc} {x2 x7 x8 x9 x10:Option PV} (hL1:2≤L) (hL2:L≤5) (hh:0 < hi∧hi≤8) (hw:0 < wd∧wd≤8) (hb:∀ b∈bars,OKB b) (hc:∀ c∈cells,In8 c) (hbl:bars.length≤900) (hcl:cells.length≤900) :
  ∃ (y:Int) (bars':List Bar) (cells':List qc) (y8 y9 y10:Option PV),(∀ b∈bars',OKB b)∧(∀ c∈cells',In8 c)∧bars'.length≤bars.length + 1∧cells'.length≤cells.length + L.toNat∧((bars'=bars∧cells'=cells) ∨ ∃ b,OKB b∧bars'=bars++[b]∧cells'=cells++cov L b ∧ ∀ c∈cov L b,In8 c∧c ∉ cells) ∧
   ZK a [some (.ref st.length),some (.int L),x2,some (.lst (cells.map cP)),some (.ref (st.length + 1 + j.length)),some (.int hi),some (.int wd),x7,x8,x9,x10] (st ++ .l [.int x]::(j++[.l (bars.map bP)])) = .nx [some (.ref st.length),some (.int L),x2,some (.lst (cells'.map cP)),some (.ref (st.length + 1 + j.length)),some (.int hi),some (.int wd),x7,y8,y9,y10] (st ++ .l [.int y]::(j++[.l (bars'.map bP)])):=by
 have t1:=Ql (a:=a) (st:=st) (j:=j++[.l (bars.map bP)]) (x:=x) (m:=hi) ⟨hh.1,by omega⟩
 have t2:=Ql (a:=a) (st:=st) (j:=j++[.l (bars.map bP)]) (x:=x / hi) (m:=wd) ⟨hw.1,by omega⟩
 have t3:=Ql (a:=a) (st:=st) (j:=j++[.l (bars.map bP)]) (x:=x / hi / wd) (m:=2) ⟨by decide,by decide⟩
 have t4:=Ql (a:=a) (st:=st) (j:=j++[.l (bars.map bP)]) (x:=x / hi / wd / 2) (m:=2) ⟨by decide,by decide⟩
 have i1:=WQ (x:=x) (m:=hi) hh.1;have i2:=WQ (x:=x / hi) (m:=wd) hw.1;have i3:=WQ (x:=x / hi / wd) (m:=2) (by decide)
 generalize x % hi=r at t1 i1;generalize x / hi % wd=c at t2 i2;generalize x / hi / wd % 2=w at t3 i3;generalize x / hi / wd / 2=x3 at t3 t4;have ob:OKB (r,c,w):=⟨i1.1,by show r≤7;omega,i2.1,by show c≤7;omega,by show w=0∨w=1;omega⟩
 have hg:∀ X:Int,(st++SO.l [.int X]::(j++[.l (bars.map bP)]))[st.length + 1 + j.length]? = some (.l (bars.map bP)):=fun X=>Zd
 -- the bar
 obtain ⟨b,y,y9,hbo,e2⟩:∃ (b:Bar) (y:Int) (y9:Option PV),OKB b∧(Qm (zk (vTB (qP gNe (qB 4) (vFz (Qy qD)))) (vTB (qP gEq (qI (qa a) (qA (qB 0) (qA (vC (.int 2)) qD))) (vC (.int 0))))) (qT (qj 9 (qP gIx (qB 4) (jL (vC (.int 1))))) (qj 8 (qy (qA (qI JY (qA (vC (.int 7)) (qA (qP yS (qP QV (qP gIx (qB 9) (vC (.int 0))) (vC (.int 1))) (qP gIx (qB 9) (vC (.int 2)))) qD))) (qA (qI JY (qA (vC (.int 7)) (qA (qP QV (qP gIx (qB 9) (vC (.int 1))) (qP gIx (qB 9) (vC (.int 2)))) qD))) (qA (qP gIx (qB 9) (vC (.int 2))) qD)))))) QU) [some (.ref st.length),some (.int L),x2,some (.lst (cells.map cP)),some (.ref (st.length + 1 + j.length)),some (.int hi),some (.int wd),x7,some (bP (r,c,w)),x9,x10] (st ++ .l [.int x3]::(j++[.l (bars.map bP)])) = .nx [some (.ref st.length),some (.int L),x2,some (.lst (cells.map cP)),some (.ref (st.length + 1 + j.length)),some (.int hi),some (.int wd),x7,some (bP b),y9,x10] (st ++ .l [.int y]::(j++[.l (bars.map bP)])):=by
  have q0:vTB (qP gNe (qB 4) (vFz (Qy qD))) [some (.ref st.length),some (.int L),x2,some (.lst (cells.map cP)),some (.ref (st.length + 1 + j.length)),some (.int hi),some (.int wd),x7,some (bP (r,c,w)),x9,x10] (st ++ .l [.int x3]::(j++[.l (bars.map bP)])) = .ok (!bars.isEmpty) (st ++ .l [.int x3]::(j++[.l (bars.map bP)])):=Qo (qS rfl rfl (qA9 (j6 (hg x3))));cases hbe:bars with
  |nil =>rw [hbe] at q0;exact ⟨(r,c,w),x3,x9,ob,QA (Jx q0) rfl⟩
  |cons b0 bs =>
   have q0:_=Rs.ok true (st ++ .l [.int x3]::(j++[.l (bars.map bP)])):=q0.trans (by rw [hbe];rfl)
   rw [← hbe];have q1:vTB (qP gEq (qI (qa a) (qA (qB 0) (qA (vC (.int 2)) qD))) (vC (.int 0))) [some (.ref st.length),some (.int L),x2,some (.lst (cells.map cP)),some (.ref (st.length + 1 + j.length)),some (.int hi),some (.int wd),x7,some (bP (r,c,w)),x9,x10] (st ++ .l [.int x3]::(j++[.l (bars.map bP)])) = .ok (x3 % 2==0) (st ++ .l [.int (x3 / 2)]::(j++[.l (bars.map bP)])):=Qo (qS (qK (l:=[.ref st.length,.int 2]) rfl t4) rfl Wu);cases hz:(x3 % 2==0) with
   |false=>rw [hz] at q1;exact ⟨(r,c,w),x3 / 2,x9,ob,QA (yK q0 q1) rfl⟩
   |true =>
    rw [hz] at q1;have hl:bars.length - 1 < bars.length:=by rw [hbe,AM];omega
    let d:=bars[bars.length - 1];have od:OKB d:=hb d (Bj hl);have eix:gIx (.ref (st.length + 1 + j.length)) (.int (-1)) (st ++ .l [.int (x3 / 2)]::(j++[.l (bars.map bP)])) = .ok (bP d) (st ++ .l [.int (x3 / 2)]::(j++[.l (bars.map bP)])):=by
     refine qFj (Yz (hg _)) ?_;unfold L2.atI L2.ixN;rw [AC,AJ (by decide),AH (by omega)]
     show (bars.map bP)[((bars.length:Int) + -1).toNat]? = _;rw [show ((bars.length:Int) + -1).toNat=bars.length - 1 by omega,A1,AU hl]
     rfl
    obtain ⟨d1,d2,d3⟩:=d;unfold OKB at od;dsimp only at od;refine ⟨((if d1 + 1 - d3 < 7 then d1 + 1 - d3 else 7),(if d2 + d3 < 7 then d2 + d3 else 7),d3),x3 / 2,some (bP (d1,d2,d3)),⟨?_,?_,?_,?_,od.2.2.2.2⟩,?_⟩
    ·dsimp only;split <;> omega
    ·dsimp only;split <;> omega
    ·dsimp only;split <;> omega
    ·dsimp only;split <;> omega
    ·exact QO (yK q0 q1) (qR (qr (qS rfl rfl eix)) (qr (Zb (qK (l:=[.int 7,.int (d1 + 1 - d3)]) rfl rfl) (qK (l:=[.int 7,.int (d2 + d3)]) rfl rfl) rfl)))
 obtain ⟨k,ek,hk⟩:=qEM (r:=[some (.ref st.length),some (.int L),x2,some (.lst (cells.map cP)),some (.ref (st.length + 1 + j.length)),some (.int hi),some (.int wd),x7,some (bP b),y9,some (.lst ((cov L b).map cP))]) (st:=st ++ .l [.int y]::(j++[.l (bars.map bP)])) (cells:=cells) hL1 hL2 hbo rfl rfl;have pre:∀ {o:RS},(Qm layT (qT (WW (qB 4) (qB 8)) (qj 3 (vFz (zP (qB 3) (qB 10))))) QU) [some (.ref st.length),some (.int L),x2,some (.lst (cells.map cP)),some (.ref (st.length + 1 + j.length)),some (.int hi),some (.int wd),x7,some (bP b),y9,some (.lst ((cov L b).map cP))] (st ++ .l [.int y]::(j++[.l (bars.map bP)]))=o ->
   ZK a [some (.ref st.length),some (.int L),x2,some (.lst (cells.map cP)),some (.ref (st.length + 1 + j.length)),some (.int hi),some (.int wd),x7,x8,x9,x10] (st ++ .l [.int x]::(j++[.l (bars.map bP)]))=o:=fun {o} h=>by unfold ZK;refine qR (qr (Zb (qK (l:=[.ref st.length,.int hi]) rfl t1) (qK (l:=[.ref st.length,.int wd]) rfl t2) (qK (l:=[.ref st.length,.int 2]) rfl t3))) ?_;refine qR e2 ?_;exact qR (qr (qK (l:=[bP b,.int L]) rfl (qAb (by omega) (by omega)))) h
 cases k with
 |false=>exact ⟨y,bars,cells,some (bP b),y9,some (.lst ((cov L b).map cP)),hb,hc,by omega,by omega,.inl ⟨rfl,rfl⟩,pre (QA ek rfl)⟩
 |true =>
  refine ⟨y,bars++[b],cells++cov L b,some (bP b),y9,some (.lst ((cov L b).map cP)),fun d hd => ?_,fun d hd => ?_,by rw [AY];exact AK _,by rw [AY,W0];omega,.inr ⟨b,hbo,rfl,rfl,hk rfl⟩,pre ?_⟩
  ·rcases An.mp hd with z |z
   ·exact hb d z
   ·rw [Ah.mp z];exact hbo
  ·rcases An.mp hd with z |z
   ·exact hc d z
   ·exact (hk rfl d z).1
  ·have ea:=qFz (fo:=qB 4) (f:=qB 8) (r:=[some (.ref st.length),some (.int L),x2,some (.lst (cells.map cP)),some (.ref (st.length + 1 + j.length)),some (.int hi),some (.int wd),x7,some (bP b),y9,some (.lst ((cov L b).map cP))]) (st:=st) (j:=j) (b := .l [.int y]) (b' := .l [.int y]) (l:=bars.map bP) (p:=bP b) rfl rfl (by rw [AC];omega)
   rw [show bars.map bP++[bP b]=(bars++[b]).map bP by rw [Bd];rfl] at ea
   rw [show (cells++cov L b).map cP=cells.map cP++(cov L b).map cP from Bd];exact QO ek (qR ea (qr (Q0 (Zj rfl rfl rfl rfl (by rw [AC,AC,W0];exact wa (by omega))))))
def Z0 (L:Int) (bars:List Bar) (cells:List qc):Prop:=cells=bars.flatMap (cov L)∧cells.Nodup∧bars.Nodup∧(∀ b∈bars,OKB b) ∧ ∀ c∈cells,In8 c
theorem Y5 {L:Int}:(WG L).Nodup:=by unfold WG;refine CC _ (fun a b h z=>h ?_) (List.nodup_range (n:=L.toNat));exact Int.ofNat.inj z
theorem jn {L:Int} {b:Bar} (h:OKB b):(cov L b).Nodup:=by
 unfold cov;refine CC _ (fun i j hij z=>hij ?_) Y5;unfold J3 at z;injection z with z1 z2;rcases h.2.2.2.2 with w |w
 ·rw [w] at z2;omega
 ·rw [w] at z1;omega
theorem ZW {L:Int} {b:Bar} (hL:2≤L):J3 b 0∈cov L b:=AW.mpr ⟨0,upto_mem.mpr ⟨by decide,by omega⟩,rfl⟩
theorem qDt {L:Int} {bars:List Bar} {cells:List qc} {b:Bar} (hL:2≤L) (I:Z0 L bars cells) (hb:OKB b) (hc:∀ c∈cov L b,In8 c∧c ∉ cells):Z0 L (bars++[b]) (cells++cov L b):=by
 obtain ⟨h1,h2,h3,h4,h5⟩:=I;refine ⟨by rw [h1,List.flatMap_append,List.flatMap_singleton],?_,?_,fun d hd => ?_,fun d hd => ?_⟩
 ·refine BR.mpr ⟨h2,jn hb,fun x hx y hy z => ?_⟩;subst z;exact (hc x hy).2 hx
 ·refine BR.mpr ⟨h3,Ax.mpr ⟨Ag,Bk⟩,fun x hx y hy z => ?_⟩;rw [Ah.mp hy] at z;subst z;refine (hc _ (ZW hL)).2 ?_;rw [h1];exact BI.mpr ⟨x,hx,ZW hL⟩
 ·rcases An.mp hd with z |z
  ·exact h4 d z
  ·rw [Ah.mp z];exact hb
 ·rcases An.mp hd with z |z
  ·exact h5 d z
  ·exact (hc d z).1
theorem jQ {a:Ad} {st j:qC} {L hi wd:Int} {x2:Option PV} (hL1:2≤L) (hL2:L≤5) (hh:0 < hi∧hi≤8) (hw:0 < wd∧wd≤8):∀ (ks:List PV) (x:Int) (bars:List Bar) (cells:List qc) (x7 x8 x9 x10:Option PV),Z0 L bars cells->bars.length + ks.length≤100->cells.length + L.toNat * ks.length≤500 ->
  ∃ (y:Int) (bars':List Bar) (cells':List qc) (y7 y8 y9 y10:Option PV),Z0 L bars' cells'∧bars'.length≤bars.length + ks.length∧cells'.length≤cells.length + L.toNat * ks.length ∧
   Qz (fun _=>True) (qu 7) (ZK a) ks [some (.ref st.length),some (.int L),x2,some (.lst (cells.map cP)),some (.ref (st.length + 1 + j.length)),some (.int hi),some (.int wd),x7,x8,x9,x10] (st ++ .l [.int x]::(j++[.l (bars.map bP)])) = .nx [some (.ref st.length),some (.int L),x2,some (.lst (cells'.map cP)),some (.ref (st.length + 1 + j.length)),some (.int hi),some (.int wd),y7,y8,y9,y10] (st ++ .l [.int y]::(j++[.l (bars'.map bP)]))
 |[],x,bars,cells,x7,x8,x9,x10,hI,_,_=>⟨x,bars,cells,x7,x8,x9,x10,hI,AK _,AK _,Qi trivial⟩
 |k::ks,x,bars,cells,x7,x8,x9,x10,hI,n1,n2=>by
  rw [AM] at n1 n2;rw [Nat.mul_succ] at n2;obtain ⟨y,bs,cs,y8,y9,y10,b1,c1,l1,l2,hor,e⟩:=qDT (a:=a) (st:=st) (j:=j) (x:=x) (L:=L) (hi:=hi) (wd:=wd) (bars:=bars) (cells:=cells) (x2:=x2) (x7:=some k) (x8:=x8) (x9:=x9) (x10:=x10) hL1 hL2 hh hw hI.2.2.2.1 hI.2.2.2.2 (by omega) (by omega)
  have hI':Z0 L bs cs:=by
   rcases hor with ⟨e1,e2⟩ |⟨b,hb,e1,e2,hc⟩
   ·rw [e1,e2];exact hI
   ·rw [e1,e2];exact qDt hL1 hI hb hc
  obtain ⟨z,bs',cs',z7,z8,z9,z10,b2,m1,m2,e2⟩:=jQ hL1 hL2 hh hw ks y bs cs (some k) y8 y9 y10 hI' (by omega) (by omega)
  refine ⟨z,bs',cs',z7,z8,z9,z10,b2,by rw [AM];omega,by rw [AM,Nat.mul_succ];omega,wf trivial rfl e e2⟩
def Z5 (l:List Bar):List Bar:=(srt (l.map bL)).map lB
theorem JK {a:Ad} {st j:qC} {x L T:Int} (hL1:2≤L) (hL2:L≤5) (hT1:1≤T) (hT2:L * T≤60):∃ (bars:List Bar) (cells:List qc) (y:Int) (g:qC),Z0 L bars cells∧(cells.length:Int)≤L * T∧(bars.length:Int)≤T∧ze a [.ref st.length,.int L,.int T] (st ++ .l [.int x]::j) = .ok (.tup [.tup ((yZ cells).map cP),.tup ((Z5 bars).map bP)]) (st ++ .l [.int y]::(j++g)):=by
 have hT3:T≤30:=by
  rcases Int.lt_or_le 30 T with z |z
  ·have h1:2 * 31≤L * T:=Int.mul_le_mul hL1 (by omega) (by decide) (by omega)
   omega
  ·exact z
 have hLT:0≤L * T:=Int.mul_nonneg (by omega) (by omega)
 have t1:=Ql (a:=a) (st:=st) (j:=j++[.l []]) (x:=x) (m:=9 - L) ⟨by omega,by omega⟩
 have t2:=Ql (a:=a) (st:=st) (j:=j++[.l []]) (x:=x / (9 - L)) (m:=9 - L) ⟨by omega,by omega⟩
 have t3:=Ql (a:=a) (st:=st) (j:=j++[.l []]) (x:=x / (9 - L) / (9 - L)) (m:=T) ⟨by omega,by omega⟩
 have i1:=WQ (x:=x) (m:=9 - L) (by omega)
 have i2:=WQ (x:=x / (9 - L)) (m:=9 - L) (by omega)
 have i3:=WQ (x:=x / (9 - L) / (9 - L)) (m:=T) (by omega)
 generalize x % (9 - L)=h1 at t1 i1;generalize x / (9 - L) % (9 - L)=w1 at t2 i2;generalize x / (9 - L) / (9 - L) % T=n1 at t3 i3;generalize x / (9 - L) / (9 - L) / T=x3 at t3;have hks:((WG (1 + n1)).map PV.int).length=(1 + n1).toNat:=by rw [AC,WX]
 have hLn:L.toNat * (1 + n1).toNat≤(L * T).toNat:=by
  have:L * (1 + n1)≤L * T:=Int.mul_le_mul_of_nonneg_left (by omega) (by omega)
  have e:(L.toNat * (1 + n1).toNat:Int)=L * (1 + n1):=by rw [CS (by omega),CS (by omega)]
  omega
 obtain ⟨y,bars,cells,y7,y8,y9,y10,hI,l1,l2,e⟩:=jQ (a:=a) (st:=st) (j:=j) (L:=L) (hi:=L + h1) (wd:=L + w1) (x2:=some (.int T)) hL1 hL2 (by omega) (by omega) ((WG (1 + n1)).map PV.int) x3 [] [] none none none none ⟨rfl,Bk,Bk,fun b h=>(by cases h),fun c h=>(by cases h)⟩ (by rw [hks];show 0 + _≤100;omega) (by rw [hks];show 0 + _≤500;omega)
 rw [hks] at l1 l2;have l1:bars.length≤0 + (1 + n1).toNat:=l1;have l2:cells.length≤0 + L.toNat * (1 + n1).toNat:=l2;obtain ⟨m,q0,q1,q2,q3⟩:=qBk (l:=bars) (q := .ref (st.length + 1 + j.length)) (st:=st ++ .l [.int y]::(j++[.l (bars.map bP)])) (Yz Zd) (by omega)
 subst q0;refine ⟨bars,cells,y,[.l (bars.map bP)],hI,by omega,by omega,qm rfl ?_⟩
 unfold YV;refine qR (qr rfl) (qR (qFy (ZA qZ (sz rfl))) ?_);refine qR (qKw (qJ (qS rfl (qK (l:=[.ref st.length,.int (9 - L)]) rfl t1) WH) (qJ (qS rfl (qK (l:=[.ref st.length,.int (9 - L)]) rfl t2) WH) qZ))) ?_;refine qR (ZM (itN (L:=1 + n1) (by omega) (by omega) (qJ (qS rfl (qK (l:=[.ref st.length,.int T]) rfl t3) WH) qZ)) e) ?_
 exact QB (Wc (qJ (qK (qJ (Yy rfl (qER rfl (by omega))) qZ) (zc rfl)) (qJ (qK (qJ (Yy rfl q3) qZ) (zc rfl)) qZ)) (sz rfl))
theorem qJO {a:Ad} {st j:qC} {x:Int}:∃ v,okV v=true∧yb a [.ref st.length] (st ++ .l [.int x]::j) = .ok v (st ++ .l [.int (x / 27)]::j):=by
 have t1:=Ql (a:=a) (st:=st) (j:=j) (x:=x) (m:=27) ⟨by decide,by decide⟩
 have hx:=WQ (x:=x) (m:=27) (by decide)
 let l1:List PV:=[.non,.bl true,.bl false,.int (-1),.int 0,.int 1,.int 2,.int 5,.int 6,.str "",.str "0",.str "none",.tup [],.tup [.int 0],.tup [.int 0,.int 0],.tup [.int 0,.int 0,.int 0],.lst [.int 0],.dct,.tup [.int 0,.int 0,.bl true]];let l2:List PV:=[.tup [.tup [.int 0,.int 0,.int 0]],.tup [.tup [.int 0,.int 0,.int 1]],.lst [.tup [.int 0,.int 0,.int 0]],.int (10 ^ 39),.tup [.int 0,.int 0,.int 2],.tup [.int 0,.int (-1),.int 0],.tup [.tup [.int 0,.int 0]],.tup [.int 0,.int 0,.int 0,.int 0]];obtain ⟨p,hp,e⟩:=qJm (l:=l1++l2) (i:=x % 27) (st:=st ++ .l [.int (x / 27)]::j) hx.1 hx.2;refine ⟨p,At.mp (show (l1++l2).all okV=true from rfl) p hp,qm rfl (qR (qr (p := .lst l1) rfl) (qR (qr (p := .lst (l1++l2)) (Q0 (Zj (l:=l1) (m:=l2) rfl rfl rfl rfl (sz rfl)))) (QB (qS rfl (qK (l:=[.ref st.length,.int 27]) (qJ rfl (qJ (qK (l:=[.lst (l1++l2)]) rfl (zh rfl rfl)) qZ)) t1) e))))⟩
theorem Yh {bs:List Bar}:∀ p∈bs.map bP,okP p=true:=fun p hp=>by obtain ⟨c,_,rfl⟩:=AW.mp hp;rfl
theorem qKF {bs:List Bar} {i:Nat} {st:qC} (h:i < bs.length):gIx (.tup (bs.map bP)) (.int (i:Int)) st = .ok (bP bs[i]) st:=by
 refine qFj rfl ?_;unfold L2.atI;rw [JX (by omega) (by rw [AC];omega),Option.bind_some,B9,A1,AU h]
 rfl
def Zl:PV->Bool
 | .tup [x,y,w]=>QT (-40) 40 x&&(QT (-40) 40 y&&QT 0 1 w)
 |_=>false
theorem qFe {l:List PV} (q:¬ (l.length:Int)=3):Zl (.tup l)=false:=by
 unfold Zl;split
 ·rename_i x y w e;cases e;exact absurd rfl q
 ·rfl
theorem qIh {a:Ad} {v:PV} {st:qC} (hv:okP v=true):yI a [v] st = .ok (.bl (Zl v)) st:=by
 have e1:=YK (a:=a) (st:=st) (yp hv);cases v with
 |tup l =>
  have e1:Qa (kit a) [.tup l,.ty "tuple"] st = .ok (.bl true) st:=e1;have hv:(Nat.ble l.length 1000&&l.all WI)=true:=hv;rw [AZ,At] at hv;have e2:vTB (qP gNe (qI w4 (qA (qB 0) qD)) (vC (.int 3))) (Qh 4 [.tup l]) st = .ok (!decide ((l.length:Int)=3)) st:=Qo (qS (qK (l:=[.tup l]) rfl (zh rfl rfl)) rfl qI0);by_cases q:(l.length:Int)=3
  ·rw [AQ q] at e2;refine qm rfl (qR (QA (wG (w_not (b:=true) (QC (qK (l:=[.tup l,.ty "tuple"]) rfl e1))) e2) rfl) ?_)
   match l,q,hv with
   |[x,y,w],_,hv =>
    have px:=hv.2 x (by simp)
    have py:=hv.2 y (by simp)
    have pw:=hv.2 w (by simp)
    refine qR (zB (r1:=[some (.tup [x,y,w]),some x,some y,some w]) rfl rfl) ?_;have c1:=QC (qK (fa:=qA (qB 1) (qA (jL (vC (.int 40))) (qA (vC (.int 40)) qD))) (r:=[some (.tup [x,y,w]),some x,some y,some w]) (st:=st) (l:=[x,.int (-40),.int 40]) rfl (yN (a:=a) (lo := -40) (hi:=40) (st:=st) px));have c2:=QC (qK (fa:=qA (qB 2) (qA (jL (vC (.int 40))) (qA (vC (.int 40)) qD))) (r:=[some (.tup [x,y,w]),some x,some y,some w]) (st:=st) (l:=[y,.int (-40),.int 40]) rfl (yN (a:=a) (lo := -40) (hi:=40) (st:=st) py));show _=RS.rt (PV.bl (QT (-40) 40 x&&(QT (-40) 40 y&&QT 0 1 w))) st;cases h1:QT (-40) 40 x with
    |false=>rw [h1] at c1;exact Q2 (QO (Zr (w_not c1)) (QB rfl))
    |true =>
     rw [h1] at c1;cases h2:QT (-40) 40 y with
     |false=>rw [h2] at c2;exact Q2 (QO (wG (w_not c1) (w_not c2)) (QB rfl))
     |true =>rw [h2] at c2;exact qR (QA (wG (w_not c1) (w_not c2)) rfl) (QB (qK (l:=[w,.int 0,.int 1]) rfl (yN pw)))
  ·rw [AV q] at e2;rw [qFe q];exact qm rfl (Q2 (QO (wG (w_not (b:=true) (QC (qK (l:=[.tup l,.ty "tuple"]) rfl e1))) e2) (QB rfl)))
 |_=>first |(cases hv;done) |exact qm rfl (Q2 (QO (Zr (w_not (b:=false) (QC (qK (l:=[_,.ty "tuple"]) rfl e1)))) (QB rfl)))
theorem qB5 {p:PV} (h:Zl p=true):p=bP (unB p) ∧ -40≤(unB p).1∧(unB p).1≤40 ∧ -40≤(unB p).2.1∧(unB p).2.1≤40∧((unB p).2.2=0∨(unB p).2.2=1):=by
 unfold Zl at h;split at h
 ·rename_i x y w;rw [AZ,AZ] at h;obtain ⟨i,rfl,i1,i2⟩:=Zn h.1;obtain ⟨j,rfl,j1,j2⟩:=Zn h.2.1;obtain ⟨k,rfl,k1,k2⟩:=Zn h.2.2;exact ⟨rfl,i1,i2,j1,j2,by show k=0∨k=1;omega⟩
 ·cases h
theorem qDC {l:List PV} (h:l.all Zl=true):l=(l.map unB).map bP:=by rw [Au];refine (List.map_id l).symm.trans (A6 fun p hp => ?_);exact (qB5 (At.mp h p hp)).1
def zD (b c:Bar):Bool:=if b.1=c.1 then (if b.2.1=c.2.1 then decide (b.2.2 < c.2.2) else decide (b.2.1 < c.2.1)) else decide (b.1 < c.1)
theorem qLS {c d:Bar} {st:qC}:qC3 (bP c) (bP d) st = .ok (.bl (zD c d)) st:=by
 show (if zd (bP c) (bP d)=true then (match plts [.int c.1,.int c.2.1,.int c.2.2] [.int d.1,.int d.2.1,.int d.2.2] with |some r=>Rs.ok (PV.bl r) st |none => .no) else .no)=_;have h0:zd (bP c) (bP d)=true:=rfl;rw [AH h0]
 have:plts [.int c.1,.int c.2.1,.int c.2.2] [.int d.1,.int d.2.1,.int d.2.2]=some (zD c d):=by
  show (if (c.1==d.1)=true then (if (c.2.1==d.2.1)=true then (if (c.2.2==d.2.2)=true then some false else some (decide (c.2.2 < d.2.2))) else some (decide (c.2.1 < d.2.1))) else some (decide (c.1 < d.1)))=_;unfold zD;by_cases h:c.1=d.1
  ·rw [AH (A4.mpr h),AH h];by_cases h2:c.2.1=d.2.1
   ·rw [AH (A4.mpr h2),AH h2];by_cases h3:c.2.2=d.2.2
    ·rw [AH (A4.mpr h3),AV (by omega)]
    ·rw [AJ (by rw [A4];exact h3)]
   ·rw [AJ (by rw [A4];exact h2),AJ h2]
  ·rw [AJ (by rw [A4];exact h),AJ h]
 rw [this]
def Z7:List Bar->Bool
 |[]=>true
 |[_]=>true
 |b::c::l=>zD b c&&Z7 (c::l)
theorem Yk:∀ {bs:List Bar},Z7 bs=true ↔ ∀ i,(h:i + 1 < bs.length)->zD bs[i] bs[i + 1]=true
 |[]=>⟨fun _ i h=>by simp at h,fun _=>rfl⟩
 |[_]=>⟨fun _ i h=>by simp at h,fun _=>rfl⟩
 |b::c::l=>by
  rw [Z7,AZ,Yk (bs:=c::l)];constructor
  ·rintro ⟨h1,h2⟩ i hi
   cases i with
   |zero=>exact h1
   |succ i=>exact h2 i (by simpa using hi)
  ·intro h;exact ⟨h 0 (by simp),fun i hi=>h (i + 1) (by simpa using hi)⟩
def adj (F:List Bar) (p:PV):Bool:=match p with
 | .int k=>zD (F.getD (k - 1).toNat (0,0,0)) (F.getD k.toNat (0,0,0))
 |_=>false
theorem yY {F:List Bar} {i:Nat} (h:i < F.length):F.getD i (0,0,0)=F[i]:=by rw [Ac,AU h];rfl
theorem qFD {a:Ad} {F:List Bar} {st:qC} (h40:F.length≤900):ZN a [.tup (F.map bP)] st = .ok (.bl (Z7 F)) st:=by
 have e:=QY (caps:=[0]) (n:=1) (fi:=qAi (qA (vC (.int 1)) (qA (qI w4 (qA (qB 0) qD)) qD))) (g:=q9 1) (f:=qP qC3 (qP gIx (qB 0) (qP yS (qB 1) (vC (.int 1)))) (qP gIx (qB 0) (qB 1))) (r:=Qh 1 [.tup (F.map bP)]) (st:=st) (w:=⟨yj 1 (F.length:Int),fun _=>True⟩) (F:=fun p => .bl (adj F p)) (itR (by decide) (by decide) (by omega) (by omega) (qJ rfl (qJ (qK (l:=[.tup (F.map bP)]) rfl (zh rfl (by rw [AC]))) qZ))) trivial (by unfold yj;rw [AC,List.length_range];exact wa (by omega)) fun p hp=>by
  obtain ⟨i,hi,rfl⟩:=AW.mp hp;have hi:=A9.mp hi;have h0:i < F.length:=by omega
  have h1:i + 1 < F.length:=by omega
  have g1:gIx (.tup (F.map bP)) (.int (1 + (i:Int) - 1)) st = .ok (bP F[i]) st:=by rw [show (1:Int) + (i:Int) - 1=(i:Int) by omega];exact qKF h0
  have g2:gIx (.tup (F.map bP)) (.int (1 + (i:Int))) st = .ok (bP F[i + 1]) st:=by rw [show (1:Int) + (i:Int)=((i + 1:Nat):Int) by omega];exact qKF h1
  refine ⟨[some (.tup (F.map bP)),some (.int (1 + (i:Int)))],rfl,(qS (qS rfl (qS rfl rfl qBp) g1) (qS rfl rfl g2) qLS).trans ?_⟩;show _=Rs.ok (PV.bl (zD (F.getD (1 + (i:Int) - 1).toNat (0,0,0)) (F.getD (1 + (i:Int)).toNat (0,0,0)))) st;rw [show (1 + (i:Int) - 1).toNat=i by omega,show (1 + (i:Int)).toNat=i + 1 by omega,yY h0,yY h1]
 have key:(yj 1 (F.length:Int)).all (adj F)=Z7 F:=by
  rw [Bool.eq_iff_iff,Yk,At];constructor
  ·intro h i hi
   have:=h (.int (1 + (i:Int))) (AW.mpr ⟨i,A9.mpr (by omega),rfl⟩)
   have this:zD (F.getD (1 + (i:Int) - 1).toNat (0,0,0)) (F.getD (1 + (i:Int)).toNat (0,0,0))=true:=this;rw [show (1 + (i:Int) - 1).toNat=i by omega,show (1 + (i:Int)).toNat=i + 1 by omega,yY (by omega),yY hi] at this
   exact this
  ·intro h p hp;obtain ⟨i,hi,rfl⟩:=AW.mp hp;have hi:=A9.mp hi;have h1:i + 1 < F.length:=by omega
   show zD (F.getD (1 + (i:Int) - 1).toNat (0,0,0)) (F.getD (1 + (i:Int)).toNat (0,0,0))=true;rw [show (1 + (i:Int) - 1).toNat=i by omega,show (1 + (i:Int)).toNat=i + 1 by omega,yY (by omega),yY h1]
   exact h i h1
 rw [← key];exact qm rfl (QB (qK (qJ (Q0 e) qZ) Zv))
def inF (F:List qc) (L:Int) (b:Bar):Bool:=(cov L b).all fun c=>decide (c∈F)
theorem qDX {a:Ad} {F:List qc} {L:Int} {b:Bar} {st:qC} (h1:0≤L) (h2:L≤1000) (hw:b.2.2=0∨b.2.2=1):W2 a [.tup (F.map cP),bP b,.int L] st = .ok (.bl (inF F L b)) st:=by
 have e:=QY (caps:=[0]) (n:=1) (fi:=qq (qI (wJ a) (qA (qB 1) (qA (qB 2) qD)))) (g:=q9 1) (f:=qP (gIn false) (qB 1) (qB 0)) (r:=Qh 3 [.tup (F.map cP),bP b,.int L]) (st:=st) (w:=⟨(cov L b).map cP,fun _=>True⟩) (F:=fun p => .bl (decide (unC p∈F))) (Qj (qK (l:=[bP b,.int L]) rfl (jc h1 h2 hw))) trivial (by rw [AC,W0];exact wa (by omega)) fun p hp=>by obtain ⟨c,_,rfl⟩:=AW.mp hp;exact ⟨[some (.tup (F.map cP)),some (cP c)],rfl,qS rfl rfl (qDR rfl)⟩
 refine qm rfl (QB ((qK (qJ (Q0 e) qZ) Zv).trans ?_));rw [List.all_map];rfl
def cells (L:Int) (bs:List Bar):List qc:=bs.flatMap (cov L)
theorem zE {L:Int}:∀ {bs:List Bar},(cells L bs).length=L.toNat * bs.length
 |[]=>rfl
 |b::bs=>by show (cov L b++cells L bs).length=_;rw [AY,W0,zE (bs:=bs),AM,Nat.mul_succ];omega
theorem qGO {fi:FI} {g:FG} {rest:FL} {r r':qv} {st:qC} {p:PV} {R:Rs (List PV)} (h:g p r=some r') (h2:rest r' st=R):Qk ⟨fi,g,[]⟩ rest r p st=R:=by unfold Qk;dsimp only;rw [h];exact h2
theorem qBj {a:Ad} {L:Int} {bs:List Bar} {st:qC} (h1:0≤L) (h2:L≤5) (hbs:bs.length≤59) (hw:∀ b∈bs,b.2.2=0∨b.2.2=1):zM a [.tup (bs.map bP),.int L] st = .ok (.lst ((cells L bs).map cP)) st:=by
 have e:QI (fun _=>True) (Qk ⟨qq (qB 0),q9 1,[]⟩ (wB [⟨(qq (qI (wJ a) (qA (qB 1) (qA (qB 0) qD)))),(q9 2),[]⟩] (qB 2)) [some (.int L),none,none]) (bs.map bP) st = .ok ((bs.map bP).flatMap fun p=>((cov L (unB p)).map cP).flatMap fun q=>[q]) st:=by
  refine wl trivial fun p hp => ?_;obtain ⟨b,hb,rfl⟩:=AW.mp hp;refine qGO rfl ?_;show ((qq (qI (wJ a) (qA (qB 1) (qA (qB 0) qD)))) [some (.int L),some (bP b),none] st).bind _=_;rw [Qj (qK (l:=[bP b,.int L]) rfl (jc h1 (by omega) (hw b hb)))]
  show QI _ _ _ _=_;exact wl trivial fun q hq=>yk rfl rfl
 have e2:((bs.map bP).flatMap fun p=>((cov L (unB p)).map cP).flatMap fun q=>[q])=(cells L bs).map cP:=by unfold cells;rw [List.flatMap_map,List.map_flatMap];congr 1;funext b;rw [← List.map_eq_flatMap,List.map_id'];rfl
 rw [e2] at e;exact qm rfl (QB (Q0 (Jg (w:=⟨bs.map bP,fun _=>True⟩) (Qj rfl) e (by rw [AC,zE];exact wa (by have:L.toNat * bs.length≤5 * 59:=Nat.mul_le_mul (by omega) hbs;omega)))))
def jf (C:List qc):Bool:=((ddT (C.map cL)).length:Int)==(C.length:Int)
theorem qIT {C:List qc} {r:qv} {st:qC} {f:FE} (h:f r st = .ok (.lst (C.map cP)) st) (hl:C.length≤299):qP gEq (Yw f) (qI w4 (qA f qD)) r st = .ok (.bl (jf C)) st :=
 qS (qIj h (qIY rfl hl)) (qK (qJ h qZ) (zh rfl (by rw [AC]))) Wu
def jw (F:List qc) (L:Int):PV->Bool
 | .tup l=>l.all Zl&&(Z7 (l.map unB)&&(l.all (fun p=>inF F L (unB p))&&jf (cells L (l.map unB))))
 |_=>false
theorem qJs {a:Ad} {v:PV} {st:qC} (h:WI v=true) (hw:QT 2 5 v=true):Qu a [v] st = .ok .non st:=by rw [Zf h,AH hw]
theorem qIC {a:Ad} {v:PV} {st:qC} (h:WI v=true) (hw:QT 2 5 v=false):Qu a [v] st = .ex ⟨a.Z1,[]⟩ st:=by rw [Zf h,hw];rfl
theorem qLV {L:Int} (h1:2≤L) (h2:L≤5):QT 2 5 (.int L)=true:=by simp [QT,h1,h2]
theorem qBe {a:Ad} {F:List qc} {L:Int} {v:PV} {st:qC} (h1:2≤L) (h2:L≤5) (hv:okV v=true):Wh a [.tup (F.map cP),.int L,v] st = .ok (.bl (jw F L v)) st:=by
 have e1:=YK (a:=a) (st:=st) (yn hv);have e0:WD (qI (Qu a) (qA (qB 1) qD)) (Qh 4 [.tup (F.map cP),.int L,v]) st = .nx (Qh 4 [.tup (F.map cP),.int L,v]) st:=yU (qK (l:=[.int L]) rfl (qJs rfl (qLV h1 h2)));cases v with
 |tup l =>
  have e1:Qa (kit a) [.tup l,.ty "tuple"] st = .ok (.bl true) st:=e1;have hv:(Nat.ble l.length 59&&l.all okP)=true:=hv;rw [AZ,At] at hv;have hl:l.length≤59:=CG hv.1;have e:=QY (caps:=[]) (n:=1) (fi:=qq (qB 2)) (g:=q9 0) (f:=qI (yI a) (qA (qB 0) qD)) (r:=Qh 4 [.tup (F.map cP),.int L,.tup l]) (st:=st) (w:=⟨l,fun _=>True⟩) (F:=fun p => .bl (Zl p)) (Qj rfl) trivial (wa (by show l.length≤_;omega)) fun p hp=>⟨[some p],rfl,qK (l:=[p]) rfl (qIh (hv.2 p hp))⟩
  have eb:=QC (qK (k:=zu) (qJ (Q0 e) qZ) Zv);have t0:wb (QL (qI (Qa (kit a)) (qA (qB 2) (qA (vC (.ty "tuple")) qD)))) (Qh 4 [.tup (F.map cP),.int L,.tup l]) st = .ok false st:=w_not (b:=true) (QC (qK (l:=[.tup l,.ty "tuple"]) rfl e1));show _=Rs.ok (PV.bl (l.all Zl&&(Z7 (l.map unB)&&(l.all (fun p=>inF F L (unB p))&&jf (cells L (l.map unB)))))) st;cases hb:l.all Zl with
  |false=>rw [hb] at eb;exact qm rfl (qR e0 (Q2 (QO (wG t0 (Zr (w_not eb))) (QB rfl))))
  |true =>
   rw [hb] at eb;have hbk:=qDC hb;have hw:∀ b∈l.map unB,b.2.2=0∨b.2.2=1:=fun b hm=>by obtain ⟨p,hp,rfl⟩:=AW.mp hm;exact (qB5 (At.mp hb p hp)).2.2.2.2.2
   have er:=qFD (a:=a) (F:=l.map unB) (st:=st) (by rw [AC];omega)
   rw [← hbk] at er;have er:=QC (qK (fa:=qA (qB 2) qD) (r:=Qh 4 [.tup (F.map cP),.int L,.tup l]) (l:=[.tup l]) rfl er);cases hr:Z7 (l.map unB) with
   |false=>rw [hr] at er;exact qm rfl (qR e0 (Q2 (QO (wG t0 (wG (w_not eb) (w_not er))) (QB rfl))))
   |true =>
    rw [hr] at er;have ew:=QY (caps:=[0,1]) (n:=1) (fi:=qq (qB 2)) (g:=q9 2) (f:=qI (W2 a) (qA (qB 0) (qA (qB 2) (qA (qB 1) qD)))) (r:=Qh 4 [.tup (F.map cP),.int L,.tup l]) (st:=st) (w:=⟨l,fun _=>True⟩) (F:=fun p => .bl (inF F L (unB p))) (Qj rfl) trivial (wa (by show l.length≤_;omega)) fun p hp=>by
     have hq:=qB5 (At.mp hb p hp);refine ⟨[some (.tup (F.map cP)),some (.int L),some p],rfl,qK (l:=[.tup (F.map cP),p,.int L]) rfl ?_⟩
     have:=qDX (a:=a) (F:=F) (L:=L) (b:=unB p) (st:=st) (by omega) (by omega) hq.2.2.2.2.2
     rw [← hq.1] at this;exact this
    have ew:=QC (qK (k:=zu) (qJ (Q0 ew) qZ) Zv);refine qm rfl (qR e0 (qR (QA (wG t0 (wG (w_not eb) (w_not er))) rfl) ?_));cases hi:l.all (fun p=>inF F L (unB p)) with
    |false=>rw [hi] at ew;exact Q2 (QO (w_not ew) (QB rfl))
    |true =>
     rw [hi] at ew;have ec:=qBj (a:=a) (L:=L) (bs:=l.map unB) (st:=st) (by omega) h2 (by rw [AC];exact hl) hw
     rw [← hbk] at ec;exact qR (QA (w_not ew) rfl) (qR (qr (qK (l:=[.tup l,.int L]) rfl ec)) (QB (qIT rfl (by rw [zE,AC];have:L.toNat * l.length≤5 * 59:=Nat.mul_le_mul (by omega) hl;omega))))
 |_=>first |(cases hv;done) |exact qm rfl (qR e0 (Q2 (QO (Zr (w_not (b:=false) (QC (qK (l:=[_,.ty "tuple"]) rfl e1)))) (QB rfl))))
theorem qBi {a:Ad} {F v u:PV} {st:qC} (hu:WI u=true) (nu:QT 2 5 u=false):Wh a [F,u,v] st = .ex ⟨a.Z1,[]⟩ st :=
 wD rfl (ZS (zI (qK (l:=[u]) rfl (qIC hu nu))))
def zl (F:List qc) (L:Int) (v:PV):Bool:=jw F L v&&(match v with | .tup l=>(l.length:Int) * L==(F.length:Int) |_=>false)
theorem qFq {F:List qc} {L:Int} {v:PV} (h:jw F L v=true):∃ l,v = .tup l∧l.all Zl=true:=by
 cases v with
 |tup l =>have h:(l.all Zl&&_)=true:=h;rw [AZ] at h;exact ⟨l,rfl,h.1⟩
 |_=>cases h
theorem qJS {F:List qc} {L:Int} {l:List PV} {r:qv} {st:qC} {f g h:FE} (hL:-(2 ^ 64) < L∧L < 2 ^ 64) (h1:f r st = .ok (.tup l) st) (h2:g r st = .ok (.int L) st) (h3:h r st = .ok (.tup (F.map cP)) st):qP gEq (qP zt (qI w4 (qA f qD)) g) (qI w4 (qA h qD)) r st = .ok (.bl ((l.length:Int) * L==(F.length:Int))) st :=
 qS (qS (qK (qJ h1 qZ) (zh rfl rfl)) h2 (qB4 hL)) (qK (qJ h3 qZ) (zh rfl (by rw [AC]))) Wu
theorem qK3 {F:List qc} {L:Int} {v:PV} {r:qv} {st:qC} {e f g h:FE} (hL:-(2 ^ 64) < L∧L < 2 ^ 64) (h0:e r st = .ok (.bl (jw F L v)) st) (h1:f r st = .ok v st) (h2:g r st = .ok (.int L) st) (h3:h r st = .ok (.tup (F.map cP)) st):ZU e (qP gEq (qP zt (qI w4 (qA f qD)) g) (qI w4 (qA h qD))) r st = .ok (.bl (zl F L v)) st:=by
 unfold zl;cases hp:jw F L v with
 |false=>rw [hp] at h0;exact ZC h0
 |true =>rw [hp] at h0;obtain ⟨l,rfl,_⟩:=qFq hp;rw [Bool.true_and];exact Yg h0 (qJS hL h1 h2 h3)
theorem Y0 {a:Ad} {F:List qc} {L:Int} {v:PV} {st:qC} (h1:2≤L) (h2:L≤5) (hv:okV v=true):Wf a [.tup (F.map cP),.int L,v] st = .ok (.bl (zl F L v)) st :=
 qm rfl (QB (qK3 (by omega) (qK (l:=[.tup (F.map cP),.int L,v]) rfl (qBe h1 h2 hv)) rfl rfl rfl))
theorem qBZ {a:Ad} {F v u:PV} {st:qC} (hu:WI u=true) (nu:QT 2 5 u=false):Wf a [F,u,v] st = .ex ⟨a.Z1,[]⟩ st:=by refine wD rfl (qEn ?_);unfold ZU;rw [qK (l:=[F,u,v]) rfl (qBi hu nu)];rfl
theorem YR {α:Type} [DecidableEq α]:∀ {G F:List α},G.Nodup->(∀ c∈G,c∈F)->G.length≤F.length
 |[],_,_,_=>A7 _
 |c::G,F,hn,hs=>by
  have hn':=Ax.mp hn;have hc:=hs c AI;have ih:=YR (G:=G) (F:=F.erase c) hn'.2 fun d hd=>by
   have hne:d≠c:=fun z=>hn'.1 (by rw [← z];exact hd)
   exact (List.mem_erase_of_ne hne).mpr (hs d (AD _ hd))
  rw [List.length_erase_of_mem hc] at ih
  have:0 < F.length:=List.length_pos_of_mem hc
  rw [AM];omega
theorem qBV {C:List qc} (h:C.Nodup):jf C=true:=by
 have h1:=qGz C;have h2:(C.map cL).Nodup:=CC _ (fun a b hab z=>hab (by
  have z:[a.1,a.2]=[b.1,b.2]:=z;injection z with z1 z2;injection z2 with z2 _;exact Prod.ext z1 z2)) h
 have h3:=YR (F:=ddT (C.map cL)) h2 fun c hc=>ddT_in.mpr hc;rw [AC] at h3;unfold jf;rw [A4];omega
theorem yo (l:List Bar):(Z5 l).Perm l:=by unfold Z5;have h:=(wL (l.map bL)).map lB;rw [Au] at h;have e:l.map (lB ∘ bL)=l:=(A6 fun b _=>rfl).trans (List.map_id l);rw [e] at h;exact h
theorem qHJ (l:List Bar):(Z5 l).map bL=srt (l.map bL):=by unfold Z5;rw [Au];refine (A6 fun x hx => ?_).trans (List.map_id _);obtain ⟨c,_,rfl⟩:=AW.mp ((wL _).mem_iff.mp hx);rfl
theorem qIo {b c:Bar} (h:lxb (bL c) (bL b)=false) (hne:b≠c):zD b c=true:=by
 obtain ⟨b1,b2,b3⟩:=b;obtain ⟨c1,c2,c3⟩:=c;have h:(if c1 < b1 then true else if b1 < c1 then false else if c2 < b2 then true else if b2 < c2 then false else if c3 < b3 then true else if b3 < c3 then false else false)=false:=h;unfold zD;dsimp only;by_cases e1:b1=c1
 ·subst e1;rw [AJ (CM _),AJ (CM _)] at h;rw [AH rfl];by_cases e2:b2=c2
  ·subst e2;rw [AJ (CM _),AJ (CM _)] at h;rw [AH rfl];by_cases e3:c3 < b3
   ·rw [AH e3] at h;cases h
   ·have:b3≠c3:=fun z=>hne (by rw [z])
    exact AQ (by omega)
  ·rw [AJ e2];by_cases e3:c2 < b2
   ·rw [AH e3] at h;cases h
   ·exact AQ (by omega)
 ·rw [AJ e1];by_cases e3:c1 < b1
  ·rw [AH e3] at h;cases h
  ·exact AQ (by omega)
theorem qAt {l:List Bar} (h:l.Nodup):Z7 (Z5 l)=true:=by
 rw [Yk];intro i hi;have hn:(Z5 l).Nodup:=(yo l).nodup_iff.mpr h;have hp:=qFC (l.map bL);rw [← qHJ,CA] at hp;refine qIo (Bu.mp hp i (i + 1) (by omega) hi (by omega)) ?_
 exact Bu.mp hn i (i + 1) (by omega) hi (by omega)
theorem qGI {b:Bar} (h:OKB b):Zl (bP b)=true:=by
 unfold OKB at h;show (QT (-40) 40 (.int b.1)&&(QT (-40) 40 (.int b.2.1)&&QT 0 1 (.int b.2.2)))=true;rw [Zz,Zz,Zz,AQ (by omega),AQ (by omega),AQ (by omega),AQ (by omega),AQ (by omega),AQ (by omega)]
 rfl
theorem qGd {l:List Bar}:(l.map bP).map unB=l:=by rw [Au];exact (A6 fun b _=>rfl).trans (List.map_id l)
theorem Yp {i:Nat} {f:FE} {r:qv} {st s1:qC} {x:Exc} (h:f r st = .ex x s1):qj i f r st = .ex x s1:=by unfold qj;rw [h];rfl
theorem qIS (a:Ad):a.Z1∈QN a:=by unfold QN;simp
theorem qKi {b:Bool} {st:qC}:gNe (.bl b) (.bl b) st = .ok (.bl false) st:=by cases b <;> rfl
theorem qFY {a b c:Bar} (h1:zD a b=true) (h2:zD b c=true):zD a c=true:=by
 unfold zD at *;obtain ⟨a1,a2,a3⟩:=a;obtain ⟨b1,b2,b3⟩:=b;obtain ⟨c1,c2,c3⟩:=c;dsimp only at *;by_cases e1:a1=b1
 ·rw [AH e1] at h1;by_cases e2:b1=c1
  ·rw [AH e2] at h2;rw [AH (e1.trans e2)];by_cases f1:a2=b2
   ·rw [AH f1] at h1;by_cases f2:b2=c2
    ·rw [AH f2] at h2;rw [AH (f1.trans f2)]
     have:=Aq h1;have:=Aq h2
     exact AQ (by omega)
    ·rw [AJ f2] at h2;rw [AJ (by omega)]
     have:=Aq h2
     exact AQ (by omega)
   ·rw [AJ f1] at h1;have g1:=Aq h1;by_cases f2:b2=c2
    ·rw [AJ (by omega)]
     exact AQ (by omega)
    ·rw [AJ f2] at h2;have g2:=Aq h2;rw [AJ (by omega)]
     exact AQ (by omega)
  ·rw [AJ e2] at h2
   have:=Aq h2
   rw [AJ (by omega)]
   exact AQ (by omega)
 ·rw [AJ e1] at h1;have g1:=Aq h1;by_cases e2:b1=c1
  ·rw [AJ (by omega)]
   exact AQ (by omega)
  ·rw [AJ e2] at h2;have g2:=Aq h2;rw [AJ (by omega)]
   exact AQ (by omega)
theorem YG {a:Bar} (h:zD a a=true):False:=by
 unfold zD at h;rw [AH rfl,AH rfl] at h
 have:=Aq h
 omega
theorem Jw:∀ {l:List Bar},Z7 l=true->l.Pairwise fun b c=>zD b c=true
 |[],_=>List.Pairwise.nil
 |[b],_=>List.pairwise_singleton _ b
 |b::c::l,h=>by
  rw [Z7,AZ] at h;have ih:=Jw h.2;refine BG.mpr ⟨fun d hd => ?_,ih⟩;rcases AE.mp hd with rfl |hd
  ·exact h.1
  ·exact qFY h.1 ((BG.mp ih).1 d hd)
theorem jS {l:List Bar} (h:Z7 l=true):l.Nodup:=(Jw h).imp fun {b c} hbc z=>by subst z;exact YG hbc
theorem qAr:∀ {F G:List Bar},F.Pairwise (fun b c=>zD b c=true)->G.Pairwise (fun b c=>zD b c=true)->(∀ c,c∈F ↔ c∈G)->F=G
 |[],[],_,_,_=>rfl
 |[],d::G,_,_,h=>(Ag ((h d).mpr AI)).elim
 |c::F,[],_,_,h=>(Ag ((h c).mp AI)).elim
 |c::F,d::G,hF,hG,h=>by
  have hF':=BG.mp hF;have hG':=BG.mp hG;have e:c=d:=by
   rcases AE.mp ((h c).mp AI) with q |q
   ·exact q
   ·rcases AE.mp ((h d).mpr AI) with z |z
    ·exact z.symm
    ·exact (YG (qFY (hF'.1 d z) (hG'.1 c q))).elim
  subst e;congr 1;refine qAr hF'.2 hG'.2 fun x=>⟨fun hx => ?_,fun hx => ?_⟩
  ·rcases AE.mp ((h x).mp (AD _ hx)) with q |q
   ·subst q;exact (YG (hF'.1 x hx)).elim
   ·exact q
  ·rcases AE.mp ((h x).mpr (AD _ hx)) with q |q
   ·subst q;exact (YG (hG'.1 x hx)).elim
   ·exact q
structure FilI (F:List qc) (L:Int) (bs:List Bar):Prop where
 ris:Z7 bs=true
 ok:∀ b∈bs,OKB b
 apart:∀ b∈bs,∀ d∈bs,∀ c,c∈cov L b->c∈cov L d->b=d
 cover:∀ c,c∈F ↔ ∃ b∈bs,c∈cov L b
 nd:F.Nodup
 in8:∀ c∈F,In8 c
 len:F.length≤60
theorem Zo {L:Int}:∀ {bs:List Bar},bs.Nodup->(∀ b∈bs,OKB b)->(∀ b∈bs,∀ d∈bs,∀ c,c∈cov L b->c∈cov L d->b=d)->(cells L bs).Nodup
 |[],_,_,_=>Bk
 |b::bs,hn,ho,ha=>by
  have hn':=Ax.mp hn;show (cov L b++cells L bs).Nodup;refine BR.mpr ⟨jn (ho b AI),Zo hn'.2 (fun d hd=>ho d (AD _ hd)) (fun d hd e he=>ha d (AD _ hd) e (AD _ he)),fun x hx y hy z => ?_⟩;subst z;obtain ⟨d,hd,hx2⟩:=BI.mp hy
  have:=ha b AI d (AD _ hd) x hx hx2
  subst this;exact hn'.1 hd
theorem YU {L:Int}:∀ {bs:List Bar},(cells L bs).Nodup -> ∀ b∈bs,∀ d∈bs,∀ c,c∈cov L b->c∈cov L d->b=d
 |[],_,b,hb,_,_,_,_,_=>by cases hb
 |x::bs,h,b,hb,d,hd,c,h1,h2=>by
  have h:(cov L x++cells L bs).Nodup:=h;have hn:=BR.mp h;rcases AE.mp hb with e1 |q1
  ·rcases AE.mp hd with e2 |q2
   ·rw [e1,e2]
   ·rw [e1] at h1;exact (hn.2.2 c h1 c (BI.mpr ⟨d,q2,h2⟩) rfl).elim
  ·rcases AE.mp hd with e2 |q2
   ·rw [e2] at h2;exact (hn.2.2 c h2 c (BI.mpr ⟨b,q1,h1⟩) rfl).elim
   ·exact YU hn.2.1 b q1 d q2 c h1 h2
theorem FilI.cells_nd {F:List qc} {L:Int} {bs:List Bar} (I:FilI F L bs):(cells L bs).Nodup:=Zo (jS I.ris) I.ok I.apart
theorem FilI.mem {F:List qc} {L:Int} {bs:List Bar} (I:FilI F L bs) (c:qc):c∈cells L bs ↔ c∈F:=by rw [I.cover c];exact BI
theorem FilI.cnt {F:List qc} {L:Int} {bs:List Bar} (I:FilI F L bs):F.length=L.toNat * bs.length:=by rw [← zE];exact Nat.le_antisymm (YR I.nd fun c hc=>(I.mem c).mpr hc) (YR I.cells_nd fun c hc=>(I.mem c).mp hc)
theorem FilI.blen {F:List qc} {L:Int} {bs:List Bar} (I:FilI F L bs) (hL:2≤L):bs.length≤30:=by
 have h:=I.cnt;have h2:=I.len
 have:2 * bs.length≤L.toNat * bs.length:=Nat.mul_le_mul_right _ (by omega)
 omega
theorem FilI.okV {F:List qc} {L:Int} {bs:List Bar} (I:FilI F L bs) (hL:2≤L):okV (.tup (bs.map bP))=true:=qBv (by rw [AC];have:=I.blen hL;omega) Yh
theorem FilI.fill {F:List qc} {L:Int} {bs:List Bar} (I:FilI F L bs) (h1:2≤L):zl F L (.tup (bs.map bP))=true:=by
 show (((bs.map bP).all Zl&&(Z7 ((bs.map bP).map unB)&&((bs.map bP).all (fun p=>inF F L (unB p))&&jf (cells L ((bs.map bP).map unB)))))&&(((bs.map bP).length:Int) * L==(F.length:Int)))=true;have a1:(bs.map bP).all Zl=true:=At.mpr fun p hp=>by obtain ⟨b,hb,rfl⟩:=AW.mp hp;exact qGI (I.ok b hb)
 have a3:(bs.map bP).all (fun p=>inF F L (unB p))=true:=At.mpr fun p hp=>by obtain ⟨b,hb,rfl⟩:=AW.mp hp;show (cov L b).all _=true;exact At.mpr fun c hc=>AQ ((I.cover c).mpr ⟨b,hb,hc⟩)
 have a5:(((bs.map bP).length:Int) * L==(F.length:Int))=true:=by rw [A4,AC,I.cnt,Int.natCast_mul,CS (by omega),Int.mul_comm]
 rw [qGd,a1,I.ris,a3,qBV I.cells_nd,a5];rfl
theorem qA5 {L:Int} {bars:List Bar} {C:List qc} (I:Z0 L bars C) (hl:C.length≤60):FilI (yZ C) L (Z5 bars):=by
 obtain ⟨i1,i2,i3,i4,i5⟩:=I;have hm:∀ b,b∈Z5 bars ↔ b∈bars:=fun b=>(yo bars).mem_iff;have i2':(cells L bars).Nodup:=by rw [i1] at i2;exact i2
 refine ⟨qAt i3,fun b hb=>i4 b ((hm b).mp hb),fun b hb d hd=>YU i2' b ((hm b).mp hb) d ((hm d).mp hd),fun c => ?_,?_,fun c hc=>i5 c (mem_srtC.mp hc),by rw [qEQ];exact hl⟩
 ·rw [mem_srtC,i1,BI];exact ⟨fun ⟨b,h1,h2⟩=>⟨b,(hm b).mpr h1,h2⟩,fun ⟨b,h1,h2⟩=>⟨b,(hm b).mp h1,h2⟩⟩
 ·unfold yZ;have h2:(C.map cL).Nodup:=CC _ (fun a b hab z=>hab (by
   have z:[a.1,a.2]=[b.1,b.2]:=z;injection z with z1 z2;injection z2 with z2 _;exact Prod.ext z1 z2)) i2
  have h3:(srt (C.map cL)).Nodup:=(wL _).nodup_iff.mpr h2;refine CA.mpr (List.Pairwise.imp_of_mem (fun {a b} ha hb hab z=>hab ?_) h3);obtain ⟨x,_,rfl⟩:=AW.mp ((wL _).mem_iff.mp ha);obtain ⟨y,_,rfl⟩:=AW.mp ((wL _).mem_iff.mp hb);rw [qCI,qCI] at z;rw [z]
def sqC (b:Bar) (k:Int):Bar:=if b.2.2=0 then (b.1 + k,b.2.1,0) else (b.1,b.2.1 + k,1)
def sqB (L:Int) (b:Bar):List Bar:=(WG L).map (sqC b)
def flp (b:Bar):Bar:=(b.1,b.2.1,1 - b.2.2)
def Way (b:Bar):Prop:=b.2.2=0∨b.2.2=1
theorem ZZ {b:Bar} (h:Way b):Way (flp b):=by
 rcases h with h |h
 ·exact .inr (by show 1 - b.2.2=1;omega)
 ·exact .inl (by show 1 - b.2.2=0;omega)
theorem qG8 {b:Bar}:flp (flp b)=b:=by obtain ⟨x,y,w⟩:=b;show (x,y,1 - (1 - w))=(x,y,w);rw [show 1 - (1 - w)=w by omega]
theorem mem_cov {L:Int} {m:Bar} {c:qc}:c∈cov L m ↔ ∃ i,0≤i∧i < L∧J3 m i=c:=by unfold cov;rw [AW];exact ⟨fun ⟨i,h1,h2⟩=>⟨i,(upto_mem.mp h1).1,(upto_mem.mp h1).2,h2⟩,fun ⟨i,h1,h2,h3⟩=>⟨i,upto_mem.mpr ⟨h1,h2⟩,h3⟩⟩
theorem mem_sq {L:Int} {b m:Bar}:m∈sqB L b ↔ ∃ k,0≤k∧k < L∧sqC b k=m:=by unfold sqB;rw [AW];exact ⟨fun ⟨i,h1,h2⟩=>⟨i,(upto_mem.mp h1).1,(upto_mem.mp h1).2,h2⟩,fun ⟨i,h1,h2,h3⟩=>⟨i,upto_mem.mpr ⟨h1,h2⟩,h3⟩⟩
theorem Yr {b:Bar} (h:Way b) {k i:Int}:J3 (sqC b k) i=if b.2.2=0 then (b.1 + k,b.2.1 + i) else (b.1 + i,b.2.1 + k):=by
 unfold sqC J3;rcases h with h |h
 ·rw [AH h,AH h];dsimp only;rw [Int.mul_zero,CZ,Int.sub_zero]
 ·rw [AJ (by omega),AJ (by omega)]
  dsimp only;rw [Int.mul_one,Int.add_sub_cancel]
theorem zR {L:Int} {b:Bar} (h:Way b) {c:qc}:(∃ m∈sqB L b,c∈cov L m) ↔ b.1≤c.1∧c.1 < b.1 + L∧b.2.1≤c.2∧c.2 < b.2.1 + L:=by
 constructor
 ·rintro ⟨m,hm,hc⟩
  obtain ⟨k,k1,k2,rfl⟩:=mem_sq.mp hm;obtain ⟨i,i1,i2,rfl⟩:=mem_cov.mp hc;rw [Yr h];split <;> (dsimp only;omega)
 ·rintro ⟨h1,h2,h3,h4⟩
  by_cases w:b.2.2=0
  ·refine ⟨sqC b (c.1 - b.1),mem_sq.mpr ⟨_,by omega,by omega,rfl⟩,mem_cov.mpr ⟨c.2 - b.2.1,by omega,by omega,?_⟩⟩
   rw [Yr h,AH w];exact Prod.ext (by dsimp only;omega) (by dsimp only;omega)
  ·refine ⟨sqC b (c.2 - b.2.1),mem_sq.mpr ⟨_,by omega,by omega,rfl⟩,mem_cov.mpr ⟨c.1 - b.1,by omega,by omega,?_⟩⟩
   rw [Yr h,AJ w];exact Prod.ext (by dsimp only;omega) (by dsimp only;omega)
theorem qCl {L:Int} {b m n:Bar} (h:Way b) (hm:m∈sqB L b) (hn:n∈sqB L b) {c:qc} (h1:c∈cov L m) (h2:c∈cov L n):m=n:=by
 obtain ⟨k,k1,k2,rfl⟩:=mem_sq.mp hm;obtain ⟨l,l1,l2,rfl⟩:=mem_sq.mp hn;obtain ⟨i,i1,i2,e1⟩:=mem_cov.mp h1;obtain ⟨j,j1,j2,e2⟩:=mem_cov.mp h2;have e:=e1.trans e2.symm;rw [Yr h,Yr h] at e
 have:k=l:=by
  by_cases w:b.2.2=0
  ·rw [AH w,AH w] at e;injection e with e _;omega
  ·rw [AJ w,AJ w] at e;injection e with _ e;omega
 rw [this]
theorem sq_nodup {L:Int} {b:Bar}:(sqB L b).Nodup:=by
 unfold sqB;refine CC _ (fun i j hij z=>hij ?_) Y5;unfold sqC at z;by_cases w:b.2.2=0
 ·rw [AH w,AH w] at z;injection z with z _;omega
 ·rw [AJ w,AJ w] at z;injection z with _ z;injection z with z _;omega
theorem qG3 {L:Int} {b:Bar} (hL:2≤L) (h:Way b):b∈sqB L b:=by
 refine mem_sq.mpr ⟨0,by decide,by omega,?_⟩
 obtain ⟨x,y,w⟩:=b;unfold sqC;rcases h with h |h
 ·have h:w=0:=h;subst h;rw [AH rfl];dsimp only;rw [CZ]
 ·have h:w=1:=h;subst h;rw [AJ (show ¬ (1:Int)=0 by decide)]
  dsimp only;rw [CZ]
theorem qFc {L:Int} {b m:Bar} (hm:m∈sqB L b):Way m:=by
 obtain ⟨k,k1,k2,rfl⟩:=mem_sq.mp hm;unfold sqC;split
 ·exact .inl rfl
 ·exact .inr rfl
theorem Wl {L:Int} {m:Bar} (hL:2≤L):(m.1,m.2.1)∈cov L m:=by
 refine mem_cov.mpr ⟨0,by decide,by omega,?_⟩
 unfold J3;rw [Int.zero_mul,CZ,CZ,Int.sub_zero]
def blk (L:Int) (bs:List Bar) (b:Bar):Bool:=(sqB L b).all fun m=>decide (m∈bs)
theorem Jy {L:Int} {bs:List Bar} {b:Bar} (h:blk L bs b=true):∀ m∈sqB L b,m∈bs:=fun m hm=>Aq (At.mp h m hm)
def tnL (L:Int) (bs:List Bar) (b:Bar):List Bar:=(bs.filter fun m => !decide (m∈sqB L b))++sqB L (flp b)
def tn (L:Int) (bs:List Bar) (b:Bar):List Bar:=Z5 (tnL L bs b)
theorem qG7 {L:Int} {bs:List Bar} {b m:Bar}:m∈tnL L bs b ↔ (m∈bs∧m ∉ sqB L b)∨m∈sqB L (flp b):=by unfold tnL;rw [An,BO];refine or_congr (and_congr Iff.rfl ?_) Iff.rfl;rw [Bool.not_eq_true',decide_eq_false_iff_not]
theorem mem_tn {L:Int} {bs:List Bar} {b m:Bar}:m∈tn L bs b ↔ (m∈bs∧m ∉ sqB L b)∨m∈sqB L (flp b):=by unfold tn;rw [(yo _).mem_iff,qG7]
section
variable {F:List qc} {L:Int} {bs:List Bar} {b:Bar}
theorem Ji (I:FilI F L bs) (hw:Way b) (hk:blk L bs b=true) {m:Bar} (hm:m∈bs) {c:qc} (hc:c∈cov L m) {n:Bar} (hn:n∈sqB L (flp b)) (hcn:c∈cov L n):m∈sqB L b:=by
 have h1:=(zR (L:=L) (ZZ hw)).mp ⟨n,hn,hcn⟩;obtain ⟨m',hm',hc'⟩:=(zR (L:=L) hw (c:=c)).mpr h1
 have:=I.apart m hm m' (Jy hk m' hm') c hc hc'
 rw [this];exact hm'
theorem qFL (I:FilI F L bs) (hL:2≤L) (hw:Way b) (hk:blk L bs b=true) {m:Bar} (hm:m∈bs) (hn:m ∉ sqB L b):m ∉ sqB L (flp b):=fun h=>hn (Ji I hw hk hm (Wl hL) h (Wl hL))
theorem qD4 (I:FilI F L bs) (hL:2≤L) (hw:Way b) (hk:blk L bs b=true):(tnL L bs b).Nodup:=by refine BR.mpr ⟨(jS I.ris).filter _,sq_nodup,fun x hx y hy z => ?_⟩;subst z;have h1:=BO.mp hx;exact qFL I hL hw hk h1.1 (by have:=h1.2;rw [Bool.not_eq_true',decide_eq_false_iff_not] at this;exact this) hy
theorem j3 (I:FilI F L bs) (hL:2≤L) (hw:Way b) (hk:blk L bs b=true):FilI F L (tn L bs b):=by
 have hcov:∀ c,(∃ m∈tn L bs b,c∈cov L m) ↔ ∃ m∈bs,c∈cov L m:=fun c=>by
  constructor
  ·rintro ⟨m,hm,hc⟩
   rcases mem_tn.mp hm with h |h
   ·exact ⟨m,h.1,hc⟩
   ·obtain ⟨m',h1,h2⟩:=(zR (L:=L) hw (c:=c)).mpr ((zR (L:=L) (ZZ hw)).mp ⟨m,h,hc⟩);exact ⟨m',Jy hk m' h1,h2⟩
  ·rintro ⟨m,hm,hc⟩
   by_cases h:m∈sqB L b
   ·obtain ⟨m',h1,h2⟩:=(zR (L:=L) (ZZ hw) (c:=c)).mpr ((zR (L:=L) hw).mp ⟨m,h,hc⟩);exact ⟨m',mem_tn.mpr (.inr h1),h2⟩
   ·exact ⟨m,mem_tn.mpr (.inl ⟨hm,h⟩),hc⟩
 have hcF:∀ c,c∈F ↔ ∃ m∈tn L bs b,c∈cov L m:=fun c=>(I.cover c).trans (hcov c).symm;refine ⟨qAt (qD4 I hL hw hk),fun m hm => ?_,fun m hm n hn c h1 h2 => ?_,hcF,I.nd,I.in8,I.len⟩
 ·have hway:Way m:=by
   rcases mem_tn.mp hm with h |h
   ·exact (I.ok m h.1).2.2.2.2
   ·exact qFc h
  have h8:=I.in8 _ ((hcF (m.1,m.2.1)).mpr ⟨m,hm,Wl hL⟩);exact ⟨h8.1,h8.2.1,h8.2.2.1,h8.2.2.2,hway⟩
 ·rcases mem_tn.mp hm with h |h
  ·rcases mem_tn.mp hn with g |g
   ·exact I.apart m h.1 n g.1 c h1 h2
   ·exact absurd (Ji I hw hk h.1 h1 g h2) h.2
  ·rcases mem_tn.mp hn with g |g
   ·exact absurd (Ji I hw hk g.1 h2 h h1) g.2
   ·exact qCl (ZZ hw) h g h1 h2
theorem qGE (I:FilI F L bs) (hL:2≤L) (hw:Way b) (hk:blk L bs b=true):tn L (tn L bs b) (flp b)=bs:=by
 have I':=j3 I hL hw hk;have hk':blk L (tn L bs b) (flp b)=true:=At.mpr fun m hm=>AQ (mem_tn.mpr (.inr hm));have I2:=j3 I' hL (ZZ hw) hk';refine qAr (Jw I2.ris) (Jw I.ris) fun m => ?_;rw [mem_tn,mem_tn,qG8];constructor
 ·rintro (⟨h1 |h1,h2⟩ |h)
  ·exact h1.1
  ·exact absurd h1 h2
  ·exact Jy hk m h
 ·intro hm;by_cases h:m∈sqB L b
  ·exact .inr h
  ·exact .inl ⟨.inl ⟨hm,h⟩,qFL I hL hw hk hm h⟩
theorem qIP (hL:2≤L) (hw:Way b):flp b∈tn L bs b:=mem_tn.mpr (.inr (qG3 hL (ZZ hw)))
theorem qE4:blk L (tn L bs b) (flp b)=true:=At.mpr fun m hm=>AQ (mem_tn.mpr (.inr hm))
theorem qKD {bs:List Bar} (I:FilI F L bs) (hL:2≤L) (hb:b∈bs):decide ((b.1,b.2.1,(0:Int))∈bs)=decide (b.2.2=0):=by
 rw [Bl];constructor
 ·intro h
  have:=I.apart _ hb _ h (b.1,b.2.1) (Wl hL) (Wl (m:=(b.1,b.2.1,0)) hL)
  rw [this]
 ·intro h
  have:(b.1,b.2.1,(0:Int))=b:=Prod.ext rfl (Prod.ext rfl h.symm)
  rw [this];exact hb
end
theorem qH3 (a b:Bar):peq (bP a) (bP b)=decide (a=b):=by
 obtain ⟨a1,a2,a3⟩:=a;obtain ⟨b1,b2,b3⟩:=b;show ((a1==b1)&&((a2==b2)&&((a3==b3)&&true)))=_;rw [Bf,Bool.eq_iff_iff,AZ,AZ,A4,A4,A4,Ca];constructor
 ·rintro ⟨h1,h2,h3⟩;rw [h1,h2,h3]
 ·intro h;injection h with h1 h;injection h with h2 h3;exact ⟨h1,h2,h3⟩
theorem qHq (c:Bar):∀ l:List Bar,pin (bP c) (l.map bP)=decide (c∈l)
 |[]=>rfl
 |d::l=>by
  rw [Aj,pin,qH3,qHq c l];by_cases h:d=c
  ·subst h;rw [AQ rfl,Bool.true_or];exact (AQ AI).symm
  ·rw [AV h,Bool.false_or];refine Bl.mpr ⟨fun q=>AD _ q,fun q => ?_⟩;rcases AE.mp q with z |z
   ·exact absurd z.symm h
   ·exact z
theorem qIt {neg:Bool} {c:Bar} {l:List Bar} {q:PV} {st:qC} (h:Wy st q=some (l.map bP)):gIn neg (bP c) q st = .ok (.bl (if neg then !decide (c∈l) else decide (c∈l))) st:=by
 unfold gIn;rw [h];dsimp only;rw [AH ⟨jY l,rfl,Ae (yV l) (by decide)⟩]
 show Rs.ok (PV.bl (if neg then !pin (bP c) (l.map bP) else pin (bP c) (l.map bP))) st=_;rw [qHq]
theorem qAh {r c L:Int} {e:qv} {st:qC} (h1:0≤L) (h2:L≤1000) (hc:Wd [4,3] 1 e=[some (.int c),some (.int r),none]) (hL:e[1]? = some (some (.int L))):qx [4,3] 1 (Q4 (qA (qB 1) qD)) (q9 2) [] [] (qy (qA (qP QV (qB 1) (qB 2)) (qA (qB 0) (qA (vC (.int 0)) qD)))) e st = .ok ((sqB L (r,c,0)).map bP) st:=by
 let G:PV->PV:=fun p=>match p with
  | .int k=>bP (r + k,c,0)
  |_=>p
 have e1:=QY (caps:=[4,3]) (n:=1) (fi:=Q4 (qA (qB 1) qD)) (g:=q9 2) (f:=qy (qA (qP QV (qB 1) (qB 2)) (qA (qB 0) (qA (vC (.int 0)) qD)))) (r:=e) (st:=st) (w:=⟨(WG L).map PV.int,fun _=>True⟩) (F:=G) (itN h1 h2 (qJ (zp hL) qZ)) trivial (by rw [AC,WX];exact wa (by omega)) fun p hp=>by obtain ⟨k,_,rfl⟩:=AW.mp hp;exact ⟨[some (.int c),some (.int r),some (.int k)],by rw [hc];rfl,Zb (qS rfl rfl WH) rfl rfl⟩
 have e2:((WG L).map PV.int).map G=(sqB L (r,c,0)).map bP:=by unfold sqB;rw [Au,Au];rfl
 rw [← e2];exact e1
theorem qAP {r c w L:Int} {e:qv} {st:qC} (h1:0≤L) (h2:L≤1000) (hw:w≠0) (hc:Wd [3,4] 1 e=[some (.int r),some (.int c),none]) (hL:e[1]? = some (some (.int L))):qx [3,4] 1 (Q4 (qA (qB 1) qD)) (q9 2) [] [] (qy (qA (qB 0) (qA (qP QV (qB 1) (qB 2)) (qA (vC (.int 1)) qD)))) e st = .ok ((sqB L (r,c,w)).map bP) st:=by
 let G:PV->PV:=fun p=>match p with
  | .int k=>bP (r,c + k,1)
  |_=>p
 have e1:=QY (caps:=[3,4]) (n:=1) (fi:=Q4 (qA (qB 1) qD)) (g:=q9 2) (f:=qy (qA (qB 0) (qA (qP QV (qB 1) (qB 2)) (qA (vC (.int 1)) qD)))) (r:=e) (st:=st) (w:=⟨(WG L).map PV.int,fun _=>True⟩) (F:=G) (itN h1 h2 (qJ (zp hL) qZ)) trivial (by rw [AC,WX];exact wa (by omega)) fun p hp=>by obtain ⟨k,_,rfl⟩:=AW.mp hp;exact ⟨[some (.int r),some (.int c),some (.int k)],by rw [hc];rfl,Zb rfl (qS rfl rfl WH) rfl⟩
 have e2:((WG L).map PV.int).map G=(sqB L (r,c,w)).map bP:=by unfold sqB;rw [Au,Au];refine A6 fun k _ => ?_;show bP (r,c + k,1)=bP (sqC (r,c,w) k);unfold sqC;rw [AJ hw]
 rw [← e2];exact e1
theorem qEd {a:Ad} {r c w L:Int} {st:qC} (h1:0≤L) (h2:L≤1000):Qq a [cP (r,c),.int L,.int w] st = .ok (.lst ((sqB L (r,c,w)).map bP)) st:=by
 refine qm rfl (qR (zB (r1:=[some (cP (r,c)),some (.int L),some (.int w),some (.int r),some (.int c)]) rfl rfl) ?_);by_cases hw:w=0
 ·subst hw;exact Q2 (QO (Qo (qS rfl rfl rfl)) (QB (Q0 (qAh h1 h2 rfl rfl))))
 ·exact qR (QA (Qo (qS rfl rfl (by rw [Wu,AB.mpr hw]))) rfl) (QB (Q0 (qAP h1 h2 hw rfl rfl)))
theorem Jz {a:Ad} {r c w L:Int} {st:qC} (h1:0≤L) (h2:L≤1000):Q5 a [cP (r,c),.int L,.int w] st = .ok (.lst ((sqB L (r,c,w)).map bP)) st:=by
 refine qm rfl (qR (zB (r1:=[some (cP (r,c)),some (.int L),some (.int w),some (.int r),some (.int c)]) rfl rfl) ?_);by_cases hw:w=0
 ·subst hw;exact Q2 (QO (Qo (qS rfl rfl rfl)) (QB (Q0 (qAh h1 h2 rfl rfl))))
 ·exact qR (QA (Qo (qS rfl rfl (by rw [Wu,AB.mpr hw]))) rfl) (QB (Q0 (qAP h1 h2 hw rfl rfl)))
theorem ym {L:Int} {b:Bar}:(sqB L b).length=L.toNat:=by unfold sqB;rw [AC,WX]
def BL (L:Int) (bs:List Bar):List Bar:=bs.filter (blk L bs)
def plc (b:Bar):qc:=(b.1,b.2.1)
theorem qCN {α:Type} {d:α->Bool} {f:α->PV}:∀ l:List α,(l.flatMap fun x=>if d x=true then [f x] else [])=(l.filter d).map f
 |[]=>rfl
 |x::l=>by rw [List.flatMap_cons,BY,qCN l];cases d x <;> rfl
theorem qIs {fi:FI} {g:FG} {t:FT} {f:FE} {r r':qv} {st:qC} {p q:PV} {c:Bool} (h:g p r=some r') (ht:t r' st = .ok c st) (hf:f r' st = .ok q st):Qk ⟨fi,g,[t]⟩ (wB [] f) r p st = .ok (if c=true then [q] else []) st:=by
 cases c with
 |true=>exact qEi h ht hf
 |false=>exact qES h ht
theorem zU {a:Ad} {L:Int} {bs:List Bar} {st:qC} (h1:0≤L) (h2:L≤5) (hbs:bs.length≤59):W3 a [.tup (bs.map bP),.int L] st = .ok (.ref st.length) (st++[.l (((BL L bs).map plc).map cP)]):=by
 have e:QI (fun _=>True) (Qk ⟨qq (qB 0),zC 3 (QH (q9 2) (QH (q9 3) (QH (q9 4) zO))),[(QL (qI zu (qA (vFz (qx [0] 1 (qq (qI (Qq a) (qA (qy (qA (qB 2) (qA (qB 3) qD))) (qA (qB 1) (qA (qB 4) qD))))) (q9 1) [] [] (qP (gIn false) (qB 1) (qB 0)))) qD)))]⟩ (wB [] (qy (qA (qB 2) (qA (qB 3) qD)))) [some (.tup (bs.map bP)),some (.int L),none,none,none]) (bs.map bP) st = .ok ((bs.map bP).flatMap fun p=>if blk L bs (unB p)=true then [cP (plc (unB p))] else []) st:=by
  refine wl trivial fun p hp => ?_;obtain ⟨b,hb,rfl⟩:=AW.mp hp;have ec:=QY (caps:=[0]) (n:=1) (fi:=qq (qI (Qq a) (qA (qy (qA (qB 2) (qA (qB 3) qD))) (qA (qB 1) (qA (qB 4) qD))))) (g:=q9 1) (f:=qP (gIn false) (qB 1) (qB 0)) (r:=[some (.tup (bs.map bP)),some (.int L),some (.int b.1),some (.int b.2.1),some (.int b.2.2)]) (st:=st) (w:=⟨(sqB L b).map bP,fun _=>True⟩) (F:=fun q => .bl (decide (unB q∈bs))) (wK (qK (l:=[cP (b.1,b.2.1),.int L,.int b.2.2]) (qJ (Wc (qJ rfl (qJ rfl qZ)) (sz rfl)) (qJ rfl (qJ rfl qZ))) (qEd h1 (by omega)))) trivial (by rw [AC,ym];exact wa (by omega)) fun q hq=>by obtain ⟨m,_,rfl⟩:=AW.mp hq;exact ⟨[some (.tup (bs.map bP)),some (bP m)],rfl,qS rfl rfl (qIt (neg:=false) rfl)⟩
  have et:QL (qI zu (qA (vFz (qx [0] 1 (qq (qI (Qq a) (qA (qy (qA (qB 2) (qA (qB 3) qD))) (qA (qB 1) (qA (qB 4) qD))))) (q9 1) [] [] (qP (gIn false) (qB 1) (qB 0)))) qD)) [some (.tup (bs.map bP)),some (.int L),some (.int b.1),some (.int b.2.1),some (.int b.2.2)] st = .ok (blk L bs b) st:=by refine QC ((qK (qJ (Q0 ec) qZ) Zv).trans ?_);rw [List.all_map];rfl
  exact qIs rfl et (Wc (qJ rfl (qJ rfl qZ)) (sz rfl))
 have e2:((bs.map bP).flatMap fun p=>if blk L bs (unB p)=true then [cP (plc (unB p))] else [])=((BL L bs).map plc).map cP:=by rw [List.flatMap_map,Au];exact qCN bs
 rw [e2] at e;have hl:(BL L bs).length≤bs.length:=BE _ _;exact qm rfl (qBd (Jg (w:=⟨bs.map bP,fun _=>True⟩) (Qj rfl) e (by rw [AC,AC];exact wa (by omega))))
theorem qAU {d:Bar->Bool}:∀ l:List Bar,(l.filter fun c => !d c).isEmpty=l.all d
 |[]=>rfl
 |c::l=>by
  rw [BY,CL];cases h:d c with
  |true=>exact qAU l
  |false=>rfl
theorem qEE {d:Bar->Bool} {l:List Bar} {c:PV->Bool} (h:∀ x∈l,c (bP x)=d x):(l.map bP).filter c=(l.filter d).map bP:=by
 induction l with
 |nil=>rfl
 |cons x l ih =>rw [Aj,BY,BY,h x AI,ih fun y hy=>h y (AD _ hy)];cases d x <;> rfl
theorem eq_nil_lb {l:List Bar} {st:qC}:gEq (.lst (l.map bP)) (.lst []) st = .ok (.bl l.isEmpty) st:=by
 have h1:zd (.lst (l.map bP)) (.lst [])=true:=by show (nrs (l.map bP)&&true&&decide (deps (l.map bP) + 1≤zg))=true;rw [jY,AQ (Ae (B5 (yV l)) (by decide))];rfl
 show (if zd (.lst (l.map bP)) (.lst [])=true then Rs.ok (PV.bl (peq (PV.lst (l.map bP)) (PV.lst []))) st else Rs.no)=_;rw [AH h1];cases l <;> rfl
theorem qCd {i:Nat} {bs old:List Bar} {f:FE} {e:qv} {st:qC} (hf:f e st = .ok (.tup (bs.map bP)) st∨f e st = .ok (.lst (bs.map bP)) st) (hc:∃ q,Wd [i] 1 e=[some q,none]∧Wy st q=some (old.map bP)) (hl:bs.length≤1000):qx [i] 1 (qq f) (q9 1) [(vTB (qP (gIn true) (qB 1) (qB 0)))] [] (qB 1) e st = .ok ((bs.filter fun m => !decide (m∈old)).map bP) st:=by
 obtain ⟨q,hc,hq⟩:=hc;have hi:qq f e st = .ok ⟨bs.map bP,fun _=>True⟩ st:=hf.elim Qj wK;rw [zN (w:=⟨bs.map bP,fun _=>True⟩) (c:=fun p => !decide (unB p∈old)) hi trivial (by rw [AC];exact wa (by omega)) fun p hp => ?_]
 ·rw [qEE (d:=fun m => !decide (m∈old)) fun x _=>rfl]
 ·obtain ⟨d,_,rfl⟩:=AW.mp hp;exact ⟨[some q,some (bP d)],by rw [hc];rfl,Qo (qS rfl rfl (qIt (neg:=true) hq)),rfl⟩
theorem JA {a:Ad} {L:Int} {bs:List Bar} {st:qC} (h1:0≤L) (h2:L≤5):∀ (ks fd:List Bar) (x3 x4 x5:Option PV),fd.length + ks.length≤500 -> ∃ y3 y4 y5,Qz (fun _=>True) (zC 3 (QH (qu 3) (QH (qu 4) (QH (qu 5) zO)))) (qEp a) (ks.map bP) [some (.int L),some (.tup (bs.map bP)),some (.ref st.length),x3,x4,x5] (st++[.l (fd.map bP)]) = .nx [some (.int L),some (.tup (bs.map bP)),some (.ref st.length),y3,y4,y5] (st++[.l ((fd++ks.filter (blk L bs)).map bP)])
 |[],fd,x3,x4,x5,_=>⟨x3,x4,x5,by rw [List.filter_nil,BB];exact Qi trivial⟩
 |b::ks,fd,x3,x4,x5,hl=>by
  rw [AM] at hl;have hg:∀ l:List PV,(st++[SO.l l])[st.length]? = some (.l l):=fun l=>by simp
  have ec:vTB (qP gEq (vFz (qx [1] 1 (qq (qI (Q5 a) (qA (qy (qA (qB 3) (qA (qB 4) qD))) (qA (qB 0) (qA (qB 5) qD))))) (q9 1) [(vTB (qP (gIn true) (qB 1) (qB 0)))] [] (qB 1))) (vFz (Qy qD))) [some (.int L),some (.tup (bs.map bP)),some (.ref st.length),some (.int b.1),some (.int b.2.1),some (.int b.2.2)] (st++[.l (fd.map bP)]) = .ok (blk L bs b) (st++[.l (fd.map bP)]):=by
   refine Qo (qS (Q0 (qCd (bs:=sqB L b) (old:=bs) (.inr (qK (l:=[cP (b.1,b.2.1),.int L,.int b.2.2]) (qJ (Wc (qJ rfl (qJ rfl qZ)) (sz rfl)) (qJ rfl (qJ rfl qZ))) (Jz h1 (by omega)))) ⟨_,rfl,rfl⟩ (by rw [ym];omega))) rfl (eq_nil_lb.trans ?_))
   rw [qAU];rfl
  rw [BY];cases hb:blk L bs b with
  |false =>
   rw [hb] at ec;obtain ⟨y3,y4,y5,e⟩:=JA (a:=a) (L:=L) (bs:=bs) (st:=st) h1 h2 ks fd (some (.int b.1)) (some (.int b.2.1)) (some (.int b.2.2)) (by omega)
   exact ⟨y3,y4,y5,wf (r1:=[some (.int L),some (.tup (bs.map bP)),some (.ref st.length),some (.int b.1),some (.int b.2.1),some (.int b.2.2)]) trivial rfl (QA ec rfl) e⟩
  |true =>
   rw [hb] at ec;obtain ⟨y3,y4,y5,e⟩:=JA (a:=a) (L:=L) (bs:=bs) (st:=st) h1 h2 ks (fd++[b]) (some (.int b.1)) (some (.int b.2.1)) (some (.int b.2.2)) (by rw [AY,BZ];omega)
   have ea:=Y7 (fo:=qB 2) (f:=qy (qA (qB 3) (qA (qB 4) (qA (qB 5) qD)))) (r:=[some (.int L),some (.tup (bs.map bP)),some (.ref st.length),some (.int b.1),some (.int b.2.1),some (.int b.2.2)]) (st:=st++[.l (fd.map bP)]) (n:=st.length) (p:=bP b) rfl (qGT (hg _)) (Zb rfl rfl rfl) (hg _) (by rw [AC];exact Ba (show fd.length≤500 by omega) (by decide))
   have es:(st++[SO.l (fd.map bP)]).set st.length (.l (fd.map bP++[bP b]))=st++[.l ((fd++[b]).map bP)]:=by rw [Br _ _ (AK _),Nat.sub_self,Bd];rfl
   rw [es] at ea;rw [Al] at e;rw [AH rfl];exact ⟨y3,y4,y5,wf (r1:=[some (.int L),some (.tup (bs.map bP)),some (.ref st.length),some (.int b.1),some (.int b.2.1),some (.int b.2.2)]) trivial rfl (QO ec ea) e⟩
theorem Yv {a:Ad} {L:Int} {bs:List Bar} {st:qC} (h1:0≤L) (h2:L≤5) (hbs:bs.length≤59):Wg a [.int L,.tup (bs.map bP)] st = .ok (.ref st.length) (st++[.l ((BL L bs).map bP)]):=by
 obtain ⟨y3,y4,y5,e⟩:=JA (a:=a) (L:=L) (bs:=bs) (st:=st) h1 h2 bs [] none none none (by show 0 + _≤500;omega)
 rw [List.nil_append] at e;exact qm rfl (qR (qEu (ZA qZ (sz rfl))) (qR (ZM (Qj rfl) e) (QB rfl)))
theorem jx {a:Ad} {bs:List Bar} {r c:Int} {st:qC}:WS a [.tup (bs.map bP),cP (r,c)] st = .ok (.bl (decide ((r,c,(0:Int))∈bs))) st :=
 qm rfl (qR (zB (r1:=[some (.tup (bs.map bP)),some (cP (r,c)),some (.int r),some (.int c)]) rfl rfl) (QB (qS (Zb rfl rfl rfl) rfl (qIt (neg:=false) (c:=(r,c,0)) rfl))))
theorem qGK {L:Int} {bs:List Bar} {b:Bar} (h2:L≤5) (hbs:bs.length≤30):(tnL L bs b).length≤35:=by
 unfold tnL
 have:(bs.filter fun m => !decide (m∈sqB L b)).length≤bs.length:=BE _ _
 rw [AY,ym];omega
theorem qJc {L:Int} {bs:List Bar} {b:Bar} {i:Nat} {e:qv} {st:qC} {f g:FE} (h2:L≤5) (hbs:bs.length≤30) (hf:f e st = .ok (.tup (bs.map bP)) st) (hc:Wd [i] 1 e=[some (.lst ((sqB L b).map bP)),none]) (hg:g e st = .ok (.lst ((sqB L (flp b)).map bP)) st):qI w9 (qA (zA (vFz (zP (vFz (qx [i] 1 (qq f) (q9 1) [(vTB (qP (gIn true) (qB 1) (qB 0)))] [] (qB 1))) g))) qD) e st = .ok (.tup ((tn L bs b).map bP)) st:=by
 have hl:=qGK (b:=b) h2 hbs;have e1:=qCd (i:=i) (bs:=bs) (old:=sqB L b) (f:=f) (e:=e) (st:=st) (.inl hf) ⟨_,hc,rfl⟩ (by omega)
 obtain ⟨m,q0,q1,q2,q3⟩:=qBk (l:=tnL L bs b) (q := .lst ((tnL L bs b).map bP)) (st:=st) rfl (by omega)
 subst q0;have hlen:(bs.filter fun m => !decide (m∈sqB L b)).length≤bs.length:=BE _ _;have ecat:vFz (zP (vFz (qx [i] 1 (qq f) (q9 1) [(vTB (qP (gIn true) (qB 1) (qB 0)))] [] (qB 1))) g) e st = .ok (.lst ((tnL L bs b).map bP)) st:=by unfold tnL;rw [Bd];exact Q0 (Zj (Q0 e1) hg rfl rfl (by rw [AC,AC,ym];exact wa (by omega)))
 exact qK (qJ (Yy ecat q3) qZ) (zc rfl)
theorem qGn {a:Ad} {F:List qc} {L:Int} {bs:List Bar} {b:Bar} {st:qC} (I:FilI F L bs) (h1:2≤L) (h2:L≤5) (hb:b∈bs):yT a [.tup (bs.map bP),.int L,cP (plc b)] st = .ok (.tup ((tn L bs b).map bP)) st:=by
 have hbl:=I.blen h1;have hw:=(I.ok b hb).2.2.2.2;have hl:=qKD I h1 hb;obtain ⟨r,c,w⟩:=b;have ea:=jx (a:=a) (bs:=bs) (r:=r) (c:=c) (st:=st);dsimp only at hw hl;rw [hl] at ea;refine qm rfl (qR (qr (qK (l:=[cP (r,c),.int L,.int 0]) rfl (qEd (by omega) (by omega)))) (qR (qr (qK (l:=[cP (r,c),.int L,.int 1]) rfl (qEd (by omega) (by omega)))) ?_))
 rcases hw with rfl |rfl
 ·exact qR (zB (r1:=[some (.tup (bs.map bP)),some (.int L),some (cP (r,c)),some (.lst ((sqB L (r,c,0)).map bP)),some (.lst ((sqB L (r,c,1)).map bP)),some (.lst ((sqB L (r,c,0)).map bP)),some (.lst ((sqB L (r,c,1)).map bP))]) (qGU (QC (qK (l:=[.tup (bs.map bP),cP (r,c)]) rfl ea)) (Wc (qJ rfl (qJ rfl qZ)) (sz rfl))) rfl) (QB (qJc (b:=(r,c,0)) h2 hbl rfl rfl rfl))
 ·exact qR (zB (r1:=[some (.tup (bs.map bP)),some (.int L),some (cP (r,c)),some (.lst ((sqB L (r,c,0)).map bP)),some (.lst ((sqB L (r,c,1)).map bP)),some (.lst ((sqB L (r,c,1)).map bP)),some (.lst ((sqB L (r,c,0)).map bP))]) (qF7 (QC (qK (l:=[.tup (bs.map bP),cP (r,c)]) rfl ea)) (Wc (qJ rfl (qJ rfl qZ)) (sz rfl))) rfl) (QB (qJc (b:=(r,c,1)) h2 hbl rfl rfl rfl))
theorem qAj {a:Ad} {L:Int} {bs:List Bar} {b:Bar} {st:qC} (h1:2≤L) (h2:L≤5) (hbl:bs.length≤30):WY a [.int L,.tup (bs.map bP),bP b] st = .ok (.tup ((tn L bs b).map bP)) st:=by
 refine qm rfl (qR (zB (r1:=[some (.int L),some (.tup (bs.map bP)),some (bP b),some (.int b.1),some (.int b.2.1),some (.int b.2.2),none,none]) rfl rfl) ?_);refine qR (qr (qK (l:=[cP (b.1,b.2.1),.int L,.int b.2.2]) (qJ (Wc (qJ rfl (qJ rfl qZ)) (sz rfl)) (qJ rfl (qJ rfl qZ))) (Jz (by omega) (by omega)))) ?_
 refine qR (qr (qK (l:=[cP (b.1,b.2.1),.int L,.int (1 - b.2.2)]) (qJ (Wc (qJ rfl (qJ rfl qZ)) (sz rfl)) (qJ rfl (qJ (qS rfl rfl qBp) qZ))) (Jz (by omega) (by omega)))) ?_
 exact QB (qJc (b:=b) h2 hbl rfl rfl rfl)
theorem qDj {a:Ad} (hd:Dist a) {st:qC}:Qx a [.exc a.Z3 []] st = .ok (.str "! bars") st:=by have nd:=hd;unfold Dist Ad.kinds at nd;simp only [Ax,AE,Ag,not_or,B8] at nd;obtain ⟨⟨_,n0,_⟩,⟨n1,_⟩,⟨n3,n4,n5,n6,n7,n8,n9,n10⟩,_⟩:=nd;exact Y4 (by unfold QN;simp) (AB.mpr (Ne.symm n0)) (AB.mpr (Ne.symm n1)) (As _) (AB.mpr n3) (AB.mpr n4) (AB.mpr n5) (AB.mpr n6) (AB.mpr n7) (AB.mpr n8) (AB.mpr n9) (AB.mpr n10) rfl rfl
theorem jy {a:Ad} (hd:Dist a) {st:qC}:Qx a [.exc a.Z7 []] st = .ok (.str "! turn") st:=by have nd:=hd;unfold Dist Ad.kinds at nd;simp only [Ax,AE,Ag,not_or,B8] at nd;obtain ⟨⟨_,_,_,_,_,n0,_⟩,⟨_,_,_,_,n1,_⟩,⟨_,_,_,n2,_⟩,⟨_,_,n3,_⟩,⟨_,n4,_⟩,⟨n5,_⟩,⟨n7,n8,n9,n10⟩,_⟩:=nd;exact Y4 (by unfold QN;simp) (AB.mpr (Ne.symm n0)) (AB.mpr (Ne.symm n1)) (AB.mpr (Ne.symm n2)) (AB.mpr (Ne.symm n3)) (AB.mpr (Ne.symm n4)) (AB.mpr (Ne.symm n5)) (As _) (AB.mpr n7) (AB.mpr n8) (AB.mpr n9) (AB.mpr n10) rfl rfl
theorem qGN (a:Ad):a.Z3∈QN a:=by unfold QN;simp
theorem qCU (a:Ad):a.Z7∈QN a:=by unfold QN;simp
theorem qFl {a:Ad} {F:List qc} {L:Int} {v:PV} {st:qC} (h1:2≤L) (h2:L≤5) (hv:okV v=true) (hf:zl F L v=true):QJ a [.tup (F.map cP),.int L,v] st = .ok .non st:=by have e:=Y0 (a:=a) (F:=F) (st:=st) h1 h2 hv;rw [hf] at e;exact jq rfl (QA (w_not (b:=true) (QC (qK (l:=[.tup (F.map cP),.int L,v]) rfl e))) rfl)
theorem qKu {a:Ad} {F:List qc} {L:Int} {v:PV} {st:qC} (h1:2≤L) (h2:L≤5) (hv:okV v=true) (hf:zl F L v=false):QJ a [.tup (F.map cP),.int L,v] st = .ex ⟨a.Z3,[]⟩ st:=by have e:=Y0 (a:=a) (F:=F) (st:=st) h1 h2 hv;rw [hf] at e;exact wD rfl (QO (w_not (b:=false) (QC (qK (l:=[.tup (F.map cP),.int L,v]) rfl e))) rfl)
theorem qJX {a:Ad} {F v u:PV} {st:qC} (hu:WI u=true) (nu:QT 2 5 u=false):QJ a [F,u,v] st = .ex ⟨a.Z1,[]⟩ st:=by refine wD rfl ?_;unfold ZH Qm wb QL;rw [qK (l:=[F,u,v]) rfl (qBZ hu nu)];rfl
theorem qFv {lo n hi:Int} {r:qv} {st:qC} {f g h:FE} (e1:f r st = .ok (.int lo) st) (e2:g r st = .ok (.int n) st) (e3:h r st = .ok (.int hi) st):ye gLe gLe f g h r st = .ok (.bl (decide (lo≤n)&&decide (n≤hi))) st:=by
 unfold ye;rw [e1];show (g r st).bind _=_;rw [e2];show (match (PV.bl (decide (lo≤n))) with | .bl true=>(h r st).bind fun p3 s4=>gLe (.int n) p3 s4 | .bl false=>Rs.ok (.bl false) st |_ => .no)=_;cases decide (lo≤n) with
 |true=>dsimp only;rw [e3];rfl
 |false=>rfl
def awB:PV->Bool
 | .tup [.int _,.int _]=>true
 |_=>false
theorem qH0 {a:Ad} {v:PV} {st:qC} (hv:okV v=true):zf a [v,.int 2,.int 2] st = .ok (.bl (awB v)) st:=by
 have e1:=YK (a:=a) (st:=st) (yn hv);cases v with
 |tup l =>
  have e1:Qa (kit a) [.tup l,.ty "tuple"] st = .ok (.bl true) st:=e1;have hv:(Nat.ble l.length 59&&l.all okP)=true:=hv;rw [AZ,At] at hv;have hl:l.length≤59:=CG hv.1;have e2:ye gLe gLe (qB 1) (qI w4 (qA (qB 0) qD)) (qB 2) (Qh 3 [.tup l,.int 2,.int 2]) st = .ok (.bl (decide ((2:Int)≤l.length)&&decide ((l.length:Int)≤2))) st:=by exact qFv rfl (qK (l:=[.tup l]) rfl (zh rfl rfl)) rfl
  refine qm rfl (QB (Yg (qK (l:=[.tup l,.ty "tuple"]) rfl e1) ?_));by_cases q:l.length=2
  ·rw [AQ (by omega),AQ (by omega)] at e2
   refine Yg e2 ?_;have e:=QY (caps:=[]) (n:=1) (fi:=qq (qB 0)) (g:=q9 0) (f:=qI (Ws a) (qA (qB 0) qD)) (r:=Qh 3 [.tup l,.int 2,.int 2]) (st:=st) (w:=⟨l,fun _=>True⟩) (F:=fun p => .bl (isInt p)) (Qj rfl) trivial (wa (by show l.length≤_;omega)) fun p hp=>⟨[some p],rfl,qK (l:=[p]) rfl (jA (yp (hv.2 p hp)))⟩
   refine (qK (qJ (Q0 e) qZ) Zv).trans ?_
   match l,q with
   |[x,y],_ =>show Rs.ok (PV.bl (isInt x&&(isInt y&&true))) st=_;rw [Bf];cases x <;> cases y <;> rfl
  ·have:(decide ((2:Int)≤l.length)&&decide ((l.length:Int)≤2))=false:=by
    by_cases z:(2:Int)≤l.length
    ·rw [AV (show ¬ (l.length:Int)≤2 by omega),BK]
    ·rw [AV z];rfl
   rw [this] at e2;have hn:awB (.tup l)=false:=by
    unfold awB;split
    ·rename_i x y e;cases e;exact absurd rfl q
    ·rfl
   rw [hn];exact ZC e2
 |_=>first |(cases hv;done) |exact qm rfl (QB (ZC (qK (l:=[_,.ty "tuple"]) rfl e1)))
theorem qLL {v:PV} (h:awB v=true):∃ c:qc,v=cP c:=by
 unfold awB at h;split at h
 ·exact ⟨(_,_),rfl⟩
 ·cases h
section
variable {a:Ad} {F:List qc} {L:Int} {bs:List Bar} {b:Bar} {st:qC} {v:PV}
theorem jg {l:List PV}:(st++[SO.l l])[st.length]? = some (.l l):=by simp
theorem qH1 (I:FilI F L bs) (h1:2≤L) (h2:L≤5) (hb:b∈BL L bs):Qs a [.tup (F.map cP),.int L,.tup (bs.map bP),cP (plc b)] st = .ok .non (st++[.l (((BL L bs).map plc).map cP)]):=by have hbl:=I.blen h1;have ein:=qDR (neg:=true) (c:=plc b) (l:=(BL L bs).map plc) (q := .ref st.length) (st:=st++[.l (((BL L bs).map plc).map cP)]) (Yz jg);rw [AQ (AW.mpr ⟨b,hb,rfl⟩)] at ein;exact jq rfl (qR (yU (qK (l:=[.tup (F.map cP),.int L,.tup (bs.map bP)]) rfl (qFl h1 h2 (I.okV h1) (I.fill h1)))) (QA (wG (w_not (b:=true) (QC (qK (l:=[cP (plc b),.int 2,.int 2]) rfl (qH0 rfl)))) (Qo (qS rfl (qK (l:=[.tup (bs.map bP),.int L]) rfl (zU (by omega) h2 (by omega))) ein))) rfl))
theorem qHw (I:FilI F L bs) (h1:2≤L) (h2:L≤5) (hv:okV v=true) (hn:∀ c,v=cP c->c ∉ (BL L bs).map plc):∃ g,Qs a [.tup (F.map cP),.int L,.tup (bs.map bP),v] st = .ex ⟨a.Z7,[]⟩ (st++g):=by
 have hbl:=I.blen h1;have ew:=qH0 (a:=a) (v:=v) (st:=st) hv;have e0:WD (qI (QJ a) (qA (qB 0) (qA (qB 1) (qA (qB 2) qD)))) (Qh 4 [.tup (F.map cP),.int L,.tup (bs.map bP),v]) st = .nx (Qh 4 [.tup (F.map cP),.int L,.tup (bs.map bP),v]) st:=yU (qK (l:=[.tup (F.map cP),.int L,.tup (bs.map bP)]) rfl (qFl h1 h2 (I.okV h1) (I.fill h1)));cases haw:awB v with
 |false =>rw [haw] at ew;refine ⟨[],?_⟩;rw [BB];exact wD rfl (qR e0 (QO (Zr (w_not (b:=false) (QC (qK (l:=[v,.int 2,.int 2]) rfl ew)))) rfl))
 |true =>rw [haw] at ew;obtain ⟨c,rfl⟩:=qLL haw;have ein:=qDR (neg:=true) (c:=c) (l:=(BL L bs).map plc) (q := .ref st.length) (st:=st++[.l (((BL L bs).map plc).map cP)]) (Yz jg);rw [AV (hn c rfl)] at ein;exact ⟨_,wD rfl (qR e0 (QO (wG (w_not (b:=true) (QC (qK (l:=[cP c,.int 2,.int 2]) rfl ew))) (Qo (qS rfl (qK (l:=[.tup (bs.map bP),.int L]) rfl (zU (by omega) h2 (by omega))) ein))) rfl))⟩
theorem ja (I:FilI F L bs) (h1:2≤L) (h2:L≤5) (hb:b∈BL L bs):∃ g,WU a [.tup (F.map cP),.int L,.tup (bs.map bP),cP (plc b)] st = .ok (.tup ((tn L bs b).map bP)) (st++g) :=
 ⟨_,qm rfl (qR (yU (qK (l:=[.tup (F.map cP),.int L,.tup (bs.map bP),cP (plc b)]) rfl (qH1 I h1 h2 hb))) (QB (qK (l:=[.tup (bs.map bP),.int L,cP (plc b)]) rfl (qGn I h1 h2 (BO.mp hb).1))))⟩
theorem qD2 (I:FilI F L bs) (h1:2≤L) (h2:L≤5) (hb:b∈BL L bs):∃ g,ZX a [.tup (F.map cP),.int L,.tup (bs.map bP),cP (plc b)] st = .ok (.bl (decide (b.2.2=0))) (st++g):=by refine ⟨[.l (((BL L bs).map plc).map cP)],qm rfl (qR (yU (qK (l:=[.tup (F.map cP),.int L,.tup (bs.map bP),cP (plc b)]) rfl (qH1 I h1 h2 hb))) (QB (qK (l:=[.tup (bs.map bP),cP (plc b)]) rfl ?_)))⟩;rw [← qKD I h1 (BO.mp hb).1];exact jx
theorem qA0 {x:Exc} {s1:qC} {p q r:PV} (e:Qs a [p,q,r,v] st = .ex x s1):WU a [p,q,r,v] st = .ex x s1:=wD rfl (ZS (zI (qK (l:=[p,q,r,v]) rfl e)))
theorem qCt {x:Exc} {s1:qC} {p q r:PV} (e:Qs a [p,q,r,v] st = .ex x s1):ZX a [p,q,r,v] st = .ex x s1:=wD rfl (ZS (zI (qK (l:=[p,q,r,v]) rfl e)))
theorem qKA {x:Exc} {s1:qC} {p q r:PV} (e:QJ a [p,q,r] st = .ex x s1):Qs a [p,q,r,v] st = .ex x s1:=wD rfl (ZS (zI (qK (l:=[p,q,r]) rfl e)))
theorem qLt {x:Exc} {s1:qC} {p q r:PV} (e:QJ a [p,q,r] st = .ex x s1):wn a [p,q,r] st = .ex x s1:=wD rfl (ZS (zI (qK (l:=[p,q,r]) rfl e)))
theorem qKH (I:FilI F L bs) (h1:2≤L) (h2:L≤5):wn a [.tup (F.map cP),.int L,.tup (bs.map bP)] st = .ok (.ref st.length) (st++[.l (((BL L bs).map plc).map cP)]):=by have hbl:=I.blen h1;exact qm rfl (qR (yU (qK (l:=[.tup (F.map cP),.int L,.tup (bs.map bP)]) rfl (qFl h1 h2 (I.okV h1) (I.fill h1)))) (QB (qK (l:=[.tup (bs.map bP),.int L]) rfl (zU (by omega) h2 (by omega)))))
theorem qJE {p q r u z:PV} {s1:qC} (e:wn a [p,q,r] st = .ok z s1):QG a [.int 0,p,q,r,u] st = .ok z s1 :=
 qm rfl (qR (qr rfl) (qR (Yn (QO (Qo (qS rfl rfl rfl)) (qr (qK (l:=[p,q,r]) rfl e)))) (QB rfl)))
theorem qID {p q r u z:PV} {s1:qC} (e:WU a [p,q,r,u] st = .ok z s1):QG a [.int 1,p,q,r,u] st = .ok z s1 :=
 qm rfl (qR (qr rfl) (qR (Yn (QA (Qo (qS rfl rfl rfl)) (QO (Qo (qS rfl rfl rfl)) (qr (qK (l:=[p,q,r,u]) rfl e))))) (QB rfl)))
theorem qJZ {p q r u z:PV} {s1:qC} (e:ZX a [p,q,r,u] st = .ok z s1):QG a [.int 2,p,q,r,u] st = .ok z s1 :=
 qm rfl (qR (qr rfl) (qR (Yn (QA (Qo (qS rfl rfl rfl)) (QA (Qo (qS rfl rfl rfl)) (qr (qK (l:=[p,q,r,u]) rfl e))))) (QB rfl)))
theorem qHc {p q r u z:PV} {s1:qC} {C:Addr} (e:wn a [p,q,r] st = .ex ⟨C,[]⟩ s1) (hC:C∈QN a) (hk:Qx a [.exc C []] s1 = .ok z s1):QG a [.int 0,p,q,r,u] st = .ok z s1 :=
 qm rfl (qR (qr rfl) (qR (yc (r1:=[none,none,none,none,none,some z,some (.exc C [])]) (QO (Qo (qS rfl rfl rfl)) (Yp (qK (l:=[p,q,r]) rfl e))) hC (qr (qK (l:=[.exc C []]) rfl hk))) (QB rfl)))
theorem qCW {p q r u z:PV} {s1:qC} {C:Addr} (e:WU a [p,q,r,u] st = .ex ⟨C,[]⟩ s1) (hC:C∈QN a) (hk:Qx a [.exc C []] s1 = .ok z s1):QG a [.int 1,p,q,r,u] st = .ok z s1 :=
 qm rfl (qR (qr rfl) (qR (yc (r1:=[none,none,none,none,none,some z,some (.exc C [])]) (QA (Qo (qS rfl rfl rfl)) (QO (Qo (qS rfl rfl rfl)) (Yp (qK (l:=[p,q,r,u]) rfl e)))) hC (qr (qK (l:=[.exc C []]) rfl hk))) (QB rfl)))
theorem qCY {p q r u z:PV} {s1:qC} {C:Addr} (e:ZX a [p,q,r,u] st = .ex ⟨C,[]⟩ s1) (hC:C∈QN a) (hk:Qx a [.exc C []] s1 = .ok z s1):QG a [.int 2,p,q,r,u] st = .ok z s1 :=
 qm rfl (qR (qr rfl) (qR (yc (r1:=[none,none,none,none,none,some z,some (.exc C [])]) (QA (Qo (qS rfl rfl rfl)) (QA (Qo (qS rfl rfl rfl)) (Yp (qK (l:=[p,q,r,u]) rfl e)))) hC (qr (qK (l:=[.exc C []]) rfl hk))) (QB rfl)))
theorem qCq {p q r u z:PV} {C:Addr} (e:QJ a [p,q,r] st = .ex ⟨C,[]⟩ st) (hC:C∈QN a) (hk:Qx a [.exc C []] st = .ok z st):QG a [.int 0,p,q,r,u] st = .ok z st∧QG a [.int 1,p,q,r,u] st = .ok z st∧QG a [.int 2,p,q,r,u] st = .ok z st :=
 ⟨qHc (qLt e) hC hk,qCW (qA0 (qKA e)) hC hk,qCY (qCt (qKA e)) hC hk⟩
end
theorem qKb {l:List Bar} {n:Nat}:ZT (l.map bP) none (some (n:Int))=(l.take n).map bP:=by
 have h1:HT.sIx (l.map bP).length 0 none=0:=rfl;have h2:HT.sIx (l.map bP).length (l.map bP).length (some (n:Int))=min n (l.map bP).length:=HT.sIx_nat _ _ _;unfold ZT;rw [h1,h2,List.drop_zero,Nat.sub_zero,List.map_take];by_cases h:n≤(l.map bP).length
 ·rw [Nat.min_eq_left h]
 ·rw [Nat.min_eq_right (by omega),List.take_length,B7 (by omega)]
theorem qC0 {L:Int} {bars S:List Bar} {C:List qc} (hL:2≤L) (I:Z0 L bars C) (hS:S.Nodup) (hn:(cells L S).Nodup) (hb:∀ b∈S,OKB b) (hc:∀ c∈cells L S,In8 c∧c ∉ C):Z0 L (bars++S) (C++cells L S):=by
 obtain ⟨h1,h2,h3,h4,h5⟩:=I;refine ⟨by rw [h1,List.flatMap_append];rfl,?_,?_,fun d hd => ?_,fun d hd => ?_⟩
 ·refine BR.mpr ⟨h2,hn,fun x hx y hy z => ?_⟩;subst z;exact (hc x hy).2 hx
 ·refine BR.mpr ⟨h3,hS,fun x hx y hy z => ?_⟩;subst z;refine (hc _ (BI.mpr ⟨x,hy,ZW hL⟩)).2 ?_;rw [h1];exact BI.mpr ⟨x,hx,ZW hL⟩
 ·rcases An.mp hd with z |z
  ·exact h4 d z
  ·exact hb d z
 ·rcases An.mp hd with z |z
  ·exact h5 d z
  ·exact (hc d z).1
theorem qCg {a:Ad} {L:Int} {x0 x2 x3 x4 x5 x6 x9:Option PV} {st:qC} (h1:0≤L) (h2:L≤5):∀ (bs:List Bar) (C:List qc) (x8:Option PV),C.length + 5 * bs.length≤500 -> ∃ y8,Qz (fun _=>True) (qu 8) (qBg a) (bs.map bP) [x0,some (.int L),x2,x3,x4,x5,x6,some (.lst (C.map cP)),x8,x9] st = .nx [x0,some (.int L),x2,x3,x4,x5,x6,some (.lst ((C++cells L bs).map cP)),y8,x9] st
 |[],C,x8,_=>⟨x8,by show Qz _ _ _ [] _ _ = .nx [x0,some (.int L),x2,x3,x4,x5,x6,some (.lst ((C++[]).map cP)),x8,x9] st;rw [BB];exact Qi trivial⟩
 |b::bs,C,x8,h=>by
  rw [AM] at h;obtain ⟨y,e⟩:=qCg (a:=a) (L:=L) (x0:=x0) (x2:=x2) (x3:=x3) (x4:=x4) (x5:=x5) (x6:=x6) (x9:=x9) (st:=st) h1 h2 bs (C++cov L b) (some (bP b)) (by rw [AY,W0];omega)
  rw [Al] at e;have ec:qBg a [x0,some (.int L),x2,x3,x4,x5,x6,some (.lst (C.map cP)),some (bP b),x9] st = .nx [x0,some (.int L),x2,x3,x4,x5,x6,some (.lst ((C++cov L b).map cP)),some (bP b),x9] st:=by rw [Bd];exact qr (Q0 (Zj rfl (qK (l:=[bP b,.int L]) rfl (qAb h1 (by omega))) rfl rfl (by rw [AC,AC,W0];exact wa (by omega))))
  exact ⟨y,wf trivial rfl ec e⟩
theorem qJk {L:Int} {C M:List qc} {x0 x1 x3 x4 x5 x6 x8 x9:Option PV} {st:qC} (hM:M.length≤100):∃ k:Bool,qHf [x0,x1,some (.lst (C.map cP)),x3,x4,x5,x6,some (.lst (M.map cP)),x8,x9] st = .ok (.bl k) st∧(k=true->C.length + M.length < 26 ∧ ∀ c∈M,c.1≤7∧c.2≤7∧c ∉ C):=by
 have f1:qP gLt (qP QV (qI w4 (qA (qB 2) qD)) (qI w4 (qA (qB 7) qD))) (vC (.int 26)) [x0,x1,some (.lst (C.map cP)),x3,x4,x5,x6,some (.lst (M.map cP)),x8,x9] st = .ok (.bl (decide ((C.length:Int) + (M.length:Int) < 26))) st:=qS (qS (qK (l:=[.lst (C.map cP)]) rfl (zh rfl (by rw [AC]))) (qK (l:=[.lst (M.map cP)]) rfl (zh rfl (by rw [AC]))) WH) rfl w_lt
 have f2:qP gEq (vFz (qx [2] 1 (qq (qB 7)) (q9 1) [(zr (vTB (qP gGt (qI qAn (qA (qB 1) qD)) (vC (.int 7)))) (vTB (qP (gIn false) (qB 1) (qB 0))))] [] (qB 1))) (vFz (Qy qD)) [x0,x1,some (.lst (C.map cP)),x3,x4,x5,x6,some (.lst (M.map cP)),x8,x9] st = .ok (.bl (M.filter fun c=>decide (max c.1 c.2 > 7) || decide (c∈C)).isEmpty) st:=by
  refine qS (Q0 ?_) rfl eq_nil;rw [zN (w:=⟨M.map cP,fun _=>True⟩) (c:=fun p=>decide (max (unC p).1 (unC p).2 > 7) || decide (unC p∈C)) (wK rfl) trivial (by rw [AC];exact wa (by omega)) fun p hp => ?_]
  ·rw [qAv (d:=fun c=>decide (max c.1 c.2 > 7) || decide (c∈C)) fun x _=>rfl]
  ·obtain ⟨c,_,rfl⟩:=AW.mp hp;exact ⟨[some (.lst (C.map cP)),some (cP c)],rfl,qKh (Qo (qS (qK (l:=[cP c]) rfl (show qAn [cP c] st = .ok (.int (max c.1 c.2)) st from rfl)) rfl qKc)) fun _=>Qo (qS rfl rfl (qDR (neg:=false) rfl)),rfl⟩
 cases h1:decide ((C.length:Int) + (M.length:Int) < 26) with
 |false=>rw [h1] at f1;exact ⟨false,ZC f1,fun h=>(by cases h)⟩
 |true =>
  rw [h1] at f1;refine ⟨_,Yg f1 f2,fun h=>⟨by have:=Aq h1;omega,fun c hc => ?_⟩⟩
  have h3:=List.filter_eq_nil_iff.mp (List.isEmpty_iff.mp h) c hc;rw [Bool.or_eq_true,not_or,Ca,Ca] at h3
  have:=Int.le_max_left c.1 c.2
  have:=Int.le_max_right c.1 c.2
  exact ⟨by omega,by omega,h3.2⟩
theorem qGg {a:Ad} {st j:qC} {x L t:Int} {bars:List Bar} {C:List qc} {x5 x6 x7 x8 x9:Option PV} (hL1:2≤L) (hL2:L≤5) (I:Z0 L bars C) (hC:C.length≤25) (hb:bars.length≤25) :
  ∃ (y:Int) (bars':List Bar) (C':List qc) (y5 y6 y7 y8 y9:Option PV),Z0 L bars' C'∧C'.length≤25∧bars'.length≤bars.length + 5∧Yc a [some (.ref st.length),some (.int L),some (.lst (C.map cP)),some (.lst (bars.map bP)),some (.int t),x5,x6,x7,x8,x9] (st ++ .l [.int x]::j) = .nx [some (.ref st.length),some (.int L),some (.lst (C'.map cP)),some (.lst (bars'.map bP)),some (.int t),y5,y6,y7,y8,y9] (st ++ .l [.int y]::j):=by
 have t1:=Ql (a:=a) (st:=st) (j:=j) (x:=x) (m:=7) ⟨by decide,by decide⟩
 have t2:=Ql (a:=a) (st:=st) (j:=j) (x:=x / 7) (m:=7) ⟨by decide,by decide⟩
 have t3:=Ql (a:=a) (st:=st) (j:=j) (x:=x / 7 / 7) (m:=2) ⟨by decide,by decide⟩
 have t4:=Ql (a:=a) (st:=st) (j:=j) (x:=x / 7 / 7 / 2) (m:=2) ⟨by decide,by decide⟩
 have i1:=WQ (x:=x) (m:=7) (by decide)
 have i2:=WQ (x:=x / 7) (m:=7) (by decide)
 have i3:=WQ (x:=x / 7 / 7) (m:=2) (by decide)
 generalize x % 7=r at t1 i1;generalize x / 7 % 7=c at t2 i2;generalize x / 7 / 7 % 2=w at t3 i3;generalize x / 7 / 7 / 2=x3 at t3 t4;have hway:Way (r,c,w):=by show w=0∨w=1;omega
 -- some
 obtain ⟨S,y,hsub,hSn,hSl,e3⟩:∃ (S:List Bar) (y:Int),(∀ b∈S,b∈sqB L (r,c,w))∧S.Nodup∧S.length≤5∧(Qm (zk (vTB (qP gGt (qB 4) (vC (.int 0)))) (vTB (qP gEq (qI (qa a) (qA (qB 0) (qA (vC (.int 2)) qD))) (vC (.int 0))))) (qj 6 (qFB (qB 6) WF (wM (vC (.int 1))))) QU) [some (.ref st.length),some (.int L),some (.lst (C.map cP)),some (.lst (bars.map bP)),some (.int t),some (cP (r,c)),some (.lst ((sqB L (r,c,w)).map bP)),x7,x8,x9] (st ++ .l [.int x3]::j) = .nx [some (.ref st.length),some (.int L),some (.lst (C.map cP)),some (.lst (bars.map bP)),some (.int t),some (cP (r,c)),some (.lst (S.map bP)),x7,x8,x9] (st ++ .l [.int y]::j):=by
  have c1:vTB (qP gGt (qB 4) (vC (.int 0))) [some (.ref st.length),some (.int L),some (.lst (C.map cP)),some (.lst (bars.map bP)),some (.int t),some (cP (r,c)),some (.lst ((sqB L (r,c,w)).map bP)),x7,x8,x9] (st ++ .l [.int x3]::j) = .ok (decide (t > 0)) (st ++ .l [.int x3]::j):=Qo (qS rfl rfl qKc);have c2:vTB (qP gEq (qI (qa a) (qA (qB 0) (qA (vC (.int 2)) qD))) (vC (.int 0))) [some (.ref st.length),some (.int L),some (.lst (C.map cP)),some (.lst (bars.map bP)),some (.int t),some (cP (r,c)),some (.lst ((sqB L (r,c,w)).map bP)),x7,x8,x9] (st ++ .l [.int x3]::j) = .ok (x3 % 2==0) (st ++ .l [.int (x3 / 2)]::j):=Qo (qS (qK (l:=[.ref st.length,.int 2]) rfl t4) rfl Wu);cases k1:decide (t > 0) with
  |false=>rw [k1] at c1;exact ⟨sqB L (r,c,w),x3,fun b h=>h,sq_nodup,by rw [ym];omega,QA (Jx c1) rfl⟩
  |true =>
   rw [k1] at c1;cases k2:(x3 % 2==0) with
   |false=>rw [k2] at c2;exact ⟨sqB L (r,c,w),x3 / 2,fun b h=>h,sq_nodup,by rw [ym];omega,QA (yK c1 c2) rfl⟩
   |true =>
    rw [k2] at c2;refine ⟨(sqB L (r,c,w)).take 1,x3 / 2,fun b h=>List.mem_of_mem_take h,sq_nodup.sublist (List.take_sublist _ _),by rw [B3];omega,QO (yK c1 c2) ?_⟩
    rw [← qKb (n:=1)];exact qr (qK5 rfl rfl (Je rfl) rfl)
 obtain ⟨y8,em⟩:=qCg (a:=a) (L:=L) (x0:=some (.ref st.length)) (x2:=some (.lst (C.map cP))) (x3:=some (.lst (bars.map bP))) (x4:=some (.int t)) (x5:=some (cP (r,c))) (x6:=some (.lst (S.map bP))) (x9:=x9) (st:=st ++ .l [.int y]::j) (by omega) hL2 S [] x8 (by show 0 + _≤500;omega)
 rw [List.nil_append] at em;have hMl:(cells L S).length≤25:=by rw [zE];have:L.toNat * S.length≤5 * 5:=Nat.mul_le_mul (by omega) hSl;omega
 obtain ⟨k,ek,hk⟩:=qJk (L:=L) (C:=C) (M:=cells L S) (x0:=some (.ref st.length)) (x1:=some (.int L)) (x3:=some (.lst (bars.map bP))) (x4:=some (.int t)) (x5:=some (cP (r,c))) (x6:=some (.lst (S.map bP))) (x8:=y8) (x9:=x9) (st:=st ++ .l [.int y]::j) (by omega)
 have pre:∀ {o:RS},(Qm (QL (qB 9)) (qT (qj 3 (vFz (zP (qB 3) (qB 6)))) (qj 2 (vFz (zP (qB 2) (qB 7))))) QU) [some (.ref st.length),some (.int L),some (.lst (C.map cP)),some (.lst (bars.map bP)),some (.int t),some (cP (r,c)),some (.lst (S.map bP)),some (.lst ((cells L S).map cP)),y8,some (.bl k)] (st ++ .l [.int y]::j)=o->Yc a [some (.ref st.length),some (.int L),some (.lst (C.map cP)),some (.lst (bars.map bP)),some (.int t),x5,x6,x7,x8,x9] (st ++ .l [.int x]::j)=o:=fun {o} h=>by
  unfold Yc;refine qR (qr (p:=cP (r,c)) (Wc (qJ (qK (l:=[.ref st.length,.int 7]) rfl t1) (qJ (qK (l:=[.ref st.length,.int 7]) rfl t2) qZ)) (sz rfl))) ?_;refine qR (qr (qK (l:=[cP (r,c),.int L,.int w]) (qJ rfl (qJ rfl (qJ (qK (l:=[.ref st.length,.int 2]) rfl t3) qZ))) (Jz (by omega) (by omega)))) ?_
  exact qR e3 (qR (qr rfl) (qR (ZM (wK rfl) em) (qR (qr ek) h)))
 cases k with
 |false=>exact ⟨y,bars,C,_,_,_,_,_,I,hC,by omega,pre (QA (QC rfl) rfl)⟩
 |true =>
  have hr:=hk rfl;have hcell:∀ d∈cells L S,In8 d∧d ∉ C:=fun d hd=>by obtain ⟨b,hb,hc2⟩:=BI.mp hd;have h1:=(zR (L:=L) hway).mp ⟨b,hsub b hb,hc2⟩;have h2:=hr.2 d hd;dsimp only at h1;exact ⟨⟨by omega,h2.1,by omega,h2.2.1⟩,h2.2.2⟩
  have hob:∀ b∈S,OKB b:=fun b hb=>by have h1:=(hcell (b.1,b.2.1) (BI.mpr ⟨b,hb,Wl hL1⟩)).1;exact ⟨h1.1,h1.2.1,h1.2.2.1,h1.2.2.2,qFc (hsub b hb)⟩
  have hnd:(cells L S).Nodup:=Zo hSn hob fun b hb d hd c0 h1 h2=>qCl hway (hsub b hb) (hsub d hd) h1 h2;refine ⟨y,bars++S,C++cells L S,some (cP (r,c)),some (.lst (S.map bP)),some (.lst ((cells L S).map cP)),y8,some (.bl true),qC0 hL1 I hSn hnd hob hcell,by rw [AY];omega,by rw [AY];omega,pre (QO (QC rfl) ?_)⟩
  rw [Bd,Bd];exact qR (qr (Q0 (Zj rfl rfl rfl rfl (by rw [AC,AC];exact wa (by omega))))) (qr (Q0 (Zj rfl rfl rfl rfl (by rw [AC,AC];exact wa (by omega)))))
theorem qCk {a:Ad} {st j:qC} {L:Int} (hL1:2≤L) (hL2:L≤5):∀ (ks:List Int) (x:Int) (bars:List Bar) (C:List qc) (x4 x5 x6 x7 x8 x9:Option PV),Z0 L bars C->C.length≤25->bars.length + 5 * ks.length≤25 ->
  ∃ (y:Int) (bars':List Bar) (C':List qc) (y4 y5 y6 y7 y8 y9:Option PV),Z0 L bars' C'∧C'.length≤25∧bars'.length≤25∧Qz (fun _=>True) (qu 4) (Yc a) (ks.map PV.int) [some (.ref st.length),some (.int L),some (.lst (C.map cP)),some (.lst (bars.map bP)),x4,x5,x6,x7,x8,x9] (st ++ .l [.int x]::j) = .nx [some (.ref st.length),some (.int L),some (.lst (C'.map cP)),some (.lst (bars'.map bP)),y4,y5,y6,y7,y8,y9] (st ++ .l [.int y]::j)
 |[],x,bars,C,x4,x5,x6,x7,x8,x9,I,h1,h2=>⟨x,bars,C,x4,x5,x6,x7,x8,x9,I,h1,by omega,Qi trivial⟩
 |k::ks,x,bars,C,x4,x5,x6,x7,x8,x9,I,h1,h2=>by
  rw [AM] at h2;obtain ⟨y,bs,C1,y5,y6,y7,y8,y9,I1,l1,l2,e⟩:=qGg (a:=a) (st:=st) (j:=j) (x:=x) (L:=L) (t:=k) (bars:=bars) (C:=C) (x5:=x5) (x6:=x6) (x7:=x7) (x8:=x8) (x9:=x9) hL1 hL2 I h1 (by omega)
  obtain ⟨z,bs2,C2,z4,z5,z6,z7,z8,z9,I2,m1,m2,e2⟩:=qCk hL1 hL2 ks y bs C1 (some (.int k)) y5 y6 y7 y8 y9 I1 l1 (by omega)
  exact ⟨z,bs2,C2,z4,z5,z6,z7,z8,z9,I2,m1,m2,wf trivial rfl e e2⟩
theorem qDi {a:Ad} {st j:qC} {x L:Int} (hL1:2≤L) (hL2:L≤5):∃ (bars:List Bar) (C:List qc) (y:Int),Z0 L bars C∧C.length≤25∧zZ a [.ref st.length,.int L] (st ++ .l [.int x]::j) = .ok (.tup [.tup ((yZ C).map cP),.tup ((Z5 bars).map bP)]) (st ++ .l [.int y]::j):=by
 have t1:=Ql (a:=a) (st:=st) (j:=j) (x:=x) (m:=4) ⟨by decide,by decide⟩
 have i1:=WQ (x:=x) (m:=4) (by decide)
 generalize x % 4=n at t1 i1;obtain ⟨y,bars,C,y4,y5,y6,y7,y8,y9,I,l1,l2,e⟩:=qCk (a:=a) (st:=st) (j:=j) (L:=L) hL1 hL2 (WG (1 + n)) (x / 4) [] [] none none none none none none ⟨rfl,Bk,Bk,fun b h=>(by cases h),fun c h=>(by cases h)⟩ (A7 _) (by rw [WX];show 0 + _≤25;omega)
 obtain ⟨m,q0,q1,q2,q3⟩:=qBk (l:=bars) (q := .lst (bars.map bP)) (st:=st ++ .l [.int y]::j) rfl (by omega)
 subst q0;refine ⟨bars,C,y,I,l1,qm rfl ?_⟩;unfold yL;refine qR (qr rfl) (qR (qr rfl) ?_);refine qR (ZM (itN (L:=1 + n) (by omega) (by omega) (qJ (qS rfl (qK (l:=[.ref st.length,.int 4]) rfl t1) WH) qZ)) e) ?_
 exact QB (Wc (qJ (qK (qJ (Yy rfl (qER rfl (by omega))) qZ) (zc rfl)) (qJ (qK (qJ (Yy rfl q3) qZ) (zc rfl)) qZ)) (sz rfl))
theorem qIR {G:List qc} {p:PV} {st:qC} (h:res st p = .lst (G.map cP)):gNe p (.lst (G.map cP)) st = .ok (.bl false) st:=by
 have h1:zd (.lst (G.map cP)) (.lst (G.map cP))=true:=by show (nrs (G.map cP)&&nrs (G.map cP)&&decide (deps (G.map cP) + 1≤zg))=true;rw [qAq,AQ (Ae (B5 (YY G)) (by decide))];rfl
 unfold gNe;rw [h];show (if zd (.lst (G.map cP)) (.lst (G.map cP))=true then Rs.ok (PV.bl (!peqs (G.map cP) (G.map cP))) st else Rs.no)=_;rw [AH h1,qEJ,AQ rfl];rfl
theorem qFk:∀ F G:List Bar,peqs (F.map bP) (G.map bP)=decide (F=G)
 |[],[]=>rfl
 |[],d::G=>rfl
 |c::F,[]=>rfl
 |c::F,d::G=>by
  rw [Aj,Aj,peqs,qH3,qFk F G];by_cases h:c=d
  ·by_cases h2:F=G
   ·subst h;subst h2;simp
   ·rw [AV h2,BK];exact (AV (by simp [h2])).symm
  ·rw [AV h,CF];exact (AV (by simp [h])).symm
theorem qK4 {G:List Bar} {st:qC}:gNe (.tup (G.map bP)) (.tup (G.map bP)) st = .ok (.bl false) st:=by
 have h1:zd (.tup (G.map bP)) (.tup (G.map bP))=true:=by show (nrs (G.map bP)&&nrs (G.map bP)&&decide (deps (G.map bP) + 1≤zg))=true;rw [jY,AQ (Ae (B5 (yV G)) (by decide))];rfl
 show (if zd (.tup (G.map bP)) (.tup (G.map bP))=true then Rs.ok (PV.bl (!peqs (G.map bP) (G.map bP))) st else Rs.no)=_;rw [AH h1,qFk,AQ rfl];rfl
theorem qDn {l:List PV} {n:Nat}:ZT l none (some (n:Int))=l.take n:=by
 have h2:HT.sIx l.length l.length (some (n:Int))=min n l.length:=HT.sIx_nat _ _ _;have h1:HT.sIx l.length 0 none=0:=rfl;unfold ZT;rw [h1,h2,List.drop_zero,Nat.sub_zero];by_cases h:n≤l.length
 ·rw [Nat.min_eq_left h]
 ·rw [Nat.min_eq_right (by omega),List.take_length,B7 (by omega)]
theorem qGB {b:Bar} {f:FE} {r:qv} {st:qC} (h:f r st = .ok (bP b) st):Z1 f WF (wM (vC (.int 2))) r st = .ok (cP (plc b)) st:=by refine (qHy (l:=[.int b.1,.int b.2.1,.int b.2.2]) (p:=none) (q:=some ((2:Nat):Int)) h rfl (Je rfl)).trans ?_;rw [qDn];rfl
theorem Yq {B:List Bar} {n i:Nat} {r:qv} {st:qC} (hr:r[i]? = some (some (.ref n))) (hg:st[n]? = some (.l (B.map bP))) (hB:B.length≤1000):vFz (qx [] 1 (qq (qB i)) (q9 0) [] [] (Z1 (qB 0) WF (wM (vC (.int 2))))) r st = .ok (.lst ((B.map plc).map cP)) st:=by
 have e:=QY (caps:=[]) (n:=1) (fi:=qq (qB i)) (g:=q9 0) (f:=Z1 (qB 0) WF (wM (vC (.int 2)))) (r:=r) (st:=st) (w:=⟨B.map bP,fun s=>s[n]? = some (.l (B.map bP))⟩) (F:=fun p=>cP (plc (unB p))) (Yf (zp hr) hg) hg (by rw [AC];exact wa (by omega)) fun p hp=>by obtain ⟨b,_,rfl⟩:=AW.mp hp;exact ⟨[some (bP b)],rfl,qGB rfl⟩
 have e2:(B.map bP).map (fun p=>cP (plc (unB p)))=(B.map plc).map cP:=by rw [Au,Au];rfl
 rw [← e2];exact Q0 e
theorem isl {a:Ad} {n:Nat} {l:List PV} {st:qC} (h:st[n]? = some (.l l)):Qa (kit a) [.ref n,.ty "list"] st = .ok (.bl true) st:=by show (if lk st (.ref n)=true then Rs.ok (PV.bl true) st else .no)=_;rw [AH (qGT h)]
theorem Wp {J g:qC} {i:Nat} {o:SO} (h:J[i]? = some o):(J++g)[i]? = some o:=by rw [Af (AR.mp h).1];exact h
theorem qCZ {a:Ad} {F:List qc} {L:Int} {bs:List Bar} {S:qC} {n:Nat} {x4 x5 x6 x7 x8:Option PV} (I:FilI F L bs) (h1:2≤L) (h2:L≤5) (hg:S[n]? = some (.l ((BL L bs).map bP))):∃ (g:qC) (y5:Option PV),qEA a [some (.tup (F.map cP)),some (.int L),some (.tup (bs.map bP)),some (.ref n),x4,x5,x6,x7,x8] S = .nx [some (.tup (F.map cP)),some (.int L),some (.tup (bs.map bP)),some (.ref n),x4,y5,x6,x7,x8] (S++g):=by
 have hbl:=I.blen h1;have hB:(BL L bs).length≤bs.length:=BE _ _;have e0:=qJE (u := .non) (qKH (a:=a) (st:=S) I h1 h2);let S1:qC:=S++[.l (((BL L bs).map plc).map cP)];have hg1:S1[n]? = some (.l ((BL L bs).map bP)):=Wp hg;have ea:=Y7 (fo:=qB 5) (f:=qy (qA (vC (.int 0)) (qA (vC (.int 0)) qD))) (r:=[some (.tup (F.map cP)),some (.int L),some (.tup (bs.map bP)),some (.ref n),x4,some (.ref S.length),x6,x7,x8]) (st:=S1) (n:=S.length) (p:=cP (0,0)) rfl (qGT jg) rfl jg (by rw [AC,AC];exact Ba (show (BL L bs).length≤1000 by omega) (by decide))
 have es:S1.set S.length (.l (((BL L bs).map plc).map cP++[cP (0,0)]))=S++[.l (((BL L bs).map plc).map cP++[cP (0,0)])]:=by show (S++[_]).set S.length _=_;rw [Br _ _ (AK _),Nat.sub_self];rfl
 rw [es] at ea;refine ⟨_,_,qR (qr (qK (l:=[.int 0,.tup (F.map cP),.int L,.tup (bs.map bP),.non]) rfl e0)) (qR (QA (wG (w_not (b:=true) (QC (qK (l:=[.ref S.length,.ty "list"]) rfl (isl jg)))) (Qo (qS rfl (Yq rfl hg1 (by omega)) (qIR (j6 jg))))) rfl) ea)⟩
theorem qGf {a:Ad} {F:List qc} {L:Int} {bs:List Bar} {b:Bar} {S:qC} {x3 x4 x5 x7 x8:Option PV} (I:FilI F L bs) (h1:2≤L) (h2:L≤5) (hb:b∈BL L bs):∃ (g:qC) (y7 y8:Option PV),Jp a [some (.tup (F.map cP)),some (.int L),some (.tup (bs.map bP)),x3,x4,x5,some (bP b),x7,x8] S = .nx [some (.tup (F.map cP)),some (.int L),some (.tup (bs.map bP)),x3,x4,x5,some (bP b),y7,y8] (S++g):=by
 have hbl:=I.blen h1;have hbm:=BO.mp hb;have hw:Way b:=(I.ok b hbm.1).2.2.2.2;have I':=j3 I h1 hw hbm.2;have hb':flp b∈BL L (tn L bs b):=BO.mpr ⟨qIP h1 hw,qE4⟩;obtain ⟨g1,e1⟩:=ja (a:=a) (st:=S) I h1 h2 hb;obtain ⟨g2,e2⟩:=ja (a:=a) (st:=S++g1) I' h1 h2 hb';rw [qGE I h1 hw hbm.2] at e2;have e2:WU a [.tup (F.map cP),.int L,.tup ((tn L bs b).map bP),cP (plc b)] (S++g1) = .ok (.tup (bs.map bP)) (S++g1++g2):=e2;obtain ⟨g3,e3⟩:=qD2 (a:=a) (st:=S++g1++g2) I h1 h2 hb;have e4:∀ T:qC,qP gEq (qP gIx (qB 6) (vC (.int 2))) (vC (.int 0)) [some (.tup (F.map cP)),some (.int L),some (.tup (bs.map bP)),x3,x4,x5,some (bP b),some (.tup ((tn L bs b).map bP)),some (.bl (decide (b.2.2=0)))] T = .ok (.bl (decide (b.2.2=0))) T:=fun T=>by refine (qS (p := .int b.2.2) (qS rfl rfl rfl) rfl Wu).trans ?_;rw [show (b.2.2==0)=decide (b.2.2=0) by rw [Bool.eq_iff_iff,A4,Ca]]
 refine ⟨g1++g2++g3,some (.tup ((tn L bs b).map bP)),some (.bl (decide (b.2.2=0))),?_⟩;rw [← Al,← Al];unfold Jp;refine qR (qr (qK (l:=[.int L,.tup (bs.map bP),bP b]) rfl (qAj h1 h2 hbl))) ?_;refine qR (QA (wG (Qo (qS (qK (l:=[.int 1,.tup (F.map cP),.int L,.tup (bs.map bP),cP (plc b)]) (qJ rfl (qJ rfl (qJ rfl (qJ rfl (qJ (qGB rfl) qZ))))) (qID e1)) rfl qK4)) (Qo (qS (qK (l:=[.tup (F.map cP),.int L,.tup ((tn L bs b).map bP),cP (plc b)]) (qJ rfl (qJ rfl (qJ rfl (qJ (qGB rfl) qZ)))) e2) rfl qK4))) rfl) ?_;refine qR (qr (qK (l:=[.int 2,.tup (F.map cP),.int L,.tup (bs.map bP),cP (plc b)]) (qJ rfl (qJ rfl (qJ rfl (qJ rfl (qJ (qGB rfl) qZ))))) (qJZ e3))) ?_;exact QA (wG (w_not (b:=true) (QC (qK (l:=[.bl (decide (b.2.2=0)),.ty "bool"]) rfl rfl))) (Qo (qS rfl (e4 _) qKi))) rfl
theorem qCo {a:Ad} {F:List qc} {L:Int} {bs:List Bar} {n:Nat} {x3 x4 x5:Option PV} (I:FilI F L bs) (h1:2≤L) (h2:L≤5):∀ (ks:List Bar) (S:qC) (x6 x7 x8:Option PV),(∀ b∈ks,b∈BL L bs)->S[n]? = some (.l ((BL L bs).map bP)) -> ∃ (g:qC) (y6 y7 y8:Option PV),Qz (fun s=>s[n]? = some (.l ((BL L bs).map bP))) (qu 6) (Jp a) (ks.map bP) [some (.tup (F.map cP)),some (.int L),some (.tup (bs.map bP)),x3,x4,x5,x6,x7,x8] S = .nx [some (.tup (F.map cP)),some (.int L),some (.tup (bs.map bP)),x3,x4,x5,y6,y7,y8] (S++g)
 |[],S,x6,x7,x8,_,hg=>⟨[],x6,x7,x8,by rw [BB];exact Qi hg⟩
 |b::ks,S,x6,x7,x8,hk,hg=>by obtain ⟨g1,z7,z8,e⟩:=qGf (a:=a) (S:=S) (x3:=x3) (x4:=x4) (x5:=x5) (x7:=x7) (x8:=x8) I h1 h2 (hk b AI);obtain ⟨g2,y6,y7,y8,e2⟩:=qCo (a:=a) (n:=n) (x3:=x3) (x4:=x4) (x5:=x5) I h1 h2 ks (S++g1) (some (bP b)) z7 z8 (fun d hd=>hk d (AD _ hd)) (Wp hg);exact ⟨g1++g2,y6,y7,y8,by rw [← Al];exact wf hg rfl e e2⟩
theorem qFV {a:Ad} {F:List qc} {L:Int} {bs:List Bar} {st:qC} (I:FilI F L bs) (h1:2≤L) (h2:L≤5):∃ g,ZP a [.tup (F.map cP),.int L,.tup (bs.map bP)] st = .ok (.bl true) (st++g):=by
 have hbl:=I.blen h1;have hB:(BL L bs).length≤bs.length:=BE _ _;let S0:qC:=st++[.l ((BL L bs).map bP)];have hg0:S0[st.length]? = some (.l ((BL L bs).map bP)):=jg;obtain ⟨g1,y5,e1⟩:=qCZ (a:=a) (S:=S0) (n:=st.length) (x4:=some (.int 0)) (x5:=none) (x6:=none) (x7:=none) (x8:=none) I h1 h2 hg0;obtain ⟨g2,z5,e2⟩:=qCZ (a:=a) (S:=S0++g1) (n:=st.length) (x4:=some (.int 1)) (x5:=y5) (x6:=none) (x7:=none) (x8:=none) I h1 h2 (Wp hg0);have hg2:(S0++g1++g2)[st.length]? = some (.l ((BL L bs).map bP)):=Wp (Wp hg0);obtain ⟨g3,w6,w7,w8,e3⟩:=qCo (a:=a) (n:=st.length) (x3:=some (.ref st.length)) (x4:=some (.int 1)) (x5:=z5) I h1 h2 (BL L bs) (S0++g1++g2) none none none (fun b hb=>hb) hg2;refine ⟨[.l ((BL L bs).map bP)]++g1++g2++g3,?_⟩;rw [← Al,← Al,← Al];refine qm rfl (qR (qr (qK (l:=[.int L,.tup (bs.map bP)]) rfl (Yv (by omega) h2 (by omega)))) ?_)
 refine qR (ZM (itN (L:=2) (by decide) (by decide) rfl) (wf (ps:=[.int 1]) trivial rfl e1 (wf (ps:=[]) trivial rfl e2 (Qi trivial)))) ?_
 exact qR (ZM (Yf rfl hg2) e3) (QB rfl)
theorem qDy {l:List PV} {n:Nat}:ZT l (some (n:Int)) none=l.drop n:=by
 have h2:HT.sIx l.length 0 (some (n:Int))=min n l.length:=HT.sIx_nat _ _ _;have h1:HT.sIx l.length l.length none=l.length:=rfl;unfold ZT;rw [h1,h2];by_cases h:n≤l.length
 ·rw [Nat.min_eq_left h,B7 (by rw [CH];exact AK _)]
 ·rw [Nat.min_eq_right (by omega),List.drop_length,List.drop_eq_nil_of_le (by omega),List.take_nil]
def jr:PV->Bool
 | .tup l=>l.all isInt
 |_=>false
theorem qI4 {a:Ad} {v:PV} {r:qv} {st:qC} (hv:okV v=true) (h10:r[10]? = some (some v)):(ZU (qI (Qa (kit a)) (qA (qB 10) (qA (vC (.ty "tuple")) qD))) (qI zu (qA (vFz (qx [] 1 (qq (qB 10)) (q9 0) [] [] (qI (wt a) (qA (qB 0) qD)))) qD))) r st = .ok (.bl (jr v)) st:=by
 have ei:=qK (k:=Qa (kit a)) (fa:=qA (qB 10) (qA (vC (.ty "tuple")) qD)) (l:=[v,.ty "tuple"]) (r:=r) (st:=st) (qJ (zp h10) (qJ rfl qZ)) (YK (yn hv));cases v with
 |tup l =>have h2:(Nat.ble l.length 59&&l.all okP)=true:=hv;rw [AZ] at h2;have h3:=CG h2.1;exact Yg ei (qDV (by omega) (fun p hp=>yp (At.mp h2.2 p hp)) (zp h10))
 |_=>exact ZC ei
theorem qCQ:∀ {l:List PV},l.all isInt=true->nrs l=true
 |[],_=>rfl
 |p::l,h=>by rw [CL,AZ] at h;rw [nrs,qCQ h.2,Bf];cases p <;> first |rfl |cases h.1
theorem qH8 {v:PV} {M:List qc} {st:qC} (h:jr v=true):gIn true v (.lst (M.map cP)) st = .ok (.bl (!pin v (M.map cP))) st:=by
 cases v with
 |tup l =>unfold gIn;show (if nrs (M.map cP)=true∧nr (PV.tup l)=true∧deps (M.map cP)≤zg then Rs.ok (PV.bl (!pin (PV.tup l) (M.map cP))) st else Rs.no)=_;rw [AH ⟨qAq M,qCQ h,Ae (YY M) (by decide)⟩]
 |_=>cases h
theorem qCw {v:PV}:∀ {M:List qc},pin v (M.map cP)=true -> ∃ d∈M,peq (cP d) v=true
 |[],h=>by cases h
 |d::M,h=>by
  rw [Aj,pin,Bool.or_eq_true] at h;rcases h with h |h
  ·exact ⟨d,AI,h⟩
  ·obtain ⟨e,he,h2⟩:=qCw h;exact ⟨e,AD _ he,h2⟩
theorem qFa {v:PV} {d:qc} (hg:jr v=true) (h:peq (cP d) v=true):v=cP d:=by
 cases v with
 |tup l =>
  have hg:l.all isInt=true:=hg
  match l,hg,h with
  |[],_,h=>cases h
  |[_],_,h=>exact absurd h (by show ¬ ((peq _ _&&false)=true);simp)
  |[p,q],hg,h =>
   simp only [CL,List.all_nil,Bf,AZ] at hg;cases p with
   |int i =>
    cases q with
    |int k =>have h:((d.1==i)&&((d.2==k)&&true))=true:=h;simp only [Bf,AZ,A4] at h;show PV.tup [.int i,.int k]=PV.tup [.int d.1,.int d.2];rw [h.1,h.2]
    |_=>exact Bool.noConfusion hg.2
   |_=>exact Bool.noConfusion hg.1
  |p::q::r::m,_,h=>exact absurd h (by show ¬ ((peq _ _&&(peq _ _&&false))=true);simp)
 |_=>cases hg
theorem qH7 {v:PV} {M:List qc} (hg:jr v=true) (h:pin v (M.map cP)=true) (hn:∀ c,v=cP c->c ∉ M):False:=by obtain ⟨d,hd,h2⟩:=qCw h;exact hn d (qFa hg h2) hd
theorem qLe {α:Type} {P:α->Prop} {a b c d e:α} (h1:P a) (h2:P b) (h3:P c) (h4:P d) (h5:P e):∀ p∈[a,b,c,d,e],P p:=fun p hp=>by
 rcases AE.mp hp with e |hp
 ·rw [e];exact h1
 rcases AE.mp hp with e |hp
 ·rw [e];exact h2
 rcases AE.mp hp with e |hp
 ·rw [e];exact h3
 rcases AE.mp hp with e |hp
 ·rw [e];exact h4
 rw [Ah.mp hp];exact h5
theorem qF9 {a:Ad} (hd:Dist a) {F:List qc} {L:Int} {bs:List Bar} {v:PV} {S:qC} {n:Nat} {x0 x1 x2 x6 x8 x9 x11 x12:Option PV} (I:FilI F L bs) (h1:2≤L) (h2:L≤5) (hv:okV v=true) (hg:S[n]? = some (.l ((BL L bs).map bP))):∃ (g:qC) (y11:Option PV),JL a [x0,x1,x2,some (.int L),some (.tup (F.map cP)),some (.tup (bs.map bP)),x6,some (.ref n),x8,x9,some v,x11,x12] S = .nx [x0,x1,x2,some (.int L),some (.tup (F.map cP)),some (.tup (bs.map bP)),x6,some (.ref n),x8,x9,some v,y11,x12] (S++g):=by
 have hbl:=I.blen h1;have hB:(BL L bs).length≤bs.length:=BE _ _;have eg:=qI4 (a:=a) (r:=[x0,x1,x2,some (.int L),some (.tup (F.map cP)),some (.tup (bs.map bP)),x6,some (.ref n),x8,x9,some v,x11,x12]) (st:=S) hv rfl;by_cases hn:∀ c,v=cP c->c ∉ (BL L bs).map plc
 ·obtain ⟨g1,e1⟩:=qHw (a:=a) (st:=S) I h1 h2 hv hn;obtain ⟨g2,e2⟩:=qHw (a:=a) (st:=S++g1) I h1 h2 hv hn;have s1:=qCW (qA0 e1) (qCU a) (jy hd);have s2:=qCY (qCt e2) (qCU a) (jy hd);refine ⟨g1++g2,some (.bl (jr v)),?_⟩;rw [← Al];unfold JL;refine qR (qr eg) (QO (s1:=S) ?_ (QA (Qo (qS (Q0 (Jg (l:=[.str "! turn",.str "! turn"]) (Qj (l:=[.int 1,.int 2]) rfl) (yF (p := .int 1) (ps:=[.int 2]) (l:=[.str "! turn"]) (m:=[.str "! turn"]) trivial (yk rfl (qK (l:=[.int 1,.tup (F.map cP),.int L,.tup (bs.map bP),v]) rfl s1)) (yF (p := .int 2) (ps:=[]) (l:=[.str "! turn"]) (m:=[]) trivial (yk rfl (qK (l:=[.int 2,.tup (F.map cP),.int L,.tup (bs.map bP),v]) rfl s2)) (yz trivial))) (sz rfl))) rfl rfl)) rfl));cases hgd:jr v with
  |false=>exact Zr (w_not (b:=false) (QC rfl))
  |true =>
   have ein:=qH8 (v:=v) (M:=(BL L bs).map plc) (st:=S) hgd;have hp:pin v (((BL L bs).map plc).map cP)=false:=by
    cases hpp:pin v (((BL L bs).map plc).map cP) with
    |false=>rfl
    |true=>exact (qH7 hgd hpp hn).elim
   rw [hp] at ein;exact wG (w_not (b:=true) (QC rfl)) (Qo (qS rfl (Yq rfl hg (by omega)) ein))
 ·obtain ⟨c,hc⟩:∃ c,¬ (v=cP c->c ∉ (BL L bs).map plc):=Classical.not_forall.mp hn;obtain ⟨rfl,hcm⟩:v=cP c∧c∈(BL L bs).map plc:=⟨Classical.byContradiction fun z=>hc fun q=>(z q).elim,Classical.byContradiction fun z=>hc fun _=>z⟩;have ein:=qDR (neg:=true) (c:=c) (l:=(BL L bs).map plc) (q := .lst (((BL L bs).map plc).map cP)) (st:=S) rfl;rw [AQ hcm] at ein;refine ⟨[],some (.bl true),?_⟩;rw [BB];exact qR (qr eg) (QA (wG (w_not (b:=true) (QC rfl)) (Qo (qS rfl (Yq rfl hg (by omega)) ein))) rfl)
theorem qCX {a:Ad} (hd:Dist a) {F:List qc} {L:Int} {bs:List Bar} {n:Nat} {x0 x1 x2 x6 x8 x9 x12:Option PV} (I:FilI F L bs) (h1:2≤L) (h2:L≤5):∀ (vs:List PV) (S:qC) (x10 x11:Option PV),(∀ v∈vs,okV v=true)->S[n]? = some (.l ((BL L bs).map bP)) -> ∃ (g:qC) (y10 y11:Option PV),Qz (fun _=>True) (qu 10) (JL a) vs [x0,x1,x2,some (.int L),some (.tup (F.map cP)),some (.tup (bs.map bP)),x6,some (.ref n),x8,x9,x10,x11,x12] S = .nx [x0,x1,x2,some (.int L),some (.tup (F.map cP)),some (.tup (bs.map bP)),x6,some (.ref n),x8,x9,y10,y11,x12] (S++g)
 |[],S,x10,x11,_,hg=>⟨[],x10,x11,by rw [BB];exact Qi trivial⟩
 |v::vs,S,x10,x11,hk,hg=>by obtain ⟨g1,z11,e⟩:=qF9 (a:=a) hd (S:=S) (n:=n) (v:=v) (x0:=x0) (x1:=x1) (x2:=x2) (x6:=x6) (x8:=x8) (x9:=x9) (x11:=x11) (x12:=x12) I h1 h2 (hk v AI) hg;obtain ⟨g2,y10,y11,e2⟩:=qCX hd (n:=n) (x0:=x0) (x1:=x1) (x2:=x2) (x6:=x6) (x8:=x8) (x9:=x9) (x12:=x12) I h1 h2 vs (S++g1) (some v) z11 (fun d hd=>hk d (AD _ hd)) (Wp hg);exact ⟨g1++g2,y10,y11,by rw [← Al];exact wf trivial rfl e e2⟩
theorem qHp {f:FE} {r r0 r1 r2:qv} {caps:List Nat} {m:Nat} {z:PV} {S:qC} (g0:q9 m (.int 0) (Wd caps 1 r)=some r0) (g1:q9 m (.int 1) (Wd caps 1 r)=some r1) (g2:q9 m (.int 2) (Wd caps 1 r)=some r2) (e0:f r0 S = .ok z S) (e1:f r1 S = .ok z S) (e2:f r2 S = .ok z S):vFz (qx caps 1 (Q4 (qA (vC (.int 3)) qD)) (q9 m) [] [] f) r S = .ok (.lst [z,z,z]) S :=
 Q0 (Jg (l:=[z,z,z]) (itN (L:=3) (by decide) (by decide) rfl) (yF (p := .int 0) (ps:=[.int 1,.int 2]) (l:=[z]) (m:=[z,z]) trivial (yk g0 e0) (yF (p := .int 1) (ps:=[.int 2]) (l:=[z]) (m:=[z]) trivial (yk g1 e1) (yF (p := .int 2) (ps:=[]) (l:=[z]) (m:=[]) trivial (yk g2 e2) (yz trivial)))) (sz rfl))
theorem qKB {s:String} {r:qv} {S:qC}:vFz (JG (Qy (qA (vC (.str s)) qD)) (vC (.int 3))) r S = .ok (.lst [.str s,.str s,.str s]) S:=Q0 (qE2 (l:=[.str s]) (k:=3) rfl rfl (by decide) (sz rfl) (by decide))
theorem qGi {a:Ad} (hd:Dist a) {F:List qc} {L:Int} {v u:PV} {S:qC} {x0 x1 x2 x5 x6 x7 x9 x10 x11:Option PV} (h1:2≤L) (h2:L≤5) (hv:okV v=true) (hf:zl F L v=false):qBr a [x0,x1,x2,some (.int L),some (.tup (F.map cP)),x5,x6,x7,some u,x9,x10,x11,some v] S = .nx [x0,x1,x2,some (.int L),some (.tup (F.map cP)),x5,x6,x7,some u,x9,x10,x11,some v] S:=by obtain ⟨e0,e1,e2⟩:=qCq (a:=a) (u:=u) (qKu (a:=a) (F:=F) (L:=L) (v:=v) (st:=S) h1 h2 hv hf) (qGN a) (qDj hd);exact QA (Qo (qS (qHp rfl rfl rfl (qK (l:=[.int 0,.tup (F.map cP),.int L,v,u]) rfl e0) (qK (l:=[.int 1,.tup (F.map cP),.int L,v,u]) rfl e1) (qK (l:=[.int 2,.tup (F.map cP),.int L,v,u]) rfl e2)) qKB rfl)) rfl
theorem qCG {a:Ad} (hd:Dist a) {F:List qc} {L:Int} {u:PV} {S:qC} {x0 x1 x2 x5 x6 x7 x9 x10 x11:Option PV} (h1:2≤L) (h2:L≤5):∀ (vs:List PV) (x12:Option PV),(∀ v∈vs,okV v=true∧zl F L v=false) -> ∃ y12,Qz (fun _=>True) (qu 12) (qBr a) vs [x0,x1,x2,some (.int L),some (.tup (F.map cP)),x5,x6,x7,some u,x9,x10,x11,x12] S = .nx [x0,x1,x2,some (.int L),some (.tup (F.map cP)),x5,x6,x7,some u,x9,x10,x11,y12] S
 |[],x12,_=>⟨x12,Qi trivial⟩
 |v::vs,x12,hk=>by obtain ⟨y12,e⟩:=qCG (a:=a) hd (F:=F) (L:=L) (u:=u) (S:=S) (x0:=x0) (x1:=x1) (x2:=x2) (x5:=x5) (x6:=x6) (x7:=x7) (x9:=x9) (x10:=x10) (x11:=x11) h1 h2 vs (some v) (fun d hd=>hk d (AD _ hd));exact ⟨y12,wf trivial rfl (qGi hd h1 h2 (hk v AI).1 (hk v AI).2) e⟩
theorem qA6 {F:List qc} {L:Int} {l:List PV} (h:¬ (l.length:Int) * L=(F.length:Int)):zl F L (.tup l)=false:=by show (jw F L (.tup l)&&((l.length:Int) * L==(F.length:Int)))=false;rw [AB.mpr h,BK]
theorem qDe {bs:List Bar} {st:qC}:gNe (.tup (bs.map bP)) (.tup []) st = .ok (.bl (!bs.isEmpty)) st:=by
 have h1:zd (.tup (bs.map bP)) (.tup [])=true:=by show (nrs (bs.map bP)&&true&&decide (deps (bs.map bP) + 1≤zg))=true;rw [jY,AQ (Ae (B5 (yV bs)) (by decide))];rfl
 show (if zd (.tup (bs.map bP)) (.tup [])=true then Rs.ok (PV.bl (!peqs (bs.map bP) [])) st else Rs.no)=_;rw [AH h1];cases bs <;> rfl
theorem qHX {F:List qc} {L:Int} {bs:List Bar} {r:qv} {S:qC} (I:FilI F L bs) (h1:2≤L) (h5:r[5]? = some (some (.tup (bs.map bP)))):∃ vs:List PV,(∀ v∈vs,okV v=true∧zl F L v=false)∧(vFz (zP (vFz (Qy (qA (vFz (YA (qB 5))) (qA (vC .non) (qA (qP Z2 (qB 5) (qy (qA (qy (qA (vC (.int 9)) (qA (vC (.int 9)) (qA (vC (.int 0)) qD)))) qD))) qD))))) (vFz (JG (Qy (qA (Z1 (qB 5) (wM (vC (.int 1))) WF) qD)) (qI qB3 (qA (qP gNe (qB 5) (qy qD)) qD)))))) r S = .ok (.lst vs) S:=by
 have hbl:=I.blen h1;have hc:(F.length:Int)=L * bs.length:=by rw [I.cnt,Int.natCast_mul,CS (by omega)]
 have b3:okV (.tup ((bs++[((9:Int),(9:Int),(0:Int))]).map bP))=true∧zl F L (.tup ((bs++[((9:Int),(9:Int),(0:Int))]).map bP))=false:=by
  refine ⟨qBv (by rw [AC,AY];show bs.length + 1≤59;omega) Yh,qA6 ?_⟩
  rw [AC,AY,hc,Int.natCast_add,Int.add_mul,Int.mul_comm L];show ¬ (bs.length:Int) * L + 1 * L=_;omega
 have e3:qP Z2 (qB 5) (qy (qA (qy (qA (vC (.int 9)) (qA (vC (.int 9)) (qA (vC (.int 0)) qD)))) qD)) r S = .ok (.tup ((bs++[((9:Int),(9:Int),(0:Int))]).map bP)) S:=by rw [Bd];exact qS (zp h5) rfl (qFu (m:=[bP (9,9,0)]) (by rw [AC];show bs.length + 1≤_;omega))
 have eL:vFz (Qy (qA (vFz (YA (qB 5))) (qA (vC .non) (qA (qP Z2 (qB 5) (qy (qA (qy (qA (vC (.int 9)) (qA (vC (.int 9)) (qA (vC (.int 0)) qD)))) qD))) qD)))) r S = .ok (.lst [.lst (bs.map bP),.non,.tup ((bs++[((9:Int),(9:Int),(0:Int))]).map bP)]) S:=Q0 (ZA (qJ (qFR (zp h5)) (qJ rfl (qJ e3 qZ))) (sz rfl));have eC:Z1 (qB 5) (wM (vC (.int 1))) WF r S = .ok (.tup ((bs.drop 1).map bP)) S:=by refine (qHy (l:=bs.map bP) (p:=some ((1:Nat):Int)) (q:=none) (zp h5) (Je rfl) rfl).trans ?_;rw [qDy,List.map_drop]
 have eI:∀ b:Bool,qB3 [.bl b] S = .ok (.int (if b then 1 else 0)) S:=fun b=>by cases b <;> rfl
 have eN:qI qB3 (qA (qP gNe (qB 5) (qy qD)) qD) r S = .ok (.int (if (!bs.isEmpty)=true then 1 else 0)) S:=qK (qJ (qS (zp h5) rfl qDe) qZ) (eI _);cases bs with
 |nil =>
  refine ⟨[.lst [],.non,.tup (([]++[((9:Int),(9:Int),(0:Int))]:List Bar).map bP)]++[],fun v hv => ?_,Q0 (Zj eL (Q0 (qE2 (l:=[.tup []]) (k:=0) (ZA (qJ eC qZ) (sz rfl)) eN (by decide) (sz rfl) (by decide))) rfl rfl (sz rfl))⟩
  rw [BB] at hv;rcases AE.mp hv with e |hv
  ·subst e;exact ⟨rfl,rfl⟩
  rcases AE.mp hv with e |hv
  ·subst e;exact ⟨rfl,rfl⟩
  rw [Ah.mp hv];exact b3
 |cons b bt =>
  have b4:okV (.tup (bt.map bP))=true∧zl F L (.tup (bt.map bP))=false:=by
   rw [AM] at hbl;refine ⟨qBv (by rw [AC];omega) Yh,qA6 ?_⟩
   rw [AC,hc,AM,Int.natCast_add,Int.mul_add,Int.mul_comm L];show ¬ (bt.length:Int) * L=(bt.length:Int) * L + L * 1;omega
  refine ⟨[.lst ((b::bt).map bP),.non,.tup ((b::bt++[((9:Int),(9:Int),(0:Int))]).map bP)]++[.tup (bt.map bP)],fun v hv => ?_,Q0 (Zj eL (Q0 (qE2 (l:=[.tup (bt.map bP)]) (k:=1) (ZA (qJ eC qZ) (sz rfl)) eN (by decide) (sz rfl) (by decide))) rfl rfl (sz rfl))⟩
  rcases An.mp hv with hv |hv
  ·rcases AE.mp hv with e |hv
   ·subst e;exact ⟨rfl,rfl⟩
   rcases AE.mp hv with e |hv
   ·subst e;exact ⟨rfl,rfl⟩
   rw [Ah.mp hv];exact b3
  ·rw [Ah.mp hv];exact b4
theorem qFn {st j g:qC} {b:SO}:(st++b::j)++g=st++b::(j++g):=by rw [Al];rfl
theorem qKY {fs:List Bar} {i:Nat} {n:Nat} {st:qC} (hg:st[n]? = some (.l (fs.map bP))) (h:i < fs.length):gIx (.ref n) (.int (i:Int)) st = .ok (bP fs[i]) st:=by
 refine qFj (Yz hg) ?_;unfold L2.atI;rw [JX (by omega) (by rw [AC];omega),Option.bind_some,B9,A1,AU h]
 rfl
theorem JB {a:Ad} (hd:Dist a) {st j:qC} {x L:Int} {F:List qc} {bs:List Bar} {x0 x1 x6 x7 x8 x9 x10 x11 x12:Option PV} (I:FilI F L bs) (h1:2≤L) (h2:L≤5):∃ (y:Int) (g:qC) (bs':List Bar) (y7 y8 y9 y10 y11 y12:Option PV),FilI F L bs'∧qB2 a [x0,x1,some (.ref st.length),some (.int L),some (.tup (F.map cP)),some (.tup (bs.map bP)),x6,x7,x8,x9,x10,x11,x12] (st ++ .l [.int x]::j) = .nx [x0,x1,some (.ref st.length),some (.int L),some (.tup (F.map cP)),some (.tup (bs'.map bP)),x6,y7,y8,y9,y10,y11,y12] (st ++ .l [.int y]::(j++g)):=by
 have hbl:=I.blen h1;have hB:(BL L bs).length≤bs.length:=BE _ _;obtain ⟨g1,e1⟩:=qFV (a:=a) (st:=st ++ .l [.int x]::j) I h1 h2;rw [qFn] at e1;have e2:=Yv (a:=a) (L:=L) (bs:=bs) (st:=st ++ .l [.int x]::(j++g1)) (by omega) h2 (by omega)
 rw [qCy,qCj] at e2;obtain ⟨u,hu,e3⟩:=qJO (a:=a) (st:=st) (j:=j++g1++[.l ((BL L bs).map bP)]) (x:=x);have t1:=Ql (a:=a) (st:=st) (j:=j++g1++[.l ((BL L bs).map bP)]) (x:=x / 27) (m:=8) ⟨by decide,by decide⟩
 have t2:=Ql (a:=a) (st:=st) (j:=j++g1++[.l ((BL L bs).map bP)]) (x:=x / 27 / 8) (m:=8) ⟨by decide,by decide⟩
 generalize x / 27 / 8 % 8=d2 at t2;generalize x / 27 % 8=d1 at t1;generalize x / 27 / 8 / 8=z at t2;let n:=st.length + 1 + (j++g1).length;obtain ⟨g3,y10,y11,e4⟩:=qCX (a:=a) hd (n:=n) (x0:=x0) (x1:=x1) (x2:=some (.ref st.length)) (x6:=x6) (x8:=some u) (x9:=some (cP (d1,d2))) (x12:=x12) I h1 h2 [cP (d1,d2),u,cP (-1,0),.tup [.int d1,.int d2,.int 0],.lst [.int d1,.int d2],.tup [.int d1,.bl true],cP (8,8)] (st ++ .l [.int z]::(j++g1++[.l ((BL L bs).map bP)])) x10 x11 (fun v hv=>by
  rcases AE.mp hv with e |hv
  ·subst e;rfl
  rcases AE.mp hv with e |hv
  ·subst e;exact hu
  exact qLe (P:=fun v=>okV v=true) rfl rfl rfl rfl rfl v hv) Zd
 rw [qFn] at e4;have hg4:∀ w:Int,(st++SO.l [.int w]::(j++g1++[.l ((BL L bs).map bP)]++g3))[n]? = some (.l ((BL L bs).map bP)):=fun w=>by rw [← qFn];exact Wp Zd
 obtain ⟨vs,hvs,e5⟩:=qHX (r:=[x0,x1,some (.ref st.length),some (.int L),some (.tup (F.map cP)),some (.tup (bs.map bP)),x6,some (.ref n),some u,some (cP (d1,d2)),y10,y11,x12]) (S:=st ++ .l [.int z]::(j++g1++[.l ((BL L bs).map bP)]++g3)) I h1 rfl;obtain ⟨y12,e6⟩:=qCG (a:=a) hd (F:=F) (L:=L) (u:=u) (S:=st ++ .l [.int z]::(j++g1++[.l ((BL L bs).map bP)]++g3)) (x0:=x0) (x1:=x1) (x2:=some (.ref st.length)) (x5:=some (.tup (bs.map bP))) (x6:=x6) (x7:=some (.ref n)) (x9:=some (cP (d1,d2))) (x10:=y10) (x11:=y11) h1 h2 vs x12 hvs;obtain ⟨q0,q1,q2⟩:=qCq (a:=a) (u:=u) (qJX (a:=a) (F := .tup (F.map cP)) (v := .non) (u := .int 6) (st:=st ++ .l [.int z]::(j++g1++[.l ((BL L bs).map bP)]++g3)) rfl rfl) (qIS a) (qAV hd);obtain ⟨y,bs',I',e7⟩:∃ (y:Int) (bs':List Bar),FilI F L bs'∧(Qm (vTB (qP gNe (qB 7) (vFz (Qy qD)))) (qj 5 (qI (WY a) (qA (qB 3) (qA (qB 5) (qA (qP gIx (qB 7) (qI (qa a) (qA (qB 2) (qA (qI w4 (qA (qB 7) qD)) qD)))) qD))))) QU) [x0,x1,some (.ref st.length),some (.int L),some (.tup (F.map cP)),some (.tup (bs.map bP)),x6,some (.ref n),some u,some (cP (d1,d2)),y10,y11,y12] (st ++ .l [.int z]::(j++g1++[.l ((BL L bs).map bP)]++g3)) = .nx [x0,x1,some (.ref st.length),some (.int L),some (.tup (F.map cP)),some (.tup (bs'.map bP)),x6,some (.ref n),some u,some (cP (d1,d2)),y10,y11,y12] (st ++ .l [.int y]::(j++g1++[.l ((BL L bs).map bP)]++g3)):=by
  have ec:vTB (qP gNe (qB 7) (vFz (Qy qD))) [x0,x1,some (.ref st.length),some (.int L),some (.tup (F.map cP)),some (.tup (bs.map bP)),x6,some (.ref n),some u,some (cP (d1,d2)),y10,y11,y12] (st ++ .l [.int z]::(j++g1++[.l ((BL L bs).map bP)]++g3)) = .ok (!(BL L bs).isEmpty) (st ++ .l [.int z]::(j++g1++[.l ((BL L bs).map bP)]++g3)):=Qo (qS rfl rfl (qA9 (j6 (hg4 z))));cases he:(BL L bs).isEmpty with
  |true=>rw [he] at ec;exact ⟨z,bs,I,QA ec rfl⟩
  |false =>
   rw [he] at ec;have hpos:0 < (BL L bs).length:=by
    cases hq:BL L bs with
    |nil=>rw [hq] at he;cases he
    |cons c l=>exact CY _
   have t3:=Ql (a:=a) (st:=st) (j:=j++g1++[.l ((BL L bs).map bP)]++g3) (x:=z) (m:=((BL L bs).length:Int)) ⟨by omega,by omega⟩
   have i3:=WQ (x:=z) (m:=((BL L bs).length:Int)) (by omega)
   generalize z % ((BL L bs).length:Int)=at' at t3 i3;obtain ⟨i,rfl⟩:∃ i:Nat,at'=(i:Int):=⟨at'.toNat,by omega⟩
   have hi:i < (BL L bs).length:=by omega
   have hm:=BO.mp (Bj hi);have hw:Way (BL L bs)[i]:=(I.ok _ hm.1).2.2.2.2;exact ⟨z / ((BL L bs).length:Int),tn L bs (BL L bs)[i],j3 I h1 hw hm.2,QO ec (qr (qK (l:=[.int L,.tup (bs.map bP),bP (BL L bs)[i]]) (qJ rfl (qJ rfl (qJ (qS rfl (qK (l:=[.ref st.length,.int ((BL L bs).length:Int)]) (qJ rfl (qJ (qK (qJ rfl qZ) (zh (Yz (hg4 z)) (by rw [AC]))) qZ)) t3) (qKY (hg4 _) hi)) qZ))) (qAj h1 h2 hbl)))⟩
 refine ⟨y,g1++[.l ((BL L bs).map bP)]++g3,bs',some (.ref n),some u,some (cP (d1,d2)),y10,y11,y12,I',?_⟩;rw [← Al,← Al];unfold qB2;refine qR (QA (w_not (b:=true) (QC (qK (l:=[.tup (F.map cP),.int L,.tup (bs.map bP)]) rfl e1))) rfl) ?_;refine qR (qr (qK (l:=[.int L,.tup (bs.map bP)]) rfl e2)) ?_;refine qR (qr (qK (l:=[.ref st.length]) rfl e3)) ?_;refine qR (qr (Wc (l:=[.int d1,.int d2]) (qJ (qK (l:=[.ref st.length,.int 8]) rfl t1) (qJ (qK (l:=[.ref st.length,.int 8]) rfl t2) qZ)) (sz rfl))) ?_;refine qR (ZM (wK (l:=[cP (d1,d2),u,cP (-1,0),.tup [.int d1,.int d2,.int 0],.lst [.int d1,.int d2],.tup [.int d1,.bl true],cP (8,8)]) (Q0 (ZA (qJ rfl (qJ rfl (qJ rfl (qJ (qS rfl rfl (qFu (l:=[.int d1,.int d2]) (m:=[.int 0]) (show 2 + 1≤1000 by decide))) (qJ (qFR rfl) (qJ (Wc (qJ (qS rfl rfl rfl) (qJ rfl qZ)) (sz rfl)) (qJ rfl qZ))))))) (sz rfl)))) e4) ?_
 refine qR (ZM (wK e5) e6) ?_;refine qR (QA (Qo (qS (qHp rfl rfl rfl (qK (l:=[.int 0,.tup (F.map cP),.int 6,.non,u]) rfl q0) (qK (l:=[.int 1,.tup (F.map cP),.int 6,.non,u]) rfl q1) (qK (l:=[.int 2,.tup (F.map cP),.int 6,.non,u]) rfl q2)) qKB rfl)) rfl) ?_;exact e7
theorem qG5 {a:Ad} (hd:Dist a) {ns:List Int} {k:Int} {st:qC} {x2 x3 x4 x5 x6 x7 x8 x9 x10 x11 x12:Option PV} (hb:∀ n∈ns,Builtin.Int.intBits n≤2 ^ 20) (h0:0≤k) (h00:k < 100):∃ y2 y3 y4 y5 y6 y7 y8 y9 y10 y11 y12 st',yB a [some (.lst (ns.map PV.int)),some (.int k),x2,x3,x4,x5,x6,x7,x8,x9,x10,x11,x12] st = .nx [some (.lst (ns.map PV.int)),some (.int k),y2,y3,y4,y5,y6,y7,y8,y9,y10,y11,y12] st':=by
 obtain ⟨x,ex⟩:=qJ2 (a:=a) (ns:=ns) (k:=k) (st:=st) hb h0 h00;have t1:=Ql (a:=a) (st:=st) (j:=[]) (x:=x) (m:=4) ⟨by decide,by decide⟩
 have hL:=WQ (x:=x) (m:=4) (by decide)
 have hL1:2≤2 + x % 4:=by omega
 have hL2:2 + x % 4≤5:=by omega
 generalize hLe:2 + x % 4=L at hL1 hL2;have hT:1≤24 / L∧L * (24 / L)≤24:=by
  have:L=2∨L=3∨L=4∨L=5:=by omega
  rcases this with rfl |rfl |rfl |rfl <;> decide
 obtain ⟨bb,bc,y,hI,hC,eb⟩:=qDi (a:=a) (st:=st) (j:=[]) (x:=x / 4) (L:=L) hL1 hL2;have t2:=Ql (a:=a) (st:=st) (j:=[]) (x:=y) (m:=3) ⟨by decide,by decide⟩
 obtain ⟨F,bs,z,J,I,e1⟩:∃ (F:List qc) (bs:List Bar) (z:Int) (J:qC),FilI F L bs∧(Qm (vTB (qP gEq (qI (qa a) (qA (qB 2) (qA (vC (.int 3)) qD))) (vC (.int 0)))) (Wx (qI (ze a) (qA (qB 2) (qA (qB 3) (qA (qP qDl (vC (.int 24)) (qB 3)) qD)))) (zC 2 (QH (qu 4) (QH (qu 5) zO)))) QU) [some (.lst (ns.map PV.int)),some (.int k),some (.ref st.length),some (.int L),some (.tup ((yZ bc).map cP)),some (.tup ((Z5 bb).map bP)),x6,x7,x8,x9,x10,x11,x12] (st++[.l [.int y]]) = .nx [some (.lst (ns.map PV.int)),some (.int k),some (.ref st.length),some (.int L),some (.tup (F.map cP)),some (.tup (bs.map bP)),x6,x7,x8,x9,x10,x11,x12] (st ++ .l [.int z]::J):=by
  have ec:vTB (qP gEq (qI (qa a) (qA (qB 2) (qA (vC (.int 3)) qD))) (vC (.int 0))) [some (.lst (ns.map PV.int)),some (.int k),some (.ref st.length),some (.int L),some (.tup ((yZ bc).map cP)),some (.tup ((Z5 bb).map bP)),x6,x7,x8,x9,x10,x11,x12] (st++[.l [.int y]]) = .ok (y % 3==0) (st++[.l [.int (y / 3)]]):=Qo (qS (qK (l:=[.ref st.length,.int 3]) rfl t2) rfl Wu);cases h3:(y % 3==0) with
  |false=>rw [h3] at ec;exact ⟨_,_,_,[],qA5 hI (by omega),QA ec rfl⟩
  |true =>
   rw [h3] at ec;obtain ⟨lb,lc,z,g,hI2,hlc,hlb,el⟩:=JK (a:=a) (st:=st) (j:=[]) (x:=y / 3) (L:=L) (T:=24 / L) hL1 hL2 hT.1 (by omega)
   exact ⟨_,_,z,_,qA5 hI2 (by omega),QO ec (zB (qK (l:=[.ref st.length,.int L,.int (24 / L)]) (qJ rfl (qJ rfl (qJ (qS rfl rfl (qHj ⟨by omega,by omega⟩)) qZ))) el) rfl)⟩
 obtain ⟨z1,g1,b1,a7,a8,a9,a10,a11,a12,I1,f1⟩:=JB (a:=a) hd (st:=st) (j:=J) (x:=z) (x0:=some (.lst (ns.map PV.int))) (x1:=some (.int k)) (x6:=some (.int 0)) (x7:=x7) (x8:=x8) (x9:=x9) (x10:=x10) (x11:=x11) (x12:=x12) I hL1 hL2;obtain ⟨z2,g2,b2,c7,c8,c9,c10,c11,c12,I2,f2⟩:=JB (a:=a) hd (st:=st) (j:=J++g1) (x:=z1) (x0:=some (.lst (ns.map PV.int))) (x1:=some (.int k)) (x6:=some (.int 1)) (x7:=a7) (x8:=a8) (x9:=a9) (x10:=a10) (x11:=a11) (x12:=a12) I1 hL1 hL2;obtain ⟨z3,g3,b3,d7,d8,d9,d10,d11,d12,I3,f3⟩:=JB (a:=a) hd (st:=st) (j:=J++g1++g2) (x:=z2) (x0:=some (.lst (ns.map PV.int))) (x1:=some (.int k)) (x6:=some (.int 2)) (x7:=c7) (x8:=c8) (x9:=c9) (x10:=c10) (x11:=c11) (x12:=c12) I2 hL1 hL2;refine ⟨some (.ref st.length),some (.int L),some (.tup (F.map cP)),some (.tup (b3.map bP)),some (.int 2),d7,d8,d9,d10,d11,d12,st ++ .l [.int z3]::(J++g1++g2++g3),?_⟩;unfold yB;refine qR (qr (p := .ref st.length) (s1:=st++[.l [.int x]]) (qK (qJ rfl (qJ rfl qZ)) ex)) ?_;refine qR (qr (p := .int L) (qS rfl (qK (l:=[.ref st.length,.int 4]) rfl t1) (by rw [WH,hLe]))) ?_
 refine qR (zB (r1:=[some (.lst (ns.map PV.int)),some (.int k),some (.ref st.length),some (.int L),some (.tup ((yZ bc).map cP)),some (.tup ((Z5 bb).map bP)),x6,x7,x8,x9,x10,x11,x12]) (qK (l:=[.ref st.length,.int L]) rfl eb) rfl) ?_;refine qR e1 ?_;exact ZM (itN (L:=3) (by decide) (by decide) rfl) (wf (p := .int 0) (ps:=[.int 1,.int 2]) trivial rfl f1 (wf (p := .int 1) (ps:=[.int 2]) trivial rfl f2 (wf (p := .int 2) (ps:=[]) trivial rfl f3 (Qi trivial))))
theorem qAW {a:Ad} (hd:Dist a) {ns:List Int} (hb:∀ n∈ns,Builtin.Int.intBits n≤2 ^ 20):∀ (ks:List Int) (x1 x2 x3 x4 x5 x6 x7 x8 x9 x10 x11 x12:Option PV) (st:qC),(∀ k∈ks,0≤k∧k < 100) -> ∃ e st',Qz (fun _=>True) (qu 1) (yB a) (ks.map PV.int) [some (.lst (ns.map PV.int)),x1,x2,x3,x4,x5,x6,x7,x8,x9,x10,x11,x12] st = .nx e st'
 |[],x1,x2,x3,x4,x5,x6,x7,x8,x9,x10,x11,x12,st,_=>⟨_,st,Qi trivial⟩
 |k::ks,x1,x2,x3,x4,x5,x6,x7,x8,x9,x10,x11,x12,st,h=>by obtain ⟨y2,y3,y4,y5,y6,y7,y8,y9,y10,y11,y12,st1,e⟩:=qG5 (a:=a) hd (ns:=ns) (k:=k) (st:=st) (x2:=x2) (x3:=x3) (x4:=x4) (x5:=x5) (x6:=x6) (x7:=x7) (x8:=x8) (x9:=x9) (x10:=x10) (x11:=x11) (x12:=x12) hb (h k AI).1 (h k AI).2;obtain ⟨e',st',e2⟩:=qAW hd (ns:=ns) hb ks (some (.int k)) y2 y3 y4 y5 y6 y7 y8 y9 y10 y11 y12 st1 fun q hq=>h q (AD _ hq);exact ⟨e',st',wf trivial rfl e e2⟩
theorem law_true:∀ (a:Ad) (ns:List Int),Dist a->ns.length≤63->(∀ k∈ns,Builtin.Int.intBits k≤2 ^ 20) -> ∃ st,qAf a [.lst (ns.map PV.int)] [] = .ok (.bl true) st:=by
 intro a ns hd hl hb;obtain ⟨n,hn0,hn4,hn⟩:∃ n:Int,0≤n∧n≤4∧qI qEm (qA (vC (.int 1)) (qA (qI JY (qA (qI w4 (qA (qB 0) qD)) (qA (vC (.int 4)) qD))) qD)) (Qh 13 [.lst (ns.map PV.int)]) [] = .ok (.int n) []:=by
  refine ⟨if (if (4:Int) < ns.length then 4 else (ns.length:Int)) > 1 then (if (4:Int) < ns.length then 4 else (ns.length:Int)) else 1,?_,?_,?_⟩
  ·split <;> (try split) <;> omega
  ·split <;> (try split) <;> omega
  ·exact qK (qJ rfl (qJ (qK (l:=[.int ns.length,.int 4]) (qJ (qK (qJ rfl qZ) (zh (l:=ns.map PV.int) rfl (by rw [AC]))) (qJ rfl qZ)) rfl) qZ)) rfl
 obtain ⟨e,st',h⟩:=qAW hd hb (WG n) none none none none none none none none none none none none [] fun k hk=>by have:=upto_mem.mp hk;omega
 exact ⟨st',qm rfl (qR (ZM (itN hn0 (by omega) (qJ hn qZ)) h) (QB rfl))⟩
end K61
end
section

end
noncomputable section
namespace K61
open PySem PySem.Spec PyProof.Rows L2 EX EV
theorem qHO {a:Ad} {x:Addr} {c:Value} {b:Bool} (h:kit a (.ref x) c=some b):x∈QN a:=by
 cases c with
 |ref d =>
  have h:(if x∈QN a∧d∈a.kinds then some (x==d) else none)=some b:=h;split at h
  ·rename_i hx;exact hx.1
  ·cases h
 |type T =>
  have h:(if x∈QN a∧T = "ValueError" then some true else none)=some b:=h;split at h
  ·rename_i hx;exact hx.1
  ·cases h
 |_=>cases h
theorem qDp {K:W.Frag}:∀ p∈kitTab,W.kitOne K (.type p.1.1) (.type p.1.2)=some p.2:=by intro p hp;unfold kitTab at hp;simp only [AE,Ag,B8] at hp;rcases hp with rfl |rfl |rfl |rfl |rfl |rfl |rfl |rfl |rfl |rfl |rfl |rfl |rfl |rfl |rfl |rfl |rfl |rfl |rfl |rfl |rfl |rfl |rfl |rfl |rfl |rfl |rfl |rfl <;> rfl
theorem qAl {s T:String} {b:Bool}:∀ {l:List ((String×String)×Bool)},l.lookup (s,T)=some b->((s,T),b)∈l
 |[],h=>by cases h
 |(q,k)::l,h=>by
  rw [Az] at h;split at h
  ·rename_i e;cases h;rw [eq_of_beq e];exact AI
  ·exact AD _ (qAl h)
theorem qGk {K:W.Frag} {s T:String} {b:Bool} (h:qKK s T=some b):W.kitOne K (.type s) (.type T)=some b:=qDp _ (qAl h)
theorem QM {a:Ad} (h:Dist a):a.Z1≠a.Z2∧a.Z1≠a.Z3∧a.Z1≠a.Z4∧a.Z1≠a.Z5∧a.Z1≠a.Z6∧a.Z1≠a.Z7∧a.Z1≠a.Z8∧a.Z1≠a.Z9∧a.Z1≠a.Z10∧a.Z1≠a.Z11:=by have nd:=h.nd;unfold Ad.kinds at nd;simp only [Ax,AE,Ag,not_or,B8] at nd;refine ⟨?_,?_,?_,?_,?_,?_,?_,?_,?_,?_⟩ <;> (intro z;simp only [z,not_true_eq_false,false_and,and_false] at nd)
theorem Qd {a:Ad} (h:Dist a):a.Z3≠a.Z1∧a.Z3≠a.Z2∧a.Z3≠a.Z4∧a.Z3≠a.Z5∧a.Z3≠a.Z6∧a.Z3≠a.Z7∧a.Z3≠a.Z8∧a.Z3≠a.Z9∧a.Z3≠a.Z10∧a.Z3≠a.Z11:=by have nd:=h.nd;unfold Ad.kinds at nd;simp only [Ax,AE,Ag,not_or,B8] at nd;refine ⟨?_,?_,?_,?_,?_,?_,?_,?_,?_,?_⟩ <;> (intro z;simp only [z,not_true_eq_false,false_and,and_false] at nd)
theorem Qc {a:Ad} (h:Dist a):a.Z7≠a.Z1∧a.Z7≠a.Z2∧a.Z7≠a.Z3∧a.Z7≠a.Z4∧a.Z7≠a.Z5∧a.Z7≠a.Z6∧a.Z7≠a.Z8∧a.Z7≠a.Z9∧a.Z7≠a.Z10∧a.Z7≠a.Z11:=by have nd:=h.nd;unfold Ad.kinds at nd;simp only [Ax,AE,Ag,not_or,B8] at nd;refine ⟨?_,?_,?_,?_,?_,?_,?_,?_,?_,?_⟩ <;> (intro z;simp only [z,not_true_eq_false,false_and,and_false] at nd)
def Yt (e:DictEntry):Bool:=match e.key with
 | .str _ _=>true
 |_=>false
theorem ZV {K:W.Frag} {N:Addr} {c:Value} {dd:Option Addr} {es:Array DictEntry} {ep:Nat} {sl:Array (Option Value)} (h:K.lookup N=some ⟨c,dd,.dict es ep,sl⟩) (hl:es.toList.all Yt=true):W.nsOkIn K N=true:=by unfold W.nsOkIn;rw [show List.lookup N K=_ from h];show (es.all fun e=>match e.key with | .str _ _=>true |_=>false)=true;rw [← Array.all_toList];exact hl
theorem qGs {K:W.Frag} {B:Addr} {cdB:ClassData} {cB:Value} {dB:Option Addr} {slB:Array (Option Value)} (hB:K.lookup B=some ⟨cB,dB,.cls cdB,slB⟩) (hnB:W.nsOkIn K cdB.ns=true) (hiB:W.nsIn K cdB.ns "__init__" = some none):W.tailIn K bmV (.ref B::bmV)=true:=by rw [W.tailIn.eq_2,show List.lookup B K=_ from hB];dsimp only;rw [hnB,hiB];rfl
theorem qBw {K:W.Frag} {C B:Addr} {dd:Option Addr} {cd cdB:ClassData} {sl:Array (Option Value)} {k0 k1 k2 k3 k5:Option Value} {cB:Value} {dB:Option Addr} {slB:Array (Option Value)} (hC:K.lookup C=some ⟨.type "type",dd,.cls cd,sl⟩) (hm:cd.mro = .ref C :: .ref B::bmV)
  (hs:sl.toList=[k0,k1,k2,k3,some (.builtin "ValueError.__new__"),k5]) (hD:cd.hasDel=false) (hn:W.nsOkIn K cd.ns=true) (hi:W.nsIn K cd.ns "__init__" = some none) (hB:K.lookup B=some ⟨cB,dB,.cls cdB,slB⟩) (hnB:W.nsOkIn K cdB.ns=true) (hiB:W.nsIn K cdB.ns "__init__" = some none) :
  W.excIn K C bmV "ValueError.__new__" = true:=by have t:=qGs hB hnB hiB;obtain ⟨nm,bs,mro,ns,qn,hd,sn,sb,ab,co,del⟩:=cd;obtain ⟨sl⟩:=sl;have hm:mro=_:=hm;have hs:sl=_:=hs;have hD:del=false:=hD;subst hm;subst hs;subst hD;unfold W.excIn;rw [show List.lookup C K=_ from hC];show (C==C&&("ValueError.__new__" == "ValueError.__new__") && !false&&W.tailIn K bmV (.ref B::bmV)&&W.nsOkIn K ns&&(W.nsIn K ns "__init__" == some none))=true;rw [t,show W.nsOkIn K ns=true from hn,show W.nsIn K ns "__init__" = some none from hi];simp
theorem qGJ {P:Program} {w:World} {K:W.Frag} {mg:Str->Option Value} {base:Heap} {CX:CXT} {k:Nat} {f:Addr} {fd:FuncData} {ps:List Str} {sp sp':Sp} (F:FnOk P w K mg base CX k f fd ps sp) (h:∀ vs H Q E,sp' vs H Q E->sp vs H Q E):FnOk P w K mg base CX k f fd ps sp' :=
 ⟨fun vs H Q E q=>F.len vs H Q E (h vs H Q E q),fun A outer s H args us vs Q E hr e b v q=>F.run A outer s H args us vs Q E hr e b v (h vs H Q E q)⟩
def spL (K:W.Frag):Sp:=fun vs H Q E => ∀ a,Dist a->spG K 1 (qAf a) vs H Q E
theorem all_mk {l:W.OpenLaw} {w:World} {K:W.Frag} {h:Heap} {mg:Str->Option Value} {fa:Addr} (X:K.In h) (G:h.Ns mainGlobals mg) (hfa:mg "law" = some (.ref fa))
  {c_Z0 c_Z1 c_Z2 c_Z3 c_Z4 c_Z5 c_Z6 c_Z7 c_Z8 c_Z9 c_Z10 c_Z11 ff0 ff1 ff2 ff3 ff4 ff5 ff6 ff7 ff8 ff9 ff10 ff11 ff12 ff13 ff14 ff15 ff16 ff17 ff18 ff19 ff20 ff21 ff22 ff23 ff24 ff25 ff26 ff27 ff28 ff29 ff30 ff31 ff32 ff33 ff34 ff35 ff36:Addr}
  {t_LEAST_LENGTH:Tok}
  {t_MOST_LENGTH:Tok}
  {t_FURTHEST:Tok}
  {t_ACROSS:Tok}
  {t_DOWN:Tok}
  {ddB:Option Addr} {cdB:ClassData} {slB:Array (Option Value)}
  {NB:Addr} {cNB:Value} {dNB:Option Addr} {esB:Array DictEntry} {epB:Nat} {sNB:Array (Option Value)}
  {xdd_Z1:Option Addr} {xcd_Z1:ClassData} {xsl_Z1:Array (Option Value)} {xk0_Z1 xk1_Z1 xk2_Z1 xk3_Z1 xk5_Z1:Option Value} {xN_Z1:Addr} {xc_Z1:Value} {xd2_Z1:Option Addr} {xes_Z1:Array DictEntry} {xep_Z1:Nat} {xs2_Z1:Array (Option Value)}
  {xdd_Z3:Option Addr} {xcd_Z3:ClassData} {xsl_Z3:Array (Option Value)} {xk0_Z3 xk1_Z3 xk2_Z3 xk3_Z3 xk5_Z3:Option Value} {xN_Z3:Addr} {xc_Z3:Value} {xd2_Z3:Option Addr} {xes_Z3:Array DictEntry} {xep_Z3:Nat} {xs2_Z3:Array (Option Value)}
  {xdd_Z7:Option Addr} {xcd_Z7:ClassData} {xsl_Z7:Array (Option Value)} {xk0_Z7 xk1_Z7 xk2_Z7 xk3_Z7 xk5_Z7:Option Value} {xN_Z7:Addr} {xc_Z7:Value} {xd2_Z7:Option Addr} {xes_Z7:Array DictEntry} {xep_Z7:Nat} {xs2_Z7:Array (Option Value)}
  (aa0:W.nsIn K mainGlobals "is_whole" = some (some (.ref ff0)))
  (ll0:K.lookup ff0=some ⟨oc0,od0,.func (W.fnOf "is_whole" "is_whole" (qW WM) (qU WM) (qH WM) .none kV0 dc0 pm0 an0 cd0 ct0),sl0⟩)
  (dd0:W.codeIn K cd0 "is_whole" = true)
  (kk0:W.keepIn K (.ref ff0)=true)
  (aa1:W.nsIn K mainGlobals "is_whole_within" = some (some (.ref ff1)))
  (ll1:K.lookup ff1=some ⟨oc1,od1,.func (W.fnOf "is_whole_within" "is_whole_within" (qW QX) (qU QX) (qH QX) .none kV1 dc1 pm1 an1 cd1 ct1),sl1⟩)
  (dd1:W.codeIn K cd1 "is_whole_within" = true)
  (kk1:W.keepIn K (.ref ff1)=true)
  (aa2:W.nsIn K mainGlobals "are_wholes" = some (some (.ref ff2)))
  (ll2:K.lookup ff2=some ⟨oc2,od2,.func (W.fnOf "are_wholes" "are_wholes" (qW wX) (qU wX) (qH wX) .none kV2 dc2 pm2 an2 cd2 ct2),sl2⟩)
  (dd2:W.codeIn K cd2 "are_wholes" = true)
  (kk2:W.keepIn K (.ref ff2)=true)
  (aa3:W.nsIn K mainGlobals "is_rising" = some (some (.ref ff3)))
  (ll3:K.lookup ff3=some ⟨oc3,od3,.func (W.fnOf "is_rising" "is_rising" (qW wq) (qU wq) (qH wq) .none kV3 dc3 pm3 an3 cd3 ct3),sl3⟩)
  (dd3:W.codeIn K cd3 "is_rising" = true)
  (kk3:W.keepIn K (.ref ff3)=true)
  (aa4:W.nsIn K mainGlobals "is_length" = some (some (.ref ff4)))
  (ll4:K.lookup ff4=some ⟨oc4,od4,.func (W.fnOf "is_length" "is_length" (qW wo) (qU wo) (qH wo) .none kV4 dc4 pm4 an4 cd4 ct4),sl4⟩)
  (dd4:W.codeIn K cd4 "is_length" = true)
  (kk4:W.keepIn K (.ref ff4)=true)
  (aa5:W.nsIn K mainGlobals "need_length" = some (some (.ref ff5)))
  (ll5:K.lookup ff5=some ⟨oc5,od5,.func (W.fnOf "need_length" "need_length" (qW Qv) (qU Qv) (qH Qv) .none kV5 dc5 pm5 an5 cd5 ct5),sl5⟩)
  (dd5:W.codeIn K cd5 "need_length" = true)
  (kk5:W.keepIn K (.ref ff5)=true)
  (aa6:W.nsIn K mainGlobals "is_bar" = some (some (.ref ff6)))
  (ll6:K.lookup ff6=some ⟨oc6,od6,.func (W.fnOf "is_bar" "is_bar" (qW Wm) (qU Wm) (qH Wm) .none kV6 dc6 pm6 an6 cd6 ct6),sl6⟩)
  (dd6:W.codeIn K cd6 "is_bar" = true)
  (kk6:W.keepIn K (.ref ff6)=true)
  (aa7:W.nsIn K mainGlobals "places_of" = some (some (.ref ff7)))
  (ll7:K.lookup ff7=some ⟨oc7,od7,.func (W.fnOf "places_of" "places_of" (qW wN) (qU wN) (qH wN) .none kV7 dc7 pm7 an7 cd7 ct7),sl7⟩)
  (dd7:W.codeIn K cd7 "places_of" = true)
  (kk7:W.keepIn K (.ref ff7)=true)
  (aa8:W.nsIn K mainGlobals "is_within" = some (some (.ref ff8)))
  (ll8:K.lookup ff8=some ⟨oc8,od8,.func (W.fnOf "is_within" "is_within" (qW wu) (qU wu) (qH wu) .none kV8 dc8 pm8 an8 cd8 ct8),sl8⟩)
  (dd8:W.codeIn K cd8 "is_within" = true)
  (kk8:W.keepIn K (.ref ff8)=true)
  (aa9:W.nsIn K mainGlobals "covered_by" = some (some (.ref ff9)))
  (ll9:K.lookup ff9=some ⟨oc9,od9,.func (W.fnOf "covered_by" "covered_by" (qW wY) (qU wY) (qH wY) .none kV9 dc9 pm9 an9 cd9 ct9),sl9⟩)
  (dd9:W.codeIn K cd9 "covered_by" = true)
  (kk9:W.keepIn K (.ref ff9)=true)
  (aa10:W.nsIn K mainGlobals "is_packing" = some (some (.ref ff10)))
  (ll10:K.lookup ff10=some ⟨oc10,od10,.func (W.fnOf "is_packing" "is_packing" (qW wV) (qU wV) (qH wV) .none kV10 dc10 pm10 an10 cd10 ct10),sl10⟩)
  (dd10:W.codeIn K cd10 "is_packing" = true)
  (kk10:W.keepIn K (.ref ff10)=true)
  (aa11:W.nsIn K mainGlobals "is_filling" = some (some (.ref ff11)))
  (ll11:K.lookup ff11=some ⟨oc11,od11,.func (W.fnOf "is_filling" "is_filling" (qW wU) (qU wU) (qH wU) .none kV11 dc11 pm11 an11 cd11 ct11),sl11⟩)
  (dd11:W.codeIn K cd11 "is_filling" = true)
  (kk11:W.keepIn K (.ref ff11)=true)
  (aa12:W.nsIn K mainGlobals "need_filling" = some (some (.ref ff12)))
  (ll12:K.lookup ff12=some ⟨oc12,od12,.func (W.fnOf "need_filling" "need_filling" (qW Q1) (qU Q1) (qH Q1) .none kV12 dc12 pm12 an12 cd12 ct12),sl12⟩)
  (dd12:W.codeIn K cd12 "need_filling" = true)
  (kk12:W.keepIn K (.ref ff12)=true)
  (aa13:W.nsIn K mainGlobals "block_bars" = some (some (.ref ff13)))
  (ll13:K.lookup ff13=some ⟨oc13,od13,.func (W.fnOf "block_bars" "block_bars" (qW wA) (qU wA) (qH wA) .none kV13 dc13 pm13 an13 cd13 ct13),sl13⟩)
  (dd13:W.codeIn K cd13 "block_bars" = true)
  (kk13:W.keepIn K (.ref ff13)=true)
  (aa14:W.nsIn K mainGlobals "blocks_in" = some (some (.ref ff14)))
  (ll14:K.lookup ff14=some ⟨oc14,od14,.func (W.fnOf "blocks_in" "blocks_in" (qW wx) (qU wx) (qH wx) .none kV14 dc14 pm14 an14 cd14 ct14),sl14⟩)
  (dd14:W.codeIn K cd14 "blocks_in" = true)
  (kk14:W.keepIn K (.ref ff14)=true)
  (aa15:W.nsIn K mainGlobals "lies_across" = some (some (.ref ff15)))
  (ll15:K.lookup ff15=some ⟨oc15,od15,.func (W.fnOf "lies_across" "lies_across" (qW Qw) (qU Qw) (qH Qw) .none kV15 dc15 pm15 an15 cd15 ct15),sl15⟩)
  (dd15:W.codeIn K cd15 "lies_across" = true)
  (kk15:W.keepIn K (.ref ff15)=true)
  (aa16:W.nsIn K mainGlobals "turn_at" = some (some (.ref ff16)))
  (ll16:K.lookup ff16=some ⟨oc16,od16,.func (W.fnOf "turn_at" "turn_at" (qW WK) (qU WK) (qH WK) .none kV16 dc16 pm16 an16 cd16 ct16),sl16⟩)
  (dd16:W.codeIn K cd16 "turn_at" = true)
  (kk16:W.keepIn K (.ref ff16)=true)
  (aa17:W.nsIn K mainGlobals "need_block" = some (some (.ref ff17)))
  (ll17:K.lookup ff17=some ⟨oc17,od17,.func (W.fnOf "need_block" "need_block" (qW wR) (qU wR) (qH wR) .none kV17 dc17 pm17 an17 cd17 ct17),sl17⟩)
  (dd17:W.codeIn K cd17 "need_block" = true)
  (kk17:W.keepIn K (.ref ff17)=true)
  (aa18:W.nsIn K mainGlobals "blocks_of" = some (some (.ref ff18)))
  (ll18:K.lookup ff18=some ⟨oc18,od18,.func (W.fnOf "blocks_of" "blocks_of" (qW wy) (qU wy) (qH wy) .none kV18 dc18 pm18 an18 cd18 ct18),sl18⟩)
  (dd18:W.codeIn K cd18 "blocks_of" = true)
  (kk18:W.keepIn K (.ref ff18)=true)
  (aa19:W.nsIn K mainGlobals "turned" = some (some (.ref ff19)))
  (ll19:K.lookup ff19=some ⟨oc19,od19,.func (W.fnOf "turned" "turned" (qW zH) (qU zH) (qH zH) .none kV19 dc19 pm19 an19 cd19 ct19),sl19⟩)
  (dd19:W.codeIn K cd19 "turned" = true)
  (kk19:W.keepIn K (.ref ff19)=true)
  (aa20:W.nsIn K mainGlobals "rises" = some (some (.ref ff20)))
  (ll20:K.lookup ff20=some ⟨oc20,od20,.func (W.fnOf "rises" "rises" (qW Za) (qU Za) (qH Za) .none kV20 dc20 pm20 an20 cd20 ct20),sl20⟩)
  (dd20:W.codeIn K cd20 "rises" = true)
  (kk20:W.keepIn K (.ref ff20)=true)
  (aa21:W.nsIn K mainGlobals "_law_cell" = some (some (.ref ff21)))
  (ll21:K.lookup ff21=some ⟨oc21,od21,.func (W.fnOf "_law_cell" "_law_cell" (qW WR) (qU WR) (qH WR) .none kV21 dc21 pm21 an21 cd21 ct21),sl21⟩)
  (dd21:W.codeIn K cd21 "_law_cell" = true)
  (kk21:W.keepIn K (.ref ff21)=true)
  (aa22:W.nsIn K mainGlobals "_law_mix" = some (some (.ref ff22)))
  (ll22:K.lookup ff22=some ⟨oc22,od22,.func (W.fnOf "_law_mix" "_law_mix" (qW Wk) (qU Wk) (qH Wk) .none kV22 dc22 pm22 an22 cd22 ct22),sl22⟩)
  (dd22:W.codeIn K cd22 "_law_mix" = true)
  (kk22:W.keepIn K (.ref ff22)=true)
  (aa23:W.nsIn K mainGlobals "_law_box" = some (some (.ref ff23)))
  (ll23:K.lookup ff23=some ⟨oc23,od23,.func (W.fnOf "_law_box" "_law_box" (qW Wj) (qU Wj) (qH Wj) .none kV23 dc23 pm23 an23 cd23 ct23),sl23⟩)
  (dd23:W.codeIn K cd23 "_law_box" = true)
  (kk23:W.keepIn K (.ref ff23)=true)
  (aa24:W.nsIn K mainGlobals "_law_take" = some (some (.ref ff24)))
  (ll24:K.lookup ff24=some ⟨oc24,od24,.func (W.fnOf "_law_take" "_law_take" (qW WO) (qU WO) (qH WO) .none kV24 dc24 pm24 an24 cd24 ct24),sl24⟩)
  (dd24:W.codeIn K cd24 "_law_take" = true)
  (kk24:W.keepIn K (.ref ff24)=true)
  (aa25:W.nsIn K mainGlobals "_law_cover" = some (some (.ref ff25)))
  (ll25:K.lookup ff25=some ⟨oc25,od25,.func (W.fnOf "_law_cover" "_law_cover" (qW ww) (qU ww) (qH ww) .none kV25 dc25 pm25 an25 cd25 ct25),sl25⟩)
  (dd25:W.codeIn K cd25 "_law_cover" = true)
  (kk25:W.keepIn K (.ref ff25)=true)
  (aa26:W.nsIn K mainGlobals "_law_laid" = some (some (.ref ff26)))
  (ll26:K.lookup ff26=some ⟨oc26,od26,.func (W.fnOf "_law_laid" "_law_laid" (qW WJ) (qU WJ) (qH WJ) .none kV26 dc26 pm26 an26 cd26 ct26),sl26⟩)
  (dd26:W.codeIn K cd26 "_law_laid" = true)
  (kk26:W.keepIn K (.ref ff26)=true)
  (aa27:W.nsIn K mainGlobals "_law_whole" = some (some (.ref ff27)))
  (ll27:K.lookup ff27=some ⟨oc27,od27,.func (W.fnOf "_law_whole" "_law_whole" (qW wm) (qU wm) (qH wm) .none kV27 dc27 pm27 an27 cd27 ct27),sl27⟩)
  (dd27:W.codeIn K cd27 "_law_whole" = true)
  (kk27:W.keepIn K (.ref ff27)=true)
  (aa28:W.nsIn K mainGlobals "_law_odd" = some (some (.ref ff28)))
  (ll28:K.lookup ff28=some ⟨oc28,od28,.func (W.fnOf "_law_odd" "_law_odd" (qW Wi) (qU Wi) (qH Wi) .none kV28 dc28 pm28 an28 cd28 ct28),sl28⟩)
  (dd28:W.codeIn K cd28 "_law_odd" = true)
  (kk28:W.keepIn K (.ref ff28)=true)
  (aa29:W.nsIn K mainGlobals "_law_square" = some (some (.ref ff29)))
  (ll29:K.lookup ff29=some ⟨oc29,od29,.func (W.fnOf "_law_square" "_law_square" (qW wQ) (qU wQ) (qH wQ) .none kV29 dc29 pm29 an29 cd29 ct29),sl29⟩)
  (dd29:W.codeIn K cd29 "_law_square" = true)
  (kk29:W.keepIn K (.ref ff29)=true)
  (aa30:W.nsIn K mainGlobals "_law_blocks" = some (some (.ref ff30)))
  (ll30:K.lookup ff30=some ⟨oc30,od30,.func (W.fnOf "_law_blocks" "_law_blocks" (qW wZ) (qU wZ) (qH wZ) .none kV30 dc30 pm30 an30 cd30 ct30),sl30⟩)
  (dd30:W.codeIn K cd30 "_law_blocks" = true)
  (kk30:W.keepIn K (.ref ff30)=true)
  (aa31:W.nsIn K mainGlobals "_law_swung" = some (some (.ref ff31)))
  (ll31:K.lookup ff31=some ⟨oc31,od31,.func (W.fnOf "_law_swung" "_law_swung" (qW wp) (qU wp) (qH wp) .none kV31 dc31 pm31 an31 cd31 ct31),sl31⟩)
  (dd31:W.codeIn K cd31 "_law_swung" = true)
  (kk31:W.keepIn K (.ref ff31)=true)
  (aa32:W.nsIn K mainGlobals "_law_blocky" = some (some (.ref ff32)))
  (ll32:K.lookup ff32=some ⟨oc32,od32,.func (W.fnOf "_law_blocky" "_law_blocky" (qW wP) (qU wP) (qH wP) .none kV32 dc32 pm32 an32 cd32 ct32),sl32⟩)
  (dd32:W.codeIn K cd32 "_law_blocky" = true)
  (kk32:W.keepIn K (.ref ff32)=true)
  (aa33:W.nsIn K mainGlobals "_law_kind" = some (some (.ref ff33)))
  (ll33:K.lookup ff33=some ⟨oc33,od33,.func (W.fnOf "_law_kind" "_law_kind" (qW WL) (qU WL) (qH WL) .none kV33 dc33 pm33 an33 cd33 ct33),sl33⟩)
  (dd33:W.codeIn K cd33 "_law_kind" = true)
  (kk33:W.keepIn K (.ref ff33)=true)
  (aa34:W.nsIn K mainGlobals "_law_said" = some (some (.ref ff34)))
  (ll34:K.lookup ff34=some ⟨oc34,od34,.func (W.fnOf "_law_said" "_law_said" (qW wg) (qU wg) (qH wg) .none kV34 dc34 pm34 an34 cd34 ct34),sl34⟩)
  (dd34:W.codeIn K cd34 "_law_said" = true)
  (kk34:W.keepIn K (.ref ff34)=true)
  (aa35:W.nsIn K mainGlobals "_law_right" = some (some (.ref ff35)))
  (ll35:K.lookup ff35=some ⟨oc35,od35,.func (W.fnOf "_law_right" "_law_right" (qW wk) (qU wk) (qH wk) .none kV35 dc35 pm35 an35 cd35 ct35),sl35⟩)
  (dd35:W.codeIn K cd35 "_law_right" = true)
  (kk35:W.keepIn K (.ref ff35)=true)
  (aa36:W.nsIn K mainGlobals "law" = some (some (.ref ff36)))
  (ll36:K.lookup ff36=some ⟨oc36,od36,.func (W.fnOf "law" "law" (qW zn) (qU zn) (qH zn) .none kV36 dc36 pm36 an36 cd36 ct36),sl36⟩)
  (dd36:W.codeIn K cd36 "law" = true)
  (kk36:W.keepIn K (.ref ff36)=true)
  (n_ValueError:W.nsIn K mainGlobals "ValueError" = some none)
  (n_all:W.nsIn K mainGlobals "all" = some none)
  (n_bool:W.nsIn K mainGlobals "bool" = some none)
  (n_divmod:W.nsIn K mainGlobals "divmod" = some none)
  (n_int:W.nsIn K mainGlobals "int" = some none)
  (n_isinstance:W.nsIn K mainGlobals "isinstance" = some none)
  (n_len:W.nsIn K mainGlobals "len" = some none)
  (n_list:W.nsIn K mainGlobals "list" = some none)
  (n_max:W.nsIn K mainGlobals "max" = some none)
  (n_min:W.nsIn K mainGlobals "min" = some none)
  (n_range:W.nsIn K mainGlobals "range" = some none)
  (n_set:W.nsIn K mainGlobals "set" = some none)
  (n_sorted:W.nsIn K mainGlobals "sorted" = some none)
  (n_tuple:W.nsIn K mainGlobals "tuple" = some none)
  (g_LEAST_LENGTH:W.nsIn K mainGlobals "LEAST_LENGTH" = some (some (.int 2 t_LEAST_LENGTH)))
  (g_MOST_LENGTH:W.nsIn K mainGlobals "MOST_LENGTH" = some (some (.int 5 t_MOST_LENGTH)))
  (g_FURTHEST:W.nsIn K mainGlobals "FURTHEST" = some (some (.int 40 t_FURTHEST)))
  (g_ACROSS:W.nsIn K mainGlobals "ACROSS" = some (some (.int 0 t_ACROSS)))
  (g_DOWN:W.nsIn K mainGlobals "DOWN" = some (some (.int 1 t_DOWN)))
  (q_Z0:W.nsIn K mainGlobals "BarError" = some (some (.ref c_Z0)))
  (q_Z1:W.nsIn K mainGlobals "NoLength" = some (some (.ref c_Z1)))
  (q_Z2:W.nsIn K mainGlobals "NoNumber" = some (some (.ref c_Z2)))
  (q_Z3:W.nsIn K mainGlobals "NoBars" = some (some (.ref c_Z3)))
  (q_Z4:W.nsIn K mainGlobals "NoBox" = some (some (.ref c_Z4)))
  (q_Z5:W.nsIn K mainGlobals "NoWeights" = some (some (.ref c_Z5)))
  (q_Z6:W.nsIn K mainGlobals "NoSorts" = some (some (.ref c_Z6)))
  (q_Z7:W.nsIn K mainGlobals "NoTurn" = some (some (.ref c_Z7)))
  (q_Z8:W.nsIn K mainGlobals "NoPlace" = some (some (.ref c_Z8)))
  (q_Z9:W.nsIn K mainGlobals "NoText" = some (some (.ref c_Z9)))
  (q_Z10:W.nsIn K mainGlobals "NoRow" = some (some (.ref c_Z10)))
  (q_Z11:W.nsIn K mainGlobals "TooMany" = some (some (.ref c_Z11)))
  (oB:K.lookup c_Z0=some ⟨.type "type",ddB,.cls cdB,slB⟩)
  (nB:cdB.ns=NB)
  (oNB:K.lookup NB=some ⟨cNB,dNB,.dict esB epB,sNB⟩)
  (eNB:esB.toList.all Yt=true)
  (iNB:W.nsIn K NB "__init__" = some none)
  (bB:W.mroIn K c_Z0 (.type "BaseException")=some true)
  (xl_Z1:K.lookup c_Z1=some ⟨.type "type",xdd_Z1,.cls xcd_Z1,xsl_Z1⟩)
  (xm_Z1:xcd_Z1.mro = .ref c_Z1 :: .ref c_Z0::bmV)
  (xs_Z1:xsl_Z1.toList=[xk0_Z1,xk1_Z1,xk2_Z1,xk3_Z1,some (.builtin "ValueError.__new__"),xk5_Z1])
  (xd_Z1:xcd_Z1.hasDel=false)
  (xn_Z1:xcd_Z1.ns=xN_Z1)
  (xo_Z1:K.lookup xN_Z1=some ⟨xc_Z1,xd2_Z1,.dict xes_Z1 xep_Z1,xs2_Z1⟩)
  (xe_Z1:xes_Z1.toList.all Yt=true)
  (xi_Z1:W.nsIn K xN_Z1 "__init__" = some none)
  (e_Z1:W.mroIn K c_Z1 (.ref c_Z0)=some true)
  (v_Z1:W.kitOne K (.ref c_Z1) (.type "ValueError")=some true)
  (w_Z1_Z1:W.kitOne K (.ref c_Z1) (.ref c_Z1)=some true)
  (w_Z1_Z2:W.kitOne K (.ref c_Z1) (.ref c_Z2)=some false)
  (w_Z1_Z3:W.kitOne K (.ref c_Z1) (.ref c_Z3)=some false)
  (w_Z1_Z4:W.kitOne K (.ref c_Z1) (.ref c_Z4)=some false)
  (w_Z1_Z5:W.kitOne K (.ref c_Z1) (.ref c_Z5)=some false)
  (w_Z1_Z6:W.kitOne K (.ref c_Z1) (.ref c_Z6)=some false)
  (w_Z1_Z7:W.kitOne K (.ref c_Z1) (.ref c_Z7)=some false)
  (w_Z1_Z8:W.kitOne K (.ref c_Z1) (.ref c_Z8)=some false)
  (w_Z1_Z9:W.kitOne K (.ref c_Z1) (.ref c_Z9)=some false)
  (w_Z1_Z10:W.kitOne K (.ref c_Z1) (.ref c_Z10)=some false)
  (w_Z1_Z11:W.kitOne K (.ref c_Z1) (.ref c_Z11)=some false)
  (ga_Z1:W.findIn K (.ref c_Z1) "__getattribute__" = some (some (.builtin "BaseException.__getattribute__")))
  (gn_Z1:W.findIn K (.ref c_Z1) "__getattr__" = some none)
  (fo_Z1:∀ od,W.findObj K c_Z1 od "__class__" = some (.bind (.builtin "getset_descriptor.__get__") (.builtin "object.__class__")))
  (mo_Z1:W.mroIn K c_Z1 (.type "object")=some true)
  (mb_Z1:W.mroIn K c_Z1 (.type "BaseException")=some true)
  (xl_Z3:K.lookup c_Z3=some ⟨.type "type",xdd_Z3,.cls xcd_Z3,xsl_Z3⟩)
  (xm_Z3:xcd_Z3.mro = .ref c_Z3 :: .ref c_Z0::bmV)
  (xs_Z3:xsl_Z3.toList=[xk0_Z3,xk1_Z3,xk2_Z3,xk3_Z3,some (.builtin "ValueError.__new__"),xk5_Z3])
  (xd_Z3:xcd_Z3.hasDel=false)
  (xn_Z3:xcd_Z3.ns=xN_Z3)
  (xo_Z3:K.lookup xN_Z3=some ⟨xc_Z3,xd2_Z3,.dict xes_Z3 xep_Z3,xs2_Z3⟩)
  (xe_Z3:xes_Z3.toList.all Yt=true)
  (xi_Z3:W.nsIn K xN_Z3 "__init__" = some none)
  (e_Z3:W.mroIn K c_Z3 (.ref c_Z0)=some true)
  (v_Z3:W.kitOne K (.ref c_Z3) (.type "ValueError")=some true)
  (w_Z3_Z1:W.kitOne K (.ref c_Z3) (.ref c_Z1)=some false)
  (w_Z3_Z2:W.kitOne K (.ref c_Z3) (.ref c_Z2)=some false)
  (w_Z3_Z3:W.kitOne K (.ref c_Z3) (.ref c_Z3)=some true)
  (w_Z3_Z4:W.kitOne K (.ref c_Z3) (.ref c_Z4)=some false)
  (w_Z3_Z5:W.kitOne K (.ref c_Z3) (.ref c_Z5)=some false)
  (w_Z3_Z6:W.kitOne K (.ref c_Z3) (.ref c_Z6)=some false)
  (w_Z3_Z7:W.kitOne K (.ref c_Z3) (.ref c_Z7)=some false)
  (w_Z3_Z8:W.kitOne K (.ref c_Z3) (.ref c_Z8)=some false)
  (w_Z3_Z9:W.kitOne K (.ref c_Z3) (.ref c_Z9)=some false)
  (w_Z3_Z10:W.kitOne K (.ref c_Z3) (.ref c_Z10)=some false)
  (w_Z3_Z11:W.kitOne K (.ref c_Z3) (.ref c_Z11)=some false)
  (ga_Z3:W.findIn K (.ref c_Z3) "__getattribute__" = some (some (.builtin "BaseException.__getattribute__")))
  (gn_Z3:W.findIn K (.ref c_Z3) "__getattr__" = some none)
  (fo_Z3:∀ od,W.findObj K c_Z3 od "__class__" = some (.bind (.builtin "getset_descriptor.__get__") (.builtin "object.__class__")))
  (mo_Z3:W.mroIn K c_Z3 (.type "object")=some true)
  (mb_Z3:W.mroIn K c_Z3 (.type "BaseException")=some true)
  (xl_Z7:K.lookup c_Z7=some ⟨.type "type",xdd_Z7,.cls xcd_Z7,xsl_Z7⟩)
  (xm_Z7:xcd_Z7.mro = .ref c_Z7 :: .ref c_Z0::bmV)
  (xs_Z7:xsl_Z7.toList=[xk0_Z7,xk1_Z7,xk2_Z7,xk3_Z7,some (.builtin "ValueError.__new__"),xk5_Z7])
  (xd_Z7:xcd_Z7.hasDel=false)
  (xn_Z7:xcd_Z7.ns=xN_Z7)
  (xo_Z7:K.lookup xN_Z7=some ⟨xc_Z7,xd2_Z7,.dict xes_Z7 xep_Z7,xs2_Z7⟩)
  (xe_Z7:xes_Z7.toList.all Yt=true)
  (xi_Z7:W.nsIn K xN_Z7 "__init__" = some none)
  (e_Z7:W.mroIn K c_Z7 (.ref c_Z0)=some true)
  (v_Z7:W.kitOne K (.ref c_Z7) (.type "ValueError")=some true)
  (w_Z7_Z1:W.kitOne K (.ref c_Z7) (.ref c_Z1)=some false)
  (w_Z7_Z2:W.kitOne K (.ref c_Z7) (.ref c_Z2)=some false)
  (w_Z7_Z3:W.kitOne K (.ref c_Z7) (.ref c_Z3)=some false)
  (w_Z7_Z4:W.kitOne K (.ref c_Z7) (.ref c_Z4)=some false)
  (w_Z7_Z5:W.kitOne K (.ref c_Z7) (.ref c_Z5)=some false)
  (w_Z7_Z6:W.kitOne K (.ref c_Z7) (.ref c_Z6)=some false)
  (w_Z7_Z7:W.kitOne K (.ref c_Z7) (.ref c_Z7)=some true)
  (w_Z7_Z8:W.kitOne K (.ref c_Z7) (.ref c_Z8)=some false)
  (w_Z7_Z9:W.kitOne K (.ref c_Z7) (.ref c_Z9)=some false)
  (w_Z7_Z10:W.kitOne K (.ref c_Z7) (.ref c_Z10)=some false)
  (w_Z7_Z11:W.kitOne K (.ref c_Z7) (.ref c_Z11)=some false)
  (ga_Z7:W.findIn K (.ref c_Z7) "__getattribute__" = some (some (.builtin "BaseException.__getattribute__")))
  (gn_Z7:W.findIn K (.ref c_Z7) "__getattr__" = some none)
  (fo_Z7:∀ od,W.findObj K c_Z7 od "__class__" = some (.bind (.builtin "getset_descriptor.__get__") (.builtin "object.__class__")))
  (mo_Z7:W.mroIn K c_Z7 (.type "object")=some true)
  (mb_Z7:W.mroIn K c_Z7 (.type "BaseException")=some true)
  (ds:Dist ⟨c_Z0,c_Z1,c_Z2,c_Z3,c_Z4,c_Z5,c_Z6,c_Z7,c_Z8,c_Z9,c_Z10,c_Z11,ff0,ff1,ff2,ff3,ff4,ff5,ff6,ff7,ff8,ff9,ff10,ff11,ff12,ff13,ff14,ff15,ff16,ff17,ff18,ff19,ff20,ff21,ff22,ff23,ff24,ff25,ff26,ff27,ff28,ff29,ff30,ff31,ff32,ff33,ff34,ff35,ff36⟩) :
  ∃ fd:FuncData,(∀ (s:Shared) (v:Value),BindsTo s fd ⟨[v],[]⟩ [("_law_script",v)]) ∧ ∀ base:Heap,K.In base->base.Ns mainGlobals mg->FnOk l.prog w K mg base (CXF l.prog w) 13 fa fd ["_law_script"] (spL K):=by
 have e:ff36=fa:=Value.ref.inj (Ai ((AN X G aa36).symm.trans hfa));subst e;have V:Env K mg ⟨c_Z0,c_Z1,c_Z2,c_Z3,c_Z4,c_Z5,c_Z6,c_Z7,c_Z8,c_Z9,c_Z10,c_Z11,ff0,ff1,ff2,ff3,ff4,ff5,ff6,ff7,ff8,ff9,ff10,ff11,ff12,ff13,ff14,ff15,ff16,ff17,ff18,ff19,ff20,ff21,ff22,ff23,ff24,ff25,ff26,ff27,ff28,ff29,ff30,ff31,ff32,ff33,ff34,ff35,ff36⟩:=by
  refine { kit:=⟨fun t c b hk => ?_,fun x c b hk => ?_⟩,n_ValueError:=Ay X G n_ValueError,n_all:=Ay X G n_all,n_bool:=Ay X G n_bool,n_divmod:=Ay X G n_divmod,n_int:=Ay X G n_int,n_isinstance:=Ay X G n_isinstance,n_len:=Ay X G n_len,n_list:=Ay X G n_list,n_max:=Ay X G n_max,n_min:=Ay X G n_min,n_range:=Ay X G n_range,n_set:=Ay X G n_set,n_sorted:=Ay X G n_sorted,n_tuple:=Ay X G n_tuple,c_LEAST_LENGTH:=⟨_,AN X G g_LEAST_LENGTH⟩,c_MOST_LENGTH:=⟨_,AN X G g_MOST_LENGTH⟩,c_FURTHEST:=⟨_,AN X G g_FURTHEST⟩,c_ACROSS:=⟨_,AN X G g_ACROSS⟩,c_DOWN:=⟨_,AN X G g_DOWN⟩,k_Z0:=AN X G q_Z0,k_Z1:=AN X G q_Z1,k_Z2:=AN X G q_Z2,k_Z3:=AN X G q_Z3,k_Z4:=AN X G q_Z4,k_Z5:=AN X G q_Z5,k_Z6:=AN X G q_Z6,k_Z7:=AN X G q_Z7,k_Z8:=AN X G q_Z8,k_Z9:=AN X G q_Z9,k_Z10:=AN X G q_Z10,k_Z11:=AN X G q_Z11,x_Z1:=qBw xl_Z1 xm_Z1 xs_Z1 xd_Z1 (by rw [xn_Z1];exact ZV xo_Z1 xe_Z1) (by rw [xn_Z1];exact xi_Z1) oB (by rw [nB];exact ZV oNB eNB) (by rw [nB];exact iNB),e_Z1:=e_Z1,x_Z3:=qBw xl_Z3 xm_Z3 xs_Z3 xd_Z3 (by rw [xn_Z3];exact ZV xo_Z3 xe_Z3) (by rw [xn_Z3];exact xi_Z3) oB (by rw [nB];exact ZV oNB eNB) (by rw [nB];exact iNB),e_Z3:=e_Z3,x_Z7:=qBw xl_Z7 xm_Z7 xs_Z7 xd_Z7 (by rw [xn_Z7];exact ZV xo_Z7 xe_Z7) (by rw [xn_Z7];exact xi_Z7) oB (by rw [nB];exact ZV oNB eNB) (by rw [nB];exact iNB),e_Z7:=e_Z7,o_Z0:=⟨_,_,_,oB⟩,b_Z0:=bB,m_is_whole:=AN X G aa0,f_is_whole:=⟨_,qw (st:=WM) ll0 dd0 kk0⟩,m_is_whole_within:=AN X G aa1,f_is_whole_within:=⟨_,qw (st:=QX) ll1 dd1 kk1⟩,m_are_wholes:=AN X G aa2,f_are_wholes:=⟨_,qw (st:=wX) ll2 dd2 kk2⟩,m_is_rising:=AN X G aa3,f_is_rising:=⟨_,qw (st:=wq) ll3 dd3 kk3⟩,m_is_length:=AN X G aa4,f_is_length:=⟨_,qw (st:=wo) ll4 dd4 kk4⟩,m_need_length:=AN X G aa5,f_need_length:=⟨_,qw (st:=Qv) ll5 dd5 kk5⟩,m_is_bar:=AN X G aa6,f_is_bar:=⟨_,qw (st:=Wm) ll6 dd6 kk6⟩,m_places_of:=AN X G aa7,f_places_of:=⟨_,qw (st:=wN) ll7 dd7 kk7⟩,m_is_within:=AN X G aa8,f_is_within:=⟨_,qw (st:=wu) ll8 dd8 kk8⟩,m_covered_by:=AN X G aa9,f_covered_by:=⟨_,qw (st:=wY) ll9 dd9 kk9⟩,m_is_packing:=AN X G aa10,f_is_packing:=⟨_,qw (st:=wV) ll10 dd10 kk10⟩,m_is_filling:=AN X G aa11,f_is_filling:=⟨_,qw (st:=wU) ll11 dd11 kk11⟩,m_need_filling:=AN X G aa12,f_need_filling:=⟨_,qw (st:=Q1) ll12 dd12 kk12⟩,m_block_bars:=AN X G aa13,f_block_bars:=⟨_,qw (st:=wA) ll13 dd13 kk13⟩,m_blocks_in:=AN X G aa14,f_blocks_in:=⟨_,qw (st:=wx) ll14 dd14 kk14⟩,m_lies_across:=AN X G aa15,f_lies_across:=⟨_,qw (st:=Qw) ll15 dd15 kk15⟩,m_turn_at:=AN X G aa16,f_turn_at:=⟨_,qw (st:=WK) ll16 dd16 kk16⟩,m_need_block:=AN X G aa17,f_need_block:=⟨_,qw (st:=wR) ll17 dd17 kk17⟩,m_blocks_of:=AN X G aa18,f_blocks_of:=⟨_,qw (st:=wy) ll18 dd18 kk18⟩,m_turned:=AN X G aa19,f_turned:=⟨_,qw (st:=zH) ll19 dd19 kk19⟩,m_rises:=AN X G aa20,f_rises:=⟨_,qw (st:=Za) ll20 dd20 kk20⟩,m_law_cell:=AN X G aa21,f_law_cell:=⟨_,qw (st:=WR) ll21 dd21 kk21⟩,m_law_mix:=AN X G aa22,f_law_mix:=⟨_,qw (st:=Wk) ll22 dd22 kk22⟩,m_law_box:=AN X G aa23,f_law_box:=⟨_,qw (st:=Wj) ll23 dd23 kk23⟩,m_law_take:=AN X G aa24,f_law_take:=⟨_,qw (st:=WO) ll24 dd24 kk24⟩,m_law_cover:=AN X G aa25,f_law_cover:=⟨_,qw (st:=ww) ll25 dd25 kk25⟩,m_law_laid:=AN X G aa26,f_law_laid:=⟨_,qw (st:=WJ) ll26 dd26 kk26⟩,m_law_whole:=AN X G aa27,f_law_whole:=⟨_,qw (st:=wm) ll27 dd27 kk27⟩,m_law_odd:=AN X G aa28,f_law_odd:=⟨_,qw (st:=Wi) ll28 dd28 kk28⟩,m_law_square:=AN X G aa29,f_law_square:=⟨_,qw (st:=wQ) ll29 dd29 kk29⟩,m_law_blocks:=AN X G aa30,f_law_blocks:=⟨_,qw (st:=wZ) ll30 dd30 kk30⟩,m_law_swung:=AN X G aa31,f_law_swung:=⟨_,qw (st:=wp) ll31 dd31 kk31⟩,m_law_blocky:=AN X G aa32,f_law_blocky:=⟨_,qw (st:=wP) ll32 dd32 kk32⟩,m_law_kind:=AN X G aa33,f_law_kind:=⟨_,qw (st:=WL) ll33 dd33 kk33⟩,m_law_said:=AN X G aa34,f_law_said:=⟨_,qw (st:=wg) ll34 dd34 kk34⟩,m_law_right:=AN X G aa35,f_law_right:=⟨_,qw (st:=wk) ll35 dd35 kk35⟩,m_law:=AN X G aa36,f_law:=⟨_,qw (st:=zn) ll36 dd36 kk36⟩ }
  ·have hnd:=ds.nd;unfold kit at hk;split at hk
   ·exact qGk hk
   ·split at hk
    ·rename_i x d hx;cases hk;have hx1:=hx.1;have hx2:=hx.2;unfold QN at hx1;unfold Ad.kinds at hx2;simp only [AE,Ag,B8] at hx1 hx2;rcases hx1 with e1 |e1 |e1
     ·rcases hx2 with e2 |e2 |e2 |e2 |e2 |e2 |e2 |e2 |e2 |e2 |e2
      ·rw [e1,e2,As];exact w_Z1_Z1
      ·rw [e1,e2,show (c_Z1==c_Z2)=false from AB.mpr (QM ds).1];exact w_Z1_Z2
      ·rw [e1,e2,show (c_Z1==c_Z3)=false from AB.mpr (QM ds).2.1];exact w_Z1_Z3
      ·rw [e1,e2,show (c_Z1==c_Z4)=false from AB.mpr (QM ds).2.2.1];exact w_Z1_Z4
      ·rw [e1,e2,show (c_Z1==c_Z5)=false from AB.mpr (QM ds).2.2.2.1];exact w_Z1_Z5
      ·rw [e1,e2,show (c_Z1==c_Z6)=false from AB.mpr (QM ds).2.2.2.2.1];exact w_Z1_Z6
      ·rw [e1,e2,show (c_Z1==c_Z7)=false from AB.mpr (QM ds).2.2.2.2.2.1];exact w_Z1_Z7
      ·rw [e1,e2,show (c_Z1==c_Z8)=false from AB.mpr (QM ds).2.2.2.2.2.2.1];exact w_Z1_Z8
      ·rw [e1,e2,show (c_Z1==c_Z9)=false from AB.mpr (QM ds).2.2.2.2.2.2.2.1];exact w_Z1_Z9
      ·rw [e1,e2,show (c_Z1==c_Z10)=false from AB.mpr (QM ds).2.2.2.2.2.2.2.2.1];exact w_Z1_Z10
      ·rw [e1,e2,show (c_Z1==c_Z11)=false from AB.mpr (QM ds).2.2.2.2.2.2.2.2.2];exact w_Z1_Z11
     ·rcases hx2 with e2 |e2 |e2 |e2 |e2 |e2 |e2 |e2 |e2 |e2 |e2
      ·rw [e1,e2,show (c_Z3==c_Z1)=false from AB.mpr (Qd ds).1];exact w_Z3_Z1
      ·rw [e1,e2,show (c_Z3==c_Z2)=false from AB.mpr (Qd ds).2.1];exact w_Z3_Z2
      ·rw [e1,e2,As];exact w_Z3_Z3
      ·rw [e1,e2,show (c_Z3==c_Z4)=false from AB.mpr (Qd ds).2.2.1];exact w_Z3_Z4
      ·rw [e1,e2,show (c_Z3==c_Z5)=false from AB.mpr (Qd ds).2.2.2.1];exact w_Z3_Z5
      ·rw [e1,e2,show (c_Z3==c_Z6)=false from AB.mpr (Qd ds).2.2.2.2.1];exact w_Z3_Z6
      ·rw [e1,e2,show (c_Z3==c_Z7)=false from AB.mpr (Qd ds).2.2.2.2.2.1];exact w_Z3_Z7
      ·rw [e1,e2,show (c_Z3==c_Z8)=false from AB.mpr (Qd ds).2.2.2.2.2.2.1];exact w_Z3_Z8
      ·rw [e1,e2,show (c_Z3==c_Z9)=false from AB.mpr (Qd ds).2.2.2.2.2.2.2.1];exact w_Z3_Z9
      ·rw [e1,e2,show (c_Z3==c_Z10)=false from AB.mpr (Qd ds).2.2.2.2.2.2.2.2.1];exact w_Z3_Z10
      ·rw [e1,e2,show (c_Z3==c_Z11)=false from AB.mpr (Qd ds).2.2.2.2.2.2.2.2.2];exact w_Z3_Z11
     ·rcases hx2 with e2 |e2 |e2 |e2 |e2 |e2 |e2 |e2 |e2 |e2 |e2
      ·rw [e1,e2,show (c_Z7==c_Z1)=false from AB.mpr (Qc ds).1];exact w_Z7_Z1
      ·rw [e1,e2,show (c_Z7==c_Z2)=false from AB.mpr (Qc ds).2.1];exact w_Z7_Z2
      ·rw [e1,e2,show (c_Z7==c_Z3)=false from AB.mpr (Qc ds).2.2.1];exact w_Z7_Z3
      ·rw [e1,e2,show (c_Z7==c_Z4)=false from AB.mpr (Qc ds).2.2.2.1];exact w_Z7_Z4
      ·rw [e1,e2,show (c_Z7==c_Z5)=false from AB.mpr (Qc ds).2.2.2.2.1];exact w_Z7_Z5
      ·rw [e1,e2,show (c_Z7==c_Z6)=false from AB.mpr (Qc ds).2.2.2.2.2.1];exact w_Z7_Z6
      ·rw [e1,e2,As];exact w_Z7_Z7
      ·rw [e1,e2,show (c_Z7==c_Z8)=false from AB.mpr (Qc ds).2.2.2.2.2.2.1];exact w_Z7_Z8
      ·rw [e1,e2,show (c_Z7==c_Z9)=false from AB.mpr (Qc ds).2.2.2.2.2.2.2.1];exact w_Z7_Z9
      ·rw [e1,e2,show (c_Z7==c_Z10)=false from AB.mpr (Qc ds).2.2.2.2.2.2.2.2.1];exact w_Z7_Z10
      ·rw [e1,e2,show (c_Z7==c_Z11)=false from AB.mpr (Qc ds).2.2.2.2.2.2.2.2.2];exact w_Z7_Z11
    ·cases hk
   ·split at hk
    ·rename_i x T hx;cases hk;have hx1:=hx.1;have hx2:=hx.2;subst hx2;unfold QN at hx1;simp only [AE,Ag,B8] at hx1;rcases hx1 with e1 |e1 |e1
     ·rw [e1];exact v_Z1
     ·rw [e1];exact v_Z3
     ·rw [e1];exact v_Z7
    ·cases hk
   ·cases hk
  ·have hm:=qHO hk;unfold QN at hm;simp only [AE,Ag,B8] at hm;rcases hm with e1 |e1 |e1
   ·rw [e1];exact ⟨ga_Z1,gn_Z1,fo_Z1,mo_Z1,mb_Z1⟩
   ·rw [e1];exact ⟨ga_Z3,gn_Z3,fo_Z3,mo_Z3,mb_Z3⟩
   ·rw [e1];exact ⟨ga_Z7,gn_Z7,fo_Z7,mo_Z7,mb_Z7⟩
 refine ⟨W.fnOf "law" "law" (qW zn) (qU zn) (qH zn) .none kV36 dc36 pm36 an36 cd36 ct36,fun s v => .of_eq rfl,fun base _ _ => ?_⟩;exact qGJ (qJ7 V (qw (st:=zn) ll36 dd36 kk36)) fun vs H Q E q=>q _ ds
theorem qEB {l:W.OpenLaw} {n k:Nat} {q:Program} {loose:List Str} {XP:(Str->Option Value)->Heap->Prop} {YP:World->Heap->Prop} {d:DefRec} {K:Params->W.Frag} {CX:World->CXT} {sp:World->Sp} {x:Str}
  (hn:l.most=some n) (hn2:n≤sizeLine) (hdf:d.params.defaults=[]) (hr:Room k callerA)
  (hY:∀ (w:World) (h:Heap),YP w h->(K w.params).In h)
  (F:∀ (w:World) (mg:Str->Option Value) (fa:Addr) (h:Heap),(K w.params).In h->h.Ns mainGlobals mg->XP mg h->mg d.name=some (.ref fa) ->
   ∃ fd:FuncData,(∀ (s:Shared) (u:Value),BindsTo s fd ⟨[u],[]⟩ [(x,u)]) ∧
    ∀ base:Heap,(K w.params).In base->base.Ns mainGlobals mg->FnOk l.prog w (K w.params) mg base (CX w) k fa fd [x] (sp w))
  (hsp:∀ (w:World) (H:Hp) (a:Addr) (ns:List Int),ns.length≤n->(∀ k∈ns,Builtin.Int.intBits k≤2 ^ 20)->qIp H->SqL (K w.params) H a (ns.map V.int)->sp w [.ref a] H (fun v _=>v = .bl true) fun _ _ _=>False)
  (hCX:∀ (w:World) (H:Hp) (s:Shared) (e:Value) (s':Shared),CX w [] H s (fun _ _ _=>False) e s'->False) :
  W.WalkO q loose XP YP l.row.toRowW d [] (fun f vs=>PySem.call f vs):=by refine Att.attach_callB hn hdf fun w s₀ s₁ mg mb fa o pm cd doc a vs ns G Y ho hd hcd hmg hobj hints hlen hbits hg => ?_;have KX:=hY w _ Y;obtain ⟨fd,hb,hF⟩:=F w mg fa _ KX G.T.g G.X hmg;exact qFs KX G.T.g G.T.b G.T.builtins G.T.nolimit hg hobj hints (Ae hlen hn2) hr hF hb (fun H hO hS=>hsp w H a ns hlen hbits hO hS) fun H e s'=>hCX w H s₁ e s'
theorem zw {K:W.Frag} {H:Hp} {b:Bz}:∀ ns:List Int,RVs K H b (ns.map PV.int) (ns.map V.int)
 |[]=>RVs.nil
 |n::ns=>RVs.cons Qf (zw ns)
theorem qEO (key:∀ (a:Ad) (ns:List Int),Dist a->ns.length≤63->(∀ k∈ns,Builtin.Int.intBits k≤2 ^ 20) -> ∃ st,qAf a [.lst (ns.map PV.int)] [] = .ok (.bl true) st) {K:W.Frag} {H:Hp} {a:Addr} {ns:List Int} (hl:ns.length≤63) (hb:∀ k∈ns,Builtin.Int.intBits k≤2 ^ 20) (hS:SqL K H a (ns.map V.int)):spL K [.ref a] H (fun v _=>v = .bl true) fun _ _ _=>False:=by
 intro ad hd;obtain ⟨st,e⟩:=key ad ns hd hl hb;refine ⟨rfl,⟨[],[]⟩,[.lst (ns.map PV.int)],[],⟨rfl,Bk,fun i x h=>by simp at h,fun a ha=>(Ag ha).elim,fun a ha=>(Ag ha).elim⟩,RVs.cons ?_ RVs.nil,?_⟩
 ·unfold RV;exact ⟨a,_,rfl,hS.imp (fun h=>⟨h,Ag,Ag⟩) id,zw ns⟩
 ·rw [e];intro v H' b' _ _ r;unfold RV at r;exact r
theorem walk31 (key:∀ (a:Ad) (ns:List Int),Dist a->ns.length≤63->(∀ k∈ns,Builtin.Int.intBits k≤2 ^ 20) -> ∃ st,qAf a [.lst (ns.map PV.int)] [] = .ok (.bl true) st) {l:W.OpenLaw} {q:Program} {loose:List Str} {XP:(Str->Option Value)->Heap->Prop} {YP:World->Heap->Prop} {d:DefRec} {K:Params->W.Frag} (hn:l.most=some 63) (hdf:d.params.defaults=[])
  (hY:∀ (w:World) (h:Heap),YP w h->(K w.params).In h)
  (F:∀ (w:World) (mg:Str->Option Value) (fa:Addr) (h:Heap),(K w.params).In h->h.Ns mainGlobals mg->XP mg h->mg d.name=some (.ref fa) ->
   ∃ fd:FuncData,(∀ (s:Shared) (u:Value),BindsTo s fd ⟨[u],[]⟩ [("_law_script",u)]) ∧ ∀ base:Heap,(K w.params).In base->base.Ns mainGlobals mg->FnOk l.prog w (K w.params) mg base (CXF l.prog w) 13 fa fd ["_law_script"] (spL (K w.params))) :
  W.WalkO q loose XP YP l.row.toRowW d [] (fun f vs=>PySem.call f vs) :=
 qEB (n:=63) (k:=13) (x := "_law_script") (CX:=fun w=>CXF l.prog w) (sp:=fun w=>spL (K w.params)) hn (by decide) hdf ⟨fun _=>rfl,by decide,by decide,rfl⟩ hY F (fun _ _ a ns hl hb _ hS=>qEO key hl hb hS) fun _ _ _ _ _ z=>by obtain ⟨_,_,_,_,_,_,_,_,_,_,_,_,q⟩:=z;exact q
end K61
end
section
namespace PySem.W.Fast
def tw7730491216486731103:=0
def tw11292640338512327456:=0
def tw10051498693092288932:=0
def tw7101527326569511525:=0
def tw6758646276869986235:=0
def tw4147729958916068355:=0
def tw8250936094704358140:=0
def tw358039358288757132:=0
def tw3741704170962466666:=0
def tw698375492304689634:=0
def tw16030094963276071472:=0
def tw6535759453125736090:=0
def tw8522861269265807781:=0
def tw739188725391280827:=0
def tw15919332323466618278:=0
def tw11814110713784973502:=0
def tw6904785287209779648:=0
def tw17101262425863810762:=0
def tw9042720493661711522:=0
def tw12431356960392436030:=0
def tw2263181712641036174:=0
def tw1404638210126813939:=0
def tw14704719038435205316:=0
def tw11067698673136660905:=0
def tw14837303130391689182:=0
def tw13058791826911234093:=0
def tw10838756075892052544:=0
def tw485407138006118943:=0
def tw12639842058987678033:=0
def tw6797627647323247948:=0
def tw7615350269387934187:=0
def tw18424052992041566844:=0
def tw5177955875307951256:=0
def tw16274318062426908048:=0
def tw7143244829955947219:=0
def tw17839517678057769146:=0
def tw8258251279063235845:=0
def tw3033824597657783385:=0
def tw16549098716174949216:=0
def tw7728980371910479488:=0
def tw8993821684145519491:=0
def tw14065562959864266942:=0
def tw14776232178961203218:=0
def tw16513689424015087203:=0
def tw4476923628349383689:=0
def tw16748274872727459572:=0
def tw2144721422746821536:=0
def tw7382135504913367400:=0
def tw3371593178603808803:=0
def tw18084847641215700169:=0
def tw8857343868181288396:=0
def tw10817055878396904548:=0
def tw1571911758377491573:=0
def tw14281970478068012681:=0
def tw4471377790090015388:=0
def tw10435706038378261847:=0
def tw6403227322849794819:=0
end PySem.W.Fast
open PySem PySem.W PyProof.Rows
set_option maxRecDepth 100000 in
set_option maxHeartbeats 0 in
theorem PySem.Challenge.cw_barfloors_k61_blocks_turned_holds : PySem.Challenge.rw_barfloors_k61_blocks_turned.Holds := by
  w_on; o_law; k_head; (case hw => w_witness2)
  k_fill
  refine K61.walk31 K61.law_true (l := PySem.Challenge.rw_barfloors_k61_blocks_turned) rfl rfl (fun w h Y => PySem.W.kIn_of Y) ?F
  case F =>
    intro w mg fa h KX G XX hmg
    refine' K61.all_mk KX G hmg ?zzA ?zzB ?zzC ?zzD ?zzE ?zzF ?zzG ?zzH ?zzI ?zzJ ?zzK ?zzL ?zzM ?zzN ?zzO ?zzP ?zzQ ?zzR ?zzS ?zzT ?zzU ?zzV ?zzW ?zzX ?zzY ?zzZ ?zza ?zzb ?zzc ?zzd ?zze ?zzf ?zzg ?zzh ?zzi ?zzj ?zzk ?zzl ?zzm ?zzn ?zzo ?zzp ?zzq ?zzr ?zzs ?zzt ?zzu ?zzv ?zzw ?zzx ?zzy ?zzz ?zyA ?zyB ?zyC ?zyD ?zyE ?zyF ?zyG ?zyH ?zyI ?zyJ ?zyK ?zyL ?zyM ?zyN ?zyO ?zyP ?zyQ ?zyR ?zyS ?zyT ?zyU ?zyV ?zyW ?zyX ?zyY ?zyZ ?zya ?zyb ?zyc ?zyd ?zye ?zyf ?zyg ?zyh ?zyi ?zyj ?zyk ?zyl ?zym ?zyn ?zyo ?zyp ?zyq ?zyr ?zys ?zyt ?zyu ?zyv ?zyw ?zyx ?zyy ?zyz ?zxA ?zxB ?zxC ?zxD ?zxE ?zxF ?zxG ?zxH ?zxI ?zxJ ?zxK ?zxL ?zxM ?zxN ?zxO ?zxP ?zxQ ?zxR ?zxS ?zxT ?zxU ?zxV ?zxW ?zxX ?zxY ?zxZ ?zxa ?zxb ?zxc ?zxd ?zxe ?zxf ?zxg ?zxh ?zxi ?zxj ?zxk ?zxl ?zxm ?zxn ?zxo ?zxp ?zxq ?zxr ?zxs ?zxt ?zxu ?zxv ?zxw ?zxx ?zxy ?zxz ?zwA ?zwB ?zwC ?zwD ?zwE ?zwF ?zwG ?zwH ?zwI ?zwJ ?zwK ?zwL ?zwM ?zwN ?zwO ?zwP ?zwQ ?zwR ?zwS ?zwT ?zwU ?zwV ?zwW ?zwX ?zwY ?zwZ ?zwa ?zwb ?zwc ?zwd ?zwe ?zwf ?zwg ?zwh ?zwi ?zwj ?zwk ?zwl ?zwm ?zwn ?zwo ?zwp ?zwq ?zwr ?zws ?zwt ?zwu ?zwv ?zww ?zwx ?zwy ?zwz ?zvA ?zvB ?zvC ?zvD ?zvE ?zvF ?zvG ?zvH ?zvI ?zvJ ?zvK ?zvL ?zvM ?zvN ?zvO ?zvP ?zvQ ?zvR ?zvS ?zvT ?zvU ?zvV ?zvW ?zvX ?zvY ?zvZ ?zva ?zvb ?zvc ?zvd ?zve ?zvf ?zvg ?zvh ?zvi ?zvj ?zvk ?zvl ?zvm ?zvn ?zvo ?zvp ?zvq ?zvr ?zvs ?zvt ?zvu ?zvv ?zvw ?zvx ?zvy ?zvz ?zuA ?zuB ?zuC ?zuD
    (case zzA|zzB|zzC|zzD|zzE|zzF|zzG|zzH|zzI|zzJ|zzK|zzL|zzM|zzN|zzO|zzP|zzQ|zzR|zzS|zzT|zzU|zzV|zzW|zzX|zzY|zzZ|zza|zzb|zzc|zzd|zze|zzf|zzg|zzh|zzi|zzj|zzk|zzl|zzm|zzn|zzo|zzp|zzq|zzr|zzs|zzt|zzu|zzv|zzw|zzx|zzy|zzz|zyA|zyB|zyC|zyD|zyE|zyF|zyG|zyH|zyI|zyJ|zyK|zyL|zyM|zyN|zyO|zyP|zyQ|zyR|zyS|zyT|zyU|zyV|zyW|zyX|zyY|zyZ|zya|zyb|zyc|zyd|zye|zyf|zyg|zyh|zyi|zyj|zyk|zyl|zym|zyn|zyo|zyp|zyq|zyr|zys|zyt|zyu|zyv|zyw|zyx|zyy|zyz|zxA|zxB|zxC|zxD|zxE|zxF|zxG|zxH|zxI|zxJ|zxK|zxL|zxM|zxN|zxO|zxP|zxQ|zxR|zxS|zxT|zxU|zxV|zxW|zxX|zxY|zxZ|zxa|zxb|zxc|zxd|zxe|zxf|zxg|zxh|zxi|zxj|zxk|zxl|zxm|zxn|zxo|zxp|zxq|zxr|zxs|zxt|zxu|zxv|zxw|zxx|zxy|zxz|zwA|zwB|zwC|zwD|zwE|zwF|zwG|zwH|zwI|zwJ|zwK|zwL|zwM|zwN|zwO|zwP|zwQ|zwR|zwS|zwT|zwU|zwV|zwW|zwX => k_is)
    (case zwY => rfl)
    (case zwZ => k_is)
    (case zwa => rfl)
    (case zwb|zwc|zwd => k_is)
    (case zwe|zwf|zwg|zwh => rfl)
    (case zwi => k_is)
    (case zwj => rfl)
    (case zwk|zwl => k_is)
    (case zwm|zwn|zwo|zwp|zwq|zwr|zws|zwt|zwu|zwv|zww|zwx => rfl)
    (case zwy|zwz => k_is)
    (case zvA => (intro od; rfl))
    (case zvB|zvC|zvD => k_is)
    (case zvE|zvF|zvG|zvH => rfl)
    (case zvI => k_is)
    (case zvJ => rfl)
    (case zvK|zvL => k_is)
    (case zvM|zvN|zvO|zvP|zvQ|zvR|zvS|zvT|zvU|zvV|zvW|zvX => rfl)
    (case zvY|zvZ => k_is)
    (case zva => (intro od; rfl))
    (case zvb|zvc|zvd => k_is)
    (case zve|zvf|zvg|zvh => rfl)
    (case zvi => k_is)
    (case zvj => rfl)
    (case zvk|zvl => k_is)
    (case zvm|zvn|zvo|zvp|zvq|zvr|zvs|zvt|zvu|zvv|zvw|zvx => rfl)
    (case zvy|zvz => k_is)
    (case zuA => (intro od; rfl))
    (case zuB|zuC => k_is)
    (case zuD => decide)
end
