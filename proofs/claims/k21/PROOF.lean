import PyProof.Rows.All
import Wide.All
import OpenK.AllK
import Wide.FinOn
import PyProof.EqAt
import PyProof.EqKinds
import PyProof.TupleCall
import Lean
import PyProof.NeKinds
import PyProof.Rows.RuleDivmod
import PyProof.Rows.FactsN_divmod
import PyProof.DictItems
import KE.KPairComp
import PyProof.Draws
import PyProof.IsRules
import PySem.Challenge.RW_barfloors_k21_fillings_looked_at
theorem AA:type_of% @PySem.wpAny_bind:=@PySem.wpAny_bind
theorem AB:type_of% @PySem.wpAny_pure:=@PySem.wpAny_pure
theorem AC:type_of% @List.length_map:=@List.length_map
theorem AD:type_of% @PySem.Heap.get?_push_of_some:=@PySem.Heap.get?_push_of_some
theorem AE:type_of% @List.mem_cons_of_mem:=@List.mem_cons_of_mem
theorem AF:type_of% @if_pos:=@if_pos
theorem AG:type_of% @Nat.le_refl:=@Nat.le_refl
theorem AH:type_of% @List.length_cons:=@List.length_cons
theorem AI:type_of% @List.getElem?_eq_getElem:=@List.getElem?_eq_getElem
theorem AJ:type_of% @List.mem_cons:=@List.mem_cons
theorem AK:type_of% @if_neg:=@if_neg
theorem AL:type_of% @List.mem_cons_self:=@List.mem_cons_self
theorem AM:type_of% @List.size_toArray:=@List.size_toArray
theorem AN:type_of% @Array.getD_eq_getD_getElem?:=@Array.getD_eq_getD_getElem?
theorem AO:type_of% @Array.getElem?_eq_getElem:=@Array.getElem?_eq_getElem
theorem AQ:type_of% @List.length_append:=@List.length_append
theorem AR:type_of% @decide_eq_true:=@decide_eq_true
theorem AS:type_of% @List.getElem?_eq_some_iff:=@List.getElem?_eq_some_iff
theorem AT:type_of% @PySem.Heap.lt_size:=@PySem.Heap.lt_size
theorem AU:type_of% @PySem.W.mg_of:=@PySem.W.mg_of
theorem AV:type_of% @Bool.and_eq_true:=@Bool.and_eq_true
theorem AW:type_of% @beq_eq_false_iff_ne:=@beq_eq_false_iff_ne
theorem AX:type_of% @List.mem_map:=@List.mem_map
theorem AY:type_of% @PySem.Heap.get?_push_size:=@PySem.Heap.get?_push_size
theorem AZ:type_of% @Array.length_toList:=@Array.length_toList
theorem Aa:type_of% @Nat.le_trans:=@Nat.le_trans
theorem Ab:type_of% @List.getD_eq_getElem?_getD:=@List.getD_eq_getElem?_getD
theorem Ac:type_of% @Nat.ne_of_lt:=@Nat.ne_of_lt
theorem Ae:type_of% @decide_eq_false:=@decide_eq_false
theorem Af:type_of% @List.getElem?_append_left:=@List.getElem?_append_left
theorem Ag:type_of% @Option.some.inj:=@Option.some.inj
theorem Ah:type_of% @List.not_mem_nil:=@List.not_mem_nil
theorem Ai:type_of% @List.mem_singleton:=@List.mem_singleton
theorem Aj:type_of% @List.map_cons:=@List.map_cons
theorem Ak:type_of% @PySem.Heap.get?_update_other:=@PySem.Heap.get?_update_other
theorem Al:type_of% @Nat.lt_of_lt_of_le:=@Nat.lt_of_lt_of_le
theorem Am:type_of% @List.mem_append:=@List.mem_append
theorem An:type_of% @PySem.wpAny_holding:=@PySem.wpAny_holding
theorem Ao:type_of% @PySem.wpAny_of_eq:=@PySem.wpAny_of_eq
theorem Ap:type_of% @List.getElem?_append_right:=@List.getElem?_append_right
theorem Aq:type_of% @List.zip_cons_cons:=@List.zip_cons_cons
theorem Ar:type_of% @List.mem_of_getElem?:=@List.mem_of_getElem?
theorem As:type_of% @List.length_singleton:=@List.length_singleton
theorem At:type_of% @List.all_eq_true:=@List.all_eq_true
theorem Au:type_of% @List.getElem?_map:=@List.getElem?_map
theorem Av:type_of% @Array.getElem?_toList:=@Array.getElem?_toList
theorem Aw:type_of% @PySem.W.mg_none_of:=@PySem.W.mg_none_of
theorem Ax:type_of% @List.lookup_cons:=@List.lookup_cons
theorem Ay:type_of% @beq_self_eq_true:=@beq_self_eq_true
theorem Az:type_of% @Bool.false_eq_true:=@Bool.false_eq_true
theorem A0:type_of% @List.mem_append_right:=@List.mem_append_right
theorem A1:type_of% @PySem.wpAny_newObj_type:=@PySem.wpAny_newObj_type
theorem A2:type_of% @List.append_assoc:=@List.append_assoc
theorem A3:type_of% @Nat.zero_le:=@Nat.zero_le
theorem A4:type_of% @List.map_congr_left:=@List.map_congr_left
theorem A5:type_of% @List.map_map:=@List.map_map
theorem A6:type_of% @PySem.wpAny_field:=@PySem.wpAny_field
theorem A7:type_of% @List.getElem?_set_self:=@List.getElem?_set_self
theorem A8:type_of% @Nat.not_lt_zero:=@Nat.not_lt_zero
theorem A9:type_of% @List.map_append:=@List.map_append
theorem BA:type_of% @List.filterMap_cons:=@List.filterMap_cons
theorem BB:type_of% @PyProof.Rows.slot_tuple_getitem:=@PyProof.Rows.slot_tuple_getitem
theorem BC:type_of% @List.mem_range:=@List.mem_range
theorem BD:type_of% @List.getElem?_set_ne:=@List.getElem?_set_ne
theorem BE:type_of% @List.nodup_cons:=@List.nodup_cons
theorem BF:type_of% @beq_iff_eq:=@beq_iff_eq
theorem BG:type_of% @PySem.Heap.get?_update_self:=@PySem.Heap.get?_update_self
theorem BH:type_of% @List.getElem?_of_mem:=@List.getElem?_of_mem
theorem BI:type_of% @Nat.lt_irrefl:=@Nat.lt_irrefl
theorem BJ:type_of% @Nat.lt_succ_of_lt:=@Nat.lt_succ_of_lt
theorem BK:type_of% @PySem.codeAny_builtin:=@PySem.codeAny_builtin
theorem BL:type_of% @PySem.wpAny_isInstance:=@PySem.wpAny_isInstance
theorem BM:type_of% @PySem.wpAny_callSpecial?_slot:=@PySem.wpAny_callSpecial?_slot
theorem BN:type_of% @Int.toNat_natCast:=@Int.toNat_natCast
theorem BO:type_of% @of_decide_eq_true:=@of_decide_eq_true
theorem BP:type_of% @List.append_nil:=@List.append_nil
theorem BQ:type_of% @List.length_nil:=@List.length_nil
theorem BR:type_of% @PyProof.Rows.KeyOrd.kle_refl:=@PyProof.Rows.KeyOrd.kle_refl
theorem BS:type_of% @PySem.mem_of_lookup:=@PySem.mem_of_lookup
theorem BT:type_of% @Array.getElem?_eq_some_iff:=@Array.getElem?_eq_some_iff
theorem BU:type_of% @if_false:=@if_false
theorem BV:type_of% @List.getElem_mem:=@List.getElem_mem
theorem BW:type_of% @Bool.false_ne_true:=@Bool.false_ne_true
theorem BX:type_of% @List.getElem?_eq_none:=@List.getElem?_eq_none
theorem BY:type_of% @Nat.lt_of_le_of_lt:=@Nat.lt_of_le_of_lt
theorem BZ:type_of% @PySem.wpAny_mono:=@PySem.wpAny_mono
theorem Ba:type_of% @PySem.wpAny_typeOf:=@PySem.wpAny_typeOf
theorem Bb:type_of% @PySem.wpAny_setState_of:=@PySem.wpAny_setState_of
theorem Bc:type_of% @List.all_cons:=@List.all_cons
theorem Bd:type_of% @List.getElem?_replicate:=@List.getElem?_replicate
theorem Be:type_of% @PySem.wpAny_call_entry:=@PySem.wpAny_call_entry
theorem Bf:type_of% @List.length_take:=@List.length_take
theorem Bg:type_of% @PySem.F.plain_max_loop:=@PySem.F.plain_max_loop
theorem Bh:type_of% @PyProof.Rows.callWith_type1:=@PyProof.Rows.callWith_type1
theorem Bi:type_of% @PySem.wpAny_Call_Name_kw:=@PySem.wpAny_Call_Name_kw
theorem Bj:type_of% @beq_false_of_ne:=@beq_false_of_ne
theorem Bk:type_of% @Nat.le_of_ble_eq_true:=@Nat.le_of_ble_eq_true
theorem Bl:type_of% @List.set_append_right:=@List.set_append_right
theorem Bm:type_of% @PySem.wpAny_truthy_bool:=@PySem.wpAny_truthy_bool
theorem Bn:type_of% @Nat.pow_le_pow_right:=@Nat.pow_le_pow_right
theorem Bo:type_of% @List.pairwise_iff_getElem:=@List.pairwise_iff_getElem
theorem Bp:type_of% @PySem.Around.under_plainId:=@PySem.Around.under_plainId
theorem Bq:type_of% @PySem.sizeLine_eq:=@PySem.sizeLine_eq
theorem Br:type_of% @PySem.wpAny_seqItems:=@PySem.wpAny_seqItems
theorem Bs:type_of% @Bool.and_false:=@Bool.and_false
theorem Bt:type_of% @PySem.wpAny_forIn_list:=@PySem.wpAny_forIn_list
theorem Bu:type_of% @or_false:=@or_false
theorem Bv:type_of% @PySem.F.plainAttrs_list:=@PySem.F.plainAttrs_list
theorem Bw:type_of% @List.mem_filterMap:=@List.mem_filterMap
theorem By:type_of% @PySem.wpAny_call:=@PySem.wpAny_call
theorem B1:type_of% @List.pairwise_cons:=@List.pairwise_cons
theorem B2:type_of% @List.range_succ_eq_map:=@List.range_succ_eq_map
theorem B3:type_of% @PyProof.Rows.KeyOrd.kle_of_klt:=@PyProof.Rows.KeyOrd.kle_of_klt
theorem B4:type_of% @PySem.wpAny_setField:=@PySem.wpAny_setField
theorem B5:type_of% @PySem.Heap.size_push:=@PySem.Heap.size_push
theorem B6:type_of% @List.mem_append_left:=@List.mem_append_left
theorem B7:type_of% @List.length_drop:=@List.length_drop
theorem B8:type_of% @PySem.codeAny_call_builtin:=@PySem.codeAny_call_builtin
theorem B9:type_of% @List.mem_of_mem_drop:=@List.mem_of_mem_drop
theorem CA:type_of% @List.mem_of_mem_take:=@List.mem_of_mem_take
theorem CB:type_of% @PySem.Heap.size_update:=@PySem.Heap.size_update
theorem CC:type_of% @PyProof.Rows.KeyOrd.kle_trans:=@PyProof.Rows.KeyOrd.kle_trans
theorem CD:type_of% @decide_eq_decide:=@decide_eq_decide
theorem CF:type_of% @List.filter_cons:=@List.filter_cons
theorem CG:type_of% @Nat.succ_le_succ:=@Nat.succ_le_succ
theorem CH:type_of% @Option.bind_some:=@Option.bind_some
theorem CI:type_of% @Int.lt_irrefl:=@Int.lt_irrefl
theorem CJ:type_of% @if_true:=@if_true
theorem CK:type_of% @Prod.mk.inj:=@Prod.mk.inj
theorem CL:type_of% @Int.toNat_of_nonneg:=@Int.toNat_of_nonneg
theorem CM:type_of% @PySem.wpAny_execs_nil:=@PySem.wpAny_execs_nil
theorem CN:type_of% @PySem.Obj.data_mapFields:=@PySem.Obj.data_mapFields
theorem CP:type_of% @congrArg:=@congrArg
theorem CQ:type_of% @PySem.Calls.spliced_cons:=@PySem.Calls.spliced_cons
theorem CS:type_of% @Nat.sub_self:=@Nat.sub_self
theorem CT:type_of% @List.nodup_nil:=@List.nodup_nil
theorem CU:type_of% @PySem.wpAny_attempt:=@PySem.wpAny_attempt
theorem CV:type_of% @PySem.wpAny_standAt:=@PySem.wpAny_standAt
theorem CW:type_of% @PySem.plainId_quiet:=@PySem.plainId_quiet
set_option Elab.async false
set_option linter.all false
set_option maxRecDepth 100000
set_option maxHeartbeats 0
section
namespace EX
open PySem PySem.Spec PyProof.Rows
theorem qAC:entryFor table "proto.unchain" = some Builtin.«proto.unchain» := entryFor_of_fast (by kernel_rfl)
def Hnd (A:Around) (h:Heap):Prop := ∀ v,A.handled=some v -> ∃ ea oe vs,v=Value.ref ea∧h.get? ea=some oe∧oe.data = .fields vs∧vs[2]? = some .none
section
variable {prog:Program} {w:World} {A:Around} {E:Value->Shared->Prop} {s:Shared}
theorem qAr {e v:Value} {ea:Addr} {oe:Obj} {vs:Array Value} {Q:Value->Shared->Prop} (ho:s.heap.get? ea=some oe) (hd:oe.data = .fields vs) (h2:vs[2]? = some .none) (hq:Q .none s) :
  wpAny (model prog w) A (runValue (.builtin "proto.unchain" ⟨[e,.ref ea,v,.bool false],[]⟩)) Q E s:=by
 refine wpAny_runValue (BK qAC ?_);unfold Builtin.«proto.unchain»;dsimp only;refine AA (A6 ho hd h2 ?_);rw [AF (show (Value.none==Value.none)=true by rfl)]
 refine AA (AB (AB ?_));exact hq
theorem qA3 {α:Type} {e:Addr} {oe:Obj} {vs:Array Value} {Q:α->Shared->Prop} (hn:Hnd A s.heap) (he:s.heap.get? e=some oe) (hd:oe.data = .fields vs) (hsz:2 < vs.size) (hne:∀ ea,A.handled=some (.ref ea)->ea≠e)
  (h:∀ h' o',Heap.SameBut e s.heap h'->h'.get? e=some o'->o'.cls=oe.cls->E (.ref e) { s with heap:=h' }):wpAny (model prog w) A (raiseNew (.ref e):Sem α) Q E s:=by
 unfold raiseNew;refine AA (wpAny_handled ?_);cases hh:A.handled with
 |none=>exact AA (AB (wpAny_throw (h s.heap oe (.refl ..) he rfl)))
 |some v =>
  obtain ⟨ea,o,ws,rfl,ho,hdo,h2⟩:=hn v hh;have hne':=hne ea hh;have hb:(Value.ref ea != Value.ref e)=true:=by rw [bne_iff_ne];intro z;cases z;exact hne' rfl
  dsimp only;rw [AF hb];refine AA (An (qAr ho hdo h2 ?_));refine AA (B4 (x:=Value.ref ea) he hd hsz (wpAny_throw ?_));exact h _ _ (Heap.SameBut.update ..) (BG _ he (Obj.isFreed_of_fields (CN hd _))) (Obj.cls_mapFields ..)
theorem ZW {α:Type} {Q:α->Shared->Prop} (hn:Hnd A s.heap) (h:∀ h' e,(∀ b o,s.heap.get? b=some o->h'.get? b=some o)->(∃ o',h'.get? e=some o'∧o'.cls = .type "StopIteration")->E (.ref e) { s with heap:=h' }) :
  wpAny (model prog w) A (newExc (.type "StopIteration") [] >>= fun e=>(raiseNew e:Sem α)) Q E s:=by
 refine AA ?_;unfold newExc newTuple;refine AA (A1 ?_ (by size_fits))
 refine AA (m:=firstArgMember _ _) (Ao (a:=Value.none) (by first |rfl |(simp only [firstArgMember];rfl)) ?_)
 refine A1 ?_ (by size_fits)
 have up:∀ {b o},s.heap.get? b=some o->((s.heap.push { cls := .type "tuple",data := .seq ([]:List Value).toArray }).push { cls := .type "StopIteration",data := .fields (#[.ref s.heap.objs.size,.none,.none,.none,.bool false,.none]++ownMembersOf (.type "StopIteration") []) }).get? b=some o:=fun q=>AD _ (AD _ q);refine qA3 (oe:={ cls := .type "StopIteration",data := .fields (#[.ref s.heap.objs.size,.none,.none,.none,.bool false,.none]++ownMembersOf (.type "StopIteration") []) }) ?_ (AY _ rfl) rfl (by simp [ownMembersOf]) (fun ea hea => ?_) fun h' o' sb ho' hc=>h h' _ (fun b o q => ?_) ⟨o',ho',hc⟩
 ·intro v hv;obtain ⟨ea,oe,vs,e1,e2,e3⟩:=hn v hv;exact ⟨ea,oe,vs,e1,up e2,e3⟩
 ·obtain ⟨ea',oe,vs,e1,e2,e3⟩:=hn _ hea;cases e1;exact Ac (Nat.lt_trans (AT e2) (by simp))
 ·exact (sb.2 b (Ac (Nat.lt_trans (AT q) (by simp)))).trans (up q)
theorem list_end {it l:Addr} {i:Nat} {items} {Q:Option Value->Shared->Prop} (hn:Hnd A s.heap) (z1:s.heap.IsListIter it l i) (z2:s.heap.IsList l items) (z3:items[i]? = none) (z4:∀ v,A.handled=some v->v ≠ .ref it)
  (hQ:∀ h',(∀ b o,b≠it->s.heap.get? b=some o->h'.get? b=some o)->Q none { s with heap:=h' }):wpAny (model prog w) A (pyNext (.ref it)) Q E s:=by
 obtain ⟨ob,g1,g2,g3⟩:=id z1;obtain ⟨ol,g4,_,nl,g5⟩:=z2;unfold pyNext;refine AA (CU (BM (name:=Str.ofString "__next__") z1.typeIs slot_listiter_next (Be slot_listiter_next z1.typeIs entry_listiter_next ?_ (args_listiter_next _))));change wpAny _ A.in1 (field (Value.ref it) 0 >>= _) _ _ s;refine AA (A6 g1 g3 (x:=Value.ref l) rfl ?_);change wpAny _ A.in1 (if (Value.ref l==Value.none)=true then _ else _) _ _ s;rw [AK (fun z:(Value.ref l==Value.none)=true=>BW z)];change wpAny _ A.in1 (field (Value.ref it) 1 >>= _) _ _ s;refine AA (A6 g1 g3 (x:=Value.int i 0) rfl ?_);change wpAny _ A.in1 (seqItems? (Value.ref l) >>= _) _ _ s;refine AA (Br g4 g5 ?_);simp only [BN,z3];refine AA (wpAny_rule (AA (B4 g1 g3 (by simp) ?_)))
 refine ZW (A:=A.in1) ?_ fun h' e k ht => ?_
 ·intro v hv;obtain ⟨ea,oe,vs,e1,e2,e3⟩:=hn v hv;refine ⟨ea,oe,vs,e1,?_,e3⟩;have hne:ea≠it:=fun z=>z4 v hv (by rw [e1,z])
  exact (Ak _ _ (Ne.symm hne)).trans e2
 ·refine AA (BL (T := "StopIteration") (b:=true) ht isSubtype_stop ?_);exact AB (hQ _ fun b o' hb q=>k b o' ((Ak _ _ (Ne.symm hb)).trans q))
theorem tuple_end {it l:Addr} {i:Nat} {items} {Q:Option Value->Shared->Prop} (hn:Hnd A s.heap) (z1:s.heap.IsTupleIter it l i) (z2:s.heap.IsTuple l items) (z3:items[i]? = none) (z4:∀ v,A.handled=some v->v ≠ .ref it)
  (hQ:∀ h',(∀ b o,b≠it->s.heap.get? b=some o->h'.get? b=some o)->Q none { s with heap:=h' }):wpAny (model prog w) A (pyNext (.ref it)) Q E s:=by
 obtain ⟨ob,g1,g2,g3⟩:=id z1;obtain ⟨ol,g4,_,nl,g5⟩:=z2;unfold pyNext;refine AA (CU (BM (name:=Str.ofString "__next__") z1.typeIs F.slot_tuple_iterator_next (Be F.slot_tuple_iterator_next z1.typeIs F.entry_tuple_iterator_next ?_ (F.args_tuple_iterator_next_1 _))));change wpAny _ A.in1 (field (Value.ref it) 0 >>= _) _ _ s;refine AA (A6 g1 g3 (x:=Value.ref l) rfl ?_);change wpAny _ A.in1 (if (Value.ref l==Value.none)=true then _ else _) _ _ s;rw [AK (fun z:(Value.ref l==Value.none)=true=>BW z)];change wpAny _ A.in1 (field (Value.ref it) 1 >>= _) _ _ s;refine AA (A6 g1 g3 (x:=Value.int i 0) rfl ?_);change wpAny _ A.in1 (seqItems? (Value.ref l) >>= _) _ _ s;refine AA (Br g4 g5 ?_);simp only [BN,z3];refine AA (wpAny_rule (AA (B4 g1 g3 (by simp) ?_)))
 refine ZW (A:=A.in1) ?_ fun h' e k ht => ?_
 ·intro v hv;obtain ⟨ea,oe,vs,e1,e2,e3⟩:=hn v hv;refine ⟨ea,oe,vs,e1,?_,e3⟩;have hne:ea≠it:=fun z=>z4 v hv (by rw [e1,z])
  exact (Ak _ _ (Ne.symm hne)).trans e2
 ·refine AA (BL (T := "StopIteration") (b:=true) ht isSubtype_stop ?_);exact AB (hQ _ fun b o' hb q=>k b o' ((Ak _ _ (Ne.symm hb)).trans q))
theorem range_end {it:Addr} {x left step:Int} {Q:Option Value->Shared->Prop} (hn:Hnd A s.heap) (z1:IsRangeIter s.heap it x left step) (z2:left≤0)
  (hQ:∀ h',(∀ b o,s.heap.get? b=some o->h'.get? b=some o)->Q none { s with heap:=h' }):wpAny (model prog w) A (pyNext (.ref it)) Q E s:=by have z0:s.TypeIs (.ref it) "range_iterator" := ⟨_,z1,rfl⟩;unfold pyNext;refine AA (CU (BM (name:=Str.ofString "__next__") z0 F.slot_range_iterator_next (Be F.slot_range_iterator_next z0 F.entry_range_iterator_next ?_ (F.args_range_iterator_next_1 _))));change wpAny _ A.in1 (field (Value.ref it) 0 >>= _) _ _ s;refine AA (A6 z1 rfl (x:=rawInt x) rfl ?_);change wpAny _ A.in1 (field (Value.ref it) 1 >>= _) _ _ s;refine AA (A6 z1 rfl (x:=rawInt left) rfl ?_);change wpAny _ A.in1 (field (Value.ref it) 2 >>= _) _ _ s;refine AA (A6 z1 rfl (x:=rawInt step) rfl ?_);change wpAny _ A.in1 (if left≤0 then _ else _) _ _ s;rw [AF z2];refine AA (wpAny_rule (AA ?_));refine ZW (A:=A.in1) hn fun h' e k ht => ?_;refine AA (BL (T := "StopIteration") (b:=true) ht isSubtype_stop ?_);exact AB (hQ _ k)
end
end EX
end
section
namespace L2
open PySem PySem.Spec PyProof.Rows
abbrev Key:=Sum Int Str
def qGa:Key->Value->Bool
 | .inl k,v=>Value.isInt k v
 | .inr x,v=>Value.isStrOf x v
def qJ2 (w:World):Key->Int
 | .inl k=>hashInt k
 | .inr x=>hashStr w x
theorem Qh:∀ {k:Key} {v:Value},qGa k v=true->(∃ i t,k=Sum.inl i∧v=Value.int i t)∨(∃ x t,k=Sum.inr x∧v=Value.str x t)
 | .inl i,v,h=>by obtain ⟨t,e⟩:=Value.isInt_shape (k:=i) (v:=v) h;exact .inl ⟨i,t,rfl,e⟩
 | .inr x,v,h=>by obtain ⟨t,e⟩:=Value.isStrOf_shape (x:=x) (v:=v) h;exact .inr ⟨x,t,rfl,e⟩
theorem qIc (a b:Int):decide ((Sum.inl a:Key)=Sum.inl b)=(a==b):=by
 by_cases e:a=b
 ·subst e;simp
 ·have h:¬ (Sum.inl a:Key)=Sum.inl b:=fun q=>e (Sum.inl.inj q);rw [Ae h];exact (AW.mpr e).symm
theorem qGn (a b:Str):decide ((Sum.inr a:Key)=Sum.inr b)=decide (a=b):=by
 by_cases e:a=b
 ·subst e;simp
 ·have h:¬ (Sum.inr a:Key)=Sum.inr b:=fun q=>e (Sum.inr.inj q);rw [Ae h,Ae e]
theorem qHc (a:Int) (b:Str):decide ((Sum.inl a:Key)=Sum.inr b)=false:=Ae (fun q=>nomatch q)
theorem qH1 (a:Str) (b:Int):decide ((Sum.inr a:Key)=Sum.inl b)=false:=Ae (fun q=>nomatch q)
def jV (prog:Program) (w:World):PySem.KeyKind prog w Key where
 is:=qGa
 hash:=qJ2 w
 inj:=fun v a b ha hb=>by
  rcases Qh ha with ⟨i,t,rfl,rfl⟩ |⟨x,t,rfl,rfl⟩
  ·rcases Qh hb with ⟨j,u,rfl,e⟩ |⟨y,u,rfl,e⟩
   ·injection e with e1 _;rw [e1]
   ·exact nomatch e
  ·rcases Qh hb with ⟨j,u,rfl,e⟩ |⟨y,u,rfl,e⟩
   ·exact nomatch e
   ·injection e with e1 _;rw [e1]
 byValue:=fun k v h=>by rcases Qh h with ⟨i,t,rfl,rfl⟩ |⟨x,t,rfl,rfl⟩ <;> rfl
 pyHash:=fun hv h=>by
  rcases Qh hv with ⟨i,t,rfl,rfl⟩ |⟨x,t,rfl,rfl⟩
  ·exact wpAny_pyHash_int h
  ·exact wpAny_pyHash_str h
 eqBool:=fun hu hv h=>by
  rcases Qh hu with ⟨i,t,rfl,rfl⟩ |⟨x,t,rfl,rfl⟩
  ·rcases Qh hv with ⟨j,u,rfl,rfl⟩ |⟨y,u,rfl,rfl⟩
   ·rw [qIc] at h;exact wpAny_eqBool_int h
   ·rw [qHc] at h;exact SeqAt.EqAt.int_str i t y u _ _ _ _ h
  ·rcases Qh hv with ⟨j,u,rfl,rfl⟩ |⟨y,u,rfl,rfl⟩
   ·rw [qH1] at h;exact SeqAt.EqAt.str_int x t j u _ _ _ _ h
   ·rw [qGn] at h;exact wpAny_eqBool_str h
 «strs» := fun k x t v h=>by
  rcases Qh h with ⟨i,u,rfl,e⟩ |⟨y,u,rfl,e⟩
  ·exact nomatch e
  ·injection e with e1 _;subst e1;cases v <;> rfl
end L2
namespace L2
open PySem PySem.Spec PyProof.Rows
inductive V where
 |non |bl (b:Bool) |int (i:Int) |str (x:Str) |byt (b:Array UInt8) |flt (b:UInt64) |ref (a:Addr) |ty (n:String)
 deriving DecidableEq
def RelV:V->Value->Prop
 | .non,u=>u=Value.none
 | .bl b,u=>u=Value.bool b
 | .int i,u => ∃ t,u=Value.int i t
 | .str x,u => ∃ t,u=Value.str x t
 | .byt b,u => ∃ t,u=Value.bytes b t
 | .flt b,u => ∃ t,u=Value.float b t
 | .ref a,u=>u=Value.ref a
 | .ty n,u=>u=Value.type n
abbrev Vals:List V->List Value->Prop:=Paired RelV
theorem Vals.length {xs:List V} {us:List Value} (r:Vals xs us):xs.length=us.length:=Paired.length r
theorem Vals.get:∀ {xs:List V} {us:List Value} {i:Nat} {x:V},Vals xs us->xs[i]? = some x -> ∃ u,us[i]? = some u∧RelV x u
 |_,_,_,_,.nil,e=>by simp at e
 |_,_,0,_,.cons r _,e=>by simp at e;subst e;exact ⟨_,rfl,r⟩
 |_,_,i + 1,x,.cons _ t,e=>by
  obtain ⟨u,h1,h2⟩:=Vals.get (i:=i) (x:=x) t (by simpa using e)
  exact ⟨u,by simpa using h1,h2⟩
theorem Vals.set {x:V} {u:Value} (r:RelV x u):∀ {xs:List V} {us:List Value} (i:Nat),Vals xs us->Vals (xs.set i x) (us.set i u)
 |_,_,_,.nil => .nil
 |_,_,0,.cons _ t => .cons r t
 |_,_,i + 1,.cons q t => .cons q (Vals.set r i t)
theorem Vals.append:∀ {xs ys:List V} {us ws:List Value},Vals xs us->Vals ys ws->Vals (xs++ys) (us++ws)
 |_,_,_,_,.nil,s=>s
 |_,_,_,_,.cons r t,s => .cons r (Vals.append t s)
theorem Vals.take:∀ {xs:List V} {us:List Value} (n:Nat),Vals xs us->Vals (xs.take n) (us.take n)
 |_,_,0,_ => .nil
 |_,_,_ + 1,.nil => .nil
 |_,_,n + 1,.cons r t => .cons r (Vals.take n t)
theorem Vals.drop:∀ {xs:List V} {us:List Value} (n:Nat),Vals xs us->Vals (xs.drop n) (us.drop n)
 |_,_,0,r=>r
 |_,_,_ + 1,.nil => .nil
 |_,_,n + 1,.cons _ t=>Vals.drop n t
def qJD:Option V->Option Value->Prop
 |some v,some u=>RelV v u
 |none,none=>True
 |_,_=>False
def KV {κ:Type}:List (κ×V)->List (κ×Value)->Prop:=Paired fun (p:κ×V) (q:κ×Value)=>p.1=q.1∧RelV p.2 q.2
def kV:Key->V
 | .inl i => .int i
 | .inr x => .str x
inductive HO where
 /-- a list -/
 |lst (xs:List V)
 /-- a tuple (never changes) -/
 |tup (xs:List V)
 /-- a dict whose keys are ints and texts;one whose keys are tuples of ints and texts (the empty one is both) -/
 |dK (kvs:List (Key×V)) |dT (kvs:List (List Key×V))
 /-- a set of ints: its members,its size -/
 |set (S:Int->Bool) (n:Nat)
 /-- an instance of the class at C,its dict at dx,its attributes -/
 |ins (C dx:Addr) (fs:List (Str×V))
 /-- the dict of the instance at x -/
 |own (x:Addr)
 /-- the dict of an exception -/
 |xd (fs:List (Str×V))
 /-- a bound method,f of x -/
 |met (f x:Addr)
 /-- a range object lo,lo + 1,.. below hi -/
 |rng (lo hi:Int)
 /-- a thing that is known to the object (the script;a dict while a loop walks it): read,never written while it is so -/
 |frz (o:Obj) (u:HO)
 /-- a code object's table -/
 |tbl (ps:Array Value)
 /-- any other thing,by what is true of its one object (a def of one's own: SetO a S n:=HO.ext fun h => ..) -/
 |ext (φ:Heap->Prop)
abbrev Hp:=Addr->Option HO
def upd (H:Hp) (a:Addr) (o:HO):Hp:=fun b=>if b=a then some o else H b
theorem Qj {H:Hp} {a:Addr} {o:HO}:upd H a o a=some o:=by unfold upd;rw [AF rfl]
theorem qW {H:Hp} {a b:Addr} {o:HO} (h:b≠a):upd H a o b=H b:=by unfold upd;rw [AK h]
theorem qV {H:Hp} {a b:Addr} {o:HO} (h:H a=some o) (h':H b=none):a≠b:=by intro e;subst e;rw [h] at h';cases h'
section
variable (P:Program) (w:World)
def ObjOk (H:Hp) (h:Heap) (a:Addr):HO->Prop
 | .lst xs=>xs.length≤sizeLine ∧ ∃ (its:List Value) (n:Nat),Vals xs its∧h.get? a=some { cls := .type "list",data := .seq its.toArray n }
 | .tup xs=>xs.length≤sizeLine ∧ ∃ its:List Value,Vals xs its∧IsTup h a its.toArray
 | .dK kvs=>kvs.length≤sizeLine∧(a==sysModules)=false ∧ ∃ vs,KV kvs vs∧h.DictOf (jV P w) a vs
 | .dT kvs=>kvs.length≤sizeLine∧(a==sysModules)=false ∧ ∃ xs:List (List Key×Addr×Value),
   Paired (fun (p:List Key×V) (q:List Key×Addr×Value)=>p.1=q.1∧H q.2.1=some (.tup (p.1.map kV))∧RelV p.2 q.2.2) kvs xs ∧
   ∃ o es ep,h.get? a=some o∧o.ExactDict∧o.data = .dict es ep∧es.toList=xs.map (entryOfKey (tupleKind (jV P w)))∧(xs.map (·.1)).Nodup
 | .set S n=>h.SetOf (intKind P w) a S n
 | .ins C dx fs=>H dx=some (.own a)∧fs.length≤1000∧dx≠a∧h.get? a=some (W.instObj C dx) ∧
   ∃ mA,h.Ns1 dx mA∧(∀ f,qJD (fs.lookup f) (mA f))∧PySem.Within mA (fs.map (·.1))
 | .own _ => ∃ o,h.get? a=some o
 | .xd fs => ∃ mA,h.Ns1 a mA ∧ ∀ f,qJD (fs.lookup f) (mA f)
 | .rng lo hi => ∃ t u v,h.get? a=some { cls := .type "range",data := .fields #[.int lo t,.int hi u,.int 1 v] }
 | .frz o u=>h.get? a=some o∧ObjOk H h a u
 | .tbl ps=>h.get? a=some { cls := .none,data := .fields ps }
 | .met f x=>h.get? a=some (W.methodObj (.ref f) (.ref x))
 | .ext φ=>φ h∧(∃ o,h.get? a=some o) ∧ ∀ h1 h2:Heap,φ h1->(∀ o,h1.get? a=some o->h2.get? a=some o)->φ h2
def HOk (H:Hp) (h:Heap):Prop := ∀ a o,H a=some o->ObjOk P w H h a o
end
section
variable {P:Program} {w:World} {H H':Hp} {h h':Heap} {a:Addr} {o:HO}
theorem ObjOk.lt (x:ObjOk P w H h a o):a < h.objs.size:=by
 cases o with
 |lst xs=>obtain ⟨_,_,_,_,e⟩:=x;exact AT e
 |tup xs=>obtain ⟨_,_,_,p⟩:=x;exact p.lt
 |dK kvs=>obtain ⟨_,_,_,_,o,_,_,e,_⟩:=x;exact AT e
 |dT kvs=>obtain ⟨_,_,_,_,o,_,_,e,_⟩:=x;exact AT e
 |set S n=>obtain ⟨o,_,_,_,e,_⟩:=x;exact AT e
 |ins C dx fs=>obtain ⟨_,_,_,e,_⟩:=x;exact AT e
 |own y=>obtain ⟨_,e⟩:=x;exact AT e
 |xd fs=>obtain ⟨_,⟨_,_,_,e,_⟩,_⟩:=x;exact AT e
 |rng lo hi=>obtain ⟨_,_,_,e⟩:=x;exact AT e
 |frz ob u=>obtain ⟨e,_⟩:=x;exact AT e
 |tbl ps=>exact AT (show h.get? a=some _ from x)
 |met f y=>exact AT (show h.get? a=some _ from x)
 |ext φ=>obtain ⟨_,⟨_,e⟩,_⟩:=x;exact AT e
theorem Paired.mapP {α β:Type} {F G:α->β->Prop}:∀ {l₁:List α} {l₂:List β},Paired F l₁ l₂->(∀ a b,F a b->G a b)->Paired G l₁ l₂
 |_,_,.nil,_ => .nil
 |_,_,.cons r t,f => .cons (f _ _ r) (Paired.mapP t f)
theorem ObjOk.stay (x:ObjOk P w H h a o) (k:∀ b u,(b=a∨H b=some (.own a))->h.get? b=some u->h'.get? b=some u)
  (ho:∀ b,H b=some (.own a)->H' b=some (.own a)) (ht:∀ b xs,H b=some (.tup xs)->H' b=some (.tup xs)):ObjOk P w H' h' a o:=by
 induction o with
 |lst xs=>obtain ⟨z,its,n,r,e⟩:=x;exact ⟨z,its,n,r,k _ _ (.inl rfl) e⟩
 |tup xs=>obtain ⟨z,its,r,ob,e,c⟩:=x;exact ⟨z,its,r,ob,k _ _ (.inl rfl) e,c⟩
 |dK kvs=>obtain ⟨z,y,vs,r,ob,es,ep,e,c⟩:=x;exact ⟨z,y,vs,r,ob,es,ep,k _ _ (.inl rfl) e,c⟩
 |dT kvs =>obtain ⟨z,y,xs,r,ob,es,ep,e,c⟩:=x;exact ⟨z,y,xs,Paired.mapP r fun p q z=>⟨z.1,ht _ _ z.2.1,z.2.2⟩,ob,es,ep,k _ _ (.inl rfl) e,c⟩
 |set S n=>obtain ⟨ob,es,ep,t,e,c⟩:=x;exact ⟨ob,es,ep,t,k _ _ (.inl rfl) e,c⟩
 |ins C dx fs =>obtain ⟨d,z,ne,e,mA,⟨od,es,ep,e2,c⟩,r⟩:=x;exact ⟨ho _ d,z,ne,k _ _ (.inl rfl) e,mA,⟨od,es,ep,k _ _ (.inr d) e2,c⟩,r⟩
 |own y=>obtain ⟨ob,e⟩:=x;exact ⟨ob,k _ _ (.inl rfl) e⟩
 |xd fs=>obtain ⟨mA,⟨od,es,ep,e,c⟩,r⟩:=x;exact ⟨mA,⟨od,es,ep,k _ _ (.inl rfl) e,c⟩,r⟩
 |rng lo hi=>obtain ⟨t,u,v,e⟩:=x;exact ⟨t,u,v,k _ _ (.inl rfl) e⟩
 |frz ob u ih=>obtain ⟨e,q⟩:=x;exact ⟨k _ _ (.inl rfl) e,ih q⟩
 |tbl ps =>have e:h.get? a=some { cls := .none,data := .fields ps }:=x;show h'.get? a=some { cls := .none,data := .fields ps };exact k a _ (.inl rfl) e
 |met f y =>have e:h.get? a=some (W.methodObj (.ref f) (.ref y)):=x;show h'.get? a=some (W.methodObj (.ref f) (.ref y));exact k a _ (.inl rfl) e
 |ext φ=>obtain ⟨p,⟨o,e⟩,st⟩:=x;exact ⟨st _ _ p fun o q=>k _ _ (.inl rfl) q,⟨o,k _ _ (.inl rfl) e⟩,st⟩
theorem HOk.lt (x:HOk P w H h) (e:H a=some o):a < h.objs.size:=(x a o e).lt
theorem HOk.fresh (x:HOk P w H h) (e:h.objs.size≤a):H a=none:=by
 cases q:H a with
 |none=>rfl
 |some u=>exact absurd (Al (x.lt q) e) (BI _)
theorem HOk.kept (x:HOk P w H h) (k:∀ b u,h.get? b=some u->h'.get? b=some u):HOk P w H h':=fun a o e =>
 (x a o e).stay (fun b u _ q=>k b u q) (fun _ q=>q) fun _ _ q=>q
theorem HOk.laid (x:HOk P w H h) (k:∀ b u,h.get? b=some u->h'.get? b=some u) (hp:h.objs.size≤a) (new:ObjOk P w (upd H a o) h' a o):HOk P w (upd H a o) h':=fun b u e=>by
 have hn:=x.fresh hp;by_cases hb:b=a
 ·subst hb;rw [Qj] at e;cases e;exact new
 ·rw [qW hb] at e;exact (x b u e).stay (fun c v _ q=>k c v q) (fun c q=>by rw [qW (qV q hn)];exact q) fun c xs q=>by rw [qW (qV q hn)];exact q
end
def Rd (H:Hp) (a:Addr) (u:HO):Prop:=H a=some u ∨ ∃ o,H a=some (.frz o u)
theorem Rd.ok {P:Program} {w:World} {H:Hp} {h:Heap} {a:Addr} {u:HO} (r:Rd H a u) (x:HOk P w H h):ObjOk P w H h a u:=by
 rcases r with r |⟨o,r⟩
 ·exact x a u r
 ·obtain ⟨_,q⟩:=x a _ r;exact q
def Mut:Option HO->Prop
 |some (.lst _)=>True
 |some (.dK _)=>True
 |some (.dT _)=>True
 |some (.set _ _)=>True
 |some (.ins _ _ _)=>True
 |some (.ext _)=>True
 |_=>False
section
variable {P:Program} {w:World} {H:Hp} {h h':Heap} {x e:Addr} {o':HO}
theorem HOk.write (ok:HOk P w H h) (mu:Mut (H x)) (he:e=x∨H e=some (.own x)) (k:∀ b u,b≠e->h.get? b=some u->h'.get? b=some u) (heo:∃ u,h'.get? e=some u)
  (new:ObjOk P w (upd H x o') h' x o'):HOk P w (upd H x o') h':=fun b u q=>by
 have nown:∀ c y,H c=some (.own y)->c≠x:=fun c y r z=>by subst z;rw [r] at mu;exact mu
 have ntup:∀ c xs,H c=some (.tup xs)->c≠x:=fun c xs r z=>by subst z;rw [r] at mu;exact mu
 by_cases hb:b=x
 ·subst hb;rw [Qj] at q;cases q;exact new
 ·rw [qW hb] at q;by_cases hbe:b=e
  ·have q':H b=some (.own x):=by
    rcases he with z |z
    ·exact absurd (hbe.trans z) hb
    ·rw [hbe];exact z
   rw [q] at q';cases q';obtain ⟨v,hv⟩:=heo;exact ⟨v,by rw [hbe];exact hv⟩
  ·refine (ok b u q).stay (fun c v hc r=>k c v ?_ r) (fun c r=>by rw [qW (nown c b r)];exact r) fun c xs r=>by rw [qW (ntup c xs r)];exact r
   rcases hc with rfl |hc
   ·exact hbe
   ·rintro rfl
    rcases he with z |z
    ·exact nown c b hc z
    ·rw [hc] at z;cases z;exact hb rfl
end
structure Un (fs ex:List Addr) (H H':Hp) (h h':Heap):Prop where
 keep:∀ b o,h.get? b=some o->H b=none->b ∉ fs->b ∉ ex->h'.get? b=some o
 slot:∀ b o,h.get? b=some o->H b=none->b∈fs->b ∉ ex -> ∃ sl,h'.get? b=some { o with slots:=sl }
 free:∀ b o,h.get? b=some o->H b=none->b ∉ ex->H' b=none
 there:∀ b o,h.get? b=some o->b ∉ ex -> ∃ o',h'.get? b=some o'
 tups:∀ b xs,H b=some (.tup xs)->H' b=some (.tup xs)
 frzs:∀ b o u,H b=some (.frz o u)->H' b=some (.frz o u)
 tbls:∀ b ps,H b=some (.tbl ps) -> ∃ more,H' b=some (.tbl (ps++more))
section
variable {fs fs' ex ex':List Addr} {H H1 H2:Hp} {h h1 h2 h':Heap} {a x e:Addr} {o:HO}
theorem Un.any (u:Un fs ex H H1 h h1) {b:Addr} {ob:Obj} (q:h.get? b=some ob) (n:H b=none) (hx:b ∉ ex):∃ sl,h1.get? b=some { ob with slots:=sl }:=by
 by_cases hb:b∈fs
 ·exact u.slot b ob q n hb hx
 ·exact ⟨ob.slots,u.keep b ob q n hb hx⟩
theorem Un.kept (k:∀ b u,h.get? b=some u->h'.get? b=some u):Un fs ex H H h h' :=
 ⟨fun b ob q _ _ _=>k b ob q,fun b ob q _ _ _=>⟨ob.slots,k b ob q⟩,fun _ _ _ n _=>n,fun b ob q _=>⟨ob,k b ob q⟩,fun _ _ q=>q,fun _ _ _ q=>q,fun _ ps q=>⟨#[],by rw [q];simp⟩⟩
theorem Un.refl:Un fs ex H H h h:=Un.kept fun _ _ q=>q
theorem Un.laid (k:∀ b u,h.get? b=some u->h'.get? b=some u) (hp:h.objs.size≤a) (hn:H a=none):Un fs ex H (upd H a o) h h' where
 keep:=fun b u q _ _ _=>k b u q
 slot:=fun b u q _ _ _=>⟨u.slots,k b u q⟩
 free:=fun b u q n _=>by rw [qW (Ac (Al (AT q) hp))];exact n
 there:=fun b u q _=>⟨u,k b u q⟩
 tups:=fun b xs q=>by rw [qW (qV q hn)];exact q
 frzs:=fun b u xs q=>by rw [qW (qV q hn)];exact q
 tbls:=fun b ps q=>⟨#[],by rw [qW (qV q hn),q];simp⟩
theorem Un.write (mu:Mut (H x)) (he:e=x∨H e=some (.own x)) (k:∀ b u,b≠e->h.get? b=some u->h'.get? b=some u) (heo:∃ u,h'.get? e=some u):Un fs ex H (upd H x o) h h':=by
 have hx:∀ b,H b=none->b≠x:=fun b n z=>by subst z;rw [n] at mu;exact mu
 have hb:∀ b,H b=none->b≠e:=fun b n z=>by
  subst z;rcases he with r |r
  ·exact hx b n r
  ·rw [n] at r;cases r
 have hm:∀ b u,H b=some u -> ¬ Mut (some u)->b≠x:=fun b u q nm z=>by subst z;rw [q] at mu;exact nm mu
 refine ⟨fun b u q n _ _=>k b u (hb b n) q,fun b u q n _ _=>⟨u.slots,k b u (hb b n) q⟩,fun b u q n _=>by rw [qW (hx b n)];exact n,fun b u q _ => ?_,
  fun b xs q=>by rw [qW (hm b _ q fun z=>z)];exact q,fun b u xs q=>by rw [qW (hm b _ q fun z=>z)];exact q,fun b ps q=>⟨#[],by rw [qW (hm b _ q fun z=>z),q];simp⟩⟩
 by_cases hbe:b=e
 ·subst hbe;exact heo
 ·exact ⟨u,k b u hbe q⟩
end
def trk (h:Heap) (H:Hp):List Addr:=(List.range h.objs.size).filter fun a=>(H a).isSome
def jp (h:Heap) (H:Hp):Heap:=W.hideAll h (trk h H)
theorem qCZ (h:Heap) (H:Hp):(jp h H).objs.size=h.objs.size:=W.hideAll_size _ _
theorem qCn {h:Heap} {H:Hp} {b:Addr} {o:Obj} (e:h.get? b=some o) (n:H b=none):(jp h H).get? b=some o :=
 W.hideAll_get _ e fun hm=>by have q:(H b).isSome=true:=(List.mem_filter.mp hm).2;rw [n] at q;simp at q
theorem qE6 {h:Heap} {H:Hp} {b:Addr} {o:Obj} (e:(jp h H).get? b=some o):h.get? b=some o∧H b=none:=by
 have e':h.get? b=some o:=W.of_hideAll (trk h H) e;refine ⟨e',?_⟩;cases q:H b with
 |none=>rfl
 |some x =>
  have hm:b∈trk h H:=List.mem_filter.mpr ⟨BC.mpr (AT e'),by simp [q]⟩
  have z:(jp h H).get? b=none:=W.hideAll_none (trk h H) hm;rw [z] at e;cases e
end L2
namespace L2
open PySem PySem.Spec PyProof.Rows
structure Mod (K:W.Frag) (mg:Str->Option Value) (base:Heap):Prop where
 kin:K.In base
 glob:base.Ns mainGlobals mg
 blt:∃ mb,base.Ns builtinsNs mb ∧ ∀ x:Str,x ≠ "__name__" -> mb x=bootBuiltins x
 nolimit:base.NoLimit
structure Cx where
 prog:Program
 w:World
 K:W.Frag
 mg:Str->Option Value
 base:Heap
 A:Around
 N:List Str
 s₀:Shared
 H₀:Hp
 env:Env
 outer:List Env
 stack:List Env
 ex:List Addr
 fn:Str->Bool
 calm:Bool
 pn:List (Addr×Obj)
 xe:Value->Shared->Prop
def frs (l:List Env):List Addr:=l.filterMap (·.frame)
abbrev Cx.fs (X:Cx):List Addr:=frs X.outer
def Vis (sc:Scope) (x:Str):Prop:=sc.names.lookup x=some .local∨sc.names.lookup x=some .cell∨sc.names.lookup x=some .free
def Loc (sc:Scope) (x:Str):Prop:=sc.names.lookup x=some .local∨sc.names.lookup x=some .cell
def qI7 (env:Env) (h:Heap) (m:Str->Option Value) (x:Str) (u:Value):Prop :=
 (env.kindOf x=some .local∧m x=some u)∨((env.kindOf x=some .cell∨env.kindOf x=some .free) ∧ ∃ c,env.cells.lookup x=some c∧h.IsCell c (some u))
structure Cx.Ok (X:Cx):Prop where
 mod:Mod X.K X.mg X.base
 kind:X.env.scope.kind = .function
 glob:X.env.globals=mainGlobals
 blt:X.env.builtins=builtinsNs
 above:X.s₀.heap.objs.size≤X.env.locals
 inj:∀ x y c,X.env.cells.lookup x=some c->X.env.cells.lookup y=some c->x=y
 has:∀ x,(X.env.kindOf x=some .cell∨X.env.kindOf x=some .free) -> ∃ c,X.env.cells.lookup x=some c
 cab:∀ x c,X.fn x=true->X.env.cells.lookup x=some c->X.s₀.heap.objs.size≤c
 hd:X.calm=true->X.A.handled=none
 frames:X.A.frames=some X.stack
 stk:X.stack=X.outer∨(X.stack=X.env::X.outer∧X.env.frame=some X.env.locals)
 exf:∀ b∈X.ex,b≠X.env.locals ∧ ∀ x c,X.env.cells.lookup x=some c->c≠b
 bs:∀ b o,X.base.get? b=some o->X.s₀.heap.get? b=some o∧X.H₀ b=none
 bsz:X.base.objs.size≤X.s₀.heap.objs.size
 noex:∀ b o,X.base.get? b=some o->b ∉ X.ex
 exfs:∀ b∈X.ex,b ∉ X.fs
 funs:X.s₀.heap.FunFrames X.base X.outer
 frf:∀ b∈X.fs,X.H₀ b=none
def HndH (A:Around) (H:Hp):Prop := ∀ v,A.handled=some v -> ∃ ea oe u vs,v=Value.ref ea∧H ea=some (.frz oe u)∧oe.data = .fields vs∧vs[2]? = some .none
theorem HndH.none {A:Around} {H:Hp} (h:A.handled=none):HndH A H:=fun v e=>by rw [h] at e;cases e
structure Inv (X:Cx) (pins:List (Addr×Obj)) (σ:List (Option V)) (H:Hp) (s:Shared):Prop where
 ok:X.Ok
 os:s.os=X.s₀.os
 bare:AllBare s.gens
 base:Un X.fs X.ex X.H₀ H X.s₀.heap s.heap
 loc:∃ m,s.heap.Ns X.env.locals m ∧ ∀ (i:Nat) (x:Str) (v:V),X.N[i]? = some x->σ[i]? = some (some v)->Vis X.env.scope x -> ∃ u,RelV v u∧qI7 X.env s.heap m x u
 cell:∀ x c,X.env.cells.lookup x=some c -> ∃ v,s.heap.IsCell c v
 free:H X.env.locals=none
 freeC:∀ x c,X.env.cells.lookup x=some c->H c=none
 pin:∀ p∈X.pn++pins,s.heap.get? p.1=some p.2∧H p.1=none∧p.1≠X.env.locals∧p.1 ∉ X.fs ∧ ∀ v,p.2.data ≠ .cell v
 hok:HOk X.prog X.w H s.heap
 len:σ.length=X.N.length
 hnd:HndH X.A H
section
variable {X:Cx} {pins:List (Addr×Obj)} {σ:List (Option V)} {H H':Hp} {s:Shared} {h':Heap}
theorem Cx.Ok.nofr (ok:X.Ok) {b:Addr} {o:Obj} (e:X.base.get? b=some o):b ∉ X.fs:=fun hb=>by
 have:=(ok.funs.mem hb).1
 rw [e] at this;cases this
theorem Inv.bs (I:Inv X pins σ H s):∀ b o,X.base.get? b=some o->s.heap.get? b=some o∧H b=none:=fun b o e =>
 ⟨I.base.keep b o (I.ok.bs b o e).1 (I.ok.bs b o e).2 (I.ok.nofr e) (I.ok.noex b o e),I.base.free b o (I.ok.bs b o e).1 (I.ok.bs b o e).2 (I.ok.noex b o e)⟩
theorem Inv.bk (I:Inv X pins σ H s):∀ b o,X.base.get? b=some o->s.heap.get? b=some o:=fun b o e=>(I.bs b o e).1
theorem Inv.mod (I:Inv X pins σ H s):Mod X.K X.mg X.base:=I.ok.mod
theorem Inv.kIn (I:Inv X pins σ H s):X.K.In s.heap:=I.ok.mod.kin.keeps I.bk
theorem Inv.lt (I:Inv X pins σ H s):X.env.locals < s.heap.objs.size:=let ⟨_,hn,_⟩:=I.loc;hn.lt
theorem Inv.sz (I:Inv X pins σ H s):X.s₀.heap.objs.size≤s.heap.objs.size:=Aa I.ok.above (Nat.le_of_lt I.lt)
theorem Inv.nofs (I:Inv X pins σ H s) {a:Addr} (h:s.heap.objs.size≤a):a ∉ X.fs:=fun hb=>by obtain ⟨_,o,ho,_⟩:=I.ok.funs.mem hb;exact absurd (Al (AT ho) (Aa I.sz h)) (BI _)
theorem Inv.cne (I:Inv X pins σ H s):∀ x c,X.env.cells.lookup x=some c->c≠X.env.locals:=fun x c e z=>by obtain ⟨v,o,ho,hd⟩:=I.cell x c e;obtain ⟨m,⟨o',es,ep,ho',hd',_⟩,_⟩:=I.loc;rw [z,ho'] at ho;cases ho;rw [hd'] at hd;cases hd
theorem Inv.funs (I:Inv X pins σ H s):s.heap.FunFrames X.base X.outer:=by
 have all:∀ (l:List Env),(∀ b∈frs l,b∈X.fs)->X.s₀.heap.FunFrames X.base l->s.heap.FunFrames X.base l:=by
  intro l;induction l with
  |nil=>intro _ _;trivial
  |cons env r ih =>
   intro hs hl;obtain ⟨hk,⟨L,o,hf,hn,ho,hd⟩,hr⟩:=hl;have hL:L∈X.fs:=hs L (by unfold frs;rw [BA,hf];exact AL)
   obtain ⟨sl,e⟩:=I.base.slot L o ho (I.ok.frf L hL) hL fun z=>I.ok.exfs L z hL;exact ⟨hk,⟨L,_,hf,hn,e,hd⟩,ih (fun b hb=>hs b (by unfold frs;rw [BA,hf];exact AE _ hb)) hr⟩
 exact all X.outer (fun _ hb=>hb) I.ok.funs
theorem Inv.stack (I:Inv X pins σ H s):s.heap.FunFrames X.base X.stack:=by
 rcases I.ok.stk with e |⟨e,hf⟩
 ·rw [e];exact I.funs
 ·rw [e];obtain ⟨m,hn,_⟩:=I.loc;refine .cons (by rw [I.ok.kind];decide) hf hn ?_ I.funs
  exact Heap.get?_none_of_le (Aa I.ok.bsz I.ok.above)
theorem Inv.stkSub (I:Inv X pins σ H s):∀ b∈frs X.stack,b∈X.env.locals::X.fs:=fun b hb=>by
 rcases I.ok.stk with e |⟨e,hf⟩
 ·rw [e] at hb;exact AE _ hb
 ·rw [e] at hb;unfold frs at hb;rw [BA,hf] at hb;exact hb
theorem Inv.stkFree (I:Inv X pins σ H s):∀ b∈frs X.stack,H b=none:=fun b hb=>by
 rcases AJ.mp (I.stkSub b hb) with e |hb
 ·rw [e];exact I.free
 ·obtain ⟨_,o,ho,_⟩:=I.ok.funs.mem hb;exact I.base.free b o ho (I.ok.frf b hb) fun z=>I.ok.exfs b z hb
theorem Inv.step {g':Array GenState} {t':Nat} {d':Drawn} {ch:List Addr} (I:Inv X pins σ H s)
  (hch:∀ b∈ch,(b∈X.ex∨X.s₀.heap.objs.size≤b)∧b≠X.env.locals∧(∀ x c,X.env.cells.lookup x=some c->c≠b) ∧ ∀ p∈X.pn++pins,p.1≠b)
  (keep:∀ b o,b≠X.env.locals->b ∉ X.fs->b ∉ ch->s.heap.get? b=some o->H b=none->h'.get? b=some o)
  (slot:∀ b o,b≠X.env.locals->b∈X.fs->b ∉ ch->s.heap.get? b=some o->H b=none -> ∃ sl,h'.get? b=some { o with slots:=sl }) (free:∀ b o,b ∉ ch->s.heap.get? b=some o->H b=none->H' b=none)
  (there:∀ b o,b ∉ ch->s.heap.get? b=some o -> ∃ o',h'.get? b=some o')
  (tups:∀ b xs,H b=some (.tup xs)->H' b=some (.tup xs)) (frzs:∀ b o u,H b=some (.frz o u)->H' b=some (.frz o u)) (tbls:∀ b ps,H b=some (.tbl ps) -> ∃ more,H' b=some (.tbl (ps++more)))
  (ns:∀ m,s.heap.Ns X.env.locals m->h'.Ns X.env.locals m) (hok:HOk X.prog X.w H' h') (hg:AllBare g') :
  Inv X pins σ H' { s with heap:=h',gens:=g',drawn:=d',toks:=t' }:=by
 have neL:∀ b o,X.s₀.heap.get? b=some o->b≠X.env.locals:=fun b o e=>Ac (Al (AT e) I.ok.above);have neC:∀ b o,X.s₀.heap.get? b=some o->b ∉ X.ex->b ∉ ch:=fun b o e hx hb=>by
  rcases (hch b hb).1 with z |z
  ·exact hx z
  ·exact absurd (Al (AT e) z) (BI _)
 have cellK:∀ x c,X.env.cells.lookup x=some c -> ∀ v,s.heap.IsCell c v->h'.IsCell c v:=fun x c e v ⟨o,ho,hd⟩=>by
  have nch:c ∉ ch:=fun z=>(hch c z).2.2.1 x c e rfl;by_cases hc:c∈X.fs
  ·obtain ⟨sl,q⟩:=slot c o (I.cne x c e) hc nch ho (I.freeC x c e);exact ⟨_,q,hd⟩
  ·exact ⟨o,keep c o (I.cne x c e) hc nch ho (I.freeC x c e),hd⟩
 refine ⟨I.ok,I.os,hg,⟨fun b o e n hb hx => ?_,fun b o e n hb hx => ?_,fun b o e n hx => ?_,fun b o e hx => ?_,fun b xs e=>tups b xs (I.base.tups b xs e),fun b o xs e=>frzs b o xs (I.base.frzs b o xs e),fun b ps e => ?_⟩,?_,fun x c e => ?_,?_,fun x c e => ?_,fun p hp => ?_,hok,I.len,fun v hv=>(let ⟨ea,oe,u,vs,e1,e2,e3⟩:=I.hnd v hv;⟨ea,oe,u,vs,e1,frzs _ _ _ e2,e3⟩)⟩
 ·exact keep b o (neL b o e) hb (neC b o e hx) (I.base.keep b o e n hb hx) (I.base.free b o e n hx)
 ·obtain ⟨sl,e1⟩:=I.base.slot b o e n hb hx;obtain ⟨sl',e2⟩:=slot b _ (neL b o e) hb (neC b o e hx) e1 (I.base.free b o e n hx);exact ⟨sl',e2⟩
 ·obtain ⟨o',e1⟩:=I.base.there b o e hx;exact free b o' (neC b o e hx) e1 (I.base.free b o e n hx)
 ·obtain ⟨o',e1⟩:=I.base.there b o e hx;exact there b o' (neC b o e hx) e1
 ·obtain ⟨m1,e1⟩:=I.base.tbls b ps e;obtain ⟨m2,e2⟩:=tbls b _ e1;exact ⟨m1++m2,by rw [e2,Array.append_assoc]⟩
 ·obtain ⟨m,hn,hl⟩:=I.loc;refine ⟨m,ns m hn,fun i x v e1 e2 e3 => ?_⟩;obtain ⟨u,r,l⟩:=hl i x v e1 e2 e3;refine ⟨u,r,?_⟩;rcases l with l |⟨k,c,e,z⟩
  ·exact .inl l
  ·exact .inr ⟨k,c,e,cellK x c e _ z⟩
 ·obtain ⟨v,z⟩:=I.cell x c e;exact ⟨v,cellK x c e v z⟩
 ·obtain ⟨m,⟨o,_,_,ho,_⟩,_⟩:=I.loc;exact free _ o (fun z=>(hch _ z).2.1 rfl) ho I.free
 ·obtain ⟨v,o,ho,hd⟩:=I.cell x c e;exact free c o (fun z=>(hch c z).2.2.1 x c e rfl) ho (I.freeC x c e)
 ·obtain ⟨e,n,ne,nf,d⟩:=I.pin p hp;have nch:p.1 ∉ ch:=fun z=>(hch p.1 z).2.2.2 p hp rfl;exact ⟨keep p.1 p.2 ne nf nch e n,free p.1 p.2 nch e n,ne,nf,d⟩
theorem Inv.un {t':Nat} (I:Inv X pins σ H s) (u:Un X.fs [] H H' s.heap h') (hok:HOk X.prog X.w H' h'):Inv X pins σ H' { s with heap:=h',toks:=t' }:=by
 obtain ⟨m,⟨o,es,ep,ho,r⟩,_⟩:=id I.loc;obtain ⟨sl,hL⟩:=u.any ho I.free (by simp)
 exact I.step (g':=s.gens) (d':=s.drawn) (ch:=[]) (fun _ z=>nomatch z) (fun b o _ hb _ e n=>u.keep b o e n hb (by simp)) (fun b o _ hb _ e n=>u.slot b o e n hb (by simp)) (fun b o _ e n=>u.free b o e n (by simp)) (fun b o _ e=>u.there b o e (by simp)) u.tups u.frzs u.tbls (fun m' hm=>by
  obtain ⟨o',es',ep',ho',r'⟩:=hm;rw [ho] at ho';cases ho';exact ⟨_,es',ep',hL,r'⟩) hok I.bare
theorem Inv.call {g':Array GenState} {t':Nat} {d':Drawn} {ch:List Addr} (I:Inv X pins σ H s) (u:Un (frs X.stack) ch H H' s.heap h') (hok:HOk X.prog X.w H' h') (hg:AllBare g')
  (hch:∀ b∈ch,(b∈X.ex∨X.s₀.heap.objs.size≤b)∧b≠X.env.locals∧(∀ x c,X.env.cells.lookup x=some c->c≠b) ∧ ∀ p∈X.pn++pins,p.1≠b) :
  Inv X pins σ H' { s with heap:=h',gens:=g',drawn:=d',toks:=t' }:=by
 obtain ⟨m,⟨o,es,ep,ho,r⟩,_⟩:=id I.loc;obtain ⟨sl,hL⟩:=u.any ho I.free fun z=>(hch _ z).2.1 rfl;exact I.step (ch:=ch) hch (fun b o hL hb hc e n=>u.keep b o e n (fun z=>(AJ.mp (I.stkSub b z)).elim hL hb) hc) (fun b o _ _ hc e n=>u.any e n hc) (fun b o hc e n=>u.free b o e n hc) (fun b o hc e=>u.there b o e hc) u.tups u.frzs u.tbls (fun m' hm=>by
  obtain ⟨o',es',ep',ho',r'⟩:=hm;rw [ho] at ho';cases ho';exact ⟨_,es',ep',hL,r'⟩) hok hg
theorem Inv.turned {t':Nat} {it:Addr} (I:Inv X pins σ H s) (k:∀ b o,b≠it->s.heap.get? b=some o->h'.get? b=some o) (hn:H it=none) (hL:it≠X.env.locals)
  (h1:it∈X.ex∨X.s₀.heap.objs.size≤it) (h2:∀ x c,X.env.cells.lookup x=some c->c≠it) (h3:∀ p∈X.pn++pins,p.1≠it):Inv X pins σ H { s with heap:=h',toks:=t' }:=by
 have nit:∀ b u,H b=some u->b≠it:=fun b u e z=>by rw [z,hn] at e;cases e
 refine I.step (g':=s.gens) (d':=s.drawn) (ch:=[it]) (fun b hb => ?_) (fun b o _ _ hc e _=>k b o (fun z=>hc (by simp [z])) e) (fun b o _ _ hc e _=>⟨o.slots,k b o (fun z=>hc (by simp [z])) e⟩) (fun _ _ _ _ n=>n)
  (fun b o hc e=>⟨o,k b o (fun z=>hc (by simp [z])) e⟩) (fun _ _ e=>e) (fun _ _ _ e=>e) (fun b ps e=>⟨#[],by rw [e];simp⟩) (fun m hm => ?_) (fun b u e => ?_) I.bare
 ·have e:b=it:=by simpa using hb
  subst e;exact ⟨h1,hL,h2,h3⟩
 ·obtain ⟨o,es,ep,ho,r⟩:=hm;exact ⟨o,es,ep,k _ o (Ne.symm hL) ho,r⟩
 ·refine (I.hok b u e).stay (fun c v hc q=>k c v ?_ q) (fun _ q=>q) fun _ _ q=>q;rcases hc with z |z
  ·rw [z];exact nit b u e
  ·exact nit c _ z
theorem Inv.tok (I:Inv X pins σ H s) (t:Nat):Inv X pins σ H { s with toks:=t }:=I.un (h':=s.heap) (t':=t) Un.refl I.hok
theorem Inv.kept {t':Nat} (I:Inv X pins σ H s) (k:∀ b u,s.heap.get? b=some u->h'.get? b=some u):Inv X pins σ H { s with heap:=h',toks:=t' }:=I.un (Un.kept k) (I.hok.kept k)
theorem Inv.laid {a:Addr} {o:HO} {t':Nat} (I:Inv X pins σ H s) (k:∀ b u,s.heap.get? b=some u->h'.get? b=some u) (hp:s.heap.objs.size≤a) (new:ObjOk X.prog X.w (upd H a o) h' a o) :
  Inv X pins σ (upd H a o) { s with heap:=h',toks:=t' }:=I.un (Un.laid k hp (I.hok.fresh hp)) (I.hok.laid k hp new)
theorem Inv.write {x e:Addr} {o:HO} {t':Nat} (I:Inv X pins σ H s) (mu:Mut (H x)) (he:e=x∨H e=some (.own x)) (k:∀ b u,b≠e->s.heap.get? b=some u->h'.get? b=some u) (heo:∃ u,h'.get? e=some u)
  (new:ObjOk X.prog X.w (upd H x o) h' x o):Inv X pins σ (upd H x o) { s with heap:=h',toks:=t' }:=I.un (Un.write mu he k heo) (I.hok.write mu he k heo new)
theorem Inv.pins_of {pins':List (Addr×Obj)} (I:Inv X pins σ H s) (h:∀ p∈pins',s.heap.get? p.1=some p.2∧H p.1=none∧p.1≠X.env.locals∧p.1 ∉ X.fs ∧ ∀ v,p.2.data ≠ .cell v):Inv X pins' σ H s :=
 ⟨I.ok,I.os,I.bare,I.base,I.loc,I.cell,I.free,I.freeC,fun p hp=>(Am.mp hp).elim (fun z=>I.pin p (B6 _ z)) (h p),I.hok,I.len,I.hnd⟩
theorem yq {N:List Str} (hN:N.Nodup) {i j:Nat} {x:Str} (a:N[i]? = some x) (b:N[j]? = some x):i=j:=by obtain ⟨h1,e1⟩:=AS.mp a;obtain ⟨h2,e2⟩:=AS.mp b;exact (List.getElem_inj hN).mp (e1.trans e2.symm)
theorem qBx {M:Model} {A:Around} {E:Value->Shared->Prop} {i:Nat} {x:Str} {v:V} {u:Value} {Q:Unit->Shared->Prop} (I:Inv X pins σ H s) (hN:X.N.Nodup) (hi:X.N[i]? = some x) (hx:Loc X.env.scope x) (r:RelV v u)
  (h:∀ s',Inv X pins (σ.set i (some v)) H s'->(∃ a,Heap.SameBut a s.heap s'.heap∧(a=X.env.locals∨X.env.cells.lookup x=some a))->Q () s') (hf:X.fn x=true∨X.env.scope.names.lookup x=some .local:=by first |exact .inl rfl |exact .inr rfl |assumption):wpAny M A (storeName X.env x u) Q E s:=by
 obtain ⟨m,hn,hl⟩:=id I.loc;have hcls:(X.env.scope.kind == .class || (X.env.scope.kind == .module&&X.env.locals != X.env.globals))=false:=by rw [I.ok.kind];rfl
 have hiσ:i < σ.length:=by rw [I.len];exact (AS.mp hi).1
 have cne:=I.cne;have tracked:∀ {a:Addr} {h':Heap},(∃ o,s.heap.get? a=some o∧H a=none)->Heap.SameBut a s.heap h'->HOk X.prog X.w H h':=fun {a h'} ha hs b ob e=>by
  obtain ⟨_,_,hfree⟩:=ha;refine (I.hok b ob e).stay (fun c w' hc q=>(hs.2 c ?_).trans q) (fun _ q=>q) fun _ _ q=>q
  rintro rfl
  rcases hc with rfl |hc
  ·rw [hfree] at e;cases e
  ·rw [hfree] at hc;cases hc
 rcases hx with hk |hk
 ·refine wpAny_storeName_local hk hn (fun h' hn' hs => ?_) hcls;obtain ⟨oL,_,_,hoL,_⟩:=id hn;refine h _ ⟨I.ok,I.os,I.bare,⟨fun b o e n hb hx => ?_,fun b o e n hb hx => ?_,I.base.free,fun b o e hx => ?_,I.base.tups,I.base.frzs,I.base.tbls⟩,⟨_,hn',fun j y v' e1 e2 e3 => ?_⟩,fun y c e => ?_,I.free,I.freeC,fun p hp => ?_,tracked ⟨oL,hoL,I.free⟩ hs,by simpa using I.len,I.hnd⟩ ⟨_,hs,.inl rfl⟩
  ·exact (hs.2 b (Ac (Al (AT e) I.ok.above))).trans (I.base.keep b o e n hb hx)
  ·obtain ⟨sl,e1⟩:=I.base.slot b o e n hb hx;exact ⟨sl,(hs.2 b (Ac (Al (AT e) I.ok.above))).trans e1⟩
  ·obtain ⟨o',e1⟩:=I.base.there b o e hx;exact ⟨o',(hs.2 b (Ac (Al (AT e) I.ok.above))).trans e1⟩
  ·by_cases hj:j=i
   ·subst hj;rw [hi] at e1;cases e1;rw [A7 hiσ] at e2;cases e2;exact ⟨u,r,.inl ⟨hk,by simp⟩⟩
   ·rw [BD (Ne.symm hj)] at e2;obtain ⟨u',r',q⟩:=hl j y v' e1 e2 e3;refine ⟨u',r',?_⟩;rcases q with ⟨k,e⟩ |⟨k,c,e,z⟩
    ·refine .inl ⟨k,?_⟩
     have:y≠x:=fun e=>hj (yq hN e1 (e ▸ hi))
     simp [this,e]
    ·exact .inr ⟨k,c,e,z.sameBut hs (cne y c e)⟩
  ·obtain ⟨w',z⟩:=I.cell y c e;exact ⟨w',z.sameBut hs (cne y c e)⟩
  ·obtain ⟨e,n,ne,nf,d⟩:=I.pin p hp;exact ⟨(hs.2 p.1 ne).trans e,n,ne,nf,d⟩
 ·have hfn:X.fn x=true:=by
   rcases hf with z |z
   ·exact z
   ·rw [z] at hk;cases hk
  obtain ⟨c,hc⟩:=I.ok.has x (.inl hk);obtain ⟨w',z⟩:=I.cell x c hc;refine wpAny_storeName_cell I.ok.kind hk hc z (fun h' hc' hs => ?_);obtain ⟨oc,hoc,hocd⟩:=id z;refine h { s with heap:=h' } ⟨I.ok,I.os,I.bare,⟨fun b o e n hb hx => ?_,fun b o e n hb hx => ?_,I.base.free,fun b o e hx => ?_,I.base.tups,I.base.frzs,I.base.tbls⟩,⟨m,hn.sameBut hs (Ne.symm (cne x c hc)),fun j y v' e1 e2 e3 => ?_⟩,fun y c' e => ?_,I.free,I.freeC,fun p hp => ?_,tracked ⟨oc,hoc,I.freeC x c hc⟩ hs,by simpa using I.len,I.hnd⟩ ⟨c,hs,.inr hc⟩
  ·exact (hs.2 b (Ac (Al (AT e) (I.ok.cab x c hfn hc)))).trans (I.base.keep b o e n hb hx)
  ·obtain ⟨sl,e1⟩:=I.base.slot b o e n hb hx;exact ⟨sl,(hs.2 b (Ac (Al (AT e) (I.ok.cab x c hfn hc)))).trans e1⟩
  ·obtain ⟨o',e1⟩:=I.base.there b o e hx;exact ⟨o',(hs.2 b (Ac (Al (AT e) (I.ok.cab x c hfn hc)))).trans e1⟩
  ·by_cases hj:j=i
   ·subst hj;rw [hi] at e1;cases e1;rw [A7 hiσ] at e2;cases e2;exact ⟨u,r,.inr ⟨.inl hk,c,hc,hc'⟩⟩
   ·rw [BD (Ne.symm hj)] at e2;obtain ⟨u',r',q⟩:=hl j y v' e1 e2 e3;refine ⟨u',r',?_⟩;rcases q with q |⟨k,c',e,z'⟩
    ·exact .inl q
    ·refine .inr ⟨k,c',e,z'.sameBut hs ?_⟩
     rintro rfl
     exact hj (yq hN e1 (I.ok.inj _ _ _ e hc ▸ hi))
  ·by_cases hcc:c'=c
   ·subst hcc;exact ⟨_,hc'⟩
   ·obtain ⟨w2,z2⟩:=I.cell y c' e;exact ⟨w2,z2.sameBut hs hcc⟩
  ·obtain ⟨e,n,ne,nf,d⟩:=I.pin p hp;refine ⟨(hs.2 p.1 ?_).trans e,n,ne,nf,d⟩;intro q;rw [q,hoc] at e;have q':oc=p.2:=Ag e;exact d w' (by rw [← q'];exact hocd)
theorem zh {M:Model} {A:Around} {E:Value->Shared->Prop} {i:Nat} {x:Str} {v:V} {u:Value} {Q:Unit->Shared->Prop} (I:Inv X pins σ H s) (hN:X.N.Nodup) (hi:X.N[i]? = some x) (hx:Loc X.env.scope x) (r:RelV v u)
  (h:∀ s',Inv X pins (σ.set i (some v)) H s'->Q () s') (hf:X.fn x=true∨X.env.scope.names.lookup x=some .local:=by first |exact .inl rfl |exact .inr rfl |assumption):wpAny M A (storeName X.env x u) Q E s :=
 qBx I hN hi hx r (fun s' I' _=>h s' I') hf
theorem Inv.call' {s':Shared} {ch:List Addr} (I:Inv X pins σ H s) (ho:s'.os=s.os) (u:Un (frs X.stack) ch H H' s.heap s'.heap) (hok:HOk X.prog X.w H' s'.heap) (hg:AllBare s'.gens)
  (hch:∀ b∈ch,(b∈X.ex∨X.s₀.heap.objs.size≤b)∧b≠X.env.locals∧(∀ x c,X.env.cells.lookup x=some c->c≠b) ∧ ∀ p∈X.pn++pins,p.1≠b):Inv X pins σ H' s':=by obtain ⟨h',g',d',t',o'⟩:=s';have e:o'=s.os:=ho;subst e;exact I.call (g':=g') (t':=t') (d':=d') u hok hg hch
end
abbrev XK:=Value->Option Addr->Hp->Prop
abbrev St:=List (Option V)
abbrev VK:=V->Hp->Prop
abbrev TE:=St->Hp->VK->Prop
abbrev TT:=St->Hp->(Bool->Hp->Prop)->Prop
abbrev TA:=St->Hp->(List V->Hp->Prop)->Prop
structure Ends where
 nx:St->Hp->Prop
 rt:VK
 bk:St->Hp->Prop:=fun _ _=>False
 ct:St->Hp->Prop:=fun _ _=>False
abbrev TS:=Ends->St->Hp->Prop
def EP (X:Cx) (pins:List (Addr×Obj)) (σ:St) (Q:VK) (u:Value) (s':Shared):Prop := ∃ v H',Inv X pins σ H' s'∧RelV v u∧Q v H'
def TP (X:Cx) (pins:List (Addr×Obj)) (σ:St) (Q:Bool->Hp->Prop) (b:Bool) (s':Shared):Prop := ∃ H',Inv X pins σ H' s'∧Q b H'
def AP (X:Cx) (pins:List (Addr×Obj)) (σ:St) (Q:List V->Hp->Prop) (us:List Value) (s':Shared):Prop := ∃ vs H',Inv X pins σ H' s'∧Vals vs us∧Q vs H'
def SP (X:Cx) (pins:List (Addr×Obj)) (D:Ends) (f:Flow) (s':Shared):Prop :=
 match f with
 | .next => ∃ σ' H',Inv X pins σ' H' s'∧D.nx σ' H'
 | .brk => ∃ σ' H',Inv X pins σ' H' s'∧D.bk σ' H'
 | .cont => ∃ σ' H',Inv X pins σ' H' s'∧D.ct σ' H'
 | .ret u => ∃ v σ' H',Inv X pins σ' H' s'∧RelV v u∧D.rt v H'
def PE (X:Cx) (e:Expr) (t:TE):Prop :=
 ∀ (pins:List (Addr×Obj)) (s:Shared) (σ:St) (H:Hp) (Q:VK),Inv X pins σ H s->t σ H Q->wpAny (model X.prog X.w) X.A (eval e X.env) (EP X pins σ Q) X.xe s
def PT (X:Cx) (e:Expr) (t:TT):Prop :=
 ∀ (pins:List (Addr×Obj)) (s:Shared) (σ:St) (H:Hp) (Q:Bool->Hp->Prop),Inv X pins σ H s->t σ H Q->wpAny (model X.prog X.w) X.A (isTrue e X.env (eval e X.env)) (TP X pins σ Q) X.xe s
def PW (X:Cx) (e:Expr) (t:TT):Prop :=
 ∀ (whole:Sem Value) (pins:List (Addr×Obj)) (s:Shared) (σ:St) (H:Hp) (Q:Bool->Hp->Prop),Inv X pins σ H s->t σ H Q->wpAny (model X.prog X.w) X.A (isTrue e X.env whole) (TP X pins σ Q) X.xe s
theorem PW.pt {X:Cx} {e:Expr} {t:TT} (h:PW X e t):PT X e t:=h _
def PA (X:Cx) (es:List Expr) (t:TA):Prop :=
 ∀ (pos:Pos) (pins:List (Addr×Obj)) (s:Shared) (σ:St) (H:Hp) (Q:List V->Hp->Prop),Inv X pins σ H s->t σ H Q->wpAny (model X.prog X.w) X.A (spliced (backTo pos (starEach es X.env))) (AP X pins σ Q) X.xe s
def PS (X:Cx) (st:Stmt) (t:TS):Prop :=
 ∀ (pins:List (Addr×Obj)) (s:Shared) (σ:St) (H:Hp) (D:Ends),Inv X pins σ H s->t D σ H->wpAny (model X.prog X.w) X.A (exec st X.env) (SP X pins D) X.xe s
def PSs (X:Cx) (st:List Stmt) (t:TS):Prop :=
 ∀ (pins:List (Addr×Obj)) (s:Shared) (σ:St) (H:Hp) (D:Ends),Inv X pins σ H s->t D σ H->wpAny (model X.prog X.w) X.A (execs st X.env) (SP X pins D) X.xe s
theorem thn {α:Type} {t:Sem α} {Q Q':α->Shared->Prop} {M:Model} {A:Around} {E:Value->Shared->Prop} {s:Shared} (h:wpAny M A t Q E s) (hQ:∀ a s,Q a s->Q' a s):wpAny M A t Q' E s:=BZ h hQ fun _ _ x=>x
end L2
namespace L2
open PySem PySem.Spec PyProof.Rows
section
variable {X:Cx}
def qHn (i:Nat):TE:=fun σ H Q => ∃ v,σ[i]? = some (some v)∧Q v H
def tC (v:V):TE:=fun _ H Q=>Q v H
theorem qH0 {i:Nat} {x:Str} {pos:Pos} (hN:X.N[i]? = some x) (hv:Vis X.env.scope x) (hd:(x==("__debug__":Str))=false:=by decide) (hcd:(x==("__classdict__":Str))=false:=by decide):PE X (.Name x pos) (qHn i):=by
 intro pins s σ H Q I h;obtain ⟨v,e,h⟩:=h;obtain ⟨m,hn,hl⟩:=I.loc;obtain ⟨u,r,l⟩:=hl i x v hN e hv;have fin:EP X pins σ Q u s:=⟨v,H,I,r,h⟩;rcases l with ⟨hk,hm⟩ |⟨hk,c,hc,hcell⟩
 ·exact wpAny_Name (wpAny_loadName_local I.ok.kind hk hn hm fin) hd
 ·rcases hk with hk |hk
  ·exact wpAny_Name (wpAny_loadName_cell I.ok.kind hk hc hcell fin) hd
  ·exact wpAny_Name (wpAny_loadName_free I.ok.kind hk hc hcell fin hcd) hd
theorem qGm {i j pos}:PE X (.Constant (.int i) j pos) (tC (.int i)):=fun _ _ _ H _ I h=>wpAny_Constant_int ⟨.int i,H,I.tok _,⟨_,rfl⟩,h⟩
theorem qJL {b j pos}:PE X (.Constant (.bool b) j pos) (tC (.bl b)):=fun _ _ _ H _ I h=>Constant_bool ⟨.bl b,H,I,rfl,h⟩
theorem qHM {j pos}:PE X (.Constant .none j pos) (tC .non):=fun _ _ _ H _ I h=>Constant_none ⟨.non,H,I,rfl,h⟩
theorem qIC {x j pos}:PE X (.Constant (.str x) j pos) (tC (.str x)):=fun _ _ _ H _ I h=>Calls.Constant_str ⟨.str x,H,I.tok _,⟨_,rfl⟩,h⟩
def Gl (X:Cx) (x:Str):Prop:=X.env.kindOf x=some .globalImplicit
theorem jX {E:Value->Shared->Prop} {pins:List (Addr×Obj)} {s:Shared} {σ:St} {H:Hp} {x:Str} {u:Value} {pos:Pos} {Q:Value->Shared->Prop} (I:Inv X pins σ H s) (hg:Gl X x) (hm:X.mg x=some u) (h:Q u s)
  (hd:(x==("__debug__":Str))=false:=by decide):wpAny (model X.prog X.w) X.A (eval (.Name x pos) X.env) Q E s :=
 Calls.Name_function_global I.ok.kind hg (Calls.loadGlobal_global (by rw [I.ok.glob];exact I.mod.glob.keeps I.bk) hm h) hd
theorem zr {E:Value->Shared->Prop} {pins:List (Addr×Obj)} {s:Shared} {σ:St} {H:Hp} {x:Str} {u:Value} {pos:Pos} {Q:Value->Shared->Prop} (I:Inv X pins σ H s) (hg:Gl X x) (hm:X.mg x=none) (hv:bootBuiltins x=some u) (h:Q u s)
  (hn:x ≠ "__name__" := by decide) (hd:(x==("__debug__":Str))=false:=by decide):wpAny (model X.prog X.w) X.A (eval (.Name x pos) X.env) Q E s:=by obtain ⟨mb,h1,h2⟩:=I.mod.blt;exact Calls.Name_function_global I.ok.kind hg (Calls.loadGlobal_builtin (by rw [I.ok.glob];exact I.mod.glob.keeps I.bk) hm (by rw [I.ok.blt];exact h1.keeps I.bk) ((h2 x hn).trans hv) h) hd
theorem qBk {x:Str} {v:V} {u:Value} {pos:Pos} (hg:Gl X x) (hm:X.mg x=some u) (r:RelV v u) (hd:(x==("__debug__":Str))=false:=by decide):PE X (.Name x pos) (tC v) :=
 fun _ _ _ H _ I h=>jX I hg hm ⟨v,H,I,r,h⟩ hd
theorem qFg {x:Str} {v:V} {u:Value} {pos:Pos} (hg:Gl X x) (hm:X.mg x=none) (hv:bootBuiltins x=some u) (r:RelV v u) (hn:x ≠ "__name__" := by decide) (hd:(x==("__debug__":Str))=false:=by decide):PE X (.Name x pos) (tC v) :=
 fun _ _ _ H _ I h=>zr I hg hm hv ⟨v,H,I,r,h⟩ hn hd
variable {a b:Expr} {ta tb:TE} {pos:Pos}
variable {tA tB':TT} {rest:List Expr}
def qKJ (t u:TT):TT:=fun σ H Q=>t σ H fun c H1=>if c=true then u σ H1 Q else Q false H1
def tOr (t u:TT):TT:=fun σ H Q=>t σ H fun c H1=>if c=true then Q true H1 else u σ H1 Q
def qJr (t:TT):TT:=fun σ H Q=>t σ H fun c H1=>Q (!c) H1
theorem qFS (ha:PT X a tA):PW X (.BoolOp .And [a] pos) tA:=by
 intro wh pins s σ H Q I h;refine isTrue_and (thn (ha pins s σ H Q I h) fun c s1 e => ?_);cases c with
 |true=>exact isTrue_and_nil e
 |false=>exact e
theorem qIW (ha:PT X a tA):PW X (.BoolOp .Or [a] pos) tA:=by
 intro wh pins s σ H Q I h;refine isTrue_or (thn (ha pins s σ H Q I h) fun c s1 e => ?_);cases c with
 |false=>exact isTrue_or_nil e
 |true=>exact e
theorem qGj (ha:PT X a tA) (hb:PW X (.BoolOp .And (b::rest) pos) tB'):PW X (.BoolOp .And (a::b::rest) pos) (qKJ tA tB'):=by
 intro wh pins s σ H Q I h;refine isTrue_and (thn (ha pins s σ H _ I h) fun c s1 ⟨H1,I1,q1⟩ => ?_);cases c with
 |true=>exact hb wh pins s1 σ H1 Q I1 q1
 |false=>exact ⟨H1,I1,q1⟩
theorem qJQ (ha:PT X a tA) (hb:PW X (.BoolOp .Or (b::rest) pos) tB'):PW X (.BoolOp .Or (a::b::rest) pos) (tOr tA tB'):=by
 intro wh pins s σ H Q I h;refine isTrue_or (thn (ha pins s σ H _ I h) fun c s1 ⟨H1,I1,q1⟩ => ?_);cases c with
 |true=>exact ⟨H1,I1,q1⟩
 |false=>exact hb wh pins s1 σ H1 Q I1 q1
theorem qH5 (ha:PT X a tA):PT X (.UnaryOp .Not a pos) (qJr tA):=by intro pins s σ H Q I h;exact isTrue_not (ha pins s σ H (fun c H1=>Q (!c) H1) I h)
def qJb (ta tb:TE):TE:=fun σ H Q=>ta σ H fun x H1 => ∃ c,x = .bl c∧if c=true then tb σ H1 Q else Q (.bl false) H1
def qJJ (ta:TE):TE:=fun σ H Q=>ta σ H fun x H1 => ∃ c,x = .bl c∧Q (.bl (!c)) H1
theorem qGv {op} {t:TE} (h:PE X a t):PE X (.BoolOp op [a] pos) t:=fun pins s σ H Q I hw=>BoolOp_one (h pins s σ H Q I hw)
theorem qHG (ha:PE X a ta) (hb:PE X (.BoolOp .And (b::rest) pos) tb):PE X (.BoolOp .And (a::b::rest) pos) (qJb ta tb):=by
 intro pins s σ H Q I h;refine BoolOp_and (thn (ha pins s σ H _ I h) fun v s1 ⟨x,H1,I1,r1,q1⟩ => ?_);obtain ⟨c,rfl,q1⟩:=q1;cases r1;refine Bm ?_;cases c with
 |true=>exact hb pins s1 σ H1 Q I1 q1
 |false=>exact ⟨.bl false,H1,I1,rfl,q1⟩
theorem qIN (ha:PE X a ta):PE X (.UnaryOp .Not a pos) (qJJ ta):=by intro pins s σ H Q I h;refine UnaryOp_ (thn (ha pins s σ H _ I h) fun v s1 ⟨x,H1,I1,r1,q1⟩ => ?_);obtain ⟨c,rfl,q1⟩:=q1;cases r1;exact not_of (Bm ⟨.bl (!c),H1,I1,rfl,q1⟩)
end
end L2
namespace L2
open PySem PySem.Spec PyProof.Rows
def SqL (K:W.Frag) (H:Hp) (a:Addr) (xs:List V):Prop :=
 Rd H a (.lst xs) ∨
  ∃ (o:Obj) (its:Array Value) (n:Nat),K.lookup a=some o∧o.cls = .type "list" ∧ o.dict=none∧o.data = .seq its n∧its.size≤sizeLine∧Vals xs its.toList
def SqT (K:W.Frag) (H:Hp) (a:Addr) (xs:List V):Prop :=
 Rd H a (.tup xs) ∨
  ∃ (o:Obj) (its:Array Value) (n:Nat),K.lookup a=some o∧o.cls = .type "tuple" ∧ o.data = .seq its n∧its.size≤sizeLine∧Vals xs its.toList
def qKL:Value->Option V
 | .none=>some .non
 | .bool b=>some (.bl b)
 | .int i _=>some (.int i)
 | .str x _=>some (.str x)
 | .bytes b _=>some (.byt b)
 | .float b _=>some (.flt b)
 | .ref a=>some (.ref a)
 | .type n=>some (.ty n)
 |_=>none
theorem RelV.abs {x:V} {u:Value} (r:RelV x u):qKL u=some x:=by
 cases x with
 |non=>cases r;rfl
 |bl _=>cases r;rfl
 |int _=>obtain ⟨t,rfl⟩:=r;rfl
 |str _=>obtain ⟨t,rfl⟩:=r;rfl
 |byt _=>obtain ⟨t,rfl⟩:=r;rfl
 |flt _=>obtain ⟨t,rfl⟩:=r;rfl
 |ref _=>cases r;rfl
 |ty _=>cases r;rfl
theorem RelV.inj {x y:V} {u:Value} (r:RelV x u) (q:RelV y u):x=y:=Ag (r.abs.symm.trans q.abs)
theorem Vals.inj:∀ {xs ys:List V} {us:List Value},Vals xs us->Vals ys us->xs=ys
 |_,_,_,.nil,.nil=>rfl
 |_,_,_,.cons r t,.cons r' t'=>by rw [r.inj r',Vals.inj t t']
section
variable {X:Cx} {pins:List (Addr×Obj)} {σ:St} {H:Hp} {s:Shared} {a:Addr} {xs ys:List V}
theorem SqL.of {K:W.Frag} (h:H a=some (.lst xs)):SqL K H a xs := .inl (.inl h)
theorem Inv.list (I:Inv X pins σ H s) (h:SqL X.K H a xs):∃ its:List Value,Vals xs its∧PlainL s.heap a its.toArray∧xs.length≤sizeLine:=by
 rcases h with h |⟨o,its,n,hk,hc,hd,hs,hz,r⟩
 ·obtain ⟨z,its,n,r,e⟩:=h.ok I.hok;exact ⟨its,r,⟨_,n,e,rfl,rfl,rfl⟩,z⟩
 ·refine ⟨its.toList,r,⟨o,n,I.kIn a o hk,hc,hd,by simpa using hs⟩,?_⟩
  have e:=r.length;simp only [AZ] at e;omega
theorem Inv.tuple (I:Inv X pins σ H s) (h:SqT X.K H a xs):∃ its:List Value,Vals xs its∧IsTup s.heap a its.toArray∧xs.length≤sizeLine:=by
 rcases h with h |⟨o,its,n,hk,hc,hs,hz,r⟩
 ·obtain ⟨z,its,r,p⟩:=h.ok I.hok;exact ⟨its,r,p,z⟩
 ·refine ⟨its.toList,r,⟨o,I.kIn a o hk,hc,n,by simpa using hs⟩,?_⟩
  have e:=r.length;simp only [AZ] at e;omega
theorem Inv.list_inj (I:Inv X pins σ H s) (h:SqL X.K H a xs) (h':SqL X.K H a ys):xs=ys:=by
 obtain ⟨its,r,⟨o,n,e,_,_,d⟩,_⟩:=I.list h;obtain ⟨its',r',⟨o',n',e',_,_,d'⟩,_⟩:=I.list h';rw [e] at e';cases e';rw [d] at d';injection d' with d1 _
 have:its=its':=by simpa using CP Array.toList d1
 subst this;exact r.inj r'
theorem Inv.tuple_inj (I:Inv X pins σ H s) (h:SqT X.K H a xs) (h':SqT X.K H a ys):xs=ys:=by
 obtain ⟨its,r,⟨o,e,_,n,d⟩,_⟩:=I.tuple h;obtain ⟨its',r',⟨o',e',_,n',d'⟩,_⟩:=I.tuple h';rw [e] at e';cases e';rw [d] at d';injection d' with d1 _
 have:its=its':=by simpa using CP Array.toList d1
 subst this;exact r.inj r'
end
abbrev Cx.wish (X:Cx) (E:Value->Shared->Prop):Cx:={ X with xe:=E }
abbrev Cx.nox (X:Cx):Cx:=X.wish fun _ _=>False
theorem Cx.Ok.wish {X:Cx} (ok:X.Ok) (E:Value->Shared->Prop):(X.wish E).Ok :=
 ⟨ok.mod,ok.kind,ok.glob,ok.blt,ok.above,ok.inj,ok.has,ok.cab,ok.hd,ok.frames,ok.stk,ok.exf,ok.bs,ok.bsz,ok.noex,ok.exfs,ok.funs,ok.frf⟩
theorem Cx.Ok.unwish {X:Cx} {E:Value->Shared->Prop} (ok:(X.wish E).Ok):X.Ok :=
 ⟨ok.mod,ok.kind,ok.glob,ok.blt,ok.above,ok.inj,ok.has,ok.cab,ok.hd,ok.frames,ok.stk,ok.exf,ok.bs,ok.bsz,ok.noex,ok.exfs,ok.funs,ok.frf⟩
section
variable {X:Cx} {pins:List (Addr×Obj)} {σ:St} {H:Hp} {s:Shared} {E:Value->Shared->Prop}
theorem Inv.wish (I:Inv X pins σ H s) (E:Value->Shared->Prop):Inv (X.wish E) pins σ H s:=⟨I.ok.wish E,I.os,I.bare,I.base,I.loc,I.cell,I.free,I.freeC,I.pin,I.hok,I.len,I.hnd⟩
theorem Inv.unwish (I:Inv (X.wish E) pins σ H s):Inv X pins σ H s:=⟨I.ok.unwish,I.os,I.bare,I.base,I.loc,I.cell,I.free,I.freeC,I.pin,I.hok,I.len,I.hnd⟩
theorem SP.unwish {D:Ends} {f:Flow} {s':Shared} (h:SP (X.wish E) pins D f s'):SP X pins D f s':=by
 cases f with
 |next=>obtain ⟨σ',H',I,q⟩:=h;exact ⟨σ',H',I.unwish,q⟩
 |brk=>obtain ⟨σ',H',I,q⟩:=h;exact ⟨σ',H',I.unwish,q⟩
 |cont=>obtain ⟨σ',H',I,q⟩:=h;exact ⟨σ',H',I.unwish,q⟩
 |ret u=>obtain ⟨v,σ',H',I,r,q⟩:=h;exact ⟨v,σ',H',I.unwish,r,q⟩
end
section
variable {X:Cx} {st:Stmt} {rest:List Stmt} {t u:TS} {e:Expr} {te:TE} {pos:Pos}
def qIm:TS:=fun D σ H=>D.nx σ H
def qJp (t u:TS):TS:=fun D σ H=>t { D with nx:=u D } σ H
theorem qF1:PSs X [] qIm:=fun _ _ σ H _ I h=>CM ⟨σ,H,I,h⟩
theorem qDV (h1:PS X st t) (h2:PSs X rest u):PSs X (st::rest) (qJp t u):=by
 intro pins s σ H D I h;refine wpAny_execs_cons (thn (h1 pins s σ H { D with nx:=u D } I h) fun f s1 q => ?_);cases f with
 |next =>obtain ⟨σ',H',I',q⟩:=q;exact h2 pins s1 σ' H' D I' q
 |ret v=>exact q
 |brk=>exact q
 |cont=>exact q
theorem qE5 (h1:PS X st t):PSs X [st] t:=by
 intro pins s σ H D I h;refine wpAny_execs_cons (thn (h1 pins s σ H D I h) fun f s1 q => ?_);cases f with
 |next=>exact CM q
 |ret v=>exact q
 |brk=>exact q
 |cont=>exact q
theorem Inv.quiet {pins:List (Addr×Obj)} {σ:St} {H:Hp} {s:Shared} (I:Inv X pins σ H s):interactive X.env=false:=by simp [interactive,I.ok.kind]
def qJU (te:TE):TS:=fun D σ H=>te σ H fun _ H1=>D.nx σ H1
theorem qA9 (he:PE X e te) (hs:swapsWith e none pos.line X.env=pure false:=by rfl):PS X (.Expr e pos) (qJU te):=by intro pins s σ H D I h;exact wpAny_Expr_any (thn (he pins s σ H _ I h) fun v s1 ⟨x,H1,I1,r1,q1⟩=>⟨σ,H1,I1,q1⟩) I.quiet hs
def qJ1 (te:TE):TS:=fun D σ H=>te σ H D.rt
theorem qEv (he:PE X e te):PS X (.Return (some e) pos) (qJ1 te):=by intro pins s σ H D I h;exact wpAny_Return_some (thn (he pins s σ H _ I h) fun v s1 ⟨x,H1,I1,r1,q1⟩=>⟨x,σ,H1,I1,r1,q1⟩)
def qKK (c:TT) (t u:TS):TS:=fun D σ H=>c σ H fun b H1=>if b=true then t D σ H1 else u D σ H1
theorem qIw {c:Expr} {a b:List Stmt} {tc:TT} (hc:PT X c tc) (ha:PSs X a t) (hb:PSs X b u):PS X (.If c a b pos) (qKK tc t u):=by
 intro pins s σ H D I h;refine wpAny_If (thn (hc pins s σ H _ I h) fun d s1 ⟨H1,I1,q1⟩ => ?_);cases d with
 |true=>exact ha pins s1 σ H1 D I1 q1
 |false=>exact hb pins s1 σ H1 D I1 q1
def qHl:TS:=fun _ _ _=>False
theorem qDz:PS X st qHl:=fun _ _ _ _ _ _ h=>h.elim
end
abbrev TG:=V->St->Hp->(St->Hp->Prop)->Prop
abbrev TGs:=List V->St->Hp->(St->Hp->Prop)->Prop
def PG (X:Cx) (target:Expr) (t:TG):Prop :=
 ∀ (pins:List (Addr×Obj)) (s:Shared) (σ:St) (H:Hp) (v:V) (u:Value) (Q:St->Hp->Prop),Inv X pins σ H s->RelV v u->t v σ H Q ->
  wpAny (model X.prog X.w) X.A (assign target X.env u) (fun _ s' => ∃ σ' H',Inv X pins σ' H' s'∧Q σ' H') X.xe s
def PGs (X:Cx) (ts:List Expr) (t:TGs):Prop :=
 ∀ (pins:List (Addr×Obj)) (s:Shared) (σ:St) (H:Hp) (vs:List V) (us:List Value) (Q:St->Hp->Prop),Inv X pins σ H s->Vals vs us->t vs σ H Q ->
  wpAny (model X.prog X.w) X.A (assignInOrder ((assignEach ts X.env).map (·.2)) us) (fun _ s' => ∃ σ' H',Inv X pins σ' H' s'∧Q σ' H') X.xe s
abbrev qIM:=V->V->V->Hp->(Hp->Prop)->Prop
def qJE (X:Cx) (t:qIM):Prop :=
 ∀ (pins:List (Addr×Obj)) (s:Shared) (σ:St) (H:Hp) (o i v:V) (ov iv u:Value) (Q:Hp->Prop),Inv X pins σ H s->RelV o ov->RelV i iv->RelV v u->t o i v H Q ->
  wpAny (model X.prog X.w) X.A (setItem ov iv u) (fun _ s' => ∃ H',Inv X pins σ H' s'∧Q H') X.xe s
section
variable {X:Cx} {pos:Pos}
def qGb (i:Nat):TG:=fun v σ H Q=>Q (σ.set i (some v)) H
theorem qFj {i:Nat} {x:Str} (hN:X.N.Nodup) (hi:X.N[i]? = some x) (hx:Loc X.env.scope x) (hf:X.fn x=true∨X.env.scope.names.lookup x=some .local:=by first |exact .inl rfl |exact .inr rfl |assumption):PG X (.Name x pos) (qGb i):=by intro pins s σ H v u Q I r h;exact wpAny_assign_Name (zh I hN hi hx r (fun s' I'=>⟨_,H,I',h⟩) hf)
def qJ8:TGs:=fun vs σ H Q=>vs=[]∧Q σ H
def qJC (t:TG) (u:TGs):TGs:=fun vs σ H Q => ∃ v r,vs=v::r∧t v σ H fun σ' H'=>u r σ' H' Q
theorem qBM:PGs X [] qJ8:=by intro pins s σ H vs us Q I r h;obtain ⟨e,h⟩:=h;subst e;cases r;exact assignInOrder_nil ⟨σ,H,I,h⟩
theorem yv {e:Expr} {es:List Expr} {t:TG} {u:TGs} (h1:PG X e t) (h2:PGs X es u)
  (hs:(assignEach (e::es) X.env).map (·.2)=assign e X.env::(assignEach es X.env).map (·.2):=by rfl):PGs X (e::es) (qJC t u):=by
 intro pins s σ H vs us Q I r h;obtain ⟨v,vr,e1,h⟩:=h;subst e1;cases r with
 |cons r rr =>rw [hs];refine assignInOrder_cons (thn (h1 pins s σ H _ _ _ I r h) fun _ s1 ⟨σ1,H1,I1,q1⟩ => ?_);exact h2 pins s1 σ1 H1 _ _ Q I1 rr q1
def qJ3 (K:W.Frag) (n:Nat) (t:TGs):TG:=fun v σ H Q => ∃ a xs,v = .ref a∧SqT K H a xs∧xs.length=n∧t xs σ H Q
theorem qEu {es:List Expr} {k:Nat} {t:TGs} {n:Nat} (hc:X.calm=true) (h:PGs X es t)
  (hn:(assignEach es X.env).length=n:=by rfl) (hst:(assignEach es X.env).findIdx? (·.1)=none:=by rfl):PG X (.Tuple es k pos) (qJ3 X.K n t):=by
 intro pins s σ H v u Q I r hw;obtain ⟨a,xs,e1,hq,hl,hw⟩:=hw;subst e1;cases r;obtain ⟨its,rv,ht,hz⟩:=I.tuple hq;refine assign_Tuple_tuple (I.ok.hd hc) ht (by simp [hn,← hl,rv.length]) hst fun h' hx => ?_
 have I1:Inv X pins σ H { s with heap:=h' }:=I.kept (t':=s.toks) fun b o e=>hx b o (Ac (AT e)) e;exact h pins _ σ H xs _ Q I1 (by simpa using rv) hw
def Wt (to ti:TE) (t:qIM):TG:=fun v σ H Q=>to σ H fun o H1=>ti σ H1 fun i H2=>t o i v H2 fun H3=>Q σ H3
theorem qAK {o i:Expr} {to ti:TE} {t:qIM} (ho:PE X o to) (hi:PE X i ti) (hs:qJE X t)
  (ha:∀ v,assign (.Subscript o i pos) X.env v=(do
   let ov ← holding [v] (eval o X.env);let iv ← holding [v,ov] (eval i X.env)
   standAt pos
   holding [v,ov,iv] (setItem ov iv v)
   release [v,ov,iv] []):=by intro _;rfl):PG X (.Subscript o i pos) (Wt to ti t):=by intro pins s σ H v u Q I r h;rw [ha];refine AA (An (thn (ho pins s σ H _ I h) fun ov s1 ⟨x,H1,I1,r1,q1⟩ => ?_));refine AA (An (thn (hi pins s1 σ H1 _ I1 q1) fun iv s2 ⟨y,H2,I2,r2,q2⟩ => ?_));refine AA (CV (AA (An (thn (hs pins s2 σ H2 x y v ov iv u _ I2 r1 r2 r q2) fun _ s3 ⟨H3,I3,q3⟩ => ?_))));exact wpAny_release ⟨σ,H3,I3,q3⟩
def qJk (te:TE) (g:TG):TS:=fun D σ H=>te σ H fun x H1=>g x σ H1 D.nx
theorem qAd {tg e:Expr} {te:TE} {g:TG} (he:PE X e te) (hg:PG X tg g) (hs:swapsWithSole [tg] e pos.line X.env=pure false:=by rfl) (hw:swappedStores [tg] e X.env=pure none:=by rfl)
  (h1:(assignEach [tg] X.env).map (·.2)=[assign tg X.env]:=by rfl):PS X (.Assign [tg] e pos) (qJk te g):=by intro pins s σ H D I h;refine wpAny_Assign_stores (thn (he pins s σ H _ I h) fun v s1 ⟨x,H1,I1,r1,q1⟩ => ?_) hs hw;rw [h1];exact thn (hg pins s1 σ H1 x v _ I1 r1 q1) fun _ s2 q=>q
theorem qDZ {i:Nat} {x:Str} {e:Expr} {te:TE} {pos':Pos} (hN:X.N.Nodup) (hi:X.N[i]? = some x) (hx:Loc X.env.scope x) (he:PE X e te) (hs:swapsWith e (some (.Name x pos')) pos.line X.env=pure false:=by rfl) (hf:X.fn x=true∨X.env.scope.names.lookup x=some .local:=by first |exact .inl rfl |exact .inr rfl |assumption) :
  PS X (.Assign [.Name x pos'] e pos) (qJk te (qGb i)):=by intro pins s σ H D I h;refine wpAny_Assign_Name (thn (he pins s σ H _ I h) fun v s1 ⟨y,H1,I1,r1,q1⟩ => ?_) hs;exact zh I1 hN hi hx r1 (fun s2 I2=>⟨_,H1,I2,q1⟩) hf
def qJy (i j:Nat) (ta:TA):TS:=fun D σ H=>ta σ H fun vs H1 => ∃ v w,vs=[v,w]∧D.nx ((σ.set i (some v)).set j (some w)) H1
theorem qHo {i j:Nat} {x y:Str} {a b:Expr} {ta:TA} {px py pt:Pos} {kt k2 pt2} (hc:X.calm=true) (hN:X.N.Nodup) (hi:X.N[i]? = some x) (hj:X.N[j]? = some y) (hij:i≠j)
  (hx:X.env.scope.names.lookup x=some .local) (hy:X.env.scope.names.lookup y=some .local) (ha:PA X [a,b] ta)
  (hw:swappedStores [.Tuple [.Name x px,.Name y py] kt pt] (.Tuple [a,b] k2 pt2) X.env=pure (some [x,y]))
  (hs:swapsWithSole [.Tuple [.Name x px,.Name y py] kt pt] (.Tuple [a,b] k2 pt2) pos.line X.env=pure false:=by rfl) :
  PS X (.Assign [.Tuple [.Name x px,.Name y py] kt pt] (.Tuple [a,b] k2 pt2) pos) (qJy i j ta):=by
 intro pins s σ H D I h;rw [exec_Assign_arm];refine AA (CV ?_);rw [hs];refine AA (AB ?_);rw [AK (by decide)]
 refine AA (Tuple_ (thn (ha _ pins s σ H _ I h) fun us s1 ⟨vs,H1,I1,r1,q1⟩ => ?_));obtain ⟨v,w,e1,q1⟩:=q1;subst e1;obtain ⟨u1,u2,rfl,rv,rw'⟩:∃ u1 u2,us=[u1,u2]∧RelV v u1∧RelV w u2:=by
  cases r1 with
  |cons p q =>
   cases q with
   |cons p' q' =>cases q';exact ⟨_,_,rfl,p,p'⟩
 refine A1 ?_ (by show 2≤sizeLine;decide)
 have I2:Inv X pins σ H1 { s1 with heap:=s1.heap.push { cls := .type "tuple",data := .seq [u1,u2].toArray } }:=I1.kept (t':=s1.toks) fun b o e=>AD _ e;rw [hw];refine AA (AB ?_);show wpAny (model X.prog X.w) X.A (do rule "assign.swapped-stores";let items ← unpackItems (.ref s1.heap.objs.size) 2 none;assignInOrder [fun v=>bindName X.env y v,fun v=>bindName X.env x v] items.reverse;pure Flow.next) _ _ _;refine AA (wpAny_rule (AA (unpackItems_tuple (items := #[u1,u2]) (I.ok.hd hc) (IsTup.new s1.heap _) fun h' hx' => ?_)));have I3:=I2.kept (h':=h') (t':=s1.toks) fun b o e=>hx' b o (Ac (AT e)) e;show wpAny _ _ (assignInOrder [fun v=>bindName X.env y v,fun v=>bindName X.env x v] [u2,u1] >>= fun _=>pure Flow.next) _ _ _;refine AA (assignInOrder_cons (wpAny_bindName (zh I3 hN hj (.inl hy) rw' (fun s2 I4 => ?_) (.inr hy))));refine assignInOrder_cons (wpAny_bindName (zh I4 hN hi (.inl hx) rv (fun s3 I5=>assignInOrder_nil (AB ?_)) (.inr hx)));rw [List.set_comm _ _ (Ne.symm hij)] at I5;exact ⟨_,H1,I5,q1⟩
def qHg (c:TT) (tb:TS):TS:=fun D σ H => ∃ W:Nat->St->Hp->Prop,(∃ m,W m σ H) ∧ ∀ m σ H,W m σ H ->
 c σ H fun b H1=>if b=true then ∃ N:St->Hp->Prop,(∀ σ' H',N σ' H' -> ∃ m',m' < m∧W m' σ' H')∧tb { D with nx:=N,ct:=N,bk:=D.nx } σ H1 else D.nx σ H1
end
structure It where
 go:Nat->Hp->Prop
 yld:Nat->Hp->V->Hp->Prop
 stop:Nat->Hp->Prop
def yT (X:Cx) (pins:List (Addr×Obj)) (H:Hp) (b:Addr):Prop :=
 H b=none∧b≠X.env.locals∧b ∉ X.fs∧(b∈X.ex∨X.s₀.heap.objs.size≤b)∧(∀ x c,X.env.cells.lookup x=some c->c≠b) ∧ ∀ p∈X.pn++pins,p.1≠b
theorem Inv.fpOk {X:Cx} {pins:List (Addr×Obj)} {σ:St} {H H':Hp} {s:Shared} {b:Addr} (I:Inv X pins σ H s) (hb:s.heap.objs.size≤b) (hn:H' b=none):yT X pins H' b:=by
 refine ⟨hn,Nat.ne_of_gt (Al I.lt hb),I.nofs hb,.inr (Aa I.sz hb),fun x c e z => ?_,fun p hp z => ?_⟩
 ·obtain ⟨v,q⟩:=I.cell x c e;exact absurd (Al q.lt (by rw [z];exact hb)) (BI _)
 ·exact absurd (Al (AT (I.pin p hp).1) (by rw [z];exact hb)) (BI _)
theorem Inv.hndH {X:Cx} {pins:List (Addr×Obj)} {σ:St} {H:Hp} {s:Shared} (I:Inv X pins σ H s):EX.Hnd X.A s.heap:=fun v hv=>by obtain ⟨ea,oe,u,vs,e1,e2,e3⟩:=I.hnd v hv;exact ⟨ea,oe,vs,e1,(I.hok _ _ e2).1,e3⟩
theorem Inv.hndNe {X:Cx} {pins:List (Addr×Obj)} {σ:St} {H:Hp} {s:Shared} (I:Inv X pins σ H s) {it:Addr} (hn:H it=none):∀ v,X.A.handled=some v->v ≠ .ref it:=fun v hv z=>by obtain ⟨ea,oe,u,vs,e1,e2,e3⟩:=I.hnd v hv;rw [e1] at z;cases z;rw [hn] at e2;cases e2
structure Turn (P:Program) (w:World) (K:W.Frag) (A:Around) (tg:Expr) (J:It) (fp:List Addr) (it:Addr) (tn:Nat->Heap->Prop):Prop where
 mem:it∈fp
 obj:∀ i h,tn i h -> ∀ b∈fp,∃ o,h.get? b=some o ∧ ∀ v,o.data ≠ .cell v
 keep:∀ i h h',tn i h->(∀ b∈fp,∀ o,h.get? b=some o->h'.get? b=some o)->tn i h'
 item:∀ (X:Cx),X.prog=P->X.w=w->X.K=K->X.A=A -> ∀ (i:Nat) (pins:List (Addr×Obj)) (s:Shared) (σ:St) (H:Hp) (E:Value->Shared->Prop),Inv X pins σ H s->(∀ b∈fp,yT X pins H b)->tn i s.heap->J.go i H ->
  wpAny (model P w) X.A (pyNext (.ref it)) (fun r s1 => ∃ u,r=some u ∧
   wpAny (model P w) X.A (letOwnedTupleGo tg (.ref it) u) (fun _ s2 => ∃ x H',Inv X pins σ H' s2∧RelV x u∧J.yld i H x H'∧tn (i + 1) s2.heap ∧ ∀ b∈fp,H' b=none) E s1) E s
 done:∀ (X:Cx),X.prog=P->X.w=w->X.K=K->X.A=A -> ∀ (i:Nat) (pins:List (Addr×Obj)) (s:Shared) (σ:St) (H:Hp) (E:Value->Shared->Prop),Inv X pins σ H s->(∀ b∈fp,yT X pins H b)->tn i s.heap->J.stop i H ->
  wpAny (model P w) X.A (pyNext (.ref it)) (fun r s1=>r=none∧Inv X pins σ H s1) E s
 self:∀ (A:Around) (i:Nat) (s:Shared) (Q:Value->Shared->Prop) (E:Value->Shared->Prop),tn i s.heap->Q (.ref it) s->wpAny (model P w) A (pyIter (.ref it)) Q E s
abbrev TI:=St->Hp->(It->Hp->Prop)->Prop
def PIE (X:Cx) (pins:List (Addr×Obj)) (σ:St) (tg:Expr) (R:It->Hp->Prop) (itv:Value) (s2:Shared):Prop :=
 ∃ (it:Addr) (fp:List Addr) (tn:Nat->Heap->Prop) (J:It) (H':Hp),itv = .ref it∧Inv X pins σ H' s2∧Turn X.prog X.w X.K X.A tg J fp it tn∧tn 0 s2.heap∧(∀ b∈fp,yT X pins H' b)∧R J H'
def PI (X:Cx) (tg iter:Expr) (wi:TI):Prop :=
 ∀ (pins:List (Addr×Obj)) (s:Shared) (σ:St) (H:Hp) (R:It->Hp->Prop),Inv X pins σ H s->wi σ H R ->
  wpAny (model X.prog X.w) X.A (eval iter X.env) (fun v s1=>wpAny (model X.prog X.w) X.A (pyIter v) (PIE X pins σ tg R) X.xe s1) X.xe s
theorem qDQ {M : Model} {A : Around} {E : Value->Shared->Prop} {s : Shared} {tg : Expr} {it : Addr} {u : Value} {o : Obj} {n : String} {vs : Array Value} {Q : Unit->Shared->Prop} (ho : s.heap.get? it=some o) (hc : o.cls = .type n) (hd : o.data = .fields vs)
    (hn : ["enumerate", "zip", "dict_itemiterator", "dict_reverseitemiterator", "odict_iterator", "itertools.zip_longest", "itertools.pairwise"].contains n=false) (hQ : Q () s) : wpAny M A (letOwnedTupleGo tg (.ref it) u) Q E s:=by
  unfold letOwnedTupleGo;cases tg <;> first
    |exact AB hQ
    |(cases u <;> first
        |exact AB hQ
        | (refine AA (wpAny_load ho ?_)
           rw [hc, hd];show wpAny M A (if (["enumerate", "zip", "dict_itemiterator", "dict_reverseitemiterator", "odict_iterator", "itertools.zip_longest", "itertools.pairwise"].contains n&&vs[0]? == some (rawInt _))=true then _ else _) Q E s;rw [AK (by intro h; rw [hn, Bool.false_and] at h; cases h)]
           exact AB hQ))
def Itl (K:W.Frag) (a:Addr):It :=
 ⟨fun i H => ∃ xs x,SqL K H a xs∧xs[i]? = some x,fun i H x H'=>H'=H ∧ ∀ xs,SqL K H a xs->xs[i]? = some x,fun i H => ∃ xs,SqL K H a xs∧xs.length≤i⟩
def Itt (K:W.Frag) (a:Addr):It :=
 ⟨fun i H => ∃ xs x,SqT K H a xs∧xs[i]? = some x,fun i H x H'=>H'=H ∧ ∀ xs,SqT K H a xs->xs[i]? = some x,fun i H => ∃ xs,SqT K H a xs∧xs.length≤i⟩
def Itr (lo:Int) (n:Nat):It:=⟨fun i _=>i < n,fun i H x H'=>H'=H∧x = .int (lo + i),fun i _=>n≤i⟩
theorem qCI {P:Program} {w:World} {K:W.Frag} {A:Around} {tg:Expr} (a it:Addr):Turn P w K A tg (Itl K a) [it] it (fun i h=>h.IsListIter it a i) where
 mem:=by simp
 obj:=fun i h st b hb=>by
  have e:b=it:=by simpa using hb
  subst e;obtain ⟨o,e,c,d⟩:=st;exact ⟨o,e,fun v z=>by rw [d] at z;cases z⟩
 keep:=fun i h h' st k=>st.at fun o e=>k it (by simp) o e
 item:=by
  intro X hP hw hK _ i pins s σ H E I hf st hg;subst hP hw hK;obtain ⟨xs,x,hq,hx⟩:=hg;obtain ⟨its,rv,p,hz⟩:=I.list hq;obtain ⟨u,hu,ru⟩:=rv.get hx;obtain ⟨f0,f1,f2,f3,f4,f5⟩:=hf it (by simp)
  refine wpAny_pyNext_list_item st p.isList (x:=u) (by simpa using hu) fun h' st' sb => ?_
  have I1:Inv X pins σ H { s with heap:=h' }:=I.turned (t':=s.toks) (fun b o hb e=>(sb.2 b hb).trans e) f0 f1 f3 f4 f5;obtain ⟨o,e,c,d⟩:=id st';exact ⟨u,rfl,qDQ (s:={ s with heap:=h' }) e c d (by decide) ⟨x,H,I1,ru,⟨rfl,fun ys hy=>by rw [I.list_inj hy hq];exact hx⟩,st',fun b hb=>(hf b hb).1⟩⟩
 done:=by
  intro X hP hw hK _ i pins s σ H E I hf st hg;subst hP hw hK;obtain ⟨xs,hq,hx⟩:=hg;obtain ⟨its,rv,p,hz⟩:=I.list hq;obtain ⟨f0,f1,f2,f3,f4,f5⟩:=hf it (by simp)
  have hl:=rv.length;exact EX.list_end I.hndH st p.isList (by simp;omega) (I.hndNe f0) fun h' eb=>⟨rfl,I.turned (t':=s.toks) (fun b o hb e=>eb b o hb e) f0 f1 f3 f4 f5⟩
 self:=fun _ _ _ _ _ st h=>wpAny_pyIter_listiter st h
theorem qAk {P:Program} {w:World} {K:W.Frag} {A:Around} {tg:Expr} (a it:Addr):Turn P w K A tg (Itt K a) [it] it (fun i h=>h.IsTupleIter it a i) where
 mem:=by simp
 obj:=fun i h st b hb=>by
  have e:b=it:=by simpa using hb
  subst e;obtain ⟨o,e,c,d⟩:=st;exact ⟨o,e,fun v z=>by rw [d] at z;cases z⟩
 keep:=fun i h h' st k=>st.at fun o e=>k it (by simp) o e
 item:=by
  intro X hP hw hK _ i pins s σ H E I hf st hg;subst hP hw hK;obtain ⟨xs,x,hq,hx⟩:=hg;obtain ⟨its,rv,p,hz⟩:=I.tuple hq;obtain ⟨u,hu,ru⟩:=rv.get hx;obtain ⟨f0,f1,f2,f3,f4,f5⟩:=hf it (by simp)
  refine wpAny_pyNext_tuple_item st (show s.heap.IsTuple a its.toArray from p) (x:=u) (by simpa using hu) fun h' st' sb => ?_
  have I1:Inv X pins σ H { s with heap:=h' }:=I.turned (t':=s.toks) (fun b o hb e=>(sb.2 b hb).trans e) f0 f1 f3 f4 f5;obtain ⟨o,e,c,d⟩:=id st';exact ⟨u,rfl,qDQ (s:={ s with heap:=h' }) e c d (by decide) ⟨x,H,I1,ru,⟨rfl,fun ys hy=>by rw [I.tuple_inj hy hq];exact hx⟩,st',fun b hb=>(hf b hb).1⟩⟩
 done:=by
  intro X hP hw hK _ i pins s σ H E I hf st hg;subst hP hw hK;obtain ⟨xs,hq,hx⟩:=hg;obtain ⟨its,rv,p,hz⟩:=I.tuple hq;obtain ⟨f0,f1,f2,f3,f4,f5⟩:=hf it (by simp)
  have hl:=rv.length;exact EX.tuple_end I.hndH st (show s.heap.IsTuple a its.toArray from p) (by simp;omega) (I.hndNe f0) fun h' eb=>⟨rfl,I.turned (t':=s.toks) (fun b o hb e=>eb b o hb e) f0 f1 f3 f4 f5⟩
 self:=fun _ _ _ _ _ st h=>wpAny_pyIter_tupleiter st h
theorem qAe {P:Program} {w:World} {K:W.Frag} {A:Around} {tg:Expr} (it:Addr) (lo:Int) (n:Nat):Turn P w K A tg (Itr lo n) [it] it (fun i h=>IsRangeIter h it (lo + (i:Nat) * 1) ((n:Int) - (i:Nat)) 1) where
 mem:=by simp
 obj:=fun i h st b hb=>by
  have e:b=it:=by simpa using hb
  subst e;exact ⟨_,st,fun v z=>by
   have z':Data.fields _=Data.cell v:=z;cases z'⟩
 keep:=fun i h h' st k=>k it (by simp) _ st
 item:=by
  intro X hP hw hK _ i pins s σ H E I hf st hg;subst hP hw hK;obtain ⟨f0,f1,f2,f3,f4,f5⟩:=hf it (by simp)
  refine wpAny_pyNext_range_item st (by have:i < n:=hg;omega) fun h' st' sb => ?_
  have I1:Inv X pins σ H { s with heap:=h',toks:=s.toks + 1 }:=I.turned (fun b o hb e=>(sb.2 b hb).trans e) f0 f1 f3 f4 f5;have st2:IsRangeIter h' it (lo + ((i + 1:Nat):Int) * 1) ((n:Int) - ((i + 1:Nat):Int)) 1:=by
   have q1:lo + (i:Int) * 1 + 1=lo + ((i + 1:Nat):Int) * 1:=by omega
   have q2:(n:Int) - (i:Int) - 1=(n:Int) - ((i + 1:Nat):Int):=by omega
   rw [← q1,← q2];exact st'
  refine ⟨_,rfl,qDQ (s:={ s with heap:=h',toks:=s.toks + 1 }) (n := "range_iterator") st2 rfl rfl (by decide) ⟨.int (lo + i),H,I1,⟨s.toks,?_⟩,⟨rfl,rfl⟩,st2,fun b hb=>(hf b hb).1⟩⟩
  rw [Int.mul_one]
 done:=by
  intro X hP hw hK _ i pins s σ H E I hf st hg;subst hP hw hK;obtain ⟨f0,f1,f2,f3,f4,f5⟩:=hf it (by simp)
  exact EX.range_end I.hndH st (by have:n≤i:=hg;omega) fun h' eb=>⟨rfl,I.turned (t':=s.toks) (fun b o hb e=>eb b o e) f0 f1 f3 f4 f5⟩
 self:=fun _ _ _ _ _ st h=>wpAny_pyIter_rangeiter st h
end L2
namespace L2
open PySem PySem.Spec PyProof.Rows
section
variable {X:Cx} {tg:Expr}
theorem qAG {pins:List (Addr×Obj)} {σ:St} {H:Hp} {s:Shared} {R:It->Hp->Prop} {E:Value->Shared->Prop} {lo hi:Int} {t u v:Tok} {tk:Nat} (I:Inv X pins σ H s) (h1:-(2 ^ 62)≤lo) (h2:lo < 2 ^ 62) (h3:-(2 ^ 62)≤hi) (h4:hi < 2 ^ 62)
  (q:R (Itr lo (hi - lo).toNat) H):wpAny (model X.prog X.w) X.A (pyIter (.ref s.heap.objs.size)) (PIE X pins σ tg R) E { s with heap:=s.heap.push { cls := .type "range",data := .fields #[.int lo t,.int hi u,.int 1 v] },toks:=tk }:=by
 refine wpAny_pyIter_range (IsRange.new ..) (small_one h1 h2 h3 h4) ?_;have I1:Inv X pins σ H { s with heap:=s.heap.push { cls := .type "range",data := .fields #[.int lo t,.int hi u,.int 1 v] },toks:=tk }:=I.kept fun b o e=>AD _ e;refine ⟨(s.heap.push { cls := .type "range",data := .fields #[.int lo t,.int hi u,.int 1 v] }).objs.size,[(s.heap.push { cls := .type "range",data := .fields #[.int lo t,.int hi u,.int 1 v] }).objs.size],_,_,H,rfl,
  I1.kept (t':=tk) fun b o e=>AD _ e,qAe _ lo (hi - lo).toNat,?_,fun b hb => ?_,q⟩
 ·have e1:lo + ((0:Nat):Int) * 1=lo:=by simp
  have e2:(((hi - lo).toNat:Nat):Int) - ((0:Nat):Int)=Builtin.Range.rangeSize lo hi 1:=by rw [rangeSize_one];split <;> omega
  show IsRangeIter _ _ (lo + ((0:Nat):Int) * 1) ((((hi - lo).toNat:Nat):Int) - ((0:Nat):Int)) 1;rw [e1,e2];exact AY _ rfl
 ·have e:b=(s.heap.push { cls := .type "range",data := .fields #[.int lo t,.int hi u,.int 1 v] }).objs.size:=by simpa using hb
  subst e;exact I1.fpOk (AG _) (I1.hok.fresh (AG _))
def qJH (ta:TA):TI:=fun σ H R=>ta σ H fun vs H1 => ∃ j:Int,vs=[.int j] ∧ -(2 ^ 62)≤j∧j < 2 ^ 62∧R (Itr 0 j.toNat) H1
def qIf (ta:TA):TI:=fun σ H R=>ta σ H fun vs H1 => ∃ i j:Int,vs=[.int i,.int j]∧(-(2 ^ 62)≤i∧i < 2 ^ 62 ∧ -(2 ^ 62)≤j∧j < 2 ^ 62)∧R (Itr i (j - i).toNat) H1
theorem qCJ {a:Expr} {ta:TA} {p pos:Pos} (hg:Gl X "range") (hm:X.mg "range" = none) (ha:PA X [a] ta) (hs:starEach [a] X.env=[(false,eval a X.env)]:=by rfl):PI X tg (.Call (.Name "range" p) [a] [] pos) (qJH ta):=by
 intro pins s σ H R I h;refine Call_ (zr I hg hm boot_range (Bh (thn (ha pos pins s σ H _ I h) fun us s1 ⟨vs,H1,I1,r1,q1⟩ => ?_) hs rfl));obtain ⟨j,e,q1,q2,q⟩:=q1;subst e;cases r1 with
 |cons r rr =>cases rr;obtain ⟨t,rfl⟩:=r;exact call_range_1 (qAG I1 (by omega) (by omega) q1 q2 (by simpa using q))
theorem qCD {a b:Expr} {ta:TA} {p pos:Pos} (hg:Gl X "range") (hm:X.mg "range" = none) (ha:PA X [a,b] ta) (hs:starEach [a,b] X.env=[(false,eval a X.env),(false,eval b X.env)]:=by rfl) (hs2:starEach [b] X.env=[(false,eval b X.env)]:=by rfl) :
  PI X tg (.Call (.Name "range" p) [a,b] [] pos) (qIf ta):=by
 intro pins s σ H R I h;refine Call_ (zr I hg hm boot_range (Bh (thn (ha pos pins s σ H _ I h) fun us s1 ⟨vs,H1,I1,r1,q1⟩ => ?_) (by rw [hs,hs2]) (by rw [hs2];rfl)))
 obtain ⟨i,j,e,⟨q1,q2,q3,q4⟩,q⟩:=q1;subst e;cases r1 with
 |cons r rr =>
  cases rr with
  |cons r' rr =>cases rr;obtain ⟨t,rfl⟩:=r;obtain ⟨t',rfl⟩:=r';exact call_range_2 (qAG I1 q1 q2 q3 q4 q)
def qKR (wi:TI) (g:TG) (tb:TS):TS:=fun D σ H=>wi σ H fun J H1 => ∃ W:Nat->Nat->St->Hp->Prop,(∃ m,W 0 m σ H1) ∧ ∀ i m σ H,W i m σ H ->
 (J.stop i H∧D.nx σ H)∨(J.go i H ∧ ∃ N:St->Hp->Prop,(∀ σ' H',N σ' H' -> ∃ m',m' < m∧W (i + 1) m' σ' H') ∧ ∀ x H',J.yld i H x H'->g x σ H' fun σ2 H2=>tb { D with nx:=N,ct:=N,bk:=D.nx } σ2 H2)
def Ya (fp:List Addr) (h:Heap):List (Addr×Obj):=fp.filterMap fun b=>(h.get? b).map fun o=>(b,o)
theorem zN {fp:List Addr} {h:Heap} {b:Addr} {o:Obj} (hb:b∈fp) (e:h.get? b=some o):(b,o)∈Ya fp h:=Bw.mpr ⟨b,hb,by rw [e];rfl⟩
theorem qCe {fp:List Addr} {h:Heap} {p:Addr×Obj} (hp:p∈Ya fp h):p.1∈fp∧h.get? p.1=some p.2:=by
 obtain ⟨b,hb,e⟩:=Bw.mp hp;cases q:h.get? b with
 |none=>rw [q] at e;cases e
 |some o =>rw [q] at e;have e':(b,o)=p:=Ag e;subst e';exact ⟨hb,q⟩
theorem Inv.pinned {pins:List (Addr×Obj)} {σ:St} {H:Hp} {s:Shared} {fp:List Addr} (I:Inv X pins σ H s) (hf:∀ b∈fp,yT X pins H b) (ho:∀ b∈fp,∃ o,s.heap.get? b=some o ∧ ∀ v,o.data ≠ .cell v):Inv X (pins++Ya fp s.heap) σ H s :=
 I.pins_of fun p hp=>(Am.mp hp).elim (fun z=>I.pin p (A0 _ z)) fun z=>by obtain ⟨hb,e⟩:=qCe z;obtain ⟨f0,f1,f2,_⟩:=hf p.1 hb;obtain ⟨o,e',d⟩:=ho p.1 hb;rw [e] at e';cases e';exact ⟨e,f0,f1,f2,d⟩
theorem Inv.unpinned {pins pl:List (Addr×Obj)} {σ:St} {H:Hp} {s:Shared} (I:Inv X (pins++pl) σ H s):Inv X pins σ H s:=I.pins_of fun p hp=>I.pin p (A0 _ (B6 _ hp))
end
end L2
namespace L2
open PySem PySem.Spec PyProof.Rows
abbrev R2:=V->V->Hp->VK->Prop
def OpR (X:Cx) (f:Value->Value->Sem Value) (r:R2):Prop :=
 ∀ (pins:List (Addr×Obj)) (s:Shared) (σ:St) (H:Hp) (x y:V) (v u:Value) (Q:VK),Inv X pins σ H s->RelV x v->RelV y u->r x y H Q ->
  wpAny (model X.prog X.w) X.A (f v u) (EP X pins σ Q) X.xe s
def UnR (X:Cx) (f:Value->Sem Value) (r:V->Hp->VK->Prop):Prop :=
 ∀ (pins:List (Addr×Obj)) (s:Shared) (σ:St) (H:Hp) (x:V) (v:Value) (Q:VK),Inv X pins σ H s->RelV x v->r x H Q ->
  wpAny (model X.prog X.w) X.A (f v) (EP X pins σ Q) X.xe s
def Wo (X:Cx) (f:Value) (r:List V->Hp->VK->Prop):Prop :=
 ∀ (pins:List (Addr×Obj)) (s:Shared) (σ:St) (H:Hp) (xs:List V) (us:List Value) (Q:VK),Inv X pins σ H s->Vals xs us->r xs H Q ->
  wpAny (model X.prog X.w) X.A (call f us) (EP X pins σ Q) X.xe s
def qKQ (X:Cx) (r:V->Hp->(Bool->Hp->Prop)->Prop):Prop :=
 ∀ (pins:List (Addr×Obj)) (s:Shared) (σ:St) (H:Hp) (x:V) (v:Value) (Q:Bool->Hp->Prop),Inv X pins σ H s->RelV x v->r x H Q ->
  wpAny (model X.prog X.w) X.A (truthy v) (TP X pins σ Q) X.xe s
def tOp (r:R2) (ta tb:TE):TE:=fun σ H Q=>ta σ H fun x H1=>tb σ H1 fun y H2=>r x y H2 Q
def tUn (r:V->Hp->VK->Prop) (ta:TE):TE:=fun σ H Q=>ta σ H fun x H1=>r x H1 Q
def rI (C:Int->Int->Prop) (g:Int->Int->V):R2:=fun x y H Q => ∃ i j,x = .int i∧y = .int j∧C i j∧Q (g i j) H
def rI0 (g:Int->Int->V):R2:=fun x y H Q => ∃ i j,x = .int i∧y = .int j∧Q (g i j) H
def rU (g:Int->V):V->Hp->VK->Prop:=fun x H Q => ∃ i,x = .int i∧Q (g i) H
section
variable {X:Cx} {a b c:Expr} {ta tb tc:TE} {pos:Pos}
theorem qHU (ha:PE X a ta) (hb:PE X b tb) {pins:List (Addr×Obj)} {s:Shared} {σ:St} {H:Hp} {R:V->V->Hp->Prop} (I:Inv X pins σ H s)
  (h:ta σ H fun x H1=>tb σ H1 fun y H2=>R x y H2) {Q:Value->Shared->Prop} {f:Value->Value->Sem Value}
  (hf:∀ v u s2 x y H2,Inv X pins σ H2 s2->RelV x v->RelV y u->R x y H2->wpAny (model X.prog X.w) X.A (f v u) Q X.xe s2) :
  wpAny (model X.prog X.w) X.A (eval a X.env) (fun v s₁=>wpAny (model X.prog X.w) X.A (eval b X.env) (fun u s₂=>wpAny (model X.prog X.w) X.A (f v u) Q X.xe s₂) X.xe s₁) X.xe s:=by refine thn (ha pins s σ H _ I h) fun v s1 ⟨x,H1,I1,r1,q1⟩ => ?_;refine thn (hb pins s1 σ H1 _ I1 q1) fun u s2 ⟨y,H2,I2,r2,q2⟩ => ?_;exact hf v u s2 x y H2 I2 r1 r2 q2
theorem qGY {op:Operator} {r:R2} (ho:OpR X (binaryOp op) r) (ha:PE X a ta) (hb:PE X b tb):PE X (.BinOp a op b pos) (tOp r ta tb):=by intro pins s σ H Q I h;exact wpAny_BinOp (qHU ha hb I h fun v u s2 x y H2 I2 rx ry q=>ho pins s2 σ H2 x y v u Q I2 rx ry q)
theorem qJh {op:UnaryOp} {r:V->Hp->VK->Prop} (ho:UnR X (unaryOp op) r) (ha:PE X a ta):PE X (.UnaryOp op a pos) (tUn r ta):=by intro pins s σ H Q I h;exact UnaryOp_ (thn (ha pins s σ H _ I h) fun v s1 ⟨x,H1,I1,r1,q1⟩=>ho pins s1 σ H1 x v Q I1 r1 q1)
theorem opI {f:Value->Value->Sem Value} {C:Int->Int->Prop} {g:Int->Int->Int}
  (rule:∀ (i j:Int) (t u:Tok) (s:Shared) (Q:Value->Shared->Prop) (E:Value->Shared->Prop),C i j->Q (.int (g i j) s.toks) { s with toks:=s.toks + 1 }->wpAny (model X.prog X.w) X.A (f (.int i t) (.int j u)) Q E s) :
  OpR X f (rI C fun i j => .int (g i j)):=by intro pins s σ H x y v u Q I rx ry h;obtain ⟨i,j,rfl,rfl,hc,q⟩:=h;obtain ⟨t,rfl⟩:=rx;obtain ⟨t',rfl⟩:=ry;exact rule i j t t' s _ _ hc ⟨.int (g i j),H,I.tok _,⟨_,rfl⟩,q⟩
theorem qI3 {f:Value->Value->Sem Value} {g:Int->Int->Int}
  (rule:∀ (i j:Int) (t u:Tok) (s:Shared) (Q:Value->Shared->Prop) (E:Value->Shared->Prop),Q (.int (g i j) s.toks) { s with toks:=s.toks + 1 }->wpAny (model X.prog X.w) X.A (f (.int i t) (.int j u)) Q E s) :
  OpR X f (rI0 fun i j => .int (g i j)):=by intro pins s σ H x y v u Q I rx ry h;obtain ⟨i,j,rfl,rfl,q⟩:=h;obtain ⟨t,rfl⟩:=rx;obtain ⟨t',rfl⟩:=ry;exact rule i j t t' s _ _ ⟨.int (g i j),H,I.tok _,⟨_,rfl⟩,q⟩
theorem qHf {f:Value->Value->Sem Value} {g:Int->Int->Bool}
  (rule:∀ (i j:Int) (t u:Tok) (s:Shared) (Q:Value->Shared->Prop) (E:Value->Shared->Prop),Q (.bool (g i j)) s->wpAny (model X.prog X.w) X.A (f (.int i t) (.int j u)) Q E s) :
  OpR X f (rI0 fun i j => .bl (g i j)):=by intro pins s σ H x y v u Q I rx ry h;obtain ⟨i,j,rfl,rfl,q⟩:=h;obtain ⟨t,rfl⟩:=rx;obtain ⟨t',rfl⟩:=ry;exact rule i j t t' s _ _ ⟨.bl (g i j),H,I,rfl,q⟩
def qKE (i j:Int):Prop:=0 < j∧j < 1073741824
def qJ4 (i j:Int):Prop:=0≤j∧j≤1000000∧i.natAbs < 2 ^ 64
def CMul (i j:Int):Prop:=(-(2 ^ 64) < i∧i < 2 ^ 64)∨(-(2 ^ 64) < j∧j < 2 ^ 64)
theorem CMul.ok {i j:Int} (h:CMul i j):IntMulOk i j:=by
 rcases h with ⟨h1,h2⟩ |⟨h1,h2⟩
 ·exact .of_left (intBits_le_64 h1 h2)
 ·exact .of_right (intBits_le_64 h1 h2)
theorem qGt:OpR X (binaryOp .Add) (rI0 fun i j => .int (i + j)):=qI3 fun _ _ _ _ _ _ _ q=>add_int q
theorem qHO:OpR X (binaryOp .Sub) (rI0 fun i j => .int (i - j)):=qI3 fun _ _ _ _ _ _ _ q=>sub_int q
theorem qIF:OpR X (binaryOp .Mult) (rI CMul fun i j => .int (i * j)):=opI fun _ _ _ _ _ _ _ hc q=>mul_int q hc.ok
theorem qFL:OpR X (binaryOp .FloorDiv) (rI qKE fun i j => .int (i / j)):=opI fun i j _ _ _ _ _ hc q=>by have h1:(0:Int) < j:=hc.1;have h2:j < 1073741824:=hc.2;exact floordiv_int (by omega) (by rw [Int.fdiv_eq_ediv_of_nonneg i (by omega)];exact q) (.inl (PyProof.noPylong_small (by omega)))
theorem qID:OpR X (binaryOp .Mod) (rI (fun _ j=>0 < j) fun i j => .int (i % j)):=opI fun i j _ _ _ _ _ hc q=>by have h1:(0:Int) < j:=hc;exact mod_int' (by omega) (by rw [Int.fmod_eq_emod_of_nonneg i (by omega)];exact q)
theorem qHB:OpR X (binaryOp .Pow) (rI qJ4 fun i j => .int (i ^ j.toNat)):=opI fun _ _ _ _ _ _ _ hc q=>pow_int_small hc.1 hc.2.1 hc.2.2 q
theorem unI {f:Value->Sem Value} {g:Int->Int}
  (rule:∀ (i:Int) (t:Tok) (s:Shared) (Q:Value->Shared->Prop) (E:Value->Shared->Prop),Q (.int (g i) s.toks) { s with toks:=s.toks + 1 }->wpAny (model X.prog X.w) X.A (f (.int i t)) Q E s) :
  UnR X f (rU fun i => .int (g i)):=by intro pins s σ H x v Q I rx h;obtain ⟨i,rfl,q⟩:=h;obtain ⟨t,rfl⟩:=rx;exact rule i t s _ _ ⟨.int (g i),H,I.tok _,⟨_,rfl⟩,q⟩
theorem qHR:UnR X (unaryOp .USub) (rU fun i => .int (-i)):=unI fun _ _ _ _ _ q=>neg_int q
theorem qGV:OpR X (compareOp .Lt) (rI0 fun i j => .bl (decide (i < j))):=qHf fun _ _ _ _ _ _ _ q=>lt_int q
theorem qGc:OpR X (compareOp .LtE) (rI0 fun i j => .bl (decide (i≤j))):=qHf fun _ _ _ _ _ _ _ q=>le_int q
theorem qDe:OpR X (compareOp .Gt) (rI0 fun i j => .bl (decide (j < i))):=qHf fun _ _ _ _ _ _ _ q=>gt_int q
theorem QC (b:Expr) {op:CmpOp} (h:op ≠ .In:=by decide) (h2:op ≠ .NotIn:=by decide):behindInMarks op b=false:=by
 have e1:(op==CmpOp.In)=false:=by cases op <;> first |rfl |exact absurd rfl h
 have e2:(op==CmpOp.NotIn)=false:=by cases op <;> first |rfl |exact absurd rfl h2
 cases b <;> simp [behindInMarks,e1,e2]
theorem qFG {op:CmpOp} {r:R2} (ho:OpR X (compareOp op) r) (ha:PE X a ta) (hb:PE X b tb) (hm:behindInMarks op b=false):PE X (.Compare a [op] [b] pos) (tOp r ta tb):=by intro pins s σ H Q I h;exact wpAny_Compare1 (qHU ha hb I h fun v u s2 x y H2 I2 rx ry q=>ho pins s2 σ H2 x y v u Q I2 rx ry q) hm
def qJF (t:TE):TT:=fun σ H Q=>t σ H fun x H' => ∃ k,x = .bl k∧Q k H'
theorem qFA {op:CmpOp} {r:R2} (ho:OpR X (compareOp op) r) (ha:PE X a ta) (hb:PE X b tb) (hm:behindInMarks op b=false):PT X (.Compare a [op] [b] pos) (qJF (tOp r ta tb)):=by
 intro pins s σ H Q I h;refine wpAny_isTrue_Compare1 (thn (ha pins s σ H _ I h) fun v s1 ⟨x,H1,I1,r1,q1⟩=>thn (hb pins s1 σ H1 _ I1 q1) fun u s2 ⟨y,H2,I2,r2,q2⟩ =>
  thn (ho pins s2 σ H2 x y v u _ I2 r1 r2 q2) fun c s3 ⟨z,H3,I3,r3,k,e,q3⟩ => ?_) hm
 subst e;cases r3;exact Bm ⟨H3,I3,q3⟩
def qHJ (r r':R2) (ta tb tc:TE):TE:=fun σ H Q=>ta σ H fun x H1=>tb σ H1 fun y H2=>r x y H2 fun z H3 => ∃ k,z = .bl k ∧
 (if k=true then tc σ H3 fun w' H4=>r' y w' H4 Q else Q (.bl false) H3)
theorem qDJ {op op':CmpOp} {r r':R2} (ho:OpR X (compareOp op) r) (ho':OpR X (compareOp op') r') (ha:PE X a ta) (hb:PE X b tb) (hc:PE X c tc)
  (hm:lastMarks [op,op'] [b,c]=false:=by with_unfolding_all rfl):PE X (.Compare a [op,op'] [b,c] pos) (qHJ r r' ta tb tc):=by
 intro pins s σ H Q I h;refine Compare_chain (thn (ha pins s σ H _ I h) fun v s1 ⟨x,H1,I1,r1,q1⟩=>chain_link (thn (hb pins s1 σ H1 _ I1 q1) fun u s2 ⟨y,H2,I2,r2,q2⟩ =>
  thn (ho pins s2 σ H2 x y v u _ I2 r1 r2 q2) fun d s3 ⟨z,H3,I3,r3,k,e,q3⟩ => ?_)) hm
 subst e;cases r3;refine Bm ?_;cases k with
 |false=>exact ite_ff ⟨.bl false,H3,I3,rfl,q3⟩
 |true=>exact ite_tt (chain_last (thn (hc pins s3 σ H3 _ I3 q3) fun w' s4 ⟨z',H4,I4,r4,q4⟩=>ho' pins s4 σ H4 y z' u w' Q I4 r2 r4 q4))
def qE3 (K:W.Frag) (x:V) (H:Hp) (k:Bool):Prop :=
 match x with
 | .non=>k=false
 | .bl b=>k=b
 | .int i=>k=(i != 0)
 | .str y=>y.length≤sizeLine∧k=((y.length:Int) != 0)
 | .byt y=>y.size≤sizeLine∧k=((y.size:Int) != 0)
 | .ref p=>(∃ xs,SqL K H p xs∧k = !xs.isEmpty)∨(∃ xs,SqT K H p xs∧k = !xs.isEmpty) ∨ ∃ kvs,H p=some (.dK kvs)∧k = !kvs.isEmpty
 |_=>False
theorem qAx {κ:Type} {kvs:List (κ×V)} {vs:List (κ×Value)} (r:KV kvs vs):(!vs.isEmpty) = !kvs.isEmpty:=by cases r <;> rfl
theorem YF {xs:List V} {its:List Value} (r:Vals xs its):(!its.toArray.isEmpty) = !xs.isEmpty:=by cases r <;> simp
theorem Z5:(sizeLine:Nat) < 2 ^ 63:=by rw [Bq];decide
theorem qGl:qKQ X (fun x H Q => ∃ k,qE3 X.K x H k∧Q k H):=by
 intro pins s σ H x v Q I rx h;obtain ⟨k,e,q⟩:=h;have hl:=Z5;have hs:sizeLine=16777216:=Bq;cases x with
 |non =>cases rx;have e':k=false:=e;subst e';exact truthy_none ⟨H,I,q⟩
 |bl b =>cases rx;have e':k=b:=e;subst e';exact Bm ⟨H,I,q⟩
 |int i =>obtain ⟨t,rfl⟩:=rx;have e':k=(i != 0):=e;subst e';exact PySem.P.truthy_int ⟨H,I,q⟩
 |str y =>obtain ⟨t,rfl⟩:=rx;obtain ⟨hy,e'⟩:y.length≤sizeLine∧k=((y.length:Int) != 0):=e;subst e';exact PySem.P.truthy_str (by omega) ⟨H,I.tok _,q⟩
 |byt y =>obtain ⟨t,rfl⟩:=rx;obtain ⟨hy,e'⟩:y.size≤sizeLine∧k=((y.size:Int) != 0):=e;subst e';exact W.truthy_bytes (by omega) ⟨H,I.tok _,q⟩
 |ref p =>
  cases rx;have e':(∃ xs,SqL X.K H p xs∧k = !xs.isEmpty)∨(∃ xs,SqT X.K H p xs∧k = !xs.isEmpty) ∨ ∃ kvs,H p=some (.dK kvs)∧k = !kvs.isEmpty:=e;rcases e' with ⟨xs,hx,e'⟩ |⟨xs,hx,e'⟩ |⟨kvs,hx,e'⟩
  ·subst e';obtain ⟨its,r,pl,hz⟩:=I.list hx;have hlen:=r.length;exact wpAny_truthy_list pl.isList (by simp only [AM];omega) ⟨H,I.tok _,by rw [YF r];exact q⟩
  ·subst e';obtain ⟨its,r,pl,hz⟩:=I.tuple hx;have hlen:=r.length;exact truthy_tuple pl (by simp only [AM];omega) ⟨H,I.tok _,by rw [YF r];exact q⟩
  ·subst e';obtain ⟨hz,hS,vs,r,m⟩:kvs.length≤sizeLine∧(p==sysModules)=false ∧ ∃ vs,KV kvs vs∧s.heap.DictOf (jV X.prog X.w) p vs:=I.hok p _ hx;have hlen:kvs.length=vs.length:=Paired.length r;exact wpAny_truthy_dict hS m (by omega) ⟨H,I.tok _,by rw [qAx r];exact q⟩
 |_=>exact (show False from e).elim
theorem qEl (ha:PE X a ta) (he:∀ whole,isTrue a X.env whole=(do let v ← whole;standAt a.pos;holding [v] (truthy v))) :
  PT X a (fun σ H Q=>ta σ H fun x H' => ∃ k,qE3 X.K x H' k∧Q k H'):=by intro pins s σ H Q I h;exact isTrue_plain (thn (ha pins s σ H _ I h) fun v s1 ⟨x,H1,I1,r1,q1⟩=>qGl pins s1 σ H1 x v Q I1 r1 q1) (he _)
theorem qAv:OpR X (binaryOp .Add) (fun x y H Q => ∃ i j,x = .str i∧y = .str j∧i.length + j.length≤sizeLine∧Q (.str (i++j)) H):=by intro pins s σ H x y v u Q I rx ry h;obtain ⟨i,j,rfl,rfl,hz,q⟩:=h;obtain ⟨t,rfl⟩:=rx;obtain ⟨t',rfl⟩:=ry;exact add_str (fun t' tk=>⟨.str (i++j),H,I.tok _,⟨_,rfl⟩,q⟩) hz
theorem YE {x:V} {us:List Value} (r:Vals [x] us):∃ u,us=[u]∧RelV x u:=by
 cases r with
 |cons r1 r2=>cases r2;exact ⟨_,rfl,r1⟩
theorem qBB {x y:V} {us:List Value} (r:Vals [x,y] us):∃ u w',us=[u,w']∧RelV x u∧RelV y w':=by
 cases r with
 |cons r1 r2 =>
  cases r2 with
  |cons r3 r4=>cases r4;exact ⟨_,_,rfl,r1,r3⟩
theorem qB6 (hc:X.calm=true):Wo X (.builtin "max") (fun xs H Q => ∃ i j,xs=[.int i,.int j]∧Q (.int (if j > i then j else i)) H):=by
 intro pins s σ H xs us Q I r h;obtain ⟨i,j,rfl,q⟩:=h;obtain ⟨u,w',rfl,⟨t,rfl⟩,⟨t',rfl⟩⟩:=qBB r;refine max_two_ints (I.ok.hd hc) fun h' tk k=>⟨_,H,I.kept k,?_,q⟩;by_cases hj:j > i
 ·rw [AF hj,AF hj];exact ⟨_,rfl⟩
 ·rw [AK hj,AK hj];exact ⟨_,rfl⟩
theorem qCW (hc:X.calm=true):Wo X (.builtin "min") (fun xs H Q => ∃ i j,xs=[.int i,.int j]∧Q (.int (if j < i then j else i)) H):=by
 intro pins s σ H xs us Q I r h;obtain ⟨i,j,rfl,q⟩:=h;obtain ⟨u,w',rfl,⟨t,rfl⟩,⟨t',rfl⟩⟩:=qBB r;refine min_two_ints (I.ok.hd hc) fun h' tk k=>⟨_,H,I.kept k,?_,q⟩;by_cases hj:j < i
 ·rw [AF hj,AF hj];exact ⟨_,rfl⟩
 ·rw [AK hj,AK hj];exact ⟨_,rfl⟩
end
end L2
namespace L2
open PySem PySem.Spec PyProof.Rows
end L2
namespace L2
open PySem PySem.Spec PyProof.Rows
structure Room (k:Nat) (A:Around):Prop where
 hd:1 < k->A.handled=none
 dp:A.depth + 3 * k + 5 < recursionLimit
 un:A.units + 16 * k + 200 < cLine
 gd:A.guards=some []
theorem Room.mono {j k:Nat} {A:Around} (r:Room k A) (h:j≤k):Room j A:=⟨fun z=>r.hd (by omega),by have:=r.dp;omega,by have:=r.un;omega,r.gd⟩
theorem Room.deeper {k:Nat} {A:Around} (r:Room (k + 1) A) (env:Env):Room k (A.deeper env) :=
 ⟨fun z=>r.hd (by omega),by have:=r.dp;show A.depth + 1 + 3 * k + 5 < _;omega,by have:=r.un;show A.units + 3 + 16 * k + 200 < _;omega,r.gd⟩
theorem Room.depth {k:Nat} {A:Around} (r:Room k A):A.depth < recursionLimit:=by have:=r.dp;omega
theorem Room.units {k:Nat} {A:Around} (r:Room k A):A.units + 64 < cLine:=by have:=r.un;omega
def qJu:TA:=fun _ H Q=>Q [] H
def qIj (ta:TE) (tr:TA):TA:=fun σ H Q=>ta σ H fun x H1=>tr σ H1 fun xs H2=>Q (x::xs) H2
section
variable {X:Cx} {e:Expr} {es:List Expr} {te:TE} {t:TA} {pos:Pos}
theorem Yp:PA X [] qJu:=fun _ _ _ _ H Q I h=>Calls.spliced_nil ⟨[],H,I,.nil,h⟩
theorem Z1 (ha:PE X e te) (hr:PA X es t) (hs:starEach (e::es) X.env=(false,eval e X.env)::starEach es X.env:=by rfl):PA X (e::es) (qIj te t):=by intro pos pins s σ H Q I h;rw [hs];show wpAny _ _ (spliced ((false,eval e X.env)::backTo pos (starEach es X.env))) _ _ s;refine CQ (thn (ha pins s σ H _ I h) fun u s1 ⟨x,H1,I1,r1,q1⟩ => ?_);exact thn (hr pos pins s1 σ H1 _ I1 q1) fun us s2 ⟨xs,H2,I2,r2,q2⟩=>⟨x::xs,H2,I2,.cons r1 r2,q2⟩
def qJq (t:TA):TE:=fun σ H Q=>t σ H fun xs H1=>xs.length≤sizeLine ∧ ∀ p,H1 p=none->Q (.ref p) (upd H1 p (.tup xs))
def qKF (t:TA):TE:=fun σ H Q=>t σ H fun xs H1=>xs.length≤sizeLine ∧ ∀ p,H1 p=none->Q (.ref p) (upd H1 p (.lst xs))
theorem qG2 {x1} (h:PA X es t):PE X (.Tuple es x1 pos) (qJq t):=by
 intro pins s σ H Q I hq;refine wpAny_Tuple_spliced (thn (h pos pins s σ H _ I hq) fun us s1 ⟨xs,H1,I1,r,z,q⟩=>⟨by rw [← r.length];exact z,?_⟩)
 have hf:H1 s1.heap.objs.size=none:=I1.hok.fresh (AG _);refine ⟨.ref s1.heap.objs.size,upd H1 s1.heap.objs.size (.tup xs),I1.laid (t':=s1.toks) (fun b u e=>AD _ e) (AG _) ?_,rfl,q _ hf⟩;exact ⟨z,us,r,⟨_,AY _ rfl,rfl,_,rfl⟩⟩
theorem qHu (h:PA X es t):PE X (.List es pos) (qKF t):=by
 intro pins s σ H Q I hq;refine wpAny_List_spliced (thn (h pos pins s σ H _ I hq) fun us s1 ⟨xs,H1,I1,r,z,q⟩=>⟨by rw [← r.length];exact z,?_⟩)
 have hf:H1 s1.heap.objs.size=none:=I1.hok.fresh (AG _);refine ⟨.ref s1.heap.objs.size,upd H1 s1.heap.objs.size (.lst xs),I1.laid (t':=s1.toks) (fun b u e=>AD _ e) (AG _) ?_,rfl,q _ hf⟩;exact ⟨z,us,0,r,AY _ rfl⟩
end
abbrev Sp:=List V->Hp->VK->XK->Prop
abbrev CXT:=List Env->Hp->Shared->XK->Value->Shared->Prop
structure Env0 (P:Program) (w:World) (K:W.Frag) (mg:Str->Option Value) (base:Heap) (A:Around) (outer:List Env) (s:Shared) (H:Hp):Prop where
 frames:A.frames=some outer
 mod:Mod K mg base
 bs:∀ b o,base.get? b=some o->s.heap.get? b=some o∧H b=none
 bsz:base.objs.size≤s.heap.objs.size
 funs:s.heap.FunFrames base outer
 frf:∀ b∈frs outer,H b=none
 hok:HOk P w H s.heap
 bare:AllBare s.gens
 hnd:HndH A H
def CE (outer:List Env) (P:Program) (w:World) (H:Hp) (s:Shared) (Q:VK) (u:Value) (s':Shared):Prop :=
 ∃ v H',s'.os=s.os∧AllBare s'.gens∧Un (frs outer) [] H H' s.heap s'.heap∧HOk P w H' s'.heap∧RelV v u∧Q v H'
def CR (CX:CXT) (outer:List Env) (P:Program) (w:World) (H:Hp) (s:Shared) (Q:VK) (E:XK) (r:Result) (s':Shared):Prop :=
 match r with
 | .ok (.ret u)=>CE outer P w H s Q u s'
 | .ok _=>False
 | .error e=>CX outer H s E e s'
structure FnOk (P:Program) (w:World) (K:W.Frag) (mg:Str->Option Value) (base:Heap) (CX:CXT) (k:Nat) (f:Addr) (fd:FuncData) (ps:List Str) (sp:Sp):Prop where
 len:∀ vs H Q E,sp vs H Q E->vs.length=ps.length
 run:∀ (A:Around) (outer:List Env) (s:Shared) (H:Hp) (args:Args) (us:List Value) (vs:List V) (Q:VK) (E:XK),Room k A->Env0 P w K mg base A outer s H->BindsTo s fd args (ps.zip us)->Vals vs us->sp vs H Q E ->
  codeAny (model P w) A (.call (.ref f) args) (CR CX outer P w H s Q E) s
section
variable {X:Cx} {pins:List (Addr×Obj)} {σ:St} {H:Hp} {s s':Shared}
theorem Inv.env0 (I:Inv X pins σ H s):Env0 X.prog X.w X.K X.mg X.base X.A X.stack s H :=
 ⟨I.ok.frames,I.ok.mod,I.bs,Aa I.ok.bsz I.sz,I.stack,I.stkFree,I.hok,I.bare,I.hnd⟩
theorem Inv.after {Q:VK} {u:Value} (I:Inv X pins σ H s) (h:CE X.stack X.prog X.w H s Q u s'):EP X pins σ Q u s':=by obtain ⟨v,H',os,bare,un,hok,r,q⟩:=h;obtain ⟨hh,g,d,t,os'⟩:=s';obtain rfl:os'=s.os:=os;exact ⟨v,H',I.call (h':=hh) (g':=g) (d':=d) (t':=t) (ch:=[]) un hok bare (fun b z=>absurd z (by simp)),r,q⟩
end
def qJc (sp:Sp) (dvs:List V) (E:XK) (t:TA):TE:=fun σ H Q=>t σ H fun vs H1=>sp (vs++dvs) H1 Q E
def Binds (K:W.Frag) (fd:FuncData) (ps:List Str) (ds:List Value):Prop :=
 ∀ (s:Shared) (us:List Value),K.In s.heap->(us++ds).length=ps.length->BindsTo s fd ⟨us,[]⟩ (ps.zip (us++ds))
theorem Binds.all {K:W.Frag} {fd:FuncData} {ps:List Str} (h:∀ us:List Value,us.length=ps.length->bindArgs fd ⟨us,[]⟩=pure (ps.zip us)):Binds K fd ps []:=fun s us _ hl=>by rw [BP] at hl ⊢;exact .of_eq (h us hl)
def zp (CX:CXT) (X:Cx) (E:XK):Prop := ∀ (pins:List (Addr×Obj)) (σ:St) (H:Hp) (s:Shared) (e:Value) (s':Shared),Inv X pins σ H s->CX X.stack H s E e s'->X.xe e s'
section
variable {X:Cx} {CX:CXT} {k:Nat} {f C:Addr} {fd:FuncData} {ps:List Str} {sp:Sp} {dvs:List V} {ds:List Value} {E:XK} {x m:Str} {p pos apos:Pos} {e o:Expr} {es:List Expr} {ta:TE} {t:TA}
theorem qIB {pins:List (Addr×Obj)} {σ:St} {H:Hp} {s:Shared} {Q:VK} {us:List Value} {vs:List V} (F:FnOk X.prog X.w X.K X.mg X.base CX k f fd ps sp) (hr:Room k X.A) (hb:Binds X.K fd ps ds) (hd:Vals dvs ds) (hx:zp CX X E)
  (I:Inv X pins σ H s) (r:Vals vs us) (h:sp (vs++dvs) H Q E):wpAny (model X.prog X.w) X.A (call (.ref f) us) (EP X pins σ Q) X.xe s:=by
 have r2:Vals (vs++dvs) (us++ds):=r.append hd;have hl:(us++ds).length=ps.length:=by rw [← r2.length];exact F.len _ _ _ _ h
 refine By (codeAny_mono (F.run X.A X.stack s H ⟨us,[]⟩ (us++ds) (vs++dvs) Q E hr I.env0 (hb s us I.kIn hl) r2 h) fun r s' hq => ?_);cases r with
 |error e=>exact hx pins σ H s e s' I hq
 |ok fl =>
  cases fl with
  |ret u=>exact I.after hq
  |next=>exact False.elim hq
  |brk=>exact False.elim hq
  |cont=>exact False.elim hq
theorem qFN (F:FnOk X.prog X.w X.K X.mg X.base CX k f fd ps sp) (hr:Room k X.A) (hg:Gl X x) (hm:X.mg x=some (.ref f)) (hk:W.keepIn X.K (.ref f)=true) (hb:Binds X.K fd ps ds) (hd:Vals dvs ds) (hx:zp CX X E)
  (ha:PA X (e::es) t) (hdb:(x==("__debug__":Str))=false:=by decide) (he:starEach (e::es) X.env=(false,eval e X.env)::starEach es X.env:=by rfl) (hpl:(backTo pos (starEach es X.env)).any (·.1)=false:=by rfl) :
  PE X (.Call (.Name x p) (e::es) [] pos) (qJc sp dvs E t):=by intro pins s σ H Q I h;refine Bi (jX I hg hm ?_ hdb);refine W.callWith_K (h₀:=X.base) I.ok.mod.kin hk (thn (ha pos pins s σ H _ I h) fun us s1 ⟨vs,H1,I1,r,q⟩=>⟨I1.kIn,?_⟩) he hpl;exact qIB F hr hb hd hx I1 r q
end
structure FnScope (N P:List Str) (sc:Scope):Prop where
 kind:sc.kind = .function
 co:sc.isCoroutine=false
 gen:sc.isGenerator=false
 nd:N.Nodup
 pre:N.take P.length=P
 par:∀ x∈P,sc.names.lookup x=some .local∨sc.names.lookup x=some .cell
 nofree:∀ y∈sc.names,y.2 ≠ .free
theorem Y6 {kindOf:Str->Option NameKind} {x:Str}:∀ {binds:List (Str×Value)} {m:Str->Option Value},(∀ v,(x,v) ∉ binds)->bindL kindOf binds m x=m x
 |[],_,_=>rfl
 |(n,v)::r,m,h=>by
  unfold bindL;rw [Y6 fun w hw=>h w (AE _ hw)];split
  ·have:x≠n:=by rintro rfl;exact h v AL
   simp [this]
  ·rfl
theorem Y1 {kindOf:Str->Option NameKind} {x:Str}:∀ {binds:List (Str×Value)} {m:Str->Option Value},(∀ v,(x,v) ∉ binds)->bindC kindOf binds m x=m x
 |[],_,_=>rfl
 |(n,v)::r,m,h=>by
  unfold bindC;rw [Y1 fun w hw=>h w (AE _ hw)];split
  ·rfl
  ·have:x≠n:=by rintro rfl;exact h v AL
   simp [this]
theorem jO {kindOf:Str->Option NameKind} {x:Str} {v:Value}:∀ {P:List Str} {vs:List Value} {i:Nat} {m:Str->Option Value},P.Nodup->P[i]? = some x->vs[i]? = some v->kindOf x=some .local ->
  bindL kindOf (P.zip vs) m x=some v
 |[],_,_,_,_,h,_,_=>by simp at h
 |_::_,[],_,_,_,_,h,_=>by simp at h
 |p::P,w::vs,0,m,nd,h1,h2,hk=>by simp at h1 h2;subst h1;subst h2;show bindL kindOf ((p,w)::P.zip vs) m p=_;unfold bindL;rw [Y6 fun v hv=>(BE.mp nd).1 (List.of_mem_zip hv).1,AF hk];simp
 |p::P,w::vs,i + 1,m,nd,h1,h2,hk=>by show bindL kindOf ((p,w)::P.zip vs) m x=_;unfold bindL;exact jO (i:=i) (BE.mp nd).2 (by simpa using h1) (by simpa using h2) hk
theorem Y4 {kindOf:Str->Option NameKind} {x:Str} {v:Value}:∀ {P:List Str} {vs:List Value} {i:Nat} {m:Str->Option Value},P.Nodup->P[i]? = some x->vs[i]? = some v->kindOf x≠some .local ->
  bindC kindOf (P.zip vs) m x=some v
 |[],_,_,_,_,h,_,_=>by simp at h
 |_::_,[],_,_,_,_,h,_=>by simp at h
 |p::P,w::vs,0,m,nd,h1,h2,hk=>by simp at h1 h2;subst h1;subst h2;show bindC kindOf ((p,w)::P.zip vs) m p=_;unfold bindC;rw [Y1 fun v hv=>(BE.mp nd).1 (List.of_mem_zip hv).1,AK hk];simp
 |p::P,w::vs,i + 1,m,nd,h1,h2,hk=>by show bindC kindOf ((p,w)::P.zip vs) m x=_;unfold bindC;exact Y4 (i:=i) (BE.mp nd).2 (by simpa using h1) (by simpa using h2) hk
def start (N:List Str) (vs:List V):St:=vs.map some++List.replicate (N.length - vs.length) none
def wS (CX:CXT) (P:Program) (w:World) (K:W.Frag) (mg:Str->Option Value) (base:Heap) (N:List Str) (qual:Str) (scope:Scope) (f:Addr) (cd:Value) (A:Around) (outer:List Env) (s:Shared) (H:Hp) (E:XK):Cx where
 prog:=P
 w:=w
 K:=K
 mg:=mg
 base:=base
 A:=A.deeper (envOfC qual scope s.heap.objs.size f cd)
 N:=N
 s₀:=s
 H₀:=H
 env:=envOfC qual scope s.heap.objs.size f cd
 outer:=outer
 stack:=envOfC qual scope s.heap.objs.size f cd::outer
 ex:=[]
 calm:=A.handled.isNone
 fn:=fun _=>true
 pn:=[]
 xe:=fun e s'=>wpAny (model P w) (A.deeper (envOfC qual scope s.heap.objs.size f cd)) (leaving (envOfC qual scope s.heap.objs.size f cd) e) (fun _ s''=>CX outer H s E e s'') (fun e' s''=>CX outer H s E e' s'') s'
theorem J4 {sc:Scope} {n:Nat} {x:Str} (h:sc.names.lookup x=some .cell):∃ c,(cellsFrom n sc.names []).lookup x=some c:=by have q:=W.cellsFrom_some sc.names n [] (.inl h);exact Option.isSome_iff_exists.mp q
theorem qCC {CX:CXT} {P:Program} {w:World} {K:W.Frag} {mg:Str->Option Value} {base:Heap} {N ps:List Str} {qual:Str} {scope:Scope} {f:Addr} {cd:Value} {A:Around} {outer:List Env} {s s1:Shared} {H:Hp} {E:XK} {us:List Value} {vs:List V}
  (S:FnScope N ps scope) (e0:Env0 P w K mg base A outer s H) (hl:vs.length=ps.length) (r:Vals vs us)
  (x:InCallC s s.heap.objs.size (bindL (envOfC qual scope s.heap.objs.size f cd).kindOf (ps.zip us) fun _=>none) (cellsFrom (s.heap.objs.size + 1) scope.names []) (bindC (envOfC qual scope s.heap.objs.size f cd).kindOf (ps.zip us) fun _=>none) s1) :
  Inv (wS CX P w K mg base N qual scope f cd A outer s H E) [] (start N vs) H s1:=by
 have hpl:ps.length≤N.length:=by have:=CP List.length S.pre;rw [Bf] at this;omega
 obtain ⟨h1,tk,rfl,hk⟩:=x.done;have noA:∀ b:Addr,b ∉ (wS CX P w K mg base N qual scope f cd A outer s H E).ex:=fun b z=>absurd (show b∈([]:List Addr) from z) (by simp)
 refine ⟨⟨e0.mod,S.kind,rfl,rfl,AG _,fun y z c h1 h2 => ?_,fun y hy => ?_,fun y c _ h => ?_,fun z=>Option.isNone_iff_eq_none.mp z,Around.frames_deeper e0.frames,.inr ⟨rfl,rfl⟩,fun b z=>absurd z (noA b),e0.bs,e0.bsz,fun b _ _=>noA b,fun b z=>absurd z (noA b),e0.funs,e0.frf⟩,
  rfl,e0.bare,Un.kept hk,⟨_,x.toInCall.ns,fun i y v h1 h2 h3 => ?_⟩,fun y c h=>⟨_,x.cell y c h⟩,e0.hok.fresh (AG _),fun y c h => ?_,fun p hp=>absurd (show p∈([]:List (Addr×Obj)) from hp) (by simp),e0.hok.kept hk,?_,e0.hnd⟩
 ·exact name_of_addr x.apart (BS h1) (BS h2)
 ·have hy:scope.names.lookup y=some .cell∨scope.names.lookup y=some .free:=hy;rcases hy with hy |hy
  ·exact J4 hy
  ·exact absurd rfl (S.nofree _ (BS hy))
 ·exact Nat.le_of_lt (x.above y c (BS h))
 ·have hi:i < vs.length:=by
   unfold start at h2;by_cases hi:i < vs.length
   ·exact hi
   ·rw [Ap (by simpa using hi)] at h2
    rw [Bd] at h2;split at h2 <;> cases h2
  have ha:vs[i]? = some v:=by
   unfold start at h2;rw [Af (by simpa using hi),Au] at h2
   cases e:vs[i]? with
   |none=>rw [e] at h2;cases h2
   |some a=>rw [e] at h2;cases h2;rfl
  obtain ⟨u,hu,rv⟩:=r.get ha;have hp:ps[i]? = some y:=by rw [← S.pre,List.getElem?_take_of_lt (by omega)];exact h1
  have ndP:ps.Nodup:=by rw [← S.pre];exact S.nd.sublist (List.take_sublist _ _)
  refine ⟨u,rv,?_⟩;rcases S.par y (Ar hp) with k |k
  ·exact .inl ⟨k,jO ndP hp hu k⟩
  ·obtain ⟨c,e⟩:=J4 (n:=s.heap.objs.size + 1) k;refine .inr ⟨.inl k,c,e,?_⟩;have q:=x.cell y c e;rw [Y4 ndP hp hu (by show scope.names.lookup y≠_;rw [k];decide)] at q
   exact q
 ·exact e0.hok.fresh (Nat.le_of_lt (x.above y c (BS h)))
 ·unfold start;show _=N.length;rw [AQ,AC,List.length_replicate];omega
theorem qIs {CX:CXT} {P:Program} {w:World} {K:W.Frag} {mg:Str->Option Value} {base:Heap} {k:Nat} {f:Addr} {name qual:Str} {params:Arguments} {body:List Stmt} {scope:Scope} {dV kV doc pm cdv ct oc:Value} {an od:Option Addr}
  {osl:Array (Option Value)} {N ps:List Str} {sp:Sp} (lk:K.lookup f=some ⟨oc,od,.func (W.fnOf name qual params body scope dV kV doc pm an cdv ct),osl⟩) (hcd:W.codeIn K cdv qual=true) (S:FnScope N ps scope)
  (len:∀ vs H Q E,sp vs H Q E->vs.length=ps.length)
  (hbody:∀ (A:Around) (outer:List Env) (s:Shared) (H:Hp) (vs:List V) (Q:VK) (E:XK),Room k (A.deeper (envOfC qual scope s.heap.objs.size f cdv))->(0 < k->A.handled=none)->sp vs H Q E ->
   ∃ t,PSs (wS CX P w K mg base N qual scope f cdv A outer s H E) body t∧t { nx:=fun _ H'=>Q .non H',rt:=Q } (start N vs) H) :
  FnOk P w K mg base CX (k + 1) f (W.fnOf name qual params body scope dV kV doc pm an cdv ct) ps sp:=by
 refine ⟨len,fun A outer s H args us vs Q E hr e0 hb r hsp => ?_⟩;have hl:=len _ _ _ _ hsp;have KX:K.In s.heap:=e0.mod.kin.keeps fun b o e=>(e0.bs b o e).1;have lim:s.heap.NoLimit:=e0.mod.nolimit.keeps fun b o e=>(e0.bs b o e).1;have hkind:∀ y∈ps.zip us,scope.names.lookup y.1=some .local∨(scope.names.lookup y.1=some .cell∧((cellsFrom (s.heap.objs.size + 1) scope.names []).lookup y.1).isSome=true):=fun ⟨n,v⟩ hy=>by
  rcases S.par n (List.of_mem_zip hy).1 with q |q
  ·exact .inl q
  ·exact .inr ⟨q,W.cellsFrom_some _ _ _ (.inl q)⟩
 refine codeAny_call_function hr.depth (KX _ _ lk) rfl S.co S.gen rfl (W.codeRec_of KX hcd) (hb _ _ _ _ ?_);refine wpAny_newFunctionEnv_cells S.kind hkind fun env he s1 x => ?_;subst he;refine ⟨lim.keeps x.toInCall.keep,codeAny_func ?_⟩;obtain ⟨t,ht,hq⟩:=hbody A outer s H vs Q E (hr.deeper _) (fun z=>hr.hd (by omega)) hsp
 have I:Inv (wS CX P w K mg base N qual scope f cdv A outer s H E) [] (start N vs) H s1:=qCC S e0 hl r x;refine BZ (ht [] s1 (start N vs) H _ I hq) (fun fl s' hs => ?_) fun e s' hs=>hs;have fin:∀ {σ':St} {H':Hp} {v:V} {u:Value},Inv (wS CX P w K mg base N qual scope f cdv A outer s H E) [] σ' H' s'->RelV v u->Q v H'->CE outer P w H s Q u s' :=
  fun {σ' H' v u} J rv q=>⟨v,H',J.os,J.bare,J.base,J.hok,rv,q⟩
 cases fl with
 |ret u =>obtain ⟨v,σ',H',J,rv,q⟩:=hs;exact fin J rv q
 |next =>obtain ⟨σ',H',J,q⟩:=hs;exact fin (v:=V.non) (u:=Value.none) J rfl q
 |brk =>obtain ⟨_,_,_,q⟩:=hs;exact False.elim q
 |cont =>obtain ⟨_,_,_,q⟩:=hs;exact False.elim q
end L2
namespace L2
open PySem PySem.Spec PyProof.Rows
section
variable {X:Cx} {x:Str} {p pos:Pos} {e:Expr} {es:List Expr} {t:TA} {id T:String} {r:List V->Hp->VK->Prop}
def tCB (r:List V->Hp->VK->Prop) (t:TA):TE:=fun σ H Q=>t σ H fun vs H1=>r vs H1 Q
theorem qEE (hc:Wo X (.builtin id) r) (hg:Gl X x) (hm:X.mg x=none) (hv:bootBuiltins x=some (.builtin id)) (ha:PA X (e::es) t) (hn:x ≠ "__name__" := by decide) (hdb:(x==("__debug__":Str))=false:=by decide)
  (he:starEach (e::es) X.env=(false,eval e X.env)::starEach es X.env:=by rfl) (hpl:(backTo pos (starEach es X.env)).any (·.1)=false:=by rfl):PE X (.Call (.Name x p) (e::es) [] pos) (tCB r t):=by intro pins s σ H Q I h;refine Bi (zr I hg hm hv ?_ hn hdb);exact PyProof.Rows.callWith_builtin1 (thn (ha pos pins s σ H _ I h) fun us s1 ⟨vs,H1,I1,r1,q1⟩=>hc pins s1 σ H1 vs us Q I1 r1 q1) he hpl
theorem jH (hc:Wo X (.type T) r) (hg:Gl X x) (hm:X.mg x=none) (hv:bootBuiltins x=some (.type T)) (ha:PA X (e::es) t) (hn:x ≠ "__name__" := by decide) (hdb:(x==("__debug__":Str))=false:=by decide)
  (he:starEach (e::es) X.env=(false,eval e X.env)::starEach es X.env:=by rfl) (hpl:(backTo pos (starEach es X.env)).any (·.1)=false:=by rfl):PE X (.Call (.Name x p) (e::es) [] pos) (tCB r t):=by intro pins s σ H Q I h;refine Bi (zr I hg hm hv ?_ hn hdb);exact Bh (thn (ha pos pins s σ H _ I h) fun us s1 ⟨vs,H1,I1,r1,q1⟩=>hc pins s1 σ H1 vs us Q I1 r1 q1) he hpl
end
end L2
namespace HT
open PySem PyProof.Rows
theorem rcLt_int (A:Around) (s:Shared) (a:Int) (t:Tok) (c:Int) (u:Tok) (prog:Program) (w:World) (E:Value->Shared->Prop) (Q:Value->Shared->Prop) (h:Q (.bool (decide (a < c))) s) :
  wpAny (model prog w) A (richCompare .Lt (.int a t) (.int c u)) Q E s :=
 (PyProof.Rows.lt_int h:wpAny (model prog w) A (compareOp .Lt (.int a t) (.int c u)) Q E s)
section
variable {prog:Program} {w:World} {A:Around} {E:Value->Shared->Prop} {s:Shared}
theorem cat_tup {t b:Addr} {vs ws:List Value} {Q:Value->Shared->Prop} (ht:IsTup s.heap t vs.toArray) (hb:IsTup s.heap b ws.toArray) (hv:vs≠[])
  (h1:ws=[]->Q (.ref t) s) (h2:ws≠[]->Q (.ref s.heap.objs.size) { s with heap:=s.heap.push { cls := .type "tuple",data := .seq (vs++ws).toArray } })
  (hsz:vs.length + ws.length≤sizeLine):wpAny (model prog w) A (binaryOp .Add (.ref t) (.ref b)) Q E s:=by
 obtain ⟨⟨cls,dd,data,sl⟩,ho,hc,n,hd⟩:=id ht;obtain ⟨⟨cls2,dd2,data2,sl2⟩,ho2,hc2,n2,hd2⟩:=id hb;simp only at hc hd hc2 hd2;subst hc hd hc2 hd2;have e:vs.toArray++ws.toArray=(vs++ws).toArray:=by simp
 by_cases hw:ws=[]
 ·exact concat_meets ⟨_,ho,rfl⟩ ⟨_,ho2,rfl⟩ noFill_tuple_add seq_tuple_add PySem.F.slot_tuple_add PySem.F.entry_tuple_add (PySem.F.args_tuple_add_2 _ _)
   (tuple_addW1 t b vs.toArray ws.toArray n n2 dd dd2 sl sl2 (by simpa using hv) (by simp [hw])) ⟨ho,ho2,h1 hw⟩
 ·refine concat_meets ⟨_,ho,rfl⟩ ⟨_,ho2,rfl⟩ noFill_tuple_add seq_tuple_add PySem.F.slot_tuple_add PySem.F.entry_tuple_add (PySem.F.args_tuple_add_2 _ _)
   (tuple_addW2 t b vs.toArray ws.toArray n n2 dd dd2 sl sl2 (by simpa using hv) (by simpa using hw) (by rw [AM,AM];exact hsz)) ⟨ho,ho2,?_⟩
  rw [e];exact h2 hw
def sIx (n d:Nat):Option Int->Nat
 |none=>d
 |some v=>if v < 0 then (v + (n:Int)).toNat else min v.toNat n
theorem sIx_nat (n d k:Nat):sIx n d (some (k:Int))=min k n:=by show (if (k:Int) < 0 then ((k:Int) + (n:Int)).toNat else min (k:Int).toNat n)=min k n;rw [AK (by omega),BN]
theorem qIH (n d:Nat) (hd:d≤n) (o:Option Int):sIx n d o≤n:=by
 cases o with
 |none=>exact hd
 |some v =>
  show (if v < 0 then (v + (n:Int)).toNat else min v.toNat n)≤n;by_cases hv:v < 0
  ·rw [AF hv];omega
  ·rw [AK hv];exact Nat.min_le_right _ _
theorem qBF (v:Int) (n d:Nat):(if v < 0 then max (v + (n:Int)) 0 else min v (n:Int))=((sIx n d (some v):Nat):Int):=by
 show (if v < 0 then max (v + (n:Int)) 0 else min v (n:Int))=(((if v < 0 then (v + (n:Int)).toNat else min v.toNat n):Nat):Int);by_cases hv:v < 0
 ·simp only [AF hv];omega
 ·simp only [AK hv];omega
theorem qAS (lo hi:Option Int) (n:Nat):Builtin.Slice.sliceAdjust lo hi 1 (n:Int)=(((sIx n 0 lo:Nat):Int),((sIx n n hi:Nat):Int)):=by
 have h1:¬ ((1:Int) < 0):=by omega
 unfold Builtin.Slice.sliceAdjust;simp only [h1,BU];refine Prod.ext ?_ ?_
 ·cases lo with
  |none=>rfl
  |some v=>exact qBF v n 0
 ·cases hi with
  |none=>rfl
  |some v=>exact qBF v n n
theorem qAQ (i j:Nat):Builtin.Slice.slicePlaces (i:Int) (j:Int) 1=j - i:=by
 unfold Builtin.Slice.slicePlaces;have h1:(1:Int) > 0:=by omega
 simp only [h1,CJ,Int.ediv_one];split <;> omega
theorem Ws {v:Value} {o:Option Int} {Q:Option Int->Shared->Prop} (p:IsPart v o) (h:Q o s):wpAny (model prog w) A (Builtin.Slice.slicePartIndex v) Q E s:=by
 cases p with
 |none=>exact slicePart_none h
 |int i t=>exact slicePart_int h
theorem sliceApplied_gen {sl:Addr} {vl vu:Value} {lo hi:Option Int} {n:Nat} {Q:Int×Int×Nat->Shared->Prop} (hs:s.heap.IsSliceOf sl vl vu .none) (pl:IsPart vl lo) (pu:IsPart vu hi)
  (h:Q (((sIx n 0 lo:Nat):Int),1,sIx n n hi - sIx n 0 lo) s):wpAny (model prog w) A (Builtin.Slice.sliceApplied (.ref sl) (pure (n:Int))) Q E s:=by
 obtain ⟨os,hos,hcs,hds⟩:=id hs;unfold Builtin.Slice.sliceApplied Builtin.Slice.sliceFields;refine AA (AA (A6 hos hds (x:=vl) rfl (AA (A6 hos hds (x:=vu) rfl (AA (A6 hos hds (x := .none) rfl (AB ?_)))))));refine AA (slicePart_none ?_);show wpAny _ _ (if ((1:Int)==0)=true then _ else _) _ _ s;rw [AK (by decide)]
 refine AA (Ws pl (AA (Ws pu (AA (AB ?_)))));show wpAny _ _ (match Builtin.Slice.sliceAdjust lo hi 1 (n:Int) with |(lo,hi)=>pure (lo,(1:Int),Builtin.Slice.slicePlaces lo hi 1)) _ _ s;rw [qAS lo hi n];show wpAny _ _ (pure (((sIx n 0 lo:Nat):Int),(1:Int),Builtin.Slice.slicePlaces ((sIx n 0 lo:Nat):Int) ((sIx n n hi:Nat):Int) 1)) _ _ s;rw [qAQ];exact AB h
theorem qDr (xs:Array Value) (i k:Nat):((List.range k).filterMap fun (m:Nat)=>xs[((i:Int) + (m:Int) * 1).toNat]?).toArray=((xs.toList.drop i).take k).toArray:=by
 have e:(fun (m:Nat)=>xs[((i:Int) + (m:Int) * 1).toNat]?)=fun m=>xs[i + m]? := by
  funext m
  have:((i:Int) + (m:Int) * 1).toNat=i + m:=by omega
  rw [this]
 rw [e]
 have:=pick_run xs i k
 rw [List.filterMap_map] at this;have e2:((fun x=>xs[x]?) ∘ fun x=>i + x)=fun m=>xs[i + m]? := rfl;rw [e2] at this;rw [this]
theorem getItem_tuple_cut {t sl:Addr} {items:Array Value} {vl vu:Value} {lo hi:Option Int} {Q:Value->Shared->Prop} (ht:IsTup s.heap t items) (hs:s.heap.IsSliceOf sl vl vu .none) (pl:IsPart vl lo) (pu:IsPart vu hi)
  (hw:¬ (sIx items.size 0 lo=0∧sIx items.size items.size hi=items.size))
  (h:Q (.ref s.heap.objs.size) { s with heap:=s.heap.push { cls := .type "tuple",data := .seq ((items.toList.drop (sIx items.size 0 lo)).take (sIx items.size items.size hi - sIx items.size 0 lo)).toArray } })
  (hsz:items.size≤sizeLine):wpAny (model prog w) A (getItem (.ref t) (.ref sl)) Q E s:=by
 have htake:sizeOk (.seq ((items.toList.drop (sIx items.size 0 lo)).take (sIx items.size items.size hi - sIx items.size 0 lo)).toArray):=by show ((items.toList.drop (sIx items.size 0 lo)).take (sIx items.size items.size hi - sIx items.size 0 lo)).toArray.size≤sizeLine;rw [AM,Bf,B7,AZ];omega
 have hj:sIx items.size items.size hi≤items.size:=qIH _ _ (AG _) hi;obtain ⟨os,hos,hcs,hds⟩:=id hs;have hTs:s.TypeIs (.ref sl) "slice" := ⟨os,hos,hcs⟩;unfold getItem;try with_reducible refine An ?_
 first |refine AA (AB ?_) |skip
 refine AA (wpAny_sequenceKey ht.typeIs (by decide) ?_)
 refine AA (BM (name:=Str.ofString "__getitem__") ht.typeIs BB
  (Be BB ht.typeIs entry_tuple_getitem ?_ (args_tuple_getitem _ _)))
 show wpAny _ _ (Builtin.Tuple.tupleItemsOf (.ref t) >>= _) _ _ s;refine AA (tupleItemsOf_ ht ?_);refine AA (Ba hTs ?_);rw [AF (by decide)]
 refine AA (sliceApplied_gen hs pl pu ?_);have hno:¬ ((((sIx items.size 0 lo:Nat):Int)==0&&(1:Int)==1&&(sIx items.size items.size hi - sIx items.size 0 lo)==items.size)=true):=by intro q;rw [AV,AV] at q;have q1:((sIx items.size 0 lo:Nat):Int)=0:=eq_of_beq q.1.1;have q2:sIx items.size items.size hi - sIx items.size 0 lo=items.size:=eq_of_beq q.2;exact hw ⟨by omega,by omega⟩
 show wpAny _ _ (if (((sIx items.size 0 lo:Nat):Int)==0&&(1:Int)==1&&(sIx items.size items.size hi - sIx items.size 0 lo)==items.size)=true then _ else _) _ _ s;rw [AK hno,qDr];first
  |exact AA (m:=Builtin.Tuple.tupleExact _) (A1 (AB ⟨_,rfl,AB h⟩) htake)
  |exact AA (m:=Builtin.Tuple.tupleExact _) (A1 (AA (AB (AB ⟨_,rfl,AB h⟩))) htake)
  |exact AA (AA (m:=Builtin.Tuple.tupleExact _) (A1 (AB (AB ⟨_,rfl,AB h⟩)) htake))
  |exact AA (AA (m:=Builtin.Tuple.tupleExact _) (A1 (AB ⟨_,rfl,AB h⟩) htake))
end
end HT
namespace L2
open PySem PySem.Spec PyProof.Rows
abbrev TO:=St->Hp->(Option Int->Hp->Prop)->Prop
def PO (X:Cx) (e:Option Expr) (t:TO):Prop :=
 ∀ (pins:List (Addr×Obj)) (s:Shared) (σ:St) (H:Hp) (Q:Option Int->Hp->Prop),Inv X pins σ H s->t σ H Q ->
  wpAny (model X.prog X.w) X.A (evalPart e X.env) (fun u s' => ∃ o H',Inv X pins σ H' s'∧IsPart u o∧Q o H') X.xe s
def qFO:TO:=fun _ H Q=>Q none H
def qIr (t:TE):TO:=fun σ H Q=>t σ H fun x H1 => ∃ i,x = .int i∧Q (some i) H1
section
variable {X:Cx} {e:Expr} {te:TE} {lo hi:Option Expr} {tl th:TO} {pos p2:Pos}
theorem qEx:PO X none qFO:=by intro pins s σ H Q I h;rw [evalPart_none];exact AB ⟨none,H,I,.none,h⟩
theorem qGA (h:PE X e te):PO X (some e) (qIr te):=by intro pins s σ H Q I hw;rw [evalPart_some];refine thn (h pins s σ H _ I hw) fun u s1 ⟨x,H1,I1,r1,q1⟩ => ?_;obtain ⟨i,rfl,q⟩:=q1;obtain ⟨t,rfl⟩:=r1;exact ⟨some i,H1,I1,.int i t,q⟩
def SlR (X:Cx) (r:V->Option Int->Option Int->Hp->VK->Prop):Prop :=
 ∀ (pins:List (Addr×Obj)) (s:Shared) (σ:St) (H:Hp) (x:V) (v vl vu:Value) (lo hi:Option Int) (sl:Addr) (Q:VK),Inv X pins σ H s->RelV x v->s.heap.IsSliceOf sl vl vu .none->IsPart vl lo->IsPart vu hi->r x lo hi H Q ->
  ∃ T id,typeLookup (.type T) "__getitem__" = pure (some (.builtin id))∧s.TypeIs v T∧wpAny (model X.prog X.w) X.A (getItem v (.ref sl)) (EP X pins σ Q) X.xe s
theorem SlR.or {r r':V->Option Int->Option Int->Hp->VK->Prop} (h:SlR X r) (h':SlR X r'):SlR X (fun x lo hi H Q=>r x lo hi H Q∨r' x lo hi H Q):=by
 intro pins s σ H x v vl vu lo hi sl Q I rx hs pl pu q;rcases q with q |q
 ·exact h pins s σ H x v vl vu lo hi sl Q I rx hs pl pu q
 ·exact h' pins s σ H x v vl vu lo hi sl Q I rx hs pl pu q
def tSl (r:V->Option Int->Option Int->Hp->VK->Prop) (te:TE) (tl th:TO):TE:=fun σ H Q=>te σ H fun x H1=>tl σ H1 fun l H2=>th σ H2 fun u H3=>r x l u H3 Q
theorem JX {r:V->Option Int->Option Int->Hp->VK->Prop} (hr:SlR X r) (he:PE X e te) (hl:PO X lo tl) (hu:PO X hi th):PE X (.Subscript e (.Slice lo hi none p2) pos) (tSl r te tl th):=by intro pins s σ H Q I h;refine Subscript_ (thn (he pins s σ H _ I h) fun v s1 ⟨x,H1,I1,r1,q1⟩ => ?_);refine wpAny_Slice (thn (hl pins s1 σ H1 _ I1 q1) fun vl s2 ⟨l,H2,I2,pl,q2⟩=>thn (hu pins s2 σ H2 _ I2 q2) fun vu s3 ⟨u,H3,I3,pu,q3⟩ => ?_);rw [evalPart_none];refine AB ?_;have I4:Inv X pins σ H3 { s3 with heap:=s3.heap.push { cls := .type "slice",data := .fields #[vl,vu,.none] } }:=I3.kept (t':=s3.toks) fun b ob q=>AD _ q;obtain ⟨T,id,hT,ht,hg⟩:=hr pins { s3 with heap:=s3.heap.push { cls := .type "slice",data := .fields #[vl,vu,.none] } } σ H3 x v vl vu l u s3.heap.objs.size Q I4 r1 (Heap.IsSliceOf.new ..) pl pu q3;show wpAny (model X.prog X.w) X.A (subscriptTail e (.Slice lo hi none p2) v (.ref s3.heap.objs.size)) (EP X pins σ Q) X.xe { s3 with heap:=s3.heap.push { cls := .type "slice",data := .fields #[vl,vu,.none] } };exact tail_any (ops:=[.ref s3.heap.objs.size,v]) ht hT hg (by with_unfolding_all rfl)
def Yw (xs:List V) (lo hi:Option Int):List V:=(xs.drop (HT.sIx xs.length 0 lo)).take (HT.sIx xs.length xs.length hi - HT.sIx xs.length 0 lo)
theorem yO (xs:List V) (lo hi:Option Int):(Yw xs lo hi).length≤xs.length:=by unfold Yw;rw [Bf,B7];omega
def qJs (K:W.Frag):V->Option Int->Option Int->Hp->VK->Prop:=fun x lo hi H Q => ∃ a xs,x = .ref a∧SqT K H a xs ∧
 ¬ (HT.sIx xs.length 0 lo=0∧HT.sIx xs.length xs.length hi=xs.length) ∧ ∀ p,H p=none->Q (.ref p) (upd H p (.tup (Yw xs lo hi)))
theorem sl_tup:SlR X (qJs X.K):=by
 intro pins s σ H x v vl vu lo hi sl Q I rx hs pl pu h;obtain ⟨a,xs,rfl,hx,hw,q⟩:=h;cases rx;obtain ⟨its,r,ht,hz⟩:=I.tuple hx;have hlen:its.toArray.size=xs.length:=by rw [AM];exact r.length.symm
 refine ⟨"tuple",_,PyProof.Rows.slot_tuple_getitem.lookup,ht.typeIs,?_⟩;refine HT.getItem_tuple_cut ht hs pl pu (by rw [hlen];exact hw) ?_ (by rw [hlen];exact hz)
 rw [hlen];refine ⟨.ref s.heap.objs.size,_,I.laid (t':=s.toks) (o := .tup (Yw xs lo hi)) (fun b ob q=>AD _ q) (AG _) ?_,rfl,q _ (I.hok.fresh (AG _))⟩;exact ⟨Aa (yO xs lo hi) hz,_,(r.drop (HT.sIx xs.length 0 lo)).take (HT.sIx xs.length xs.length hi - HT.sIx xs.length 0 lo),IsTup.new _ _⟩
def qJj (K:W.Frag):R2:=fun x y H Q => ∃ a b xs ys,x = .ref a∧y = .ref b∧SqT K H a xs∧SqT K H b ys∧xs≠[]∧xs.length + ys.length≤sizeLine ∧
 (ys=[]->Q (.ref a) H)∧(ys≠[] -> ∀ p,H p=none->Q (.ref p) (upd H p (.tup (xs++ys))))
theorem Vals.nil_iff {xs:List V} {us:List Value} (r:Vals xs us):us=[] ↔ xs=[]:=by
 cases r with
 |nil=>simp
 |cons _ _=>simp
theorem qGG:OpR X (binaryOp .Add) (qJj X.K):=by
 intro pins s σ H x y v u Q I rx ry h;obtain ⟨a,b,xs,ys,rfl,rfl,ha,hb,hx,hz,q1,q2⟩:=h;cases rx;cases ry;obtain ⟨its,r1,p1,_⟩:=I.tuple ha;obtain ⟨its2,r2,p2,_⟩:=I.tuple hb;refine HT.cat_tup p1 p2 (fun z=>hx (r1.nil_iff.mp z)) (fun z=>⟨.ref a,H,I,rfl,q1 (r2.nil_iff.mp z)⟩) (fun z => ?_) (by rw [← r1.length,← r2.length];exact hz)
 refine ⟨.ref s.heap.objs.size,_,I.laid (t':=s.toks) (o := .tup (xs++ys)) (fun b ob q=>AD _ q) (AG _) ?_,rfl,q2 (fun w=>z (r2.nil_iff.mpr w)) _ (I.hok.fresh (AG _))⟩;exact ⟨by rw [AQ];exact hz,_,r1.append r2,IsTup.new _ _⟩
end
end L2
namespace L2
open PySem PySem.Spec PyProof.Rows
def ixN (n:Nat) (i:Int):Option Nat:=if 0≤i then (if i < n then some i.toNat else none) else if -(n:Int)≤i then some (i + n).toNat else none
def atI {α:Type} (xs:List α) (i:Int):Option α:=(ixN xs.length i).bind fun j=>xs[j]?
theorem qBK {n:Nat} {i:Int} {j:Nat} (h:ixN n i=some j):seqIndex? i n=some j∧j < n ∧ -(n:Int)≤i∧i < n:=by
 unfold ixN at h;by_cases h0:0≤i
 ·rw [AF h0] at h;by_cases h1:i < n
  ·rw [AF h1] at h;have e:i.toNat=j:=Ag h;exact ⟨by rw [seqIndex_of h0 h1,e],by omega,by omega,h1⟩
  ·rw [AK h1] at h;cases h
 ·rw [AK h0] at h;by_cases h1:-(n:Int)≤i
  ·rw [AF h1] at h;have e:(i + n).toNat=j:=Ag h;exact ⟨by rw [seqIndex_neg (by omega) h1,e],by omega,h1,by omega⟩
  ·rw [AK h1] at h;cases h
theorem JG {α:Type} {xs:List α} {i:Int} {v:α} (h:atI xs i=some v):∃ j,seqIndex? i xs.length=some j∧xs[j]? = some v∧j < xs.length ∧ -(xs.length:Int)≤i∧i < xs.length:=by
 unfold atI at h;cases e:ixN xs.length i with
 |none=>rw [e] at h;cases h
 |some j =>rw [e] at h;obtain ⟨h1,h2,h3,h4⟩:=qBK e;exact ⟨j,h1,h,h2,h3,h4⟩
def qBS (b:Expr):Prop := ∀ o i,subscripted b false o i=operate [o,i] (getItem o i)
def IxR (X:Cx) (r:R2):Prop :=
 ∀ (value slice:Expr) (pins:List (Addr×Obj)) (s:Shared) (σ:St) (H:Hp) (x y:V) (v u:Value) (Q:VK),Inv X pins σ H s->RelV x v->RelV y u->r x y H Q ->
  subscripted slice false v u=operate [v,u] (getItem v u)->wpAny (model X.prog X.w) X.A (subscriptTail value slice v u) (EP X pins σ Q) X.xe s
def MtR (X:Cx) (id:String) (r:V->List V->Hp->VK->Prop):Prop :=
 ∀ (pins:List (Addr×Obj)) (s:Shared) (σ:St) (H:Hp) (x:V) (xs:List V) (v:Value) (us:List Value) (Q:VK),Inv X pins σ H s->RelV x v->Vals xs us->r x xs H Q ->
  wpAny (model X.prog X.w) X.A (call (.builtin id) (v::us)) (EP X pins σ Q) X.xe s
section
variable {X:Cx} {a b:Expr} {ta tb:TE} {pos:Pos}
theorem IxR.or {r r':R2} (h:IxR X r) (h':IxR X r'):IxR X (fun x y H Q=>r x y H Q∨r' x y H Q):=by
 intro value slice pins s σ H x y v u Q I rx ry q hs;rcases q with q |q
 ·exact h value slice pins s σ H x y v u Q I rx ry q hs
 ·exact h' value slice pins s σ H x y v u Q I rx ry q hs
theorem qJV {r:R2} (hr:IxR X r) (ha:PE X a ta) (hb:PE X b tb) (hs:qBS b):PE X (.Subscript a b pos) (tOp r ta tb):=by intro pins s σ H Q I h;exact Subscript_ (qHU ha hb I h fun v u s2 x y H2 I2 rx ry q=>hr a b pins s2 σ H2 x y v u Q I2 rx ry q (hs _ _))
def qIo (K:W.Frag):R2:=fun x y H Q => ∃ p xs i v,x = .ref p∧y = .int i∧SqL K H p xs∧atI xs i=some v∧Q v H
def qIp (K:W.Frag):R2:=fun x y H Q => ∃ p xs i v,x = .ref p∧y = .int i∧SqT K H p xs∧atI xs i=some v∧Q v H
def qJa:R2:=fun x y H Q => ∃ z i c,x = .str z∧y = .int i∧z.length≤sizeLine∧atI z.cps.toList i=some c∧Q (.str ⟨#[c]⟩) H
theorem ix_list:IxR X (qIo X.K):=by
 intro value slice pins s σ H x y v u Q I rx ry h hs;obtain ⟨p,xs,i,z,rfl,rfl,hq,he,q⟩:=h;cases rx;obtain ⟨t,rfl⟩:=ry;obtain ⟨its,r,pl,hz⟩:=I.list hq;obtain ⟨j,h1,h2,h3,h4,h5⟩:=JG he;obtain ⟨w,ew,rw'⟩:=r.get h2;have hl:=r.length;have hn:=Z5;have fin:EP X pins σ Q w s:=⟨z,H,I,rw',q⟩;by_cases h0:0≤i
 ·have hj:i.toNat=j:=by rw [seqIndex_of h0 h5] at h1;exact Ag h1
  exact item_listR pl.isList h0 (by omega) (by rw [hj];simpa using ew) fin hs
 ·have hj:(i + (its.toArray.size:Int)).toNat=j:=by
   rw [seqIndex_neg (by omega) h4] at h1
   rw [AM,← hl];exact Ag h1
  exact subscriptTail_builtinR (x:=w) pl.isList.typeIs slot_list_getitem.lookup
   (wpAny_getItem_list_neg (Q:=fun r s'=>r=w∧EP X pins σ Q r s') pl.isList (by omega) (by rw [AM] <;> omega) (by omega) (by rw [hj];simpa using ew) ⟨rfl,fin⟩) hs
theorem ix_tup:IxR X (qIp X.K):=by
 intro value slice pins s σ H x y v u Q I rx ry h hs;obtain ⟨p,xs,i,z,rfl,rfl,hq,he,q⟩:=h;cases rx;obtain ⟨t,rfl⟩:=ry;obtain ⟨its,r,pl,hz⟩:=I.tuple hq;obtain ⟨j,h1,h2,h3,h4,h5⟩:=JG he;obtain ⟨w,ew,rw'⟩:=r.get h2;have hl:=r.length;have hn:=Z5;have fin:EP X pins σ Q w s:=⟨z,H,I,rw',q⟩;exact subscriptTail_builtinR (x:=w) pl.typeIs slot_tuple_getitem.lookup
  (getItem_tuple (j:=j) (Q:=fun r s'=>r=w∧EP X pins σ Q r s') pl (by omega) (by omega) (by rw [AM,← hl];exact h1) (by simpa using ew) ⟨rfl,fin⟩) hs
theorem qH7:IxR X qJa:=by
 intro value slice pins s σ H x y v u Q I rx ry h hs;obtain ⟨z,i,c,rfl,rfl,hz,he,q⟩:=h;obtain ⟨t,rfl⟩:=rx;obtain ⟨t',rfl⟩:=ry;obtain ⟨j,h1,h2,h3,h4,h5⟩:=JG he;have hl:z.cps.toList.length=z.length:=by simp [Str.length]
 rw [hl] at h1 h4 h5;have hn:=Z5;exact tail_any (typeIs_str s z t) slot_str_getitem.lookup (getItem_str (c:=c) (by
  have e1:decide (i < -(2 ^ 63:Int))=false:=Ae (by omega)
  have e2:decide (i ≥ 2 ^ 63)=false:=Ae (by omega)
  rw [e1,e2,Bool.or_false]) (by rw [h1];simpa using h2) ⟨.str ⟨#[c]⟩,H,I.tok _,⟨_,rfl⟩,q⟩) hs
def rIx (K:W.Frag):R2:=fun x y H Q=>qIo K x y H Q∨qIp K x y H Q∨qJa x y H Q
theorem qII:IxR X (rIx X.K):=ix_list.or (ix_tup.or qH7)
theorem qAP (its:List Value) (n j:Nat) (u:Value):Obj.mapSeq (·.setIfInBounds j u) { cls := .type "list",data := .seq its.toArray n }={ cls := .type "list",data := .seq (its.set j u).toArray n }:=by simp [Obj.mapSeq]
theorem Inv.lst {pins:List (Addr×Obj)} {σ:St} {H:Hp} {s:Shared} {p:Addr} {xs:List V} (I:Inv X pins σ H s) (h:H p=some (.lst xs)) :
  ∃ (its:List Value) (n:Nat),Vals xs its∧s.heap.get? p=some { cls := .type "list",data := .seq its.toArray n }∧xs.length≤sizeLine:=by obtain ⟨z,its,n,r,e⟩:=I.hok p _ h;exact ⟨its,n,r,e,z⟩
theorem Inv.lstUpd {pins:List (Addr×Obj)} {σ:St} {H:Hp} {s:Shared} {p:Addr} {xs ys:List V} {its its':List Value} {n n':Nat} {f:Obj->Obj} (I:Inv X pins σ H s) (h:H p=some (.lst xs))
  (ho:s.heap.get? p=some { cls := .type "list",data := .seq its.toArray n }) (hf:f { cls := .type "list",data := .seq its.toArray n }={ cls := .type "list",data := .seq its'.toArray n' }) (r:Vals ys its') (hz:ys.length≤sizeLine) (t:Nat) :
  Inv X pins σ (upd H p (.lst ys)) { s with heap:=s.heap.update p f,toks:=t }:=by
 have e:(s.heap.update p f).get? p=some { cls := .type "list",data := .seq its'.toArray n' }:=by rw [BG f ho (by rw [hf] <;> rfl),hf]
 refine I.write (x:=p) (e:=p) (by rw [h];trivial) (.inl rfl) (fun b u hb q=>(Ak _ _ (Ne.symm hb)).trans q) ⟨_,e⟩ ?_
 exact ⟨hz,its',n',r,e⟩
def qGT:V->V->V->Hp->(Hp->Prop)->Prop:=fun o i v H Q => ∃ p xs k j,o = .ref p∧i = .int k∧H p=some (.lst xs)∧ixN xs.length k=some j∧Q (upd H p (.lst (xs.set j v)))
theorem Yo:qJE X qGT:=by
 intro pins s σ H o i v ov iv u Q I ro ri rv h;obtain ⟨p,xs,k,j,rfl,rfl,hp,hj,q⟩:=h;cases ro;obtain ⟨t,rfl⟩:=ri;obtain ⟨its,n,r,ho,hz⟩:=I.lst hp;obtain ⟨h1,h2,h3,h4⟩:=qBK hj;have hl:=r.length;have hn:=Z5;have I':Inv X pins σ (upd H p (.lst (xs.set j v))) { s with heap:=s.heap.update p (Obj.mapSeq (·.setIfInBounds j u)) } :=
  I.lstUpd hp ho (qAP its n j u) (r.set rv j) (by rw [List.length_set];exact hz) s.toks
 by_cases h0:0≤k
 ·have hk:k.toNat=j:=by rw [seqIndex_of h0 h4] at h1;exact Ag h1
  exact W.ki_setAt ho h0 (by omega) (by rw [AM,← hl];exact h4) (by rw [hk];exact ⟨_,I',q⟩)
 ·have hk:(k + (its.toArray.size:Int)).toNat=j:=by
   rw [seqIndex_neg (by omega) h3] at h1
   rw [AM,← hl];exact Ag h1
  exact W.ki_setBack ho (by omega) (by rw [AM,← hl];exact h3) (by omega) (by rw [hk];exact ⟨_,I',q⟩)
theorem jb (lo hi:Option Int) (n:Nat):(sliceBounds lo hi none n).1=((HT.sIx n 0 lo:Nat):Int)∧(sliceBounds lo hi none n).2.1=((HT.sIx n n hi:Nat):Int)∧(sliceBounds lo hi none n).2.2=1:=by
 refine ⟨?_,?_,rfl⟩
 ·cases lo with
  |none=>simp [sliceBounds,HT.sIx]
  |some i =>
   simp only [sliceBounds,HT.sIx,Option.getD_none,show (1:Int) > 0 by decide,CJ]
   by_cases h:i < 0
   ·simp only [h,CJ] <;> omega
   ·simp only [h,BU] <;> omega
 ·cases hi with
  |none=>simp [sliceBounds,HT.sIx]
  |some i =>
   simp only [sliceBounds,HT.sIx,Option.getD_none,show (1:Int) > 0 by decide,CJ]
   by_cases h:i < 0
   ·simp only [h,CJ] <;> omega
   ·simp only [h,BU] <;> omega
theorem Yu (its:List Value) (lo hi:Option Int):slicePick its.toArray lo hi none=((its.drop (HT.sIx its.length 0 lo)).take (HT.sIx its.length its.length hi - HT.sIx its.length 0 lo)).toArray:=by obtain ⟨h1,h2,h3⟩:=jb lo hi its.toArray.size;unfold slicePick;rw [h1,h2,h3];simp only [sliceRange_one,pick_run,AM] <;> rfl
def qJx (K:W.Frag):V->Option Int->Option Int->Hp->VK->Prop:=fun x lo hi H Q => ∃ a xs,x = .ref a∧SqL K H a xs ∧ ∀ p,H p=none->Q (.ref p) (upd H p (.lst (Yw xs lo hi)))
theorem qGE:SlR X (qJx X.K):=by
 intro pins s σ H x v vl vu lo hi sl Q I rx hs pl pu h;obtain ⟨a,xs,rfl,hx,q⟩:=h;cases rx;obtain ⟨its,r,ht,hz⟩:=I.list hx;have hlen:=r.length;refine ⟨"list",_,slot_list_getitem.lookup,ht.isList.typeIs,?_⟩;refine wpAny_getItem_list_slice ht.isList hs pl pu .none (by simp) ?_ (by rw [AM] <;> omega)
 rw [Yu,← hlen];refine ⟨.ref s.heap.objs.size,_,I.laid (t':=s.toks) (o := .lst (Yw xs lo hi)) (fun b ob q=>AD _ q) (AG _) ?_,rfl,q _ (I.hok.fresh (AG _))⟩;exact ⟨Aa (yO xs lo hi) hz,_,0,(r.drop (HT.sIx xs.length 0 lo)).take (HT.sIx xs.length xs.length hi - HT.sIx xs.length 0 lo),AY _ rfl⟩
theorem jv:Wo X (.builtin "len") (fun xs H Q => ∃ p ys,xs=[.ref p]∧(SqL X.K H p ys∨SqT X.K H p ys)∧Q (.int ys.length) H):=by
 intro pins s σ H xs us Q I r h;obtain ⟨p,ys,rfl,hq,q⟩:=h;obtain ⟨u,rfl,rx⟩:=YE r;cases rx;have hn:=Z5;rcases hq with hq |hq
 ·obtain ⟨its,r',pl,hz⟩:=I.list hq;have hlen:=r'.length;exact Calls.call_len_list pl.isList (by simp only [AM] <;> omega) ⟨.int ys.length,H,I.tok _,⟨s.toks + 1,by rw [AM,hlen]⟩,q⟩
 ·obtain ⟨its,r',pl,hz⟩:=I.tuple hq;have hlen:=r'.length;exact len_tuple pl (by simp only [AM] <;> omega) ⟨.int ys.length,H,I.tok _,⟨s.toks + 1,by rw [AM,hlen]⟩,q⟩
theorem jh:Wo X (.type "list") (fun xs H Q => ∃ p ys,xs=[.ref p]∧(SqL X.K H p ys∨SqT X.K H p ys) ∧ ∀ l,H l=none->Q (.ref l) (upd H l (.lst ys))):=by
 intro pins s σ H xs us Q I r h;obtain ⟨p,ys,rfl,hq,q⟩:=h;obtain ⟨u,rfl,rx⟩:=YE r;cases rx;have fin:∀ (its:List Value),Vals ys its->ys.length≤sizeLine -> ∀ (h':Heap) (c':Nat),(∀ b o',s.heap.get? b=some o'->h'.get? b=some o') ->
   h'.get? s.heap.objs.size=some { cls := .type "list",dict:=none,data := .seq its.toArray c',slots := #[] }->EP X pins σ Q (.ref s.heap.objs.size) { s with heap:=h' }:=fun its r' hz h' c' kp e =>
  ⟨.ref s.heap.objs.size,_,I.laid (t':=s.toks) kp (AG _) (show ObjOk X.prog X.w _ h' _ (.lst ys) from ⟨hz,its,c',r',e⟩),rfl,q _ (I.hok.fresh (AG _))⟩
 rcases hq with hq |hq
 ·obtain ⟨its,r',pl,hz⟩:=I.list hq;have hlen:=r'.length;obtain ⟨o,ho,hc,n,hd⟩:=pl.isList;exact call_list_seq p (.inl rfl) ho hc hd (fun h' c' kp e=>fin its r' hz h' c' kp e) (by simp only [AM] <;> omega)
 ·obtain ⟨its,r',pl,hz⟩:=I.tuple hq;have hlen:=r'.length;obtain ⟨o,ho,hc,n,hd⟩:=pl;exact call_list_seq p (.inr rfl) ho hc hd (fun h' c' kp e=>fin its r' hz h' c' kp e) (by simp only [AM] <;> omega)
theorem Yr:Wo X (.type "tuple") (fun xs H Q => ∃ p ys,xs=[.ref p]∧((SqL X.K H p ys ∧ ∀ l,H l=none->Q (.ref l) (upd H l (.tup ys)))∨(SqT X.K H p ys∧Q (.ref p) H))):=by
 intro pins s σ H xs us Q I r h;obtain ⟨p,ys,rfl,h⟩:=h;obtain ⟨u,rfl,rx⟩:=YE r;cases rx;rcases h with ⟨hq,q⟩ |⟨hq,q⟩
 ·obtain ⟨its,r',pl,hz⟩:=I.list hq;have hlen:=r'.length;refine call_tuple_list pl.isList (fun h' kp => ?_) (by simp only [AM] <;> omega)
  have I1:Inv X pins σ H { s with heap:=h' }:=I.kept (t':=s.toks) kp;have I2:Inv X pins σ (upd H h'.objs.size (.tup ys)) { s with heap:=h'.push { cls := .type "tuple",data := .seq its.toArray } } :=
   I1.laid (t':=s.toks) (fun b o e=>AD _ e) (AG _) (show ObjOk X.prog X.w _ _ _ (.tup ys) from ⟨hz,its,r',IsTup.new _ _⟩)
  exact ⟨.ref h'.objs.size,_,I2,rfl,q _ (I1.hok.fresh (AG _))⟩
 ·obtain ⟨its,r',pl,hz⟩:=I.tuple hq;exact call_tuple_same pl ⟨.ref p,H,I,rfl,q⟩
def tyV (K:W.Frag) (T:String) (x:V) (H:Hp):Prop:=match x with
 | .str _=>T = "str"
 | .int _=>T = "int"
 | .ref p=>(T = "list" ∧ ∃ xs,SqL K H p xs)∨(T = "tuple" ∧ ∃ o,K.lookup p=some o∧o.cls = .type "tuple" ∧ o.dict=none) ∨
   (T = "dict" ∧ ((∃ kvs,H p=some (.dK kvs)) ∨ ∃ kvs,H p=some (.dT kvs)))∨(T = "set" ∧ ∃ S n,H p=some (.set S n))
 |_=>False
theorem qDo {pins:List (Addr×Obj)} {σ:St} {H:Hp} {s:Shared} {T:String} {x:V} {v:Value} (I:Inv X pins σ H s) (r:RelV x v) (ty:tyV X.K T x H) :
  s.TypeIs v T ∧ ∀ a,v = .ref a -> ∃ ob,s.heap.get? a=some ob∧ob.dict=none:=by
 cases x with
 |str z =>obtain ⟨t,rfl⟩:=r;cases (show T = "str" from ty);exact ⟨typeIs_str s z t,fun _ e=>nomatch e⟩
 |int i =>obtain ⟨t,rfl⟩:=r;cases (show T = "int" from ty);exact ⟨typeIs_int s i t,fun _ e=>nomatch e⟩
 |ref p =>
  cases r;rcases ty with ⟨rfl,xs,hq⟩ |⟨rfl,o,hk,hc,hd⟩ |⟨rfl,hk⟩ |⟨rfl,S,n,hk⟩
  ·obtain ⟨its,_,pl,_⟩:=I.list hq;refine ⟨pl.isList.typeIs,fun a e => ?_⟩;cases e;obtain ⟨o,n,e,c,hd,_⟩:=pl;exact ⟨o,e,hd⟩
  ·refine ⟨⟨o,I.kIn p o hk,hc⟩,fun a e => ?_⟩;cases e;exact ⟨o,I.kIn _ o hk,hd⟩
  ·have z:∃ o,s.heap.get? p=some o∧o.ExactDict:=by
    rcases hk with ⟨kvs,hk⟩ |⟨kvs,hk⟩
    ·obtain ⟨_,_,_,_,o,_,_,e,ex,_⟩:=I.hok p _ hk;exact ⟨o,e,ex⟩
    ·obtain ⟨_,_,_,_,o,_,_,e,ex,_⟩:=I.hok p _ hk;exact ⟨o,e,ex⟩
   obtain ⟨o,e,ex⟩:=z;refine ⟨⟨o,e,ex.1⟩,fun a e2 => ?_⟩;cases e2;exact ⟨o,e,ex.2.1⟩
  ·obtain ⟨o,_,_,_,e,ex,_⟩:=I.hok p _ hk;refine ⟨⟨o,e,ex.1⟩,fun a e2 => ?_⟩;cases e2;exact ⟨o,e,ex.2.1⟩
 |_=>exact False.elim ty
def qKN (K:W.Frag) (T:String) (r:V->List V->Hp->VK->Prop) (to:TE):TE:=fun σ H Q=>to σ H fun x H1=>tyV K T x H1∧r x [] H1 Q
def tBM (K:W.Frag) (T:String) (r:V->List V->Hp->VK->Prop) (to:TE) (t:TA):TE:=fun σ H Q=>to σ H fun x H1=>tyV K T x H1∧t σ H1 fun xs H2=>r x xs H2 Q
variable {o e:Expr} {es:List Expr} {to:TE} {t:TA} {name:Str} {apos cpos:Pos} {T id:String} {r:V->List V->Hp->VK->Prop}
theorem qHC (pa:PlainAttrs T) (slot:Slot T name id) (hty:typeOf (.builtin id)=pure (.type "method_descriptor")) (hm:MtR X id r) (ho:PE X o to)
  (hbase:attributeBase o name X.env (eval o X.env)=eval o X.env:=by rfl) (hline:(apos.endLine==cpos.line)=true:=by rfl):PE X (.Call (.Attribute o name apos) [] [] cpos) (qKN X.K T r to):=by intro pins s σ H Q I h;refine wpAny_Call_method0_late hbase hline (thn (ho pins s σ H _ I h) fun v s1 ⟨x,H1,I1,r1,ty,q1⟩ => ?_);obtain ⟨h1,h2⟩:=qDo I1 r1 ty;exact ⟨T,id,pa,slot,hty,h1,h2,Calls.callWith_builtin rfl (PySem.evalArgs_none (hm pins s1 σ H1 x [] v [] Q I1 r1 .nil q1))⟩
theorem qD5 (pa:PlainAttrs T) (slot:Slot T name id) (hty:typeOf (.builtin id)=pure (.type "method_descriptor")) (hm:MtR X id r) (ho:PE X o to) (ha:PA X (e::es) t)
  (hbase:attributeBase o name X.env (eval o X.env)=eval o X.env:=by rfl)
  (hfew:((backTo cpos (starEach (e::es) X.env)).all (fun x => !x.1)&&(backToKw cpos (keywordEach [] X.env)).all (fun x=>x.1.isSome)
   && decide ((e::es).length + ([]:List Keyword).length + (if ([]:List Keyword).isEmpty then 0 else 1) < 30))=true:=by rfl)
  (hline:(apos.endLine==cpos.line)=true:=by rfl) (hs:starEach (e::es) X.env=(false,eval e X.env)::starEach es X.env:=by rfl) (hplain:(backTo cpos (starEach es X.env)).any (·.1)=false:=by rfl) :
  PE X (.Call (.Attribute o name apos) (e::es) [] cpos) (tBM X.K T r to t):=by
 intro pins s σ H Q I h;refine wpAny_Call_method_late hbase hfew hline rfl (thn (ho pins s σ H _ I h) fun v s1 ⟨x,H1,I1,r1,ty,q1⟩ => ?_);obtain ⟨h1,h2⟩:=qDo I1 r1 ty;refine ⟨T,id,pa,slot,hty,h1,h2,?_⟩;have hA:=ha cpos pins s1 σ H1 _ I1 q1;rw [hs] at hA ⊢;refine Calls.callWith_builtin (by show (false || (backTo cpos (starEach es X.env)).any (·.1))=false;rw [hplain] <;> rfl) (Calls.evalArgs_plain ?_)
 exact thn hA fun us s2 ⟨vs,H2,I2,r2,q2⟩=>hm pins s2 σ H2 x vs v us Q I2 r1 r2 q2
end
end L2
namespace L2
open PySem PySem.Spec PyProof.Rows
def MtM (X:Cx) (id:String) (r:V->List V->Hp->VK->Prop):Prop :=
 ∀ (pins:List (Addr×Obj)) (s:Shared) (σ:St) (H:Hp) (x:V) (xs:List V) (v:Value) (us:List Value) (Q:VK),Inv X pins σ H s->RelV x v->Vals xs us->r x xs H Q ->
  wpAny (model X.prog X.w) X.A (call (.builtin id) (v::us)) (EP X pins σ Q) X.xe s
theorem Vals.one:∀ {x:V} {us:List Value},Vals [x] us -> ∃ u,us=[u]∧RelV x u
 |_,_,.cons r .nil=>⟨_,rfl,r⟩
theorem Vals.zero:∀ {us:List Value},Vals [] us->us=[]
 |_,.nil=>rfl
theorem Vals.dropLast {xs:List V} {us:List Value} (h:Vals xs us):Vals xs.dropLast us.dropLast:=by
 induction h with
 |nil=>exact .nil
 |cons r t ih =>
  cases t with
  |nil=>exact .nil
  |cons q t'=>exact .cons r ih
theorem qAi {α:Type} (l:List α):l.eraseIdx (l.length - 1)=l.dropLast:=by
 induction l with
 |nil=>rfl
 |cons a r ih =>
  cases r with
  |nil=>rfl
  |cons b r =>
   have e:(a::b::r).length - 1=((b::r).length - 1) + 1:=by have h1:(a::b::r).length=r.length + 2:=rfl;have h2:(b::r).length=r.length + 1:=rfl;omega
   rw [e,List.eraseIdx_cons_succ,ih];all_goals rfl
section
variable {X:Cx} {pins:List (Addr×Obj)} {σ:St} {H:Hp} {s:Shared} {l b:Addr} {xs ys zs:List V}
theorem Inv.lset {its its':List Value} {n:Nat} {f:Array Value->Array Value} {t':Nat} (I:Inv X pins σ H s) (hH:H l=some (.lst xs))
  (e:s.heap.get? l=some { cls := .type "list",data := .seq its.toArray n }) (hf:f its.toArray=its'.toArray) (hv:Vals ys its') (hz:ys.length≤sizeLine) :
  Inv X pins σ (upd H l (.lst ys)) { s with heap:=s.heap.update l (Obj.mapSeq f),toks:=t' }:=by
 have q:=PySem.IsL.update e f;rw [hf] at q;refine I.write (x:=l) (e:=l) (by rw [hH];exact trivial) (.inl rfl) (fun b' u hb hu=>(Ak s.heap (Obj.mapSeq f) (Ne.symm hb)).trans hu) ⟨_,q⟩ ?_
 exact ⟨hz,its',_,hv,q⟩
theorem Inv.lnew {its:List Value} {t':Nat} (I:Inv X pins σ H s) (hv:Vals ys its) (hz:ys.length≤sizeLine) :
  Inv X pins σ (upd H s.heap.objs.size (.lst ys)) { s with heap:=s.heap.push { cls := .type "list",data := .seq its.toArray },toks:=t' } :=
 I.laid (fun _ _ q=>AD _ q) (AG _) ⟨hz,its,0,hv,AY _ rfl⟩
theorem Inv.fresh (I:Inv X pins σ H s):H s.heap.objs.size=none:=I.hok.fresh (AG _)
theorem Inv.lstM (I:Inv X pins σ H s) (hH:H l=some (.lst xs)):xs.length≤sizeLine ∧ ∃ (its:List Value) (n:Nat),Vals xs its∧xs.length=its.length∧s.heap.get? l=some { cls := .type "list",data := .seq its.toArray n }:=by obtain ⟨z,its,n,r,e⟩:=I.hok l _ hH;exact ⟨z,its,n,r,r.length,e⟩
end
section
variable {X:Cx}
def qF2:V->List V->Hp->VK->Prop:=fun x vs H Q => ∃ l xs y,x = .ref l∧vs=[y]∧H l=some (.lst xs)∧xs.length < sizeLine∧Q .non (upd H l (.lst (xs++[y])))
theorem jS:MtM X "list.append" qF2:=by
 intro pins s σ H x vs v us Q I rx rv h;obtain ⟨l,xs,y,rfl,rfl,hH,hz,q⟩:=h;cases rx;obtain ⟨u,rfl,ru⟩:=rv.one;obtain ⟨z,its,n,r,hl,e⟩:=I.lstM hH;refine call_meets F.slot_list_append ⟨_,e,rfl⟩ F.entry_list_append (F.args_list_append_2 _ _) (PySem.list_append l its.toArray n u (by rw [AM];omega)) ⟨e,?_⟩
 refine ⟨.non,_,I.lset (its':=its++[u]) hH e (by simp) (r.append (.cons ru .nil)) ?_,rfl,q⟩
 rw [AQ,As];omega
def qJ7:V->List V->Hp->VK->Prop:=fun x vs H Q => ∃ l xs y,x = .ref l∧vs=[]∧H l=some (.lst xs)∧xs[xs.length - 1]? = some y∧Q y (upd H l (.lst xs.dropLast))
theorem qHY:MtM X "list.pop" qJ7:=by
 intro pins s σ H x vs v us Q I rx rv h;obtain ⟨l,xs,y,rfl,rfl,hH,hy,q⟩:=h;cases rx;have hus:=rv.zero;subst hus;obtain ⟨z,its,n,r,hl,e⟩:=I.lstM hH;obtain ⟨u,hu,ru⟩:=r.get hy;have hy':its.toArray[its.toArray.size - 1]? = some u:=by show its.toArray[its.length - 1]? = some u;rw [← Av,← hl];exact hu
 refine call_meets F.slot_list_pop ⟨_,e,rfl⟩ F.entry_list_pop (F.args_list_pop_1 _) (MeetsSeq.list_pop_last l its.toArray n u hy' (by rw [AM];omega)) ⟨e,?_⟩
 refine ⟨y,_,I.lset (its':=its.dropLast) hH e ?_ r.dropLast ?_,ru,q⟩
 ·show its.toArray.eraseIdxIfInBounds (its.toArray.size - 1)=its.dropLast.toArray;rw [AM,List.eraseIdxIfInBounds_toArray,qAi]
 ·rw [List.length_dropLast];omega
end
end L2
namespace Att
open PySem PySem.W PySem.Calls PyProof.Rows
theorem yW {P:Params} {h:Heap}:∀ (ns:List Int) (vs:List Value),WellAll P h vs (ns.map WData.int)->IntsAre vs ns:=by
 intro ns;induction ns with
 |nil =>intro vs w;rw [List.map_nil] at w;cases w;exact .nil
 |cons n ns ih =>
  intro vs w;rw [Aj] at w;cases w with
  |cons a b =>cases a;exact .cons _ _ (ih _ b)
theorem qB1 {l:OpenLaw} {n:Nat} (hn:l.most=some n) {P:Params} {h:Heap} {args:List WData} {vals:List Value}
  (hpre:l.row.toRowW.claim.pre args=true) (hwl:WellAll P h vals args) :
  ∃ a vs ns,vals=[Value.ref a]∧args=[WData.list (ns.map WData.int)]∧h.get? a=some { cls := .type "list",data := .seq vs.toArray }∧IntsAre vs ns∧ns.length≤n:=by
 have hsh:WShape.hasAll [] args [.list .int]=true:=(pre_splitW hpre).1;have hc:l.pre.holds [] { args:=args }=true:=(pre_splitW hpre).2;obtain ⟨d,r,rfl,h1,h2⟩:=hasAllW_cons hsh;obtain rfl:=hasAllW_nil h2;obtain ⟨xs,rfl,h3⟩:=hasW_list h1;obtain ⟨ns,rfl⟩:=items_int h3;have hlen:ns.length≤n:=by
  unfold OpenLaw.pre at hc;have h4:(WTm.not (.lt (.lit (.int (n:Int))) (.len (.arg 0)))).holds [] { args:=[.list (ns.map .int)] }=true:=by have h4:=(holds_andW hc).1;rw [hn] at h4;exact h4
  have h5:=condW_of h4 (w_not (w_lt w_lit (w_len_list (w_arg rfl))));rw [AC] at h5;refine Nat.le_of_not_lt fun q => ?_;have q':(n:Int) < ((ns.length:Nat):Int):=by omega
  first
   |(rw [AR q'] at h5;exact absurd h5 (by decide))
   |(simp at h5;omega)
 cases hwl with
 |cons w1 w2 =>
  cases w2;cases w1 with
  |list ho hall=>exact ⟨_,_,ns,rfl,rfl,ho,yW ns _ hall,hlen⟩
theorem qCE (l:OpenLaw) (args:List WData):l.row.toRowW.claim.post args (.bool true) args=true :=
 postW_of (r:=l.row.toRowW) (X:=(true==true))
  (show WShape.has [] (.bool true) .bool=true by first |rfl |decide |simp [WShape.has,WShape.arms,WShape.armsAll])
  (show (WTm.eq .res (.lit (.bool true))).value [] { args:=args,res:=some (.bool true),after:=args }=some (.bool (true==true)) from w_eq_bool (w_res rfl) w_lit) rfl
end Att
namespace L2
open PySem PySem.Spec PyProof.Rows
theorem Y2:∀ {vs:List Value} {ns:List Int},IntsAre vs ns->Vals (ns.map V.int) vs
 |_,_,.nil => .nil
 |_,_,.cons n t h => .cons ⟨t,rfl⟩ (Y2 h)
def qH4 (H:Hp):Prop := ∀ b,H b=none ∨ ∃ o xs,H b=some (.frz o (.lst xs))
theorem qDI {P:Program} {w:World} {K:W.Frag} {mg mb:Str->Option Value} {CX:CXT} {k:Nat} {fa a:Addr} {fd:FuncData} {x:Str} {sp:Sp} {s₁:Shared} {vs:List Value} {ns:List Int}
  (KX:K.In s₁.heap) (hns:s₁.heap.Ns mainGlobals mg) (hb:s₁.heap.Ns builtinsNs mb) (hbb:∀ x:Str,x ≠ "__name__" -> mb x=bootBuiltins x) (hlim:s₁.heap.NoLimit) (hg:s₁.gens = #[])
  (ha:s₁.heap.get? a=some { cls := .type "list",data := .seq vs.toArray }) (hi:IntsAre vs ns) (hl:ns.length≤sizeLine) (hr:Room k callerA)
  (F:∀ base:Heap,K.In base->base.Ns mainGlobals mg->FnOk P w K mg base CX k fa fd [x] sp) (hbind:∀ (s:Shared) (u:Value),BindsTo s fd ⟨[u],[]⟩ [(x,u)])
  (hsp:∀ H:Hp,qH4 H->SqL K H a (ns.map V.int)->sp [.ref a] H (fun v _=>v = .bl true) fun _ _ _=>False)
  (hCX:∀ H e s',CX [] H s₁ (fun _ _ _=>False) e s'->False) :
  codeAny (model P w) callerA (.call (.ref fa) ⟨[.ref a],[]⟩) (fun r s'=>r = .ok (.ret (.bool true))∧OldK s₁.heap s'.heap∧s'.os=s₁.os∧AllBare s'.gens) s₁:=by
 have rv:=Y2 hi;have lenV:=hi.length
 -- from an abstract heap in which nothing but the script may be tracked
 have core:∀ H:Hp,qH4 H->SqL K H a (ns.map V.int)->HOk P w H s₁.heap->(∀ b,H b≠none->b=a)->(H a≠none->K.lookup a=none) ->
   codeAny (model P w) callerA (.call (.ref fa) ⟨[.ref a],[]⟩) (fun r s'=>r = .ok (.ret (.bool true))∧OldK s₁.heap s'.heap∧s'.os=s₁.os∧AllBare s'.gens) s₁:=by
  intro H hO hS hok hA hK;have base_of:∀ {b:Addr} {o:Obj},s₁.heap.get? b=some o->H b=none->(jp s₁.heap H).get? b=some o:=fun e n=>qCn e n;have noA:∀ {b:Addr} {o:Obj} {es:Array DictEntry} {ep:Nat},s₁.heap.get? b=some o->o.data = .dict es ep->H b=none:=fun {b o es ep} e d=>by
   cases q:H b with
   |none=>rfl
   |some u =>
    have e':b=a:=hA b (by rw [q];simp)
    subst e';rw [ha] at e;cases e;have d':Data.seq vs.toArray _=Data.dict es ep:=d;cases d'
  have nsK:∀ {b:Addr} {m:Str->Option Value},s₁.heap.Ns b m->(jp s₁.heap H).Ns b m:=fun {b m} ⟨o,es,ep,e,d,r⟩=>⟨o,es,ep,base_of e (noA e d),d,r⟩;have hKb:K.In (jp s₁.heap H):=fun b o e=>base_of (KX b o e) (by
   cases q:H b with
   |none=>rfl
   |some u =>
    have e':b=a:=hA b (by rw [q];simp)
    subst e';rw [hK (by rw [q];simp)] at e;cases e)
  have hM:Mod K mg (jp s₁.heap H):=⟨hKb,nsK hns,⟨mb,nsK hb,hbb⟩,let ⟨mc,h1,h2⟩:=hlim;⟨mc,nsK h1,h2⟩⟩
  have e0:Env0 P w K mg (jp s₁.heap H) callerA [] s₁ H:=⟨rfl,hM,fun b o e=>qE6 e,Nat.le_of_eq (qCZ _ _),trivial,fun b hb=>absurd (show b∈([]:List Addr) from hb) (by simp),hok,.of_eq hg,HndH.none rfl⟩
  refine codeAny_mono ((F _ hKb (nsK hns)).run callerA [] s₁ H ⟨[.ref a],[]⟩ [.ref a] [.ref a] _ _ hr e0 (hbind s₁ (.ref a)) (.cons rfl .nil) (hsp H hO hS)) fun r s' h => ?_;cases r with
  |error e=>exact (hCX H e s' h).elim
  |ok fl =>
   cases fl with
   |next=>exact False.elim h
   |brk=>exact False.elim h
   |cont=>exact False.elim h
   |ret u =>
    obtain ⟨v,H',os,bare,un,hok',r',q⟩:=h;have q':v = .bl true:=q;subst q';obtain rfl:u=Value.bool true:=r';refine ⟨rfl,OldK.of_keep fun b o e => ?_,os,bare⟩;cases q:H b with
    |none=>exact un.keep b o e q (by intro z;exact absurd (show b∈([]:List Addr) from z) (by simp)) (by simp)
    |some u =>
     rcases hO b with z |⟨ob,xs,z⟩
     ·rw [q] at z;cases z
     ·have z2:=un.frzs b ob _ z;obtain ⟨e1,_⟩:=hok b _ z;obtain ⟨e2,_⟩:=hok' b _ z2;rw [e] at e1;cases e1;exact e2
 cases hk:K.lookup a with
 |some o =>
  -- the script is one of the module's own objects
  have e:=KX a o hk;rw [ha] at e;cases e;refine core (fun _=>none) (fun _ => .inl rfl) (.inr ⟨_,vs.toArray,_,hk,rfl,rfl,rfl,by rw [AM,lenV];exact hl,by simpa using rv⟩) (fun b u z=>by have z':(none:Option HO)=some u:=z;cases z') (fun b z=>absurd rfl z) fun z=>absurd rfl z
 |none =>
  refine core (fun b=>if b=a then some (.frz { cls := .type "list",data := .seq vs.toArray } (.lst (ns.map V.int))) else none) (fun b => ?_) (.inl (.inr ⟨{ cls := .type "list",data := .seq vs.toArray },AF rfl⟩)) (fun b u z => ?_) (fun b z => ?_) fun _=>hk
  ·by_cases hb:b=a
   ·exact .inr ⟨_,_,AF hb⟩
   ·exact .inl (AK hb)
  ·by_cases hb:b=a
   ·have z':=(AF hb).symm.trans z;cases z';subst hb;exact ⟨ha,by rw [AC];exact hl,vs,_,rv,ha⟩
   ·have z':=(AK hb).symm.trans z;cases z'
  ·by_cases hb:b=a
   ·exact hb
   ·exact absurd (AK hb) z
end L2
namespace L2
open PySem PySem.Spec PyProof.Rows
end L2
namespace L2
open PySem PySem.Spec PyProof.Rows
def qj (s:Stmt):Arguments:=match s with
 | .FunctionDef _ a _ _ _ _ _ _ _ _=>a
 |_=>{ posonlyargs:=[],args:=[],vararg:=none,kwonlyargs:=[],kw_defaults:=[],kwarg:=none,defaults:=[] }
def qh (s:Stmt):List Stmt:=match s with
 | .FunctionDef _ _ b _ _ _ _ _ _ _=>b
 |_=>[]
def qM (s:Stmt):Scope:=match s with
 | .FunctionDef _ _ _ _ _ _ sc _ _ _=>sc
 |_=>{ kind := .function,names:=[],isGenerator:=false,isCoroutine:=false }
abbrev E0:XK:=fun _ _ _=>False
structure Fun (K:W.Frag) (x qual:Str) (st:Stmt) (f:Addr) (fd:FuncData):Prop where
 ex:∃ (oc:Value) (od:Option Addr) (kV doc pm:Value) (an:Option Addr) (cdv ct:Value) (osl:Array (Option Value)),
  fd=W.fnOf x qual (qj st) (qh st) (qM st) .none kV doc pm an cdv ct∧K.lookup f=some ⟨oc,od,.func fd,osl⟩∧W.codeIn K cdv qual=true
 kp:W.keepIn K (.ref f)=true
section
variable {P:Program} {w:World} {K:W.Frag} {mg:Str->Option Value} {base:Heap}
theorem Fun.binds {x qual:Str} {st:Stmt} {f:Addr} {fd:FuncData} {ps:List Str} (F:Fun K x qual st f fd)
  (h:∀ (kV doc pm:Value) (an:Option Addr) (cdv ct:Value) (us:List Value),us.length=ps.length->bindArgs (W.fnOf x qual (qj st) (qh st) (qM st) .none kV doc pm an cdv ct) ⟨us,[]⟩=pure (ps.zip us)):Binds K fd ps []:=by obtain ⟨oc,od,kV,doc,pm,an,cdv,ct,osl,rfl,lk,hcd⟩:=F.ex;exact .all (h kV doc pm an cdv ct)
theorem QJ {x qual:Str} {st:Stmt} {f:Addr} {oc:Value} {od an:Option Addr} {osl:Array (Option Value)} {kV doc pm cdv ct:Value} (l:K.lookup f=some ⟨oc,od,.func (W.fnOf x qual (qj st) (qh st) (qM st) .none kV doc pm an cdv ct),osl⟩)
  (c:W.codeIn K cdv qual=true) (k:W.keepIn K (.ref f)=true):Fun K x qual st f (W.fnOf x qual (qj st) (qh st) (qM st) .none kV doc pm an cdv ct):=⟨⟨oc,od,kV,doc,pm,an,cdv,ct,osl,rfl,l,c⟩,k⟩
end
section
variable {X:Cx}
theorem pv (i:Nat) {x:Str} {pos:Pos} (hN:X.N[i]? = some x:=by rfl) (hv:Vis X.env.scope x:=by first |exact Or.inl rfl |exact Or.inr (Or.inl rfl) |exact Or.inr (Or.inr rfl)) (hd:(x==("__debug__":Str))=false:=by decide)
  (hcd:(x==("__classdict__":Str))=false:=by decide):PE X (.Name x pos) (qHn i):=qH0 hN hv hd hcd
end
theorem qCN {A B:Prop} (h:B):if false=true then A else B:=by rw [AK BW];exact h
theorem qBs {A B:Prop} (h:A):if true=true then A else B:=by rw [AF rfl];exact h
def Same (H H':Hp):Prop := ∀ b o,H b=some o->H' b=some o
theorem Same.refl (H:Hp):Same H H:=fun _ _ h=>h
end L2
end
section
namespace L2
open PySem PySem.Spec PyProof.Rows
section
variable {X:Cx} {pins:List (Addr×Obj)} {σ:St} {H:Hp} {s:Shared} {a:Addr} {y v:V} {u r:Value} {o:Option V} {A:Around} {E:Value->Shared->Prop}
theorem Inv.big (I:Inv X pins σ H s):sysModules < s.heap.objs.size:=by have h:mainGlobals < s.heap.objs.size:=(I.mod.glob.keeps I.bk).lt;exact Nat.lt_trans (by decide) h
end
theorem qD3 {P:Program} {w:World} {H:Hp} (h:Heap) (hb:sysModules < h.objs.size):ObjOk P w H (h.push { cls := .type "dict",data := .dict #[] }) h.objs.size (.dK []) :=
 ⟨A3 _,AW.mpr (Ne.symm (Ac hb)),[],.nil,Heap.DictOf.new h⟩
def qIb:TE:=fun _ H Q => ∀ p,H p=none->Q (.ref p) (upd H p (.dK []))
section
variable {X:Cx} {pos:Pos}
theorem qEd:PE X (.Dict [] [] pos) qIb:=fun pins s σ H Q I h =>
 wpAny_Dict_empty ⟨.ref s.heap.objs.size,_,I.laid (a:=s.heap.objs.size) (o := .dK []) (t':=s.toks) (fun _ _ q=>AD _ q) (AG _) (qD3 s.heap I.big),rfl,h _ (I.hok.fresh (AG _))⟩
end
end L2
namespace L2
open PySem PySem.Spec PyProof.Rows
end L2
end
section
namespace EX
open PySem PySem.Spec PyProof.Rows
def Trc (h B:Heap) (e:Addr) (cls:Value) (dd:Option Addr) (fl:Value):Prop :=
 ∃ oe vs T oT ts,h.get? e=some oe∧oe.cls=cls∧oe.dict=dd∧oe.data = .fields vs∧vs[1]? = some (Value.ref T)∧vs[2]? = some Value.none∧B.get? T=none∧T≠e∧h.get? T=some oT∧oT.data = .fields ts∧ts[3]? = some fl
def Fly (B:Heap) (l:List Env) (e:Addr) (cls:Value) (dd:Option Addr) (fl:Value) (h:Heap):Prop:=B.StaysIn h∧B.get? e=none∧h.FunFrames B l∧Trc h B e cls dd fl
theorem Fly.tail {B h:Heap} {env:Env} {l:List Env} {e:Addr} {cls fl:Value} {dd:Option Addr} (x:Fly B (env::l) e cls dd fl h):Fly B l e cls dd fl h:=⟨x.1,x.2.1,x.2.2.1.2.2,x.2.2.2⟩
section
variable {M:Model} {A:Around} {E:Value->Shared->Prop} {s:Shared} {B:Heap} {env:Env} {outer:List Env} {L e:Addr} {cls:Value} {dd:Option Addr} {Q:Unit->Shared->Prop}
theorem qAI {oe:Obj} {vs:Array Value} {head:Value} {nx:Bool} (f1:A.frames=some (env::outer)) (f2:s.heap.FunFrames B (env::outer)) (f3:env.frame=some L) (k1:B.StaysIn s.heap) (k2:B.get? e=none)
  (g1:s.heap.get? e=some oe) (g2:oe.data = .fields vs) (g3:1 < vs.size) (g4:vs[2]? = some Value.none) (h:∀ h',Fly B (env::outer) e oe.cls oe.dict (rawInt L) h'->s.heap.UpToSlots h'->Q () { s with heap:=h' }) :
  wpAny M A (do let a ← frameOf env;let pl ← entryPlaceOf L nx;let b ← EntryCells.newEntry head a .none (rawInt L) .none pl;setField (.ref e) 1 b) Q E s:=by
 have nfr:e ∉ (env::outer).filterMap (·.frame):=fun hm=>by obtain ⟨_,o,ho,hnf⟩:=f2.mem hm;rw [g1] at ho;cases ho;exact hnf vs g2
 refine AA (wpAny_frameOf_fun f1 f2 f3 fun h1 so=>AA (wpAny_entryPlaceOf fun pl hpl => ?_));unfold EntryCells.newEntry newFields;refine AA (A1 ?_ (hpl.sizeOk5 _ _ _ _ _));generalize hts:([head,Value.ref L,.none,rawInt L,.none]++(if pl.isEmpty then List.replicate 6 Value.none else pl)).toArray=ts;have ht3:ts[3]? = some (rawInt L):=by rw [← hts];first |(simp;done) |(rcases hpl with rfl |⟨_,_,_,_,_,_,_,rfl⟩ <;> simp)
 have a1:h1.get? e=some oe:=(so.2.1 e nfr).trans g1;have kb:B.StaysIn h1:=fun b o q=>(so.2.1 b fun hm=>by rw [(f2.mem hm).1] at q;cases q).trans (k1 b o q)
 have a2:=AD (h:=h1) { cls := .type "traceback",dict:=none,data := .fields ts } a1;refine B4 a2 g2 g3 (h _ ?_ ?_)
 ·have ne1:h1.objs.size≠e:=Nat.ne_of_gt (AT a1);have d3:=CN g2 (·.setIfInBounds 1 (Value.ref h1.objs.size));have a3:=BG (Obj.mapFields (·.setIfInBounds 1 (Value.ref h1.objs.size))) a2 (Obj.isFreed_of_fields d3);have a4:=(Ak (h1.push { cls := .type "traceback",dict:=none,data := .fields ts }) (Obj.mapFields (·.setIfInBounds 1 (Value.ref h1.objs.size))) (Ne.symm ne1)).trans (AY h1 rfl);have kp:∀ b o,b≠e->h1.get? b=some o->((h1.push { cls := .type "traceback",dict:=none,data := .fields ts }).update e (Obj.mapFields (·.setIfInBounds 1 (Value.ref h1.objs.size)))).get? b=some o:=fun b o hb q =>
   (Ak _ _ (Ne.symm hb)).trans (AD _ q)
  refine ⟨fun b o q=>kp b o (fun z=>by rw [z,k2] at q;cases q) (kb b o q),k2,f2.of_keeps fun b o q nf => ?_,_,_,h1.objs.size,_,ts,a3,Obj.cls_mapFields _ _,?_,d3,?_,?_,kb.fresh,ne1,a4,rfl,ht3⟩
  ·obtain ⟨sl,q2⟩:=so.2.2 b o q;exact ⟨_,kp b _ (fun z=>by rw [z,g1] at q;cases q;exact nf vs g2) q2,rfl⟩
  ·obtain ⟨c,d,dt,sl⟩:=oe;have g2:dt = .fields vs:=g2;subst g2;rfl
  ·simp [g3]
  ·rw [Array.getElem?_setIfInBounds_ne (by decide)];exact g4
 ·intro b o q nf;have hb:b≠e:=fun z=>by rw [z,g1] at q;cases q;exact nf vs g2
  obtain ⟨sl,q2⟩:=so.2.2 b o q;exact ⟨sl,(Ak _ _ (Ne.symm hb)).trans (AD _ q2)⟩
theorem qAm {oe:Obj} {vs:Array Value} (f1:A.frames=some (env::outer)) (f2:s.heap.FunFrames B (env::outer)) (f3:env.frame=some L) (k1:B.StaysIn s.heap) (k2:B.get? e=none)
  (g1:s.heap.get? e=some oe) (g2:oe.data = .fields vs) (g3:vs[1]? = some Value.none) (g4:vs[2]? = some Value.none) (h:∀ h',Fly B (env::outer) e oe.cls oe.dict (rawInt L) h'->s.heap.UpToSlots h'->Q () { s with heap:=h' }) :
  wpAny M A (noteFrame (.ref e) env) Q E s:=by
 unfold noteFrame;simp only [f3];refine AA (A6 g1 g2 g3 ?_);rw [AK (show ¬ ((Value.none != Value.none)=true) by decide)]
 exact qAI f1 f2 f3 k1 k2 g1 g2 (BT.mp g3).1 g4 h
theorem jA (f1:A.frames=some (env::outer)) (f3:env.frame=some L) (x:Fly B (env::outer) e cls dd .none s.heap) (h:∀ h',Fly B (env::outer) e cls dd (rawInt L) h'->s.heap.UpToSlots h'->Q () { s with heap:=h' }) :
  wpAny M A (noteFrame (.ref e) env) Q E s:=by
 obtain ⟨k1,k2,f2,oe,vs,T,oT,ts,g1,rfl,rfl,g2,g3,g4,t1,t2,t3,t4,t5⟩:=x;unfold noteFrame;simp only [f3];refine AA (A6 g1 g2 g3 ?_);rw [AF (show (Value.ref T != Value.none)=true by simp)]
 refine AA (A6 t3 t4 t5 ?_);rw [AK (show ¬ ((Value.none==rawInt L)=true) by simp [rawInt])]
 refine AA (B4 t3 t4 (BT.mp t5).1 ?_);have ot:∀ b,b≠T->(s.heap.update T (Obj.mapFields (·.setIfInBounds 3 Value.none))).get? b=s.heap.get? b:=fun b hb=>Ak _ _ (Ne.symm hb);have nr:∀ b o,s.heap.get? b=some o->(∀ us,o.data ≠ .fields us)->b≠T:=fun b o q nf z=>by rw [z,t3] at q;cases q;exact nf ts t4
 refine qAI f1 (f2.of_keeps fun b o q nf=>⟨o,(ot b (nr b o q nf)).trans q,rfl⟩) f3 (fun b o q=>(ot b fun z=>by rw [z,t1] at q;cases q).trans (k1 b o q)) k2 ((ot e (Ne.symm t2)).trans g1) g2 (BT.mp g3).1 g4 fun h' x u=>h h' x fun b o q nf => ?_
 exact u b o ((ot b (nr b o q nf)).trans q) nf
theorem qBU {l:List Env} {fl:Value} (x:Fly B l e cls dd fl s.heap) (h:∀ h',Fly B l e cls dd .none h'->s.heap.UpToSlots h'->Q () { s with heap:=h' }):wpAny M A (setFlight (.ref e) none) Q E s:=by
 obtain ⟨k1,k2,f2,oe,vs,T,oT,ts,g1,g0,g00,g2,g3,g4,t1,t2,t3,t4,t5⟩:=x;have t6:3 < ts.size:=(BT.mp t5).1;have ot:∀ b,b≠T->(s.heap.update T (Obj.mapFields (·.setIfInBounds 3 ((none:Option Addr).elim Value.none fun f=>rawInt f)))).get? b=s.heap.get? b:=fun b hb=>Ak _ _ (Ne.symm hb);have nr:∀ b o,s.heap.get? b=some o->(∀ us,o.data ≠ .fields us)->b≠T:=fun b o q nf z=>by rw [z,t3] at q;cases q;exact nf ts t4
 unfold setFlight;refine AA (A6 g1 g2 g3 ?_);rw [AF (show (Value.ref T != Value.none)=true by simp)]
 refine B4 t3 t4 t6 (h _ ⟨fun b o q=>(ot b fun z=>by rw [z,t1] at q;cases q).trans (k1 b o q),k2,f2.of_keeps fun b o q nf=>⟨o,(ot b (nr b o q nf)).trans q,rfl⟩,?_⟩ fun b o q nf=>⟨o.slots,(ot b (nr b o q nf)).trans q⟩)
 exact ⟨oe,vs,T,_,_,(ot e (Ne.symm t2)).trans g1,g0,g00,g2,g3,g4,t1,t2,BG _ t3 (Obj.isFreed_of_fields (CN t4 _)),CN t4 _,by simp [t6]⟩
theorem jo {oe:Obj} {vs:Array Value} (f1:A.frames=some (env::outer)) (f2:s.heap.FunFrames B (env::outer)) (f3:env.frame=some L) (k1:B.StaysIn s.heap) (k2:B.get? e=none)
  (g1:s.heap.get? e=some oe) (g2:oe.data = .fields vs) (g3:vs[1]? = some Value.none) (g4:vs[2]? = some Value.none) (h:∀ h',Fly B outer e oe.cls oe.dict .none h'->s.heap.UpToSlots h'->Q () { s with heap:=h' }) :
  wpAny M A (leaving env (.ref e)) Q E s:=by unfold leaving;exact AA (qAm f1 f2 f3 k1 k2 g1 g2 g3 g4 fun h1 x1 u1=>qBU x1 fun h2 x2 u2=>h h2 x2.tail (u1.trans u2))
theorem Jl (f1:A.frames=some (env::outer)) (f3:env.frame=some L) (x:Fly B (env::outer) e cls dd .none s.heap) (h:∀ h',Fly B outer e cls dd .none h'->s.heap.UpToSlots h'->Q () { s with heap:=h' }) :
  wpAny M A (leaving env (.ref e)) Q E s:=by unfold leaving;exact AA (jA f1 f3 x fun h1 x1 u1=>qBU x1 fun h2 x2 u2=>h h2 x2.tail (u1.trans u2))
end
end EX
end
section
namespace EX
open PySem PySem.Spec PyProof.Rows L2
structure UnB (fs:List Addr) (H H1:Hp) (h B:Heap):Prop where
 keep:∀ b o,h.get? b=some o->H b=none->b ∉ fs->B.get? b=some o
 free:∀ b o,h.get? b=some o->H b=none->H1 b=none
 there:∀ b o,h.get? b=some o->b ∉ fs -> ∃ o',B.get? b=some o'
 tups:∀ b xs,H b=some (.tup xs)->H1 b=some (.tup xs)
 frzs:∀ b o u,H b=some (.frz o u)->H1 b=some (.frz o u)
 tbls:∀ b ps,H b=some (.tbl ps) -> ∃ more,H1 b=some (.tbl (ps++more))
def CXF (P:Program) (w:World):CXT:=fun outer H s E e s' =>
 ∃ ea cls dd B H1,e=Value.ref ea∧Fly B outer ea cls dd .none s'.heap∧HOk P w H1 B∧s'.os=s.os∧AllBare s'.gens∧UnB (frs outer) H H1 s.heap B ∧
  (∀ b∈frs outer,∀ o,s.heap.get? b=some o -> ∃ sl,s'.heap.get? b=some { o with slots:=sl })∧E cls dd H1
theorem Jr {env:Env} {outer:List Env} {L:Addr} (h:env.frame=some L):frs (env::outer)=L::frs outer:=by unfold frs;rw [BA,h]
theorem CXF.un {P:Program} {w:World} {outer:List Env} {H H1:Hp} {s s':Shared} {B:Heap} (hs:B.StaysIn s'.heap) (un:UnB (frs outer) H H1 s.heap B) (sl:∀ b∈frs outer,∀ o,s.heap.get? b=some o -> ∃ sl,s'.heap.get? b=some { o with slots:=sl }) :
  Un (frs outer) [] H H1 s.heap s'.heap where
 keep:=fun b o e n hb _=>hs b o (un.keep b o e n hb)
 slot:=fun b o e n hb _=>sl b hb o e
 free:=fun b o e n _=>un.free b o e n
 there:=fun b o e _=>by
  by_cases hb:b∈frs outer
  ·obtain ⟨x,q⟩:=sl b hb o e;exact ⟨_,q⟩
  ·obtain ⟨o',q⟩:=un.there b o e hb;exact ⟨o',hs b o' q⟩
 tups:=un.tups
 frzs:=un.frzs
 tbls:=un.tbls
section
variable {P:Program} {w:World} {K:W.Frag} {mg:Str->Option Value} {base:Heap} {N:List Str} {qual:Str} {scope:Scope} {f:Addr} {cd:Value} {A:Around} {outer:List Env} {s₀:Shared} {H₀:Hp} {E:XK}
theorem qa:zp (CXF P w) (wS (CXF P w) P w K mg base N qual scope f cd A outer s₀ H₀ E) E:=by
 intro pins σ H s e s' I c;obtain ⟨ea,cls,dd,B,H1,rfl,fl,hok,os,bare,un,sl,q⟩:=c;have hfr:(envOfC qual scope s₀.heap.objs.size f cd).frame=some s₀.heap.objs.size:=rfl;have ef:frs (wS (CXF P w) P w K mg base N qual scope f cd A outer s₀ H₀ E).stack=s₀.heap.objs.size::frs outer:=Jr hfr;have Ib:Un (frs outer) [] H₀ H s₀.heap s.heap:=I.base;have ne:∀ b o,s₀.heap.get? b=some o->b≠s₀.heap.objs.size:=fun b o e=>Ac (AT e);refine Jl I.ok.frames hfr fl fun h' x u=>⟨ea,cls,dd,B,H1,rfl,x,hok,os.trans I.os,bare,?_,fun b hb o e => ?_,q⟩
 ·refine ⟨fun b o e n hb => ?_,fun b o e n => ?_,fun b o e hb => ?_,fun b xs e=>un.tups b xs (Ib.tups b xs e),fun b o u e=>un.frzs b o u (Ib.frzs b o u e),fun b ps e => ?_⟩
  ·exact un.keep b o (Ib.keep b o e n hb (by simp)) (Ib.free b o e n (by simp)) (by rw [ef];intro z;exact (AJ.mp z).elim (ne b o e) hb)
  ·obtain ⟨o',e'⟩:=Ib.there b o e (by simp)
   exact un.free b o' e' (Ib.free b o e n (by simp))
  ·obtain ⟨o',e'⟩:=Ib.there b o e (by simp)
   exact un.there b o' e' (by rw [ef];intro z;exact (AJ.mp z).elim (ne b o e) hb)
  ·obtain ⟨m1,e1⟩:=Ib.tbls b ps e;obtain ⟨m2,e2⟩:=un.tbls b _ e1;exact ⟨m1++m2,by rw [e2,Array.append_assoc]⟩
 ·obtain ⟨sl1,e1⟩:=Ib.slot b o e (I.ok.frf b hb) hb (by simp)
  obtain ⟨sl2,e2⟩:=sl b (by rw [ef];exact AE _ hb) _ e1
  have nf:∀ vs,o.data ≠ .fields vs:=by obtain ⟨_,o2,ho2,nf⟩:=I.ok.funs.mem hb;have e:(wS (CXF P w) P w K mg base N qual scope f cd A outer s₀ H₀ E).s₀.heap.get? b=some o:=e;rw [e] at ho2;cases ho2;exact nf
  obtain ⟨sl3,e3⟩:=u b _ e2 nf;exact ⟨sl3,e3⟩
theorem qB4 {pins:List (Addr×Obj)} {σ:L2.St} {H:Hp} {s:Shared} {h':Heap} {e:Addr} {oe:Obj} {vs:Array Value} {H1:Hp} {B0:Heap} (I:L2.Inv (wS (CXF P w) P w K mg base N qual scope f cd A outer s₀ H₀ E) pins σ H s) (k:∀ b o,s.heap.get? b=some o->h'.get? b=some o) (hn:s.heap.get? e=none)
  (g1:h'.get? e=some oe) (g2:oe.data = .fields vs) (g3:vs[1]? = some Value.none) (g4:vs[2]? = some Value.none) (q:E oe.cls oe.dict H):(wS (CXF P w) P w K mg base N qual scope f cd A outer s₀ H₀ E).xe (.ref e) { s with heap:=h' }:=by
 have hfr:(envOfC qual scope s₀.heap.objs.size f cd).frame=some s₀.heap.objs.size:=rfl;have ef:frs (wS (CXF P w) P w K mg base N qual scope f cd A outer s₀ H₀ E).stack=s₀.heap.objs.size::frs outer:=Jr hfr;have Ib:Un (frs outer) [] H₀ H s₀.heap s.heap:=I.base;have ne:∀ b o,s₀.heap.get? b=some o->b≠s₀.heap.objs.size:=fun b o e=>Ac (AT e);generalize hB:W.hideAll s.heap (frs (wS (CXF P w) P w K mg base N qual scope f cd A outer s₀ H₀ E).stack)=B;have toB:∀ b o,s.heap.get? b=some o->b ∉ frs (wS (CXF P w) P w K mg base N qual scope f cd A outer s₀ H₀ E).stack->B.get? b=some o:=fun b o e hb=>by rw [← hB];exact W.hideAll_get _ e hb
 have ofB:∀ b o,B.get? b=some o->s.heap.get? b=some o:=fun b o e=>by rw [← hB] at e;exact W.of_hideAll _ e
 have trk:∀ b u,H b=some u->b ∉ frs (wS (CXF P w) P w K mg base N qual scope f cd A outer s₀ H₀ E).stack:=fun b u e z=>by rw [I.stkFree b z] at e;cases e
 have fun1:h'.FunFrames B (wS (CXF P w) P w K mg base N qual scope f cd A outer s₀ H₀ E).stack:=by
  have:=W.funFrames_hide (as:=frs (wS (CXF P w) P w K mg base N qual scope f cd A outer s₀ H₀ E).stack) I.stack fun env he a ha=>Bw.mpr ⟨env,he,ha⟩
  rw [hB] at this;exact this.of_keeps fun b o e _=>⟨o,k b o e,rfl⟩
 have eB:B.get? e=none:=by
  cases z:B.get? e with
  |none=>rfl
  |some o=>have:=ofB e o z;rw [hn] at this;cases this
 refine jo (s:={ s with heap:=h' }) I.ok.frames fun1 hfr (fun b o z=>k b o (ofB b o z)) eB g1 g2 g3 g4 fun h2 x u=>⟨e,oe.cls,oe.dict,B,H,rfl,x,?_,I.os,I.bare,?_,fun b hb o e1 => ?_,q⟩
 ·exact fun b u e1=>(I.hok b u e1).stay (fun c v hc z=>toB c v z (hc.elim (fun z=>by rw [z];exact trk b u e1) fun z=>trk c _ z)) (fun _ z=>z) fun _ _ z=>z
 ·refine ⟨fun b o e n hb => ?_,fun b o e n=>Ib.free b o e n (by simp),fun b o e hb => ?_,fun b xs e=>Ib.tups b xs e,fun b o u e=>Ib.frzs b o u e,fun b ps e=>Ib.tbls b ps e⟩
  ·exact toB b o (Ib.keep b o e n hb (by simp)) (by rw [ef];intro z;exact (AJ.mp z).elim (ne b o e) hb)
  ·obtain ⟨o',e'⟩:=Ib.there b o e (by simp)
   exact ⟨o',toB b o' e' (by rw [ef];intro z;exact (AJ.mp z).elim (ne b o e) hb)⟩
 ·obtain ⟨sl1,e2⟩:=Ib.slot b o e1 (I.ok.frf b hb) hb (by simp)
  have nf:∀ vs,o.data ≠ .fields vs:=by obtain ⟨_,o2,ho2,nf⟩:=I.ok.funs.mem hb;have e1:(wS (CXF P w) P w K mg base N qual scope f cd A outer s₀ H₀ E).s₀.heap.get? b=some o:=e1;rw [e1] at ho2;cases ho2;exact nf
  obtain ⟨sl3,e3⟩:=u b _ (k b _ e2) nf;exact ⟨sl3,e3⟩
end
section
variable {prog:Program} {w:World} {A:Around} {E:Value->Shared->Prop} {s:Shared} {K:W.Frag} {x D:Addr} {ox:Obj} {od:Option Obj}
structure ExcK (K:W.Frag) (D:Addr):Prop where
 ga:W.findIn K (.ref D) "__getattribute__" = some (some (.builtin "BaseException.__getattribute__"))
 gn:W.findIn K (.ref D) "__getattr__" = some none
 fo:∀ od,W.findObj K D od "__class__" = some (.bind (.builtin "getset_descriptor.__get__") (.builtin "object.__class__"))
 mo:W.mroIn K D (.type "object")=some true
 mb:W.mroIn K D (.type "BaseException")=some true
theorem qB7 {Q:Option Value->Shared->Prop} (C:ExcK K D) (X:K.In s.heap) (I:W.InstAt s.heap x ox D od) (h:Q (some (.ref D)) { s with toks:=s.toks + 1 }):wpAny (model prog w) A (getAttr? (.ref x) "__class__") Q E s:=by
 obtain ⟨hh,g,d,t,os⟩:=s;have L0:=I.type (M:=model prog w);have L1:=W.looks_findIn (M:=model prog w) X C.ga;have L2:=W.looks_findIn (M:=model prog w) X C.gn;have L3:=W.looks_find (M:=model prog w) X I (C.fo od);have L4:=W.looks_mroIn (M:=model prog w) X C.mb;have LI:W.Looks (model prog w) hh (isInstance (.ref x) (.type "BaseException")) true:=L0.andThen L4;have f3:=F.attr_ValueError.ga.bind (.ref x);unfold getAttr? getAttrBy? getAttrBy;refine AA (wpAny_mkText (AA (CU (An (AA (L0.at (AA (L1.at ?_))))))));show wpAny _ _ (getAttrByItsOwn _ _ _ _ _ _) _ _ _;unfold getAttrByItsOwn;refine AA (L2.at (AA (CU (An ?_))));show wpAny _ _ (boundAndCalled _ _ _) _ _ _;unfold boundAndCalled;refine AA (Ao f3 ?_);refine By (B8 F.attr_ValueError.ga.plain F.entry_bexc_ga ?_);have hk:builtinKind "BaseException.__getattribute__" = some .slot:=by decide +kernel
 have hsp:splitId "BaseException.__getattribute__" = some ("BaseException","__getattribute__"):=by decide +kernel
 have ha:=F.args_bexc_ga (.ref x) (.str "__class__" t);simp only [checkBuiltinCall,hk,hsp];refine AA (LI.at ?_);rw [AK (show ¬ ((!true)=true) by decide)]
 refine Ao (a:=()) ha ?_;show wpAny _ A.in1 (Builtin.«object.__getattribute__» ⟨[.ref x,.str "__class__" t],[]⟩) _ _ _;unfold Builtin.«object.__getattribute__»;refine AA (AB ?_);refine AA (AB ?_);refine AA (L0.at (AA (L3.at ?_)));show wpAny _ A.in1 (holding [Value.builtin "object.__class__"] (call (.builtin "getset_descriptor.__get__") [.builtin "object.__class__",.ref x,.ref D]) >>= ret) _ _ _;refine AA (An (By (W.class_get X I C.mo ?_)));exact AB (AB (AB h))
end
theorem qFq {K:W.Frag} {h:Heap} {C:Addr} {bmB:List Value} {newId:String} (X:K.In h) (q:W.excIn K C bmB newId=true) :
  ∃ bm N nm qn bs hd sn sb ab co dd k0 k1 k2 k3 k5 mN,h.get? C=some (excClassObj nm qn C N bs bm hd sn sb ab co dd k0 k1 k2 k3 k5 newId)∧h.Ns N mN∧mN "__init__" = none∧OwnTail h bmB bm:=by
 unfold W.excIn at q;split at q
 ·rename_i dd cd sl ho;split at q
  ·rename_i C' bm k0 k1 k2 k3 n k5 hm hs;simp only [AV,BF,Bool.not_eq_true'] at q;obtain ⟨⟨⟨⟨⟨e1,e2⟩,e3⟩,e4⟩,e5⟩,e6⟩:=q;subst e1;subst e2;cases cd with
   |mk nm bs mro ns qn hd sn sb ab co del =>
    have hm:mro=_:=hm;have e3:del=false:=e3;subst hm;subst e3;have hsl:sl = #[k0,k1,k2,k3,some (.builtin n),k5]:=by cases sl with |mk l=>rw [show l=_ from hs]
    subst hsl;exact ⟨bm,ns,nm,qn,bs,hd,sn,sb,ab,co,dd,k0,k1,k2,k3,k5,_,X _ _ ho,.of_isNs (W.isNs_of_in X e5),W.nsMap_none_of_in X e5 e6,W.tail_of_in X e4⟩
  ·cases q
 ·cases q
def Rz (X:Cx) (E:XK):Prop := ∀ (pins:List (Addr×Obj)) (σ:L2.St) (H:Hp) (s:Shared) (h':Heap) (e:Addr) (oe:Obj) (vs:Array Value),L2.Inv X pins σ H s->(∀ b o,s.heap.get? b=some o->h'.get? b=some o)->s.heap.get? e=none ->
 h'.get? e=some oe->oe.data = .fields vs->vs[1]? = some Value.none->vs[2]? = some Value.none->E oe.cls oe.dict H->X.xe (.ref e) { s with heap:=h' }
theorem qIl {P:Program} {w:World} {K:W.Frag} {mg:Str->Option Value} {base:Heap} {N:List Str} {qual:Str} {scope:Scope} {f:Addr} {cd:Value} {A:Around} {outer:List Env} {s₀:Shared} {H₀:Hp} {E:XK} :
  Rz (wS (CXF P w) P w K mg base N qual scope f cd A outer s₀ H₀ E) E:=fun _ _ _ _ _ _ _ _ I k hn g1 g2 g3 g4 q=>qB4 (H1:=H₀) (B0:=base) I k hn g1 g2 g3 g4 q
abbrev bmV:List Value:=[.type "ValueError",.type "Exception",.type "BaseException",.type "object"]
section
variable {X:Cx} {E:XK} {x:Str} {C:Addr} {e:Expr} {es:List Expr} {t:TA} {np cpos pos:Pos}
theorem qDm (hz:Rz X E) (hc:X.calm=true) (hg:Gl X x) (hm:X.mg x=some (.ref C)) (q:W.excIn X.K C bmV "ValueError.__new__" = true) (ha:PA X (e::es) t) (hdb:(x==("__debug__":Str))=false:=by decide)
  (he:starEach (e::es) X.env=(false,eval e X.env)::starEach es X.env:=by rfl) (hpl:(backTo cpos (starEach es X.env)).any (·.1)=false:=by rfl) :
  PS X (.Raise (some (.Call (.Name x np) (e::es) [] cpos)) none pos) (fun D σ H=>t σ H fun vs H1=>vs.length≤sizeLine∧E (.ref C) none H1):=by
 intro pins s σ H D I h;obtain ⟨bm,N,nm,qn,bs,hd,sn,sb,ab,co,dd,k0,k1,k2,k3,k5,mN,o1,o2,o3,o4⟩:=qFq I.ok.mod.kin q;refine wpAny_Raise_call_subU (C:=C) (nm:=nm) (q:=qn) (N:=N) (bs:=bs) (bm:=bm) (hdct:=hd) (sn:=sn) (sub:=sb) (ab:=ab) (col:=co) (dd:=dd) (k0:=k0) (k1:=k1) (k2:=k2) (k3:=k3) (k5:=k5) (mN:=mN)
  F.excBase_ValueError F.excBase_ValueError.hasB F.excBase_ValueError (o4.hasType F.excBase_ValueError.hasBase) (I.ok.hd hc) (by rw [he];show (false || (backTo cpos (starEach es X.env)).any (·.1))=false;rw [hpl];rfl) o3 (jX I hg hm ⟨rfl,?_⟩ hdb)
 have ha':=ha cpos pins s σ H _ I h;rw [he] at ha' ⊢;refine Calls.evalArgs_plain (thn ha' fun us s1 ⟨vs,H1,I1,r1,q1,q2⟩=>⟨rfl,by rw [← r1.length];exact q1,I1.bk _ _ o1,o2.keeps I1.bk,o4.keeps I1.bk,fun h' ea hx => ?_⟩)
 obtain ⟨tt,h1,_,_⟩:=hx.there;exact hz pins σ H1 s1 h' ea _ _ I1 hx.keeps hx.new h1 rfl rfl rfl q2
end
section
variable {M:Model} {A:Around} {E:Value->Shared->Prop} {K:W.Frag} {h:Heap} {g:Array GenState} {d:Drawn} {t:Nat} {os:OsState} {e Bx C:Addr} {oe:Obj} {dd:Option Addr} {cd:ClassData} {sl:Array (Option Value)} {Q:Bool->Shared->Prop}
theorem JR (X:K.In h) (o1:K.lookup Bx=some ⟨.type "type",dd,.cls cd,sl⟩) (m1:W.mroIn K Bx (.type "BaseException")=some true) (he:h.get? e=some oe) (hc:oe.cls = .ref C) (m2:W.mroIn K C (.ref Bx)=some true)
  (hq:Q true ⟨h,g,d,t,os⟩):wpAny M A (excMatches (.ref e) (.ref Bx)) Q E ⟨h,g,d,t,os⟩:=by
 have hB:=X _ _ o1;have L4:=W.looks_mroIn (M:=M) X m1;have L5:=W.looks_mroIn (M:=M) X m2;have f:=tc_notTuple;unfold excMatches;repeat (first |(with_reducible refine wpAny_loadPart_at he ?_;rw [hc]) |with_reducible refine wpAny_loadPart_at hB ?_ |with_reducible refine L4.at ?_ |with_reducible refine L5.at ?_ |wp_step)
 exact hq
end
def Jv (X:Cx) (pins:List (Addr×Obj)) (xe:Value->Shared->Prop):Cx:={ X with xe:=xe,pn:=X.pn++pins }
def suX (X:Cx) (ea:Addr):Cx:={ X with A:=X.A.mark (some (.ref ea)),calm:=false,xe:=fun _ _=>False }
abbrev qC7:HO := .ext fun _=>True
section
variable {X:Cx} {pins:List (Addr×Obj)} {σ:L2.St} {H:Hp} {s:Shared} {xe:Value->Shared->Prop}
theorem qFt (I:L2.Inv X pins σ H s):L2.Inv (Jv X pins xe) [] σ H s :=
 ⟨⟨I.ok.mod,I.ok.kind,I.ok.glob,I.ok.blt,I.ok.above,I.ok.inj,I.ok.has,I.ok.cab,I.ok.hd,I.ok.frames,I.ok.stk,I.ok.exf,I.ok.bs,I.ok.bsz,I.ok.noex,I.ok.exfs,I.ok.funs,I.ok.frf⟩,I.os,I.bare,I.base,I.loc,I.cell,I.free,I.freeC,
  fun p hp=>I.pin p (by simpa [Jv] using hp),I.hok,I.len,I.hnd⟩
theorem zD {pins':List (Addr×Obj)} (I:L2.Inv (Jv X pins xe) pins' σ H s):L2.Inv X pins σ H s :=
 ⟨⟨I.ok.mod,I.ok.kind,I.ok.glob,I.ok.blt,I.ok.above,I.ok.inj,I.ok.has,I.ok.cab,I.ok.hd,I.ok.frames,I.ok.stk,I.ok.exf,I.ok.bs,I.ok.bsz,I.ok.noex,I.ok.exfs,I.ok.funs,I.ok.frf⟩,I.os,I.bare,I.base,I.loc,I.cell,I.free,I.freeC,
  fun p hp=>I.pin p (B6 _ hp),I.hok,I.len,I.hnd⟩
theorem qCw {D:Ends} {f:Flow} (q:SP (Jv X pins xe) [] D f s):SP X pins D f s:=by
 cases f with
 |next=>obtain ⟨a,b,c,d⟩:=q;exact ⟨a,b,zD c,d⟩
 |brk=>obtain ⟨a,b,c,d⟩:=q;exact ⟨a,b,zD c,d⟩
 |cont=>obtain ⟨a,b,c,d⟩:=q;exact ⟨a,b,zD c,d⟩
 |ret u=>obtain ⟨v,a,b,c,d⟩:=q;exact ⟨v,a,b,zD c,d⟩
theorem qB5 (I:L2.Inv X pins σ H s) {ea:Addr} {oe:Obj} (hn:H ea=none) (ho:s.heap.get? ea=some oe) (h0:X.s₀.heap.get? ea=none) (hL:ea≠X.env.locals) (hC:∀ x c,X.env.cells.lookup x=some c->c≠ea) (hP:∀ p∈X.pn++pins,p.1≠ea) :
  L2.Inv X pins σ (upd H ea (.frz oe qC7)) s:=by
 have ne:∀ b u,H b=some u->b≠ea:=fun b u e z=>by rw [z,hn] at e;cases e
 have nb:∀ b o,X.s₀.heap.get? b=some o->b≠ea:=fun b o e z=>by rw [z,h0] at e;cases e
 refine ⟨I.ok,I.os,I.bare,⟨I.base.keep,I.base.slot,fun b o e n hx => ?_,I.base.there,fun b xs e => ?_,fun b o u e => ?_,fun b ps e => ?_⟩,I.loc,I.cell,?_,fun x c e => ?_,fun p hp => ?_,fun b u e => ?_,I.len,fun v hv => ?_⟩
 ·rw [qW (nb b o e)];exact I.base.free b o e n hx
 ·have:=I.base.tups b xs e;rw [qW (ne b _ this)];exact this
 ·have:=I.base.frzs b o u e;rw [qW (ne b _ this)];exact this
 ·obtain ⟨m,this⟩:=I.base.tbls b ps e;exact ⟨m,by rw [qW (ne b _ this)];exact this⟩
 ·rw [qW (Ne.symm hL)];exact I.free
 ·rw [qW (hC x c e)];exact I.freeC x c e
 ·obtain ⟨a,b,c,d⟩:=I.pin p hp;exact ⟨a,by rw [qW (hP p hp)];exact b,c,d⟩
 ·by_cases hb:b=ea
  ·subst hb;rw [Qj] at e;cases e;exact ⟨ho,trivial,⟨oe,ho⟩,fun _ _ z _=>z⟩
  ·rw [qW hb] at e;exact (I.hok b u e).stay (fun _ _ _ z=>z) (fun c z=>by rw [qW (ne c _ z)];exact z) fun c xs z=>by rw [qW (ne c _ z)];exact z
 ·obtain ⟨a,o,u,vs,e1,e2,e3⟩:=I.hnd v hv;exact ⟨a,o,u,vs,e1,by rw [qW (ne a _ e2)];exact e2,e3⟩
theorem qCj (I:L2.Inv X pins σ H s) {ea:Addr} {oe:Obj} {u:HO} {vs:Array Value} (h1:H ea=some (.frz oe u)) (h2:oe.data = .fields vs) (h3:vs[2]? = some Value.none):L2.Inv (suX X ea) pins σ H s :=
 ⟨⟨I.ok.mod,I.ok.kind,I.ok.glob,I.ok.blt,I.ok.above,I.ok.inj,I.ok.has,I.ok.cab,(fun z=>absurd (show false=true from z) BW),I.ok.frames,I.ok.stk,I.ok.exf,I.ok.bs,I.ok.bsz,I.ok.noex,I.ok.exfs,I.ok.funs,I.ok.frf⟩,I.os,I.bare,I.base,I.loc,I.cell,I.free,I.freeC,
  I.pin,I.hok,I.len,fun v hv=>by
   have hv:some (Value.ref ea)=some v:=hv;cases hv;exact ⟨ea,oe,u,vs,rfl,h1,h2,h3⟩⟩
theorem JV {ea:Addr} (ok:X.Ok) (hc:X.calm=true) (I:L2.Inv (suX X ea) pins σ H s):L2.Inv X pins σ H s :=
 ⟨ok,I.os,I.bare,I.base,I.loc,I.cell,I.free,I.freeC,I.pin,I.hok,I.len,HndH.none (ok.hd hc)⟩
theorem qDf (I:L2.Inv X pins σ H s) (hN:X.N.Nodup) {i:Nat} {n:Str} (hi:X.N[i]? = some n) {m:Str->Option Value} {v:Option Value} {h':Heap} {tk:Nat} (hm:∀ (j:Nat) (x:Str) (w:V),X.N[j]? = some x->σ[j]? = some (some w)->Vis X.env.scope x -> ∃ u,RelV w u∧qI7 X.env s.heap m x u)
  (hn:h'.Ns X.env.locals (fun x=>if x=n then v else m x)) (hs:Heap.SameBut X.env.locals s.heap h'):L2.Inv X pins (σ.set i none) H { s with heap:=h',toks:=tk }:=by
 have cne:=I.cne;refine ⟨I.ok,I.os,I.bare,⟨fun b o e n hb hx => ?_,fun b o e n hb hx => ?_,I.base.free,fun b o e hx => ?_,I.base.tups,I.base.frzs,I.base.tbls⟩,⟨_,hn,fun j y w e1 e2 e3 => ?_⟩,fun y c e => ?_,I.free,I.freeC,fun p hp => ?_,fun b ob e => ?_,by simpa using I.len,I.hnd⟩
 ·exact (hs.2 b (Ac (Al (AT e) I.ok.above))).trans (I.base.keep b o e n hb hx)
 ·obtain ⟨sl,e1⟩:=I.base.slot b o e n hb hx;exact ⟨sl,(hs.2 b (Ac (Al (AT e) I.ok.above))).trans e1⟩
 ·obtain ⟨o',e1⟩:=I.base.there b o e hx;exact ⟨o',(hs.2 b (Ac (Al (AT e) I.ok.above))).trans e1⟩
 ·have hj:j≠i:=fun z=>by
   subst z;by_cases hl:j < σ.length
   ·rw [A7 hl] at e2;cases e2
   ·rw [BX (by simpa using hl)] at e2;cases e2
  rw [BD (Ne.symm hj)] at e2;obtain ⟨u,r,l⟩:=hm j y w e1 e2 e3;refine ⟨u,r,?_⟩;rcases l with ⟨k,l⟩ |⟨k,c,e,z⟩
  ·refine .inl ⟨k,?_⟩
   have:y≠n:=fun e=>hj (yq hN e1 (e ▸ hi))
   simp [this,l]
  ·exact .inr ⟨k,c,e,z.sameBut hs (cne y c e)⟩
 ·obtain ⟨w',z⟩:=I.cell y c e;exact ⟨w',z.sameBut hs (cne y c e)⟩
 ·obtain ⟨e,n,ne,nf,d⟩:=I.pin p hp;exact ⟨(hs.2 p.1 ne).trans e,n,ne,nf,d⟩
 ·refine (I.hok b ob e).stay (fun c w' hc q=>(hs.2 c ?_).trans q) (fun _ q=>q) fun _ _ q=>q
  rintro rfl
  rcases hc with rfl |hc
  ·rw [I.free] at e;cases e
  ·rw [I.free] at hc;cases hc
def qKD (i k:Nat) (ok:Value->Prop) (tb:XK->TS) (th:TS):TS:=fun D σ H=>tb (fun cls dd H1=>ok cls ∧ ∀ (σ':L2.St) (ea:Addr) (oe:Obj),σ'.length=k->H1 ea=none->oe.cls=cls->oe.dict=dd->(∃ vs,oe.data = .fields vs) ->
 th { nx:=fun σ2 H2=>D.nx (σ2.set i none) H2,rt:=D.rt,bk:=fun σ2 H2=>D.bk (σ2.set i none) H2,ct:=fun σ2 H2=>D.ct (σ2.set i none) H2 } (σ'.set i (some (.ref ea))) (upd H1 ea (.frz oe qC7))) D σ H
structure FrameX (X:Cx):Prop where
 stk:X.stack=X.env::X.outer
 fr:X.env.frame=some X.env.locals
 ex:X.ex=[]
theorem got {P:Program} {w:World} {H:Hp} {h:Heap} {a:Addr} {o:HO} (x:ObjOk P w H h a o):∃ u,h.get? a=some u:=by
 cases o with
 |lst xs=>obtain ⟨_,_,_,_,e⟩:=x;exact ⟨_,e⟩
 |tup xs=>obtain ⟨_,_,_,o,e,_⟩:=x;exact ⟨_,e⟩
 |dK kvs=>obtain ⟨_,_,_,_,o,_,_,e,_⟩:=x;exact ⟨_,e⟩
 |dT kvs=>obtain ⟨_,_,_,_,o,_,_,e,_⟩:=x;exact ⟨_,e⟩
 |set S n=>obtain ⟨o,_,_,_,e,_⟩:=x;exact ⟨_,e⟩
 |ins C dx fs=>obtain ⟨_,_,_,e,_⟩:=x;exact ⟨_,e⟩
 |own y=>exact x
 |xd fs=>obtain ⟨_,⟨_,_,_,e,_⟩,_⟩:=x;exact ⟨_,e⟩
 |rng lo hi=>obtain ⟨_,_,_,e⟩:=x;exact ⟨_,e⟩
 |frz ob u=>obtain ⟨e,_⟩:=x;exact ⟨_,e⟩
 |tbl ps=>exact ⟨_,x⟩
 |met f y=>exact ⟨_,x⟩
 |ext φ=>obtain ⟨_,e,_⟩:=x;exact e
theorem qG1 {X:Cx} {x n:Str} {i:Nat} {Bx:Addr} {dd:Option Addr} {cd:ClassData} {sl:Array (Option Value)} {body:List Stmt} {b0:Stmt} {suite:List Stmt} {np hpos pos:Pos} {ok:Value->Prop} {tb:XK->TS} {th:TS} (FX:FrameX X) (hc:X.calm=true) (hN:X.N.Nodup) (hi:X.N[i]? = some n) (hl:X.env.scope.names.lookup n=some .local)
  (hg:Gl X x) (hm:X.mg x=some (.ref Bx)) (o1:X.K.lookup Bx=some ⟨.type "type",dd,.cls cd,sl⟩) (m1:W.mroIn X.K Bx (.type "BaseException")=some true) (hok:∀ v,ok v -> ∃ C,v = .ref C∧W.mroIn X.K C (.ref Bx)=some true)
  (hb:∀ (pins:List (Addr×Obj)) (xe:Value->Shared->Prop) (E':XK),zp (CXF X.prog X.w) (Jv X pins xe) E'->PSs (Jv X pins xe) body (tb E')) (hh:∀ ea,PSs (suX X ea) (b0::suite) th) (hdb:(x==("__debug__":Str))=false:=by decide) :
  PS X (.Try body [.ExceptHandler (some (.Name x np)) (some n) (b0::suite) hpos] [] [] pos) (qKD i X.N.length ok tb th):=by
 intro pins s σ H D I h;refine wpAny_Try_except ?_;generalize hE:(fun (cls:Value) (dd:Option Addr) (H1:Hp)=>ok cls ∧ ∀ (σ':L2.St) (ea:Addr) (oe:Obj),σ'.length=X.N.length->H1 ea=none->oe.cls=cls->oe.dict=dd->(∃ vs,oe.data = .fields vs) ->
  th { nx:=fun σ2 H2=>D.nx (σ2.set i none) H2,rt:=D.rt,bk:=fun σ2 H2=>D.bk (σ2.set i none) H2,ct:=fun σ2 H2=>D.ct (σ2.set i none) H2 } (σ'.set i (some (.ref ea))) (upd H1 ea (.frz oe qC7)))=E'
 have h:tb E' D σ H:=by rw [← hE];exact h
 refine BZ (hb pins _ E' ?_ [] s σ H D (qFt I) h) (fun f s1 q => ?_) fun e s1 q=>q
 rotate_left
 ·have q:=qCw q;cases f with
  |next=>exact CM q
  |brk=>exact q
  |cont=>exact q
  |ret u=>exact q
 ·intro pins' σ' H' s1 e s2 J c;obtain ⟨ea,cls,d2,B,H1,rfl,fl,hok1,os,bare,un,sl1,qE⟩:=c;have J':=zD J;rw [← hE] at qE;obtain ⟨q1,q2⟩:=qE;obtain ⟨C,rfl,m2⟩:=hok cls q1;have fr':X.A.frames=some (X.env::X.outer):=by rw [← FX.stk];exact I.ok.frames
  have fl':Fly B (X.env::X.outer) ea (.ref C) d2 .none s2.heap:=by rw [← FX.stk];exact fl
  have un:UnB (frs X.stack) H' H1 s1.heap B:=un;have sl1:∀ b∈frs X.stack,∀ o,s1.heap.get? b=some o -> ∃ sl,s2.heap.get? b=some { o with slots:=sl }:=sl1;have stk1:s1.heap.FunFrames X.base X.stack:=J'.stack;have baseB:∀ b o,X.base.get? b=some o->B.get? b=some o:=fun b o z=>un.keep b o (J'.bs b o z).1 (J'.bs b o z).2 fun hm=>by rw [(stk1.mem hm).1] at z;cases z
  refine jA (A:=X.A) fr' FX.fr fl' fun h4 x4 u4=>qBU x4 fun h5 x5 u5 => ?_;have ns5:h5.Ns X.env.globals X.mg:=by rw [I.ok.glob];exact I.mod.glob.keeps fun b o z=>x5.1 b o (baseB b o z)
  have k5:X.K.In h5:=I.ok.mod.kin.keeps fun b o z=>x5.1 b o (baseB b o z);obtain ⟨_,_,_,oe5,_,_,_,_,he5,hc5,_⟩:=id x5;refine wpAny_handleBy_cons (codeAny_handlers_test (Calls.Name_function_global I.ok.kind hg (Calls.loadGlobal_global ns5 hm ?_) hdb)) (by intro q;cases q)
  refine JR k5 o1 m1 he5 hc5 m2 (codeAny_handlers_suite_as (qBU x5 fun h6 x6 u6 => ?_));have u26:s2.heap.UpToSlots h6:=(u4.trans u5).trans u6;obtain ⟨k1,k2,k3,oe,vs,T,oT,ts,g1,g2,g3,g4,g5,g6,g7⟩:=x6;have nf:∀ b∈frs X.stack,∀ o,s1.heap.get? b=some o -> ∀ vs,o.data ≠ .fields vs:=fun b hb o z=>by obtain ⟨_,o2,ho2,nf⟩:=stk1.mem hb;rw [z] at ho2;cases ho2;exact nf
  have slN:∀ b∈frs X.stack,∀ o,s1.heap.get? b=some o -> ∃ sl,h6.get? b=some { o with slots:=sl }:=fun b hb o z=>by obtain ⟨sl2,z2⟩:=sl1 b hb o z;obtain ⟨sl3,z3⟩:=u26 b _ z2 (nf b hb o z);exact ⟨sl3,z3⟩
  have I6:L2.Inv X pins σ' H1 { s2 with heap:=h6 }:=J'.call' (s':={ s2 with heap:=h6 }) (ch:=[]) os (CXF.un (P:=X.prog) (w:=X.w) (s:=s1) (s':={ s2 with heap:=h6 }) k1 un slN) (hok1.kept k1) bare fun b z=>by cases z
  have neW:∀ b o,s1.heap.get? b=some o->b≠ea:=fun b o z hz=>by
   subst hz;by_cases hb:b∈frs X.stack
   ·obtain ⟨sl2,z2⟩:=slN b hb o z;rw [g1] at z2;cases z2;exact nf b hb o z vs g4
   ·obtain ⟨o',z'⟩:=un.there b o z hb;rw [k2] at z';cases z'
  have hn1:H1 ea=none:=by
   cases z:H1 ea with
   |none=>rfl
   |some u=>obtain ⟨o',z'⟩:=got (hok1 ea u z);rw [k2] at z';cases z'
  have I7:L2.Inv X pins σ' (upd H1 ea (.frz oe qC7)) { s2 with heap:=h6 }:=by
   refine qB5 I6 hn1 g1 ?_ ?_ (fun x c z => ?_) fun p hp => ?_
   ·cases z:X.s₀.heap.get? ea with
    |none=>rfl
    |some o=>obtain ⟨o',z'⟩:=J'.base.there ea o z (by rw [FX.ex];simp);exact (neW ea o' z' rfl).elim
   ·obtain ⟨m,⟨o,_,_,z,_⟩,_⟩:=J'.loc;exact Ne.symm (neW _ o z)
   ·obtain ⟨v,o,z',_⟩:=J'.cell x c z;exact neW c o z'
   ·exact neW p.1 p.2 (J'.pin p hp).1
  have I8:=qCj I7 Qj g4 g6;refine zh (X:=suX X ea) (v := .ref ea) I8 hN hi (.inl hl) (show RelV (.ref ea) (.ref ea) from rfl) (fun s7 I9 => ?_) (.inr hl);have hlen:σ'.length=X.N.length:=J'.len;refine wpAny_noRaise (thn (hh ea pins s7 _ _ _ I9 (q2 σ' ea oe hlen hn1 g2 g3 ⟨vs,g4⟩)) fun f s8 q => ?_);have hp:(X.env.scope.kind == .class || (X.env.scope.kind == .module&&X.env.locals != X.env.globals))=false:=by rw [I.ok.kind];rfl
  have goes:∀ {σ8:L2.St} {H8:Hp} {Q:Shared->Prop},L2.Inv (suX X ea) pins σ8 H8 s8->(∀ s9,L2.Inv X pins (σ8.set i none) H8 s9->Q s9)->wpAny (model X.prog X.w) X.A (do bindName X.env n .none;unbindBehindTheSuite X.env n hpos) (fun _ s9=>Q s9) X.xe s8:=fun {σ8 H8 Q} I8 hQ=>by have I9:=JV I.ok hc I8;obtain ⟨m,hn,hl'⟩:=id I9.loc;exact wpAny_nameGoes_keeps hl hn hp fun h9 v hn9 hs9=>hQ _ (qDf I9 hN hi hl' hn9 hs9)
  cases f with
  |next=>obtain ⟨σ8,H8,I8,q8⟩:=q;exact goes I8 fun s9 I9=>⟨_,H8,I9,q8⟩
  |brk=>obtain ⟨σ8,H8,I8,q8⟩:=q;exact goes I8 fun s9 I9=>⟨_,H8,I9,q8⟩
  |cont=>obtain ⟨σ8,H8,I8,q8⟩:=q;exact goes I8 fun s9 I9=>⟨_,H8,I9,q8⟩
  |ret u=>obtain ⟨v,σ8,H8,I8,r8,q8⟩:=q;exact goes I8 fun s9 I9=>⟨v,_,H8,I9,r8,q8⟩
end
def yt (A:Around):List Addr:=match A.handled with
 |some (.ref ea)=>[ea]
 |_=>[]
theorem Hnd.frame {A:Around} {h h':Heap} (x:Hnd A h) (k:∀ b∈yt A,∀ o,h.get? b=some o->h'.get? b=some o):Hnd A h':=fun v hv=>by obtain ⟨ea,oe,vs,e1,e2,e3⟩:=x v hv;subst e1;exact ⟨ea,oe,vs,rfl,k ea (by unfold yt;rw [hv];simp) oe e2,e3⟩
theorem qIv {A:Around} {I:Addr} (hI:∀ ea∈yt A,ea≠I):∀ v,A.handled=some v->v ≠ .ref I:=fun v hv z=>by subst z;exact hI I (by unfold yt;rw [hv];simp) rfl
theorem qAc {prog:Program} {w:World} {A:Around} (I ax:Addr) (hne:ax≠I) (items:Array Value) (hI:∀ ea∈yt A,ea≠I) :
  Walks prog w A I (I::ax::yt A) [I] items.size (fun i v=>items[i]? = some v) (fun i h=>(h.IsListIter I ax i∧h.IsList ax items)∧Hnd A h) where
 sub:=fun b hb=>by simp at hb;simp [hb]
 frame:=fun _ _ _ st hk=>⟨⟨st.1.1.at fun o e=>hk I (by simp) o e,st.1.2.at fun o e=>hk ax (by simp) o e⟩,st.2.frame fun b hb o e=>hk b (by simp [hb]) o e⟩
 item:=fun i s Q E hi st hQ=>wpAny_pyNext_list_item st.1.1 st.1.2 (x:=items[i]) (by simp [hi]) fun h' z1 z2 =>
  hQ _ h' s.toks (by simp [hi]) ⟨⟨z1,st.1.2.extBut z2.extBut hne⟩,st.2.frame fun b hb o e=>(z2.2 b (hI b hb)).trans e⟩ fun b o hb e=>z2.extBut b o (fun h=>hb (by simp [h])) e
 done:=fun s Q E st hQ=>list_end st.2 st.1.1 st.1.2 (by simp) (qIv hI) fun h' z=>hQ h' s.toks fun b o hb e=>z b o (fun h=>hb (by simp [h])) e
 self:=fun _ _ _ _ st hQ=>wpAny_pyIter_listiter st.1.1 hQ
section
variable {X:Cx} {pins:List (Addr×Obj)} {σ:L2.St} {H:Hp} {s:Shared}
theorem qIz (I:L2.Inv X pins σ H s):∀ ea∈yt X.A,ea≠s.heap.objs.size:=fun ea hea=>by
 have hd:X.A.handled=some (.ref ea):=by
  unfold yt at hea;split at hea
  ·rename_i a ha;rw [Ai.mp hea];exact ha
  ·cases hea
 obtain ⟨a,oe,vs,e1,e2,_⟩:=I.hndH _ hd;cases e1;exact Ac (AT e2)
theorem yE (I:L2.Inv X pins σ H s) {p:Addr} {its:List Value} (pl:PlainL s.heap p its.toArray) {E:Value->Shared->Prop} {Q:Value->Shared->Prop}
  (h:Walks X.prog X.w X.A.in1 s.heap.objs.size (s.heap.objs.size::p::yt X.A) [s.heap.objs.size] its.toArray.size (fun i v=>its.toArray[i]? = some v) (fun i h=>(h.IsListIter s.heap.objs.size p i∧h.IsList p its.toArray)∧Hnd X.A.in1 h) ->
   ((s.heap.push { cls := .type "list_iterator",data := .fields #[.ref p,.int 0 0] }).IsListIter s.heap.objs.size p 0∧(s.heap.push { cls := .type "list_iterator",data := .fields #[.ref p,.int 0 0] }).IsList p its.toArray)∧Hnd X.A.in1 (s.heap.push { cls := .type "list_iterator",data := .fields #[.ref p,.int 0 0] }) ->
   (∀ b∈s.heap.objs.size::p::yt X.A,b < (s.heap.push { cls := .type "list_iterator",data := .fields #[.ref p,.int 0 0] }).objs.size) ->
   (∀ h':Heap,(∀ b o,b ∉ [s.heap.objs.size]->(s.heap.push { cls := .type "list_iterator",data := .fields #[.ref p,.int 0 0] }).get? b=some o->h'.get? b=some o) -> ∀ b o,s.heap.get? b=some o->h'.get? b=some o) ->
   Q (.ref s.heap.objs.size) { s with heap:=s.heap.push { cls := .type "list_iterator",data := .fields #[.ref p,.int 0 0] } }) :
  wpAny (model X.prog X.w) X.A.in1 (pyIter (.ref p)) Q E s:=by
 obtain ⟨ob,po,_⟩:=id pl.isList;have hlt:p < s.heap.objs.size:=AT po;refine wpAny_pyIter_list pl.isList (h (qAc _ p (Ac hlt) _ (qIz I)) ⟨⟨⟨_,AY _ rfl,rfl,rfl⟩,pl.isList.at fun o e=>AD _ e⟩,?_⟩ (fun b hb => ?_) fun h' k b o e => ?_)
 ·exact Hnd.frame (show Hnd X.A.in1 s.heap from I.hndH) fun b _ o e=>AD _ e
 ·rw [B5];rcases AJ.mp hb with rfl |hb
  ·exact Nat.lt_succ_self _
  ·rcases AJ.mp hb with rfl |hb
   ·exact BJ hlt
   ·have hd:X.A.handled=some (.ref b):=by
     unfold yt at hb;split at hb
     ·rename_i a ha;rw [Ai.mp hb];exact ha
     ·cases hb
    obtain ⟨a,oe,vs,e1,e2,_⟩:=I.hndH _ hd;cases e1;exact BJ (AT e2)
 ·exact k b o (by simp;exact Ac (AT e)) (AD _ e)
theorem qBi:∀ {bs:List Bool} {us:List Value},Vals (bs.map V.bl) us->us=bs.map Value.bool
 |[],_,.nil=>rfl
 |b::bs,_,.cons r t=>by rw [show _=Value.bool b from r,qBi t];rfl
theorem yz:∀ {ns:List Int} {us:List Value} {i:Nat} {v:Value},Vals (ns.map V.int) us->us[i]? = some v -> ∃ t,v=Value.int (ns.getD i 0) t
 |[],_,_,_,.nil,e=>by simp at e
 |n::ns,_,0,_,.cons r t,e=>by simp at e;subst e;exact r
 |n::ns,_,i + 1,v,.cons r t,e=>by simpa using yz (i:=i) t (by simpa using e)
theorem qCz {prog:Program} {w:World} {A:Around} {bs:List Bool}:TruthOf prog w A (fun i v=>(bs.map Value.bool).toArray[i]? = some v) (fun i=>bs.getD i false):=fun i v s Q E hP hQ=>by
 have hP:(bs.map Value.bool).toArray[i]? = some v:=hP;rw [List.getElem?_toArray,Au] at hP;cases e:bs[i]? with
 |none=>rw [e] at hP;cases hP
 |some b =>rw [e] at hP;cases hP;have hQ:Q (bs.getD i false) s:=hQ;rw [Ab,e] at hQ;exact AB hQ
theorem qCP (bs:List Bool):(List.range bs.length).all (fun i=>bs.getD i false)=bs.all id:=by
 induction bs with
 |nil=>rfl
 |cons b bs ih =>
  rw [AH,B2,Bc,List.all_map,Bc]
  have:(((fun i=>(b::bs).getD i false) ∘ Nat.succ))=fun i=>bs.getD i false:=by funext i;simp
  rw [this,ih];simp
theorem qCd:Wo X (.builtin "all") (fun xs H Q => ∃ (p:Addr) (bs:List Bool),xs=[.ref p]∧SqL X.K H p (bs.map V.bl)∧Q (.bl (bs.all id)) H):=by
 intro pins s σ H xs us Q I r h;obtain ⟨p,bs,rfl,hq,q⟩:=h;obtain ⟨u,rfl,rx⟩:=YE r;cases rx;obtain ⟨its,r',pl,hz⟩:=I.list hq;have e:=qBi r';subst e;refine call_all_walk (yE I pl fun W st fp k=>⟨_,_,_,_,_,_,_,rfl,W,st,qCz,fun h' tk hk => ?_⟩);rw [show (bs.map Value.bool).toArray.size=bs.length by simp,qCP]
 exact ⟨.bl _,H,I.kept (k h' hk),rfl,q⟩
end
theorem qEW {K:W.Frag} {x D:Addr} (C:ExcK K D):W.KitX K (.ref x) (.ref D) (fun h => ∃ ox od,W.InstAt h x ox D od):=by
 obtain ⟨cd,hcd,_⟩:=Option.bind_eq_some_iff.mp (C.fo none);unfold W.clsIn at hcd;split at hcd
 ·rename_i c' d' cd' sl' ho;refine ⟨fun _ _ _ ⟨ox,od,I⟩=>I.type,fun M h X p => ?_,fun h tp dd its n sl X htp => ?_,fun {prog w A E Q s} X ⟨ox,od,I⟩ k=>qB7 C X I k⟩
  ·intro A' Q' E' s' k q;unfold isType loadHead;exact AA (wpAny_loadPart (k _ _ (X _ _ ho)) (AB q))
  ·refine Bool.eq_false_iff.mpr fun q => ?_;have e:D=tp:=Value.ref.inj (BF.mp q);subst e;have z:=(X _ _ ho).symm.trans htp;cases z
 ·cases hcd
end EX
end
section
namespace EV
open PySem PySem.Spec PyProof.Rows L2
inductive PV where
 |non |bl (b:Bool) |int (i:Int) |str (x:Str) |tup (l:List PV) |lst (l:List PV) |ref (i:Nat) |dct |ty (n:String) |fn (a:Addr) |exc (c:Addr) (fs:List (Str×Int))
inductive SO where
 |l (xs:List PV)
 |d (kvs:List (List L2.Key×PV))
 |z (kvs:List (List L2.Key×PV))
abbrev qD:=List SO
structure Exc where
 cls:Addr
 fs:List (Str×Int)
inductive Rs (α:Type) where
 |ok (a:α) (st:qD) |ex (x:Exc) (st:qD) |no
def Rs.bind {α β:Type} (r:Rs α) (k:α->qD->Rs β):Rs β:=match r with
 | .ok a st=>k a st
 | .ex x st => .ex x st
 | .no => .no
abbrev qv:=List (Option PV)
abbrev FE:=qv->qD->Rs PV
abbrev FA:=qv->qD->Rs (List PV)
abbrev FT:=qv->qD->Rs Bool
inductive RS where
 |nx (e:qv) (st:qD) |rt (v:PV) (st:qD) |bk (e:qv) (st:qD) |ct (e:qv) (st:qD) |ex (x:Exc) (st:qD) |no
abbrev FS:=qv->qD->RS
structure Bz where
 b:List Addr
 z:List Addr
def Bz.out (b:Bz) (a:Addr):Prop:=a ∉ b.b∧a ∉ b.z
def KL (K:W.Frag) (a:Addr) (xs:List V):Prop :=
 ∃ (o:Obj) (its:Array Value) (n:Nat),K.lookup a=some o∧o.cls = .type "list" ∧ o.dict=none∧o.data = .seq its n∧its.size≤sizeLine∧Vals xs its.toList
def KT (K:W.Frag) (a:Addr) (xs:List V):Prop :=
 ∃ (o:Obj) (its:Array Value) (n:Nat),K.lookup a=some o∧o.cls = .type "tuple" ∧ o.data = .seq its n∧its.size≤sizeLine∧Vals xs its.toList
def LA (K:W.Frag) (H:Hp) (b:Bz) (a:Addr) (xs:List V):Prop:=(Rd H a (.lst xs)∧b.out a)∨KL K a xs
def TA' (K:W.Frag) (H:Hp) (b:Bz) (a:Addr) (xs:List V):Prop:=(H a=some (.tup xs)∧b.out a)∨KT K a xs
mutual
def RV (K:W.Frag) (H:Hp) (b:Bz):PV->V->Prop
 | .non,v=>v = .non
 | .bl x,v=>v = .bl x
 | .int i,v=>v = .int i
 | .str x,v=>v = .str x
 | .tup l,v => ∃ a xs,v = .ref a∧TA' K H b a xs∧RVs K H b l xs
 | .lst l,v => ∃ a xs,v = .ref a∧LA K H b a xs∧RVs K H b l xs
 | .ref i,v => ∃ a,v = .ref a∧b.b[i]? = some a
 | .dct,v => ∃ a,v = .ref a∧H a=some (.dK [])∧b.out a
 | .ty n,v=>v = .ty n
 | .fn a,v=>v = .ref a
 | .exc c fs,v => ∃ a o u,v = .ref a∧H a=some (.frz o u)∧b.out a∧o.cls = .ref c∧(∃ vs,o.data = .fields vs)∧((fs=[]∧o.dict=none) ∨ ∃ d,o.dict=some d∧H d=some (.xd (fs.map fun p=>(p.1,V.int p.2)))∧b.out d)
def RVs (K:W.Frag) (H:Hp) (b:Bz):List PV->List V->Prop
 |[],xs=>xs=[]
 |p::ps,xs => ∃ x r,xs=x::r∧RV K H b p x∧RVs K H b ps r
end
def SOk (K:W.Frag) (H:Hp) (b:Bz):SO->HO->Prop
 | .l xs,o => ∃ vs,o = .lst vs∧RVs K H b xs vs
 | .d kvs,o => ∃ vs,o = .dT vs∧kvs.map (·.1)=vs.map (·.1)∧RVs K H b (kvs.map (·.2)) (vs.map (·.2))
 | .z kvs,o => ∃ od vs,o = .frz od (.dT vs)∧kvs.map (·.1)=vs.map (·.1)∧RVs K H b (kvs.map (·.2)) (vs.map (·.2))
structure SR (K:W.Frag) (H:Hp) (b:Bz) (st:qD):Prop where
 len:b.b.length=st.length
 nd:b.b.Nodup
 at_:∀ (i:Nat) (x:SO),st[i]? = some x -> ∃ a o,b.b[i]? = some a∧H a=some o∧SOk K H b x o
 zo:∀ a∈b.z,∃ xs,H a=some (.lst xs)
 zb:∀ a∈b.z,a ∉ b.b
structure WE (H:Hp) (b:Bz) (H':Hp) (b':Bz):Prop where
 more:∃ n,b'.b=b.b++n ∧ ∀ a∈n,H a=none
 zm:∃ y,b'.z=y++b.z ∧ ∀ a∈y,H a=none
 keep:∀ a o,H a=some o->b.out a->H' a=some o
 dom:∀ a o,H a=some o -> ∃ o',H' a=some o'
theorem WE.refl (H:Hp) (b:Bz):WE H b H b:=⟨⟨[],by simp,by simp⟩,⟨[],rfl,by simp⟩,fun _ _ h _=>h,fun _ o h=>⟨o,h⟩⟩
theorem WE.none_of {H H':Hp} {b b':Bz} (e:WE H b H' b') {a:Addr} (h:H' a=none):H a=none:=by
 cases q:H a with
 |none=>rfl
 |some o=>obtain ⟨o',e'⟩:=e.dom a o q;rw [h] at e';cases e'
theorem WE.not_in {H H':Hp} {b b':Bz} (e:WE H b H' b') {a:Addr} {o:HO} (h:H a=some o) (hn:b.out a):b'.out a:=by
 obtain ⟨n,hb,hh⟩:=e.more;obtain ⟨y,hz,hy⟩:=e.zm;refine ⟨fun hm => ?_,fun hm => ?_⟩
 ·rw [hb] at hm;rcases Am.mp hm with hm |hm
  ·exact hn.1 hm
  ·rw [hh a hm] at h;cases h
 ·rw [hz] at hm;rcases Am.mp hm with hm |hm
  ·rw [hy a hm] at h;cases h
  ·exact hn.2 hm
theorem WE.trans {H H1 H2:Hp} {b b1 b2:Bz} (e:WE H b H1 b1) (f:WE H1 b1 H2 b2):WE H b H2 b2:=by
 obtain ⟨n,hn,hh⟩:=e.more;obtain ⟨m,hm,hk⟩:=f.more;obtain ⟨y,hz,hy⟩:=e.zm;obtain ⟨x,hx,hw⟩:=f.zm;refine ⟨⟨n++m,by rw [hm,hn,A2],fun a ha => ?_⟩,⟨x++y,by rw [hx,hz,A2],fun a ha => ?_⟩,fun a o h hb=>f.keep a o (e.keep a o h hb) (e.not_in h hb),fun a o h => ?_⟩
 ·rcases Am.mp ha with ha |ha
  ·exact hh a ha
  ·exact e.none_of (hk a ha)
 ·rcases Am.mp ha with ha |ha
  ·exact e.none_of (hw a ha)
  ·exact hy a ha
 ·obtain ⟨o',h'⟩:=e.dom a o h;exact f.dom a o' h'
theorem WE.ix {H H':Hp} {b b':Bz} (e:WE H b H' b') {i:Nat} {a:Addr} (h:b.b[i]? = some a):b'.b[i]? = some a:=by obtain ⟨n,hb,_⟩:=e.more;have hi:i < b.b.length:=(AS.mp h).1;rw [hb,Af hi];exact h
theorem WE.new {H:Hp} {b:Bz} {p:Addr} {o:HO} (h:H p=none):WE H b (upd H p o) b :=
 ⟨⟨[],by simp,by simp⟩,⟨[],rfl,by simp⟩,fun a u e _=>by rw [qW (qV e h)];exact e,fun a u e=>⟨u,by rw [qW (qV e h)];exact e⟩⟩
theorem WE.hide {H:Hp} {b:Bz} {p:Addr} {o:HO} (h:H p=none):WE H b (upd H p o) ⟨b.b,p::b.z⟩ :=
 ⟨⟨[],by simp,by simp⟩,⟨[p],rfl,fun a ha=>by rw [Ai.mp ha];exact h⟩,fun a u e _=>by rw [qW (qV e h)];exact e,fun a u e=>⟨u,by rw [qW (qV e h)];exact e⟩⟩
theorem WE.wr {H:Hp} {b:Bz} {p:Addr} {o:HO} (h:p∈b.b∨p∈b.z):WE H b (upd H p o) b :=
 ⟨⟨[],by simp,by simp⟩,⟨[],rfl,by simp⟩,fun a u e hb=>by rw [qW (fun z=>h.elim (fun q=>hb.1 (by rw [z];exact q)) fun q=>hb.2 (by rw [z];exact q))];exact e,fun a u e=>by
  by_cases hz:a=p
  ·exact ⟨o,by rw [hz];exact Qj⟩
  ·exact ⟨u,by rw [qW hz];exact e⟩⟩
theorem Rd.some_of {H:Hp} {a:Addr} {u:HO} (h:Rd H a u):∃ o,H a=some o:=h.elim (fun h=>⟨_,h⟩) fun ⟨_,h⟩=>⟨_,h⟩
theorem Rd.wext {H H':Hp} {b b':Bz} {a:Addr} {u:HO} (e:WE H b H' b') (h:Rd H a u∧b.out a):Rd H' a u∧b'.out a:=by
 obtain ⟨o,ho⟩:=Rd.some_of h.1;refine ⟨?_,e.not_in ho h.2⟩;rcases h.1 with q |⟨o',q⟩
 ·exact .inl (e.keep _ _ q h.2)
 ·exact .inr ⟨o',e.keep _ _ q h.2⟩
theorem LA.wext {K:W.Frag} {H H':Hp} {b b':Bz} {a:Addr} {xs:List V} (e:WE H b H' b') (h:LA K H b a xs):LA K H' b' a xs:=h.elim (fun h => .inl (Rd.wext e h)) .inr
theorem TA'.wext {K:W.Frag} {H H':Hp} {b b':Bz} {a:Addr} {xs:List V} (e:WE H b H' b') (h:TA' K H b a xs):TA' K H' b' a xs:=h.elim (fun h => .inl ⟨e.keep _ _ h.1 h.2,e.not_in h.1 h.2⟩) .inr
theorem LA.sq {K:W.Frag} {H:Hp} {b:Bz} {a:Addr} {xs:List V} (h:LA K H b a xs):SqL K H a xs:=h.elim (fun h => .inl h.1) .inr
theorem TA'.sq {K:W.Frag} {H:Hp} {b:Bz} {a:Addr} {xs:List V} (h:TA' K H b a xs):SqT K H a xs:=h.elim (fun h => .inl (.inl h.1)) .inr
mutual
theorem RV.wext {K:W.Frag} {H H':Hp} {b b':Bz} (e:WE H b H' b'):∀ (p:PV) {v:V},RV K H b p v->RV K H' b' p v
 | .non,_,h=>by unfold RV at h ⊢;exact h
 | .bl _,_,h=>by unfold RV at h ⊢;exact h
 | .int _,_,h=>by unfold RV at h ⊢;exact h
 | .str _,_,h=>by unfold RV at h ⊢;exact h
 | .tup l,_,h=>by unfold RV at h ⊢;obtain ⟨a,xs,h1,h2,h3⟩:=h;exact ⟨a,xs,h1,h2.wext e,RVs.wext e l h3⟩
 | .lst l,_,h=>by unfold RV at h ⊢;obtain ⟨a,xs,h1,h2,h3⟩:=h;exact ⟨a,xs,h1,h2.wext e,RVs.wext e l h3⟩
 | .ref i,_,h=>by unfold RV at h ⊢;obtain ⟨a,h1,h2⟩:=h;exact ⟨a,h1,e.ix h2⟩
 | .ty _,_,h=>by unfold RV at h ⊢;exact h
 | .fn _,_,h=>by unfold RV at h ⊢;exact h
 | .exc _ _,_,h=>by unfold RV at h ⊢;obtain ⟨a,o,u,h1,h2,h3,h4,h6,h5⟩:=h;exact ⟨a,o,u,h1,e.keep _ _ h2 h3,e.not_in h2 h3,h4,h6,h5.imp id fun ⟨d,q1,q2,q3⟩=>⟨d,q1,e.keep _ _ q2 q3,e.not_in q2 q3⟩⟩
 | .dct,_,h=>by unfold RV at h ⊢;obtain ⟨a,h1,h2,h3⟩:=h;exact ⟨a,h1,e.keep _ _ h2 h3,e.not_in h2 h3⟩
theorem RVs.wext {K:W.Frag} {H H':Hp} {b b':Bz} (e:WE H b H' b'):∀ (l:List PV) {xs:List V},RVs K H b l xs->RVs K H' b' l xs
 |[],_,h=>by unfold RVs at h ⊢;exact h
 |p::ps,_,h=>by unfold RVs at h ⊢;obtain ⟨x,r,h1,h2,h3⟩:=h;exact ⟨x,r,h1,RV.wext e p h2,RVs.wext e ps h3⟩
end
structure Ext (H:Hp) (b:Bz) (H':Hp) (b':Bz):Prop extends WE H b H' b' where
 same:b'.z=b.z
 hid:∀ a o,a∈b.z->H a=some o->H' a=some o
 fz:∀ a o u,H a=some (.frz o u)->H' a=some (.frz o u)
theorem Ext.refl (H:Hp) (b:Bz):Ext H b H b:=⟨WE.refl H b,rfl,fun _ _ _ h=>h,fun _ _ _ h=>h⟩
theorem Ext.none_of {H H':Hp} {b b':Bz} (e:Ext H b H' b') {a:Addr} (h:H' a=none):H a=none:=e.toWE.none_of h
theorem Ext.trans {H H1 H2:Hp} {b b1 b2:Bz} (e:Ext H b H1 b1) (f:Ext H1 b1 H2 b2):Ext H b H2 b2:=⟨e.toWE.trans f.toWE,f.same.trans e.same,fun a o ha h=>f.hid a o (by rw [e.same];exact ha) (e.hid a o ha h),fun a o u h=>f.fz a o u (e.fz a o u h)⟩
theorem Ext.new {H:Hp} {b:Bz} {p:Addr} {o:HO} (h:H p=none):Ext H b (upd H p o) b:=⟨WE.new h,rfl,fun a u _ e=>by rw [qW (qV e h)];exact e,fun a u _ e=>by rw [qW (qV e h)];exact e⟩
theorem Ext.wr {H:Hp} {b:Bz} {p:Addr} {o:HO} (h:p∈b.b) (hz:∀ a∈b.z,a ∉ b.b) (hf:∀ o u,H p≠some (.frz o u)):Ext H b (upd H p o) b:=⟨WE.wr (.inl h),rfl,fun a u ha e=>by rw [qW (fun z=>hz a ha (by rw [z];exact h))];exact e,fun a u v e=>by rw [qW (fun z=>hf u v (by rw [← z];exact e))];exact e⟩
theorem nfz {H:Hp} {p:Addr} {u:HO} (h:H p=some u) (hu:∀ o v,u ≠ .frz o v):∀ o v,H p≠some (.frz o v):=fun o v z=>by rw [h] at z;cases z;exact hu _ _ rfl
theorem qFc {H:Hp} {p:Addr} {xs:List V} (h:H p=some (.lst xs)):∀ o v,H p≠some (.frz o v):=nfz h fun _ _ z=>nomatch z
theorem Ext.of_same {H H':Hp} {b:Bz} (h:Same H H'):Ext H b H' b:=⟨⟨⟨[],by simp,by simp⟩,⟨[],rfl,by simp⟩,fun a o e _=>h a o e,fun a o e=>⟨o,h a o e⟩⟩,rfl,fun a o _ e=>h a o e,fun a o u e=>h a _ e⟩
theorem RV.ext {K:W.Frag} {H H':Hp} {b b':Bz} (e:Ext H b H' b') (p:PV) {v:V} (h:RV K H b p v):RV K H' b' p v:=RV.wext e.toWE p h
theorem RVs.ext {K:W.Frag} {H H':Hp} {b b':Bz} (e:Ext H b H' b') (l:List PV) {xs:List V} (h:RVs K H b l xs):RVs K H' b' l xs:=RVs.wext e.toWE l h
theorem RVs.length {K:W.Frag} {H:Hp} {b:Bz}:∀ {l:List PV} {xs:List V},RVs K H b l xs->l.length=xs.length
 |[],_,h=>by unfold RVs at h;rw [h];rfl
 |p::ps,_,h=>by unfold RVs at h;obtain ⟨x,r,rfl,_,h3⟩:=h;rw [AH,AH,RVs.length h3]
theorem RVs.nil {K:W.Frag} {H:Hp} {b:Bz}:RVs K H b [] []:=by unfold RVs;rfl
theorem RVs.cons {K:W.Frag} {H:Hp} {b:Bz} {p:PV} {ps:List PV} {x:V} {r:List V} (h:RV K H b p x) (t:RVs K H b ps r):RVs K H b (p::ps) (x::r):=by unfold RVs;exact ⟨x,r,rfl,h,t⟩
theorem RVs.get {K:W.Frag} {H:Hp} {b:Bz}:∀ {l:List PV} {xs:List V} {i:Nat} {p:PV},RVs K H b l xs->l[i]? = some p -> ∃ x,xs[i]? = some x∧RV K H b p x
 |[],_,_,_,_,h=>by simp at h
 |q::ps,_,0,p,r,h=>by unfold RVs at r;obtain ⟨x,t,rfl,h2,h3⟩:=r;simp at h;subst h;exact ⟨x,rfl,h2⟩
 |q::ps,_,i + 1,p,r,h=>by
  unfold RVs at r;obtain ⟨x,t,rfl,h2,h3⟩:=r;obtain ⟨y,e,hy⟩:=RVs.get (i:=i) h3 (by simpa using h)
  exact ⟨y,by simpa using e,hy⟩
theorem RVs.append {K:W.Frag} {H:Hp} {b:Bz}:∀ {l m:List PV} {xs ys:List V},RVs K H b l xs->RVs K H b m ys->RVs K H b (l++m) (xs++ys)
 |[],_,_,_,h,g=>by unfold RVs at h;subst h;exact g
 |p::ps,_,_,_,h,g=>by unfold RVs at h;obtain ⟨x,r,rfl,h2,h3⟩:=h;exact RVs.cons h2 (RVs.append h3 g)
theorem RVs.take {K:W.Frag} {H:Hp} {b:Bz}:∀ {l:List PV} {xs:List V} (n:Nat),RVs K H b l xs->RVs K H b (l.take n) (xs.take n)
 |_,_,0,_=>RVs.nil
 |[],_,_ + 1,h=>by unfold RVs at h;subst h;exact RVs.nil
 |p::ps,_,n + 1,h=>by unfold RVs at h;obtain ⟨x,r,rfl,h2,h3⟩:=h;exact RVs.cons h2 (RVs.take n h3)
theorem RVs.drop {K:W.Frag} {H:Hp} {b:Bz}:∀ {l:List PV} {xs:List V} (n:Nat),RVs K H b l xs->RVs K H b (l.drop n) (xs.drop n)
 |_,_,0,h=>h
 |[],_,_ + 1,h=>by unfold RVs at h;subst h;exact RVs.nil
 |p::ps,_,n + 1,h=>by unfold RVs at h;obtain ⟨x,r,rfl,h2,h3⟩:=h;exact RVs.drop n h3
theorem RVs.set {K:W.Frag} {H:Hp} {b:Bz} {p:PV} {x:V} (hp:RV K H b p x):∀ {l:List PV} {xs:List V} (n:Nat),RVs K H b l xs->RVs K H b (l.set n p) (xs.set n x)
 |[],_,_,h=>by unfold RVs at h;subst h;exact RVs.nil
 |q::ps,_,0,h=>by unfold RVs at h;obtain ⟨y,r,rfl,h2,h3⟩:=h;exact RVs.cons hp h3
 |q::ps,_,n + 1,h=>by unfold RVs at h;obtain ⟨y,r,rfl,h2,h3⟩:=h;exact RVs.cons h2 (RVs.set hp n h3)
theorem SOk.wext {K:W.Frag} {H H':Hp} {b b':Bz} (e:WE H b H' b'):∀ {x:SO} {o:HO},SOk K H b x o->SOk K H' b' x o
 | .l xs,_,⟨vs,h,r⟩=>⟨vs,h,RVs.wext e xs r⟩
 | .d kvs,_,⟨vs,h,q,r⟩=>⟨vs,h,q,RVs.wext e _ r⟩
 | .z kvs,_,⟨od,vs,h,q,r⟩=>⟨od,vs,h,q,RVs.wext e _ r⟩
theorem SOk.ext {K:W.Frag} {H H':Hp} {b b':Bz} (e:Ext H b H' b') {x:SO} {o:HO} (h:SOk K H b x o):SOk K H' b' x o:=h.wext e.toWE
theorem SR.mem {K:W.Frag} {H:Hp} {b:Bz} {st:qD} (S:SR K H b st) {a:Addr} (h:a∈b.b):∃ o,H a=some o:=by
 obtain ⟨i,hi⟩:=BH h;have hl:i < b.b.length:=(AS.mp hi).1;have hs:st[i]? = some (st[i]'(by rw [← S.len];exact hl)):=AI _
 obtain ⟨a',o,h1,h2,_⟩:=S.at_ i _ hs;rw [hi] at h1;cases h1;exact ⟨o,h2⟩
theorem SR.new_notin {K:W.Frag} {H:Hp} {b:Bz} {st:qD} (S:SR K H b st) {p:Addr} (h:H p=none):b.out p :=
 ⟨fun hm=>(by obtain ⟨o,e⟩:=S.mem hm;rw [h] at e;cases e),fun hm=>(by obtain ⟨o,e⟩:=S.zo p hm;rw [h] at e;cases e)⟩
theorem SR.new {K:W.Frag} {H:Hp} {b:Bz} {st:qD} (S:SR K H b st) {p:Addr} {o:HO} (h:H p=none):SR K (upd H p o) b st :=
 ⟨S.len,S.nd,fun i x hx=>by
  obtain ⟨a,u,h1,h2,h3⟩:=S.at_ i x hx;exact ⟨a,u,h1,by rw [qW (qV h2 h)];exact h2,h3.ext (Ext.new h)⟩,fun a ha=>by
  obtain ⟨u,e⟩:=S.zo a ha;exact ⟨u,by rw [qW (qV e h)];exact e⟩,S.zb⟩
theorem qIt {b:List Addr} (nd:b.Nodup) {i j:Nat} {x:Addr} (h1:b[i]? = some x) (h2:b[j]? = some x):i=j:=by obtain ⟨hi,e1⟩:=AS.mp h1;obtain ⟨hj,e2⟩:=AS.mp h2;exact (List.getElem_inj nd).mp (e1.trans e2.symm)
theorem SR.wr {K:W.Frag} {H:Hp} {b:Bz} {st:qD} (S:SR K H b st) {i:Nat} {p:Addr} {x:SO} {o:HO} (hp:b.b[i]? = some p) (hx:SOk K (upd H p o) b x o):SR K (upd H p o) b (st.set i x):=by
 have hm:p∈b.b:=Ar hp;refine ⟨by simp [S.len],S.nd,fun j y hy => ?_,fun a ha => ?_,S.zb⟩
 ·have hl:i < b.b.length:=(AS.mp hp).1;by_cases hj:j=i
  ·subst hj;rw [A7 (by rw [← S.len];exact hl)] at hy
   cases hy;exact ⟨p,o,hp,Qj,hx⟩
  ·rw [BD (Ne.symm hj)] at hy;obtain ⟨a,u,h1,h2,h3⟩:=S.at_ j y hy;have hne:a≠p:=fun z=>hj (by subst z;exact qIt S.nd h1 hp)
   exact ⟨a,u,h1,by rw [qW hne];exact h2,h3.wext (WE.wr (.inl hm))⟩
 ·obtain ⟨u,e⟩:=S.zo a ha;have hz:a≠p:=fun z=>S.zb a ha (by rw [z];exact hm)
  exact ⟨u,by rw [qW hz];exact e⟩
theorem SR.wrz {K:W.Frag} {H:Hp} {b:Bz} {st:qD} (S:SR K H b st) {p:Addr} {ys:List V} (hp:p∈b.z):SR K (upd H p (.lst ys)) b st:=by
 refine ⟨S.len,S.nd,fun j y hy => ?_,fun a ha => ?_,S.zb⟩
 ·obtain ⟨a,u,h1,h2,h3⟩:=S.at_ j y hy;have hne:a≠p:=fun z=>by subst z;exact S.zb a hp (Ar h1)
  exact ⟨a,u,h1,by rw [qW hne];exact h2,h3.wext (WE.wr (.inr hp))⟩
 ·obtain ⟨u,e⟩:=S.zo a ha;by_cases hz:a=p
  ·exact ⟨ys,by rw [hz];exact Qj⟩
  ·exact ⟨u,by rw [qW hz];exact e⟩
structure Sh (b b':Bz):Prop where
 ix:∀ (i:Nat) (a:Addr),b.b[i]? = some a->b'.b[i]? = some a
 out:∀ a,b.out a->b'.out a
mutual
theorem RV.sh {K:W.Frag} {H:Hp} {b b':Bz} (e:Sh b b'):∀ (p:PV) {v:V},RV K H b p v->RV K H b' p v
 | .non,_,h=>by unfold RV at h ⊢;exact h
 | .bl _,_,h=>by unfold RV at h ⊢;exact h
 | .int _,_,h=>by unfold RV at h ⊢;exact h
 | .str _,_,h=>by unfold RV at h ⊢;exact h
 | .tup l,_,h=>by unfold RV at h ⊢;obtain ⟨a,xs,h1,h2,h3⟩:=h;exact ⟨a,xs,h1,h2.elim (fun q => .inl ⟨q.1,e.out a q.2⟩) .inr,RVs.sh e l h3⟩
 | .lst l,_,h=>by unfold RV at h ⊢;obtain ⟨a,xs,h1,h2,h3⟩:=h;exact ⟨a,xs,h1,h2.elim (fun q => .inl ⟨q.1,e.out a q.2⟩) .inr,RVs.sh e l h3⟩
 | .ref i,_,h=>by unfold RV at h ⊢;obtain ⟨a,h1,h2⟩:=h;exact ⟨a,h1,e.ix i a h2⟩
 | .ty _,_,h=>by unfold RV at h ⊢;exact h
 | .fn _,_,h=>by unfold RV at h ⊢;exact h
 | .exc _ _,_,h=>by unfold RV at h ⊢;obtain ⟨a,o,u,h1,h2,h3,h4,h6,h5⟩:=h;exact ⟨a,o,u,h1,h2,e.out a h3,h4,h6,h5.imp id fun ⟨d,q1,q2,q3⟩=>⟨d,q1,q2,e.out d q3⟩⟩
 | .dct,_,h=>by unfold RV at h ⊢;obtain ⟨a,h1,h2,h3⟩:=h;exact ⟨a,h1,h2,e.out a h3⟩
theorem RVs.sh {K:W.Frag} {H:Hp} {b b':Bz} (e:Sh b b'):∀ (l:List PV) {xs:List V},RVs K H b l xs->RVs K H b' l xs
 |[],_,h=>by unfold RVs at h ⊢;exact h
 |p::ps,_,h=>by unfold RVs at h ⊢;obtain ⟨x,r,h1,h2,h3⟩:=h;exact ⟨x,r,h1,RV.sh e p h2,RVs.sh e ps h3⟩
end
theorem SOk.sh {K:W.Frag} {H:Hp} {b b':Bz} (e:Sh b b'):∀ {x:SO} {o:HO},SOk K H b x o->SOk K H b' x o
 | .l xs,_,⟨vs,h,r⟩=>⟨vs,h,RVs.sh e xs r⟩
 | .d kvs,_,⟨vs,h,q,r⟩=>⟨vs,h,q,RVs.sh e _ r⟩
 | .z kvs,_,⟨od,vs,h,q,r⟩=>⟨od,vs,h,q,RVs.sh e _ r⟩
theorem Sh.bare {b:List Addr} {p:Addr} {z:List Addr}:Sh ⟨b,p::z⟩ ⟨b,z⟩:=⟨fun _ _ h=>h,fun a h=>⟨h.1,fun q=>h.2 (AE _ q)⟩⟩
theorem Sh.slot {b:List Addr} {p:Addr} {z:List Addr}:Sh ⟨b,p::z⟩ ⟨b++[p],z⟩:=⟨fun i a h=>by
  rw [Af (AS.mp h).1];exact h,fun a h=>⟨fun q=>(Am.mp q).elim h.1 fun q=>h.2 (by rw [Ai.mp q];exact AL),fun q=>h.2 (AE _ q)⟩⟩
theorem RV.hide {K:W.Frag} {H:Hp} {b z:List Addr} {p:Addr} {o:HO} (hp:H p=none) (q:PV) {v:V} (h:RV K H ⟨b,z⟩ q v):RV K (upd H p o) ⟨b,p::z⟩ q v:=hd q h
where
 outp {a:Addr} {u:HO} (e:H a=some u) (h:Bz.out ⟨b,z⟩ a):Bz.out ⟨b,p::z⟩ a:=⟨h.1,fun q=>(AJ.mp q).elim (fun q=>by subst q;rw [hp] at e;cases e) h.2⟩
 rdd {a:Addr} {u:HO} (h:Rd H a u∧Bz.out ⟨b,z⟩ a):Rd (upd H p o) a u∧Bz.out ⟨b,p::z⟩ a:=by
  obtain ⟨w,hw⟩:=Rd.some_of h.1;refine ⟨?_,outp hw h.2⟩;rcases h.1 with q |⟨o',q⟩
  ·exact .inl (by rw [qW (qV q hp)];exact q)
  ·exact .inr ⟨o',by rw [qW (qV q hp)];exact q⟩
 hd:∀ (q:PV) {v:V},RV K H ⟨b,z⟩ q v->RV K (upd H p o) ⟨b,p::z⟩ q v
 | .non,_,h=>by unfold RV at h ⊢;exact h
 | .bl _,_,h=>by unfold RV at h ⊢;exact h
 | .int _,_,h=>by unfold RV at h ⊢;exact h
 | .str _,_,h=>by unfold RV at h ⊢;exact h
 | .tup l,_,h=>by unfold RV at h ⊢;obtain ⟨a,xs,h1,h2,h3⟩:=h;exact ⟨a,xs,h1,h2.elim (fun q => .inl ⟨by rw [qW (qV q.1 hp)];exact q.1,outp q.1 q.2⟩) .inr,hds l h3⟩
 | .lst l,_,h=>by unfold RV at h ⊢;obtain ⟨a,xs,h1,h2,h3⟩:=h;exact ⟨a,xs,h1,h2.elim (fun q => .inl (rdd q)) .inr,hds l h3⟩
 | .ref i,_,h=>by unfold RV at h ⊢;exact h
 | .ty _,_,h=>by unfold RV at h ⊢;exact h
 | .fn _,_,h=>by unfold RV at h ⊢;exact h
 | .exc _ _,_,h=>by unfold RV at h ⊢;obtain ⟨a,o',u,h1,h2,h3,h4,h6,h5⟩:=h;exact ⟨a,o',u,h1,by rw [qW (qV h2 hp)];exact h2,outp h2 h3,h4,h6,h5.imp id fun ⟨d,q1,q2,q3⟩=>⟨d,q1,by rw [qW (qV q2 hp)];exact q2,outp q2 q3⟩⟩
 | .dct,_,h=>by unfold RV at h ⊢;obtain ⟨a,h1,h2,h3⟩:=h;exact ⟨a,h1,by rw [qW (qV h2 hp)];exact h2,outp h2 h3⟩
 hds:∀ (l:List PV) {xs:List V},RVs K H ⟨b,z⟩ l xs->RVs K (upd H p o) ⟨b,p::z⟩ l xs
 |[],_,h=>by unfold RVs at h ⊢;exact h
 |q::ps,_,h=>by unfold RVs at h ⊢;obtain ⟨x,r,h1,h2,h3⟩:=h;exact ⟨x,r,h1,hd q h2,hds ps h3⟩
theorem SR.hide {K:W.Frag} {H:Hp} {b z:List Addr} {st:qD} (S:SR K H ⟨b,z⟩ st) {p:Addr} {ys:List V} (hp:H p=none):SR K (upd H p (.lst ys)) ⟨b,p::z⟩ st:=by
 have hn:=S.new_notin hp;refine ⟨S.len,S.nd,fun i x hx => ?_,fun a ha => ?_,fun a ha => ?_⟩
 ·obtain ⟨a,u,h1,h2,h3⟩:=S.at_ i x hx;refine ⟨a,u,h1,by rw [qW (qV h2 hp)];exact h2,?_⟩
  cases x with
  |l xs =>obtain ⟨vs,e1,e2⟩:=h3;exact ⟨vs,e1,RV.hide.hds hp xs e2⟩
  |d kvs =>obtain ⟨vs,e1,e2,e3⟩:=h3;exact ⟨vs,e1,e2,RV.hide.hds hp _ e3⟩
  |z kvs =>obtain ⟨od,vs,e1,e2,e3⟩:=h3;exact ⟨od,vs,e1,e2,RV.hide.hds hp _ e3⟩
 ·rcases AJ.mp ha with rfl |ha
  ·exact ⟨ys,Qj⟩
  ·obtain ⟨u,e⟩:=S.zo a ha;exact ⟨u,by rw [qW (qV e hp)];exact e⟩
 ·rcases AJ.mp ha with rfl |ha
  ·exact hn.1
  ·exact S.zb a ha
theorem SR.bare {K:W.Frag} {H:Hp} {b z:List Addr} {st:qD} {p:Addr} (S:SR K H ⟨b,p::z⟩ st):SR K H ⟨b,z⟩ st :=
 ⟨S.len,S.nd,fun i x hx=>by
  obtain ⟨a,u,h1,h2,h3⟩:=S.at_ i x hx;exact ⟨a,u,h1,h2,h3.sh Sh.bare⟩,fun a ha=>S.zo a (AE _ ha),fun a ha=>S.zb a (AE _ ha)⟩
theorem SR.slot {K:W.Frag} {H:Hp} {b z:List Addr} {st:qD} {p:Addr} {x:SO} {o:HO} (S:SR K H ⟨b,p::z⟩ st) (hz:p ∉ z) (ho:H p=some o) (hx:SOk K H ⟨b,p::z⟩ x o):SR K H ⟨b++[p],z⟩ (st++[x]):=by
 have hp:p ∉ b:=S.zb p AL;refine ⟨by simp [show b.length=st.length from S.len],?_,fun i y hy => ?_,fun a ha=>S.zo a (AE _ ha),fun a ha hm => ?_⟩
 ·exact List.nodup_append.mpr ⟨S.nd,by simp,fun a ha c hc=>by rw [Ai.mp hc];intro z;subst z;exact hp ha⟩
 ·by_cases hi:i < st.length
  ·rw [Af hi] at hy;obtain ⟨a,u,h1,h2,h3⟩:=S.at_ i y hy;exact ⟨a,u,Sh.slot.ix i a h1,h2,h3.sh Sh.slot⟩
  ·have hi':i=st.length:=by
    have:=(AS.mp hy).1
    rw [AQ,As] at this;omega
   subst hi';have e1:(st++[x])[st.length]? = some x:=by simp
   rw [e1] at hy;cases hy;have hl:b.length=st.length:=S.len;exact ⟨p,o,by show (b++[p])[st.length]? = some p;rw [← hl];simp,ho,hx.sh Sh.slot⟩
 ·rcases Am.mp hm with q |q
  ·exact S.zb a (AE _ ha) q
  ·rw [Ai.mp q] at ha;exact hz ha
def REnv (K:W.Frag) (H:Hp) (b:Bz) (r:qv) (s:L2.St):Prop:=r.length=s.length ∧ ∀ (i:Nat) (p:PV),r[i]? = some (some p) -> ∃ v,s[i]? = some (some v)∧RV K H b p v
theorem REnv.wext {K:W.Frag} {H H':Hp} {b b':Bz} {r:qv} {s:L2.St} (h:REnv K H b r s) (e:WE H b H' b'):REnv K H' b' r s:=⟨h.1,fun i p q=>by
 obtain ⟨v,h1,h2⟩:=h.2 i p q;exact ⟨v,h1,RV.wext e p h2⟩⟩
theorem REnv.ext {K:W.Frag} {H H':Hp} {b b':Bz} {r:qv} {s:L2.St} (h:REnv K H b r s) (e:Ext H b H' b'):REnv K H' b' r s:=⟨h.1,fun i p q=>by
 obtain ⟨v,h1,h2⟩:=h.2 i p q;exact ⟨v,h1,RV.ext e p h2⟩⟩
theorem REnv.set {K:W.Frag} {H:Hp} {b:Bz} {r:qv} {s:L2.St} {p:PV} {v:V} (h:REnv K H b r s) (hv:RV K H b p v) (i:Nat):REnv K H b (r.set i (some p)) (s.set i (some v)):=by
 refine ⟨by simp [h.1],fun j q hq => ?_⟩
 by_cases hj:i=j
 ·subst hj;have hl:i < r.length:=by
   have:=(AS.mp hq).1
   simpa using this
  rw [A7 hl] at hq;cases hq;exact ⟨v,by rw [A7 (by rw [← h.1];exact hl)],hv⟩
 ·rw [BD hj] at hq;obtain ⟨w,h1,h2⟩:=h.2 j q hq;exact ⟨w,by rw [BD hj];exact h1,h2⟩
def RX (K:W.Frag) (H:Hp) (b:Bz) (x:Exc) (c:Value) (d:Option Addr):Prop :=
 c = .ref x.cls∧((x.fs=[]∧d=none) ∨ ∃ a,d=some a∧H a=some (.xd (x.fs.map fun p=>(p.1,V.int p.2)))∧b.out a)
def XP (K:W.Frag) (E:XK) (H:Hp) (b:Bz) (x:Exc) (st:qD):Prop := ∀ c d H' b',Ext H b H' b'->SR K H' b' st->RX K H' b' x c d->E c d H'
theorem XP.ext {K:W.Frag} {E:XK} {H H1:Hp} {b b1:Bz} {x:Exc} {st:qD} (h:XP K E H b x st) (e:Ext H b H1 b1):XP K E H1 b1 x st:=fun c d H' b' e' S r=>h c d H' b' (e.trans e') S r
def PostE (K:W.Frag) (E:XK) (H:Hp) (b:Bz) (r:Rs PV) (Q:VK):Prop:=match r with
 | .ok p st => ∀ v H' b',Ext H b H' b'->SR K H' b' st->RV K H' b' p v->Q v H'
 | .ex x st=>XP K E H b x st
 | .no=>False
def PostA (K:W.Frag) (E:XK) (H:Hp) (b:Bz) (r:Rs (List PV)) (Q:List V->Hp->Prop):Prop:=match r with
 | .ok ps st => ∀ vs H' b',Ext H b H' b'->SR K H' b' st->RVs K H' b' ps vs->Q vs H'
 | .ex x st=>XP K E H b x st
 | .no=>False
def PostT (K:W.Frag) (E:XK) (H:Hp) (b:Bz) (r:Rs Bool) (Q:Bool->Hp->Prop):Prop:=match r with
 | .ok k st => ∀ H' b',Ext H b H' b'->SR K H' b' st->Q k H'
 | .ex x st=>XP K E H b x st
 | .no=>False
def PostS (K:W.Frag) (E:XK) (H:Hp) (b:Bz) (r:RS) (D:Ends):Prop:=match r with
 | .nx e st => ∀ s H' b',Ext H b H' b'->SR K H' b' st->REnv K H' b' e s->D.nx s H'
 | .bk e st => ∀ s H' b',Ext H b H' b'->SR K H' b' st->REnv K H' b' e s->D.bk s H'
 | .ct e st => ∀ s H' b',Ext H b H' b'->SR K H' b' st->REnv K H' b' e s->D.ct s H'
 | .rt p st => ∀ v H' b',Ext H b H' b'->SR K H' b' st->RV K H' b' p v->D.rt v H'
 | .ex x st=>XP K E H b x st
 | .no=>False
theorem PostE.ext {K:W.Frag} {E:XK} {H H1:Hp} {b b1:Bz} {r:Rs PV} {Q:VK} (h:PostE K E H b r Q) (e:Ext H b H1 b1):PostE K E H1 b1 r Q:=by
 cases r with
 |ok p st=>exact fun v H' b' e'=>h v H' b' (e.trans e')
 |ex x st=>exact XP.ext h e
 |no=>exact h
theorem PostA.ext {K:W.Frag} {E:XK} {H H1:Hp} {b b1:Bz} {r:Rs (List PV)} {Q:List V->Hp->Prop} (h:PostA K E H b r Q) (e:Ext H b H1 b1):PostA K E H1 b1 r Q:=by
 cases r with
 |ok p st=>exact fun v H' b' e'=>h v H' b' (e.trans e')
 |ex x st=>exact XP.ext h e
 |no=>exact h
theorem PostT.ext {K:W.Frag} {E:XK} {H H1:Hp} {b b1:Bz} {r:Rs Bool} {Q:Bool->Hp->Prop} (h:PostT K E H b r Q) (e:Ext H b H1 b1):PostT K E H1 b1 r Q:=by
 cases r with
 |ok p st=>exact fun H' b' e'=>h H' b' (e.trans e')
 |ex x st=>exact XP.ext h e
 |no=>exact h
theorem PostS.ext {K:W.Frag} {E:XK} {H H1:Hp} {b b1:Bz} {r:RS} {D:Ends} (h:PostS K E H b r D) (e:Ext H b H1 b1):PostS K E H1 b1 r D:=by
 cases r with
 |nx p st=>exact fun v H' b' e'=>h v H' b' (e.trans e')
 |bk p st=>exact fun v H' b' e'=>h v H' b' (e.trans e')
 |ct p st=>exact fun v H' b' e'=>h v H' b' (e.trans e')
 |rt p st=>exact fun v H' b' e'=>h v H' b' (e.trans e')
 |ex x st=>exact XP.ext h e
 |no=>exact h
def rd (K:W.Frag) (E:XK) (f:FE):TE:=fun s H Q => ∃ b r st,SR K H b st∧REnv K H b r s∧PostE K E H b (f r st) Q
def rdA (K:W.Frag) (E:XK) (f:FA):L2.TA:=fun s H Q => ∃ b r st,SR K H b st∧REnv K H b r s∧PostA K E H b (f r st) Q
def rdT (K:W.Frag) (E:XK) (f:FT):TT:=fun s H Q => ∃ b r st,SR K H b st∧REnv K H b r s∧PostT K E H b (f r st) Q
def rdS (K:W.Frag) (E:XK) (f:FS):TS:=fun D s H => ∃ b r st,SR K H b st∧REnv K H b r s∧PostS K E H b (f r st) D
abbrev VE (X:Cx) (E:XK) (e:Expr) (f:FE):Prop:=PE X e (rd X.K E f)
abbrev VA (X:Cx) (E:XK) (e:List Expr) (f:FA):Prop:=PA X e (rdA X.K E f)
abbrev VT (X:Cx) (E:XK) (e:Expr) (f:FT):Prop:=PT X e (rdT X.K E f)
abbrev VS (X:Cx) (E:XK) (e:Stmt) (f:FS):Prop:=PS X e (rdS X.K E f)
abbrev VSs (X:Cx) (E:XK) (e:List Stmt) (f:FS):Prop:=PSs X e (rdS X.K E f)
theorem PE.imp {X:Cx} {e:Expr} {t t':TE} (h:PE X e t) (i:∀ s H Q,t' s H Q->t s H Q):PE X e t':=fun pins s σ H Q I q=>h pins s σ H Q I (i _ _ _ q)
theorem PT.imp {X:Cx} {e:Expr} {t t':TT} (h:PT X e t) (i:∀ s H Q,t' s H Q->t s H Q):PT X e t':=fun pins s σ H Q I q=>h pins s σ H Q I (i _ _ _ q)
theorem PA.imp {X:Cx} {e:List Expr} {t t':L2.TA} (h:PA X e t) (i:∀ s H Q,t' s H Q->t s H Q):PA X e t':=fun pos pins s σ H Q I q=>h pos pins s σ H Q I (i _ _ _ q)
theorem PS.imp {X:Cx} {e:Stmt} {t t':TS} (h:PS X e t) (i:∀ D s H,t' D s H->t D s H):PS X e t':=fun pins s σ H D I q=>h pins s σ H D I (i _ _ _ q)
theorem PSs.imp {X:Cx} {e:List Stmt} {t t':TS} (h:PSs X e t) (i:∀ D s H,t' D s H->t D s H):PSs X e t':=fun pins s σ H D I q=>h pins s σ H D I (i _ _ _ q)
theorem PostE.bind {K:W.Frag} {E:XK} {H:Hp} {b:Bz} {r:Rs PV} {k:PV->qD->Rs PV} {Q R:VK} (P:PostE K E H b (r.bind k) Q)
  (h:∀ p st v H1 b1,Ext H b H1 b1->SR K H1 b1 st->RV K H1 b1 p v->PostE K E H1 b1 (k p st) Q->R v H1):PostE K E H b r R:=by
 cases r with
 |ok p st=>exact fun v H1 b1 e S r=>h p st v H1 b1 e S r (PostE.ext (show PostE K E H b (k p st) Q from P) e)
 |ex x st=>exact P
 |no=>exact P
theorem PostE.bindT {K:W.Frag} {E:XK} {H:Hp} {b:Bz} {r:Rs PV} {k:PV->qD->Rs Bool} {Q:Bool->Hp->Prop} {R:VK} (P:PostT K E H b (r.bind k) Q)
  (h:∀ p st v H1 b1,Ext H b H1 b1->SR K H1 b1 st->RV K H1 b1 p v->PostT K E H1 b1 (k p st) Q->R v H1):PostE K E H b r R:=by
 cases r with
 |ok p st=>exact fun v H1 b1 e S r=>h p st v H1 b1 e S r (PostT.ext (show PostT K E H b (k p st) Q from P) e)
 |ex x st=>exact P
 |no=>exact P
theorem PostT.bindT {K:W.Frag} {E:XK} {H:Hp} {b:Bz} {r:Rs Bool} {k:Bool->qD->Rs Bool} {Q R:Bool->Hp->Prop} (P:PostT K E H b (r.bind k) Q)
  (h:∀ p st H1 b1,Ext H b H1 b1->SR K H1 b1 st->PostT K E H1 b1 (k p st) Q->R p H1):PostT K E H b r R:=by
 cases r with
 |ok p st=>exact fun H1 b1 e S=>h p st H1 b1 e S (PostT.ext (show PostT K E H b (k p st) Q from P) e)
 |ex x st=>exact P
 |no=>exact P
theorem PostA.bind {K:W.Frag} {E:XK} {H:Hp} {b:Bz} {r:Rs (List PV)} {k:List PV->qD->Rs PV} {Q:VK} {R:List V->Hp->Prop} (P:PostE K E H b (r.bind k) Q)
  (h:∀ p st v H1 b1,Ext H b H1 b1->SR K H1 b1 st->RVs K H1 b1 p v->PostE K E H1 b1 (k p st) Q->R v H1):PostA K E H b r R:=by
 cases r with
 |ok p st=>exact fun v H1 b1 e S r=>h p st v H1 b1 e S r (PostE.ext (show PostE K E H b (k p st) Q from P) e)
 |ex x st=>exact P
 |no=>exact P
theorem PostE.bindA {K:W.Frag} {E:XK} {H:Hp} {b:Bz} {r:Rs PV} {k:PV->qD->Rs (List PV)} {Q:List V->Hp->Prop} {R:VK} (P:PostA K E H b (r.bind k) Q)
  (h:∀ p st v H1 b1,Ext H b H1 b1->SR K H1 b1 st->RV K H1 b1 p v->PostA K E H1 b1 (k p st) Q->R v H1):PostE K E H b r R:=by
 cases r with
 |ok p st=>exact fun v H1 b1 e S r=>h p st v H1 b1 e S r (PostA.ext (show PostA K E H b (k p st) Q from P) e)
 |ex x st=>exact P
 |no=>exact P
theorem PostA.bindA {K:W.Frag} {E:XK} {H:Hp} {b:Bz} {r:Rs (List PV)} {k:List PV->qD->Rs (List PV)} {Q R:List V->Hp->Prop} (P:PostA K E H b (r.bind k) Q)
  (h:∀ p st v H1 b1,Ext H b H1 b1->SR K H1 b1 st->RVs K H1 b1 p v->PostA K E H1 b1 (k p st) Q->R v H1):PostA K E H b r R:=by
 cases r with
 |ok p st=>exact fun v H1 b1 e S r=>h p st v H1 b1 e S r (PostA.ext (show PostA K E H b (k p st) Q from P) e)
 |ex x st=>exact P
 |no=>exact P
def Rs.bindS {α:Type} (r:Rs α) (k:α->qD->RS):RS:=match r with
 | .ok a st=>k a st
 | .ex x st => .ex x st
 | .no => .no
theorem PostE.bindS {K:W.Frag} {E:XK} {H:Hp} {b:Bz} {r:Rs PV} {k:PV->qD->RS} {D:Ends} {R:VK} (P:PostS K E H b (r.bindS k) D)
  (h:∀ p st v H1 b1,Ext H b H1 b1->SR K H1 b1 st->RV K H1 b1 p v->PostS K E H1 b1 (k p st) D->R v H1):PostE K E H b r R:=by
 cases r with
 |ok p st=>exact fun v H1 b1 e S r=>h p st v H1 b1 e S r (PostS.ext (show PostS K E H b (k p st) D from P) e)
 |ex x st=>exact P
 |no=>exact P
theorem PostT.bindS {K:W.Frag} {E:XK} {H:Hp} {b:Bz} {r:Rs Bool} {k:Bool->qD->RS} {D:Ends} {R:Bool->Hp->Prop} (P:PostS K E H b (r.bindS k) D)
  (h:∀ p st H1 b1,Ext H b H1 b1->SR K H1 b1 st->PostS K E H1 b1 (k p st) D->R p H1):PostT K E H b r R:=by
 cases r with
 |ok p st=>exact fun H1 b1 e S=>h p st H1 b1 e S (PostS.ext (show PostS K E H b (k p st) D from P) e)
 |ex x st=>exact P
 |no=>exact P
theorem PostA.bindS {K:W.Frag} {E:XK} {H:Hp} {b:Bz} {r:Rs (List PV)} {k:List PV->qD->RS} {D:Ends} {R:List V->Hp->Prop} (P:PostS K E H b (r.bindS k) D)
  (h:∀ p st v H1 b1,Ext H b H1 b1->SR K H1 b1 st->RVs K H1 b1 p v->PostS K E H1 b1 (k p st) D->R v H1):PostA K E H b r R:=by
 cases r with
 |ok p st=>exact fun v H1 b1 e S r=>h p st v H1 b1 e S r (PostS.ext (show PostS K E H b (k p st) D from P) e)
 |ex x st=>exact P
 |no=>exact P
def asL (st:qD):PV->Option (List PV)
 | .lst l=>some l
 | .ref i=>match st[i]? with
  |some (.l xs)=>some xs
  |_=>none
 |_=>none
def asT:PV->Option (List PV)
 | .tup l=>some l
 |_=>none
def zF (st:qD) (p:PV):Option (List PV):=match p with
 | .tup l=>some l
 |p=>asL st p
section
variable {K:W.Frag} {H:Hp} {b:Bz} {st:qD} {p:PV} {v:V} {l:List PV}
theorem Q5 (S:SR K H b st) (r:RV K H b p v) (h:asL st p=some l):∃ a xs,v = .ref a∧SqL K H a xs∧RVs K H b l xs:=by
 cases p with
 |lst m =>unfold RV at r;obtain ⟨a,xs,h1,h2,h3⟩:=r;have e:m=l:=Ag h;subst e;exact ⟨a,xs,h1,h2.sq,h3⟩
 |ref i =>
  unfold RV at r;obtain ⟨a,h1,h2⟩:=r;unfold asL at h;dsimp only at h;cases q:st[i]? with
  |none=>rw [q] at h;cases h
  |some o =>
   cases o with
   |l ys =>rw [q] at h;have e:ys=l:=Ag h;subst e;obtain ⟨a',o,e1,e2,vs,e3,e4⟩:=S.at_ i _ q;rw [h2] at e1;cases e1;subst e3;exact ⟨a,vs,h1,SqL.of e2,e4⟩
   |d ys=>rw [q] at h;cases h
   |z ys=>rw [q] at h;cases h
 |_=>cases h
theorem ZF (S:SR K H b st) (r:RV K H b p v) (h:zF st p=some l):∃ a xs,v = .ref a∧(SqL K H a xs∨SqT K H a xs)∧RVs K H b l xs:=by
 cases p with
 |tup m =>unfold RV at r;obtain ⟨a,xs,h1,h2,h3⟩:=r;have e:m=l:=Ag h;subst e;exact ⟨a,xs,h1,.inr h2.sq,h3⟩
 |lst m =>obtain ⟨a,xs,h1,h2,h3⟩:=Q5 S r h;exact ⟨a,xs,h1,.inl h2,h3⟩
 |ref i =>obtain ⟨a,xs,h1,h2,h3⟩:=Q5 S r h;exact ⟨a,xs,h1,.inl h2,h3⟩
 |_=>cases h
end
abbrev FL:=qv->qD->Rs (List PV)
def PostN (K:W.Frag) (E:XK) (H:Hp) (b:Bz) (r:Rs (List PV)) (Q:VK):Prop:=match r with
 | .ok l st => ∀ p xs H' b',Ext H b H' b'->H p=none->H' p=some (.lst xs)->p ∉ b'.z->SR K H' ⟨b'.b,p::b'.z⟩ st->RVs K H' ⟨b'.b,p::b'.z⟩ l xs->Q (.ref p) H'
 | .ex x st=>XP K E H b x st
 | .no=>False
def rdN (K:W.Frag) (E:XK) (f:FL):TE:=fun s H Q => ∃ b r st,SR K H b st∧REnv K H b r s∧PostN K E H b (f r st) Q
abbrev VN (X:Cx) (E:XK) (e:Expr) (f:FL):Prop:=PE X e (rdN X.K E f)
def vFz (f:FL):FE:=fun r st=>(f r st).bind fun l s => .ok (.lst l) s
theorem PostN.of {K:W.Frag} {E:XK} {H:Hp} {b:Bz} {r:Rs (List PV)} {Q:VK} (P:PostE K E H b (r.bind fun l s => .ok (.lst l) s) Q):PostN K E H b r Q:=by
 cases r with
 |ok l st=>exact fun p xs H' b' e hn hp hz S r=>P _ H' b' e S.bare (by unfold RV;exact ⟨p,xs,rfl,.inl ⟨.inl hp,S.zb p AL,hz⟩,RVs.sh Sh.bare l r⟩)
 |ex x st=>exact P
 |no=>exact P
theorem PostN.ext {K:W.Frag} {E:XK} {H H1:Hp} {b b1:Bz} {r:Rs (List PV)} {Q:VK} (h:PostN K E H b r Q) (e:Ext H b H1 b1):PostN K E H1 b1 r Q:=by
 cases r with
 |ok p st=>exact fun p xs H' b' e' hn=>h p xs H' b' (e.trans e') (e.none_of hn)
 |ex x st=>exact XP.ext h e
 |no=>exact h
theorem PostN.lay {K:W.Frag} {E:XK} {H:Hp} {b:Bz} {st:qD} {l:List PV} {xs:List V} {Q:VK} (P:PostN K E H b (.ok l st) Q) (S:SR K H b st) (r:RVs K H b l xs) {p:Addr} (h:H p=none):Q (.ref p) (upd H p (.lst xs)) :=
 P p xs _ b (Ext.new h) h Qj (S.new_notin h).2 (SR.hide S h) (RV.hide.hds h l r)
theorem PostE.layT {K:W.Frag} {E:XK} {H:Hp} {b:Bz} {st:qD} {l:List PV} {xs:List V} {Q:VK} (P:PostE K E H b (.ok (.tup l) st) Q) (S:SR K H b st) (r:RVs K H b l xs) {p:Addr} (h:H p=none):Q (.ref p) (upd H p (.tup xs)) :=
 P _ _ b (Ext.new h) (S.new h) (by unfold RV;exact ⟨p,xs,rfl,.inl ⟨Qj,S.new_notin h⟩,RVs.ext (Ext.new h) l r⟩)
theorem PostE.here {K:W.Frag} {E:XK} {H:Hp} {b:Bz} {st:qD} {p:PV} {v:V} {Q:VK} (P:PostE K E H b (.ok p st) Q) (S:SR K H b st) (r:RV K H b p v):Q v H:=P v H b (Ext.refl H b) S r
section
variable {X:Cx} {E:XK} {e a c d:Expr} {es:List Expr} {f fa fb fc:FE} {pos:Pos}
theorem qo {f:FL} (h:VN X E e f):VE X E e (vFz f):=PE.imp h fun s H Q ⟨b,r,st,S,R,P⟩=>⟨b,r,st,S,R,PostN.of P⟩
def vC (p:PV):FE:=fun _ st => .ok p st
def qB (i:Nat):FE:=fun r st=>match r[i]? with
 |some (some p) => .ok p st
 |_ => .no
theorem qAJ {p:PV} {v:V} (h:PE X e (tC v)) (hv:∀ H b,RV X.K H b p v):VE X E e (vC p):=PE.imp h fun s H Q ⟨b,r,st,S,R,P⟩=>PostE.here P S (hv H b)
theorem qK {i:Int} {j pos}:VE X E (.Constant (.int i) j pos) (vC (.int i)):=qAJ qGm fun _ _=>by unfold RV;rfl
theorem WB {i:Bool} {j pos}:VE X E (.Constant (.bool i) j pos) (vC (.bl i)):=qAJ qJL fun _ _=>by unfold RV;rfl
theorem qDL {j pos}:VE X E (.Constant .none j pos) (vC .non):=qAJ qHM fun _ _=>by unfold RV;rfl
theorem Qs {x:Str} {j pos}:VE X E (.Constant (.str x) j pos) (vC (.str x)):=qAJ qIC fun _ _=>by unfold RV;rfl
theorem wz {x:Str} {i:Int} {t:Tok} {pos:Pos} (hg:Gl X x) (hm:X.mg x=some (.int i t)) (hd:(x==("__debug__":Str))=false:=by decide):VE X E (.Name x pos) (vC (.int i)) :=
 qAJ (qBk (v := .int i) hg hm ⟨t,rfl⟩ hd) fun _ _=>by unfold RV;rfl
theorem qJS {i:Nat} (h:PE X e (qHn i)):VE X E e (qB i):=PE.imp h fun s H Q ⟨b,r,st,S,R,P⟩=>by
 unfold qB at P;cases q:r[i]? with
 |none=>rw [q] at P;exact False.elim P
 |some o =>
  cases o with
  |none=>rw [q] at P;exact False.elim P
  |some p =>rw [q] at P;obtain ⟨v,h1,h2⟩:=R.2 i p q;exact ⟨v,h1,PostE.here P S h2⟩
def qI (g:PV->PV->qD->Rs PV) (fa fb:FE):FE:=fun r st=>(fa r st).bind fun p s1=>(fb r s1).bind fun q s2=>g p q s2
def OpG (X:Cx) (E:XK) (t:R2) (g:PV->PV->qD->Rs PV):Prop :=
 ∀ (H:Hp) (b:Bz) (st:qD) (p q:PV) (u v:V) (Q:VK),SR X.K H b st->RV X.K H b p u->RV X.K H b q v->PostE X.K E H b (g p q st) Q->t u v H Q
theorem j0 {t:R2} {g:PV->PV->qD->Rs PV} (hg:OpG X E t g):∀ s H Q,rd X.K E (qI g fa fb) s H Q->tOp t (rd X.K E fa) (rd X.K E fb) s H Q:=fun s H Q ⟨b,r,st,S,R,P⟩ =>
 ⟨b,r,st,S,R,PostE.bind P fun p s1 u H1 b1 e1 S1 r1 P1=>⟨b1,r,s1,S1,R.ext e1,PostE.bind P1 fun q s2 v H2 b2 e2 S2 r2 P2=>hg H2 b2 s2 p q u v Q S2 (RV.ext e2 p r1) r2 P2⟩⟩
theorem Z2 {op:Operator} {t:R2} {g:PV->PV->qD->Rs PV} (ho:OpR X (binaryOp op) t) (hg:OpG X E t g) (ha:VE X E a fa) (hb:VE X E c fb):VE X E (.BinOp a op c pos) (qI g fa fb):=PE.imp (qGY ho ha hb) (j0 hg)
theorem j7 {op:CmpOp} {t:R2} {g:PV->PV->qD->Rs PV} (ho:OpR X (compareOp op) t) (hg:OpG X E t g) (ha:VE X E a fa) (hb:VE X E c fb) (hm:behindInMarks op c=false:=by first |exact QC _ |with_unfolding_all rfl):VE X E (.Compare a [op] [c] pos) (qI g fa fb):=PE.imp (qFG ho ha hb hm) (j0 hg)
def gI (g:Int->Int->Option PV):PV->PV->qD->Rs PV:=fun p q st=>match p,q with
 | .int i,.int j=>match g i j with
  |some z => .ok z st
  |none => .no
 |_,_ => .no
theorem qEI {C:Int->Int->Prop} {h:Int->Int->V} {g:Int->Int->Option PV} (hg:∀ i j z,g i j=some z->C i j ∧ ∀ H b,RV X.K H b z (h i j)):OpG X E (rI C h) (gI g):=by
 intro H b st p q u v Q S rp rq P;unfold gI at P;split at P
 ·rename_i i j;unfold RV at rp rq;split at P
  ·rename_i z e;obtain ⟨c,r⟩:=hg i j z e;exact ⟨i,j,rp,rq,c,PostE.here P S (r H b)⟩
  ·exact P.elim
 ·exact P.elim
theorem Jo {h:Int->Int->V} {g:Int->Int->PV} (hg:∀ i j H b,RV X.K H b (g i j) (h i j)):OpG X E (rI0 h) (gI fun i j=>some (g i j)):=by
 intro H b st p q u v Q S rp rq P;unfold gI at P;split at P
 ·rename_i i j;unfold RV at rp rq;exact ⟨i,j,rp,rq,PostE.here P S (hg i j H b)⟩
 ·exact P.elim
theorem Qu {K:W.Frag} {H:Hp} {b:Bz} {i:Int}:RV K H b (.int i) (.int i):=by unfold RV;rfl
theorem zE {K:W.Frag} {H:Hp} {b:Bz} {i:Bool}:RV K H b (.bl i) (.bl i):=by unfold RV;rfl
def Wt:=gI fun i j=>some (.int (i - j))
def zG:=gI fun i j=>if (-(2 ^ 64) < i∧i < 2 ^ 64)∨(-(2 ^ 64) < j∧j < 2 ^ 64) then some (.int (i * j)) else none
def J3:=gI fun i j=>if 0 < j∧j < 1073741824 then some (.int (i / j)) else none
def qAZ:=gI fun i j=>if 0 < j then some (.int (i % j)) else none
def qF7:=gI fun i j=>if 0≤j∧j≤1000000∧i.natAbs < 2 ^ 64 then some (.int (i ^ j.toNat)) else none
theorem W5 (ha:VE X E a fa) (hb:VE X E c fb):VE X E (.BinOp a .Sub c pos) (qI Wt fa fb):=Z2 qHO (Jo fun _ _ _ _=>Qu) ha hb
theorem zO (ha:VE X E a fa) (hb:VE X E c fb):VE X E (.BinOp a .Mult c pos) (qI zG fa fb):=Z2 qIF (qEI fun i j z e=>by
 split at e
 ·rename_i h;cases e;exact ⟨h,fun _ _=>Qu⟩
 ·cases e) ha hb
theorem qA7 (ha:VE X E a fa) (hb:VE X E c fb):VE X E (.BinOp a .FloorDiv c pos) (qI J3 fa fb):=Z2 qFL (qEI fun i j z e=>by
 split at e
 ·rename_i h;cases e;exact ⟨h,fun _ _=>Qu⟩
 ·cases e) ha hb
theorem qAR (ha:VE X E a fa) (hb:VE X E c fb):VE X E (.BinOp a .Mod c pos) (qI qAZ fa fb):=Z2 qID (qEI fun i j z e=>by
 split at e
 ·rename_i h;cases e;exact ⟨h,fun _ _=>Qu⟩
 ·cases e) ha hb
theorem qDS (ha:VE X E a fa) (hb:VE X E c fb):VE X E (.BinOp a .Pow c pos) (qI qF7 fa fb):=Z2 qHB (qEI fun i j z e=>by
 split at e
 ·rename_i h;cases e;exact ⟨h,fun _ _=>Qu⟩
 ·cases e) ha hb
def qx:=gI fun i j=>some (.int (i + j))
theorem qy (ha:VE X E a fa) (hb:VE X E c fb):VE X E (.BinOp a .Add c pos) (qI qx fa fb):=Z2 qGt (Jo fun _ _ _ _=>Qu) ha hb
def qFe:PV->PV->qD->Rs PV:=fun p q st=>match p,q with
 | .str x,.str y=>if x.length + y.length≤sizeLine then .ok (.str (x++y)) st else .no
 |_,_ => .no
theorem qFV (ha:VE X E a fa) (hb:VE X E c fb):VE X E (.BinOp a .Add c pos) (qI qFe fa fb):=Z2 qAv (fun H b st p q u v Q S rp rq P=>by
 unfold qFe at P;split at P
 ·rename_i x y;unfold RV at rp rq;split at P
  ·rename_i h;exact ⟨x,y,rp,rq,h,PostE.here P S (by unfold RV;rfl)⟩
  ·exact P.elim
 ·exact P.elim) ha hb
def gLt:=gI fun i j=>some (.bl (decide (i < j)))
def gLe:=gI fun i j=>some (.bl (decide (i≤j)))
def gGt:=gI fun i j=>some (.bl (decide (j < i)))
theorem qGN:OpG X E (rI0 fun i j => .bl (decide (i < j))) gLt:=Jo fun _ _ _ _=>zE
theorem qGK:OpG X E (rI0 fun i j => .bl (decide (i≤j))) gLe:=Jo fun _ _ _ _=>zE
theorem qEO:OpG X E (rI0 fun i j => .bl (decide (j < i))) gGt:=Jo fun _ _ _ _=>zE
def qEZ (g g':PV->PV->qD->Rs PV) (fa fb fc:FE):FE:=fun r st=>(fa r st).bind fun p s1=>(fb r s1).bind fun q s2=>(g p q s2).bind fun z s3=>match z with
 | .bl true=>(fc r s3).bind fun w s4=>g' q w s4
 | .bl false => .ok (.bl false) s3
 |_ => .no
theorem qDD {op op':CmpOp} {t t':R2} {g g':PV->PV->qD->Rs PV} (ho:OpR X (compareOp op) t) (ho':OpR X (compareOp op') t') (hg:OpG X E t g) (hg':OpG X E t' g') (ha:VE X E a fa) (hb:VE X E c fb) (hc:VE X E d fc)
  (hm:lastMarks [op,op'] [c,d]=false:=by with_unfolding_all rfl):VE X E (.Compare a [op,op'] [c,d] pos) (qEZ g g' fa fb fc):=by
 refine PE.imp (qDJ ho ho' ha hb hc hm) fun s H Q ⟨b,r,st,S,R,P⟩ => ?_;refine ⟨b,r,st,S,R,PostE.bind P fun p s1 u H1 b1 e1 S1 r1 P1=>⟨b1,r,s1,S1,R.ext e1,PostE.bind P1 fun q s2 v H2 b2 e2 S2 r2 P2 => ?_⟩⟩;refine hg H2 b2 s2 p q u v _ S2 (RV.ext e2 p r1) r2 (PostE.bind P2 fun z s3 zv H3 b3 e3 S3 r3 P3 => ?_);split at P3
 ·unfold RV at r3;refine ⟨true,r3,qBs ⟨b3,r,s3,S3,((R.ext e1).ext e2).ext e3,PostE.bind P3 fun w s4 wv H4 b4 e4 S4 r4 P4 => ?_⟩⟩;exact hg' H4 b4 s4 q w v wv Q S4 (RV.ext e4 q (RV.ext e3 q r2)) r4 P4
 ·unfold RV at r3;exact ⟨false,r3,qCN (PostE.here P3 S3 zE)⟩
 ·exact P3.elim
def qDj (st:qD):PV->Option Bool
 | .non=>some false
 | .bl x=>some x
 | .int i=>some (i != 0)
 | .tup l=>some (!l.isEmpty)
 | .lst l=>some (!l.isEmpty)
 | .ref i=>(asL st (.ref i)).map fun l => !l.isEmpty
 |_=>none
theorem qDi {K:W.Frag} {H:Hp} {b:Bz} {st:qD} {p:PV} {v:V} {k:Bool} (S:SR K H b st) (r:RV K H b p v) (h:qDj st p=some k):qE3 K v H k:=by
 have emp:∀ {l:List PV} {xs:List V},RVs K H b l xs->(!l.isEmpty) = !xs.isEmpty:=fun {l xs} q=>by
  have:=q.length
  cases l <;> cases xs <;> first |rfl |(simp at this)
 cases p with
 |non=>unfold RV at r;subst r;exact (Ag h).symm
 |bl x=>unfold RV at r;subst r;exact (Ag h).symm
 |int x=>unfold RV at r;subst r;exact (Ag h).symm
 |tup l =>unfold RV at r;obtain ⟨a,xs,rfl,h2,h3⟩:=r;exact .inr (.inl ⟨xs,h2.sq,by rw [← emp h3];exact (Ag h).symm⟩)
 |lst l =>obtain ⟨a,xs,rfl,h2,h3⟩:=Q5 S r rfl;exact .inl ⟨xs,h2,by rw [← emp h3];exact (Ag h).symm⟩
 |ref i =>
  unfold qDj at h;dsimp only at h;cases q:asL st (.ref i) with
  |none=>rw [q] at h;cases h
  |some l =>rw [q] at h;obtain ⟨a,xs,rfl,h2,h3⟩:=Q5 S r q;exact .inl ⟨xs,h2,by rw [← emp h3];exact (Ag h).symm⟩
 |_=>cases h
def QM (f:FE):FT:=fun r st=>(f r st).bind fun p s=>match qDj s p with
 |some k => .ok k s
 |none => .no
theorem qD8 {R:Bool->Hp->Prop} {s:L2.St} {H:Hp} (h:rdT X.K E (QM f) s H R):rd X.K E f s H fun x H' => ∃ k,qE3 X.K x H' k∧R k H':=by
 obtain ⟨b,r,st,S,RE,P⟩:=h;refine ⟨b,r,st,S,RE,PostE.bindT P fun p s1 u H1 b1 e1 S1 r1 P1 => ?_⟩;split at P1
 ·rename_i k e;exact ⟨k,qDi S1 r1 e,P1 H1 b1 (Ext.refl _ _) S1⟩
 ·exact P1.elim
theorem wa (h:VE X E e f) (he:∀ whole,isTrue e X.env whole=(do let v ← whole;standAt e.pos;holding [v] (truthy v)):=by intro _;rfl):VT X E e (QM f):=PT.imp (qEl h he) fun s H Q q=>qD8 q
def vTB (f:FE):FT:=fun r st=>(f r st).bind fun p s=>match p with
 | .bl k => .ok k s
 |_ => .no
theorem qI6 {R:Bool->Hp->Prop} {s:L2.St} {H:Hp} (h:rdT X.K E (vTB f) s H R):rd X.K E f s H fun x H' => ∃ k,x = .bl k∧R k H':=by
 obtain ⟨b,r,st,S,RE,P⟩:=h;refine ⟨b,r,st,S,RE,PostE.bindT P fun p s1 u H1 b1 e1 S1 r1 P1 => ?_⟩;split at P1
 ·rename_i k;unfold RV at r1;exact ⟨k,r1,P1 H1 b1 (Ext.refl _ _) S1⟩
 ·exact P1.elim
theorem QG {op:CmpOp} {t:R2} {g:PV->PV->qD->Rs PV} (ho:OpR X (compareOp op) t) (hg:OpG X E t g) (ha:VE X E a fa) (hb:VE X E c fb) (hm:behindInMarks op c=false:=by first |exact QC _ |with_unfolding_all rfl):VT X E (.Compare a [op] [c] pos) (vTB (qI g fa fb)) :=
 PT.imp (qFA ho ha hb hm) fun s H Q q=>j0 hg s H _ (qI6 q)
def Qn (f:FT):FT:=fun r st=>(f r st).bind fun k s => .ok (!k) s
theorem wo {f:FT} (h:VT X E a f):VT X E (.UnaryOp .Not a pos) (Qn f):=PT.imp (qH5 h) fun s H Q ⟨b,r,st,S,R,P⟩=>⟨b,r,st,S,R,PostT.bindT P fun k s1 H1 b1 e1 S1 P1=>P1 H1 b1 (Ext.refl _ _) S1⟩
abbrev VW (X:Cx) (E:XK) (e:Expr) (f:FT):Prop:=PW X e (rdT X.K E f)
theorem PW.imp {X:Cx} {e:Expr} {t t':TT} (h:PW X e t) (i:∀ s H Q,t' s H Q->t s H Q):PW X e t':=fun w pins s σ H Q I q=>h w pins s σ H Q I (i _ _ _ q)
def WS (f g:FT):FT:=fun r st=>(f r st).bind fun k s=>if k=true then g r s else .ok false s
def Wb (f g:FT):FT:=fun r st=>(f r st).bind fun k s=>if k=true then .ok true s else g r s
theorem JD {f:FT} (h:VT X E a f):VW X E (.BoolOp .And [a] pos) f:=qFS h
theorem zW {f:FT} (h:VT X E a f):VW X E (.BoolOp .Or [a] pos) f:=qIW h
theorem jq {f g:FT} {rest:List Expr} (h:VT X E a f) (h2:VW X E (.BoolOp .And (c::rest) pos) g):VW X E (.BoolOp .And (a::c::rest) pos) (WS f g):=PW.imp (qGj h h2) fun s H Q ⟨b,r,st,S,R,P⟩ =>
 ⟨b,r,st,S,R,PostT.bindT P fun k s1 H1 b1 e1 S1 P1=>by
  cases k with
  |true=>exact qBs ⟨b1,r,s1,S1,R.ext e1,P1⟩
  |false=>exact qCN (P1 H1 b1 (Ext.refl _ _) S1)⟩
theorem zx {f g:FT} {rest:List Expr} (h:VT X E a f) (h2:VW X E (.BoolOp .Or (c::rest) pos) g):VW X E (.BoolOp .Or (a::c::rest) pos) (Wb f g):=PW.imp (qJQ h h2) fun s H Q ⟨b,r,st,S,R,P⟩ =>
 ⟨b,r,st,S,R,PostT.bindT P fun k s1 H1 b1 e1 S1 P1=>by
  cases k with
  |true=>exact qBs (P1 H1 b1 (Ext.refl _ _) S1)
  |false=>exact qCN ⟨b1,r,s1,S1,R.ext e1,P1⟩⟩
theorem yV {f:FT} (h:VW X E e f):VT X E e f:=h.pt
def qHk (f:FE):FE:=fun r st=>(f r st).bind fun p s=>match p with
 | .bl k => .ok (.bl (!k)) s
 |_ => .no
theorem qEf (h:VE X E a fa):VE X E (.UnaryOp .Not a pos) (qHk fa):=PE.imp (qIN h) fun s H Q ⟨b,r,st,S,R,P⟩ =>
 ⟨b,r,st,S,R,PostE.bind P fun p s1 u H1 b1 e1 S1 r1 P1=>by
  split at P1
  ·rename_i k;unfold RV at r1;exact ⟨k,r1,PostE.here P1 S1 zE⟩
  ·exact P1.elim⟩
def Zc (f g:FE):FE:=fun r st=>(f r st).bind fun p s=>match p with
 | .bl true=>g r s
 | .bl false => .ok (.bl false) s
 |_ => .no
theorem Yl {op} (h:VE X E a fa):VE X E (.BoolOp op [a] pos) fa:=qGv h
theorem Ym {rest:List Expr} (h:VE X E a fa) (h2:VE X E (.BoolOp .And (c::rest) pos) fb):VE X E (.BoolOp .And (a::c::rest) pos) (Zc fa fb):=PE.imp (qHG h h2) fun s H Q ⟨b,r,st,S,R,P⟩ =>
 ⟨b,r,st,S,R,PostE.bind P fun p s1 u H1 b1 e1 S1 r1 P1=>by
  split at P1
  ·unfold RV at r1;exact ⟨true,r1,qBs ⟨b1,r,s1,S1,R.ext e1,P1⟩⟩
  ·unfold RV at r1;exact ⟨false,r1,qCN (PostE.here P1 S1 zE)⟩
  ·exact P1.elim⟩
def qC:FA:=fun _ st => .ok [] st
def qA (f:FE) (g:FA):FA:=fun r st=>(f r st).bind fun p s=>(g r s).bind fun ps s' => .ok (p::ps) s'
theorem qF:VA X E [] qC:=PA.imp Yp fun s H Q ⟨b,r,st,S,R,P⟩=>P [] H b (Ext.refl _ _) S RVs.nil
theorem Q0 {f:FE} {g:FA} (h:VE X E e f) (h2:VA X E es g) (hs:starEach (e::es) X.env=(false,eval e X.env)::starEach es X.env:=by rfl):VA X E (e::es) (qA f g):=PA.imp (Z1 h h2 hs) fun s H Q ⟨b,r,st,S,R,P⟩ =>
 ⟨b,r,st,S,R,PostE.bindA P fun p s1 u H1 b1 e1 S1 r1 P1=>⟨b1,r,s1,S1,R.ext e1,PostA.bindA P1 fun ps s2 us H2 b2 e2 S2 r2 P2=>P2 (u::us) H2 b2 (Ext.refl _ _) S2 (RVs.cons (RV.ext e2 p r1) r2)⟩⟩
def qe (g:FA):FE:=fun r st=>(g r st).bind fun ps s=>if ps.length≤sizeLine then .ok (.tup ps) s else .no
theorem qZ {g:FA} {x1} (h:VA X E es g):VE X E (.Tuple es x1 pos) (qe g):=PE.imp (qG2 h) fun s H Q ⟨b,r,st,S,R,P⟩ =>
 ⟨b,r,st,S,R,PostA.bind P fun ps s1 us H1 b1 e1 S1 r1 P1=>by
  split at P1
  ·rename_i hl;exact ⟨by rw [← r1.length];exact hl,fun p hp=>PostE.layT P1 S1 r1 hp⟩
  ·exact P1.elim⟩
def QP (g:FA):FL:=fun r st=>(g r st).bind fun ps s=>if ps.length≤sizeLine then .ok ps s else .no
theorem PostA.bindN {K:W.Frag} {E:XK} {H:Hp} {b:Bz} {r:Rs (List PV)} {k:List PV->qD->Rs (List PV)} {Q:VK} {R:List V->Hp->Prop} (P:PostN K E H b (r.bind k) Q)
  (h:∀ p st v H1 b1,Ext H b H1 b1->SR K H1 b1 st->RVs K H1 b1 p v->PostN K E H1 b1 (k p st) Q->R v H1):PostA K E H b r R:=by
 cases r with
 |ok p st=>exact fun v H1 b1 e S r=>h p st v H1 b1 e S r (PostN.ext (show PostN K E H b (k p st) Q from P) e)
 |ex x st=>exact P
 |no=>exact P
theorem PostE.bindN {K:W.Frag} {E:XK} {H:Hp} {b:Bz} {r:Rs PV} {k:PV->qD->Rs (List PV)} {Q:VK} {R:VK} (P:PostN K E H b (r.bind k) Q)
  (h:∀ p st v H1 b1,Ext H b H1 b1->SR K H1 b1 st->RV K H1 b1 p v->PostN K E H1 b1 (k p st) Q->R v H1):PostE K E H b r R:=by
 cases r with
 |ok p st=>exact fun v H1 b1 e S r=>h p st v H1 b1 e S r (PostN.ext (show PostN K E H b (k p st) Q from P) e)
 |ex x st=>exact P
 |no=>exact P
theorem QA {g:FA} (h:VA X E es g):VN X E (.List es pos) (QP g):=PE.imp (qHu h) fun s H Q ⟨b,r,st,S,R,P⟩ =>
 ⟨b,r,st,S,R,PostA.bindN P fun ps s1 us H1 b1 e1 S1 r1 P1=>by
  split at P1
  ·rename_i hl;exact ⟨by rw [← r1.length];exact hl,fun p hp=>PostN.lay P1 S1 r1 hp⟩
  ·exact P1.elim⟩
theorem qFk {K:W.Frag} {H:Hp} {b:Bz} {l:List PV} {xs:List V} {i:Int} {p:PV} (r:RVs K H b l xs) (h:atI l i=some p):∃ x,atI xs i=some x∧RV K H b p x:=by
 unfold atI at h ⊢;rw [← r.length];cases q:ixN l.length i with
 |none=>rw [q] at h;cases h
 |some j=>rw [q] at h;exact r.get h
def gIx:PV->PV->qD->Rs PV:=fun p q st=>match q with
 | .int i=>match zF st p with
  |some l=>match atI l i with
   |some z => .ok z st
   |none => .no
  |none => .no
 |_ => .no
theorem Qi (ha:VE X E a fa) (hb:VE X E c fb) (hs:qBS c:=by exact fun _ _=>rfl):VE X E (.Subscript a c pos) (qI gIx fa fb):=PE.imp (qJV qII ha hb hs) (j0 fun H b st p q u v Q S rp rq P=>by
 unfold gIx at P;split at P
 ·rename_i i;unfold RV at rq;split at P
  ·rename_i l e;split at P
   ·rename_i z ez;obtain ⟨x1,xs,h1,h2,h3⟩:=ZF S rp e;obtain ⟨x,h4,h5⟩:=qFk h3 ez;rcases h2 with h2 |h2
    ·exact .inl ⟨x1,xs,i,x,h1,rq,h2,h4,PostE.here P S h5⟩
    ·exact .inr (.inl ⟨x1,xs,i,x,h1,rq,h2,h4,PostE.here P S h5⟩)
   ·exact P.elim
  ·exact P.elim
 ·exact P.elim)
def qH (g:List PV->qD->Rs PV) (t:FA):FE:=fun r st=>(t r st).bind fun ps s=>g ps s
def spG (K:W.Frag) (n:Nat) (g:List PV->qD->Rs PV):Sp:=fun vs H Q E=>vs.length=n ∧ ∃ b ps st,SR K H b st∧RVs K H b ps vs∧PostE K E H b (g ps st) Q
def qG5 (X:Cx) (E:XK) (x:Str) (g:List PV->qD->Rs PV):Prop := ∀ (p pos:Pos) (e:Expr) (es:List Expr) (t:FA),VA X E (e::es) t->starEach (e::es) X.env=(false,eval e X.env)::starEach es X.env->(backTo pos (starEach es X.env)).any (·.1)=false->VE X E (.Call (.Name x p) (e::es) [] pos) (qH g t)
theorem qT {x:Str} {g:List PV->qD->Rs PV} {t:FA} {p:Pos} (hc:qG5 X E x g) (ha:VA X E (e::es) t) (he:starEach (e::es) X.env=(false,eval e X.env)::starEach es X.env:=by rfl) (hpl:(backTo pos (starEach es X.env)).any (·.1)=false:=by rfl):VE X E (.Call (.Name x p) (e::es) [] pos) (qH g t):=hc p pos e es t ha he hpl
theorem qKI {CX:CXT} {k n:Nat} {fa:Addr} {fd:FuncData} {ps:List Str} {x:Str} {g:List PV->qD->Rs PV} (F:FnOk X.prog X.w X.K X.mg X.base CX k fa fd ps (spG X.K ps.length g)) (hr:Room k X.A) (hg:Gl X x) (hm:X.mg x=some (.ref fa)) (hk:W.keepIn X.K (.ref fa)=true)
  (hb:Binds X.K fd ps []) (hx:zp CX X E) (hlen:∀ l st,g l st ≠ .no->l.length=ps.length) (hdb:(x==("__debug__":Str))=false:=by decide):qG5 X E x g:=fun p pos e es t ha he hpl =>
 PE.imp (qFN F hr hg hm hk hb .nil hx ha hdb he hpl) fun s H Q ⟨b,r,st,S,R,P⟩=>⟨b,r,st,S,R,PostA.bind P fun l s1 us H1 b1 e1 S1 r1 P1=>by
  have hne:g l s1 ≠ .no:=fun z=>by rw [z] at P1;exact P1
  rw [BP];exact ⟨by rw [← r1.length];exact hlen l s1 hne,b1,l,s1,S1,r1,P1⟩⟩
def YV (X:Cx) (E:XK) (t:List V->Hp->VK->Prop) (g:List PV->qD->Rs PV):Prop :=
 ∀ (H:Hp) (b:Bz) (st:qD) (ps:List PV) (vs:List V) (Q:VK),SR X.K H b st->RVs X.K H b ps vs->PostE X.K E H b (g ps st) Q->t vs H Q
theorem WT {x:Str} {id:String} {t:List V->Hp->VK->Prop} {g:List PV->qD->Rs PV} {ta:FA} {p:Pos} (hc:Wo X (.builtin id) t) (hG:YV X E t g) (hg:Gl X x) (hm:X.mg x=none) (hv:bootBuiltins x=some (.builtin id)) (ha:VA X E (e::es) ta) (hn:x ≠ "__name__" := by decide) (hdb:(x==("__debug__":Str))=false:=by decide)
  (he:starEach (e::es) X.env=(false,eval e X.env)::starEach es X.env:=by rfl) (hpl:(backTo pos (starEach es X.env)).any (·.1)=false:=by rfl):VE X E (.Call (.Name x p) (e::es) [] pos) (qH g ta) :=
 PE.imp (qEE hc hg hm hv ha hn hdb he hpl) fun s H Q ⟨b,r,st,S,R,P⟩=>⟨b,r,st,S,R,PostA.bind P fun l s1 us H1 b1 e1 S1 r1 P1=>hG H1 b1 s1 l us Q S1 r1 P1⟩
theorem jL {x:Str} {T:String} {t:List V->Hp->VK->Prop} {g:List PV->qD->Rs PV} {ta:FA} {p:Pos} (hc:Wo X (.type T) t) (hG:YV X E t g) (hg:Gl X x) (hm:X.mg x=none) (hv:bootBuiltins x=some (.type T)) (ha:VA X E (e::es) ta) (hn:x ≠ "__name__" := by decide) (hdb:(x==("__debug__":Str))=false:=by decide)
  (he:starEach (e::es) X.env=(false,eval e X.env)::starEach es X.env:=by rfl) (hpl:(backTo pos (starEach es X.env)).any (·.1)=false:=by rfl):VE X E (.Call (.Name x p) (e::es) [] pos) (qH g ta) :=
 PE.imp (jH hc hg hm hv ha hn hdb he hpl) fun s H Q ⟨b,r,st,S,R,P⟩=>⟨b,r,st,S,R,PostA.bind P fun l s1 us H1 b1 e1 S1 r1 P1=>hG H1 b1 s1 l us Q S1 r1 P1⟩
theorem RVs.one {K:W.Frag} {H:Hp} {b:Bz} {p:PV} {vs:List V} (h:RVs K H b [p] vs):∃ v,vs=[v]∧RV K H b p v:=by unfold RVs at h;obtain ⟨x,r,rfl,h2,h3⟩:=h;unfold RVs at h3;subst h3;exact ⟨x,rfl,h2⟩
theorem RVs.two {K:W.Frag} {H:Hp} {b:Bz} {p q:PV} {vs:List V} (h:RVs K H b [p,q] vs):∃ v w,vs=[v,w]∧RV K H b p v∧RV K H b q w:=by unfold RVs at h;obtain ⟨x,r,rfl,h2,h3⟩:=h;obtain ⟨y,rfl,h4⟩:=RVs.one h3;exact ⟨x,y,rfl,h2,h4⟩
def wB:List PV->qD->Rs PV:=fun ps st=>match ps with
 |[p]=>match zF st p with
  |some l => .ok (.int l.length) st
  |none => .no
 |_ => .no
theorem qG6:YV X E (fun xs H Q => ∃ p ys,xs=[.ref p]∧(SqL X.K H p ys∨SqT X.K H p ys)∧Q (.int ys.length) H) wB:=by
 intro H b st ps vs Q S r P;unfold wB at P;split at P
 ·rename_i p;obtain ⟨v,rfl,r1⟩:=RVs.one r;split at P
  ·rename_i l e;obtain ⟨a,xs,rfl,h2,h3⟩:=ZF S r1 e;refine ⟨a,xs,rfl,h2,?_⟩;rw [← h3.length];exact PostE.here P S Qu
  ·exact P.elim
 ·exact P.elim
def WI:List PV->qD->Rs PV:=fun ps st=>match ps with
 |[p]=>match zF st p with
  |some l => .ok (.tup l) st
  |none => .no
 |_ => .no
theorem qDE:YV X E (fun xs H Q => ∃ p ys,xs=[.ref p]∧((SqL X.K H p ys ∧ ∀ l,H l=none->Q (.ref l) (upd H l (.tup ys)))∨(SqT X.K H p ys∧Q (.ref p) H))) WI:=by
 intro H b st ps vs Q S r P;unfold WI at P;split at P
 ·rename_i p;obtain ⟨v,rfl,r1⟩:=RVs.one r;split at P
  ·rename_i l e;cases p with
   |tup m =>have e':m=l:=Ag e;subst e';have r0:=r1;unfold RV at r1;obtain ⟨a,xs,rfl,h2,h3⟩:=r1;exact ⟨a,xs,rfl,.inr ⟨h2.sq,PostE.here P S r0⟩⟩
   |lst m =>obtain ⟨a,xs,rfl,h2,h3⟩:=Q5 S r1 e;exact ⟨a,xs,rfl,.inl ⟨h2,fun p hp=>PostE.layT P S h3 hp⟩⟩
   |ref i =>obtain ⟨a,xs,rfl,h2,h3⟩:=Q5 S r1 e;exact ⟨a,xs,rfl,.inl ⟨h2,fun p hp=>PostE.layT P S h3 hp⟩⟩
   |_=>cases e
  ·exact P.elim
 ·exact P.elim
def qAo:List PV->qD->Rs PV:=fun ps st=>match ps with
 |[.int i,.int j] => .ok (.int (if j > i then j else i)) st
 |_ => .no
def yo:List PV->qD->Rs PV:=fun ps st=>match ps with
 |[.int i,.int j] => .ok (.int (if j < i then j else i)) st
 |_ => .no
theorem qIR:YV X E (fun xs H Q => ∃ i j,xs=[.int i,.int j]∧Q (.int (if j > i then j else i)) H) qAo:=by
 intro H b st ps vs Q S r P;unfold qAo at P;split at P
 ·obtain ⟨v,w,rfl,r1,r2⟩:=RVs.two r;unfold RV at r1 r2;subst r1;subst r2;exact ⟨_,_,rfl,PostE.here P S Qu⟩
 ·exact P.elim
theorem qHP:YV X E (fun xs H Q => ∃ i j,xs=[.int i,.int j]∧Q (.int (if j < i then j else i)) H) yo:=by
 intro H b st ps vs Q S r P;unfold yo at P;split at P
 ·obtain ⟨v,w,rfl,r1,r2⟩:=RVs.two r;unfold RV at r1 r2;subst r1;subst r2;exact ⟨_,_,rfl,PostE.here P S Qu⟩
 ·exact P.elim
def qGg:PV->qD->Rs (List PV):=fun p st=>match zF st p with
 |some l => .ok l st
 |none => .no
def Zd (f:FE):FL:=fun r st=>(f r st).bind qGg
theorem qGC {p:Pos} (hg:Gl X "list") (hm:X.mg "list" = none) (hv:bootBuiltins "list" = some (.type "list")) (ha:VE X E e f)
  (he:starEach [e] X.env=(false,eval e X.env)::starEach [] X.env:=by rfl) (hpl:(backTo pos (starEach [] X.env)).any (·.1)=false:=by rfl):VN X E (.Call (.Name "list" p) [e] [] pos) (Zd f) :=
 PE.imp (jH jh hg hm hv (Z1 ha Yp he) (he:=he) (hpl:=hpl)) fun s H Q ⟨b,r,st,S,R,P⟩=>⟨b,r,st,S,R,PostE.bindN P fun q s1 u H1 b1 e1 S1 r1 P1=>by
  unfold qGg at P1;split at P1
  ·rename_i l el;obtain ⟨a,xs,rfl,h2,h3⟩:=ZF S1 r1 el;exact ⟨a,xs,rfl,h2,fun p hp=>PostN.lay P1 S1 h3 hp⟩
  ·exact P1.elim⟩
end
def QL:FS:=fun r st => .nx r st
def qP (F G:FS):FS:=fun r st=>match F r st with
 | .nx r' st'=>G r' st'
 |o=>o
section
variable {X:Cx} {E:XK} {e a c d:Expr} {es:List Expr} {f fa fb fc:FE} {pos:Pos} {F G:FS} {s1:Stmt} {ss:List Stmt}
theorem QK:VSs X E [] QL:=PSs.imp qF1 fun D s H ⟨b,r,st,S,R,P⟩=>P s H b (Ext.refl _ _) S R
theorem PostS.seq {K:W.Frag} {E:XK} {H:Hp} {b:Bz} {o:RS} {G:FS} {D:Ends} (P:PostS K E H b (match o with | .nx r' st'=>G r' st' |o=>o) D):PostS K E H b o { D with nx:=rdS K E G D }:=by
 cases o with
 |nx r st=>exact fun s H' b' e S R=>⟨b',r,st,S,R,PostS.ext (show PostS K E H b (G r st) D from P) e⟩
 |rt p st=>exact P
 |bk p st=>exact P
 |ct p st=>exact P
 |ex x st=>exact P
 |no=>exact P
theorem qL (h1:VS X E s1 F) (h2:VSs X E ss G):VSs X E (s1::ss) (qP F G):=PSs.imp (qDV h1 h2) fun D s H ⟨b,r,st,S,R,P⟩=>⟨b,r,st,S,R,PostS.seq P⟩
theorem qR (h1:VS X E s1 F):VSs X E [s1] F:=qE5 h1
def zP (f:FE):FS:=fun r st=>(f r st).bindS fun _ s => .nx r s
theorem qFD (h:VE X E e f) (hs:swapsWith e none pos.line X.env=pure false:=by rfl):VS X E (.Expr e pos) (zP f):=PS.imp (qA9 h hs) fun D s H ⟨b,r,st,S,R,P⟩ =>
 ⟨b,r,st,S,R,PostE.bindS P fun p s1 u H1 b1 e1 S1 r1 P1=>P1 s H1 b1 (Ext.refl _ _) S1 (R.ext e1)⟩
def ql (f:FE):FS:=fun r st=>(f r st).bindS fun p s => .rt p s
theorem qk (h:VE X E e f):VS X E (.Return (some e) pos) (ql f):=PS.imp (qEv h) fun D s H ⟨b,r,st,S,R,P⟩ =>
 ⟨b,r,st,S,R,PostE.bindS P fun p s1 u H1 b1 e1 S1 r1 P1=>P1 u H1 b1 (Ext.refl _ _) S1 r1⟩
def Z4 (f:FL):FS:=fun r st=>(f r st).bindS fun l s => .rt (.ref s.length) (s++[.l l])
def Qc (t:FT) (F G:FS):FS:=fun r st=>(t r st).bindS fun k s=>if k=true then F r s else G r s
theorem wC {t:FT} {bs cs:List Stmt} (hc:VT X E e t) (ha:VSs X E bs F) (hb:VSs X E cs G):VS X E (.If e bs cs pos) (Qc t F G):=PS.imp (qIw hc ha hb) fun D s H ⟨b,r,st,S,R,P⟩ =>
 ⟨b,r,st,S,R,PostT.bindS P fun k s1 H1 b1 e1 S1 P1=>by
  cases k with
  |true=>exact qBs ⟨b1,r,s1,S1,R.ext e1,P1⟩
  |false=>exact qCN ⟨b1,r,s1,S1,R.ext e1,P1⟩⟩
def qY (i:Nat) (f:FE):FS:=fun r st=>(f r st).bindS fun p s => .nx (r.set i (some p)) s
theorem qi (i:Nat) {x:Str} {p':Pos} (hN:X.N.Nodup) (h:VE X E e f) (hi:X.N[i]? = some x:=by rfl) (hx:Loc X.env.scope x:=by first |exact Or.inl rfl |exact Or.inr rfl) (hs:swapsWith e (some (.Name x p')) pos.line X.env=pure false:=by rfl) (hf:X.fn x=true∨X.env.scope.names.lookup x=some .local:=by first |exact .inl rfl |exact .inr rfl |assumption) :
  VS X E (.Assign [.Name x p'] e pos) (qY i f):=PS.imp (qDZ hN hi hx h hs hf) fun D s H ⟨b,r,st,S,R,P⟩ =>
 ⟨b,r,st,S,R,PostE.bindS P fun p s1 u H1 b1 e1 S1 r1 P1=>P1 _ H1 b1 (Ext.refl _ _) S1 ((R.ext e1).set r1 i)⟩
def W8 (i:Nat) (f:FL):FS:=fun r st=>(f r st).bindS fun l s => .nx (r.set i (some (.ref s.length))) (s++[.l l])
theorem Ext.adopt {H H':Hp} {b b':Bz} {p:Addr} (e:Ext H b H' b') (hn:H p=none):Ext H b H' ⟨b'.b++[p],b'.z⟩:=by
 obtain ⟨n,hb,hh⟩:=e.more;refine ⟨⟨⟨n++[p],by rw [hb,A2],fun a ha => ?_⟩,e.zm,e.keep,e.dom⟩,e.same,e.hid,e.fz⟩
 rcases Am.mp ha with ha |ha
 ·exact hh a ha
 ·rw [Ai.mp ha];exact hn
theorem PostN.bindS {K:W.Frag} {E:XK} {H:Hp} {b:Bz} {r:Rs (List PV)} {k:PV->qD->RS} {D:Ends} {R:VK} (P:PostS K E H b (r.bindS fun l s=>k (.ref s.length) (s++[.l l])) D)
  (h:∀ q st v H1 b1,Ext H b H1 b1->SR K H1 b1 st->RV K H1 b1 q v->PostS K E H1 b1 (k q st) D->R v H1):PostN K E H b r R:=by
 cases r with
 |ok l st =>intro p xs H' b' e hn hp hz S rs;have e':=e.adopt hn;have hl:b'.b.length=st.length:=S.len;refine h (.ref st.length) (st++[.l l]) (.ref p) H' ⟨b'.b++[p],b'.z⟩ e' (S.slot (x := .l l) hz hp ⟨xs,rfl,rs⟩) ?_ (PostS.ext (show PostS K E H b (k (.ref st.length) (st++[.l l])) D from P) e');unfold RV;exact ⟨p,rfl,by show (b'.b++[p])[st.length]? = some p;rw [← hl];simp⟩
 |ex x st=>exact P
 |no=>exact P
theorem Zi (i:Nat) {f:FL} {x:Str} {p':Pos} (hN:X.N.Nodup) (h:VN X E e f) (hi:X.N[i]? = some x:=by rfl) (hx:Loc X.env.scope x:=by first |exact Or.inl rfl |exact Or.inr rfl) (hs:swapsWith e (some (.Name x p')) pos.line X.env=pure false:=by rfl) (hf:X.fn x=true∨X.env.scope.names.lookup x=some .local:=by first |exact .inl rfl |exact .inr rfl |assumption) :
  VS X E (.Assign [.Name x p'] e pos) (W8 i f):=PS.imp (qDZ hN hi hx h hs hf) fun D s H ⟨b,r,st,S,R,P⟩ =>
 ⟨b,r,st,S,R,PostN.bindS (k:=fun q s => .nx (r.set i (some q)) s) P fun p s1 u H1 b1 e1 S1 r1 P1=>P1 _ H1 b1 (Ext.refl _ _) S1 ((R.ext e1).set r1 i)⟩
theorem qBQ {f:FL} (h:VN X E e f):VS X E (.Return (some e) pos) (Z4 f):=PS.imp (qEv h) fun D s H ⟨b,r,st,S,R,P⟩ =>
 ⟨b,r,st,S,R,PostN.bindS (k:=fun q s => .rt q s) P fun p s1 u H1 b1 e1 S1 r1 P1=>P1 u H1 b1 (Ext.refl _ _) S1 r1⟩
abbrev FG:=PV->qv->Option qv
abbrev FGs:=List PV->qv->Option qv
def rdG (K:W.Frag) (g:FG):TG:=fun v s H Q => ∃ b r p st,SR K H b st∧REnv K H b r s∧RV K H b p v ∧ ∃ r',g p r=some r' ∧ ∀ s',REnv K H b r' s'->Q s' H
def qJ9 (K:W.Frag) (g:FGs):TGs:=fun v s H Q => ∃ b r p st,SR K H b st∧REnv K H b r s∧RVs K H b p v ∧ ∃ r',g p r=some r' ∧ ∀ s',REnv K H b r' s'->Q s' H
abbrev VG (X:Cx) (e:Expr) (g:FG):Prop:=PG X e (rdG X.K g)
abbrev VGs (X:Cx) (e:List Expr) (g:FGs):Prop:=PGs X e (qJ9 X.K g)
theorem PG.imp {X:Cx} {e:Expr} {t t':TG} (h:PG X e t) (i:∀ v s H Q,t' v s H Q->t v s H Q):PG X e t':=fun pins s σ H v u Q I r q=>h pins s σ H v u Q I r (i _ _ _ _ q)
theorem PGs.imp {X:Cx} {e:List Expr} {t t':TGs} (h:PGs X e t) (i:∀ v s H Q,t' v s H Q->t v s H Q):PGs X e t':=fun pins s σ H v u Q I r q=>h pins s σ H v u Q I r (i _ _ _ _ q)
def qr (i:Nat):FG:=fun p r=>some (r.set i (some p))
theorem qm (i:Nat) {x:Str} (hN:X.N.Nodup) (hi:X.N[i]? = some x:=by rfl) (hx:Loc X.env.scope x:=by first |exact Or.inl rfl |exact Or.inr rfl) (hf:X.fn x=true∨X.env.scope.names.lookup x=some .local:=by first |exact .inl rfl |exact .inr rfl |assumption):VG X (.Name x pos) (qr i) :=
 PG.imp (qFj hN hi hx hf) fun v s H Q ⟨b,r,p,st,S,R,rv,r',e,q⟩=>q _ (by cases e;exact R.set rv i)
def Zr:FGs:=fun l r=>match l with
 |[]=>some r
 |_=>none
def QX (g:FG) (gs:FGs):FGs:=fun l r=>match l with
 |p::ps=>match g p r with
  |some r'=>gs ps r'
  |none=>none
 |[]=>none
theorem WY:VGs X [] Zr:=PGs.imp qBM fun v s H Q ⟨b,r,p,st,S,R,rv,r',e,q⟩=>by
 cases p with
 |nil=>unfold RVs at rv;subst rv;cases e;exact ⟨rfl,q s R⟩
 |cons _ _=>cases e
theorem qw {g:FG} {gs:FGs} (h1:VG X e g) (h2:VGs X es gs) (hs:(assignEach (e::es) X.env).map (·.2)=assign e X.env::(assignEach es X.env).map (·.2):=by rfl):VGs X (e::es) (QX g gs) :=
 PGs.imp (yv h1 h2 hs) fun v s H Q ⟨b,r,p,st,S,R,rv,r',e,q⟩=>by
  cases p with
  |nil=>cases e
  |cons p ps =>
   unfold RVs at rv;obtain ⟨x,xr,rfl,h3,h4⟩:=rv;unfold QX at e;dsimp only at e;cases e2:g p r with
   |none=>rw [e2] at e;cases e
   |some r2 =>rw [e2] at e;exact ⟨x,xr,rfl,b,r,p,st,S,R,h3,r2,e2,fun s' R'=>⟨b,r2,ps,st,S,R',h4,r',e,q⟩⟩
def ZS (n:Nat) (gs:FGs):FG:=fun p r=>match p with
 | .tup l=>if l.length=n then gs l r else none
 |_=>none
theorem zL {k:Nat} {n:Nat} {gs:FGs} (hc:X.calm=true) (h:VGs X es gs) (hn:(assignEach es X.env).length=n:=by rfl) (hst:(assignEach es X.env).findIdx? (·.1)=none:=by rfl):VG X (.Tuple es k pos) (ZS n gs) :=
 PG.imp (qEu hc h hn hst) fun v s H Q ⟨b,r,p,st,S,R,rv,r',e,q⟩=>by
  unfold ZS at e;split at e
  ·rename_i l;split at e
   ·rename_i hl;unfold RV at rv;obtain ⟨a,xs,rfl,h2,h3⟩:=rv;exact ⟨a,xs,rfl,h2.sq,by rw [← h3.length];exact hl,b,r,l,st,S,R,h3,r',e,q⟩
   ·cases e
  ·cases e
def Ww (f:FE) (g:FG):FS:=fun r st=>(f r st).bindS fun p s=>match g p r with
 |some r' => .nx r' s
 |none => .no
theorem zy {g:FG} (h:VE X E e f) (hg:VG X d g) (hs:swapsWithSole [d] e pos.line X.env=pure false:=by rfl) (hw:swappedStores [d] e X.env=pure none:=by rfl)
  (h1:(assignEach [d] X.env).map (·.2)=[assign d X.env]:=by rfl):VS X E (.Assign [d] e pos) (Ww f g):=PS.imp (qAd h hg hs hw h1) fun D s H ⟨b,r,st,S,R,P⟩ =>
 ⟨b,r,st,S,R,PostE.bindS P fun p s1 u H1 b1 e1 S1 r1 P1=>by
  cases e2:g p r with
  |none=>rw [e2] at P1;exact P1.elim
  |some r'=>rw [e2] at P1;exact ⟨b1,r,p,s1,S1,R.ext e1,r1,r',e2,fun s' R'=>P1 s' H1 b1 (Ext.refl _ _) S1 R'⟩⟩
def JM (i j:Nat) (t:FA):FS:=fun r st=>(t r st).bindS fun l s=>match l with
 |[p,q] => .nx ((r.set i (some p)).set j (some q)) s
 |_ => .no
theorem qC1 (i j:Nat) {x y:Str} {t:FA} {px py pt:Pos} {kt k2 pt2} (hc:X.calm=true) (hN:X.N.Nodup) (ha:VA X E [a,c] t) (hw:swappedStores [.Tuple [.Name x px,.Name y py] kt pt] (.Tuple [a,c] k2 pt2) X.env=pure (some [x,y]):=by rfl)
  (hi:X.N[i]? = some x:=by rfl) (hj:X.N[j]? = some y:=by rfl) (hij:i≠j:=by decide) (hx:X.env.scope.names.lookup x=some .local:=by rfl) (hy:X.env.scope.names.lookup y=some .local:=by rfl)
  (hs:swapsWithSole [.Tuple [.Name x px,.Name y py] kt pt] (.Tuple [a,c] k2 pt2) pos.line X.env=pure false:=by rfl):VS X E (.Assign [.Tuple [.Name x px,.Name y py] kt pt] (.Tuple [a,c] k2 pt2) pos) (JM i j t) :=
 PS.imp (qHo hc hN hi hj hij hx hy ha hw hs) fun D s H ⟨b,r,st,S,R,P⟩=>⟨b,r,st,S,R,PostA.bindS P fun l s1 us H1 b1 e1 S1 r1 P1=>by
  split at P1
  ·obtain ⟨u,v,rfl,h1,h2⟩:=RVs.two r1;exact ⟨u,v,rfl,P1 _ H1 b1 (Ext.refl _ _) S1 (((R.ext e1).set h1 i).set h2 j)⟩
  ·exact P1.elim⟩
def WQ (st:qD) (o i v:PV):Option qD:=match o,i with
 | .ref n,.int k=>match st[n]? with
  |some (.l xs)=>match ixN xs.length k with
   |some j=>some (st.set n (.l (xs.set j v)))
   |none=>none
  |_=>none
 |_,_=>none
def qBX (fo fi f:FE):FS:=fun r st=>(f r st).bindS fun p s1=>(fo r s1).bindS fun o s2=>(fi r s2).bindS fun i s3=>match WQ s3 o i p with
 |some s4 => .nx r s4
 |none => .no
theorem YR {K:W.Frag} {H:Hp} {b:Bz} {st st':qD} {o i p:PV} {ov iv v:V} {Q:Hp->Prop} (S:SR K H b st) (ro:RV K H b o ov) (ri:RV K H b i iv) (rp:RV K H b p v) (e:WQ st o i p=some st')
  (q:∀ H' b',Ext H b H' b'->SR K H' b' st'->Q H'):qGT ov iv v H Q:=by
 unfold WQ at e;split at e
 ·rename_i n k;split at e
  ·rename_i xs e1;split at e
   ·rename_i j e2;cases e;unfold RV at ro ri;obtain ⟨a,rfl,ha⟩:=ro;obtain ⟨a',o',h1,h2,vs,rfl,h4⟩:=S.at_ n _ e1;rw [ha] at h1;cases h1;have hm:a∈b.b:=Ar ha;refine ⟨a,vs,k,j,rfl,ri,h2,by rw [← h4.length];exact e2,q _ b (Ext.wr hm S.zb (qFc h2)) (S.wr (x := .l (xs.set j p)) ha ⟨_,rfl,?_⟩)⟩
    have ew:Ext H b (upd H a (.lst (vs.set j v))) b:=Ext.wr hm S.zb (qFc h2);exact RVs.set (RV.ext ew p rp) j (RVs.ext ew xs h4)
   ·cases e
  ·cases e
 ·cases e
theorem qGz {fo fi:FE} {o i:Expr} {tpos:Pos} (ho:VE X E o fo) (hi:VE X E i fi) (h:VE X E e f)
  (hs:swapsWithSole [.Subscript o i tpos] e pos.line X.env=pure false:=by rfl) (hw:swappedStores [.Subscript o i tpos] e X.env=pure none:=by rfl) (h1:(assignEach [.Subscript o i tpos] X.env).map (·.2)=[assign (.Subscript o i tpos) X.env]:=by rfl)
  (ha:∀ v,assign (.Subscript o i tpos) X.env v=(do
   let ov ← holding [v] (eval o X.env);let iv ← holding [v,ov] (eval i X.env)
   standAt tpos
   holding [v,ov,iv] (setItem ov iv v)
   release [v,ov,iv] []):=by intro _;rfl):VS X E (.Assign [.Subscript o i tpos] e pos) (qBX fo fi f) :=
 PS.imp (qAd h (qAK ho hi Yo ha) hs hw h1) fun D s H ⟨b,r,st,S,R,P⟩=>⟨b,r,st,S,R,PostE.bindS P fun p s1 u H1 b1 e1 S1 r1 P1 =>
  ⟨b1,r,s1,S1,R.ext e1,PostE.bindS P1 fun o s2 ou H2 b2 e2 S2 r2 P2=>⟨b2,r,s2,S2,(R.ext e1).ext e2,PostE.bindS P2 fun i s3 iu H3 b3 e3 S3 r3 P3=>by
   split at P3
   ·rename_i s4 e4;exact YR S3 (RV.ext e3 o r2) r3 (RV.ext e3 p (RV.ext e2 p r1)) e4 fun H' b' e' S'=>P3 s H' b' e' S' ((((R.ext e1).ext e2).ext e3).ext e')
   ·exact P3.elim⟩⟩⟩
structure ItP where
 l:List PV
 G:qD->Prop
def YA (K:W.Frag) (H0:Hp) (b0:Bz) (J:It) (w:ItP):Prop := ∀ H1 b1 st1,WE H0 b0 H1 b1->SR K H1 b1 st1->w.G st1 ->
 (∀ (i:Nat) (p:PV),w.l[i]? = some p->J.go i H1 ∧ ∀ x H2,J.yld i H1 x H2->Same H1 H2∧SR K H2 b1 st1∧RV K H2 b1 p x) ∧ ∀ i,w.l.length≤i->J.stop i H1
def PostI (K:W.Frag) (E:XK) (H:Hp) (b:Bz) (r:Rs ItP) (R:It->Hp->Prop):Prop:=match r with
 | .ok w st => ∀ J H' b',Ext H b H' b'->SR K H' b' st->YA K H' b' J w->R J H'
 | .ex x st=>XP K E H b x st
 | .no=>False
abbrev FI:=qv->qD->Rs ItP
def rdI (K:W.Frag) (E:XK) (f:FI):TI:=fun s H R => ∃ b r st,SR K H b st∧REnv K H b r s∧PostI K E H b (f r st) R
abbrev VI (X:Cx) (E:XK) (tg e:Expr) (f:FI):Prop:=PI X tg e (rdI X.K E f)
theorem PostI.ext {K:W.Frag} {E:XK} {H H1:Hp} {b b1:Bz} {r:Rs ItP} {R:It->Hp->Prop} (h:PostI K E H b r R) (e:Ext H b H1 b1):PostI K E H1 b1 r R:=by
 cases r with
 |ok p st=>exact fun J H' b' e'=>h J H' b' (e.trans e')
 |ex x st=>exact XP.ext h e
 |no=>exact h
theorem PostE.bindI {K:W.Frag} {E:XK} {H:Hp} {b:Bz} {r:Rs PV} {k:PV->qD->Rs ItP} {Q:It->Hp->Prop} {R:VK} (P:PostI K E H b (r.bind k) Q)
  (h:∀ p st v H1 b1,Ext H b H1 b1->SR K H1 b1 st->RV K H1 b1 p v->PostI K E H1 b1 (k p st) Q->R v H1):PostE K E H b r R:=by
 cases r with
 |ok p st=>exact fun v H1 b1 e S r=>h p st v H1 b1 e S r (PostI.ext (show PostI K E H b (k p st) Q from P) e)
 |ex x st=>exact P
 |no=>exact P
theorem PostA.bindI {K:W.Frag} {E:XK} {H:Hp} {b:Bz} {r:Rs (List PV)} {k:List PV->qD->Rs ItP} {Q:It->Hp->Prop} {R:List V->Hp->Prop} (P:PostI K E H b (r.bind k) Q)
  (h:∀ p st v H1 b1,Ext H b H1 b1->SR K H1 b1 st->RVs K H1 b1 p v->PostI K E H1 b1 (k p st) Q->R v H1):PostA K E H b r R:=by
 cases r with
 |ok p st=>exact fun v H1 b1 e S r=>h p st v H1 b1 e S r (PostI.ext (show PostI K E H b (k p st) Q from P) e)
 |ex x st=>exact P
 |no=>exact P
def qJT (p:PV) (st:qD):Rs ItP:=match p with
 | .ref i=>match asL st (.ref i) with
  |some l => .ok ⟨l,fun s=>s[i]? = some (.l l)⟩ st
  |none => .no
 |p=>match zF st p with
  |some l => .ok ⟨l,fun _=>True⟩ st
  |none => .no
def q5 (f:FE):FI:=fun r st=>(f r st).bind qJT
theorem qHK {l tg:Expr} {tl:TE} (hl:PE X l tl):PI X tg l (fun σ H R=>tl σ H fun x H1 => ∃ a,x = .ref a∧(((∃ xs,SqL X.K H1 a xs)∧R (Itl X.K a) H1)∨((∃ xs,SqT X.K H1 a xs)∧R (Itt X.K a) H1))):=by
 intro pins s σ H R I h;refine thn (hl pins s σ H _ I h) fun v s1 ⟨x,H1,I1,r1,q1⟩ => ?_;obtain ⟨a,e,q⟩:=q1;subst e;cases r1;rcases q with ⟨⟨xs,hq⟩,q⟩ |⟨⟨xs,hq⟩,q⟩
 ·obtain ⟨its,rv,p,hz⟩:=I1.list hq;refine wpAny_pyIter_list p.isList ?_;refine ⟨s1.heap.objs.size,[s1.heap.objs.size],_,_,H1,rfl,I1.kept (t':=s1.toks) fun b o e=>AD _ e,qCI a _,⟨_,AY _ rfl,rfl,rfl⟩,fun b hb => ?_,q⟩;have e:b=s1.heap.objs.size:=by simpa using hb
  subst e;exact I1.fpOk (AG _) (I1.hok.fresh (AG _))
 ·obtain ⟨its,rv,p,hz⟩:=I1.tuple hq;refine wpAny_pyIter_tuple (show s1.heap.IsTuple a its.toArray from p) ?_;refine ⟨s1.heap.objs.size,[s1.heap.objs.size],_,_,H1,rfl,I1.kept (t':=s1.toks) fun b o e=>AD _ e,qAk a _,⟨_,AY _ rfl,rfl,rfl⟩,fun b hb => ?_,q⟩;have e:b=s1.heap.objs.size:=by simpa using hb
  subst e;exact I1.fpOk (AG _) (I1.hok.fresh (AG _))
theorem jK {K:W.Frag} {H0:Hp} {b0:Bz} {a:Addr} {l:List PV} {G:qD->Prop}
  (h:∀ H1 b1 st1,WE H0 b0 H1 b1->SR K H1 b1 st1->G st1 -> ∃ xs,SqL K H1 a xs∧RVs K H1 b1 l xs):YA K H0 b0 (Itl K a) ⟨l,G⟩:=by
 intro H1 b1 st1 e S g;obtain ⟨xs,hq,r⟩:=h H1 b1 st1 e S g;refine ⟨fun i p hp => ?_,fun i hi=>⟨xs,hq,by rw [← r.length];exact hi⟩⟩
 obtain ⟨x,hx,rx⟩:=r.get hp;exact ⟨⟨xs,x,hq,hx⟩,fun y H2 ⟨e2,hy⟩=>by
  subst e2
  have:=hy xs hq
  rw [hx] at this;cases this;exact ⟨Same.refl _,S,rx⟩⟩
theorem qEM {K:W.Frag} {H0:Hp} {b0:Bz} {a:Addr} {l:List PV} {G:qD->Prop}
  (h:∀ H1 b1 st1,WE H0 b0 H1 b1->SR K H1 b1 st1->G st1 -> ∃ xs,SqT K H1 a xs∧RVs K H1 b1 l xs):YA K H0 b0 (Itt K a) ⟨l,G⟩:=by
 intro H1 b1 st1 e S g;obtain ⟨xs,hq,r⟩:=h H1 b1 st1 e S g;refine ⟨fun i p hp => ?_,fun i hi=>⟨xs,hq,by rw [← r.length];exact hi⟩⟩
 obtain ⟨x,hx,rx⟩:=r.get hp;exact ⟨⟨xs,x,hq,hx⟩,fun y H2 ⟨e2,hy⟩=>by
  subst e2
  have:=hy xs hq
  rw [hx] at this;cases this;exact ⟨Same.refl _,S,rx⟩⟩
theorem wj {tg:Expr} (h:VE X E e f):VI X E tg e (q5 f):=fun pins s σ H R I q=>qHK h pins s σ H R I (by
 obtain ⟨b,r,st,S,RE,P⟩:=q;refine ⟨b,r,st,S,RE,PostE.bindI P fun p s1 u H1 b1 e1 S1 r1 P1 => ?_⟩;unfold qJT at P1;split at P1
 ·rename_i i;split at P1
  ·rename_i l el;have r0:=r1;unfold RV at r1;obtain ⟨a,rfl,ha⟩:=r1;obtain ⟨a',xs,e2,hq,hr⟩:=Q5 S1 r0 el;cases e2;refine ⟨a,rfl,.inl ⟨⟨xs,hq⟩,P1 _ H1 b1 (Ext.refl _ _) S1 (jK fun H2 b2 st2 e2 S2 g2 => ?_)⟩⟩;obtain ⟨a'',o,k1,k2,vs,rfl,k4⟩:=S2.at_ i _ g2;rw [e2.ix ha] at k1;cases k1;exact ⟨vs,SqL.of k2,k4⟩
  ·exact P1.elim
 ·split at P1
  ·rename_i l el;cases p with
   |tup m =>have em:m=l:=Ag el;subst em;unfold RV at r1;obtain ⟨a,xs,rfl,h2,h3⟩:=r1;exact ⟨a,rfl,.inr ⟨⟨xs,h2.sq⟩,P1 _ H1 b1 (Ext.refl _ _) S1 (qEM fun H2 b2 st2 e2 S2 _=>⟨xs,(h2.wext e2).sq,RVs.wext e2 m h3⟩)⟩⟩
   |lst m =>have em:m=l:=Ag el;subst em;unfold RV at r1;obtain ⟨a,xs,rfl,h2,h3⟩:=r1;exact ⟨a,rfl,.inl ⟨⟨xs,h2.sq⟩,P1 _ H1 b1 (Ext.refl _ _) S1 (jK fun H2 b2 st2 e2 S2 _=>⟨xs,(h2.wext e2).sq,RVs.wext e2 m h3⟩)⟩⟩
   |ref i=>rename_i hx;exact (hx i rfl).elim
   |_=>cases el
  ·exact P1.elim)
def Z7 (lo hi:Int):List PV:=(List.range (hi - lo).toNat).map fun (i:Nat)=>PV.int (lo + (i:Int))
def ju (l:List PV) (st:qD):Rs ItP:=match l with
 |[.int j]=>if -(2 ^ 62)≤j∧j < 2 ^ 62 then .ok ⟨Z7 0 j,fun _=>True⟩ st else .no
 |_ => .no
def jU (l:List PV) (st:qD):Rs ItP:=match l with
 |[.int i,.int j]=>if -(2 ^ 62)≤i∧i < 2 ^ 62 ∧ -(2 ^ 62)≤j∧j < 2 ^ 62 then .ok ⟨Z7 i j,fun _=>True⟩ st else .no
 |_ => .no
theorem Jj {K:W.Frag} {H0:Hp} {b0:Bz} {lo hi:Int}:YA K H0 b0 (Itr lo (hi - lo).toNat) ⟨Z7 lo hi,fun _=>True⟩:=by
 intro H1 b1 st1 e S g;have hl:(Z7 lo hi).length=(hi - lo).toNat:=by simp [Z7]
 refine ⟨fun i p hp => ?_,fun i hi'=>by rw [show (ItP.mk (Z7 lo hi) fun _=>True).l.length=(hi - lo).toNat from hl] at hi';exact hi'⟩
 have hi':i < (hi - lo).toNat:=by
  have:=(AS.mp hp).1
  rw [← hl];exact this
 unfold Z7 at hp;dsimp only at hp;rw [Au,List.getElem?_range hi'] at hp;cases hp;exact ⟨hi',fun x H2 ⟨e1,e2⟩=>by subst e1;subst e2;exact ⟨Same.refl _,S,Qu⟩⟩
def WC (t:FA):FI:=fun r st=>(t r st).bind ju
def Jk (t:FA):FI:=fun r st=>(t r st).bind jU
theorem wO {tg:Expr} {t:FA} {p:Pos} (hg:Gl X "range") (hm:X.mg "range" = none) (ha:VA X E [a] t) (hs:starEach [a] X.env=[(false,eval a X.env)]:=by rfl):VI X E tg (.Call (.Name "range" p) [a] [] pos) (WC t):=fun pins s σ H R I q=>qCJ hg hm ha hs pins s σ H R I (by
 obtain ⟨b,r,st,S,RE,P⟩:=q;refine ⟨b,r,st,S,RE,PostA.bindI P fun l s1 us H1 b1 e1 S1 r1 P1 => ?_⟩;unfold ju at P1;split at P1
 ·obtain ⟨u,rfl,h1⟩:=RVs.one r1;unfold RV at h1;subst h1;split at P1
  ·rename_i j hj;refine ⟨j,rfl,hj.1,hj.2,?_⟩
   have:=P1 (Itr 0 (j - 0).toNat) H1 b1 (Ext.refl _ _) S1 Jj
   rw [Int.sub_zero] at this;exact this
  ·exact P1.elim
 ·exact P1.elim)
theorem qB0 {tg:Expr} {t:FA} {p:Pos} (hg:Gl X "range") (hm:X.mg "range" = none) (ha:VA X E [a,c] t) (hs:starEach [a,c] X.env=[(false,eval a X.env),(false,eval c X.env)]:=by rfl) (hs2:starEach [c] X.env=[(false,eval c X.env)]:=by rfl):VI X E tg (.Call (.Name "range" p) [a,c] [] pos) (Jk t):=fun pins s σ H R I q=>qCD hg hm ha hs hs2 pins s σ H R I (by
 obtain ⟨b,r,st,S,RE,P⟩:=q;refine ⟨b,r,st,S,RE,PostA.bindI P fun l s1 us H1 b1 e1 S1 r1 P1 => ?_⟩;unfold jU at P1;split at P1
 ·obtain ⟨u,v,rfl,h1,h2⟩:=RVs.two r1;unfold RV at h1 h2;subst h1;subst h2;split at P1
  ·rename_i i j hj;exact ⟨i,j,rfl,hj,P1 _ H1 b1 (Ext.refl _ _) S1 Jj⟩
  ·exact P1.elim
 ·exact P1.elim)
theorem PSs.unbare {X:Cx} {st:List Stmt} {t:TS} (h:PSs X.nox st t) {pins:List (Addr×Obj)} {s:Shared} {σ:L2.St} {H:Hp} {D:Ends} {E:Value->Shared->Prop} (I:L2.Inv X pins σ H s) (q:t D σ H):wpAny (model X.prog X.w) X.A (execs st X.env) (SP X pins D) E s :=
 wpAny_noRaise (thn (h pins s σ H D (I.wish _) q) fun f s' hs=>hs.unwish)
theorem PT.unbare {X:Cx} {e:Expr} {t:TT} (h:PT X.nox e t) {pins:List (Addr×Obj)} {s:Shared} {σ:L2.St} {H:Hp} {Q:Bool->Hp->Prop} {E:Value->Shared->Prop} (I:L2.Inv X pins σ H s) (q:t σ H Q):wpAny (model X.prog X.w) X.A (isTrue e X.env (eval e X.env)) (TP X pins σ Q) E s :=
 wpAny_noRaise (thn (h pins s σ H Q (I.wish _) q) fun f s' ⟨H',I',q'⟩=>⟨H',I'.unwish,q'⟩)
theorem PG.unbare {X:Cx} {tg:Expr} {t:TG} (h:PG X.nox tg t) {pins:List (Addr×Obj)} {s:Shared} {σ:L2.St} {H:Hp} {v:V} {u:Value} {Q:L2.St->Hp->Prop} {E:Value->Shared->Prop} (I:L2.Inv X pins σ H s) (r:RelV v u) (q:t v σ H Q):wpAny (model X.prog X.w) X.A (assign tg X.env u) (fun _ s' => ∃ σ' H',L2.Inv X pins σ' H' s'∧Q σ' H') E s :=
 wpAny_noRaise (thn (h pins s σ H v u Q (I.wish _) r q) fun f s' ⟨σ',H',I',q'⟩=>⟨σ',H',I'.unwish,q'⟩)
theorem qFw {tg iter:Expr} {body:List Stmt} {wi:TI} {g:TG} {tb:TS} {pos:Pos} (hi:PI X tg iter wi) (hg:PG X.nox tg g) (hb:PSs X.nox body tb)
  (hs:∀ x,foldedSetIterable iter X.env x=pure x:=by intro _;rfl):PS X (.For tg iter body [] pos) (qKR wi g tb):=by
 intro pins s σ H D I h;refine wpAny_For (thn (hi pins s σ H _ I h) fun v s1 h1=>thn h1 fun itv s2 h2 => ?_) hs;obtain ⟨it,fp,tn,J,H2,e,I2,T,st2,f2,W,⟨m0,w0⟩,turn⟩:=h2;subst e;have stat:∀ {H':Hp},(∀ b∈fp,H' b=none) -> ∀ b∈fp,yT X pins H' b:=fun hn b hb=>⟨hn b hb,(f2 b hb).2⟩;refine codeAny_forLoop_any (fun n s' => ∃ i σ' H',L2.Inv X pins σ' H' s'∧tn i s'.heap∧(∀ b∈fp,H' b=none)∧W i n σ' H') ?_ m0 ⟨0,σ,H2,I2,st2,fun b hb=>(f2 b hb).1,w0⟩
 rintro n s3 ⟨i,σ3,H3,I3,st3,fr3,w3⟩
 rcases turn i n σ3 H3 w3 with ⟨stop,qn⟩ |⟨go,N,hN,step⟩
 ·refine thn (T.done X rfl rfl rfl rfl i pins s3 σ3 H3 _ I3 (stat fr3) st3 stop) fun r s4 ⟨hr,I4⟩ => ?_;subst hr;exact CM ⟨σ3,H3,I4,qn⟩
 ·refine thn (T.item X rfl rfl rfl rfl i pins s3 σ3 H3 _ I3 (stat fr3) st3 go) fun r s4 ⟨u,hr,h4⟩ => ?_;subst hr;refine thn h4 fun _ s5 ⟨x,H5,I5,r5,y5,st5,fr5⟩ => ?_;have I5':=I5.pinned (stat fr5) (T.obj _ _ st5);refine thn (PG.unbare hg I5' r5 (step x H5 y5)) fun _ s6 ⟨σ6,H6,I6,q6⟩ => ?_;refine thn (PSs.unbare hb I6 q6) fun f s7 q7 => ?_;have again:∀ {σ7:L2.St} {H7:Hp},L2.Inv X (pins++Ya fp s5.heap) σ7 H7 s7->N σ7 H7 -> ∃ m,m < n ∧ ∃ i σ' H',L2.Inv X pins σ' H' s7∧tn i s7.heap∧(∀ b∈fp,H' b=none)∧W i m σ' H':=fun {σ7 H7} I7 n7=>by obtain ⟨m',hm,w7⟩:=hN σ7 H7 n7;refine ⟨m',hm,i + 1,σ7,H7,I7.unpinned,T.keep _ _ _ st5 fun b hb o e=>(I7.pin (b,o) (A0 _ (A0 _ (zN hb e)))).1,fun b hb => ?_,w7⟩;obtain ⟨o,e,d⟩:=T.obj _ _ st5 b hb;exact (I7.pin (b,o) (A0 _ (A0 _ (zN hb e)))).2.1
  cases f with
  |next=>obtain ⟨σ7,H7,I7,n7⟩:=q7;exact again I7 n7
  |cont=>obtain ⟨σ7,H7,I7,n7⟩:=q7;exact again I7 n7
  |brk=>obtain ⟨σ7,H7,I7,q7⟩:=q7;exact ⟨σ7,H7,I7.unpinned,q7⟩
  |ret v=>obtain ⟨x7,σ7,H7,I7,r7,q7⟩:=q7;exact ⟨x7,σ7,H7,I7.unpinned,r7,q7⟩
theorem qB3 {c:Expr} {body:List Stmt} {tc:TT} {tb:TS} (hc:PT X.nox c tc) (hb:PSs X.nox body tb):PS X (.While c body [] pos) (qHg tc tb):=by
 intro pins s σ H D I h;obtain ⟨W,⟨m0,w0⟩,turn⟩:=h;refine wpAny_While (codeAny_whileLoop (fun n s' => ∃ σ' H',L2.Inv X pins σ' H' s'∧W n σ' H') ?_ m0 ⟨σ,H,I,w0⟩)
 rintro n s1 ⟨σ1,H1,I1,w1⟩
 refine thn (PT.unbare hc I1 (turn n σ1 H1 w1)) fun b s2 ⟨H2,I2,q2⟩ => ?_;cases b with
 |true =>
  obtain ⟨N,hN,q2⟩:=q2;rw [AF rfl];refine thn (PSs.unbare hb I2 q2) fun f s3 q3 => ?_;cases f with
  |next =>obtain ⟨σ3,H3,I3,n3⟩:=q3;obtain ⟨m',hm,w3⟩:=hN σ3 H3 n3;exact ⟨m',hm,σ3,H3,I3,w3⟩
  |cont =>obtain ⟨σ3,H3,I3,n3⟩:=q3;obtain ⟨m',hm,w3⟩:=hN σ3 H3 n3;exact ⟨m',hm,σ3,H3,I3,w3⟩
  |brk=>exact q3
  |ret v=>exact q3
 |false =>rw [AK BW];exact CM ⟨σ1,H2,I2,q2⟩
open Classical in
noncomputable def Qt (G:qD->Prop) (g:FG) (F:FS):List PV->qv->qD->RS
 |[],r,st=>if G st then .nx r st else .no
 |p::ps,r,st=>if G st then
   match g p r with
   |none => .no
   |some r1=>match F r1 st with
    | .nx r2 s2=>Qt G g F ps r2 s2
    | .ct r2 s2=>Qt G g F ps r2 s2
    | .bk r2 s2 => .nx r2 s2
    | .rt v s2 => .rt v s2
    | .ex _ _ => .no
    | .no => .no
  else .no
noncomputable def WX (fi:FI) (g:FG) (F:FS):FS:=fun r st=>(fi r st).bindS fun w s=>Qt w.G g F w.l r s
theorem PostI.bindS {K:W.Frag} {E:XK} {H:Hp} {b:Bz} {r:Rs ItP} {k:ItP->qD->RS} {D:Ends} {R:It->Hp->Prop} (P:PostS K E H b (r.bindS k) D)
  (h:∀ w st J H1 b1,Ext H b H1 b1->SR K H1 b1 st->YA K H1 b1 J w->PostS K E H1 b1 (k w st) D->R J H1):PostI K E H b r R:=by
 cases r with
 |ok p st=>exact fun J H1 b1 e S r=>h p st J H1 b1 e S r (PostS.ext (show PostS K E H b (k p st) D from P) e)
 |ex x st=>exact P
 |no=>exact P
theorem zS {tg iter:Expr} {body:List Stmt} {fi:FI} {g:FG} (hi:VI X E tg iter fi) (hg:VG X.nox tg g) (hb:VSs X.nox E0 body F) (hs:∀ x,foldedSetIterable iter X.env x=pure x:=by intro _;rfl):VS X E (.For tg iter body [] pos) (WX fi g F):=by
 refine PS.imp (qFw hi hg hb hs) fun D s H ⟨b,r,st,S,R,P⟩ => ?_;refine ⟨b,r,st,S,R,PostI.bindS P fun w st1 J H1 b1 e1 S1 it P1 => ?_⟩;refine ⟨fun i m σ' H' => ∃ b2 r2 st2,Ext H1 b1 H' b2∧SR X.K H' b2 st2∧REnv X.K H' b2 r2 σ'∧m=w.l.length + 1 - i∧i≤w.l.length∧PostS X.K E H' b2 (Qt w.G g F (w.l.drop i) r2 st2) D,⟨w.l.length + 1,b1,r,st1,Ext.refl _ _,S1,R.ext e1,by omega,A3 _,by simpa using P1⟩,?_⟩
 rintro i m σ' H' ⟨b2,r2,st2,e2,S2,R2,hm,hi',P2⟩
 by_cases hlt:i < w.l.length
 ·have hd:w.l.drop i=w.l[i]::w.l.drop (i + 1):=List.drop_eq_getElem_cons hlt;rw [hd] at P2;unfold Qt at P2;by_cases hG:w.G st2
  ·rw [AF hG] at P2;obtain ⟨h1,h2⟩:=it H' b2 st2 e2.toWE S2 hG;obtain ⟨go,yl⟩:=h1 i w.l[i] (AI hlt);refine .inr ⟨go,fun σ3 H3 => ∃ b3 r3 st3,Ext H1 b1 H3 b3∧SR X.K H3 b3 st3∧REnv X.K H3 b3 r3 σ3∧PostS X.K E H3 b3 (Qt w.G g F (w.l.drop (i + 1)) r3 st3) D,?_,?_⟩
   ·rintro σ3 H3 ⟨b3,r3,st3,k1,k2,k3,k4⟩
    exact ⟨w.l.length + 1 - (i + 1),by omega,b3,r3,st3,k1,k2,k3,rfl,hlt,k4⟩
   ·intro x H3 hx;obtain ⟨e3',S3,r3⟩:=yl x H3 hx;have e3:Ext H' b2 H3 b2:=Ext.of_same e3';cases eg:g w.l[i] r2 with
    |none=>rw [eg] at P2;exact P2.elim
    |some r4 =>
     rw [eg] at P2;refine ⟨b2,r2,w.l[i],st2,S3,R2.ext e3,r3,r4,eg,fun s4 R4=>⟨b2,r4,st2,S3,R4,?_⟩⟩;have P3:=PostS.ext P2 e3;dsimp only at P3;have e13:=e2.trans e3;cases eF:F r4 st2 with
     |nx r5 s5=>rw [eF] at P3;exact fun s6 H6 b6 e6 S6 R6=>⟨b6,r5,s5,e13.trans e6,S6,R6,PostS.ext P3 e6⟩
     |ct r5 s5=>rw [eF] at P3;exact fun s6 H6 b6 e6 S6 R6=>⟨b6,r5,s5,e13.trans e6,S6,R6,PostS.ext P3 e6⟩
     |bk r5 s5=>rw [eF] at P3;exact P3
     |rt v s5=>rw [eF] at P3;exact P3
     |ex x s5=>rw [eF] at P3;exact P3.elim
     |no=>rw [eF] at P3;exact P3.elim
  ·rw [AK hG] at P2;exact P2.elim
 ·have hl:i=w.l.length:=by omega
  subst hl;rw [List.drop_length] at P2;unfold Qt at P2;by_cases hG:w.G st2
  ·rw [AF hG] at P2;obtain ⟨h1,h2⟩:=it H' b2 st2 e2.toWE S2 hG;exact .inl ⟨h2 _ (AG _),P2 σ' H' b2 (Ext.refl _ _) S2 R2⟩
  ·rw [AK hG] at P2;exact P2.elim
def WK (c:FT) (F:FS):Nat->qv->qD->RS
 |0,_,_ => .no
 |n + 1,r,st=>match c r st with
  | .ok true s=>match F r s with
   | .nx r2 s2=>WK c F n r2 s2
   | .ct r2 s2=>WK c F n r2 s2
   | .bk r2 s2 => .nx r2 s2
   | .rt v s2 => .rt v s2
   | .ex _ _ => .no
   | .no => .no
  | .ok false s => .nx r s
  | .ex _ _ => .no
  | .no => .no
theorem qC0 (n:Nat) {body:List Stmt} {c:FT} (hc:VT X.nox E0 e c) (hb:VSs X.nox E0 body F):VS X E (.While e body [] pos) (WK c F n):=by
 refine PS.imp (qB3 hc hb) fun D s H ⟨b,r,st,S,R,P⟩ => ?_;refine ⟨fun m σ' H' => ∃ b2 r2 st2,SR X.K H' b2 st2∧REnv X.K H' b2 r2 σ'∧PostS X.K E H' b2 (WK c F m r2 st2) D,⟨n,b,r,st,S,R,P⟩,?_⟩
 rintro m σ' H' ⟨b2,r2,st2,S2,R2,P2⟩
 cases m with
 |zero=>exact P2.elim
 |succ m =>
  unfold WK at P2;refine ⟨b2,r2,st2,S2,R2,?_⟩;cases ec:c r2 st2 with
  |no=>rw [ec] at P2;exact P2.elim
  |ex x s3=>rw [ec] at P2;exact P2.elim
  |ok k s3 =>
   rw [ec] at P2;intro H3 b3 e3 S3;cases k with
   |false=>exact qCN (P2 σ' H3 b3 e3 S3 (R2.ext e3))
   |true =>
    refine qBs ⟨fun σ4 H4 => ∃ b4 r4 st4,SR X.K H4 b4 st4∧REnv X.K H4 b4 r4 σ4∧PostS X.K E H4 b4 (WK c F m r4 st4) D,fun σ4 H4 h4=>⟨m,Nat.lt_succ_self m,h4⟩,b3,r2,s3,S3,R2.ext e3,?_⟩;have P3:=PostS.ext P2 e3;dsimp only at P3;cases eF:F r2 s3 with
    |nx r5 s5=>rw [eF] at P3;exact fun s6 H6 b6 e6 S6 R6=>⟨b6,r5,s5,S6,R6,PostS.ext P3 e6⟩
    |ct r5 s5=>rw [eF] at P3;exact fun s6 H6 b6 e6 S6 R6=>⟨b6,r5,s5,S6,R6,PostS.ext P3 e6⟩
    |bk r5 s5=>rw [eF] at P3;exact P3
    |rt v s5=>rw [eF] at P3;exact P3
    |ex x s5=>rw [eF] at P3;exact P3.elim
    |no=>rw [eF] at P3;exact P3.elim
end
theorem QS {x n:Str} {a c:Addr} {r:List (Str×Addr)} (h:List.lookup x ((n,a)::r)=some c):(x=n∧a=c)∨(x≠n∧List.lookup x r=some c):=by
 rw [Ax] at h;cases hb:x==n with
 |true=>rw [hb] at h;exact .inl ⟨BF.mp hb,Ag h⟩
 |false=>rw [hb] at h;exact .inr ⟨fun z=>(by rw [BF.mpr z] at hb;cases hb),h⟩
theorem Q1 {x:Str} {c:Addr}:∀ {names:List (Str×NameKind)} {n:Nat} {acc:List (Str×Addr)},(cellsFrom n names acc).lookup x=some c->(n≤c∧(x,NameKind.cell)∈names)∨acc.lookup x=some c
 |[],_,_,h => .inr h
 |(nm,k)::r,n,acc,h=>by
  unfold cellsFrom at h;split at h
  ·rename_i hk;have hk':k = .cell:=by simpa using hk
   rcases Q1 h with ⟨h1,h2⟩ |h1
   ·exact .inl ⟨Nat.le_of_succ_le h1,AE _ h2⟩
   ·rcases QS h1 with ⟨e1,e2⟩ |⟨_,e2⟩
    ·exact .inl ⟨Nat.le_of_eq e2,by rw [e1,hk'];exact AL⟩
    ·exact .inr e2
  ·rcases Q1 h with ⟨h1,h2⟩ |h1
   ·exact .inl ⟨h1,AE _ h2⟩
   ·exact .inr h1
theorem W7 {x:Str} {c:Addr} {n0:Nat}:∀ {names:List (Str×NameKind)} {n:Nat} {acc:List (Str×Addr)},n0≤n->((∃ a,acc.lookup x=some a∧n0≤a)∨(x,NameKind.cell)∈names)->(cellsFrom n names acc).lookup x=some c->n0≤c
 |[],_,acc,_,h,e=>by
  rcases h with ⟨a,h1,h2⟩ |h
  ·have:acc.lookup x=some c:=e
   rw [h1] at this;cases this;exact h2
  ·exact absurd h (by simp)
 |(nm,k)::r,n,acc,hn,h,e=>by
  unfold cellsFrom at e;split at e
  ·rename_i hk;refine W7 (n:=n + 1) (Nat.le_succ_of_le hn) ?_ e;by_cases hx:x=nm
   ·exact .inl ⟨n,by rw [Ax,hx,Ay],hn⟩
   ·rcases h with ⟨a,h1,h2⟩ |h
    ·exact .inl ⟨a,by rw [Ax,Bj hx];exact h1,h2⟩
    ·rcases AJ.mp h with q |q
     ·exact absurd (CK q).1 hx
     ·exact .inr q
  ·rename_i hk;refine W7 hn ?_ e;rcases h with h |h
   ·exact .inl h
   ·rcases AJ.mp h with q |q
    ·exact absurd (by rw [← (CK q).2];rfl) hk
    ·exact .inr q
theorem W4 {x y:Str} {c:Addr}:∀ {names:List (Str×NameKind)} {n:Nat} {acc:List (Str×Addr)},(∀ z a,acc.lookup z=some a->a < n)->(cellsFrom n names acc).lookup x=some c->(cellsFrom n names acc).lookup y=some c ->
  x=y∨(acc.lookup x=some c∧acc.lookup y=some c)
 |[],_,_,_,h1,h2 => .inr ⟨h1,h2⟩
 |(nm,k)::r,n,acc,hb,h1,h2=>by
  unfold cellsFrom at h1 h2;split at h1
  ·rename_i hk;rw [AF hk] at h2;have hb':∀ z a,List.lookup z ((nm,n)::acc)=some a->a < n + 1:=fun z a h=>by
    rcases QS h with ⟨_,e⟩ |⟨_,e⟩
    ·rw [← e];exact Nat.lt_succ_self _
    ·exact BJ (hb z a e)
   rcases W4 hb' h1 h2 with e |⟨e1,e2⟩
   ·exact .inl e
   ·rcases QS e1 with ⟨p1,p2⟩ |⟨p1,p2⟩ <;> rcases QS e2 with ⟨q1,q2⟩ |⟨q1,q2⟩
    ·exact .inl (p1.trans q1.symm)
    ·exact absurd (hb y c q2) (by rw [← p2];exact BI _)
    ·exact absurd (hb x c p2) (by rw [← q2];exact BI _)
    ·exact .inr ⟨p2,q2⟩
  ·rename_i hk;rw [AK hk] at h2;exact W4 hb h1 h2
theorem WM {x:Str}:∀ {names:List (Str×NameKind)} {n:Nat} {acc:List (Str×Addr)},((∃ a,acc.lookup x=some a)∨(x,NameKind.cell)∈names) -> ∃ c,(cellsFrom n names acc).lookup x=some c
 |[],_,_,h=>h.elim (fun h=>h) fun h=>absurd h (by simp)
 |(nm,k)::r,n,acc,h=>by
  unfold cellsFrom;split
  ·rename_i hk;refine WM ?_;by_cases hx:x=nm
   ·exact .inl ⟨n,by rw [Ax,hx,Ay]⟩
   ·rcases h with ⟨a,h1⟩ |h
    ·exact .inl ⟨a,by rw [Ax,Bj hx];exact h1⟩
    ·rcases AJ.mp h with q |q
     ·exact absurd (CK q).1 hx
     ·exact .inr q
  ·rename_i hk;refine WM ?_;rcases h with h |h
   ·exact .inl h
   ·rcases AJ.mp h with q |q
    ·exact absurd (by rw [← (CK q).2];rfl) hk
    ·exact .inr q
theorem Wq {x:Str} {c:Addr}:∀ {names:List (Str×NameKind)} {h:Heap} {acc:List (Str×Addr)},(cellsFrom h.objs.size names acc).lookup x=some c->(∃ o,acc.lookup x=some c∧o=())∨(pushCells h names).IsCell c none
 |[],_,_,e => .inl ⟨(),e,rfl⟩
 |(nm,k)::r,h,acc,e=>by
  unfold cellsFrom at e;unfold pushCells;split at e
  ·rename_i hk;rw [AF hk];have e':(cellsFrom (h.push { cls := .type "cell",data := .cell none }).objs.size r ((nm,h.objs.size)::acc)).lookup x=some c:=by rw [B5];exact e
   rcases Wq e' with ⟨_,q,_⟩ |q
   ·rcases QS q with ⟨_,e2⟩ |⟨_,e2⟩
    ·subst e2;exact .inr ⟨_,pushCells_keeps _ _ _ _ (AY _ rfl),rfl⟩
    ·exact .inl ⟨(),e2,rfl⟩
   ·exact .inr q
  ·rename_i hk;rw [AK hk];exact Wq e
def clF (env:Env):List (Str×NameKind)->List (Str×Addr)->List (Str×Addr)
 |[],acc=>acc
 |(n,k)::r,acc=>if k == .free then clF env r ((n,(env.cells.lookup n).getD 0)::acc) else clF env r acc
theorem qD9 {env:Env} (f:Str×NameKind->List (Str×Addr)->Sem (ForInStep (List (Str×Addr))))
  (hf:∀ n k acc,f (n,k) acc=if k == .free then (do let a ← cellOf env n;pure (.yield ((n,a)::acc))) else pure (.yield acc)) :
  ∀ (names:List (Str×NameKind)) (acc:List (Str×Addr)),(∀ x∈names,x.2 = .free -> ∃ c,env.cells.lookup x.1=some c)->forIn names acc f=(pure (clF env names acc):Sem _)
 |[],acc,_=>by rw [List.forIn_nil];rfl
 |(n,k)::r,acc,h=>by
  rw [List.forIn_cons,hf];unfold clF;have ih:=fun a=>qD9 f hf r a fun x hx=>h x (AE _ hx);split
  ·rename_i hk;have hk':k = .free:=by simpa using hk
   obtain ⟨c,e⟩:=h (n,k) AL hk';have ec:cellOf env n=pure c:=by unfold cellOf;rw [show env.cells.lookup n=some c from e]
   rw [ec];simp only [pure_bind];rw [ih,show env.cells.lookup n=some c from e];rfl
  ·simp only [pure_bind];exact ih acc
theorem qA6 {scope:Scope} {env:Env} (h:∀ x∈scope.names,x.2 = .free -> ∃ c,env.cells.lookup x.1=some c):closureFor scope env=pure (clF env scope.names []):=by
 unfold closureFor;dsimp only;rw [qD9 _ (fun n k acc=>by cases hk:k==NameKind.free <;> simp [hk]) _ _ h]
 rfl
theorem y0 {env:Env} {x:Str} {c:Addr}:∀ {names:List (Str×NameKind)} {acc:List (Str×Addr)},(∀ y∈names,y.2 = .free -> ∃ c,env.cells.lookup y.1=some c)->(clF env names acc).lookup x=some c->env.cells.lookup x=some c∨acc.lookup x=some c
 |[],_,_,e => .inr e
 |(n,k)::r,acc,h,e=>by
  unfold clF at e;have h':=fun y hy=>h y (AE _ hy);split at e
  ·rename_i hk;have hk':k = .free:=by simpa using hk
   obtain ⟨a,ea⟩:=h (n,k) AL hk';rcases y0 h' e with q |q
   ·exact .inl q
   ·rcases QS q with ⟨e1,e2⟩ |⟨_,e2⟩
    ·rw [show env.cells.lookup n=some a from ea] at e2;exact .inl (by rw [e1,show env.cells.lookup n=some a from ea];exact CP some e2)
    ·exact .inr e2
  ·exact y0 h' e
theorem ye {env:Env} {x:Str}:∀ {names:List (Str×NameKind)} {acc:List (Str×Addr)},((x,NameKind.free)∈names ∨ ∃ a,acc.lookup x=some a) -> ∃ c,(clF env names acc).lookup x=some c
 |[],_,h=>h.elim (fun h=>absurd h (by simp)) fun h=>h
 |(n,k)::r,acc,h=>by
  unfold clF;split
  ·refine ye ?_;by_cases hx:x=n
   ·exact .inr ⟨_,by rw [Ax,hx,Ay]⟩
   ·rcases h with h |⟨a,h⟩
    ·rcases AJ.mp h with q |q
     ·exact absurd (CK q).1 hx
     ·exact .inl q
    ·exact .inr ⟨a,by rw [Ax,Bj hx];exact h⟩
  ·rename_i hk;refine ye ?_;rcases h with h |h
   ·rcases AJ.mp h with q |q
    ·exact absurd (by rw [← (CK q).2];rfl) hk
    ·exact .inl q
   ·exact .inr h
def qJt (X:Cx) (scope:Scope) (C:Addr):Env :=
 { scope:=relabel scope X.env,locals:=C,globals:=X.env.globals,cells:=cellsFrom (C + 1) scope.names (clF X.env scope.names []),qual:=X.env.qual,func:=none,code:=X.env.code,frame:=X.env.frame,builtins:=X.env.builtins }
def cCx (X:Cx) (scope:Scope) (N:List Str) (s:Shared) (H:Hp) (fp:List Addr) (pn:List (Addr×Obj)):Cx where
 prog:=X.prog
 w:=X.w
 K:=X.K
 mg:=X.mg
 base:=X.base
 A:=X.A
 N:=N
 s₀:=s
 H₀:=H
 env:=qJt X scope s.heap.objs.size
 outer:=X.stack
 stack:=X.stack
 ex:=fp
 fn:=fun x=>scope.names.lookup x==some .cell
 calm:=X.calm
 pn:=pn
 xe:=fun _ _=>False
structure CSc (X:Cx) (scope:Scope) (capN locN:List Str) (caps:List Nat):Prop where
 kind:scope.kind = .function
 nd:(scope.names.map (·.1)).Nodup
 fr:∀ x∈scope.names,x.2 = .free->(X.env.kindOf x.1=some .cell∨X.env.kindOf x.1=some .free)
 len:capN.length=caps.length
 cap:∀ (i:Nat) (x:Str) (j:Nat),capN[i]? = some x->caps[i]? = some j->X.N[j]? = some x∧(x,NameKind.free)∈scope.names
theorem zJ {x:Str} {k:NameKind}:∀ {names:List (Str×NameKind)},(names.map (·.1)).Nodup->(x,k)∈names->names.lookup x=some k
 |(n,k')::r,nd,h=>by
  rw [Aj,BE] at nd;rw [Ax];rcases AJ.mp h with q |q
  ·obtain ⟨rfl,rfl⟩:=CK q;rw [Ay]
  ·have hne:x≠n:=fun z=>nd.1 (by rw [← z];exact AX.mpr ⟨(x,k),q,rfl⟩)
   rw [Bj hne];exact zJ nd.2 q
theorem w5 {env:Env} {x:Str}:∀ {names:List (Str×NameKind)},
  (names.map fun (n,k)=>if (k==NameKind.free&&env.scope.kind == .function&&env.kindOf n==some .cell) then (n,NameKind.cell) else (n,k)).lookup x=(names.lookup x).map fun k=>if (k==NameKind.free&&env.scope.kind == .function&&env.kindOf x==some .cell) then NameKind.cell else k
 |[]=>rfl
 |(n,k)::r=>by
  rw [Aj,Ax];show List.lookup x ((if (k==NameKind.free&&env.scope.kind == .function&&env.kindOf n==some .cell)=true then (n,NameKind.cell) else (n,k))::_)=_;cases hx:x==n with
  |true =>
   have hx':x=n:=BF.mp hx;subst hx';by_cases hc:(k==NameKind.free&&env.scope.kind == .function&&env.kindOf x==some .cell)=true
   ·rw [AF hc];simp only [Ax,Ay,Option.map_some];rw [AF hc]
   ·rw [AK hc];simp only [Ax,Ay,Option.map_some];rw [AK hc]
  |false =>
   by_cases hc:(k==NameKind.free&&env.scope.kind == .function&&env.kindOf n==some .cell)=true
   ·rw [AF hc];simp only [Ax,hx];exact w5
   ·rw [AK hc];simp only [Ax,hx];exact w5
theorem qA8 {X:Cx} {scope:Scope} {capN locN:List Str} {caps:List Nat} (cs:CSc X scope capN locN caps) {pins:List (Addr×Obj)} {σ:L2.St} {H:Hp} {s s4:Shared} {fp:List Addr} (I:L2.Inv X pins σ H s) (hf:∀ b∈fp,yT X pins H b) (hlt:∀ b∈fp,b < s.heap.objs.size)
  (h4:s4={ s with heap:=pushCells (s.heap.push { cls := .type "dict",data := .dict #[] }) scope.names }) :
  L2.Inv (cCx X scope (capN++locN) s H fp (X.pn++pins)) [] ((caps.map fun j=>(σ[j]?).join)++List.replicate locN.length none) H s4:=by
 have hfree:∀ x∈scope.names,x.2 = .free -> ∃ c,X.env.cells.lookup x.1=some c:=fun x hx hk=>I.ok.has x.1 (cs.fr x hx hk);have keep:∀ b o,s.heap.get? b=some o->s4.heap.get? b=some o:=fun b o e=>by subst h4;exact pushCells_keeps _ _ _ _ (AD _ e)
 have clook:∀ x c,(clF X.env scope.names []).lookup x=some c->X.env.cells.lookup x=some c:=fun x c e=>(y0 hfree e).elim (fun q=>q) fun q=>by cases q
 have clt:∀ x c,(clF X.env scope.names []).lookup x=some c->c < s.heap.objs.size:=fun x c e=>by obtain ⟨v,q⟩:=I.cell x c (clook x c e);exact q.lt
 have cases':∀ x c,(cellsFrom (s.heap.objs.size + 1) scope.names (clF X.env scope.names [])).lookup x=some c->(s.heap.objs.size + 1≤c)∨(c < s.heap.objs.size∧X.env.cells.lookup x=some c):=fun x c e=>by
  rcases Q1 e with ⟨q,_⟩ |q
  ·exact .inl q
  ·exact .inr ⟨clt x c q,clook x c q⟩
 have isfree:∀ x,(X.env.kindOf x=some .cell∨X.env.kindOf x=some .free)->True:=fun _ _=>trivial;refine ⟨⟨I.ok.mod,cs.kind,I.ok.glob,I.ok.blt,AG _,fun x y c h1 h2 => ?_,fun x hx => ?_,fun x c hx e => ?_,I.ok.hd,I.ok.frames,.inl rfl,fun b hb=>⟨Ac (hlt b hb),fun x c e => ?_⟩,fun b o e=>I.bs b o e,Aa I.ok.bsz I.sz,fun b o e hb => ?_,fun b hb hm => ?_,I.stack,I.stkFree⟩,
  by subst h4;rfl,by subst h4;exact I.bare,Un.kept keep,?_,fun x c e => ?_,I.hok.fresh (AG _),fun x c e => ?_,fun p hp => ?_,I.hok.kept keep,?_,I.hnd⟩
 ·rcases W4 (fun z a e=>BJ (clt z a e)) h1 h2 with e |⟨e1,e2⟩
  ·exact e
  ·exact I.ok.inj x y c (clook x c e1) (clook y c e2)
 ·refine WM ?_;have hx':(relabel scope X.env).names.lookup x=some .cell∨(relabel scope X.env).names.lookup x=some .free:=hx;have e:(relabel scope X.env).names.lookup x=(scope.names.lookup x).map fun k=>if (k==NameKind.free&&X.env.scope.kind == .function&&X.env.kindOf x==some .cell) then NameKind.cell else k:=w5;rw [e] at hx';cases q:scope.names.lookup x with
  |none=>rw [q] at hx';rcases hx' with z |z <;> cases z
  |some k =>
   rw [q] at hx';have hm:=BS q;by_cases hk:k = .free
   ·subst hk;exact .inl (ye (.inl hm))
   ·have hkf:(k==NameKind.free)=false:=by simpa using hk
    simp only [Option.map_some,hkf,Bool.false_and,Az,BU] at hx';rcases hx' with z |z
    ·cases z;exact .inr hm
    ·cases z;exact absurd rfl hk
 ·have hx':scope.names.lookup x=some .cell:=by simpa [cCx] using hx
  exact Nat.le_of_succ_le (W7 (n0:=s.heap.objs.size + 1) (AG _) (.inr (BS hx')) e)
 ·rcases cases' x c e with q |⟨q,q'⟩
  ·exact fun z=>by rw [z] at q;exact absurd (hlt b hb) (Nat.not_lt.mpr (Nat.le_of_succ_le q))
  ·exact (hf b hb).2.2.2.2.1 x c q'
 ·obtain ⟨_,_,_,h3,_⟩:=hf b hb;rcases h3 with q |q
  ·exact I.ok.noex b o e q
  ·exact absurd (AT e) (Nat.not_lt.mpr (Aa I.ok.bsz q))
 ·obtain ⟨_,h1,h2,_⟩:=hf b hb;exact (AJ.mp (I.stkSub b hm)).elim h1 h2
 ·refine ⟨fun _=>none,?_,fun i x v e1 e2 e3 => ?_⟩
  ·subst h4;exact (Heap.Ns.new s.heap (.type "dict")).keeps (pushCells_keeps _ _)
  ·have hi:i < caps.length:=by
    by_cases hi:i < caps.length
    ·exact hi
    ·rw [Ap (by simpa using hi),Bd] at e2
     split at e2 <;> cases e2
   rw [Af (by simpa using hi),Au] at e2
   have e1':(capN++locN)[i]? = some x:=e1;rw [Af (by rw [cs.len];exact hi)] at e1'
   cases ej:caps[i]? with
   |none=>rw [ej] at e2;cases e2
   |some j =>
    rw [ej] at e2;obtain ⟨k1,k2⟩:=cs.cap i x j e1' ej;have e2':σ[j]? = some (some v):=by
     have e2'':(σ[j]?).join=some v:=Ag e2;cases q:σ[j]? with
     |none=>rw [q] at e2'';cases e2''
     |some o=>rw [q] at e2'';exact CP some e2''
    have hk:=cs.fr _ k2 rfl;obtain ⟨m,hn,hl⟩:=I.loc;obtain ⟨u,ru,lu⟩:=hl j x v k1 e2' (hk.elim (fun z => .inr (.inl z)) fun z => .inr (.inr z));refine ⟨u,ru,.inr ?_⟩;have hc:∃ c,X.env.cells.lookup x=some c∧s.heap.IsCell c (some u):=by
     rcases lu with ⟨z,_⟩ |⟨_,z⟩
     ·rcases hk with y |y <;> · rw [z] at y;cases y
     ·exact z
    obtain ⟨c,c1,c2⟩:=hc;obtain ⟨c',e'⟩:=ye (env:=X.env) (acc:=[]) (.inl k2);have e2:=clook x c' e';rw [c1] at e2;cases e2;have hlk:scope.names.lookup x=some .free:=zJ cs.nd k2;refine ⟨?_,c,?_,c2.keeps keep⟩
    ·show (relabel scope X.env).names.lookup x=some .cell∨(relabel scope X.env).names.lookup x=some .free;have e:(relabel scope X.env).names.lookup x=(scope.names.lookup x).map fun k=>if (k==NameKind.free&&X.env.scope.kind == .function&&X.env.kindOf x==some .cell) then NameKind.cell else k:=w5;rw [e,hlk];simp only [Option.map_some];split
     ·exact .inl rfl
     ·exact .inr rfl
    ·obtain ⟨d,hd⟩:=WM (names:=scope.names) (n:=s.heap.objs.size + 1) (acc:=clF X.env scope.names []) (x:=x) (.inl ⟨c,e'⟩);rcases Q1 hd with ⟨q,q'⟩ |q
     ·have:=zJ cs.nd q'
      rw [hlk] at this;cases this
     ·rw [e'] at q;cases q;exact hd
 ·rcases Q1 e with ⟨q,_⟩ |q
  ·have e':(cellsFrom (s.heap.push { cls := .type "dict",data := .dict #[] }).objs.size scope.names (clF X.env scope.names [])).lookup x=some c:=by rw [B5];exact e
   rcases Wq e' with ⟨_,z,_⟩ |z
   ·obtain ⟨v,y⟩:=I.cell x c (clook x c z);exact ⟨v,y.keeps keep⟩
   ·subst h4;exact ⟨none,z⟩
  ·obtain ⟨v,y⟩:=I.cell x c (clook x c q);exact ⟨v,y.keeps keep⟩
 ·rcases cases' x c e with q |⟨q,q'⟩
  ·exact I.hok.fresh (Nat.le_of_succ_le q)
  ·exact I.freeC x c q'
 ·have hp':p∈X.pn++pins:=by simpa [cCx] using hp
  obtain ⟨k1,k2,k3,k4,k5⟩:=I.pin p hp';exact ⟨keep _ _ k1,k2,Ac (AT k1),fun z=>(AJ.mp (I.stkSub p.1 z)).elim k3 k4,k5⟩
 ·show ((caps.map fun j=>(σ[j]?).join)++List.replicate locN.length none).length=(capN++locN).length;rw [AQ,AC,List.length_replicate,AQ,cs.len]
theorem qEF {X:Cx} {scope:Scope} {N:List Str} {pins:List (Addr×Obj)} {σ σ':L2.St} {H H':Hp} {s s':Shared} {h'':Heap} {fp:List Addr} (I:L2.Inv X pins σ H s) (hf:∀ b∈fp,yT X pins H b)
  (J:L2.Inv (cCx X scope N s H fp (X.pn++pins)) [] σ' H' s') (sb:Heap.SameBut s.heap.objs.size s'.heap h''):L2.Inv X pins σ H' { s' with heap:=h'' }:=by
 have hos:s'.os=s.os:=J.os;have hC:∀ b o,s.heap.get? b=some o->b≠s.heap.objs.size:=fun b o e=>Ac (AT e);have u:Un (frs X.stack) fp H H' s.heap h'':=by have u0:=J.base;exact ⟨fun b o e n h1 h2=>sb.extBut b o (hC b o e) (u0.keep b o e n h1 h2),fun b o e n h1 h2=>(u0.slot b o e n h1 h2).elim fun sl q=>⟨sl,sb.extBut b _ (hC b o e) q⟩,u0.free,fun b o e h2=>(u0.there b o e h2).elim fun o' q=>⟨o',sb.extBut b o' (hC b o e) q⟩,u0.tups,u0.frzs,u0.tbls⟩
 have hok:HOk X.prog X.w H' h'':=fun a o e=>by
  refine (J.hok a o e).stay (fun b v hb q=>sb.extBut b v ?_ q) (fun _ q=>q) fun _ _ q=>q;have hn:H' s.heap.objs.size=none:=J.free;rcases hb with z |z
  ·rw [z];exact qV e hn
  ·exact qV z hn
 obtain ⟨hh,g,d,t,os'⟩:=s';obtain rfl:os'=s.os:=hos;have fin:=L2.Inv.call (s:=s) (h':=h'') (g':=g) (d':=d) (t':=t) (ch:=fp) I u hok J.bare fun b hb=>by obtain ⟨k0,k1,k2,k3,k4,k5⟩:=hf b hb;exact ⟨k3,k1,k4,k5⟩
 exact fin
theorem Yq {elt:Expr} {gens:List Comprehension} {scope:Scope} {pos:Pos} {d:Nat} {it acc:Value} {env:Env} {g:Comprehension} (hg:gens[d]? = some g) (ha:g.is_async=0) (hn:gens[d + 1]? = none) :
  compTurn (.ListComp elt gens scope pos) d it acc env=(standAt g.iter.pos >>= fun _=>pyNext it >>= fun r=>match r with
   |none=>pure (.done .next)
   |some v=>letOwnedTupleGo g.target it v >>= fun _=>assign g.target env v >>= fun _ =>
    (forIn g.ifs true fun c r=>if r=true then do let ok ← isTrue c env (eval c env);pure (ForInStep.yield ok) else pure (ForInStep.yield r)) >>= fun ok =>
    if ok=true then (eval elt env >>= fun x=>call (.builtin "list.append") [acc,x] >>= fun _=>pure ()) >>= fun _=>again (.compLoop (.ListComp elt gens scope pos) d it acc env)
    else again (.compLoop (.ListComp elt gens scope pos) d it acc env)):=by unfold compTurn;dsimp only;rw [hg];dsimp only;rw [hn,ha];rfl
theorem Yx {elt:Expr} {gens:List Comprehension} {scope:Scope} {pos:Pos} {d:Nat} {it acc:Value} {env:Env} {g g':Comprehension} (hg:gens[d]? = some g) (ha:g.is_async=0) (hn:gens[d + 1]? = some g') (ha':g'.is_async=0) :
  compTurn (.ListComp elt gens scope pos) d it acc env=(standAt g.iter.pos >>= fun _=>pyNext it >>= fun r=>match r with
   |none=>pure (.done .next)
   |some v=>letOwnedTupleGo g.target it v >>= fun _=>assign g.target env v >>= fun _ =>
    (forIn g.ifs true fun c r=>if r=true then do let ok ← isTrue c env (eval c env);pure (ForInStep.yield ok) else pure (ForInStep.yield r)) >>= fun ok =>
    if ok=true then (eval g'.iter env >>= fun x=>standAt g'.iter.pos >>= fun _=>foldedSetIterable g'.iter env x >>= fun x=>holding [x] (pyIter x) >>= fun it'=>runOwn (.compStart (.ListComp elt gens scope pos) (d + 1) it' acc env) env >>= fun _=>again (.compLoop (.ListComp elt gens scope pos) d it acc env))
    else again (.compLoop (.ListComp elt gens scope pos) d it acc env)):=by unfold compTurn;dsimp only;rw [hg];dsimp only;rw [hn,ha];dsimp only;rw [ha'];rfl
theorem Zg {prog:Program} {w:World} {A:Around} {R:Result->Shared->Prop} {s:Shared} {elt:Expr} {gens:List Comprehension} {scope:Scope} {pos:Pos} {d:Nat} {it acc:Value} {env:Env} {g:Comprehension} (hg:gens[d]? = some g) (ha:g.is_async=0)
  (h0:codeAny (model prog w) A (.compLoop (.ListComp elt gens scope pos) d it acc env) R s)
  (h:wpAny (model prog w) A (pyIter it) (fun it' s'=>codeAny (model prog w) A (.compLoop (.ListComp elt gens scope pos) d it' acc env) R s') (notedBy (model prog w) A env fun x s'=>R (.error x) s') s) :
  codeAny (model prog w) A (.compStart (.ListComp elt gens scope pos) d it acc env) R s:=by
 refine codeAny_of_tree ?_;show wpAny _ _ ((compStart (.ListComp elt gens scope pos) d it acc env).onRaise (fun x=>do noteFrame x env;standAt theWindowsPlace)) _ _ s;refine wpAny_notedAt ?_;unfold compStart;have e1:(clausesOf (.ListComp elt gens scope pos))[d]? = some g:=hg;rw [e1];simp only [Option.elim_some,ha];refine AA (wpAny_askSetting (wpAny_ite ?_));split
 ·exact AA (AB (AB (And.intro rfl h0)))
 ·exact AA (wpAny_rule (AA (CV (AA (BZ h (fun it' s' h'=>AB (And.intro rfl h')) fun _ _ x=>x)))))
structure GenF where
 fi:FI
 g:FG
 ts:List FT
def wT:List FT->FT
 |[],_,st => .ok true st
 |t::ts,r,st=>(t r st).bind fun k s=>if k=true then wT ts r s else .ok false s
open Classical in
noncomputable def qz (G:qD->Prop) (k:PV->qD->Rs (List PV)):List PV->qD->Rs (List PV)
 |[],st=>if G st then .ok [] st else .no
 |p::ps,st=>if G st then (k p st).bind fun l s=>(qz G k ps s).bind fun m s' => .ok (l++m) s' else .no
def Qd (g:GenF) (rest:FL) (r:qv) (p:PV) (s:qD):Rs (List PV):=match g.g p r with
 |none => .no
 |some r'=>(wT g.ts r' s).bind fun k s1=>if k=true then rest r' s1 else .ok [] s1
noncomputable def Q7:List GenF->FE->FL
 |[],f=>fun r st=>(f r st).bind fun p s => .ok [p] s
 |g::gs,f=>fun r st=>(g.fi r st).bind fun w s=>qz w.G (Qd g (Q7 gs f) r) w.l s
def Le (r r':qv):Prop:=r.length=r'.length ∧ ∀ (i:Nat) (p:PV),r[i]? = some (some p)->r'[i]? = some (some p)
theorem REnv.le {K:W.Frag} {H:Hp} {b:Bz} {r r':qv} {s:L2.St} (h:REnv K H b r' s) (l:Le r r'):REnv K H b r s:=⟨l.1.trans h.1,fun i p e=>h.2 i p (l.2 i p e)⟩
def qGS (g:FG):Prop := ∀ p r r',g p r=some r'->Le r r'
inductive TsOk (X:Cx):List Expr->List FT->Prop where
 |nil:TsOk X [] []
 |cons {e:Expr} {t:FT} {es:List Expr} {ts:List FT} (h:VT X E0 e t) (r:TsOk X es ts):TsOk X (e::es) (t::ts)
theorem Ji {X:Cx} (hx:∀ e s,X.xe e s->False):∀ {es:List Expr} {ts:List FT},TsOk X es ts -> ∀ {pins:List (Addr×Obj)} {s:Shared} {σ:L2.St} {H:Hp} {b:Bz} {r:qv} {st st':qD} {k:Bool} {Q:Bool->Shared->Prop} {E:Value->Shared->Prop},L2.Inv X pins σ H s->SR X.K H b st->REnv X.K H b r σ->wT ts r st = .ok k st' ->
  (∀ s' H' b',L2.Inv X pins σ H' s'->Ext H b H' b'->SR X.K H' b' st'->Q k s') ->
  wpAny (model X.prog X.w) X.A (forIn es true fun c r=>if r=true then do let ok ← isTrue c X.env (eval c X.env);pure (ForInStep.yield ok) else pure (ForInStep.yield r)) Q E s
 |_,_,.nil,pins,s,σ,H,b,r,st,st',k,Q,E,I,S,R,e,q=>by cases e;exact wpAny_tests_nil (q s H b I (Ext.refl _ _) S)
 |_,_,@TsOk.cons _ c t es ts h hr,pins,s,σ,H,b,r,st,st',k,Q,E,I,S,R,e,q=>by
  rw [List.forIn_cons];simp only [CJ];unfold wT at e;cases et:t r st with
  |no=>rw [et] at e;cases e
  |ex x s1=>rw [et] at e;cases e
  |ok k1 s1 =>
   rw [et] at e;have e:(if k1=true then wT ts r s1 else .ok false s1) = .ok k st':=e;refine AA (AA (BZ (h pins s σ H (fun k' H'=>k'=k1 ∧ ∃ b',Ext H b H' b'∧SR X.K H' b' s1) I ⟨b,r,st,S,R,by rw [et];exact fun H' b' e' S'=>⟨rfl,b',e',S'⟩⟩) (fun k' s2 hq => ?_) fun e' s' z=>(hx e' s' z).elim))
   obtain ⟨H2,I2,rfl,b2,e2,S2⟩:=hq;refine AB ?_;dsimp only;cases k' with
   |true =>rw [AF rfl] at e;exact Ji hx hr I2 S2 (R.ext e2) e fun s' H' b' I' e' S'=>q s' H' b' I' (e2.trans e') S'
   |false =>
    rw [AK BW] at e;cases e;have skip:∀ (es:List Expr),wpAny (model X.prog X.w) X.A (forIn es false fun c r=>if r=true then do let ok ← isTrue c X.env (eval c X.env);pure (ForInStep.yield ok) else pure (ForInStep.yield r)) Q E s2:=by
     intro es;induction es with
     |nil=>rw [List.forIn_nil];exact AB (q s2 H2 b2 I2 e2 S2)
     |cons c es ih =>rw [List.forIn_cons];simp only [Az,BU];exact AA (AB ih)
    exact skip es
structure GOk (X:Cx) (c:Comprehension) (g:GenF):Prop where
 tg:VG X c.target g.g
 fr:qGS g.g
 ts:TsOk X c.ifs g.ts
 asy:c.is_async=0
structure GOk' (X:Cx) (c:Comprehension) (g:GenF):Prop extends GOk X c g where
 it:VI X E0 c.target c.iter g.fi
 fold:∀ x,foldedSetIterable c.iter X.env x=pure x
inductive GsOk (X:Cx):List Comprehension->List GenF->Prop where
 |nil:GsOk X [] []
 |cons {c:Comprehension} {g:GenF} {cs:List Comprehension} {gs:List GenF} (h:GOk' X c g) (r:GsOk X cs gs):GsOk X (c::cs) (g::gs)
theorem qCA {X:Cx} (hx:∀ e s,X.xe e s->False) {pins:List (Addr×Obj)} {s:Shared} {σ:L2.St} {H:Hp} {D:Addr} {xs:List V} {y:V} {u:Value} {Q:Value->Shared->Prop} {E:Value->Shared->Prop} (I:L2.Inv X pins σ H s) (hD:H D=some (.lst xs)) (hl:xs.length < sizeLine) (ry:RelV y u)
  (q:∀ v s',L2.Inv X pins σ (upd H D (.lst (xs++[y]))) s'->Q v s'):wpAny (model X.prog X.w) X.A (call (.builtin "list.append") [.ref D,u]) Q E s :=
 BZ (jS pins s σ H (.ref D) [y] (.ref D) [u] (fun v H'=>H'=upd H D (.lst (xs++[y]))) I rfl (.cons ry .nil) ⟨D,xs,y,rfl,rfl,hD,hl,rfl⟩) (fun v s' ⟨x,H',I',r',e⟩=>by subst e;exact q v s' I') fun e' s' z=>(hx e' s' z).elim
structure DE (D:Addr) (H:Hp) (b:Bz) (H':Hp) (b':Bz):Prop extends WE H b H' b' where
 same:b'.z=b.z
 hid:∀ a o,a∈b.z->a≠D->H a=some o->H' a=some o
 fz:∀ a o u,a≠D->H a=some (.frz o u)->H' a=some (.frz o u)
theorem DE.of {D:Addr} {H H':Hp} {b b':Bz} (e:Ext H b H' b'):DE D H b H' b':=⟨e.toWE,e.same,fun a o ha _ h=>e.hid a o ha h,fun a o u _ h=>e.fz a o u h⟩
theorem DE.trans {D:Addr} {H H1 H2:Hp} {b b1 b2:Bz} (e:DE D H b H1 b1) (f:DE D H1 b1 H2 b2):DE D H b H2 b2:=⟨e.toWE.trans f.toWE,f.same.trans e.same,fun a o ha hn h=>f.hid a o (by rw [e.same];exact ha) hn (e.hid a o ha hn h),fun a o u n h=>f.fz a o u n (e.fz a o u n h)⟩
theorem DE.wr {D:Addr} {H:Hp} {b:Bz} {o:HO} (h:D∈b.z):DE D H b (upd H D o) b:=⟨WE.wr (.inr h),rfl,fun a u ha hn e=>by rw [qW hn];exact e,fun a u v hn e=>by rw [qW hn];exact e⟩
def qKC (X:Cx) (D:Addr) (c:Code) (inner:Sem Fin) (rest:FL):Prop :=
 ∀ (pins:List (Addr×Obj)) (s:Shared) (σ:L2.St) (H:Hp) (b:Bz) (r:qv) (st st':qD) (l:List PV) (accV:List V) (QF:Fin->Shared->Prop) (E:Value->Shared->Prop),L2.Inv X pins σ H s->SR X.K H b st->REnv X.K H b r σ->D∈b.z->H D=some (.lst accV) ->
  rest r st = .ok l st'->accV.length + l.length≤sizeLine ->
  (∀ s' σ' H' b' lV,L2.Inv X pins σ' H' s'->DE D H b H' b'->SR X.K H' b' st'->REnv X.K H' b' r σ'->H' D=some (.lst (accV++lV))->RVs X.K H' b' l lV->QF (.again c) s')->wpAny (model X.prog X.w) X.A inner QF E s
theorem JO {X:Cx} (hx:∀ e s,X.xe e s->False) {elt:Expr} {gens:List Comprehension} {scope:Scope} {pos:Pos} {d:Nat} {it D:Addr} {c:Comprehension} {g:GenF} (hg:GOk X c g) {inner:Sem Fin} {rest:FL} (hin:qKC X D (.compLoop (.ListComp elt gens scope pos) d (.ref it) (.ref D) X.env) inner rest)
  (hturn:compTurn (.ListComp elt gens scope pos) d (.ref it) (.ref D) X.env=(standAt c.iter.pos >>= fun _=>pyNext (.ref it) >>= fun r=>match r with
   |none=>pure (.done .next)
   |some v=>letOwnedTupleGo c.target (.ref it) v >>= fun _=>assign c.target X.env v >>= fun _ =>
    (forIn c.ifs true fun c r=>if r=true then do let ok ← isTrue c X.env (eval c X.env);pure (ForInStep.yield ok) else pure (ForInStep.yield r)) >>= fun ok =>
    if ok=true then inner else again (.compLoop (.ListComp elt gens scope pos) d (.ref it) (.ref D) X.env)))
  {pins:List (Addr×Obj)} {s:Shared} {σ:L2.St} {H:Hp} {b:Bz} {r:qv} {st st':qD} {fp:List Addr} {tn:Nat->Heap->Prop} {J:It} {w:ItP} {accV:List V} {l:List PV} {R:Result->Shared->Prop}
  (I:L2.Inv X pins σ H s) (S:SR X.K H b st) (RE:REnv X.K H b r σ) (hDz:D∈b.z) (hD:H D=some (.lst accV)) (T:Turn X.prog X.w X.K X.A c.target J fp it tn) (t0:tn 0 s.heap) (hf:∀ a∈fp,yT X pins H a)
  (hit:YA X.K H b J w)
  (hv:qz w.G (Qd g rest r) w.l st = .ok l st') (hsz:accV.length + l.length≤sizeLine)
  (hR:∀ s' σ' H' b' lV,L2.Inv X pins σ' H' s'->DE D H b H' b'->SR X.K H' b' st'->REnv X.K H' b' r σ'->H' D=some (.lst (accV++lV))->RVs X.K H' b' l lV->R (.ok .next) s') :
  codeAny (model X.prog X.w) X.A (.compLoop (.ListComp elt gens scope pos) d (.ref it) (.ref D) X.env) R s:=by
 have stat:∀ {H':Hp},(∀ a∈fp,H' a=none) -> ∀ a∈fp,yT X pins H' a:=fun hn a ha=>⟨hn a ha,(hf a ha).2⟩;refine codeAny_loop rfl (fun n s1 => ∃ i σ1 H1 b1 st1 done doneV m,n=w.l.length + 1 - i∧i≤w.l.length∧L2.Inv X pins σ1 H1 s1∧DE D H b H1 b1∧SR X.K H1 b1 st1∧REnv X.K H1 b1 r σ1∧H1 D=some (.lst (accV++doneV))∧RVs X.K H1 b1 done doneV∧tn i s1.heap∧(∀ a∈fp,H1 a=none) ∧
  qz w.G (Qd g rest r) (w.l.drop i) st1 = .ok m st'∧done++m=l) ?_ (w.l.length + 1)
  ⟨0,σ,H,b,st,[],[],l,by omega,A3 _,I,DE.of (Ext.refl _ _),S,RE,by simpa using hD,RVs.nil,t0,fun a ha=>(hf a ha).1,by simpa using hv,rfl⟩
 rintro n s1 ⟨i,σ1,H1,b1,st1,done,doneV,m,hn,hi,I1,e1,S1,R1,hD1,rd1,t1,fr1,hv1,hm⟩
 show wpAny _ X.A ((compTurn (.ListComp elt gens scope pos) d (.ref it) (.ref D) X.env).onRaise (fun x=>do noteFrame x X.env;theTreesLotGoes x)) _ _ s1;refine wpAny_noted ?_;rw [hturn];refine AA (CV (AA ?_));have hz1:D∈b1.z:=by rw [e1.same];exact hDz
 by_cases hlt:i < w.l.length
 ·have hd:w.l.drop i=w.l[i]::w.l.drop (i + 1):=List.drop_eq_getElem_cons hlt;rw [hd] at hv1;unfold qz at hv1;by_cases hG:w.G st1
  ·rw [AF hG] at hv1;obtain ⟨h1,h2⟩:=hit H1 b1 st1 e1.toWE S1 hG;obtain ⟨go,yl⟩:=h1 i w.l[i] (AI hlt);cases ek:Qd g rest r w.l[i] st1 with
   |no=>rw [ek] at hv1;cases hv1
   |ex x s5=>rw [ek] at hv1;cases hv1
   |ok l1 s5 =>
    rw [ek] at hv1;have hv1:(qz w.G (Qd g rest r) (w.l.drop (i + 1)) s5).bind (fun m s' => .ok (l1++m) s') = .ok m st':=hv1;cases ek2:qz w.G (Qd g rest r) (w.l.drop (i + 1)) s5 with
    |no=>rw [ek2] at hv1;cases hv1
    |ex x s6=>rw [ek2] at hv1;cases hv1
    |ok m2 s6 =>
     rw [ek2] at hv1;have hv1:Rs.ok (l1++m2) s6 = .ok m st':=hv1;injection hv1 with hv1a hv1b;subst hv1a;subst hv1b;refine thn (T.item X rfl rfl rfl rfl i pins s1 σ1 H1 _ I1 (stat fr1) t1 go) fun rr s2 ⟨u,hr,h4⟩ => ?_;subst hr;refine AA (thn h4 fun _ s3 ⟨x,H3,I3,r3,y3,t3,fr3⟩ => ?_);obtain ⟨sm3,S3,rx3⟩:=yl x H3 y3;have e3:Ext H1 b1 H3 b1:=Ext.of_same sm3;have hD3:=sm3 _ _ hD1;unfold Qd at ek;cases eg:g.g w.l[i] r with
     |none=>rw [eg] at ek;cases ek
     |some r' =>
      rw [eg] at ek;have ek:(wT g.ts r' st1).bind (fun k s1=>if k=true then rest r' s1 else .ok [] s1) = .ok l1 s5:=ek;cases et:wT g.ts r' st1 with
      |no=>rw [et] at ek;cases ek
      |ex x s7=>rw [et] at ek;cases ek
      |ok k s7 =>
       rw [et] at ek;have ek:(if k=true then rest r' s7 else .ok [] s7) = .ok l1 s5:=ek;have I3':=I3.pinned (stat fr3) (T.obj _ _ t3);refine AA (BZ (hg.tg _ s3 σ1 H3 x u (fun σ' H'=>H'=H3∧REnv X.K H3 b1 r' σ') I3' r3 ⟨b1,r,w.l[i],st1,S3,R1.ext e3,rx3,r',eg,fun s' R'=>⟨rfl,R'⟩⟩) (fun _ s4 hq => ?_) fun e' s' z=>(hx e' s' z).elim);obtain ⟨σ4,H4,I4,rfl,R4⟩:=hq;refine AA (Ji hx hg.ts I4 S3 R4 et fun s5' H5 b5 I5 e5 S5 => ?_);have hz5:D∈b5.z:=by rw [e5.same];exact hz1
       have hD5:=e5.hid _ _ hz1 hD3;have e15:DE D H b H5 b5:=(e1.trans (DE.of e3)).trans (DE.of e5);have back:∀ {s7':Shared} {σ7:L2.St} {H7:Hp} {b7:Bz} {l1V:List V},L2.Inv X (pins++Ya fp s3.heap) σ7 H7 s7'->DE D H5 b5 H7 b7->SR X.K H7 b7 s5->REnv X.K H7 b7 r' σ7->H7 D=some (.lst (accV++doneV++l1V))->RVs X.K H7 b7 l1 l1V ->
         ∃ m,m < n ∧ ∃ i σ1 H1 b1 st1 done doneV mm,m=w.l.length + 1 - i∧i≤w.l.length∧L2.Inv X pins σ1 H1 s7'∧DE D H b H1 b1∧SR X.K H1 b1 st1∧REnv X.K H1 b1 r σ1∧H1 D=some (.lst (accV++doneV))∧RVs X.K H1 b1 done doneV∧tn i s7'.heap∧(∀ a∈fp,H1 a=none) ∧
         qz w.G (Qd g rest r) (w.l.drop i) st1 = .ok mm s6∧done++mm=l:=fun {s7' σ7 H7 b7 l1V} I7 e7 S7 R7 hD7 rl7=>by
        refine ⟨w.l.length + 1 - (i + 1),by omega,i + 1,σ7,H7,b7,s5,done++l1,doneV++l1V,m2,rfl,hlt,I7.unpinned,e15.trans e7,S7,R7.le (hg.fr _ _ _ eg),by rw [hD7,A2],?_,T.keep _ _ _ t3 fun a ha o e=>(I7.pin (a,o) (A0 _ (A0 _ (zN ha e)))).1,fun a ha => ?_,ek2,by rw [A2];exact hm⟩
        ·exact RVs.append (RVs.wext e7.toWE done (RVs.ext e5 done (RVs.ext e3 done rd1))) rl7
        ·obtain ⟨o,e,_⟩:=T.obj _ _ t3 a ha;exact (I7.pin (a,o) (A0 _ (A0 _ (zN ha e)))).2.1
       cases k with
       |false =>rw [AK BW] at ek ⊢;injection ek with ek1 ek2';subst ek1;subst ek2';refine AB ⟨rfl,back I5 (DE.of (Ext.refl _ _)) S5 (R4.ext e5) (by rw [BP];exact hD5) RVs.nil⟩
       |true =>
        rw [AF rfl] at ek ⊢;refine hin _ s5' σ4 H5 b5 r' s7 s5 l1 (accV++doneV) _ _ I5 S5 (R4.ext e5) hz5 hD5 ek ?_ fun s8 σ8 H8 b8 lV I8 e8 S8 R8 hD8 r8=>⟨rfl,back I8 e8 S8 R8 hD8 r8⟩;have h1:=rd1.length;have h2:l.length=done.length + (l1.length + m2.length):=by rw [← hm,AQ,AQ]
        rw [AQ];omega
  ·rw [AK hG] at hv1;cases hv1
 ·have hl:i=w.l.length:=by omega
  subst hl;rw [List.drop_length] at hv1;unfold qz at hv1;by_cases hG:w.G st1
  ·rw [AF hG] at hv1;injection hv1 with k1 k2;subst k1;subst k2;obtain ⟨h1,h2⟩:=hit H1 b1 st1 e1.toWE S1 hG;refine thn (T.done X rfl rfl rfl rfl _ pins s1 σ1 H1 _ I1 (stat fr1) t1 (h2 _ (AG _))) fun r2 s2 ⟨hr,I2⟩ => ?_;subst hr;rw [BP] at hm;subst hm;exact AB (hR s2 σ1 H1 b1 doneV I2 e1 S1 R1 hD1 rd1)
  ·rw [AK hG] at hv1;cases hv1
theorem qCQ {X:Cx} (hx:∀ e s,X.xe e s->False) {elt:Expr} {gens:List Comprehension} {scope:Scope} {pos:Pos} {f:FE} {D:Addr} (he:VE X E0 elt f) :
  ∀ (gs:List GenF) (cs:List Comprehension) (d:Nat) (c:Comprehension) (g:GenF),gens.drop d=c::cs->GOk X c g->GsOk X cs gs ->
  ∀ (pins:List (Addr×Obj)) (s:Shared) (σ:L2.St) (H:Hp) (b:Bz) (r:qv) (st st':qD) (it:Addr) (fp:List Addr) (tn:Nat->Heap->Prop) (J:It) (w:ItP) (accV:List V) (l:List PV) (R:Result->Shared->Prop),
  L2.Inv X pins σ H s->SR X.K H b st->REnv X.K H b r σ->D∈b.z->H D=some (.lst accV)->Turn X.prog X.w X.K X.A c.target J fp it tn->tn 0 s.heap->(∀ a∈fp,yT X pins H a)->YA X.K H b J w ->
  qz w.G (Qd g (Q7 gs f) r) w.l st = .ok l st'->accV.length + l.length≤sizeLine ->
  (∀ s' σ' H' b' lV,L2.Inv X pins σ' H' s'->DE D H b H' b'->SR X.K H' b' st'->REnv X.K H' b' r σ'->H' D=some (.lst (accV++lV))->RVs X.K H' b' l lV->R (.ok .next) s') ->
  codeAny (model X.prog X.w) X.A (.compLoop (.ListComp elt gens scope pos) d (.ref it) (.ref D) X.env) R s:=by
 intro gs;induction gs with
 |nil =>
  intro cs d c g hdr hg hgs pins s σ H b r st st' it fp tn J w accV l R I S RE hDz hD T t0 hf hit hv hsz hR;cases hgs;have hgd:gens[d]? = some c:=by
   have:(gens.drop d)[0]? = some c:=by rw [hdr];rfl
   simpa using this
  have hgn:gens[d + 1]? = none:=by
   have:(gens.drop d)[1]? = none:=by rw [hdr];rfl
   simpa using this
  refine JO hx hg ?_ (Yq hgd hg.asy hgn) I S RE hDz hD T t0 hf hit hv hsz hR;intro pins s σ H b r st st' l accV QF E I S RE hDz hD hv hsz q;have hv:(f r st).bind (fun p s => .ok [p] s) = .ok l st':=hv;cases ef:f r st with
  |no=>rw [ef] at hv;cases hv
  |ex x s1=>rw [ef] at hv;cases hv
  |ok p s1 =>
   rw [ef] at hv;have hv:Rs.ok [p] s1 = .ok l st':=hv;injection hv with h1 h2;subst h1;subst h2;refine AA (AA (BZ (he pins s σ H (fun v H' => ∃ b',Ext H b H' b'∧SR X.K H' b' s1∧RV X.K H' b' p v) I ⟨b,r,st,S,RE,by rw [ef];exact fun v H' b' e' S' r'=>⟨b',e',S',r'⟩⟩) (fun u s2 hq => ?_) fun e' s' z=>(hx e' s' z).elim))
   obtain ⟨v,H2,I2,rv,b2,e2,S2,r2⟩:=hq;have hz2:D∈b2.z:=by rw [e2.same];exact hDz
   refine AA (qCA hx I2 (e2.hid _ _ hDz hD) (by rw [As] at hsz;omega) rv fun _ s3 I3=>AB (AB ?_))
   have dw:DE D H2 b2 (upd H2 D (.lst (accV++[v]))) b2:=DE.wr hz2;exact q s3 σ _ b2 [v] I3 ((DE.of e2).trans dw) (SR.wrz S2 hz2) ((RE.ext e2).wext dw.toWE) Qj (RVs.cons (RV.wext dw.toWE p r2) RVs.nil)
 |cons g2 gs ih =>
  intro cs d c g hdr hg hgs pins s σ H b r st st' it fp tn J w accV l R I S RE hDz hD T t0 hf hit hv hsz hR;cases hgs with
  | @cons c2 _ cs _ h2 hr2 =>
   have hgd:gens[d]? = some c:=by
    have:(gens.drop d)[0]? = some c:=by rw [hdr];rfl
    simpa using this
   have hgn:gens[d + 1]? = some c2:=by
    have:(gens.drop d)[1]? = some c2:=by rw [hdr];rfl
    simpa using this
   have hdr2:gens.drop (d + 1)=c2::cs:=by
    have:(gens.drop d).drop 1=c2::cs:=by rw [hdr];rfl
    rwa [List.drop_drop] at this
   refine JO hx hg ?_ (Yx hgd hg.asy hgn h2.asy) I S RE hDz hD T t0 hf hit hv hsz hR;intro pins s σ H b r st st' l accV QF E I S RE hDz hD hv hsz q;have hv:(g2.fi r st).bind (fun w s=>qz w.G (Qd g2 (Q7 gs f) r) w.l s) = .ok l st':=hv;cases ef:g2.fi r st with
   |no=>rw [ef] at hv;cases hv
   |ex x s1=>rw [ef] at hv;cases hv
   |ok w2 s1 =>
    rw [ef] at hv;have hv:qz w2.G (Qd g2 (Q7 gs f) r) w2.l s1 = .ok l st':=hv;have hi:=h2.it pins s σ H (fun J H' => ∃ b',Ext H b H' b'∧SR X.K H' b' s1∧YA X.K H' b' J w2) I ⟨b,r,st,S,RE,by rw [ef];exact fun J H' b' e' S' i'=>⟨b',e',S',i'⟩⟩
    refine AA (BZ hi (fun u s2 hq => ?_) fun e' s' z=>(hx e' s' z).elim);refine AA (CV (AA (Ao (h2.fold u) (AA (An (BZ hq (fun itv s3 hq3 => ?_) fun e' s' z=>(hx e' s' z).elim))))));obtain ⟨it2,fp2,tn2,J2,H3,rfl,I3,T2,t2,f2,b3,e3,S3,i3⟩:=hq3;have hz3:D∈b3.z:=by rw [e3.same];exact hDz
    have hD3:=e3.hid _ _ hDz hD;refine AA (wpAny_runOwn ?_);have loop:=ih cs (d + 1) c2 g2 hdr2 h2.toGOk hr2 pins s3 σ H3 b3 r s1 st' it2 fp2 tn2 J2 w2 accV l (fun r s'=>match r with
     | .ok f=>wpAny (model X.prog X.w) X.A (again (.compLoop (.ListComp elt gens scope pos) d (.ref it) (.ref D) X.env)) QF E s'
     | .error e=>cameBackBy (model X.prog X.w) X.A X.env E e s') I3 S3 (RE.ext e3) hz3 hD3 T2 t2 f2 i3 hv hsz
     fun s' σ' H' b' lV I' e' S' R' hD' r'=>AB (q s' σ' H' b' lV I' ((DE.of e3).trans e') S' R' hD' r')
    exact Zg hgn h2.asy loop (T2.self X.A 0 s3 _ _ t2 loop)
theorem qDM {M:Model} {A:Around} {E:Value->Shared->Prop} {s:Shared} {scope:Scope} {env:Env} {cl:List (Str×Addr)} {Q:Env->Shared->Prop}
  (h:Q { scope:=scope,locals:=s.heap.objs.size,globals:=env.globals,cells:=cellsFrom (s.heap.objs.size + 1) scope.names cl,qual:=env.qual,func:=none,code:=env.code,frame:=env.frame,builtins:=env.builtins } { s with heap:=pushCells (s.heap.push { cls := .type "dict",data := .dict #[] }) scope.names }) :
  wpAny M A (newFunctionEnv scope env.globals cl [] env.qual none .none (some env)) Q E s:=by
 simp only [newFunctionEnv,Option.isSome_some,CJ];refine AA (wpAny_alloc ?_);refine AA (wpAny_layCells _ (fun name kind cells=>by cases hkc:kind==NameKind.cell <;> simp [hkc]) _ _ _ _ ?_)
 rw [show ({ s with heap:=s.heap.push { cls := .type "dict",data := .dict #[] } }:Shared).heap.objs.size=s.heap.objs.size + 1 from B5 ..];exact AA (AB (AB h))
def zt (caps:List Nat) (n:Nat) (r:qv):qv:=(caps.map fun j=>(r[j]?).join)++List.replicate n none
noncomputable def QN (caps:List Nat) (n:Nat) (fi:FI) (g:FG) (ts:List FT) (gs:List GenF) (f:FE):FL:=fun r st=>(fi r st).bind fun w s=>match qz w.G (Qd ⟨fi,g,ts⟩ (Q7 gs f) (zt caps n r)) w.l s with
 | .ok l s'=>if l.length≤sizeLine then .ok l s' else .no
 |_ => .no
theorem qEG {K:W.Frag} {H:Hp} {b:Bz} {r:qv} {σ:L2.St} {caps:List Nat} {n:Nat} (R:REnv K H b r σ):REnv K H b (zt caps n r) ((caps.map fun j=>(σ[j]?).join)++List.replicate n none):=by
 refine ⟨by simp [zt],fun i p e => ?_⟩
 unfold zt at e;by_cases hi:i < caps.length
 ·rw [Af (by simpa using hi),Au] at e
  rw [Af (by simpa using hi),Au]
  cases ej:caps[i]? with
  |none=>rw [ej] at e;cases e
  |some j =>
   rw [ej] at e;have e':(r[j]?).join=some p:=Ag e;have e2:r[j]? = some (some p):=by
    cases q:r[j]? with
    |none=>rw [q] at e';cases e'
    |some o=>rw [q] at e';exact CP some e'
   obtain ⟨v,h1,h2⟩:=R.2 j p e2;refine ⟨v,?_,h2⟩;show some (σ[j]?).join=some (some v);rw [h1];rfl
 ·rw [Ap (by simpa using hi),Bd] at e
  split at e <;> cases e
theorem qCM {K:W.Frag} {H:Hp} {b:Bz} {J:It} {w:ItP} {D:Addr} {o:HO} (h:YA K H b J w) (hD:H D=none):YA K (upd H D o) ⟨b.b,D::b.z⟩ J w:=fun H1 b1 st1 e S g=>h H1 b1 st1 ((WE.hide hD).trans e) S g
theorem Qy {X:Cx} {E:XK} {elt:Expr} {c:Comprehension} {cs:List Comprehension} {scope:Scope} {pos:Pos} {capN locN:List Str} {caps:List Nat} {fi:FI} {g:FG} {ts:List FT} {gs:List GenF} {f:FE} (hcs:CSc X scope capN locN caps)
  (hi:VI X E c.target c.iter fi) (sub:∀ s H fp pn,VE (cCx X scope (capN++locN) s H fp pn) E0 elt f∧GOk (cCx X scope (capN++locN) s H fp pn) c ⟨fi,g,ts⟩∧GsOk (cCx X scope (capN++locN) s H fp pn) cs gs)
  (hs:∀ x,foldedSetIterable c.iter X.env x=pure x:=by intro _;rfl):VN X E (.ListComp elt (c::cs) scope pos) (QN caps locN.length fi g ts gs f):=by
 intro pins s σ H Q I hq;obtain ⟨b,r,st,S,RE,P⟩:=hq;have hfree:∀ x∈scope.names,x.2 = .free -> ∃ c,X.env.cells.lookup x.1=some c:=fun x hx hk=>I.ok.has x.1 (hcs.fr x hx hk);obtain ⟨c1,c2,c3,c4⟩:=c;have hasy:c4=0:=(sub s H [] []).2.1.asy;subst hasy;rw [eval_ListComp];refine wpAny_comprehension_free (use:=none) rfl hs (qA6 hfree) hcs.kind (fun x hx hl=>zJ hcs.nd (by rw [← hl];exact hx)) ?_
 show wpAny _ _ (eval c2 X.env) _ _ s;unfold QN at P;cases ef:fi r st with
 |no=>rw [ef] at P;exact P.elim
 |ex x s1 =>
  rw [ef] at P;refine thn (hi pins s σ H (fun _ _=>False) I ⟨b,r,st,S,RE,by rw [ef];exact P⟩) fun v s2 h2=>thn h2 fun itv s3 h3 => ?_
  obtain ⟨_,_,_,_,_,_,_,_,_,_,z⟩:=h3;exact z.elim
 |ok w s1 =>
  rw [ef] at P;refine thn (hi pins s σ H (fun J H' => ∃ b',Ext H b H' b'∧SR X.K H' b' s1∧YA X.K H' b' J w) I ⟨b,r,st,S,RE,by rw [ef];exact fun J H' b' e' S' i'=>⟨b',e',S',i'⟩⟩) fun v s2 h2=>thn h2 fun itv s3 h3 => ?_
  obtain ⟨it,fp,tn,J,H2,rfl,I2,T,t2,f2,b2,e2,S2,i2⟩:=h3;have P:PostN X.K E H b (match qz w.G (Qd ⟨fi,g,ts⟩ (Q7 gs f) (zt caps locN.length r)) w.l s1 with | .ok l s'=>if l.length≤sizeLine then .ok l s' else .no |_ => .no) Q:=P;cases ev:qz w.G (Qd ⟨fi,g,ts⟩ (Q7 gs f) (zt caps locN.length r)) w.l s1 with
  |no=>rw [ev] at P;exact P.elim
  |ex x s4=>rw [ev] at P;exact P.elim
  |ok l st' =>
   rw [ev] at P;have P:PostN X.K E H b (if l.length≤sizeLine then .ok l st' else .no) Q:=P;by_cases hl:l.length≤sizeLine
   ·rw [AF hl] at P;have hfr:H2 s3.heap.objs.size=none:=I2.hok.fresh (AG _);refine wpAny_newList ?_;generalize hs3:({ s3 with heap:=s3.heap.push { cls := .type "list",data := .seq ([]:List Value).toArray } }:Shared)=s3';have I3:L2.Inv X pins σ (upd H2 s3.heap.objs.size (.lst [])) s3':=by rw [← hs3];exact I2.laid (t':=s3.toks) (fun a u e=>AD _ e) (AG _) (show ObjOk X.prog X.w _ _ _ (.lst []) from ⟨A3 _,[],0,.nil,AY _ rfl⟩)
    have k3:∀ a o,s3.heap.get? a=some o->s3'.heap.get? a=some o:=fun a o e=>by rw [← hs3];exact AD _ e
    have hlt:∀ a∈fp,a < s3.heap.objs.size:=fun a ha=>by obtain ⟨o,e,_⟩:=T.obj _ _ t2 a ha;exact AT e
    have f3:∀ a∈fp,yT X pins (upd H2 s3.heap.objs.size (.lst [])) a:=fun a ha=>⟨by rw [qW (Ac (hlt a ha))];exact (f2 a ha).1,(f2 a ha).2⟩
    have hlt3:∀ a∈fp,a < s3'.heap.objs.size:=fun a ha=>by obtain ⟨o,e,_⟩:=T.obj _ _ t2 a ha;exact AT (k3 a o e)
    generalize hD:s3.heap.objs.size=D at I3 f3 hfr;refine qDM ?_;have J0:=qA8 hcs I3 f3 hlt3 rfl;obtain ⟨he,hg,hgs⟩:=sub s3' (upd H2 D (.lst [])) fp (X.pn++pins);have k4:∀ a o,s3'.heap.get? a=some o->(pushCells (s3'.heap.push { cls := .type "dict",data := .dict #[] }) scope.names).get? a=some o:=fun a o e=>pushCells_keeps _ _ _ _ (AD _ e);have hDz:D ∉ b2.z:=(S2.new_notin hfr).2;have loop:=qCQ (X:=cCx X scope (capN++locN) s3' (upd H2 D (.lst [])) fp (X.pn++pins)) (fun _ _ z=>z) (gens:=⟨c1,c2,c3,0⟩::cs) (scope:=scope) (pos:=pos) (D:=D) he gs cs 0 ⟨c1,c2,c3,0⟩ ⟨fi,g,ts⟩ rfl hg hgs [] _ _ _ ⟨b2.b,D::b2.z⟩ (zt caps locN.length r) s1 st' it fp tn J w [] l
     (compPost (model X.prog X.w) X.A X.xe none (EP X pins σ Q) (.ref D) s3'.heap.objs.size) J0 (SR.hide S2 hfr) (qEG ((RE.ext e2).wext (WE.hide hfr))) AL Qj T (T.keep _ _ _ t2 fun a ha o e=>k4 a o (k3 a o e))
     (fun a ha=>⟨(f3 a ha).1,(J0.ok.exf a ha).1,J0.ok.exfs a ha,.inl ha,(J0.ok.exf a ha).2,fun p hp=>(f3 a ha).2.2.2.2.2 p (by simpa [cCx] using hp)⟩) (qCM i2 hfr) ev (by simpa using hl)
     (fun s' σ' H' b' lV I' e' S' R' hD' r'=>by
      obtain ⟨m,hn,_⟩:=I'.loc;refine ⟨m,hn,fun h'' sb => ?_⟩;have fin:=qEF I3 f3 I' sb;have hz':b'.z=D::b2.z:=e'.same;refine ⟨.ref D,H',fin,rfl,?_⟩;have ex:Ext H2 b2 H' ⟨b'.b,b2.z⟩:=by
       refine ⟨⟨?_,⟨[],rfl,by simp⟩,fun a o ha ho => ?_,fun a o ha => ?_⟩,rfl,fun a o hz ha => ?_,fun a o u ha=>e'.fz a o u (qV ha hfr) (by rw [qW (qV ha hfr)];exact ha)⟩
       ·obtain ⟨n,hb,hh⟩:=e'.more;exact ⟨n,hb,fun a ha=>by
         have:=hh a ha
         by_cases q:a=D
         ·rw [q];exact hfr
         ·rwa [qW q] at this⟩
       ·have hne:a≠D:=qV ha hfr;exact e'.keep a o (by rw [qW hne];exact ha) ⟨ho.1,fun z=>(AJ.mp z).elim hne ho.2⟩
       ·have hne:a≠D:=qV ha hfr;exact e'.dom a o (by rw [qW hne];exact ha)
       ·have hne:a≠D:=qV ha hfr;exact e'.hid a o (AE _ hz) hne (by rw [qW hne];exact ha)
      have hb':(⟨b'.b,D::b2.z⟩:Bz)=b':=by rw [← hz']
      refine P D lV H' ⟨b'.b,b2.z⟩ (e2.trans ex) (e2.none_of hfr) (by simpa using hD') hDz ?_ ?_
      ·show SR X.K H' ⟨b'.b,D::b2.z⟩ st';rw [hb'];exact S'
      ·show RVs X.K H' ⟨b'.b,D::b2.z⟩ l lV;rw [hb'];exact r')
    exact Zg rfl rfl loop (T.self X.A 0 _ _ _ (T.keep _ _ _ t2 fun a ha o e=>k4 a o (k3 a o e)) loop)
   ·rw [AK hl] at P;exact P.elim
def Qg (n:Nat) (l:List PV):qv:=l.map some++List.replicate (n - l.length) none
def qFY:RS->Rs PV
 | .nx _ st => .ok .non st
 | .rt v st => .ok v st
 | .ex x st => .ex x st
 |_ => .no
def Refn (n:Nat) (r r':Rs PV):Prop := ∀ (K:W.Frag) (E:XK) (H:Hp) (b:Bz) (Q:VK),b.b.length=n->PostE K E H b r' Q->PostE K E H b r Q
theorem Refn.refl {n:Nat} {r:Rs PV}:Refn n r r:=fun _ _ _ _ _ _ h=>h
theorem REnv.init {K:W.Frag} {H:Hp} {b:Bz} {N:List Str} {l:List PV} {vs:List V} (h:RVs K H b l vs):REnv K H b (Qg N.length l) (start N vs):=by
 have hl:=h.length;refine ⟨by simp [Qg,L2.start,hl],fun i p e => ?_⟩
 unfold Qg at e;unfold L2.start;by_cases hi:i < l.length
 ·rw [Af (by simpa using hi),Au] at e
  rw [Af (by simpa [← hl] using hi),Au]
  cases q:l[i]? with
  |none=>rw [q] at e;cases e
  |some p' =>rw [q] at e;cases e;obtain ⟨v,h1,h2⟩:=h.get q;exact ⟨v,by rw [h1];rfl,h2⟩
 ·rw [Ap (by simpa using hi),Bd] at e
  split at e <;> cases e
section
variable {P:Program} {w:World} {K:W.Frag} {mg:Str->Option Value} {base:Heap}
theorem okV {CX:CXT} {x qual:Str} {st:Stmt} {f:Addr} {fd:FuncData} {N ps:List Str} {k:Nat} {g:List PV->qD->Rs PV} (F:Fun K x qual st f fd) (S:FnScope N ps (qM st))
  (body:∀ (cdv:Value) (A:Around) (outer:List Env) (s:Shared) (H:Hp) (E:XK),Room k (A.deeper (envOfC qual (qM st) s.heap.objs.size f cdv))->(0 < k->A.handled=none) ->
   ∃ B:FS,VSs (wS CX P w K mg base N qual (qM st) f cdv A outer s H E) E (qh st) B ∧ ∀ l s0,l.length=ps.length->g l s0 ≠ .no->Refn s0.length (qFY (B (Qg N.length l) s0)) (g l s0)):FnOk P w K mg base CX (k + 1) f fd ps (spG K ps.length g):=by
 obtain ⟨oc,od,kV,doc,pm,an,cdv,ct,osl,rfl,lk,hcd⟩:=F.ex;refine qIs lk hcd S (fun vs H Q E h=>h.1) fun A outer s H vs Q E hr hcm hsp => ?_;obtain ⟨B,hB,hg⟩:=body cdv A outer s H E hr hcm;obtain ⟨hl,b,l,st0,S0,r0,P0⟩:=hsp;refine ⟨_,hB,b,Qg N.length l,st0,S0,REnv.init r0,?_⟩;have hne:g l st0 ≠ .no:=fun z=>by rw [z] at P0;exact P0
 have P1:=hg l st0 (by rw [r0.length];exact hl) hne K E H b Q S0.len P0
 cases e:B (Qg N.length l) st0 with
 |nx r st=>rw [e] at P1;exact fun s H' b' e' S' R'=>P1 .non H' b' e' S' (by unfold RV;rfl)
 |rt v st=>rw [e] at P1;exact P1
 |bk r st=>rw [e] at P1;exact P1.elim
 |ct r st=>rw [e] at P1;exact P1.elim
 |ex x st=>rw [e] at P1;exact P1
 |no=>rw [e] at P1;exact P1.elim
end
mutual
def peq:PV->PV->Bool
 | .non,.non=>true
 | .bl a,.bl c=>a==c
 | .int a,.int c=>a==c
 | .bl a,.int c=>(if a then 1 else 0)==c
 | .int a,.bl c=>a==(if c then 1 else 0)
 | .str a,.str c=>a==c
 | .tup l,.tup m=>peqs l m
 | .lst l,.lst m=>peqs l m
 |_,_=>false
def peqs:List PV->List PV->Bool
 |[],[]=>true
 |p::ps,q::qs=>peq p q&&peqs ps qs
 |_,_=>false
end
mutual
def nr:PV->Bool
 | .tup l=>nrs l
 | .lst l=>nrs l
 | .ref _=>false
 | .dct=>false
 | .ty _=>false
 | .fn _=>false
 | .exc _ _=>false
 |_=>true
def nrs:List PV->Bool
 |[]=>true
 |p::ps=>nr p&&nrs ps
end
mutual
def dep:PV->Nat
 | .tup l=>deps l + 1
 | .lst l=>deps l + 1
 |_=>0
def deps:List PV->Nat
 |[]=>0
 |p::ps=>max (dep p) (deps ps)
end
mutual
def RW (K:W.Frag) (H:Hp):PV->V->Prop
 | .non,v=>v = .non
 | .bl x,v=>v = .bl x
 | .int i,v=>v = .int i
 | .str x,v=>v = .str x
 | .tup l,v => ∃ a xs,v = .ref a∧SqT K H a xs∧RWs K H l xs
 | .lst l,v => ∃ a xs,v = .ref a∧SqL K H a xs∧RWs K H l xs
 |_,_=>False
def RWs (K:W.Frag) (H:Hp):List PV->List V->Prop
 |[],xs=>xs=[]
 |p::ps,xs => ∃ x r,xs=x::r∧RW K H p x∧RWs K H ps r
end
mutual
theorem RV.rw {K:W.Frag} {H:Hp} {b:Bz}:∀ (p:PV) {v:V},nr p=true->RV K H b p v->RW K H p v
 | .non,_,_,h=>by unfold RV at h;unfold RW;exact h
 | .bl _,_,_,h=>by unfold RV at h;unfold RW;exact h
 | .int _,_,_,h=>by unfold RV at h;unfold RW;exact h
 | .str _,_,_,h=>by unfold RV at h;unfold RW;exact h
 | .tup l,_,n,h=>by unfold RV at h;unfold RW;unfold nr at n;obtain ⟨a,xs,h1,h2,h3⟩:=h;exact ⟨a,xs,h1,h2.sq,RVs.rws l n h3⟩
 | .lst l,_,n,h=>by unfold RV at h;unfold RW;unfold nr at n;obtain ⟨a,xs,h1,h2,h3⟩:=h;exact ⟨a,xs,h1,h2.sq,RVs.rws l n h3⟩
 | .ref _,_,n,_=>by unfold nr at n;cases n
 | .dct,_,n,_=>by unfold nr at n;cases n
 | .ty _,_,n,_=>by unfold nr at n;cases n
 | .fn _,_,n,_=>by unfold nr at n;cases n
 | .exc _ _,_,n,_=>by unfold nr at n;cases n
theorem RVs.rws {K:W.Frag} {H:Hp} {b:Bz}:∀ (l:List PV) {xs:List V},nrs l=true->RVs K H b l xs->RWs K H l xs
 |[],_,_,h=>by unfold RVs at h;unfold RWs;exact h
 |p::ps,_,n,h=>by unfold RVs at h;unfold RWs;unfold nrs at n;rw [AV] at n;obtain ⟨x,r,h1,h2,h3⟩:=h;exact ⟨x,r,h1,RV.rw p n.1 h2,RVs.rws ps n.2 h3⟩
end
theorem RWs.length {K:W.Frag} {H:Hp}:∀ {l:List PV} {xs:List V},RWs K H l xs->l.length=xs.length
 |[],_,h=>by unfold RWs at h;rw [h];rfl
 |p::ps,_,h=>by unfold RWs at h;obtain ⟨x,r,rfl,_,h3⟩:=h;rw [AH,AH,RWs.length h3]
section
variable {X:Cx} {pins:List (Addr×Obj)} {σ:L2.St} {H:Hp} {s:Shared}
theorem Zh (I:L2.Inv X pins σ H s) {a:Addr} {xs ys:List V} (h1:SqL X.K H a xs) (h2:SqT X.K H a ys):False:=by obtain ⟨its,_,p,_⟩:=I.list h1;obtain ⟨its',_,q,_⟩:=I.tuple h2;obtain ⟨o,ho,hc,n,hd⟩:=p.isList;obtain ⟨o',ho',hc',_⟩:=q;rw [ho] at ho';cases ho';rw [hc] at hc';injection hc' with z;exact absurd z (by decide)
mutual
theorem RW.same (I:L2.Inv X pins σ H s):∀ (p q:PV) {v:V},RW X.K H p v->RW X.K H q v->peq p q=true
 | .non,q,v,h,g=>by unfold RW at h;subst h;cases q <;> unfold RW at g <;> first |rfl |exact (g:False).elim |(obtain ⟨_,_,e,_⟩:=g;cases e) |cases g
 | .bl x,q,v,h,g=>by unfold RW at h;subst h;cases q <;> unfold RW at g <;> first |(obtain ⟨_,_,e,_⟩:=g;cases e) |(cases g;simp [peq];done) |exact (g:False).elim |cases g
 | .int x,q,v,h,g=>by unfold RW at h;subst h;cases q <;> unfold RW at g <;> first |(obtain ⟨_,_,e,_⟩:=g;cases e) |(cases g;simp [peq];done) |exact (g:False).elim |cases g
 | .str x,q,v,h,g=>by unfold RW at h;subst h;cases q <;> unfold RW at g <;> first |(obtain ⟨_,_,e,_⟩:=g;cases e) |(cases g;simp [peq];done) |exact (g:False).elim |cases g
 | .tup l,q,v,h,g=>by
  unfold RW at h;obtain ⟨a,xs,rfl,h2,h3⟩:=h;cases q with
  |tup m =>
   unfold RW at g;obtain ⟨a',ys,e,g2,g3⟩:=g;cases e
   have:=I.tuple_inj h2 g2
   subst this;unfold peq;exact RWs.same I l m h3 g3
  |lst m =>unfold RW at g;obtain ⟨a',ys,e,g2,g3⟩:=g;cases e;exact (Zh I g2 h2).elim
  |ref _=>unfold RW at g;exact g.elim
  |dct=>unfold RW at g;exact g.elim
  |ty _=>unfold RW at g;exact g.elim
  |fn _=>unfold RW at g;exact g.elim
  |exc _ _=>unfold RW at g;exact g.elim
  |non=>unfold RW at g;cases g
  |bl _=>unfold RW at g;cases g
  |int _=>unfold RW at g;cases g
  |str _=>unfold RW at g;cases g
 | .lst l,q,v,h,g=>by
  unfold RW at h;obtain ⟨a,xs,rfl,h2,h3⟩:=h;cases q with
  |lst m =>
   unfold RW at g;obtain ⟨a',ys,e,g2,g3⟩:=g;cases e
   have:=I.list_inj h2 g2
   subst this;unfold peq;exact RWs.same I l m h3 g3
  |tup m =>unfold RW at g;obtain ⟨a',ys,e,g2,g3⟩:=g;cases e;exact (Zh I h2 g2).elim
  |ref _=>unfold RW at g;exact g.elim
  |dct=>unfold RW at g;exact g.elim
  |ty _=>unfold RW at g;exact g.elim
  |fn _=>unfold RW at g;exact g.elim
  |exc _ _=>unfold RW at g;exact g.elim
  |non=>unfold RW at g;cases g
  |bl _=>unfold RW at g;cases g
  |int _=>unfold RW at g;cases g
  |str _=>unfold RW at g;cases g
 | .ref _,_,_,h,_=>by unfold RW at h;exact h.elim
 | .dct,_,_,h,_=>by unfold RW at h;exact h.elim
 | .ty _,_,_,h,_=>by unfold RW at h;exact h.elim
 | .fn _,_,_,h,_=>by unfold RW at h;exact h.elim
 | .exc _ _,_,_,h,_=>by unfold RW at h;exact h.elim
theorem RWs.same (I:L2.Inv X pins σ H s):∀ (l m:List PV) {xs:List V},RWs X.K H l xs->RWs X.K H m xs->peqs l m=true
 |[],m,xs,h,g=>by
  unfold RWs at h;subst h;cases m with
  |nil=>rfl
  |cons _ _=>unfold RWs at g;obtain ⟨_,_,e,_⟩:=g;cases e
 |p::ps,m,xs,h,g=>by
  unfold RWs at h;obtain ⟨x,r,rfl,h2,h3⟩:=h;cases m with
  |nil=>unfold RWs at g;cases g
  |cons q qs =>unfold RWs at g;obtain ⟨y,t,e,g2,g3⟩:=g;cases e;unfold peqs;rw [RW.same I p q h2 g2,RWs.same I ps qs h3 g3];rfl
end
def eqN (l m:List PV) (j:Nat):Bool:=match l[j]?,m[j]? with
 |some p,some q=>peq p q
 |_,_=>false
theorem za:∀ (l m:List PV),l.length=m.length->(List.range l.length).all (eqN l m)=peqs l m
 |[],[],_=>rfl
 |p::ps,q::qs,h=>by
  have ih:=za ps qs (by simpa using h)
  rw [AH,B2,Bc,List.all_map];unfold peqs;have e0:eqN (p::ps) (q::qs) 0=peq p q:=rfl;have e1:(eqN (p::ps) (q::qs) ∘ Nat.succ)=eqN ps qs:=by funext j;rfl
  rw [e0,e1,ih]
 |[],_::_,h=>by simp at h
 |_::_,[],h=>by simp at h
theorem Wr:∀ (l m:List PV),l.length≠m.length->peqs l m=false
 |[],[],h=>absurd rfl h
 |[],_::_,_=>rfl
 |_::_,[],_=>rfl
 |p::ps,q::qs,h=>by unfold peqs;rw [Wr ps qs (by intro z;apply h;rw [AH,AH,z]),Bs]
theorem RWs.get' {K:W.Frag} {H:Hp}:∀ {l:List PV} {xs:List V} {i:Nat} {x:V},RWs K H l xs->xs[i]? = some x -> ∃ p,l[i]? = some p∧RW K H p x
 |[],_,_,_,h,e=>by unfold RWs at h;subst h;simp at e
 |p::ps,_,0,x,h,e=>by unfold RWs at h;obtain ⟨y,r,rfl,h2,h3⟩:=h;simp at e;subst e;exact ⟨p,rfl,h2⟩
 |p::ps,_,i + 1,x,h,e=>by
  unfold RWs at h;obtain ⟨y,r,rfl,h2,h3⟩:=h;obtain ⟨q,e1,e2⟩:=RWs.get' (i:=i) h3 (by simpa using e)
  exact ⟨q,by simpa using e1,e2⟩
theorem Vals.get2:∀ {xs:List V} {us:List Value} {i:Nat} {u:Value},Vals xs us->us[i]? = some u -> ∃ x,xs[i]? = some x∧RelV x u
 |_,_,_,_,.nil,e=>by simp at e
 |_,_,0,_,.cons r _,e=>by simp at e;subst e;exact ⟨_,rfl,r⟩
 |_,_,i + 1,u,.cons _ t,e=>by
  obtain ⟨x,h1,h2⟩:=Vals.get2 (i:=i) (u:=u) t (by simpa using e)
  exact ⟨x,by simpa using h1,h2⟩
theorem Q2 (I:L2.Inv X pins σ H s) (p q:PV) {v u:V} {uv uu:Value} {A:Around} (hd:dep p=0) (hu':A.units < cLine) (hp:RW X.K H p v) (hq:RW X.K H q u) (rv:RelV v uv) (ru:RelV u uu):SeqAt.EqAt A s uv uu (peq p q):=by
 cases p with
 |tup l=>unfold dep at hd;omega
 |lst l=>unfold dep at hd;omega
 |ref _=>unfold RW at hp;exact hp.elim
 |dct=>unfold RW at hp;exact hp.elim
 |ty _=>unfold RW at hp;exact hp.elim
 |fn _=>unfold RW at hp;exact hp.elim
 |exc _ _=>unfold RW at hp;exact hp.elim
 |non =>
  unfold RW at hp;subst hp;cases rv;cases q with
  |non=>unfold RW at hq;subst hq;cases ru;exact SeqAt.EqAt.same _
  |bl _=>unfold RW at hq;subst hq;cases ru;exact SeqAt.EqAt.none_bool _
  |int _=>unfold RW at hq;subst hq;obtain ⟨t,rfl⟩:=ru;exact SeqAt.EqAt.none_int _ _
  |str _=>unfold RW at hq;subst hq;obtain ⟨t,rfl⟩:=ru;exact SeqAt.EqAt.none_str _ _
  |tup _=>unfold RW at hq;obtain ⟨a,xs,rfl,h2,_⟩:=hq;cases ru;obtain ⟨its,_,t,_⟩:=I.tuple h2;exact SeqAt.EqAt.none_tuple t hu'
  |lst _=>unfold RW at hq;obtain ⟨a,xs,rfl,h2,_⟩:=hq;cases ru;obtain ⟨its,_,t,_⟩:=I.list h2;exact SeqAt.EqAt.none_list t.isList hu'
  |ref _=>unfold RW at hq;exact hq.elim
  |dct=>unfold RW at hq;exact hq.elim
  |ty _=>unfold RW at hq;exact hq.elim
  |fn _=>unfold RW at hq;exact hq.elim
  |exc _ _=>unfold RW at hq;exact hq.elim
 |bl x =>
  unfold RW at hp;subst hp;cases rv;cases q with
  |non=>unfold RW at hq;subst hq;cases ru;exact SeqAt.EqAt.bool_none _
  |bl _=>unfold RW at hq;subst hq;cases ru;exact SeqAt.EqAt.bool_bool _ _
  |int _=>unfold RW at hq;subst hq;obtain ⟨t,rfl⟩:=ru;exact SeqAt.EqAt.bool_int _ _ _
  |str _=>unfold RW at hq;subst hq;obtain ⟨t,rfl⟩:=ru;exact SeqAt.EqAt.bool_str _ _ _
  |tup _=>unfold RW at hq;obtain ⟨a,xs,rfl,h2,_⟩:=hq;cases ru;obtain ⟨its,_,t,_⟩:=I.tuple h2;exact SeqAt.EqAt.bool_tuple _ t hu'
  |lst _=>unfold RW at hq;obtain ⟨a,xs,rfl,h2,_⟩:=hq;cases ru;obtain ⟨its,_,t,_⟩:=I.list h2;exact SeqAt.EqAt.bool_list _ t.isList hu'
  |ref _=>unfold RW at hq;exact hq.elim
  |dct=>unfold RW at hq;exact hq.elim
  |ty _=>unfold RW at hq;exact hq.elim
  |fn _=>unfold RW at hq;exact hq.elim
  |exc _ _=>unfold RW at hq;exact hq.elim
 |int x =>
  unfold RW at hp;subst hp;obtain ⟨t0,rfl⟩:=rv;cases q with
  |non=>unfold RW at hq;subst hq;cases ru;exact SeqAt.EqAt.int_none _ _
  |bl _=>unfold RW at hq;subst hq;cases ru;exact SeqAt.EqAt.int_bool _ _ _
  |int _=>unfold RW at hq;subst hq;obtain ⟨t,rfl⟩:=ru;exact SeqAt.EqAt.int_int _ _ _ _
  |str _=>unfold RW at hq;subst hq;obtain ⟨t,rfl⟩:=ru;exact SeqAt.EqAt.int_str _ _ _ _
  |tup _=>unfold RW at hq;obtain ⟨a,xs,rfl,h2,_⟩:=hq;cases ru;obtain ⟨its,_,t,_⟩:=I.tuple h2;exact SeqAt.EqAt.int_tuple _ _ t hu'
  |lst _=>unfold RW at hq;obtain ⟨a,xs,rfl,h2,_⟩:=hq;cases ru;obtain ⟨its,_,t,_⟩:=I.list h2;exact SeqAt.EqAt.int_list _ _ t.isList hu'
  |ref _=>unfold RW at hq;exact hq.elim
  |dct=>unfold RW at hq;exact hq.elim
  |ty _=>unfold RW at hq;exact hq.elim
  |fn _=>unfold RW at hq;exact hq.elim
  |exc _ _=>unfold RW at hq;exact hq.elim
 |str x =>
  unfold RW at hp;subst hp;obtain ⟨t0,rfl⟩:=rv;cases q with
  |non=>unfold RW at hq;subst hq;cases ru;exact SeqAt.EqAt.str_none _ _
  |bl _=>unfold RW at hq;subst hq;cases ru;exact SeqAt.EqAt.str_bool _ _ _
  |int _=>unfold RW at hq;subst hq;obtain ⟨t,rfl⟩:=ru;exact SeqAt.EqAt.str_int _ _ _ _
  |str _=>unfold RW at hq;subst hq;obtain ⟨t,rfl⟩:=ru;exact SeqAt.EqAt.str_str _ _ _ _
  |tup _=>unfold RW at hq;obtain ⟨a,xs,rfl,h2,_⟩:=hq;cases ru;obtain ⟨its,_,t,_⟩:=I.tuple h2;exact SeqAt.EqAt.str_tuple _ _ t hu'
  |lst _=>unfold RW at hq;obtain ⟨a,xs,rfl,h2,_⟩:=hq;cases ru;obtain ⟨its,_,t,_⟩:=I.list h2;exact SeqAt.EqAt.str_list _ _ t.isList hu'
  |ref _=>unfold RW at hq;exact hq.elim
  |dct=>unfold RW at hq;exact hq.elim
  |ty _=>unfold RW at hq;exact hq.elim
  |fn _=>unfold RW at hq;exact hq.elim
  |exc _ _=>unfold RW at hq;exact hq.elim
theorem zH:∀ {l:List PV} {i:Nat} {p:PV},l[i]? = some p->dep p≤deps l
 |[],_,_,h=>by simp at h
 |q::qs,0,p,h=>by simp at h;subst h;unfold deps;exact Nat.le_max_left _ _
 |q::qs,i + 1,p,h=>by unfold deps;exact Aa (zH (l:=qs) (i:=i) (by simpa using h)) (Nat.le_max_right _ _)
theorem J5 (I:L2.Inv X pins σ H s):∀ (n:Nat) (p q:PV) (v u:V) (uv uu:Value) (A:Around),dep p≤n->A.units + n < cLine->RW X.K H p v->RW X.K H q u->RelV v uv->RelV u uu->SeqAt.EqAt A s uv uu (peq p q):=by
 intro n;induction n with
 |zero=>intro p q v u uv uu A hd hu hp hq rv ru;exact Q2 I p q (Nat.le_zero.mp hd) hu hp hq rv ru
 |succ n ih =>
  intro p q v u uv uu A hd hu hp hq rv ru;have hu':A.units < cLine:=BY (Nat.le_add_right _ _) hu;have hin:A.in1.units + n < cLine:=by show A.units + 1 + n < cLine;omega
  have elt:∀ {l m:List PV} {xs ys:List V} {its its2:List Value},deps l≤n->RWs X.K H l xs->RWs X.K H m ys->Vals xs its->Vals ys its2 -> ∀ j (h1:j < its.toArray.size) (h2:j < its2.toArray.size),SeqAt.EqAt A.in1 s its.toArray[j] its2.toArray[j] (eqN l m j):=fun {l m xs ys its its2} hdl hl hm vl vm j h1 h2=>by
   have e1:its[j]? = some its.toArray[j]:=by simp
   have e2:its2[j]? = some its2.toArray[j]:=by simp
   obtain ⟨x,hx,rx⟩:=Vals.get2 vl e1;obtain ⟨y,hy,ry⟩:=Vals.get2 vm e2;obtain ⟨p',hp',rp'⟩:=RWs.get' hl hx;obtain ⟨q',hq',rq'⟩:=RWs.get' hm hy
   have:eqN l m j=peq p' q':=by unfold eqN;rw [hp',hq']
   rw [this];exact ih p' q' x y _ _ A.in1 (Aa (zH hp') hdl) hin rp' rq' rx ry
  cases p with
  |tup l =>
   have hp0:=hp;unfold RW at hp;unfold dep at hd;obtain ⟨a,xs,rfl,h2,h3⟩:=hp;cases rv;obtain ⟨its,vl,tl,_⟩:=I.tuple h2;cases q with
   |non=>unfold RW at hq;subst hq;cases ru;exact SeqAt.EqAt.tuple_none tl hu'
   |bl _=>unfold RW at hq;subst hq;cases ru;exact SeqAt.EqAt.tuple_bool _ tl hu'
   |int _=>unfold RW at hq;subst hq;obtain ⟨t,rfl⟩:=ru;exact SeqAt.EqAt.tuple_int _ _ tl hu'
   |str _=>unfold RW at hq;subst hq;obtain ⟨t,rfl⟩:=ru;exact SeqAt.EqAt.tuple_str _ _ tl hu'
   |lst _=>unfold RW at hq;obtain ⟨a,xs,rfl,h2,_⟩:=hq;cases ru;obtain ⟨its,_,t,_⟩:=I.list h2;exact SeqAt.EqAt.tuple_list tl t.isList hu'
   |ref _=>unfold RW at hq;exact hq.elim
   |dct=>unfold RW at hq;exact hq.elim
   |ty _=>unfold RW at hq;exact hq.elim
   |fn _=>unfold RW at hq;exact hq.elim
   |exc _ _=>unfold RW at hq;exact hq.elim
   |tup m =>
    have hq0:=hq;unfold RW at hq;obtain ⟨a2,ys,rfl,g2,g3⟩:=hq;cases ru;obtain ⟨its2,vm,tm,_⟩:=I.tuple g2;by_cases ha:a=a2
    ·subst ha;rw [RW.same I _ _ hp0 hq0];exact SeqAt.EqAt.same _
    ·refine SeqAt.EqAt.of_refs ha ?_;have rc:=SeqAt.RcAt.tuples (e:=eqN l m) tl tm hu' (elt (by omega) h3 g3 vl vm)
     have hl1:its.toArray.size=l.length:=by rw [AM,← vl.length,h3.length]
     have hl2:its2.toArray.size=m.length:=by rw [AM,← vm.length,g3.length]
     rw [hl1,hl2] at rc;have e:((List.range (min l.length m.length)).all (eqN l m)&&l.length==m.length)=peq (.tup l) (.tup m):=by
      unfold peq;by_cases hlm:l.length=m.length
      ·rw [← hlm,Nat.min_self,za l m hlm,Ay,Bool.and_true]
      ·rw [Wr l m hlm,Bj hlm,Bs]
     rw [e] at rc;exact rc
  |lst l =>
   have hp0:=hp;unfold RW at hp;unfold dep at hd;obtain ⟨a,xs,rfl,h2,h3⟩:=hp;cases rv;obtain ⟨its,vl,tl',_⟩:=I.list h2;have tl:=tl'.isList;cases q with
   |non=>unfold RW at hq;subst hq;cases ru;exact SeqAt.EqAt.list_none tl hu'
   |bl _=>unfold RW at hq;subst hq;cases ru;exact SeqAt.EqAt.list_bool _ tl hu'
   |int _=>unfold RW at hq;subst hq;obtain ⟨t,rfl⟩:=ru;exact SeqAt.EqAt.list_int _ _ tl hu'
   |str _=>unfold RW at hq;subst hq;obtain ⟨t,rfl⟩:=ru;exact SeqAt.EqAt.list_str _ _ tl hu'
   |tup _=>unfold RW at hq;obtain ⟨a,xs,rfl,h2,_⟩:=hq;cases ru;obtain ⟨its,_,t,_⟩:=I.tuple h2;exact SeqAt.EqAt.list_tuple tl t hu'
   |ref _=>unfold RW at hq;exact hq.elim
   |dct=>unfold RW at hq;exact hq.elim
   |ty _=>unfold RW at hq;exact hq.elim
   |fn _=>unfold RW at hq;exact hq.elim
   |exc _ _=>unfold RW at hq;exact hq.elim
   |lst m =>
    have hq0:=hq;unfold RW at hq;obtain ⟨a2,ys,rfl,g2,g3⟩:=hq;cases ru;obtain ⟨its2,vm,tm',_⟩:=I.list g2;have tm:=tm'.isList;by_cases ha:a=a2
    ·subst ha;rw [RW.same I _ _ hp0 hq0];exact SeqAt.EqAt.same _
    ·refine SeqAt.EqAt.of_refs ha ?_;have hl1:its.toArray.size=l.length:=by rw [AM,← vl.length,h3.length]
     have hl2:its2.toArray.size=m.length:=by rw [AM,← vm.length,g3.length]
     unfold peq;by_cases hlm:l.length=m.length
     ·have rc:=SeqAt.RcAt.lists (e:=eqN l m) tl tm (by rw [hl1,hl2,hlm]) hu' (elt (by omega) h3 g3 vl vm)
      rw [hl1,za l m hlm] at rc;exact rc
     ·rw [Wr l m hlm];exact SeqAt.RcAt.lists_lengths tl tm (by rw [hl1,hl2];exact bne_iff_ne.mpr hlm) hu'
  |non=>exact Q2 I _ q rfl hu' hp hq rv ru
  |bl _=>exact Q2 I _ q rfl hu' hp hq rv ru
  |int _=>exact Q2 I _ q rfl hu' hp hq rv ru
  |str _=>exact Q2 I _ q rfl hu' hp hq rv ru
  |ref _=>exact Q2 I _ q rfl hu' hp hq rv ru
  |dct=>exact Q2 I _ q rfl hu' hp hq rv ru
  |ty _=>exact Q2 I _ q rfl hu' hp hq rv ru
  |fn _=>exact Q2 I _ q rfl hu' hp hq rv ru
  |exc _ _=>exact Q2 I _ q rfl hu' hp hq rv ru
end
section
variable {X:Cx} {pins:List (Addr×Obj)} {σ:L2.St} {H:Hp} {s:Shared}
mutual
theorem RW.det (I:L2.Inv X pins σ H s):∀ (p q:PV) {v:V},RW X.K H p v->RW X.K H q v->p=q
 | .non,q,v,h,g=>by unfold RW at h;subst h;cases q <;> unfold RW at g <;> first |rfl |exact (g:False).elim |(obtain ⟨_,_,e,_⟩:=g;cases e) |cases g
 | .bl x,q,v,h,g=>by unfold RW at h;subst h;cases q <;> unfold RW at g <;> first |(obtain ⟨_,_,e,_⟩:=g;cases e) |(cases g;rfl) |exact (g:False).elim |cases g
 | .int x,q,v,h,g=>by unfold RW at h;subst h;cases q <;> unfold RW at g <;> first |(obtain ⟨_,_,e,_⟩:=g;cases e) |(cases g;rfl) |exact (g:False).elim |cases g
 | .str x,q,v,h,g=>by unfold RW at h;subst h;cases q <;> unfold RW at g <;> first |(obtain ⟨_,_,e,_⟩:=g;cases e) |(cases g;rfl) |exact (g:False).elim |cases g
 | .tup l,q,v,h,g=>by
  unfold RW at h;obtain ⟨a,xs,rfl,h2,h3⟩:=h;cases q with
  |tup m =>
   unfold RW at g;obtain ⟨a',ys,e,g2,g3⟩:=g;cases e
   have:=I.tuple_inj h2 g2
   subst this;rw [RWs.det I l m h3 g3]
  |lst m =>unfold RW at g;obtain ⟨a',ys,e,g2,g3⟩:=g;cases e;exact (Zh I g2 h2).elim
  |ref _=>unfold RW at g;exact g.elim
  |dct=>unfold RW at g;exact g.elim
  |ty _=>unfold RW at g;exact g.elim
  |fn _=>unfold RW at g;exact g.elim
  |exc _ _=>unfold RW at g;exact g.elim
  |non=>unfold RW at g;cases g
  |bl _=>unfold RW at g;cases g
  |int _=>unfold RW at g;cases g
  |str _=>unfold RW at g;cases g
 | .lst l,q,v,h,g=>by
  unfold RW at h;obtain ⟨a,xs,rfl,h2,h3⟩:=h;cases q with
  |lst m =>
   unfold RW at g;obtain ⟨a',ys,e,g2,g3⟩:=g;cases e
   have:=I.list_inj h2 g2
   subst this;rw [RWs.det I l m h3 g3]
  |tup m =>unfold RW at g;obtain ⟨a',ys,e,g2,g3⟩:=g;cases e;exact (Zh I h2 g2).elim
  |ref _=>unfold RW at g;exact g.elim
  |dct=>unfold RW at g;exact g.elim
  |ty _=>unfold RW at g;exact g.elim
  |fn _=>unfold RW at g;exact g.elim
  |exc _ _=>unfold RW at g;exact g.elim
  |non=>unfold RW at g;cases g
  |bl _=>unfold RW at g;cases g
  |int _=>unfold RW at g;cases g
  |str _=>unfold RW at g;cases g
 | .ref _,_,_,h,_=>by unfold RW at h;exact h.elim
 | .dct,_,_,h,_=>by unfold RW at h;exact h.elim
 | .ty _,_,_,h,_=>by unfold RW at h;exact h.elim
 | .fn _,_,_,h,_=>by unfold RW at h;exact h.elim
 | .exc _ _,_,_,h,_=>by unfold RW at h;exact h.elim
theorem RWs.det (I:L2.Inv X pins σ H s):∀ (l m:List PV) {xs:List V},RWs X.K H l xs->RWs X.K H m xs->l=m
 |[],m,xs,h,g=>by
  unfold RWs at h;subst h;cases m with
  |nil=>rfl
  |cons _ _=>unfold RWs at g;obtain ⟨_,_,e,_⟩:=g;cases e
 |p::ps,m,xs,h,g=>by
  unfold RWs at h;obtain ⟨x,r,rfl,h2,h3⟩:=h;cases m with
  |nil=>unfold RWs at g;cases g
  |cons q qs =>unfold RWs at g;obtain ⟨y,t,e,g2,g3⟩:=g;cases e;rw [RW.det I p q h2 g2,RWs.det I ps qs h3 g3]
end
theorem wN (I:L2.Inv X pins σ H s) (p q:PV) {v u:V} {uv uu:Value} {A:Around} (hd:dep p=0) (hu':A.units < cLine) (hp:RW X.K H p v) (hq:RW X.K H q u) (rv:RelV v uv) (ru:RelV u uu):SeqAt.RcAt A s uv uu (peq p q):=by
 cases p with
 |tup l=>unfold dep at hd;omega
 |lst l=>unfold dep at hd;omega
 |ref _=>unfold RW at hp;exact hp.elim
 |dct=>unfold RW at hp;exact hp.elim
 |ty _=>unfold RW at hp;exact hp.elim
 |fn _=>unfold RW at hp;exact hp.elim
 |exc _ _=>unfold RW at hp;exact hp.elim
 |non =>
  unfold RW at hp;subst hp;cases rv;cases q with
  |non=>unfold RW at hq;subst hq;cases ru;exact SeqAt.RcAt.none_none
  |bl _=>unfold RW at hq;subst hq;cases ru;exact SeqAt.RcAt.none_bool _
  |int _=>unfold RW at hq;subst hq;obtain ⟨t,rfl⟩:=ru;exact SeqAt.RcAt.none_int _ _
  |str _=>unfold RW at hq;subst hq;obtain ⟨t,rfl⟩:=ru;exact SeqAt.RcAt.none_str _ _
  |tup _=>unfold RW at hq;obtain ⟨a,xs,rfl,h2,_⟩:=hq;cases ru;obtain ⟨its,_,t,_⟩:=I.tuple h2;exact SeqAt.RcAt.none_tuple t hu'
  |lst _=>unfold RW at hq;obtain ⟨a,xs,rfl,h2,_⟩:=hq;cases ru;obtain ⟨its,_,t,_⟩:=I.list h2;exact SeqAt.RcAt.none_list t.isList hu'
  |ref _=>unfold RW at hq;exact hq.elim
  |dct=>unfold RW at hq;exact hq.elim
  |ty _=>unfold RW at hq;exact hq.elim
  |fn _=>unfold RW at hq;exact hq.elim
  |exc _ _=>unfold RW at hq;exact hq.elim
 |bl x =>
  unfold RW at hp;subst hp;cases rv;cases q with
  |non=>unfold RW at hq;subst hq;cases ru;exact SeqAt.RcAt.bool_none _
  |bl _=>unfold RW at hq;subst hq;cases ru;exact SeqAt.RcAt.bool_bool _ _
  |int _=>unfold RW at hq;subst hq;obtain ⟨t,rfl⟩:=ru;exact SeqAt.RcAt.bool_int _ _ _
  |str _=>unfold RW at hq;subst hq;obtain ⟨t,rfl⟩:=ru;exact SeqAt.RcAt.bool_str _ _ _
  |tup _=>unfold RW at hq;obtain ⟨a,xs,rfl,h2,_⟩:=hq;cases ru;obtain ⟨its,_,t,_⟩:=I.tuple h2;exact SeqAt.RcAt.bool_tuple _ t hu'
  |lst _=>unfold RW at hq;obtain ⟨a,xs,rfl,h2,_⟩:=hq;cases ru;obtain ⟨its,_,t,_⟩:=I.list h2;exact SeqAt.RcAt.bool_list _ t.isList hu'
  |ref _=>unfold RW at hq;exact hq.elim
  |dct=>unfold RW at hq;exact hq.elim
  |ty _=>unfold RW at hq;exact hq.elim
  |fn _=>unfold RW at hq;exact hq.elim
  |exc _ _=>unfold RW at hq;exact hq.elim
 |int x =>
  unfold RW at hp;subst hp;obtain ⟨t0,rfl⟩:=rv;cases q with
  |non=>unfold RW at hq;subst hq;cases ru;exact SeqAt.RcAt.int_none _ _
  |bl _=>unfold RW at hq;subst hq;cases ru;exact SeqAt.RcAt.int_bool _ _ _
  |int _=>unfold RW at hq;subst hq;obtain ⟨t,rfl⟩:=ru;exact SeqAt.RcAt.int_int _ _ _ _
  |str _=>unfold RW at hq;subst hq;obtain ⟨t,rfl⟩:=ru;exact SeqAt.RcAt.int_str _ _ _ _
  |tup _=>unfold RW at hq;obtain ⟨a,xs,rfl,h2,_⟩:=hq;cases ru;obtain ⟨its,_,t,_⟩:=I.tuple h2;exact SeqAt.RcAt.int_tuple _ _ t hu'
  |lst _=>unfold RW at hq;obtain ⟨a,xs,rfl,h2,_⟩:=hq;cases ru;obtain ⟨its,_,t,_⟩:=I.list h2;exact SeqAt.RcAt.int_list _ _ t.isList hu'
  |ref _=>unfold RW at hq;exact hq.elim
  |dct=>unfold RW at hq;exact hq.elim
  |ty _=>unfold RW at hq;exact hq.elim
  |fn _=>unfold RW at hq;exact hq.elim
  |exc _ _=>unfold RW at hq;exact hq.elim
 |str x =>
  unfold RW at hp;subst hp;obtain ⟨t0,rfl⟩:=rv;cases q with
  |non=>unfold RW at hq;subst hq;cases ru;exact SeqAt.RcAt.str_none _ _
  |bl _=>unfold RW at hq;subst hq;cases ru;exact SeqAt.RcAt.str_bool _ _ _
  |int _=>unfold RW at hq;subst hq;obtain ⟨t,rfl⟩:=ru;exact SeqAt.RcAt.str_int _ _ _ _
  |str _=>unfold RW at hq;subst hq;obtain ⟨t,rfl⟩:=ru;exact SeqAt.RcAt.str_str _ _ _ _
  |tup _=>unfold RW at hq;obtain ⟨a,xs,rfl,h2,_⟩:=hq;cases ru;obtain ⟨its,_,t,_⟩:=I.tuple h2;exact SeqAt.RcAt.str_tuple _ _ t hu'
  |lst _=>unfold RW at hq;obtain ⟨a,xs,rfl,h2,_⟩:=hq;cases ru;obtain ⟨its,_,t,_⟩:=I.list h2;exact SeqAt.RcAt.str_list _ _ t.isList hu'
  |ref _=>unfold RW at hq;exact hq.elim
  |dct=>unfold RW at hq;exact hq.elim
  |ty _=>unfold RW at hq;exact hq.elim
  |fn _=>unfold RW at hq;exact hq.elim
  |exc _ _=>unfold RW at hq;exact hq.elim
theorem wQ (I:L2.Inv X pins σ H s) (p q:PV) {v u:V} {uv uu:Value} {A:Around} (hd:dep p=0) (hu':A.units < cLine) (hp:RW X.K H p v) (hq:RW X.K H q u) (rv:RelV v uv) (ru:RelV u uu):SeqAt.RcNeAt A s uv uu (!peq p q):=by
 cases p with
 |tup l=>unfold dep at hd;omega
 |lst l=>unfold dep at hd;omega
 |ref _=>unfold RW at hp;exact hp.elim
 |dct=>unfold RW at hp;exact hp.elim
 |ty _=>unfold RW at hp;exact hp.elim
 |fn _=>unfold RW at hp;exact hp.elim
 |exc _ _=>unfold RW at hp;exact hp.elim
 |non =>
  unfold RW at hp;subst hp;cases rv;cases q with
  |non=>unfold RW at hq;subst hq;cases ru;exact SeqAt.RcNeAt.none_none
  |bl _=>unfold RW at hq;subst hq;cases ru;exact SeqAt.RcNeAt.none_bool _
  |int _=>unfold RW at hq;subst hq;obtain ⟨t,rfl⟩:=ru;exact SeqAt.RcNeAt.none_int _ _
  |str _=>unfold RW at hq;subst hq;obtain ⟨t,rfl⟩:=ru;exact SeqAt.RcNeAt.none_str _ _
  |tup _=>unfold RW at hq;obtain ⟨a,xs,rfl,h2,_⟩:=hq;cases ru;obtain ⟨its,_,t,_⟩:=I.tuple h2;exact SeqAt.RcNeAt.none_tuple t hu'
  |lst _=>unfold RW at hq;obtain ⟨a,xs,rfl,h2,_⟩:=hq;cases ru;obtain ⟨its,_,t,_⟩:=I.list h2;exact SeqAt.RcNeAt.none_list t.isList hu'
  |ref _=>unfold RW at hq;exact hq.elim
  |dct=>unfold RW at hq;exact hq.elim
  |ty _=>unfold RW at hq;exact hq.elim
  |fn _=>unfold RW at hq;exact hq.elim
  |exc _ _=>unfold RW at hq;exact hq.elim
 |bl x =>
  unfold RW at hp;subst hp;cases rv;cases q with
  |non=>unfold RW at hq;subst hq;cases ru;exact SeqAt.RcNeAt.bool_none _
  |bl _=>unfold RW at hq;subst hq;cases ru;exact SeqAt.RcNeAt.bool_bool _ _
  |int _=>unfold RW at hq;subst hq;obtain ⟨t,rfl⟩:=ru;exact SeqAt.RcNeAt.bool_int _ _ _
  |str _=>unfold RW at hq;subst hq;obtain ⟨t,rfl⟩:=ru;exact SeqAt.RcNeAt.bool_str _ _ _
  |tup _=>unfold RW at hq;obtain ⟨a,xs,rfl,h2,_⟩:=hq;cases ru;obtain ⟨its,_,t,_⟩:=I.tuple h2;exact SeqAt.RcNeAt.bool_tuple _ t hu'
  |lst _=>unfold RW at hq;obtain ⟨a,xs,rfl,h2,_⟩:=hq;cases ru;obtain ⟨its,_,t,_⟩:=I.list h2;exact SeqAt.RcNeAt.bool_list _ t.isList hu'
  |ref _=>unfold RW at hq;exact hq.elim
  |dct=>unfold RW at hq;exact hq.elim
  |ty _=>unfold RW at hq;exact hq.elim
  |fn _=>unfold RW at hq;exact hq.elim
  |exc _ _=>unfold RW at hq;exact hq.elim
 |int x =>
  unfold RW at hp;subst hp;obtain ⟨t0,rfl⟩:=rv;cases q with
  |non=>unfold RW at hq;subst hq;cases ru;exact SeqAt.RcNeAt.int_none _ _
  |bl _=>unfold RW at hq;subst hq;cases ru;exact SeqAt.RcNeAt.int_bool _ _ _
  |int _=>unfold RW at hq;subst hq;obtain ⟨t,rfl⟩:=ru;exact SeqAt.RcNeAt.int_int _ _ _ _
  |str _=>unfold RW at hq;subst hq;obtain ⟨t,rfl⟩:=ru;exact SeqAt.RcNeAt.int_str _ _ _ _
  |tup _=>unfold RW at hq;obtain ⟨a,xs,rfl,h2,_⟩:=hq;cases ru;obtain ⟨its,_,t,_⟩:=I.tuple h2;exact SeqAt.RcNeAt.int_tuple _ _ t hu'
  |lst _=>unfold RW at hq;obtain ⟨a,xs,rfl,h2,_⟩:=hq;cases ru;obtain ⟨its,_,t,_⟩:=I.list h2;exact SeqAt.RcNeAt.int_list _ _ t.isList hu'
  |ref _=>unfold RW at hq;exact hq.elim
  |dct=>unfold RW at hq;exact hq.elim
  |ty _=>unfold RW at hq;exact hq.elim
  |fn _=>unfold RW at hq;exact hq.elim
  |exc _ _=>unfold RW at hq;exact hq.elim
 |str x =>
  unfold RW at hp;subst hp;obtain ⟨t0,rfl⟩:=rv;cases q with
  |non=>unfold RW at hq;subst hq;cases ru;exact SeqAt.RcNeAt.str_none _ _
  |bl _=>unfold RW at hq;subst hq;cases ru;exact SeqAt.RcNeAt.str_bool _ _ _
  |int _=>unfold RW at hq;subst hq;obtain ⟨t,rfl⟩:=ru;exact SeqAt.RcNeAt.str_int _ _ _ _
  |str _=>unfold RW at hq;subst hq;obtain ⟨t,rfl⟩:=ru;exact SeqAt.RcNeAt.str_str _ _ _ _
  |tup _=>unfold RW at hq;obtain ⟨a,xs,rfl,h2,_⟩:=hq;cases ru;obtain ⟨its,_,t,_⟩:=I.tuple h2;exact SeqAt.RcNeAt.str_tuple _ _ t hu'
  |lst _=>unfold RW at hq;obtain ⟨a,xs,rfl,h2,_⟩:=hq;cases ru;obtain ⟨its,_,t,_⟩:=I.list h2;exact SeqAt.RcNeAt.str_list _ _ t.isList hu'
  |ref _=>unfold RW at hq;exact hq.elim
  |dct=>unfold RW at hq;exact hq.elim
  |ty _=>unfold RW at hq;exact hq.elim
  |fn _=>unfold RW at hq;exact hq.elim
  |exc _ _=>unfold RW at hq;exact hq.elim
theorem qIn (I:L2.Inv X pins σ H s) (p q:PV) {v u:V} {uv uu:Value} {A:Around} (hu:A.units + (dep p + 1) < cLine) (hp:RW X.K H p v) (hq:RW X.K H q u) (rv:RelV v uv) (ru:RelV u uu):SeqAt.RcAt A s uv uu (peq p q):=by
 have hu':A.units < cLine:=BY (Nat.le_add_right _ _) hu;have elt:∀ {n:Nat} {l m:List PV} {xs ys:List V} {its its2:List Value},A.in1.units + n < cLine->deps l≤n->RWs X.K H l xs->RWs X.K H m ys->Vals xs its->Vals ys its2 -> ∀ j (h1:j < its.toArray.size) (h2:j < its2.toArray.size),SeqAt.EqAt A.in1 s its.toArray[j] its2.toArray[j] (eqN l m j):=fun {n l m xs ys its its2} hin hdl hl hm vl vm j h1 h2=>by
  have e1:its[j]? = some its.toArray[j]:=by simp
  have e2:its2[j]? = some its2.toArray[j]:=by simp
  obtain ⟨x,hx,rx⟩:=Vals.get2 vl e1;obtain ⟨y,hy,ry⟩:=Vals.get2 vm e2;obtain ⟨p',hp',rp'⟩:=RWs.get' hl hx;obtain ⟨q',hq',rq'⟩:=RWs.get' hm hy
  have:eqN l m j=peq p' q':=by unfold eqN;rw [hp',hq']
  rw [this];exact J5 I n p' q' x y _ _ A.in1 (Aa (zH hp') hdl) hin rp' rq' rx ry
 cases p with
 |tup l =>
  have hp0:=hp;unfold RW at hp;obtain ⟨a,xs,rfl,h2,h3⟩:=hp;cases rv;obtain ⟨its,vl,tl,_⟩:=I.tuple h2;unfold dep at hu;cases q with
  |non=>unfold RW at hq;subst hq;cases ru;exact SeqAt.RcAt.tuple_none tl hu'
  |bl _=>unfold RW at hq;subst hq;cases ru;exact SeqAt.RcAt.tuple_bool _ tl hu'
  |int _=>unfold RW at hq;subst hq;obtain ⟨t,rfl⟩:=ru;exact SeqAt.RcAt.tuple_int _ _ tl hu'
  |str _=>unfold RW at hq;subst hq;obtain ⟨t,rfl⟩:=ru;exact SeqAt.RcAt.tuple_str _ _ tl hu'
  |lst _=>unfold RW at hq;obtain ⟨a,xs,rfl,h2,_⟩:=hq;cases ru;obtain ⟨its,_,t,_⟩:=I.list h2;exact SeqAt.RcAt.tuple_list tl t.isList hu'
  |ref _=>unfold RW at hq;exact hq.elim
  |dct=>unfold RW at hq;exact hq.elim
  |ty _=>unfold RW at hq;exact hq.elim
  |fn _=>unfold RW at hq;exact hq.elim
  |exc _ _=>unfold RW at hq;exact hq.elim
  |tup m =>
   unfold RW at hq;obtain ⟨a2,ys,rfl,g2,g3⟩:=hq;cases ru;obtain ⟨its2,vm,tm,_⟩:=I.tuple g2;have rc:=SeqAt.RcAt.tuples (e:=eqN l m) tl tm hu' (elt (n:=deps l) (by show A.units + 1 + deps l < cLine;omega) (AG _) h3 g3 vl vm)
   have hl1:its.toArray.size=l.length:=by rw [AM,← vl.length,h3.length]
   have hl2:its2.toArray.size=m.length:=by rw [AM,← vm.length,g3.length]
   rw [hl1,hl2] at rc;have e:((List.range (min l.length m.length)).all (eqN l m)&&l.length==m.length)=peq (.tup l) (.tup m):=by
    unfold peq;by_cases hlm:l.length=m.length
    ·rw [← hlm,Nat.min_self,za l m hlm,Ay,Bool.and_true]
    ·rw [Wr l m hlm,Bj hlm,Bs]
   rw [e] at rc;exact rc
 |lst l =>
  have hp0:=hp;unfold RW at hp;obtain ⟨a,xs,rfl,h2,h3⟩:=hp;cases rv;obtain ⟨its,vl,tl',_⟩:=I.list h2;have tl:=tl'.isList;unfold dep at hu;cases q with
  |non=>unfold RW at hq;subst hq;cases ru;exact SeqAt.RcAt.list_none tl hu'
  |bl _=>unfold RW at hq;subst hq;cases ru;exact SeqAt.RcAt.list_bool _ tl hu'
  |int _=>unfold RW at hq;subst hq;obtain ⟨t,rfl⟩:=ru;exact SeqAt.RcAt.list_int _ _ tl hu'
  |str _=>unfold RW at hq;subst hq;obtain ⟨t,rfl⟩:=ru;exact SeqAt.RcAt.list_str _ _ tl hu'
  |tup _=>unfold RW at hq;obtain ⟨a,xs,rfl,h2,_⟩:=hq;cases ru;obtain ⟨its,_,t,_⟩:=I.tuple h2;exact SeqAt.RcAt.list_tuple tl t hu'
  |ref _=>unfold RW at hq;exact hq.elim
  |dct=>unfold RW at hq;exact hq.elim
  |ty _=>unfold RW at hq;exact hq.elim
  |fn _=>unfold RW at hq;exact hq.elim
  |exc _ _=>unfold RW at hq;exact hq.elim
  |lst m =>
   unfold RW at hq;obtain ⟨a2,ys,rfl,g2,g3⟩:=hq;cases ru;obtain ⟨its2,vm,tm',_⟩:=I.list g2;have tm:=tm'.isList;have hl1:its.toArray.size=l.length:=by rw [AM,← vl.length,h3.length]
   have hl2:its2.toArray.size=m.length:=by rw [AM,← vm.length,g3.length]
   unfold peq;by_cases hlm:l.length=m.length
   ·have rc:=SeqAt.RcAt.lists (e:=eqN l m) tl tm (by rw [hl1,hl2,hlm]) hu' (elt (n:=deps l) (by show A.units + 1 + deps l < cLine;omega) (AG _) h3 g3 vl vm)
    rw [hl1,za l m hlm] at rc;exact rc
   ·rw [Wr l m hlm];exact SeqAt.RcAt.lists_lengths tl tm (by rw [hl1,hl2];exact bne_iff_ne.mpr hlm) hu'
 |non=>exact wN I _ q rfl hu' hp hq rv ru
 |bl _=>exact wN I _ q rfl hu' hp hq rv ru
 |int _=>exact wN I _ q rfl hu' hp hq rv ru
 |str _=>exact wN I _ q rfl hu' hp hq rv ru
 |ref _=>exact wN I _ q rfl hu' hp hq rv ru
 |dct=>exact wN I _ q rfl hu' hp hq rv ru
 |ty _=>exact wN I _ q rfl hu' hp hq rv ru
 |fn _=>exact wN I _ q rfl hu' hp hq rv ru
 |exc _ _=>exact wN I _ q rfl hu' hp hq rv ru
theorem qI4 (I:L2.Inv X pins σ H s) (p q:PV) {v u:V} {uv uu:Value} {A:Around} (hu:A.units + (dep p + 1) < cLine) (hp:RW X.K H p v) (hq:RW X.K H q u) (rv:RelV v uv) (ru:RelV u uu):SeqAt.RcNeAt A s uv uu (!peq p q):=by
 have hu':A.units < cLine:=BY (Nat.le_add_right _ _) hu;have elt:∀ {n:Nat} {l m:List PV} {xs ys:List V} {its its2:List Value},A.in1.units + n < cLine->deps l≤n->RWs X.K H l xs->RWs X.K H m ys->Vals xs its->Vals ys its2 -> ∀ j (h1:j < its.toArray.size) (h2:j < its2.toArray.size),SeqAt.EqAt A.in1 s its.toArray[j] its2.toArray[j] (eqN l m j):=fun {n l m xs ys its its2} hin hdl hl hm vl vm j h1 h2=>by
  have e1:its[j]? = some its.toArray[j]:=by simp
  have e2:its2[j]? = some its2.toArray[j]:=by simp
  obtain ⟨x,hx,rx⟩:=Vals.get2 vl e1;obtain ⟨y,hy,ry⟩:=Vals.get2 vm e2;obtain ⟨p',hp',rp'⟩:=RWs.get' hl hx;obtain ⟨q',hq',rq'⟩:=RWs.get' hm hy
  have:eqN l m j=peq p' q':=by unfold eqN;rw [hp',hq']
  rw [this];exact J5 I n p' q' x y _ _ A.in1 (Aa (zH hp') hdl) hin rp' rq' rx ry
 cases p with
 |tup l =>
  have hp0:=hp;unfold RW at hp;obtain ⟨a,xs,rfl,h2,h3⟩:=hp;cases rv;obtain ⟨its,vl,tl,_⟩:=I.tuple h2;unfold dep at hu;cases q with
  |non=>unfold RW at hq;subst hq;cases ru;exact SeqAt.RcNeAt.tuple_none tl hu'
  |bl _=>unfold RW at hq;subst hq;cases ru;exact SeqAt.RcNeAt.tuple_bool _ tl hu'
  |int _=>unfold RW at hq;subst hq;obtain ⟨t,rfl⟩:=ru;exact SeqAt.RcNeAt.tuple_int _ _ tl hu'
  |str _=>unfold RW at hq;subst hq;obtain ⟨t,rfl⟩:=ru;exact SeqAt.RcNeAt.tuple_str _ _ tl hu'
  |lst _=>unfold RW at hq;obtain ⟨a,xs,rfl,h2,_⟩:=hq;cases ru;obtain ⟨its,_,t,_⟩:=I.list h2;exact SeqAt.RcNeAt.tuple_list tl t.isList hu'
  |ref _=>unfold RW at hq;exact hq.elim
  |dct=>unfold RW at hq;exact hq.elim
  |ty _=>unfold RW at hq;exact hq.elim
  |fn _=>unfold RW at hq;exact hq.elim
  |exc _ _=>unfold RW at hq;exact hq.elim
  |tup m =>
   unfold RW at hq;obtain ⟨a2,ys,rfl,g2,g3⟩:=hq;cases ru;obtain ⟨its2,vm,tm,_⟩:=I.tuple g2;have rc:=SeqAt.RcNeAt.tuples (e:=eqN l m) tl tm hu' (elt (n:=deps l) (by show A.units + 1 + deps l < cLine;omega) (AG _) h3 g3 vl vm)
   have hl1:its.toArray.size=l.length:=by rw [AM,← vl.length,h3.length]
   have hl2:its2.toArray.size=m.length:=by rw [AM,← vm.length,g3.length]
   rw [hl1,hl2] at rc;have e:((List.range (min l.length m.length)).all (eqN l m)&&l.length==m.length)=peq (.tup l) (.tup m):=by
    unfold peq;by_cases hlm:l.length=m.length
    ·rw [← hlm,Nat.min_self,za l m hlm,Ay,Bool.and_true]
    ·rw [Wr l m hlm,Bj hlm,Bs]
   rw [e] at rc;exact rc
 |lst l =>
  have hp0:=hp;unfold RW at hp;obtain ⟨a,xs,rfl,h2,h3⟩:=hp;cases rv;obtain ⟨its,vl,tl',_⟩:=I.list h2;have tl:=tl'.isList;unfold dep at hu;cases q with
  |non=>unfold RW at hq;subst hq;cases ru;exact SeqAt.RcNeAt.list_none tl hu'
  |bl _=>unfold RW at hq;subst hq;cases ru;exact SeqAt.RcNeAt.list_bool _ tl hu'
  |int _=>unfold RW at hq;subst hq;obtain ⟨t,rfl⟩:=ru;exact SeqAt.RcNeAt.list_int _ _ tl hu'
  |str _=>unfold RW at hq;subst hq;obtain ⟨t,rfl⟩:=ru;exact SeqAt.RcNeAt.list_str _ _ tl hu'
  |tup _=>unfold RW at hq;obtain ⟨a,xs,rfl,h2,_⟩:=hq;cases ru;obtain ⟨its,_,t,_⟩:=I.tuple h2;exact SeqAt.RcNeAt.list_tuple tl t hu'
  |ref _=>unfold RW at hq;exact hq.elim
  |dct=>unfold RW at hq;exact hq.elim
  |ty _=>unfold RW at hq;exact hq.elim
  |fn _=>unfold RW at hq;exact hq.elim
  |exc _ _=>unfold RW at hq;exact hq.elim
  |lst m =>
   unfold RW at hq;obtain ⟨a2,ys,rfl,g2,g3⟩:=hq;cases ru;obtain ⟨its2,vm,tm',_⟩:=I.list g2;have tm:=tm'.isList;have hl1:its.toArray.size=l.length:=by rw [AM,← vl.length,h3.length]
   have hl2:its2.toArray.size=m.length:=by rw [AM,← vm.length,g3.length]
   unfold peq;by_cases hlm:l.length=m.length
   ·have rc:=SeqAt.RcNeAt.lists (e:=eqN l m) tl tm (by rw [hl1,hl2,hlm]) hu' (elt (n:=deps l) (by show A.units + 1 + deps l < cLine;omega) (AG _) h3 g3 vl vm)
    rw [hl1,za l m hlm] at rc;exact rc
   ·rw [Wr l m hlm];exact SeqAt.RcNeAt.lists_lengths tl tm (by rw [hl1,hl2];exact bne_iff_ne.mpr hlm) hu'
 |non=>exact wQ I _ q rfl hu' hp hq rv ru
 |bl _=>exact wQ I _ q rfl hu' hp hq rv ru
 |int _=>exact wQ I _ q rfl hu' hp hq rv ru
 |str _=>exact wQ I _ q rfl hu' hp hq rv ru
 |ref _=>exact wQ I _ q rfl hu' hp hq rv ru
 |dct=>exact wQ I _ q rfl hu' hp hq rv ru
 |ty _=>exact wQ I _ q rfl hu' hp hq rv ru
 |fn _=>exact wQ I _ q rfl hu' hp hq rv ru
 |exc _ _=>exact wQ I _ q rfl hu' hp hq rv ru
end
def res (st:qD) (p:PV):PV:=match asL st p with
 |some l => .lst l
 |none=>p
theorem ZR {K:W.Frag} {H:Hp} {b:Bz} {st:qD} {p:PV} {v:V} (S:SR K H b st) (r:RV K H b p v) (h:nr (res st p)=true):RW K H (res st p) v:=by
 unfold res at h ⊢;cases e:asL st p with
 |none=>rw [e] at h;exact RV.rw p h r
 |some l =>rw [e] at h;obtain ⟨a,xs,rfl,h2,h3⟩:=Q5 S r e;dsimp only at h ⊢;unfold nr at h;unfold RW;exact ⟨a,xs,rfl,h2,RVs.rws l h h3⟩
abbrev ZG:Nat:=60
def ZN (p q:PV):Bool:=nr p&&nr q&&decide (dep p≤ZG)
def gEq:PV->PV->qD->Rs PV:=fun p q st=>if ZN (res st p) (res st q)=true then .ok (.bl (peq (res st p) (res st q))) st else .no
def gNe:PV->PV->qD->Rs PV:=fun p q st=>if ZN (res st p) (res st q)=true then .ok (.bl (!peq (res st p) (res st q))) st else .no
section
variable {X:Cx} {E:XK} {e a c d:Expr} {es:List Expr} {f fa fb fc:FE} {pos:Pos}
def qFd (K:W.Frag) (neg:Bool):R2:=fun u v H Q => ∃ p q,RW K H p u∧RW K H q v∧dep p≤ZG∧Q (.bl (if neg then !peq p q else peq p q)) H
theorem zQ (hr:X.A.units + 64 < cLine):OpR X (compareOp .Eq) (qFd X.K false):=by intro pins s σ H x y v u Q I rx ry h;obtain ⟨p,q,hp,hq,hd,h⟩:=h;exact qIn I p q (by have:dep p≤60:=hd;omega) hp hq rx ry _ _ _ _ ⟨.bl _,H,I,rfl,h⟩
theorem zk (hr:X.A.units + 64 < cLine):OpR X (compareOp .NotEq) (qFd X.K true):=by intro pins s σ H x y v u Q I rx ry h;obtain ⟨p,q,hp,hq,hd,h⟩:=h;exact qI4 I p q (by have:dep p≤60:=hd;omega) hp hq rx ry _ _ _ _ ⟨.bl _,H,I,rfl,h⟩
theorem Yn {p q:PV} (h:ZN p q=true):nr p=true∧nr q=true∧dep p≤ZG:=by unfold ZN at h;rw [AV,AV] at h;exact ⟨h.1.1,h.1.2,BO h.2⟩
theorem Zl:OpG X E (qFd X.K false) gEq:=by
 intro H b st p q u v Q S rp rq P;unfold gEq at P;split at P
 ·rename_i h;obtain ⟨h1,h2,h3⟩:=Yn h;exact ⟨_,_,ZR S rp h1,ZR S rq h2,h3,PostE.here P S zE⟩
 ·exact P.elim
theorem yS:OpG X E (qFd X.K true) gNe:=by
 intro H b st p q u v Q S rp rq P;unfold gNe at P;split at P
 ·rename_i h;obtain ⟨h1,h2,h3⟩:=Yn h;exact ⟨_,_,ZR S rp h1,ZR S rq h2,h3,PostE.here P S zE⟩
 ·exact P.elim
theorem qAF (hr:X.A.units + 64 < cLine) (ha:VE X E a fa) (hb:VE X E c fb):VE X E (.Compare a [.Eq] [c] pos) (qI gEq fa fb):=j7 (zQ hr) Zl ha hb
def pin (x:PV):List PV->Bool
 |[]=>false
 |y::ys=>peq y x || pin x ys
def gIn (neg:Bool):PV->PV->qD->Rs PV:=fun p q st=>match zF st q with
 |some l=>if nrs l=true∧nr (res st p)=true∧deps l≤ZG then .ok (.bl (if neg then !pin (res st p) l else pin (res st p) l)) st else .no
 |none => .no
def qGy (K:W.Frag) (neg:Bool):R2:=fun u v H Q => ∃ p l a xs,v = .ref a∧(SqL K H a xs∨SqT K H a xs)∧RW K H p u∧RWs K H l xs∧deps l≤ZG∧Q (.bl (if neg then !pin p l else pin p l)) H
theorem yc {X:Cx} {pins:List (Addr×Obj)} {σ:L2.St} {H:Hp} {s:Shared} (I:L2.Inv X pins σ H s) {A:Around} {p:PV} {u:V} {uu:Value} (hp:RW X.K H p u) (ru:RelV u uu) (hA:A.units + 60 < cLine)
  {l:List PV} {xs:List V} {its:List Value} (hl:RWs X.K H l xs) (vl:Vals xs its) (hd:deps l≤ZG):∃ g:Value->Bool,(∀ y∈its,SeqAt.EqAt A s y uu (g y))∧its.any g=pin p l:=by
 classical
 have key:∀ (q:PV) (x:V) (y:Value),RW X.K H q x->RelV x y->decide (∃ q x,RW X.K H q x∧RelV x y∧peq q p=true)=peq q p:=fun q x y h1 h2=>by
  by_cases hb:peq q p=true
  ·rw [hb];exact AR ⟨q,x,h1,h2,hb⟩
  ·rw [show peq q p=false by simpa using hb]
   refine Ae fun ⟨q',x',k1,k2,k3⟩=>hb ?_;have ex:x'=x:=k2.inj h2;subst ex;rw [RW.det I q q' h1 k1];exact k3
 refine ⟨fun y=>decide (∃ q x,RW X.K H q x∧RelV x y∧peq q p=true),fun y hy => ?_,?_⟩
 ·obtain ⟨i,hi⟩:=BH hy;obtain ⟨x,hx,rx⟩:=Vals.get2 vl hi;obtain ⟨q,hq,rq⟩:=RWs.get' hl hx;dsimp only;rw [key q x y rq rx];exact J5 I 60 q p x u y uu A (Aa (zH hq) hd) hA rq hp rx ru
 ·have go:∀ (l:List PV) (xs:List V) (its:List Value),RWs X.K H l xs->Vals xs its->its.any (fun y=>decide (∃ q x,RW X.K H q x∧RelV x y∧peq q p=true))=pin p l:=by
   intro l;induction l with
   |nil=>intro xs its h v;unfold RWs at h;subst h;cases v;rfl
   |cons q qs ih =>
    intro xs its h v;unfold RWs at h;obtain ⟨x,r,rfl,h2,h3⟩:=h;cases v with
    |cons rv vr =>rw [List.any_cons,key q x _ h2 rv,ih _ _ h3 vr];rfl
  exact go l xs its hl vl
theorem qCu (hr:X.A.units + 64 < cLine):OpR X (compareOp .In) (qGy X.K false):=by
 intro pins s σ H x y v u Q I rx ry h;obtain ⟨p,l,a,xs,rfl,hs,hp,hl,hd,h⟩:=h;cases ry;have hA:X.A.in1.units + 60 < cLine:=by show X.A.units + 1 + 60 < cLine;omega
 rcases hs with hs |hs
 ·obtain ⟨its,vl,t,_⟩:=I.list hs;obtain ⟨g,h1,h2⟩:=yc I hp rx hA hl vl hd;exact SeqAt.in_listAt g t.isList (fun y hy=>h1 y (by simpa using hy)) ⟨.bl _,H,I,by show _=_;rw [List.any_toArray,h2];rfl,h⟩
 ·obtain ⟨its,vl,t,_⟩:=I.tuple hs;obtain ⟨g,h1,h2⟩:=yc I hp rx hA hl vl hd;exact SeqAt.in_tupleAt g t (fun y hy=>h1 y (by simpa using hy)) ⟨.bl _,H,I,by show _=_;rw [List.any_toArray,h2];rfl,h⟩
theorem ZA (hr:X.A.units + 64 < cLine):OpR X (compareOp .NotIn) (qGy X.K true):=by
 intro pins s σ H x y v u Q I rx ry h;obtain ⟨p,l,a,xs,rfl,hs,hp,hl,hd,h⟩:=h;cases ry;have hA:X.A.in1.units + 60 < cLine:=by show X.A.units + 1 + 60 < cLine;omega
 rcases hs with hs |hs
 ·obtain ⟨its,vl,t,_⟩:=I.list hs;obtain ⟨g,h1,h2⟩:=yc I hp rx hA hl vl hd;exact SeqAt.notIn_listAt g t.isList (fun y hy=>h1 y (by simpa using hy)) ⟨.bl _,H,I,by show _=_;rw [List.any_toArray,h2];rfl,h⟩
 ·obtain ⟨its,vl,t,_⟩:=I.tuple hs;obtain ⟨g,h1,h2⟩:=yc I hp rx hA hl vl hd;exact SeqAt.notIn_tupleAt g t (fun y hy=>h1 y (by simpa using hy)) ⟨.bl _,H,I,by show _=_;rw [List.any_toArray,h2];rfl,h⟩
theorem jB {neg:Bool}:OpG X E (qGy X.K neg) (gIn neg):=by
 intro H b st p q u v Q S rp rq P;unfold gIn at P;split at P
 ·rename_i l el;split at P
  ·rename_i hh;obtain ⟨h1,h2,h3⟩:=hh;obtain ⟨a,xs,rfl,k2,k3⟩:=ZF S rq el;exact ⟨_,l,a,xs,rfl,k2,ZR S rp h2,RVs.rws l h1 k3,h3,PostE.here P S zE⟩
  ·exact P.elim
 ·exact P.elim
theorem qIi (hr:X.A.units + 64 < cLine) (ha:VE X E a fa) (hb:VE X E c fb) (hm:behindInMarks .In c=false:=by with_unfolding_all rfl):VE X E (.Compare a [.In] [c] pos) (qI (gIn false) fa fb):=j7 (qCu hr) jB ha hb hm
end
end EV
end
section
namespace EV
open PySem PySem.Spec PyProof.Rows L2 EX
section
variable {X:Cx} {E:XK} {e a c d:Expr} {es:List Expr} {f fa fb fc:FE} {pos:Pos} {F G:FS}
def qIU:FS:=fun _ _ => .no
theorem qJX {st:Stmt}:VS X E st qIU:=PS.imp qDz fun D s H ⟨b,r,st,S,R,P⟩=>P.elim
def jn (C:Addr) (t:FA):FS:=fun r st=>match t r st with
 | .ok ps s=>if ps.length≤sizeLine then .ex ⟨C,[]⟩ s else .no
 | .ex x s => .ex x s
 | .no => .no
theorem qEp {x:Str} {C:Addr} {t:FA} {np cpos:Pos} (hz:Rz X E) (hc:X.calm=true) (hg:Gl X x) (hm:X.mg x=some (.ref C)) (q:W.excIn X.K C bmV "ValueError.__new__" = true) (ha:VA X E (e::es) t) (hdb:(x==("__debug__":Str))=false:=by decide)
  (he:starEach (e::es) X.env=(false,eval e X.env)::starEach es X.env:=by rfl) (hpl:(backTo cpos (starEach es X.env)).any (·.1)=false:=by rfl):VS X E (.Raise (some (.Call (.Name x np) (e::es) [] cpos)) none pos) (jn C t) :=
 PS.imp (qDm hz hc hg hm q ha hdb he hpl) fun D s H ⟨b,r,st,S,R,P⟩=>⟨b,r,st,S,R,by
  unfold jn at P;cases ef:t r st with
  |no=>rw [ef] at P;exact P.elim
  |ex x s1=>rw [ef] at P;exact P
  |ok ps s1 =>
   rw [ef] at P;dsimp only at P;by_cases hl:ps.length≤sizeLine
   ·rw [AF hl] at P;exact fun vs H' b' e' S' r'=>⟨by rw [← r'.length];exact hl,P (.ref C) none H' b' e' S' ⟨rfl,.inl ⟨rfl,rfl⟩⟩⟩
   ·rw [AK hl] at P;exact P.elim⟩
theorem REnv.lose {K:W.Frag} {H:Hp} {b:Bz} {r:qv} {s:L2.St} (h:REnv K H b r s) (i:Nat):REnv K H b (r.set i none) (s.set i none):=by
 refine ⟨by simp [h.1],fun j q hq => ?_⟩
 by_cases hj:i=j
 ·subst hj;by_cases hl:i < r.length
  ·rw [A7 hl] at hq;cases hq
  ·rw [BX (by simpa using hl)] at hq;cases hq
 ·rw [BD hj] at hq ⊢;exact h.2 j q hq
def Yc (i n:Nat) (cs:List Addr) (Fb Fh:FS):FS:=fun r st=>match Fb r st with
 | .ex x s=>if x.cls∈cs then (match Fh ((List.replicate n none).set i (some (.exc x.cls x.fs))) s with
  | .nx r' s' => .nx (r'.set i none) s'
  | .bk r' s' => .bk (r'.set i none) s'
  | .ct r' s' => .ct (r'.set i none) s'
  | .rt v s' => .rt v s'
  | .ex _ _ => .no
  | .no => .no) else .no
 |o=>o
theorem qHN {x n:Str} {Bx:Addr} {dd:Option Addr} {cd:ClassData} {sl:Array (Option Value)} {body:List Stmt} {b0:Stmt} {suite:List Stmt} {np hpos:Pos} {cs:List Addr} {Fb Fh:FS} (i:Nat) (FX:FrameX X) (hc:X.calm=true) (hN:X.N.Nodup)
  (hg:Gl X x) (hm:X.mg x=some (.ref Bx)) (o1:X.K.lookup Bx=some ⟨.type "type",dd,.cls cd,sl⟩) (m1:W.mroIn X.K Bx (.type "BaseException")=some true) (hcs:∀ C∈cs,W.mroIn X.K C (.ref Bx)=some true)
  (hb:∀ (pins:List (Addr×Obj)) (xe:Value->Shared->Prop) (E':XK),zp (CXF X.prog X.w) (Jv X pins xe) E'->VSs (Jv X pins xe) E' body Fb) (hh:∀ ea,VSs (suX X ea) E0 (b0::suite) Fh)
  (hi:X.N[i]? = some n:=by rfl) (hl:X.env.scope.names.lookup n=some .local:=by rfl) (hdb:(x==("__debug__":Str))=false:=by decide) :
  VS X E (.Try body [.ExceptHandler (some (.Name x np)) (some n) (b0::suite) hpos] [] [] pos) (Yc i X.N.length cs Fb Fh):=by
 refine PS.imp (qG1 (ok:=fun v => ∃ C∈cs,v = .ref C) (tb:=fun E'=>rdS X.K E' Fb) (th:=rdS X.K E0 Fh) FX hc hN hi hl hg hm o1 m1 (fun v ⟨C,hC,e⟩=>⟨C,e,hcs C hC⟩) hb hh hdb) fun D σ H ⟨b,r,st,S,R,P⟩=>⟨b,r,st,S,R,?_⟩;unfold Yc at P;cases eb:Fb r st with
 |nx r' s'=>rw [eb] at P;exact P
 |rt r' s'=>rw [eb] at P;exact P
 |bk r' s'=>rw [eb] at P;exact P
 |ct r' s'=>rw [eb] at P;exact P
 |no=>rw [eb] at P;exact P
 |ex x s1 =>
  rw [eb] at P;dsimp only at P;by_cases hx:x.cls∈cs
  ·rw [AF hx] at P;intro c d H' b' e' S' rx;obtain ⟨rc,rf⟩:=rx;refine ⟨⟨x.cls,hx,rc⟩,fun σ' ea oe hlen hn hcls hdict hdata=>⟨b',(List.replicate X.N.length none).set i (some (.exc x.cls x.fs)),s1,S'.new hn,⟨by simp [hlen],fun j p hp => ?_⟩,?_⟩⟩
   ·by_cases hj:i=j
    ·subst hj;have hl':i < X.N.length:=(AS.mp hi).1;rw [A7 (by simpa using hl')] at hp
     cases hp;refine ⟨.ref ea,by rw [A7 (by rw [hlen];exact hl')],?_⟩
     unfold RV;refine ⟨ea,oe,_,rfl,Qj,S'.new_notin hn,hcls.trans rc,hdata,rf.imp (fun q=>⟨q.1,hdict.trans q.2⟩) fun ⟨a,q1,q2,q3⟩=>⟨a,hdict.trans q1,by rw [qW (qV q2 hn)];exact q2,q3⟩⟩
    ·rw [BD hj,Bd] at hp;split at hp <;> cases hp
   ·have P2:=PostS.ext P (e'.trans (Ext.new (o := .frz oe qC7) hn));cases eh:Fh ((List.replicate X.N.length none).set i (some (.exc x.cls x.fs))) s1 with
    |nx r' s'=>rw [eh] at P2;exact fun s2 H2 b2 e2 S2 R2=>P2 _ H2 b2 e2 S2 (R2.lose i)
    |bk r' s'=>rw [eh] at P2;exact fun s2 H2 b2 e2 S2 R2=>P2 _ H2 b2 e2 S2 (R2.lose i)
    |ct r' s'=>rw [eh] at P2;exact fun s2 H2 b2 e2 S2 R2=>P2 _ H2 b2 e2 S2 (R2.lose i)
    |rt v s'=>rw [eh] at P2;exact P2
    |ex y s'=>rw [eh] at P2;exact P2.elim
    |no=>rw [eh] at P2;exact P2.elim
  ·rw [AK hx] at P;exact P.elim
def tyP:PV->Option Value
 | .non=>some (.type "NoneType")
 | .bl _=>some (.type "bool")
 | .int _=>some (.type "int")
 | .str _=>some (.type "str")
 | .tup _=>some (.type "tuple")
 | .lst _=>some (.type "list")
 | .ref _=>some (.type "list")
 | .dct=>some (.type "dict")
 | .exc c _=>some (.ref c)
 |_=>none
def clP:PV->Option Value
 | .ty n=>some (.type n)
 | .fn a=>some (.ref a)
 |_=>none
def qCO (kit:Value->Value->Option Bool) (p c:PV):Option Bool:=match tyP p,clP c with
 |some t,some c=>kit t c
 |_,_=>none
def Jz (kit:Value->Value->Option Bool) (p:PV):List PV->Option Bool
 |[]=>some false
 |c::r=>match qCO kit p c with
  |some true=>some true
  |some false=>Jz kit p r
  |none=>none
def qI8 (kit:Value->Value->Option Bool) (p:PV):PV->Option Bool
 | .tup cs=>if (tyP p).isSome then Jz kit p cs else none
 |c=>qCO kit p c
structure KitOk (K:W.Frag) (kit:Value->Value->Option Bool):Prop where
 one:∀ t c b,kit t c=some b->W.kitOne K t c=some b
 exc:∀ a c b,kit (.ref a) c=some b->ExcK K a
end
end EV
end
section
namespace EX
open PySem PySem.Spec PyProof.Rows L2
section
variable {X:Cx}
def qIx (K:W.Frag):R2:=fun x y H Q => ∃ l b xs zs,x = .ref l∧y = .ref b∧SqL K H l xs∧SqL K H b zs∧xs.length + zs.length≤sizeLine ∧ ∀ p,H p=none->Q (.ref p) (upd H p (.lst (xs++zs)))
theorem qGD:OpR X (binaryOp .Add) (qIx X.K):=by
 intro pins s σ H x y v u Q I rx ry h;obtain ⟨l,b,xs,zs,rfl,rfl,h1,h2,hz,q⟩:=h;cases rx;cases ry;obtain ⟨us,r1,p1,_⟩:=I.list h1;obtain ⟨ws,r2,p2,_⟩:=I.list h2;obtain ⟨⟨c1,d1,a1,s1⟩,o1,e1,m1,f1⟩:=id p1.isList;obtain ⟨⟨c2,d2,a2,s2⟩,o2,e2,m2,f2⟩:=id p2.isList;have e1:c1=_:=e1;have e2:c2=_:=e2;have f1:a1=_:=f1;have f2:a2=_:=f2;subst e1;subst e2;subst f1;subst f2;have z:us.length + ws.length≤sizeLine:=by rw [← r1.length,← r2.length];exact hz
 refine concat_meets ⟨_,o1,rfl⟩ ⟨_,o2,rfl⟩ noFill_list_add seq_list_add F.slot_list_add F.entry_list_add (F.args_list_add_2 _ _) (list_addW l b us.toArray ws.toArray m1 m2 d1 d2 s1 s2 (by simpa using z)) ⟨o1,o2,?_⟩
 rw [show us.toArray++ws.toArray=(us++ws).toArray by simp]
 exact ⟨.ref _,_,I.lnew (t':=s.toks) (r1.append r2) (by rw [AQ];exact hz),rfl,q _ I.fresh⟩
def qGo (K:W.Frag):R2:=fun x y H Q => ∃ a b xs ys,x = .ref a∧y = .ref b∧SqT K H a xs∧SqT K H b ys∧xs.length + ys.length≤sizeLine ∧
 (xs=[]->Q (.ref b) H)∧(xs≠[]->ys=[]->Q (.ref a) H)∧(xs≠[]->ys≠[] -> ∀ p,H p=none->Q (.ref p) (upd H p (.tup (xs++ys))))
theorem qEo:OpR X (binaryOp .Add) (qGo X.K):=by
 intro pins s σ H x y v u Q I rx ry h;obtain ⟨a,b,xs,ys,rfl,rfl,ha,hb,hz,q0,q1,q2⟩:=h;by_cases hx:xs=[]
 ·cases rx;cases ry;obtain ⟨us,r1,p1,_⟩:=I.tuple ha;obtain ⟨ws,r2,p2,_⟩:=I.tuple hb;obtain ⟨⟨c1,d1,a1,s1⟩,o1,e1,m1,f1⟩:=id p1;obtain ⟨⟨c2,d2,a2,s2⟩,o2,e2,m2,f2⟩:=id p2;have e1:c1=_:=e1;have e2:c2=_:=e2;have f1:a1=_:=f1;have f2:a2=_:=f2;subst e1;subst e2;subst f1;subst f2;exact concat_meets ⟨_,o1,rfl⟩ ⟨_,o2,rfl⟩ noFill_tuple_add seq_tuple_add F.slot_tuple_add F.entry_tuple_add (F.args_tuple_add_2 _ _) (tuple_addW0 a b us.toArray ws.toArray m1 m2 d1 d2 s1 s2 (by simp [r1.nil_iff.mpr hx])) ⟨o1,o2,.ref b,H,I,rfl,q0 hx⟩
 ·exact qGG pins s σ H _ _ v u Q I rx ry ⟨a,b,xs,ys,rfl,rfl,ha,hb,hx,hz,q1 hx,q2 hx⟩
def qJv (K:W.Frag):V->Option Int->Option Int->Hp->VK->Prop:=fun x lo hi H Q => ∃ a xs,x = .ref a∧SqT K H a xs∧HT.sIx xs.length 0 lo=0∧HT.sIx xs.length xs.length hi=xs.length∧Q (.ref a) H
theorem qD1:SlR X (qJv X.K):=by
 intro pins s σ H x v vl vu lo hi sl Q I rx hs pl pu h;obtain ⟨a,xs,rfl,hx,w1,w2,q⟩:=h;cases rx;obtain ⟨its,r,ht,hz⟩:=I.tuple hx;have hlen:its.toArray.size=xs.length:=by rw [AM];exact r.length.symm
 refine ⟨"tuple",_,PyProof.Rows.slot_tuple_getitem.lookup,ht.typeIs,?_⟩;obtain ⟨os,hos,hcs,hds⟩:=id hs;have hTs:s.TypeIs (.ref sl) "slice" := ⟨os,hos,hcs⟩;unfold getItem;try with_reducible refine An ?_
 first |refine AA (AB ?_) |skip
 refine AA (wpAny_sequenceKey ht.typeIs (by decide) ?_)
 refine AA (BM (name:=Str.ofString "__getitem__") ht.typeIs BB (Be BB ht.typeIs PyProof.Rows.entry_tuple_getitem ?_ (PyProof.Rows.args_tuple_getitem _ _)));show wpAny _ _ (Builtin.Tuple.tupleItemsOf (.ref a) >>= _) _ _ s;refine AA (tupleItemsOf_ ht ?_);refine AA (Ba hTs ?_);rw [AF (by decide)]
 refine AA (HT.sliceApplied_gen hs pl pu ?_);rw [hlen,w1,w2];dsimp only;rw [AF (show ((((0:Nat):Int)==0&&(1:Int)==1&&xs.length - 0==xs.length)=true) by simp)]
 unfold Builtin.Tuple.tupleIsExact;refine AA (AA (Ba ht.typeIs (AB ?_)));rw [AF (by simp)]
 exact AA (wpAny_rule (AB ⟨_,rfl,AB ⟨.ref a,H,I,rfl,q⟩⟩))
def PJ (X:Cx) (es:List Expr) (t:Str->L2.St->Hp->(Str->Hp->Prop)->Prop):Prop := ∀ (out:Str) (pins:List (Addr×Obj)) (s:Shared) (σ:L2.St) (H:Hp) (Q:Str->Hp->Prop),L2.Inv X pins σ H s->t out σ H Q ->
 wpAny (model X.prog X.w) X.A (joinParts out (evalEach es X.env)) (fun u s' => ∃ x H',L2.Inv X pins σ H' s'∧(∃ t,u = .str x t)∧Q x H') X.xe s
theorem qHi:PJ X [] (fun out _ H Q=>out.length≤sizeLine∧Q out H):=fun out pins s σ H Q I h=>joinParts_nil ⟨out,H,I.tok _,⟨_,rfl⟩,h.2⟩ h.1
theorem qFM {e:Expr} {es:List Expr} {te:TE} {t:Str->L2.St->Hp->(Str->Hp->Prop)->Prop} (h1:PE X e te) (h2:PJ X es t):PJ X (e::es) (fun out σ H Q=>te σ H fun v H1 => ∃ y,v = .str y∧(out++y).length≤sizeLine∧t (out++y) σ H1 Q) :=
 fun out pins s σ H Q I h=>joinParts_cons (thn (h1 pins s σ H _ I h) fun u s1 ⟨v,H1,I1,r1,y,e,z,q⟩=>by
  subst e;obtain ⟨t',rfl⟩:=r1;exact ⟨z,h2 (out++y) pins s1 σ H1 Q I1 q⟩)
theorem qHz {e:Expr} {te:TE} {pos:Pos} (h:PE X e te):PE X (.FormattedValue e (-1) none pos) (fun σ H Q=>te σ H fun v H1 => ∃ i,v = .int i∧i.natAbs.log2 < 1920∧Q (.str (toString i)) H1) :=
 fun pins s σ H Q I q=>FormattedValue_plain (thn (h pins s σ H _ I q) fun u s1 ⟨v,H1,I1,r1,i,e,z,q⟩=>by
  subst e;obtain ⟨t',rfl⟩:=r1;exact wpAny_formatField_int z ⟨.str _,H1,I1.tok _,⟨_,rfl⟩,q⟩)
theorem qFf {e1 e2:Expr} {es:List Expr} {t:Str->L2.St->Hp->(Str->Hp->Prop)->Prop} {pos:Pos} (h:PJ X (e1::e2::es) t):PE X (.JoinedStr (e1::e2::es) pos) (fun σ H Q=>t Str.empty σ H fun x H1=>Q (.str x) H1) :=
 fun pins s σ H Q I q=>JoinedStr_many (thn (h Str.empty pins s σ H _ I q) fun u s1 ⟨x,H1,I1,r1,q1⟩=>⟨.str x,H1,I1,r1,q1⟩)
end
end EX
end
section
namespace EV
open PySem PySem.Spec PyProof.Rows L2 EX
section
variable {X:Cx} {E:XK} {e a c d:Expr} {es:List Expr} {f fa fb fc:FE} {pos:Pos} {F G:FS}
theorem ZK {x:Str} {n:String} {pos:Pos} (hg:Gl X x) (hm:X.mg x=none) (hv:bootBuiltins x=some (.type n)) (hn:x ≠ "__name__" := by decide) (hd:(x==("__debug__":Str))=false:=by decide):VE X E (.Name x pos) (vC (.ty n)) :=
 qAJ (qFg (v := .ty n) hg hm hv rfl hn hd) fun _ _=>by unfold RV;rfl
theorem zw {x:Str} {a:Addr} {pos:Pos} (hg:Gl X x) (hm:X.mg x=some (.ref a)) (hd:(x==("__debug__":Str))=false:=by decide):VE X E (.Name x pos) (vC (.fn a)) :=
 qAJ (qBk (v := .ref a) hg hm rfl hd) fun _ _=>by unfold RV;rfl
def lk (st:qD):PV->Bool
 | .ref i=>match st[i]? with
  |some (.l _)=>true
  |_=>false
 |_=>true
theorem qCx {kit:Value->Value->Option Bool} (hk:KitOk X.K kit) {pins:List (Addr×Obj)} {σ:L2.St} {H:Hp} {s:Shared} (I:L2.Inv X pins σ H s) {b:Bz} {st:qD} (S:SR X.K H b st) {p:PV} {v:V} {u t:Value} (r:RV X.K H b p v) (ru:RelV v u) (ht:tyP p=some t) (hlk:lk st p=true) (hx:∀ a,t = .ref a->ExcK X.K a) :
  ∃ Hh,W.KitX X.K u t Hh∧Hh s.heap∧u ≠ .builtin "__main__.__loader__#opaque" := by
 cases p with
 |non=>unfold RV at r;subst r;cases ht;cases (show u=Value.none from ru);exact ⟨_,W.kitx_none,trivial,fun z=>nomatch z⟩
 |bl x=>unfold RV at r;subst r;cases ht;cases (show u=Value.bool x from ru);exact ⟨_,W.kitx_bool,trivial,fun z=>nomatch z⟩
 |int x=>unfold RV at r;subst r;cases ht;obtain ⟨t,rfl⟩:=(show ∃ t,u=Value.int x t from ru);exact ⟨_,W.kitx_int,trivial,fun z=>nomatch z⟩
 |str x=>unfold RV at r;subst r;cases ht;obtain ⟨t,rfl⟩:=(show ∃ t,u=Value.str x t from ru);exact ⟨_,W.kitx_str,trivial,fun z=>nomatch z⟩
 |tup l =>unfold RV at r;obtain ⟨a,xs,rfl,h2,h3⟩:=r;cases ht;cases (show u=Value.ref a from ru);obtain ⟨its,_,⟨o,h4,h5,_⟩,_⟩:=I.tuple h2.sq;exact ⟨_,W.kitx_tuple,⟨o,h4,h5⟩,fun z=>nomatch z⟩
 |lst l =>unfold RV at r;obtain ⟨a,xs,rfl,h2,h3⟩:=r;cases ht;cases (show u=Value.ref a from ru);obtain ⟨its,_,⟨o,n,h4,h5,_⟩,_⟩:=I.list h2.sq;exact ⟨_,W.kitx_list,⟨o,h4,h5⟩,fun z=>nomatch z⟩
 |ref i =>
  unfold RV at r;obtain ⟨a,rfl,h2⟩:=r;cases ht;cases (show u=Value.ref a from ru);have hl:i < st.length:=by rw [← S.len];exact (AS.mp h2).1
  obtain ⟨a',o,h3,h4,h5⟩:=S.at_ i _ (AI hl);rw [h2] at h3;cases h3;have hq:∃ vs,o = .lst vs:=by
   cases hx:st[i] with
   |l xs=>rw [hx] at h5;obtain ⟨vs,e,_⟩:=h5;exact ⟨vs,e⟩
   |z xs=>unfold lk at hlk;dsimp only at hlk;rw [AI hl,hx] at hlk;cases hlk
   |d xs=>unfold lk at hlk;dsimp only at hlk;rw [AI hl,hx] at hlk;cases hlk
  obtain ⟨vs,rfl⟩:=hq;obtain ⟨its,_,⟨o,n,h6,h7,_⟩,_⟩:=I.list (SqL.of h4);exact ⟨_,W.kitx_list,⟨o,h6,h7⟩,fun z=>nomatch z⟩
 |dct =>unfold RV at r;obtain ⟨a,rfl,h2,h3⟩:=r;cases ht;cases (show u=Value.ref a from ru);obtain ⟨_,_,vs,_,o,_,_,h4,h5,_⟩:=(show ObjOk X.prog X.w H s.heap a (.dK []) from I.hok a _ h2);exact ⟨_,W.kitx_dict,⟨o,h4,h5.1⟩,fun z=>nomatch z⟩
 |exc c fs =>
  unfold RV at r;obtain ⟨a,o,w,rfl,h2,h3,h4,⟨vs,h6⟩,h5⟩:=r;cases ht;cases (show u=Value.ref a from ru);have ho:s.heap.get? a=some o:=(I.hok a _ h2).1;have hn:W.notCls o=true:=by obtain ⟨c',d',dt,sl⟩:=o;have h6:dt=_:=h6;subst h6;rfl
  refine ⟨_,qEW (hx c rfl),?_,fun z=>nomatch z⟩;rcases h5 with ⟨_,h5⟩ |⟨d,h5,h7,h8⟩
  ·exact ⟨o,none,ho,h4,hn,by rw [h5];trivial⟩
  ·obtain ⟨od,h9⟩:=got (I.hok d _ h7);exact ⟨o,some od,ho,h4,hn,by rw [h5];exact h9⟩
 |ty n=>cases ht
 |fn n=>cases ht
theorem qGO {K:W.Frag} {H:Hp} {b:Bz} {c:PV} {v:V} {u t:Value} (r:RV K H b c v) (ru:RelV v u) (ht:clP c=some t):u=t:=by
 cases c with
 |ty n=>unfold RV at r;subst r;cases ht;exact ru
 |fn a=>unfold RV at r;subst r;cases ht;exact ru
 |_=>cases ht
theorem qAE {kit:Value->Value->Option Bool} (hk:KitOk X.K kit) {H:Hp} {b:Bz} {p:PV} {t:Value} (ht:tyP p=some t):∀ {cs:List PV} {xs:List V} {us:List Value} {k:Bool},RVs X.K H b cs xs->Vals xs us->Jz kit p cs=some k->W.kitAny X.K t us=some k
 |[],_,_,k,h,r,e=>by unfold RVs at h;subst h;cases r;exact e
 |c::cs,_,_,k,h,r,e=>by
  unfold RVs at h;obtain ⟨x,xs,rfl,h1,h2⟩:=h;cases r with
  | @cons _ u _ us r1 r2 =>
   unfold Jz qCO at e;rw [ht] at e;cases hc:clP c with
   |none=>rw [hc] at e;cases e
   |some c' =>
    rw [hc] at e;have eu:=qGO h1 r1 hc;subst eu;dsimp only at e;unfold W.kitAny;cases q:kit t u with
    |none=>rw [q] at e;cases e
    |some bb =>
     rw [q] at e;rw [hk.one _ _ _ q];cases bb with
     |true=>exact e
     |false=>exact qAE hk ht h2 r2 e
theorem qEb {kit:Value->Value->Option Bool} (hk:KitOk X.K kit) {p:PV} {t:Value} (ht:tyP p=some t):∀ {cs:List PV} {k:Bool},cs≠[]->Jz kit p cs=some k -> ∀ a,t = .ref a->ExcK X.K a
 |[],_,h,_,_,_=>absurd rfl h
 |c::cs,k,_,e,a,ha=>by
  unfold Jz qCO at e;rw [ht] at e;cases hc:clP c with
  |none=>rw [hc] at e;cases e
  |some c' =>
   rw [hc] at e;dsimp only at e;cases q:kit t c' with
   |none=>rw [q] at e;cases e
   |some bb=>subst ha;exact hk.exc _ _ _ q
theorem qEj {kit:Value->Value->Option Bool} (hk:KitOk X.K kit):Wo X (.builtin "isinstance") (fun vs H Q => ∃ b st p c k,SR X.K H b st∧RVs X.K H b [p,c] vs∧(∀ cs,c = .tup cs->cs≠[])∧lk st p=true∧qI8 kit p c=some k∧Q (.bl k) H):=by
 intro pins s σ H xs us Q I r h;obtain ⟨b,st,p,c,k,S,rs,hne,hlk,e,q⟩:=h;obtain ⟨x,y,rfl,r1,r2⟩:=RVs.two rs;obtain ⟨u,v,rfl,ru,rv⟩:=qBB r;by_cases hc:∃ cs,c = .tup cs
 ·obtain ⟨cs,rfl⟩:=hc;have e:(if (tyP p).isSome then Jz kit p cs else none)=some k:=e;cases ht:tyP p with
  |none=>rw [ht] at e;cases e
  |some t =>rw [ht] at e;have e:Jz kit p cs=some k:=e;obtain ⟨Hh,Z,hh,hx⟩:=qCx hk I S r1 ru ht hlk (qEb hk ht (hne cs rfl) e);unfold RV at r2;obtain ⟨a,ys,rfl,h2,h3⟩:=r2;cases (show v=Value.ref a from rv);obtain ⟨its,r',⟨o,h4,h5,n,h6⟩,_⟩:=I.tuple h2.sq;obtain ⟨c1,d1,dt,sl⟩:=o;have h5:c1=_:=h5;have h6:dt=_:=h6;subst h5;subst h6;exact W.kia_tup Z I.kIn hh h4 (qAE hk ht h3 r' e) hx fun tk=>⟨.bl k,H,I.tok _,rfl,q⟩
 ·have e:qCO kit p c=some k:=by cases c <;> first |exact e |exact (hc ⟨_,rfl⟩).elim
  unfold qCO at e;cases ht:tyP p with
  |none=>rw [ht] at e;cases e
  |some t =>
   cases hc2:clP c with
   |none=>rw [ht,hc2] at e;cases e
   |some c' =>
    rw [ht,hc2] at e;have eu:=qGO r2 rv hc2;subst eu;obtain ⟨Hh,Z,hh,hx⟩:=qCx hk I S r1 ru ht hlk (fun a ha=>by subst ha;exact hk.exc _ _ _ e)
    exact W.kia_one Z I.kIn hh (hk.one _ _ _ e) hx fun tk=>⟨.bl k,H,I.tok _,rfl,q⟩
def QY (kit:Value->Value->Option Bool):List PV->qD->Rs PV:=fun ps st=>match ps with
 |[p,c]=>match c with
  | .tup [] => .no
  |c=>match qI8 kit p c with
   |some b=>if lk st p=true then .ok (.bl b) st else .no
   |none => .no
 |_ => .no
theorem Qk {kit:Value->Value->Option Bool} {ta:FA} {p:Pos} (hk:KitOk X.K kit) (hm:X.mg "isinstance" = none) (ha:VA X E (e::es) ta) (hg:Gl X "isinstance" := by rfl)
  (he:starEach (e::es) X.env=(false,eval e X.env)::starEach es X.env:=by rfl) (hpl:(backTo pos (starEach es X.env)).any (·.1)=false:=by rfl):VE X E (.Call (.Name "isinstance" p) (e::es) [] pos) (qH (QY kit) ta) :=
 WT (qEj hk) (fun H b st ps vs Q S r P=>by
  unfold QY at P;split at P
  ·rename_i p c;split at P
   ·exact P.elim
   ·rename_i hc;split at P
    ·rename_i k hk';split at P
     ·rename_i hlk;exact ⟨b,st,p,c,k,S,r,fun cs e z=>by subst e;subst z;exact hc rfl,hlk,hk',PostE.here P S zE⟩
     ·exact P.elim
    ·exact P.elim
  ·exact P.elim) hg hm PyProof.Rows.boot_isinstance ha (he:=he) (hpl:=hpl)
end
def pbl:PV->Option Bool
 | .bl b=>some b
 |_=>none
def Ja:PV->Option Int
 | .int i=>some i
 |_=>none
def Qr {α:Type} (f:PV->Option α):List PV->Option (List α)
 |[]=>some []
 |p::ps=>match f p with
  |some a=>match Qr f ps with
   |some r=>some (a::r)
   |none=>none
  |none=>none
section
variable {X:Cx} {E:XK} {e a c d:Expr} {es:List Expr} {f fa fb fc:FE} {pos:Pos} {F G:FS}
theorem qD2 {K:W.Frag} {H:Hp} {b:Bz}:∀ {l:List PV} {xs:List V} {bs:List Bool},RVs K H b l xs->Qr pbl l=some bs->xs=bs.map V.bl
 |[],_,_,h,e=>by unfold RVs at h;subst h;cases e;rfl
 |p::ps,_,bs,h,e=>by
  unfold RVs at h;obtain ⟨x,r,rfl,h1,h2⟩:=h;unfold Qr at e;cases p with
  |bl k =>
   unfold RV at h1;subst h1;cases q:Qr pbl ps with
   |none=>rw [q] at e;cases e
   |some r'=>rw [q] at e;cases e;rw [qD2 h2 q];rfl
  |_=>cases e
theorem jt {K:W.Frag} {H:Hp} {b:Bz}:∀ {l:List PV} {xs:List V} {bs:List Int},RVs K H b l xs->Qr Ja l=some bs->xs=bs.map V.int
 |[],_,_,h,e=>by unfold RVs at h;subst h;cases e;rfl
 |p::ps,_,bs,h,e=>by
  unfold RVs at h;obtain ⟨x,r,rfl,h1,h2⟩:=h;unfold Qr at e;cases p with
  |int k =>
   unfold RV at h1;subst h1;cases q:Qr Ja ps with
   |none=>rw [q] at e;cases e
   |some r'=>rw [q] at e;cases e;rw [jt h2 q];rfl
  |_=>cases e
def qEi {α:Type} (k:PV->Option α) (g:List α->PV):List PV->qD->Rs PV:=fun ps st=>match ps with
 |[p]=>match asL st p with
  |some l=>match Qr k l with
   |some r => .ok (g r) st
   |none => .no
  |none => .no
 |_ => .no
def yD:=qEi pbl fun bs => .bl (bs.all id)
theorem qHZ:YV X E (fun xs H Q => ∃ (p:Addr) (bs:List Bool),xs=[.ref p]∧SqL X.K H p (bs.map V.bl)∧Q (.bl (bs.all id)) H) yD:=by
 intro H b st ps vs Q S r P;unfold yD qEi at P;split at P
 ·obtain ⟨v,rfl,r1⟩:=RVs.one r;split at P
  ·rename_i l e;split at P
   ·rename_i bs eb;obtain ⟨a,xs,rfl,h2,h3⟩:=Q5 S r1 e;rw [qD2 h3 eb] at h2;exact ⟨a,bs,rfl,h2,PostE.here P S zE⟩
   ·exact P.elim
  ·exact P.elim
 ·exact P.elim
section
variable {ta:FA} {p:Pos} (ha:VA X E (e::es) ta)
include ha
theorem yu (hm:X.mg "all" = none) (hg:Gl X "all" := by rfl) (he:starEach (e::es) X.env=(false,eval e X.env)::starEach es X.env:=by rfl) (hpl:(backTo pos (starEach es X.env)).any (·.1)=false:=by rfl):VE X E (.Call (.Name "all" p) (e::es) [] pos) (qH yD ta) :=
 WT qCd qHZ hg hm Boot.«all» ha (he:=he) (hpl:=hpl)
theorem Qo (hm:X.mg "len" = none) (hg:Gl X "len" := by rfl) (he:starEach (e::es) X.env=(false,eval e X.env)::starEach es X.env:=by rfl) (hpl:(backTo pos (starEach es X.env)).any (·.1)=false:=by rfl):VE X E (.Call (.Name "len" p) (e::es) [] pos) (qH wB ta) :=
 WT jv qG6 hg hm Boot.«len» ha (he:=he) (hpl:=hpl)
theorem qBe (hc:X.calm=true) (hm:X.mg "max" = none) (hg:Gl X "max" := by rfl) (he:starEach (e::es) X.env=(false,eval e X.env)::starEach es X.env:=by rfl) (hpl:(backTo pos (starEach es X.env)).any (·.1)=false:=by rfl):VE X E (.Call (.Name "max" p) (e::es) [] pos) (qH qAo ta) :=
 WT (qB6 hc) qIR hg hm Boot.«max» ha (he:=he) (hpl:=hpl)
theorem JB (hc:X.calm=true) (hm:X.mg "min" = none) (hg:Gl X "min" := by rfl) (he:starEach (e::es) X.env=(false,eval e X.env)::starEach es X.env:=by rfl) (hpl:(backTo pos (starEach es X.env)).any (·.1)=false:=by rfl):VE X E (.Call (.Name "min" p) (e::es) [] pos) (qH yo ta) :=
 WT (qCW hc) qHP hg hm Boot.«min» ha (he:=he) (hpl:=hpl)
theorem WF (hm:X.mg "tuple" = none) (hg:Gl X "tuple" := by rfl) (he:starEach (e::es) X.env=(false,eval e X.env)::starEach es X.env:=by rfl) (hpl:(backTo pos (starEach es X.env)).any (·.1)=false:=by rfl):VE X E (.Call (.Name "tuple" p) (e::es) [] pos) (qH WI ta) :=
 jL Yr qDE hg hm Boot.«tuple» ha (he:=he) (hpl:=hpl)
end
theorem yy {p:Pos} (hm:X.mg "list" = none) (ha:VE X E e f) (hg:Gl X "list" := by rfl) (he:starEach [e] X.env=(false,eval e X.env)::starEach [] X.env:=by rfl) (hpl:(backTo pos (starEach [] X.env)).any (·.1)=false:=by rfl):VN X E (.Call (.Name "list" p) [e] [] pos) (Zd f) :=
 qGC hg hm Boot.«list» ha he hpl
def ZO (fa fb:FE):FL:=fun r st=>(fa r st).bind fun p s1=>(fb r s1).bind fun q s2=>match asL s2 p with
 |some l=>match asL s2 q with
  |some m=>if l.length + m.length≤sizeLine then .ok (l++m) s2 else .no
  |none => .no
 |none => .no
theorem ZX (ha:VE X E a fa) (hb:VE X E c fb):VN X E (.BinOp a .Add c pos) (ZO fa fb):=PE.imp (qGY qGD ha hb) fun s H Q ⟨b,r,st,S,R,P⟩ =>
 ⟨b,r,st,S,R,PostE.bindN P fun p s1 u H1 b1 e1 S1 r1 P1=>⟨b1,r,s1,S1,R.ext e1,PostE.bindN P1 fun q s2 v H2 b2 e2 S2 r2 P2=>by
  split at P2
  ·rename_i l el;split at P2
   ·rename_i m em;split at P2
    ·rename_i hl;obtain ⟨x,xs,rfl,h2,h3⟩:=Q5 S2 (RV.ext e2 p r1) el;obtain ⟨y,ys,rfl,h4,h5⟩:=Q5 S2 r2 em;exact ⟨x,y,xs,ys,rfl,rfl,h2,h4,by rw [← h3.length,← h5.length];exact hl,fun z hz=>PostN.lay P2 S2 (h3.append h5) hz⟩
    ·exact P2.elim
   ·exact P2.elim
  ·exact P2.elim⟩⟩
end
section
variable {X:Cx} {E:XK} {e a c d:Expr} {es:List Expr} {f fa fb fc:FE} {fl:FL} {pos:Pos} {F G:FS}
def Q9:PV->PV->qD->Rs PV:=fun p q st=>match p,q with
 | .tup l,.tup m=>if l.length + m.length≤sizeLine then .ok (.tup (l++m)) st else .no
 |_,_ => .no
theorem Wx (ha:VE X E a fa) (hb:VE X E c fb):VE X E (.BinOp a .Add c pos) (qI Q9 fa fb):=Z2 qEo (fun H b st p q u v Q S rp rq P=>by
 unfold Q9 at P;split at P
 ·rename_i l m;split at P
  ·rename_i hl;have rp0:=rp;have rq0:=rq;unfold RV at rp rq;obtain ⟨x,xs,rfl,h2,h3⟩:=rp;obtain ⟨y,ys,rfl,h4,h5⟩:=rq;have n1:=h3.length;have n2:=h5.length;refine ⟨x,y,xs,ys,rfl,rfl,h2.sq,h4.sq,by rw [← n1,← n2];exact hl,fun z => ?_,fun _ z => ?_,fun _ _ w hw=>PostE.layT P S (h3.append h5) hw⟩
   ·have:l=[]:=List.length_eq_zero_iff.mp (by rw [n1,z];rfl)
    subst this;exact PostE.here P S rq0
   ·have:m=[]:=List.length_eq_zero_iff.mp (by rw [n2,z];rfl)
    subst this;rw [BP] at P;exact PostE.here P S rp0
  ·exact P.elim
 ·exact P.elim) ha hb
abbrev FO:=qv->qD->Rs (Option Int)
def PostO (K:W.Frag) (E:XK) (H:Hp) (b:Bz) (r:Rs (Option Int)) (Q:Option Int->Hp->Prop):Prop:=match r with
 | .ok k st => ∀ H' b',Ext H b H' b'->SR K H' b' st->Q k H'
 | .ex x st=>XP K E H b x st
 | .no=>False
def rdO (K:W.Frag) (E:XK) (f:FO):TO:=fun s H Q => ∃ b r st,SR K H b st∧REnv K H b r s∧PostO K E H b (f r st) Q
abbrev VO (X:Cx) (E:XK) (e:Option Expr) (f:FO):Prop:=PO X e (rdO X.K E f)
def wF:FO:=fun _ st => .ok none st
def Q4 (f:FE):FO:=fun r st=>(f r st).bind fun p s=>match p with
 | .int i => .ok (some i) s
 |_ => .no
theorem WZ:VO X E none wF:=fun pins s σ H Q I ⟨b,r,st,S,R,P⟩=>qEx pins s σ H Q I (P H b (Ext.refl _ _) S)
theorem Wy (h:VE X E e f):VO X E (some e) (Q4 f):=fun pins s σ H Q I ⟨b,r,st,S,R,P⟩=>qGA h pins s σ H Q I ⟨b,r,st,S,R,by
 unfold Q4 at P;cases ef:f r st with
 |no=>rw [ef] at P;exact P.elim
 |ex x s1=>rw [ef] at P;exact P
 |ok p s1 =>
  rw [ef] at P;intro v H1 b1 e1 S1 r1;dsimp only [Rs.bind] at P;split at P
  ·rename_i i;unfold RV at r1;exact ⟨i,r1,P H1 b1 e1 S1⟩
  ·exact P.elim⟩
def Wk (l:List PV) (lo hi:Option Int):List PV:=(l.drop (HT.sIx l.length 0 lo)).take (HT.sIx l.length l.length hi - HT.sIx l.length 0 lo)
def Z9 (f:FE) (lo hi:FO):FE:=fun r st=>(f r st).bind fun p s1=>(lo r s1).bind fun a s2=>(hi r s2).bind fun c s3=>match p with
 | .tup l => .ok (.tup (Wk l a c)) s3
 |_ => .no
theorem PostO.bind {K:W.Frag} {E:XK} {H:Hp} {b:Bz} {r:Rs (Option Int)} {k:Option Int->qD->Rs PV} {Q:VK} {R:Option Int->Hp->Prop} (P:PostE K E H b (r.bind k) Q)
  (h:∀ p st H1 b1,Ext H b H1 b1->SR K H1 b1 st->PostE K E H1 b1 (k p st) Q->R p H1):PostO K E H b r R:=by
 cases r with
 |ok p st=>exact fun H1 b1 e S=>h p st H1 b1 e S (PostE.ext (show PostE K E H b (k p st) Q from P) e)
 |ex x st=>exact P
 |no=>exact P
theorem yF {lo hi:Option Expr} {flo fhi:FO} {p2:Pos} (h:VE X E e f) (hl:VO X E lo flo) (hh:VO X E hi fhi):VE X E (.Subscript e (.Slice lo hi none p2) pos) (Z9 f flo fhi) :=
 PE.imp (JX (sl_tup.or qD1) h hl hh) fun s H Q ⟨b,r,st,S,R,P⟩=>⟨b,r,st,S,R,PostE.bind P fun p s1 u H1 b1 e1 S1 r1 P1=>⟨b1,r,s1,S1,R.ext e1,PostO.bind P1 fun k s2 H2 b2 e2 S2 P2=>⟨b2,r,s2,S2,(R.ext e1).ext e2,PostO.bind P2 fun m s3 H3 b3 e3 S3 P3=>by
  split at P3
  ·rename_i l;have r3:=RV.ext e3 _ (RV.ext e2 _ r1);have r0:=r3;unfold RV at r3;obtain ⟨x,xs,rfl,h2,h3⟩:=r3;have hlen:=h3.length;by_cases hw:HT.sIx xs.length 0 k=0∧HT.sIx xs.length xs.length m=xs.length
   ·refine .inr ⟨x,xs,rfl,h2.sq,hw.1,hw.2,?_⟩
    have:Wk l k m=l:=by unfold Wk;rw [hlen,hw.1,hw.2,List.drop_zero,Nat.sub_zero,← hlen,List.take_length]
    rw [this] at P3;exact PostE.here P3 S3 r0
   ·refine .inl ⟨x,xs,rfl,h2.sq,hw,fun z hz => ?_⟩;have hc:RVs X.K H3 b3 (Wk l k m) (Yw xs k m):=by unfold Wk Yw;rw [hlen];exact (h3.drop _).take _
    exact PostE.layT P3 S3 hc hz
  ·exact P3.elim⟩⟩⟩
def Qa (fo f:FE):FS:=fun r st=>(fo r st).bindS fun o s1=>match o with
 | .ref n=>if lk s1 (.ref n)=true then (f r s1).bindS fun p s2=>match s2[n]? with
  |some (.l xs)=>if xs.length < sizeLine then .nx r (s2.set n (.l (xs++[p]))) else .no
  |_ => .no else .no
 |_ => .no
theorem zA {fo:FE} {o:Expr} {apos cpos:Pos} (ho:VE X E o fo) (h:VE X E e f) (hs:swapsWith (.Call (.Attribute o "append" apos) [e] [] cpos) none pos.line X.env=pure false:=by rfl)
  (hbase:attributeBase o "append" X.env (eval o X.env)=eval o X.env:=by rfl)
  (hfew:((backTo cpos (starEach [e] X.env)).all (fun x => !x.1)&&(backToKw cpos (keywordEach [] X.env)).all (fun x=>x.1.isSome)&&decide ([e].length + ([]:List Keyword).length + (if ([]:List Keyword).isEmpty then 0 else 1) < 30))=true:=by rfl)
  (hline:(apos.endLine==cpos.line)=true:=by rfl) (h1:starEach [e] X.env=(false,eval e X.env)::starEach [] X.env:=by rfl) (hplain:(backTo cpos (starEach [] X.env)).any (·.1)=false:=by rfl) :
  VS X E (.Expr (.Call (.Attribute o "append" apos) [e] [] cpos) pos) (Qa fo f) :=
 PS.imp (qA9 (qD5 Bv PySem.F.slot_list_append PySem.F.type_list_append jS ho (Z1 h Yp h1) hbase hfew hline h1 hplain) hs) fun D s H ⟨b,r,st,S,R,P⟩=>⟨b,r,st,S,R,PostE.bindS P fun o s1 u H1 b1 e1 S1 r1 P1=>by
  have key:∀ {n:Nat},o = .ref n->lk s1 (.ref n)=true->tyV X.K "list" u H1:=fun {n} ho hlk=>by
   subst ho;unfold RV at r1;obtain ⟨x,rfl,hx⟩:=r1;have hl:n < s1.length:=by rw [← S1.len];exact (AS.mp hx).1
   obtain ⟨a',o',h3,h4,h5⟩:=S1.at_ n _ (AI hl);rw [hx] at h3;cases h3;cases hq:s1[n] with
   |l xs=>rw [hq] at h5;obtain ⟨vs,e,_⟩:=h5;subst e;exact .inl ⟨rfl,vs,SqL.of h4⟩
   |z xs=>unfold lk at hlk;dsimp only at hlk;rw [AI hl,hq] at hlk;cases hlk
   |d xs=>unfold lk at hlk;dsimp only at hlk;rw [AI hl,hq] at hlk;cases hlk
  cases o with
  |ref n =>
   have P1:PostS X.K E H1 b1 (if lk s1 (.ref n)=true then ((f r s1).bindS fun p s2=>match s2[n]? with |some (.l xs)=>if xs.length < sizeLine then .nx r (s2.set n (.l (xs++[p]))) else .no |_ => .no) else .no) D:=P1;by_cases hlk:lk s1 (.ref n)=true
   rotate_left
   ·rw [AK hlk] at P1;exact P1.elim
   rw [AF hlk] at P1;refine ⟨key rfl hlk,b1,r,s1,S1,R.ext e1,?_⟩;cases eb:f r s1 with
   |no=>rw [eb] at P1;exact P1.elim
   |ex x s2=>rw [eb] at P1;exact P1
   |ok p s2 =>
    rw [eb] at P1;intro v H2 b2 e2 S2 r2;have P2:PostS X.K E H1 b1 (match s2[n]? with |some (.l xs)=>if xs.length < sizeLine then .nx r (s2.set n (.l (xs++[p]))) else .no |_ => .no) D:=P1;split at P2
    ·rename_i xs ex;split at P2
     ·rename_i hl;have r1':=RV.ext e2 _ r1;unfold RV at r1';obtain ⟨x,rfl,hx⟩:=r1';obtain ⟨x',o',h1,h2,vs,rfl,h4⟩:=S2.at_ n _ ex;rw [hx] at h1;cases h1;refine ⟨x,vs,v,rfl,rfl,h2,by rw [← h4.length];exact hl,?_⟩
      have hm:x∈b2.b:=Ar hx;have ew:Ext H2 b2 (upd H2 x (.lst (vs++[v]))) b2:=Ext.wr hm S2.zb (qFc h2);exact P2 s _ b2 (e2.trans ew) (S2.wr (x := .l (xs++[p])) hx ⟨_,rfl,(RVs.ext ew xs h4).append (RVs.cons (RV.ext ew p r2) RVs.nil)⟩) (((R.ext e1).ext e2).ext ew)
     ·exact P2.elim
    ·exact P2.elim
  |_=>exact P1.elim⟩
def qCi (p:PV):List PV->Option Nat
 |[]=>none
 |q::qs=>if peq q p=true then some 0 else (qCi p qs).map (· + 1)
theorem jT (p:PV):∀ {l:List PV} {j:Nat},qCi p l=some j->(∃ q,l[j]? = some q∧peq q p=true) ∧ ∀ m,m < j -> ∃ q,l[m]? = some q∧peq q p=false
 |[],_,h=>by cases h
 |q::qs,j,h=>by
  unfold qCi at h;split at h
  ·rename_i hq;cases h;exact ⟨⟨q,rfl,hq⟩,fun m hm=>by omega⟩
  ·rename_i hq;cases e:qCi p qs with
   |none=>rw [e] at h;cases h
   |some k =>
    rw [e] at h;cases h;obtain ⟨⟨q',h1,h2⟩,h3⟩:=jT p e;refine ⟨⟨q',by simpa using h1,h2⟩,fun m hm => ?_⟩
    cases m with
    |zero=>exact ⟨q,rfl,by simpa using hq⟩
    |succ m=>obtain ⟨q2,h4,h5⟩:=h3 m (by have hm:m + 1 < k + 1:=hm;omega);exact ⟨q2,by simpa using h4,h5⟩
theorem qED {pins:List (Addr×Obj)} {σ:L2.St} {H:Hp} {s:Shared} (I:L2.Inv X pins σ H s) {A:Around} {p:PV} {u:V} {uu:Value} (hp:RW X.K H p u) (ru:RelV u uu) (hA:A.units + 60 < cLine)
  {l:List PV} {xs:List V} {its:List Value} (hl:RWs X.K H l xs) (vl:Vals xs its) (hd:deps l≤ZG):∃ g:Value->Bool,(∀ y∈its,SeqAt.EqAt A s y uu (g y)) ∧ ∀ (i:Nat) (q:PV) (y:Value),l[i]? = some q->its[i]? = some y->g y=peq q p:=by
 classical
 have key:∀ (q:PV) (x:V) (y:Value),RW X.K H q x->RelV x y->decide (∃ q x,RW X.K H q x∧RelV x y∧peq q p=true)=peq q p:=fun q x y h1 h2=>by
  by_cases hb:peq q p=true
  ·rw [hb];exact AR ⟨q,x,h1,h2,hb⟩
  ·rw [show peq q p=false by simpa using hb]
   refine Ae fun ⟨q',x',k1,k2,k3⟩=>hb ?_;have ex:x'=x:=k2.inj h2;subst ex;rw [RW.det I q q' h1 k1];exact k3
 refine ⟨fun y=>decide (∃ q x,RW X.K H q x∧RelV x y∧peq q p=true),fun y hy => ?_,fun i q y hq hy => ?_⟩
 ·obtain ⟨i,hi⟩:=BH hy;obtain ⟨x,hx,rx⟩:=Vals.get2 vl hi;obtain ⟨q,hq,rq⟩:=RWs.get' hl hx;dsimp only;rw [key q x y rq rx];exact J5 I 60 q p x u y uu A (Aa (zH hq) hd) hA rq hp rx ru
 ·obtain ⟨x,hx,rx⟩:=Vals.get2 vl hy;obtain ⟨q',hq',rq⟩:=RWs.get' hl hx;rw [hq] at hq';cases hq';exact key q x y rq rx
theorem qEX (hr:X.A.units + 64 < cLine):MtM X "list.index" (fun x vs H Q => ∃ l xs a p v j,x = .ref a∧vs=[v]∧SqL X.K H a xs∧RWs X.K H l xs∧RW X.K H p v∧deps l≤ZG∧qCi p l=some j∧Q (.int j) H):=by
 intro pins s σ H x vs v us Q I rx rv h;obtain ⟨l,xs,ad,p,y,j,rfl,rfl,hs,hl,hp,hd,hj,q⟩:=h;cases rx;obtain ⟨u,rfl,ru⟩:=rv.one;obtain ⟨its,r',pl,hz⟩:=I.list hs;obtain ⟨⟨c1,d1,a1,s1⟩,o1,e1,m1,f1⟩:=id pl.isList;have e1:c1=_:=e1;have f1:a1=_:=f1;subst e1;subst f1;have hA:X.A.in1.units + 60 < cLine:=by show X.A.units + 1 + 60 < cLine;omega
 obtain ⟨g,g1,g2⟩:=qED I hp ru hA hl r' hd;obtain ⟨⟨q1,k1,k2⟩,k3⟩:=jT p hj;have n1:l.length=its.length:=by rw [hl.length,r'.length]
 have jl:j < l.length:=(AS.mp k1).1;have ji:j < its.length:=by rw [← n1];exact jl
 refine call_meets F.slot_list_index ⟨_,o1,rfl⟩ F.entry_list_index (F.args_list_index_2 _ _) (SeqAt.list_indexAt ad its.toArray m1 d1 s1 u g j (by simpa using ji) ?_ ?_ fun m hm hlt => ?_) ⟨o1,fun y hy=>g1 y (by simpa using hy),⟨.int j,H,I.tok _,⟨_,rfl⟩,q⟩⟩
 ·have:its.length≤sizeLine:=by rw [← r'.length];exact hz
  have h2:(sizeLine:Nat) < 2 ^ 62:=by decide
  omega
 ·rw [show its.toArray[j]=its[j] by simp,g2 j q1 _ k1 (AI ji)];exact k2
 ·obtain ⟨q2,k4,k5⟩:=k3 m hlt;have mi:m < its.length:=by simpa using hm
  rw [show its.toArray[m]=its[m] by simp,g2 m q2 _ k4 (AI mi)];exact k5
def qHv (fo f:FE):FE:=fun r st=>(fo r st).bind fun o s1=>match asL s1 o with
 |some _=>(f r s1).bind fun p s2=>match asL s2 o with
  |some l=>if nrs l=true∧nr p=true∧deps l≤ZG then (match qCi p l with |some j => .ok (.int j) s2 |none => .no) else .no
  |none => .no
 |none => .no
theorem qC5 {fo:FE} {o:Expr} {apos cpos:Pos} (hr:X.A.units + 64 < cLine) (ho:VE X E o fo) (h:VE X E e f) (hbase:attributeBase o "index" X.env (eval o X.env)=eval o X.env:=by rfl)
  (hfew:((backTo cpos (starEach [e] X.env)).all (fun x => !x.1)&&(backToKw cpos (keywordEach [] X.env)).all (fun x=>x.1.isSome)&&decide ([e].length + ([]:List Keyword).length + (if ([]:List Keyword).isEmpty then 0 else 1) < 30))=true:=by rfl)
  (hline:(apos.endLine==cpos.line)=true:=by rfl) (h1:starEach [e] X.env=(false,eval e X.env)::starEach [] X.env:=by rfl) (hplain:(backTo cpos (starEach [] X.env)).any (·.1)=false:=by rfl) :
  VE X E (.Call (.Attribute o "index" apos) [e] [] cpos) (qHv fo f) :=
 PE.imp (qD5 Bv PySem.F.slot_list_index PySem.F.type_list_index (qEX hr) ho (Z1 h Yp h1) hbase hfew hline h1 hplain) fun s H Q ⟨b,r,st,S,R,P⟩=>⟨b,r,st,S,R,PostE.bind P fun o s1 u H1 b1 e1 S1 r1 P1=>by
  split at P1
  ·rename_i l1 el1;obtain ⟨x,xs,rfl,h2,h3⟩:=Q5 S1 r1 el1;refine ⟨.inl ⟨rfl,xs,h2⟩,b1,r,s1,S1,R.ext e1,PostE.bind P1 fun p s2 v H2 b2 e2 S2 r2 P2 => ?_⟩;split at P2
   ·rename_i l el;split at P2
    ·rename_i hc;split at P2
     ·rename_i j hj;obtain ⟨x',ys,ex,h4,h5⟩:=Q5 S2 (RV.ext e2 o r1) el;cases ex;exact ⟨l,ys,x,p,v,j,rfl,rfl,h4,RVs.rws l hc.1 h5,RV.rw p hc.2.1 r2,hc.2.2,hj,PostE.here P2 S2 Qu⟩
     ·exact P2.elim
    ·exact P2.elim
   ·exact P2.elim
  ·exact P1.elim⟩
def qKG (i:Int):Str:=toString i
def qGw (f:FE):FE:=fun r st=>(f r st).bind fun p s=>match p with
 | .int i=>if i.natAbs.log2 < 1920 then .ok (.str (qKG i)) s else .no
 |_ => .no
theorem qEq (h:VE X E e f):VE X E (.FormattedValue e (-1) none pos) (qGw f):=PE.imp (qHz h) fun s H Q ⟨b,r,st,S,R,P⟩=>⟨b,r,st,S,R,PostE.bind P fun p s1 u H1 b1 e1 S1 r1 P1=>by
 split at P1
 ·rename_i i;split at P1
  ·rename_i hi;unfold RV at r1;exact ⟨i,r1,hi,PostE.here P1 S1 (by unfold RV;rfl)⟩
  ·exact P1.elim
 ·exact P1.elim⟩
def vJ:List FE->Str->qv->qD->Rs PV
 |[],out,_,st=>if out.length≤sizeLine then .ok (.str out) st else .no
 |f::fs,out,r,st=>(f r st).bind fun p s=>match p with
  | .str y=>if (out++y).length≤sizeLine then vJ fs (out++y) r s else .no
  |_ => .no
def VJ (X:Cx) (E:XK) (es:List Expr) (fs:List FE):Prop:=PJ X es (fun out σ H Q => ∃ b r st,SR X.K H b st∧REnv X.K H b r σ∧PostE X.K E H b (vJ fs out r st) (fun v H' => ∃ x,v = .str x∧Q x H'))
theorem qHy:VJ X E [] []:=fun out pins s σ H Q I ⟨b,r,st,S,R,P⟩=>qHi out pins s σ H Q I (by
 unfold vJ at P;split at P
 ·rename_i h;obtain ⟨x,e,q⟩:=PostE.here P S (by unfold RV;rfl)
  cases e;exact ⟨h,q⟩
 ·exact P.elim)
theorem yf {fs:List FE} (h1:VE X E e f) (h2:VJ X E es fs):VJ X E (e::es) (f::fs):=fun out pins s σ H Q I ⟨b,r,st,S,R,P⟩=>qFM h1 h2 out pins s σ H Q I (by
 unfold vJ at P;refine ⟨b,r,st,S,R,PostE.bind P fun p s1 u H1 b1 e1 S1 r1 P1 => ?_⟩;split at P1
 ·rename_i y;split at P1
  ·rename_i h;unfold RV at r1;exact ⟨y,r1,h,b1,r,s1,S1,R.ext e1,P1⟩
  ·exact P1.elim
 ·exact P1.elim)
theorem qFF {e1 e2:Expr} {fs:List FE} (h:VJ X E (e1::e2::es) fs):VE X E (.JoinedStr (e1::e2::es) pos) (vJ fs Str.empty):=fun pins s σ H Q I ⟨b,r,st,S,R,P⟩=>qFf h pins s σ H Q I ⟨b,r,st,S,R,by
 cases e:vJ fs Str.empty r st with
 |ex x s1=>rw [e] at P;exact P
 |no=>rw [e] at P;exact P
 |ok p s1 =>
  rw [e] at P;intro v H' b' e' S' r';have q:=P v H' b' e' S' r';have hp:∃ y,p = .str y:=by
   have key:∀ (fs:List FE) (out:Str) (st:qD) (p:PV) (s1:qD),vJ fs out r st = .ok p s1 -> ∃ y,p = .str y:=by
    intro fs;induction fs with
    |nil=>intro out st p s1 h;unfold vJ at h;split at h;(cases h;exact ⟨_,rfl⟩);cases h
    |cons g gs ih =>
     intro out st p s1 h;unfold vJ at h;cases eg:g r st with
     |no=>rw [eg] at h;cases h
     |ex x s2=>rw [eg] at h;cases h
     |ok p2 s2 =>
      rw [eg] at h;dsimp only [Rs.bind] at h;split at h
      ·split at h
       ·exact ih _ _ _ _ h
       ·cases h
      ·cases h
   exact key _ _ _ _ _ e
  obtain ⟨y,rfl⟩:=hp;unfold RV at r';exact ⟨y,r',by rw [r'] at q;exact q⟩⟩
theorem qt {P:Program} {w:World} (X:Cx):zp (CXF P w) X E0:=fun pins σ H s e s' I h=>by obtain ⟨_,_,_,_,_,_,_,_,_,_,_,_,q⟩:=h;exact q.elim
def Qe (i:Nat):FG:=fun p r=>match r[i]? with
 |some none=>some (r.set i (some p))
 |_=>none
theorem qBA {i:Nat} {p:PV} {r r':qv} (h:Qe i p r=some r'):r[i]? = some none∧r'=r.set i (some p):=by
 unfold Qe at h;split at h
 ·rename_i e;cases h;exact ⟨e,rfl⟩
 ·cases h
theorem wW (i:Nat) {x:Str} (hN:X.N.Nodup) (hi:X.N[i]? = some x:=by rfl) (hx:Loc X.env.scope x:=by first |exact Or.inl rfl |exact Or.inr rfl) (hf:X.fn x=true∨X.env.scope.names.lookup x=some .local:=by first |exact .inl rfl |exact .inr rfl |assumption):VG X (.Name x pos) (Qe i) :=
 PG.imp (qm i hN hi hx hf) fun v s H Q ⟨b,r,p,st,S,R,rv,r',e,q⟩=>⟨b,r,p,st,S,R,rv,r',by rw [(qBA e).2];rfl,q⟩
theorem QH (i:Nat):qGS (Qe i):=fun p r r' h=>by
 obtain ⟨h1,rfl⟩:=qBA h;refine ⟨by simp,fun j q e => ?_⟩
 by_cases hj:i=j
 ·subst hj;rw [h1] at e;cases e
 ·rw [BD hj];exact e
theorem max_at {ns:List Int} {m:Int} {i:Nat} (hm:ns.max? = some m) (hi:i≤ns.length - 1) (h:∀ j,j≤ns.length - 1->ns.getD j 0≤ns.getD i 0):ns.getD i 0=m:=by
 have hne:ns≠[]:=by intro z;subst z;cases hm
 have hl:0 < ns.length:=List.length_pos_iff.mpr hne;obtain ⟨h1,h2⟩:=List.max?_eq_some_iff.mp hm;have hil:i < ns.length:=by omega
 have e1:ns.getD i 0=ns[i]:=by simp [Ab,hil]
 have a1:ns.getD i 0≤m:=by rw [e1];exact h2 _ (BV hil)
 obtain ⟨j,hj,rfl⟩:=List.mem_iff_getElem.mp h1
 have:=h j (by omega)
 have e2:ns.getD j 0=ns[j]:=by simp [Ab,hj]
 omega
end
structure DefG (P:Program) (w:World) (K:W.Frag) (mg:Str->Option Value) (base:Heap) (k:Nat) (x:Str) (fa:Addr) (n:Nat) (g:List PV->qD->Rs PV):Prop where
 ok:∃ fd ps,ps.length=n∧FnOk P w K mg base (CXF P w) k fa fd ps (spG K ps.length g)∧L2.Binds K fd ps [] ∧ ∀ l st,g l st ≠ .no->l.length=ps.length
 mg:mg x=some (.ref fa)
 kp:W.keepIn K (.ref fa)=true
section
variable {X:Cx} {E:XK} {e a c d:Expr} {es:List Expr} {f fa fb fc:FE} {fl:FL} {pos:Pos} {F G:FS}
theorem DefG.call {k n:Nat} {x:Str} {fa:Addr} {g:List PV->qD->Rs PV} (D:DefG X.prog X.w X.K X.mg X.base k x fa n g) (hr:Room k X.A) (hx:zp (CXF X.prog X.w) X E) (hg:Gl X x:=by rfl) (hdb:(x==("__debug__":Str))=false:=by decide):qG5 X E x g:=by obtain ⟨fd,ps,_,F,B,hl⟩:=D.ok;exact qKI (n:=n) F hr hg D.mg D.kp B hx hl hdb
end
def QI (n N:Nat) (B:FS):List PV->qD->Rs PV:=fun l st=>if l.length=n then qFY (B (Qg N l) st) else .no
theorem qd {n N:Nat} {B:FS} {l:List PV} {st:qD} (h:QI n N B l st ≠ .no):l.length=n:=by
 unfold QI at h;split at h
 ·assumption
 ·exact absurd rfl h
section
variable {X:Cx} {E:XK} {e a c d:Expr} {f fa fb fc:FE} {pos:Pos}
def Z0 (f:FE):FE:=fun r st=>(f r st).bind fun p s=>match p with
 | .int i => .ok (.int (-i)) s
 |_ => .no
theorem ZY (h:VE X E e f):VE X E (.UnaryOp .USub e pos) (Z0 f):=PE.imp (qJh qHR h) fun s H Q ⟨b,r,st,S,R,P⟩=>⟨b,r,st,S,R,PostE.bind P fun p s1 u H1 b1 e1 S1 r1 P1=>by
 split at P1
 ·rename_i i;unfold RV at r1;exact ⟨i,r1,PostE.here P1 S1 Qu⟩
 ·exact P1.elim⟩
end
theorem qFn {k:Nat} {A:Around} {v:Option Value} (h:Room k A) (hk:1≤k:=by omega):Room 1 (A.mark v) :=
 ⟨fun z=>absurd z (by decide),by have:=h.dp;show A.depth + 3 * 1 + 5 < recursionLimit;omega,by have:=h.un;show A.units + 16 * 1 + 200 < cLine;omega,h.gd⟩
theorem qb {n N m:Nat} {B:FS} {l:List PV} {s0:qD} (hl:l.length=n):Refn m (qFY (B (Qg N l) s0)) (QI n N B l s0):=by unfold QI;rw [AF hl];exact Refn.refl
section
variable {P:Program} {w:World} {K:W.Frag} {mg:Str->Option Value} {base:Heap}
theorem Qw {x:Str} {st:Stmt} {fa:Addr} {fd:FuncData} {N ps:List Str} {k:Nat} {B:FS} {g:List PV->qD->Rs PV} (F:Fun K x x st fa fd) (S:FnScope N ps (qM st)) (b:L2.Binds K fd ps []) (m:mg x=some (.ref fa)) (hlen:∀ l s,g l s ≠ .no->l.length=ps.length)
  (body:∀ (cdv:Value) (A:Around) (outer:List Env) (s:Shared) (H:Hp) (E:XK),Room k (A.deeper (envOfC x (qM st) s.heap.objs.size fa cdv))->(0 < k->A.handled=none)->VSs (wS (CXF P w) P w K mg base N x (qM st) fa cdv A outer s H E) E (qh st) B)
  (hg:∀ l s0,l.length=ps.length->g l s0 ≠ .no->Refn s0.length (qFY (B (Qg N.length l) s0)) (g l s0)):DefG P w K mg base (k + 1) x fa ps.length g :=
 ⟨⟨fd,ps,rfl,okV F S fun cdv A outer s H E hr hc=>⟨B,body cdv A outer s H E hr hc,hg⟩,b,hlen⟩,m,F.kp⟩
end
section
variable {X:Cx} {E:XK} {es:List Expr} {f:FE} {g:FA} {pos:Pos}
theorem qf {c:Const} {j:Nat} (h:VE X E (.Constant c j pos) f) (h2:VA X E es g):VA X E (.Constant c j pos::es) (qA f g):=Q0 h h2 rfl
theorem qO {x:Str} (h:VE X E (.Name x pos) f) (h2:VA X E es g):VA X E (.Name x pos::es) (qA f g):=Q0 h h2 rfl
theorem Qv {a b c} (h:VE X E (.Call a b c pos) f) (h2:VA X E es g):VA X E (.Call a b c pos::es) (qA f g):=Q0 h h2 rfl
theorem wX {a b c} (h:VE X E (.BinOp a b c pos) f) (h2:VA X E es g):VA X E (.BinOp a b c pos::es) (qA f g):=Q0 h h2 rfl
theorem wU {a b} (h:VE X E (.Tuple a b pos) f) (h2:VA X E es g):VA X E (.Tuple a b pos::es) (qA f g):=Q0 h h2 rfl
theorem qFl {a} (h:VE X E (.List a pos) f) (h2:VA X E es g):VA X E (.List a pos::es) (qA f g):=Q0 h h2 rfl
theorem Jx {a b} (h:VE X E (.Subscript a b pos) f) (h2:VA X E es g):VA X E (.Subscript a b pos::es) (qA f g):=Q0 h h2 rfl
theorem qDt {a b} (h:VE X E (.UnaryOp a b pos) f) (h2:VA X E es g):VA X E (.UnaryOp a b pos::es) (qA f g):=Q0 h h2 rfl
theorem qKW {a b c} (h:VE X E (.Compare a b c pos) f) (h2:VA X E es g):VA X E (.Compare a b c pos::es) (qA f g):=Q0 h h2 rfl
theorem jk {a b c} (h:VE X E (.ListComp a b c pos) f) (h2:VA X E es g):VA X E (.ListComp a b c pos::es) (qA f g):=Q0 h h2 rfl
theorem qKO {a} (h:VE X E (.JoinedStr a pos) f) (h2:VA X E es g):VA X E (.JoinedStr a pos::es) (qA f g):=Q0 h h2 rfl
theorem qKT {a b c} (h:VE X E (.IfExp a b c pos) f) (h2:VA X E es g):VA X E (.IfExp a b c pos::es) (qA f g):=Q0 h h2 rfl
theorem qKX {a b} (h:VE X E (.BoolOp a b pos) f) (h2:VA X E es g):VA X E (.BoolOp a b pos::es) (qA f g):=Q0 h h2 rfl
end
section
variable {X:Cx} {E:XK} {e a c d:Expr} {es:List Expr} {f fa fb fc:FE} {fl:FL} {pos:Pos} {F G:FS}
theorem Jq:Wo X (.builtin "divmod") (fun xs H Q => ∃ i j:Int,xs=[.int i,.int j]∧0 < j∧j < 1073741824 ∧ ∀ p,H p=none->Q (.ref p) (upd H p (.tup [.int (i / j),.int (i % j)]))):=by
 intro pins s σ H xs us Q I r h;obtain ⟨i,j,rfl,h1,h2,q⟩:=h;obtain ⟨u,w',rfl,⟨t,rfl⟩,⟨t',rfl⟩⟩:=qBB r;refine divmod_int (by omega) ?_ (.inl (PyProof.noPylong_small (by omega)))
 rw [Int.fdiv_eq_ediv_of_nonneg i (by omega),Int.fmod_eq_emod_of_nonneg i (by omega)]
 refine ⟨.ref s.heap.objs.size,_,I.laid (t':=s.toks + 1 + 1) (o := .tup [.int (i / j),.int (i % j)]) (fun b ob q=>AD _ q) (AG _) ?_,rfl,q _ (I.hok.fresh (AG _))⟩;exact ⟨show 2≤sizeLine by decide,_,.cons ⟨_,rfl⟩ (.cons ⟨_,rfl⟩ .nil),IsTup.new _ _⟩
def Zx:List PV->qD->Rs PV:=fun ps st=>match ps with
 |[.int i,.int j]=>if 0 < j∧j < 1073741824 then .ok (.tup [.int (i / j),.int (i % j)]) st else .no
 |_ => .no
theorem qCR {ta:FA} {p:Pos} (ha:VA X E (e::es) ta) (hm:X.mg "divmod" = none) (hg:Gl X "divmod" := by rfl) (he:starEach (e::es) X.env=(false,eval e X.env)::starEach es X.env:=by rfl) (hpl:(backTo pos (starEach es X.env)).any (·.1)=false:=by rfl):VE X E (.Call (.Name "divmod" p) (e::es) [] pos) (qH Zx ta) :=
 WT Jq (fun H b st ps vs Q S r P=>by
  unfold Zx at P;split at P
  ·rename_i i j;split at P
   ·rename_i hc;obtain ⟨v,w,rfl,r1,r2⟩:=RVs.two r;unfold RV at r1 r2;subst r1;subst r2;exact ⟨i,j,rfl,hc.1,hc.2,fun p hp=>PostE.layT P S (RVs.cons Qu (RVs.cons Qu RVs.nil)) hp⟩
   ·exact P.elim
  ·exact P.elim) hg hm PyProof.Rows.boot_divmod ha (he:=he) (hpl:=hpl)
def qBy (p:PV):List PV->Nat
 |[]=>0
 |q::qs=>(if peq q p=true then 1 else 0) + qBy p qs
theorem jN {p:PV} {g:Value->Bool}:∀ {l:List PV} {its:List Value},l.length=its.length->(∀ (i:Nat) (q:PV) (y:Value),l[i]? = some q->its[i]? = some y->g y=peq q p)->its.countP g=qBy p l
 |[],[],_,_=>rfl
 |q::qs,y::ys,hl,h=>by
  rw [List.countP_cons,jN (l:=qs) (its:=ys) (by simpa using hl) fun i q' y' h1 h2=>h (i + 1) q' y' (by simpa using h1) (by simpa using h2),h 0 q y rfl rfl]
  show _=(if peq q p=true then 1 else 0) + qBy p qs;rw [Nat.add_comm]
 |[],_::_,hl,_=>by simp at hl
 |_::_,[],hl,_=>by simp at hl
theorem qC2 (hr:X.A.units + 64 < cLine):MtM X "list.count" (fun x vs H Q => ∃ l xs a p v,x = .ref a∧vs=[v]∧SqL X.K H a xs∧RWs X.K H l xs∧RW X.K H p v∧deps l≤ZG∧Q (.int (qBy p l)) H):=by
 intro pins s σ H x vs v us Q I rx rv h;obtain ⟨l,xs,ad,p,y,rfl,rfl,hs,hl,hp,hd,q⟩:=h;cases rx;obtain ⟨u,rfl,ru⟩:=rv.one;obtain ⟨its,r',pl,hz⟩:=I.list hs;obtain ⟨⟨c1,d1,a1,s1⟩,o1,e1,m1,f1⟩:=id pl.isList;have e1:c1=_:=e1;have f1:a1=_:=f1;subst e1;subst f1;have hA:X.A.in1.units + 60 < cLine:=by show X.A.units + 1 + 60 < cLine;omega
 obtain ⟨g,g1,g2⟩:=qED I hp ru hA hl r' hd;have n1:l.length=its.length:=by rw [hl.length,r'.length]
 refine call_meets F.slot_list_count ⟨_,o1,rfl⟩ F.entry_list_count (F.args_list_count_2 _ _) (SeqAt.list_countAt ad its.toArray m1 d1 s1 u g) ⟨o1,fun y hy=>g1 y (by simpa using hy),⟨.int (qBy p l),H,I.tok _,⟨s.toks,?_⟩,q⟩⟩
 show Value.int ((its.toArray.toList.countP g:Nat):Int) s.toks=_;rw [show its.toArray.toList=its from rfl,jN (its:=its) n1 g2]
def qAy (fo f:FE):FE:=fun r st=>(fo r st).bind fun o s1=>match asL s1 o with
 |some _=>(f r s1).bind fun p s2=>match asL s2 o with
  |some l=>if nrs l=true∧nr p=true∧deps l≤ZG then .ok (.int (qBy p l)) s2 else .no
  |none => .no
 |none => .no
theorem qDC {fo:FE} {o:Expr} {apos cpos:Pos} (hr:X.A.units + 64 < cLine) (ho:VE X E o fo) (h:VE X E e f) (hbase:attributeBase o "count" X.env (eval o X.env)=eval o X.env:=by rfl)
  (hfew:((backTo cpos (starEach [e] X.env)).all (fun x => !x.1)&&(backToKw cpos (keywordEach [] X.env)).all (fun x=>x.1.isSome)&&decide ([e].length + ([]:List Keyword).length + (if ([]:List Keyword).isEmpty then 0 else 1) < 30))=true:=by rfl)
  (hline:(apos.endLine==cpos.line)=true:=by rfl) (h1:starEach [e] X.env=(false,eval e X.env)::starEach [] X.env:=by rfl) (hplain:(backTo cpos (starEach [] X.env)).any (·.1)=false:=by rfl) :
  VE X E (.Call (.Attribute o "count" apos) [e] [] cpos) (qAy fo f) :=
 PE.imp (qD5 Bv PySem.F.slot_list_count PySem.F.type_list_count (qC2 hr) ho (Z1 h Yp h1) hbase hfew hline h1 hplain) fun s H Q ⟨b,r,st,S,R,P⟩=>⟨b,r,st,S,R,PostE.bind P fun o s1 u H1 b1 e1 S1 r1 P1=>by
  split at P1
  ·rename_i l1 el1;obtain ⟨x,xs,rfl,h2,h3⟩:=Q5 S1 r1 el1;refine ⟨.inl ⟨rfl,xs,h2⟩,b1,r,s1,S1,R.ext e1,PostE.bind P1 fun p s2 v H2 b2 e2 S2 r2 P2 => ?_⟩;split at P2
   ·rename_i l el;split at P2
    ·rename_i hc;obtain ⟨x',ys,ex,h4,h5⟩:=Q5 S2 (RV.ext e2 o r1) el;cases ex;exact ⟨l,ys,x,p,v,rfl,rfl,h4,RVs.rws l hc.1 h5,RV.rw p hc.2.1 r2,hc.2.2,PostE.here P2 S2 Qu⟩
    ·exact P2.elim
   ·exact P2.elim
  ·exact P1.elim⟩
theorem qHA:VE X E (.Dict [] [] pos) (vC .dct):=PE.imp qEd fun s H Q ⟨b,r,st,S,R,P⟩ p hp=>by refine P (.ref p) _ b (Ext.new hp) (S.new hp) ?_;unfold RV;exact ⟨p,rfl,Qj,S.new_notin hp⟩
end
section
variable {X:Cx} {E:XK} {es:List Expr} {f:FE} {g:FA} {pos:Pos}
theorem qJ5 {a b} (h:VE X E (.Dict a b pos) f) (h2:VA X E es g):VA X E (.Dict a b pos::es) (qA f g):=Q0 h h2 rfl
end
section
variable {X:Cx} {E:XK} {e a c d:Expr} {es:List Expr} {f fa fb fc:FE} {pos:Pos}
def CMulB (i j:Int):Prop:=Builtin.Int.intBits i + Builtin.Int.intBits j≤bitsLine
theorem CMulB.ok {i j:Int} (h:CMulB i j):IntMulOk i j:=by
 unfold IntMulOk Builtin.Int.intTooBig;have h':¬ (((Builtin.Int.intBits i:Int) + (Builtin.Int.intBits j:Int)) > (bitsLine:Int)):=by unfold CMulB at h;omega
 rw [Ae h'];simp
theorem qFK:OpR X (binaryOp .Mult) (rI CMulB fun i j => .int (i * j)):=opI fun _ _ _ _ _ _ _ hc q=>mul_int q hc.ok
def qBZ:=gI fun i j=>if Builtin.Int.intBits i + Builtin.Int.intBits j≤bitsLine then some (.int (i * j)) else none
theorem qF0 (ha:VE X E a fa) (hb:VE X E c fb):VE X E (.BinOp a .Mult c pos) (qI qBZ fa fb):=Z2 qFK (qEI fun i j z e=>by
 split at e
 ·rename_i hc;cases e;exact ⟨hc,fun _ _=>Qu⟩
 ·cases e) ha hb
theorem qHV {i j:Int} {st:qD} (h:Builtin.Int.intBits i + Builtin.Int.intBits j≤bitsLine):qBZ (.int i) (.int j) st = .ok (.int (i * j)) st:=by unfold qBZ gI;dsimp only;rw [AF h]
theorem jm {x:Int} {n:Nat} (h:x.natAbs < 2 ^ n):Builtin.Int.intBits x≤n:=by
 unfold Builtin.Int.intBits;by_cases h0:x=0
 ·subst h0;exact A3 _
 ·rw [AK (by simpa using h0)]
  have:x.natAbs≠0:=by omega
  exact (Nat.log2_lt this).mpr h
theorem qEy {x:Int} {n:Nat} (h:Builtin.Int.intBits x≤n):x.natAbs < 2 ^ n:=by
 unfold Builtin.Int.intBits at h;by_cases h0:x=0
 ·subst h0;exact Nat.two_pow_pos n
 ·rw [AK (by simpa using h0)] at h
  have:x.natAbs≠0:=by omega
  exact (Nat.log2_lt this).mp (by omega)
end
end EV
end
section
namespace Att
open PySem PySem.W PySem.Calls PyProof.Rows
theorem YT:∀ {ns:List Int} {n:Int},n∈ns->WData.weight (.int n)≤WData.weightAll (ns.map WData.int)
 |m::ns,n,h=>by
  show _≤WData.weight (.int m) + 1 + WData.weightAll (ns.map WData.int);rcases AJ.mp h with rfl |h
  ·omega
  ·have:=YT h;omega
theorem J8 {ns:List Int} (h:WData.layableAll [WData.list (ns.map WData.int)]=true):∀ n∈ns,Builtin.Int.intBits n≤2 ^ 20:=by
 intro n hn;unfold WData.layableAll at h;have h1:WData.layable (WData.list (ns.map WData.int))=true:=by simpa using h
 unfold WData.layable at h1;rw [AV] at h1;have h2:WData.weight (WData.list (ns.map WData.int))≤2 ^ 20:=BO h1.2;have h3:WData.weightAll (ns.map WData.int)≤2 ^ 20:=h2;exact Aa (YT hn) h3
theorem attach_callB {l:OpenLaw} {n:Nat} {q:Program} {loose:List Str} {XP:(Str->Option Value)->Heap->Prop} {YP:World->Heap->Prop} {d:DefRec}
  (hn:l.most=some n) (hdf:d.params.defaults=[])
  (call:∀ (w:World) (s₀ s₁:Shared) (mg mb:Str->Option Value) (fa:Addr) (o:Obj) (pm cd doc:Value) (a:Addr) (vs:List Value) (ns:List Int),
   Ground q loose [] XP w s₀ mg mb s₁.heap->YP w s₁.heap ->
   s₁.heap.get? fa=some o->o.data = .func (docDef d.name d.params d.body d.scope pm cd doc)->s₁.heap.CodeRec cd d.name->mg d.name=some (.ref fa) ->
   s₁.heap.get? a=some { cls := .type "list",data := .seq vs.toArray }->IntsAre vs ns->ns.length≤n->(∀ k∈ns,Builtin.Int.intBits k≤2 ^ 20)->s₁.gens = #[] ->
   codeAny (model l.prog w) callerA (.call (.ref fa) ⟨[.ref a],[]⟩) (fun r s'=>r = .ok (.ret (.bool true))∧OldK s₁.heap s'.heap∧s'.os=s₁.os∧AllBare s'.gens) s₁) :
  WalkO q loose XP YP l.row.toRowW d [] (fun f vs=>PySem.call f vs):=by intro w s₀ s₁ mg mb G Y fa o pm cd doc dV kV ho hd hcd hD hmg hg args vals as hpre hlay hrd hwl hlo;obtain rfl:dV = .none:=Dflts.none hD hdf;obtain rfl:kV = .none:=Dflts.noKw hD;obtain ⟨a,vs,ns,rfl,rfl,hobj,hints,hlen⟩:=qB1 hn hpre hwl;refine enter_call (codeAny_mono (call w s₀ s₁ mg mb fa o pm cd doc a vs ns G Y ho (fd_plain hd) hcd hmg hobj hints hlen (J8 hlay) hg) fun r s' hq => ?_);obtain ⟨rfl,h2,h3,h4⟩:=hq;exact ⟨.inl ⟨.bool true,.bool true,[],rfl,fun _=>rfl,.bool true,qCE l _,fun _=>⟨List.Pairwise.nil,fun _ hm=>(nomatch hm)⟩⟩,h2,h3,h4⟩
end Att
end
section
namespace EX
open PySem PySem.Spec PyProof.Rows L2
section
variable {X:Cx} {pins:List (Addr×Obj)} {σ:L2.St} {H:Hp} {s:Shared}
theorem qCH:Wo X (.builtin "max") (fun xs H Q => ∃ (p:Addr) (ns:List Int) (m:Int),xs=[.ref p]∧SqL X.K H p (ns.map V.int)∧ns.max? = some m∧Q (.int m) H):=by
 intro pins s σ H xs us Q I r h;obtain ⟨p,ns,m,rfl,hq,hm,q⟩:=h;obtain ⟨u,rfl,rx⟩:=YE r;cases rx;obtain ⟨its,r',pl,hz⟩:=I.list hq;have hl:=r'.length;rw [AC] at hl;have hne:ns≠[]:=by intro z;subst z;cases hm
 have hpos:0 < ns.length:=List.length_pos_iff.mpr hne;have hsz:its.toArray.size=ns.length:=by rw [AM,← hl]
 refine call_max_walk (yE I pl fun W st fp k=>⟨_,_,_,_,_,_,_,rfl,W,st,fp,by rw [hsz];exact hpos,CmpOf.ints_gt (fun i=>ns.getD i 0) fun i v hv=>yz r' (by simpa using hv),fun v h' tk hv hk => ?_⟩)
 rw [hsz] at hv;rw [List.getElem?_toArray] at hv;obtain ⟨t,rfl⟩:=yz r' hv;obtain ⟨g1,g2⟩:=argBest_gt (fun i=>ns.getD i 0) (ns.length - 1);rw [EV.max_at hm g1 g2];exact ⟨.int m,H,I.kept (t':=tk) (k h' hk),⟨t,rfl⟩,q⟩
end
end EX
namespace EV
open PySem PySem.Spec PyProof.Rows L2 EX
section
variable {X:Cx} {E:XK} {e a c d:Expr} {es:List Expr} {f fa fb fc:FE} {fl:FL} {pos:Pos} {F G:FS}
def qKS:List PV->qD->Rs PV:=fun ps st=>match ps with
 |[.tup l]=>match Qr Ja l with
  |some ns => .ok (.int ns.sum) st
  |none => .no
 |_ => .no
def YH:List PV->qD->Rs PV:=fun ps st=>match ps with
 |[p]=>match asL st p with
  |some l=>match Qr Ja l with
   |some ns=>match ns.max? with
    |some m => .ok (.int m) st
    |none => .no
   |none => .no
  |none => .no
 |_ => .no
theorem qFo {ta:FA} {p:Pos} (ha:VA X E (e::es) ta) (hm:X.mg "max" = none) (hg:Gl X "max" := by rfl) (he:starEach (e::es) X.env=(false,eval e X.env)::starEach es X.env:=by rfl) (hpl:(backTo pos (starEach es X.env)).any (·.1)=false:=by rfl):VE X E (.Call (.Name "max" p) (e::es) [] pos) (qH YH ta) :=
 WT qCH (fun H b st ps vs Q S r P=>by
  unfold YH at P;split at P
  ·rename_i p';split at P
   ·rename_i l el;split at P
    ·rename_i ns en;split at P
     ·rename_i m em;obtain ⟨v,rfl,r1⟩:=RVs.one r;obtain ⟨x,xs,rfl,h2,h3⟩:=Q5 S r1 el;rw [jt h3 en] at h2;exact ⟨x,ns,m,rfl,h2,em,PostE.here P S Qu⟩
     ·exact P.elim
    ·exact P.elim
   ·exact P.elim
  ·exact P.elim) hg hm Boot.«max» ha (he:=he) (hpl:=hpl)
end
end EV
end
section
namespace HT
open PySem PySem.Spec PyProof.Rows L2
section
variable {prog:Program} {w:World} {A:Around} {E:Value->Shared->Prop} {s:Shared}
def cutS {α:Type} (l:List α) (lo hi:Option Int) (st:Int):List α :=
 (List.range (Builtin.Slice.slicePlaces (Builtin.Slice.sliceAdjust lo hi st l.length).1 (Builtin.Slice.sliceAdjust lo hi st l.length).2 st)).filterMap fun (m:Nat)=>l[((Builtin.Slice.sliceAdjust lo hi st l.length).1 + (m:Int) * st).toNat]?
theorem Zm {sl:Addr} {vl vu vs:Value} {lo hi:Option Int} {st:Int} {n:Nat} {Q:Int×Int×Nat->Shared->Prop} (hs:s.heap.IsSliceOf sl vl vu vs) (pl:IsPart vl lo) (pu:IsPart vu hi) (ps:IsPart vs (some st)) (h0:st≠0)
  (h:Q ((Builtin.Slice.sliceAdjust lo hi st n).1,st,Builtin.Slice.slicePlaces (Builtin.Slice.sliceAdjust lo hi st n).1 (Builtin.Slice.sliceAdjust lo hi st n).2 st) s):wpAny (model prog w) A (Builtin.Slice.sliceApplied (.ref sl) (pure (n:Int))) Q E s:=by
 obtain ⟨os,hos,hcs,hds⟩:=id hs;unfold Builtin.Slice.sliceApplied Builtin.Slice.sliceFields;refine AA (AA (A6 hos hds (x:=vl) rfl (AA (A6 hos hds (x:=vu) rfl (AA (A6 hos hds (x:=vs) rfl (AB ?_)))))));refine AA (Ws ps ?_);show wpAny _ _ (if (st==0)=true then _ else _) _ _ s;rw [AK (by simpa using h0)]
 refine AA (Ws pl (AA (Ws pu (AA (AB ?_)))));exact AB h
theorem getItem_tuple_step {t sl:Addr} {items:Array Value} {vl vu vs:Value} {lo hi:Option Int} {st:Int} {Q:Value->Shared->Prop} (ht:IsTup s.heap t items) (hs:s.heap.IsSliceOf sl vl vu vs) (pl:IsPart vl lo) (pu:IsPart vu hi) (ps:IsPart vs (some st)) (h0:st < 0)
  (h:Q (.ref s.heap.objs.size) { s with heap:=s.heap.push { cls := .type "tuple",data := .seq (cutS items.toList lo hi st).toArray } })
  (hsz:(cutS items.toList lo hi st).length≤sizeLine):wpAny (model prog w) A (getItem (.ref t) (.ref sl)) Q E s:=by
 have htake:sizeOk (.seq (cutS items.toList lo hi st).toArray):=by show (cutS items.toList lo hi st).toArray.size≤sizeLine;rw [AM];exact hsz
 obtain ⟨os,hos,hcs,hds⟩:=id hs;have hTs:s.TypeIs (.ref sl) "slice" := ⟨os,hos,hcs⟩;unfold getItem;try with_reducible refine An ?_
 first |refine AA (AB ?_) |skip
 refine AA (wpAny_sequenceKey ht.typeIs (by decide) ?_)
 refine AA (BM (name:=Str.ofString "__getitem__") ht.typeIs BB
  (Be BB ht.typeIs entry_tuple_getitem ?_ (args_tuple_getitem _ _)))
 show wpAny _ _ (Builtin.Tuple.tupleItemsOf (.ref t) >>= _) _ _ s;refine AA (tupleItemsOf_ ht ?_);refine AA (Ba hTs ?_);rw [AF (by decide)]
 refine AA (Zm hs pl pu ps (by omega) ?_)
 have hno:¬ (((Builtin.Slice.sliceAdjust lo hi st items.size).1==0&&st==1&&Builtin.Slice.slicePlaces (Builtin.Slice.sliceAdjust lo hi st items.size).1 (Builtin.Slice.sliceAdjust lo hi st items.size).2 st==items.size)=true):=by intro q;rw [AV,AV] at q;have q1:st=1:=eq_of_beq q.1.2;omega
 show wpAny _ _ (if ((Builtin.Slice.sliceAdjust lo hi st items.size).1==0&&st==1&&Builtin.Slice.slicePlaces (Builtin.Slice.sliceAdjust lo hi st items.size).1 (Builtin.Slice.sliceAdjust lo hi st items.size).2 st==items.size)=true then _ else _) _ _ s;rw [AK hno];have e:((List.range (Builtin.Slice.slicePlaces (Builtin.Slice.sliceAdjust lo hi st items.size).1 (Builtin.Slice.sliceAdjust lo hi st items.size).2 st)).filterMap fun (m:Nat)=>items[((Builtin.Slice.sliceAdjust lo hi st items.size).1 + (m:Int) * st).toNat]?).toArray=(cutS items.toList lo hi st).toArray:=by unfold cutS;rw [AZ];congr 2;funext m;rw [Av]
 rw [e];first
  |exact AA (m:=Builtin.Tuple.tupleExact _) (A1 (AB ⟨_,rfl,AB h⟩) htake)
  |exact AA (m:=Builtin.Tuple.tupleExact _) (A1 (AA (AB (AB ⟨_,rfl,AB h⟩))) htake)
  |exact AA (AA (m:=Builtin.Tuple.tupleExact _) (A1 (AB (AB ⟨_,rfl,AB h⟩)) htake))
  |exact AA (AA (m:=Builtin.Tuple.tupleExact _) (A1 (AB ⟨_,rfl,AB h⟩) htake))
end
end HT
namespace L2
open PySem PySem.Spec PyProof.Rows
section
variable {X:Cx} {e:Expr} {te:TE} {lo hi:Option Expr} {tl th tt:TO} {sp:Expr} {p2 pos:Pos}
theorem Vals.pick {xs:List V} {us:List Value} (r:Vals xs us) (f:Nat->Nat):∀ js:List Nat,Vals (js.filterMap fun m=>xs[f m]?) (js.filterMap fun m=>us[f m]?)
 |[] => .nil
 |j::js=>by
  have hl:=r.length;rw [BA,BA];by_cases hj:f j < xs.length
  ·obtain ⟨u,hu,ru⟩:∃ u,us[f j]? = some u∧RelV (xs[f j]) u:=by
    have hju:f j < us.length:=by rw [← hl];exact hj
    obtain ⟨x,hx,rx⟩:=EV.Vals.get2 r (AI hju);rw [AI hj] at hx;cases hx;exact ⟨_,AI hju,rx⟩
   rw [hu,AI hj];exact .cons ru (Vals.pick r f js)
  ·rw [BX (by omega),BX (by omega)]
   exact Vals.pick r f js
def qJ0 (K:W.Frag) (te:TE) (tl th tt:TO):TE:=fun σ H Q=>te σ H fun x H1=>tl σ H1 fun l H2=>th σ H2 fun u H3=>tt σ H3 fun o H4 => ∃ st a xs,o=some st∧st < 0∧x = .ref a∧SqT K H4 a xs∧(HT.cutS xs l u st).length≤sizeLine ∧ ∀ p,H4 p=none->Q (.ref p) (upd H4 p (.tup (HT.cutS xs l u st)))
theorem qB8 (he:PE X e te) (hl:PO X lo tl) (hu:PO X hi th) (hp:PO X (some sp) tt):PE X (.Subscript e (.Slice lo hi (some sp) p2) pos) (qJ0 X.K te tl th tt):=by
 intro pins s σ H Q I h;refine Subscript_ (thn (he pins s σ H _ I h) fun v s1 ⟨x,H1,I1,r1,q1⟩ => ?_);refine wpAny_Slice (thn (hl pins s1 σ H1 _ I1 q1) fun vl s2 ⟨l,H2,I2,pl,q2⟩=>thn (hu pins s2 σ H2 _ I2 q2) fun vu s3 ⟨u,H3,I3,pu,q3⟩=>thn (hp pins s3 σ H3 _ I3 q3) fun vs s4 ⟨o,H4,I4,po,st,a,xs,eo,h0,ex,hx,hz,q⟩ => ?_);subst eo;subst ex;cases r1;have I5:Inv X pins σ H4 { s4 with heap:=s4.heap.push { cls := .type "slice",data := .fields #[vl,vu,vs] } }:=I4.kept (t':=s4.toks) fun b ob q=>AD _ q;obtain ⟨its,r,ht,hz2⟩:=I5.tuple hx;have hlen:=r.length;have hc:Vals (HT.cutS xs l u st) (HT.cutS its l u st):=by unfold HT.cutS;rw [← hlen];exact Vals.pick r _ _
 show wpAny (model X.prog X.w) X.A (subscriptTail e (.Slice lo hi (some sp) p2) (.ref a) (.ref s4.heap.objs.size)) (EP X pins σ Q) X.xe { s4 with heap:=s4.heap.push { cls := .type "slice",data := .fields #[vl,vu,vs] } };refine tail_any (T := "tuple") (id := "tuple.__getitem__") (ops:=[.ref a,.ref s4.heap.objs.size]) ht.typeIs ?_ (HT.getItem_tuple_step ht (Heap.IsSliceOf.new ..) pl pu po h0 ?_ ?_) (by with_unfolding_all rfl)
 ·exact PyProof.Rows.slot_tuple_getitem.lookup
 ·refine ⟨.ref _,_,I5.laid (t':=s4.toks) (o := .tup (HT.cutS xs l u st)) (fun b ob q=>AD _ q) (AG _) ?_,rfl,q _ (I5.hok.fresh (AG _))⟩;exact ⟨hz,_,hc,IsTup.new _ _⟩
 ·have:=hc.length
  rw [← this];exact hz
end
end L2
end
section
namespace EV
open PySem PySem.Spec PyProof.Rows L2 EX
section
variable {X:Cx} {E:XK} {e a c d:Expr} {es:List Expr} {f fa fb fc:FE} {fl:FL} {pos:Pos} {F G:FS}
theorem RVs.pick {K:W.Frag} {H:Hp} {b:Bz} {l:List PV} {xs:List V} (r:RVs K H b l xs) (f:Nat->Nat):∀ js:List Nat,RVs K H b (js.filterMap fun m=>l[f m]?) (js.filterMap fun m=>xs[f m]?)
 |[]=>RVs.nil
 |j::js=>by
  have hl:=r.length;rw [BA,BA];by_cases hj:f j < l.length
  ·obtain ⟨x,hx,rx⟩:=r.get (AI hj);rw [hx,AI hj];exact RVs.cons rx (RVs.pick r f js)
  ·rw [BX (by omega),BX (by omega)]
   exact RVs.pick r f js
def qBl (f:FE) (lo hi sp:FO):FE:=fun r st=>(f r st).bind fun p s1=>(lo r s1).bind fun a s2=>(hi r s2).bind fun c s3=>(sp r s3).bind fun o s4=>match p,o with
 | .tup l,some k=>if k < 0∧(HT.cutS l a c k).length≤sizeLine then .ok (.tup (HT.cutS l a c k)) s4 else .no
 |_,_ => .no
theorem qFW {lo hi:Option Expr} {sp:Expr} {flo fhi fsp:FO} {p2:Pos} (h:VE X E e f) (hl:VO X E lo flo) (hh:VO X E hi fhi) (hs:VO X E (some sp) fsp):VE X E (.Subscript e (.Slice lo hi (some sp) p2) pos) (qBl f flo fhi fsp) :=
 PE.imp (qB8 h hl hh hs) fun s H Q ⟨b,r,st,S,R,P⟩=>⟨b,r,st,S,R,PostE.bind P fun p s1 u H1 b1 e1 S1 r1 P1=>⟨b1,r,s1,S1,R.ext e1,PostO.bind P1 fun k s2 H2 b2 e2 S2 P2=>⟨b2,r,s2,S2,(R.ext e1).ext e2,PostO.bind P2 fun m s3 H3 b3 e3 S3 P3=>⟨b3,r,s3,S3,((R.ext e1).ext e2).ext e3,PostO.bind P3 fun o s4 H4 b4 e4 S4 P4=>by
  split at P4
  ·rename_i l k';split at P4
   ·rename_i hc;have r3:=RV.ext e4 _ (RV.ext e3 _ (RV.ext e2 _ r1));unfold RV at r3;obtain ⟨x,xs,rfl,h2,h3⟩:=r3;have hlen:=h3.length;have hr:RVs X.K H4 b4 (HT.cutS l k m k') (HT.cutS xs k m k'):=by unfold HT.cutS;rw [← hlen];exact RVs.pick h3 _ _
    exact ⟨k',x,xs,rfl,hc.1,rfl,h2.sq,by rw [← hr.length];exact hc.2,fun z hz=>PostE.layT P4 S4 hr hz⟩
   ·exact P4.elim
  ·exact P4.elim⟩⟩⟩⟩
end
end EV
end
section
namespace EV
open PySem PySem.Spec PyProof.Rows L2
end EV
namespace EV
open PySem PySem.Spec PyProof.Rows L2
end EV
end
section
namespace EX
open PySem PySem.Spec PyProof.Rows L2
end EX
namespace EV
open PySem PySem.Spec PyProof.Rows L2 EX
end EV
end
section
namespace EV
open PySem PySem.Spec PyProof.Rows L2 EX
section
variable {X:Cx} {E:XK}
def qIY (sc:Scope) (x:Str):Bool:=match sc.names.lookup x with
 |some .local=>true
 |some .cell=>true
 |some .free=>true
 |_=>false
theorem qIT {sc:Scope} {x:Str} (h:qIY sc x=true):Vis sc x:=by
 unfold qIY at h;unfold Vis;split at h
 ·rename_i e;exact .inl e
 ·rename_i e;exact .inr (.inl e)
 ·rename_i e;exact .inr (.inr e)
 ·cases h
theorem qG (i:Nat) {x:Str} {pos:Pos} (hN:X.N[i]? = some x:=by rfl) (hv:qIY X.env.scope x=true:=by rfl) (hd:((x==("__debug__":Str)) || (x==("__classdict__":Str)))=false:=by rfl):VE X E (.Name x pos) (qB i):=by rw [Bool.or_eq_false_iff] at hd;exact qJS (pv i hN (qIT hv) hd.1 hd.2)
def frB (X:Cx):List (Str×NameKind)->Bool
 |[]=>true
 |(x,.free)::l=>(match X.env.kindOf x with |some .cell=>true |some .free=>true |_=>false)&&frB X l
 |_::l=>frB X l
theorem qDB:∀ {l:List (Str×NameKind)},frB X l=true -> ∀ x∈l,x.2 = .free->(X.env.kindOf x.1=some .cell∨X.env.kindOf x.1=some .free)
 |[],_,x,hx,_=>by cases hx
 |(y,k)::l,h,x,hx,hk=>by
  rcases AJ.mp hx with rfl |hx
  ·have hk:k = .free:=hk;subst hk;unfold frB at h;rw [AV] at h;have h:=h.1;split at h
   ·rename_i e;exact .inl e
   ·rename_i e;exact .inr e
   ·cases h
  ·refine qDB (l:=l) ?_ x hx hk;unfold frB at h;split at h
   ·rename_i he;cases he
   ·rename_i he;cases he;rw [AV] at h;exact h.2
   ·rename_i he;cases he;exact h
def qF8 (X:Cx) (l:List (Str×NameKind)):List Str->List Nat->Prop
 |x::xs,j::js=>(X.N[j]? = some x∧l.lookup x=some .free)∧qF8 X l xs js
 |_,_=>True
theorem yw {x:Str} {k:NameKind}:∀ {l:List (Str×NameKind)},l.lookup x=some k->(x,k)∈l
 |[],h=>by cases h
 |(y,q)::l,h=>by
  rw [Ax] at h;split at h
  ·rename_i e;cases h;rw [eq_of_beq e];exact AL
  ·exact AE _ (yw h)
theorem qBc {l:List (Str×NameKind)}:∀ {xs:List Str} {js:List Nat},qF8 X l xs js -> ∀ (i:Nat) (x:Str) (j:Nat),xs[i]? = some x->js[i]? = some j->X.N[j]? = some x∧(x,NameKind.free)∈l
 |[],_,_,i,x,j,h1,_=>by cases h1
 |_::_,[],_,i,x,j,_,h2=>by cases h2
 |a::xs,b::js,h,i,x,j,h1,h2=>by
  unfold qF8 at h;cases i with
  |zero=>cases h1;cases h2;exact ⟨h.1.1,yw h.1.2⟩
  |succ i=>exact qBc h.2 i x j h1 h2
theorem we {scope:Scope} {capN locN:List Str} {caps:List Nat} (h1:scope.kind = .function) (h2:(scope.names.map (·.1)).Nodup) (h3:frB X scope.names=true) (h4:capN.length=caps.length) (h5:qF8 X scope.names capN caps):CSc X scope capN locN caps :=
 ⟨h1,h2,qDB h3,h4,qBc h5⟩
end
end EV
end
section
namespace EX
open PySem PySem.Spec PyProof.Rows L2
end EX
namespace EV
open PySem PySem.Spec PyProof.Rows L2 EX
end EV
end
section
namespace EV
open PySem PySem.Spec PyProof.Rows L2 EX
section
variable {X:Cx} {E:XK} {e:Expr} {es:List Expr} {pos:Pos}
theorem qKU {a:Expr} {n:Str} {f:FE} {g:FA} (h:VE X E (.Attribute a n pos) f) (h2:VA X E es g):VA X E (.Attribute a n pos::es) (qA f g):=Q0 h h2 rfl
end
def qJf:PV->Option (List L2.Key)
 | .tup (p::l)=>match Qr Ja (p::l) with
  |some ns=>some (ns.map Sum.inl)
  |none=>none
 |_=>none
section
variable {X:Cx} {E:XK} {e a c d o:Expr} {es:List Expr} {f fa fb fc fd fk fx:FE} {pos:Pos} {F G:FS}
def qJz (kvs:List (List L2.Key×PV)) (k:List L2.Key):Option PV:=(kvs.find? fun kv=>decide (kv.1=k)).map (·.2)
def dAt (st:qD) (i:Nat):Option (List (List L2.Key×PV)):=match st[i]? with
 |some (.d kvs)=>some kvs
 |some (.z kvs)=>some kvs
 |_=>none
def qKV:PV->PV->qD->Rs PV:=fun p q st=>match p with
 | .ref i=>match qJf q,dAt st i with
  |some k,some kvs=>match qJz kvs k with
   |some v => .ok v st
   |none => .no
  |_,_ => .no
 |_ => .no
def qCS (fo:FE):FE:=fun r st=>(fo r st).bind fun o s=>match o with
 | .ref n=>match s[n]? with
  |some (.l xs)=>match xs[xs.length - 1]? with
   |some p => .ok p (s.set n (.l xs.dropLast))
   |none => .no
  |_ => .no
 |_ => .no
theorem RVs.dropLast {K:W.Frag} {H:Hp} {b:Bz} {l:List PV} {xs:List V} (h:RVs K H b l xs):RVs K H b l.dropLast xs.dropLast:=by rw [List.dropLast_eq_take,List.dropLast_eq_take,h.length];exact h.take _
theorem qHL {apos cpos:Pos} (ho:VE X E o f) (hbase:attributeBase o "pop" X.env (eval o X.env)=eval o X.env:=by rfl) (hline:(apos.endLine==cpos.line)=true:=by rfl):VE X E (.Call (.Attribute o "pop" apos) [] [] cpos) (qCS f) :=
 PE.imp (qHC Bv PySem.F.slot_list_pop PySem.F.type_list_pop qHY ho hbase hline) fun s H Q ⟨b,r,st,S,R,P⟩=>⟨b,r,st,S,R,PostE.bind P fun o s1 u H1 b1 e1 S1 r1 P1=>by
  split at P1
  ·rename_i n;split at P1
   ·rename_i xs ex;split at P1
    ·rename_i p hp;unfold RV at r1;obtain ⟨x,rfl,hx⟩:=r1;obtain ⟨x',o',h1,h2,vs,rfl,h4⟩:=S1.at_ n _ ex;rw [hx] at h1;cases h1;obtain ⟨y,hy,ry⟩:=h4.get hp;have hm:x∈b1.b:=Ar hx;have ew:Ext H1 b1 (upd H1 x (.lst vs.dropLast)) b1:=Ext.wr hm S1.zb (qFc h2);exact ⟨.inl ⟨rfl,vs,SqL.of h2⟩,x,vs,y,rfl,rfl,h2,by rw [← h4.length];exact hy,P1 y _ b1 ew (S1.wr (x := .l xs.dropLast) hx ⟨_,rfl,(RVs.ext ew xs h4).dropLast⟩) (RV.ext ew p ry)⟩
    ·exact P1.elim
   ·exact P1.elim
  ·exact P1.elim⟩
end
end EV
end
section
namespace EX
open PySem PySem.Spec PyProof.Rows L2
end EX
namespace EV
open PySem PySem.Spec PyProof.Rows L2 EX
end EV
end
section
namespace EX
open PySem PySem.Spec PyProof.Rows L2
end EX
namespace EV
open PySem PySem.Spec PyProof.Rows L2 EX
end EV
end
section
namespace EX
open PySem PySem.Spec PyProof.Rows L2
end EX
namespace EV
open PySem PySem.Spec PyProof.Rows L2 EX
end EV
end
section
namespace EV
open PySem PySem.Spec PyProof.Rows L2 EX
section
variable {X:Cx} {E:XK} {e a c d:Expr} {es:List Expr} {f fa fb fc:FE} {fl:FL} {pos:Pos} {F G:FS}
def qEN (f:FE) (lo hi:FO):FE:=fun r st=>(f r st).bind fun p s1=>(lo r s1).bind fun k s2=>(hi r s2).bind fun m s3=>match asL s3 p with
 |some l => .ok (.lst (Wk l k m)) s3
 |none => .no
theorem WN {l:List PV} {xs:List V} (h:l.length=xs.length) {K:W.Frag} {H:Hp} {b:Bz} (r:RVs K H b l xs) (k m:Option Int):RVs K H b (Wk l k m) (Yw xs k m):=by unfold Wk Yw;rw [h];exact RVs.take _ (RVs.drop _ r)
theorem qIA {lo hi:Option Expr} {flo fhi:FO} {p2:Pos} (h:VE X E e f) (hl:VO X E lo flo) (hh:VO X E hi fhi):VE X E (.Subscript e (.Slice lo hi none p2) pos) (qEN f flo fhi) :=
 PE.imp (JX qGE h hl hh) fun s H Q ⟨b,r,st,S,R,P⟩=>⟨b,r,st,S,R,PostE.bind P fun p s1 u H1 b1 e1 S1 r1 P1=>⟨b1,r,s1,S1,R.ext e1,PostO.bind P1 fun k s2 H2 b2 e2 S2 P2=>⟨b2,r,s2,S2,(R.ext e1).ext e2,PostO.bind P2 fun m s3 H3 b3 e3 S3 P3=>by
  split at P3
  ·rename_i l el;obtain ⟨x,xs,rfl,h2,h3⟩:=Q5 S3 (RV.ext e3 _ (RV.ext e2 _ r1)) el;refine ⟨x,xs,rfl,h2,fun p hp=>PostN.lay (PostN.of (r := .ok (Wk l k m) s3) P3) S3 (WN h3.length h3 k m) hp⟩
  ·exact P3.elim⟩⟩⟩
def JK (f:FE) (o1 i1 o2 i2:FE):FS:=fun r st=>(f r st).bindS fun t s=>match t with
 | .tup [p,q]=>(o1 r s).bindS fun o s1=>(i1 r s1).bindS fun i s2=>match WQ s2 o i p with
  |some s3=>(o2 r s3).bindS fun o' s4=>(i2 r s4).bindS fun i' s5=>match WQ s5 o' i' q with
   |some s6 => .nx r s6
   |none => .no
  |none => .no
 |_ => .no
theorem qFm {o1 i1 o2 i2:Expr} {fo1 fi1 fo2 fi2:FE} {k:Nat} {tp tp1 tp2:Pos} (hc:X.calm=true) (h:VE X E e f) (ho1:VE X E o1 fo1) (hi1:VE X E i1 fi1) (ho2:VE X E o2 fo2) (hi2:VE X E i2 fi2)
  (hs:swapsWithSole [.Tuple [.Subscript o1 i1 tp1,.Subscript o2 i2 tp2] k tp] e pos.line X.env=pure false:=by rfl) (hw:swappedStores [.Tuple [.Subscript o1 i1 tp1,.Subscript o2 i2 tp2] k tp] e X.env=pure none:=by rfl)
  (h1:(assignEach [.Tuple [.Subscript o1 i1 tp1,.Subscript o2 i2 tp2] k tp] X.env).map (·.2)=[assign (.Tuple [.Subscript o1 i1 tp1,.Subscript o2 i2 tp2] k tp) X.env]:=by rfl)
  (hn:(assignEach [.Subscript o1 i1 tp1,.Subscript o2 i2 tp2] X.env).length=2:=by rfl) (hst:(assignEach [.Subscript o1 i1 tp1,.Subscript o2 i2 tp2] X.env).findIdx? (·.1)=none:=by rfl)
  (q1:(assignEach [.Subscript o1 i1 tp1,.Subscript o2 i2 tp2] X.env).map (·.2)=assign (.Subscript o1 i1 tp1) X.env::(assignEach [.Subscript o2 i2 tp2] X.env).map (·.2):=by rfl)
  (q2:(assignEach [.Subscript o2 i2 tp2] X.env).map (·.2)=assign (.Subscript o2 i2 tp2) X.env::(assignEach [] X.env).map (·.2):=by rfl)
  (a1:∀ v,assign (.Subscript o1 i1 tp1) X.env v=(do
   let ov ← holding [v] (eval o1 X.env);let iv ← holding [v,ov] (eval i1 X.env)
   standAt tp1
   holding [v,ov,iv] (setItem ov iv v)
   release [v,ov,iv] []):=by intro _;rfl)
  (a2:∀ v,assign (.Subscript o2 i2 tp2) X.env v=(do
   let ov ← holding [v] (eval o2 X.env);let iv ← holding [v,ov] (eval i2 X.env)
   standAt tp2
   holding [v,ov,iv] (setItem ov iv v)
   release [v,ov,iv] []):=by intro _;rfl):VS X E (.Assign [.Tuple [.Subscript o1 i1 tp1,.Subscript o2 i2 tp2] k tp] e pos) (JK f fo1 fi1 fo2 fi2) :=
 PS.imp (qAd h (qEu hc (yv (qAK ho1 hi1 Yo a1) (yv (qAK ho2 hi2 Yo a2) qBM q2) q1) hn hst) hs hw h1) fun D s H ⟨b,r,st,S,R,P⟩=>⟨b,r,st,S,R,PostE.bindS P fun t s1 u H1 b1 e1 S1 r1 P1=>by
  split at P1
  ·rename_i p q;unfold RV at r1;obtain ⟨x,xs,rfl,h2,h3⟩:=r1;obtain ⟨y1,y2,rfl,rp,rq⟩:=RVs.two h3;have R1:=R.ext e1;refine ⟨x,_,rfl,h2.sq,rfl,y1,[y2],rfl,b1,r,s1,S1,R1,PostE.bindS P1 fun o s2 ou H2 b2 e2 S2 r2 P2=>⟨b2,r,s2,S2,R1.ext e2,PostE.bindS P2 fun i s3 iu H3 b3 e3 S3 r3 P3 => ?_⟩⟩;split at P3
   ·rename_i s4 e4;have R3:=(R1.ext e2).ext e3;refine YR S3 (RV.ext e3 o r2) r3 (RV.ext e3 p (RV.ext e2 p rp)) e4 fun H4 b4 e5 S4 => ?_;refine ⟨y2,[],rfl,b4,r,s4,S4,R3.ext e5,PostE.bindS (PostS.ext P3 e5) fun o' s5 ou' H5 b5 e6 S5 r5 P5=>⟨b5,r,s5,S5,(R3.ext e5).ext e6,PostE.bindS P5 fun i' s6 iu' H6 b6 e7 S6 r6 P6 => ?_⟩⟩;split at P6
    ·rename_i s7 e8;refine YR S6 (RV.ext e7 o' r5) r6 (RV.ext e7 q (RV.ext e6 q (RV.ext e5 q (RV.ext e3 q (RV.ext e2 q rq))))) e8 fun H7 b7 e9 S7=>⟨rfl,?_⟩;exact P6 s H7 b7 e9 S7 ((((R3.ext e5).ext e6).ext e7).ext e9)
    ·exact P6.elim
   ·exact P3.elim
  ·exact P1.elim⟩
end
end EV
end
section
namespace EX
open PySem PySem.Spec PyProof.Rows L2
end EX
namespace EV
open PySem PySem.Spec PyProof.Rows L2 EX
end EV
end
section
namespace EX
open PySem PySem.Spec PyProof.Rows L2
def byT (w:World):Bool:=w.params.followText "set-order"
section
variable {prog:Program} {w:World} {A:Around} {E:Value->Shared->Prop} {s:Shared}
theorem qBp {a:Value} {Q:Value->Shared->Prop} (h:Q (.ref s.heap.objs.size) { s with heap:=s.heap.push { cls := .type "set",data := .set #[] 0 (SetTable.fresh 0 0 (!byT w)) } }) :
  codeAny (model prog w) A (.call (.builtin "set.__new__") ⟨[.type "set",a],[]⟩) (wants Q E) s:=by
 refine B8 F.plain_set_new F.entry_set_new (Ao (F.newCall_set_1 a) ?_);unfold Builtin.«set.__new__» Builtin.Frozenset.newClass;dsimp only;refine AA (AA (Ao (a:=true) rfl ?_));rw [AK (by decide)]
 refine AA (Ao sub_set_self ?_);rw [AK (by decide)]
 refine AB (AA ?_);unfold newSet setsByText;refine AA (AA (wpAny_askSetting (AB ?_)));dsimp only;unfold newObj;dsimp only;rw [AK (by decide)]
 unfold newObjAsIs;refine AA (wpAny_alloc ?_);dsimp only;exact AB (AB h)
end
end EX
namespace EV
open PySem PySem.Spec PyProof.Rows L2 EX
section
variable {X:Cx} {E:XK} {e:Expr} {f:FE} {p p2 pos pos2:Pos}
theorem z6 {K:W.Frag} {H:Hp} {b:Bz}:∀ (ns:List Int),RVs K H b (ns.map PV.int) (ns.map V.int)
 |[]=>RVs.nil
 |n::ns=>RVs.cons Qu (z6 ns)
end
end EV
end
section
namespace EX
open PySem PySem.Spec PyProof.Rows L2
inductive LexG (A:Around) (s:Shared) (r:Bool):List Value->List Value->Prop where
 |nn:r=false->LexG A s r [] []
 |nc {w ws}:r=true->LexG A s r [] (w::ws)
 |cn {v vs}:r=false->LexG A s r (v::vs) []
 |eq {v vs w ws}:SeqAt.EqAt A s v w true->LexG A s r vs ws->LexG A s r (v::vs) (w::ws)
 |ne {v vs w ws}:SeqAt.EqAt A s v w false->(∀ (prog:Program) (wd:World) (E:Value->Shared->Prop) (Q:Value->Shared->Prop),Q (.bool r) s->wpAny (model prog wd) A (richCompare .Lt v w) Q E s)->LexG A s r (v::vs) (w::ws)
section
open PySem.SeqAt
open PySem.AutoSeq1 (wpAny_loadPart')
open PySem.MeetsSeq PySem.MeetsSeq2 PySem.MeetsSeq3
theorem j3 (l b:Addr) (items items2:Array Value) (n n2:Nat) (dd dd2:Option Addr) (sl sl2:Array (Option Value)) (r:Bool) :
  Meets (Builtin.«tuple.__lt__» ⟨[.ref l,.ref b],[]⟩)
   (fun A R s=>s.heap.get? l=some { cls := .type "tuple",dict:=dd,data := .seq items n,slots:=sl }∧s.heap.get? b=some { cls := .type "tuple",dict:=dd2,data := .seq items2 n2,slots:=sl2 }∧LexG A.in1 s r items.toList items2.toList ∧
    R (.ok (.ret (.bool r))) s) :=
 .of_wp fun prog w A R s h=>by
  obtain ⟨hp,g,d,tk,os⟩:=s;obtain ⟨hl,hb,hG,h⟩:=h;have f2:=AutoSeq1.sub_tuple_tuple
  wp_walk using wpAny_loadPart' hl,wpAny_loadPart' hb,Bt _ (fun rest b s'=>b.1=none∧s'=⟨hp,g,d,tk,os⟩ ∧ ∃ (vs ws:List Value),rest=vs.zip ws∧LexG A.in1 ⟨hp,g,d,tk,os⟩ r vs ws ∧
   vs.length + items2.size=ws.length + items.size) _
  case turn =>
   rintro ⟨y,x⟩ rest b s' ⟨hb',rfl,vs,ws,hz,hG',hlen⟩
   cases hG' with
   |nn _=>cases hz
   |nc _=>cases hz
   |cn _=>rw [List.zip_nil_right] at hz;cases hz
   |eq he hG2 =>
    rw [Aq] at hz;injection hz with hyx hrest;injection hyx with hy hx;subst hy hx;simp only [AH] at hlen;refine AA (he prog w _ _ ?_)
    wp_walk
    exact ⟨rfl,rfl,_,_,hrest,hG2,by omega⟩
   |ne he hc =>
    rw [Aq] at hz;injection hz with hyx hrest;injection hyx with hy hx;subst hy hx;refine AA (he prog w _ _ ?_);have hri:=hc prog w
    wp_walk using hri
    exact ⟨_,rfl,by simpa using h⟩
  case fin =>
   rintro ⟨b1,b2⟩ s' ⟨hb',rfl,vs,ws,hz,hG',hlen⟩
   simp only at hb';subst hb';have hv:r=decide (items.size < items2.size):=by
    cases hG' with
    |nn hr =>simp only [BQ] at hlen;rw [hr];exact (Ae (by omega)).symm
    |nc hr =>simp only [BQ,AH] at hlen;rw [hr];exact (AR (by omega)).symm
    |cn hr =>simp only [BQ,AH] at hlen;rw [hr];exact (Ae (by omega)).symm
    |eq he hG2=>rw [Aq] at hz;cases hz
    |ne he hc=>rw [Aq] at hz;cases hz
   rw [hv] at h
   wp_walk
   exact ⟨_,rfl,by simpa [Builtin.Tuple.tupleCompareSizes] using h⟩
  case h =>exact ⟨rfl,rfl,items.toList,items2.toList,rfl,hG,by simp;omega⟩
end
end EX
namespace EV
open PySem PySem.Spec PyProof.Rows L2 EX
mutual
def plt:PV->PV->Option Bool
 | .int i,.int j=>some (decide (i < j))
 | .tup l,.tup m=>plts l m
 |_,_=>none
def plts:List PV->List PV->Option Bool
 |[],[]=>some false
 |[],_::_=>some true
 |_::_,[]=>some false
 |p::ps,q::qs=>if peq p q=true then plts ps qs else plt p q
end
section
variable {X:Cx} {pins:List (Addr×Obj)} {σ:L2.St} {H:Hp} {s:Shared}
def qJR (X:Cx) (H:Hp) (s:Shared) (A:Around) (p q:PV):Prop := ∀ {v u:V} {uv uu:Value} {r:Bool},RW X.K H p v->RW X.K H q u->RelV v uv->RelV u uu->plt p q=some r ->
  ∀ (prog:Program) (wd:World) (E:Value->Shared->Prop) (Q:Value->Shared->Prop),Q (.bool r) s->wpAny (model prog wd) A (richCompare .Lt uv uu) Q E s
theorem qIK (I:L2.Inv X pins σ H s) {n:Nat} {A:Around} {r:Bool} (hu:A.units + n < cLine) (ih:∀ p q,dep p≤n->qJR X H s A p q):∀ {l m:List PV} {xs ys:List V} {its its2:List Value},deps l≤n->RWs X.K H l xs->RWs X.K H m ys->Vals xs its->Vals ys its2->plts l m=some r->LexG A s r its its2:=by
 intro l;induction l with
 |nil =>
  intro m xs ys its its2 _ h1 h2 r1 r2 e;unfold RWs at h1;subst h1;cases r1;cases m with
  |nil=>unfold RWs at h2;subst h2;cases r2;unfold plts at e;cases e;exact .nn rfl
  |cons q qs=>unfold RWs at h2;obtain ⟨y,yr,rfl,_,_⟩:=h2;cases r2;unfold plts at e;cases e;exact .nc rfl
 |cons p ps ihl =>
  intro m xs ys its its2 hd h1 h2 r1 r2 e;unfold RWs at h1;obtain ⟨x,xr,rfl,hx,hxs⟩:=h1;unfold deps at hd;cases r1 with
  |cons rx rxs =>
   cases m with
   |nil=>unfold RWs at h2;subst h2;cases r2;unfold plts at e;cases e;exact .cn rfl
   |cons q qs =>
    unfold RWs at h2;obtain ⟨y,yr,rfl,hy,hys⟩:=h2;cases r2 with
    |cons ry rys =>
     have he:=J5 I n p q x y _ _ A (by omega) hu hx hy rx ry
     unfold plts at e;cases hq:peq p q with
     |true =>rw [hq] at e he;exact .eq he (ihl (by omega) hxs hys rxs rys e)
     |false =>rw [hq] at e he;exact .ne he (ih p q (by omega) hx hy rx ry e)
theorem qJO (I:L2.Inv X pins σ H s):∀ (n:Nat) (p q:PV) (A:Around),dep p≤n->A.units + n < cLine->qJR X H s A p q:=by
 intro n;induction n with
 |zero =>
  intro p q A hd hu v u uv uu r hp hq rv ru e prog wd E Q h;cases p with
  |int i =>
   cases q with
   |int j =>unfold RW at hp hq;subst hp;subst hq;obtain ⟨t,rfl⟩:=rv;obtain ⟨t',rfl⟩:=ru;unfold plt at e;cases e;exact HT.rcLt_int A s i t j t' prog wd E Q h
   |_=>simp [plt] at e
  |tup l=>unfold dep at hd;omega
  |_=>cases q <;> simp [plt] at e
 |succ n ih =>
  intro p q A hd hu v u uv uu r hp hq rv ru e prog wd E Q h;cases p with
  |int i =>
   cases q with
   |int j =>unfold RW at hp hq;subst hp;subst hq;obtain ⟨t,rfl⟩:=rv;obtain ⟨t',rfl⟩:=ru;unfold plt at e;cases e;exact HT.rcLt_int A s i t j t' prog wd E Q h
   |_=>simp [plt] at e
  |tup l =>
   cases q with
   |tup m =>
    unfold RW at hp hq;obtain ⟨a,xs,rfl,h2,h3⟩:=hp;obtain ⟨a',ys,rfl,k2,k3⟩:=hq;cases rv;cases ru;obtain ⟨its,r1,t1,_⟩:=I.tuple h2;obtain ⟨its2,r2,t2,_⟩:=I.tuple k2;unfold plt at e;unfold dep at hd;obtain ⟨⟨cls,dd,data,sl⟩,ho,hc,n1,hda⟩:=id t1;obtain ⟨⟨cls2,dd2,data2,sl2⟩,ho2,hc2,n2,hda2⟩:=id t2;simp only at hc hda hc2 hda2;subst hc hda hc2 hda2;have hu1:A.in1.units + n < cLine:=by show A.units + 1 + n < cLine;omega
    have G:=qIK I (n:=n) (A:=A.in1) hu1 (fun p q hd=>ih p q A.in1 hd hu1) (by omega) h3 k3 r1 r2 e
    exact richCompare_meets_room (op := .Lt) ⟨_,ho,rfl⟩ ⟨_,ho2,rfl⟩ PySem.F.slot_tuple_lt PySem.F.entry_tuple_lt (PySem.F.args_tuple_lt_2 _ _) (j3 _ _ its.toArray its2.toArray n1 n2 dd dd2 sl sl2 r)
     ⟨ho,ho2,by simpa using G,show Value.bool r≠Value.notImplemented∧Q (.bool r) s from ⟨(fun x=>nomatch x),h⟩⟩ (by omega)
   |_=>simp [plt] at e
  |_=>cases q <;> simp [plt] at e
end
section
variable {X:Cx} {E:XK} {a c:Expr} {fa fb:FE} {pos:Pos}
def qIg (K:W.Frag):R2:=fun u v H Q => ∃ p q r,RW K H p u∧RW K H q v∧dep p≤ZG∧plt p q=some r∧Q (.bl r) H
theorem qEh (hr:X.A.units + 64 < cLine):OpR X (compareOp .Lt) (qIg X.K):=by intro pins s σ H x y v u Q I rx ry h;obtain ⟨p,q,r,hp,hq,hd,e,h⟩:=h;exact qJO I 60 p q X.A hd (by omega) hp hq rx ry e _ _ _ _ ⟨.bl _,H,I,rfl,h⟩
def Yi:PV->PV->qD->Rs PV:=fun p q st=>if ZN (res st p) (res st q)=true then (match plt (res st p) (res st q) with |some r => .ok (.bl r) st |none => .no) else .no
theorem qEr:OpG X E (qIg X.K) Yi:=by
 intro H b st p q u v Q S rp rq P;unfold Yi at P;split at P
 ·rename_i h;obtain ⟨h1,h2,h3⟩:=Yn h;split at P
  ·rename_i r hr;exact ⟨_,_,r,ZR S rp h1,ZR S rq h2,h3,hr,PostE.here P S zE⟩
  ·exact P.elim
 ·exact P.elim
theorem qHS (hu:X.A.units + 64 < cLine) (ha:VE X E a fa) (hb:VE X E c fb):VE X E (.Compare a [.Lt] [c] pos) (qI Yi fa fb):=j7 (qEh hu) qEr ha hb
end
end EV
end
section
namespace ET
open PySem
def Rz (xs:Array Nat):Prop := ∀ i k,i < k->k < xs.size->xs.getD i 0 < xs.getD k 0
theorem qF3 {xs:Array Nat} {i a b:Nat} (h:i < xs.size):xs.getD i a=xs.getD i b:=by rw [AN,AN,AO h];rfl
theorem Yd {xs:Array Nat} {j:Nat} (R:Rz xs):∀ (f lo hi:Nat),lo≤hi->hi≤xs.size->hi - lo≤f->(∀ i,i < lo->xs.getD i 0 < j)->(∀ i,hi≤i->i < xs.size->j≤xs.getD i 0) ->
  (∀ i,i < SetTable.below.go xs j f lo hi->xs.getD i 0 < j)∧(∀ i,SetTable.below.go xs j f lo hi≤i->i < xs.size->j≤xs.getD i 0)∧SetTable.below.go xs j f lo hi≤xs.size
 |0,lo,hi,h1,h2,h3,h4,h5=>by
  have:lo=hi:=by omega
  subst this;exact ⟨h4,h5,h2⟩
 |f + 1,lo,hi,h1,h2,h3,h4,h5=>by
  unfold SetTable.below.go;by_cases hl:lo < hi
  ·rw [AF hl];have hm1:lo≤(lo + hi) / 2:=by omega
   have hm2:(lo + hi) / 2 < hi:=by omega
   dsimp only;rw [qF3 (b:=0) (show (lo + hi) / 2 < xs.size by omega)]
   by_cases hq:xs.getD ((lo + hi) / 2) 0 < j
   ·rw [AF hq];refine Yd R f _ _ (by omega) h2 (by omega) (fun i hi' => ?_) h5
    by_cases he:i=(lo + hi) / 2
    ·rw [he];exact hq
    ·exact Nat.lt_trans (R i _ (by omega) (by omega)) hq
   ·rw [AK hq];refine Yd R f _ _ (by omega) (by omega) (by omega) h4 (fun i hi' hs => ?_)
    by_cases he:i=(lo + hi) / 2
    ·rw [he];omega
    ·have:=R _ i (show (lo + hi) / 2 < i by omega) hs
     omega
  ·rw [AK hl]
   have:lo=hi:=by omega
   subst this;exact ⟨h4,h5,h2⟩
theorem zK {xs:Array Nat} (R:Rz xs) (j:Nat):(∀ i,i < SetTable.below xs j->xs.getD i 0 < j)∧(∀ i,SetTable.below xs j≤i->i < xs.size->j≤xs.getD i 0)∧SetTable.below xs j≤xs.size :=
 Yd R _ _ _ (A3 _) (AG _) (AG _) (fun i h=>absurd h (A8 _)) (fun i h1 h2=>absurd h2 (by omega))
theorem qDg {xs:Array Nat} (R:Rz xs) {i:Nat} (h:i < xs.size):SetTable.below xs (xs.getD i 0)=i:=by
 obtain ⟨h1,h2,h3⟩:=zK R (xs.getD i 0);by_cases hq:SetTable.below xs (xs.getD i 0)=i
 ·exact hq
 ·rcases Nat.lt_or_gt_of_ne hq with q |q
  ·have:=h2 _ (AG _) (by omega)
   have:=R _ _ q h
   omega
  ·have:=h1 i q;omega
theorem mem_getD {xs:Array Nat} {j:Nat}:j∈xs.toList ↔ ∃ i,i < xs.size∧xs.getD i 0=j:=by
 constructor
 ·intro h;obtain ⟨i,hi,e⟩:=List.getElem_of_mem h;refine ⟨i,by simpa using hi,?_⟩
  rw [AN,AO (by simpa using hi)]
  simpa using e
 ·rintro ⟨i,hi,rfl⟩
  rw [AN,AO hi];exact Array.mem_toList_iff.mpr (Array.getElem_mem hi)
theorem qBO (j:Nat):SetTable.has #[] j=false:=by unfold SetTable.has;simp
theorem Y7 {t:SetTable} (R:Rz t.place) {i:Nat} (h:i < t.place.size):t.slot (t.place.getD i 0) = .live i:=by unfold SetTable.slot;rw [qDg R h];dsimp only;rw [AF];rw [AN,AO h];simp
theorem qAh {t:SetTable} (hd:t.dummies = #[]) {j:Nat} (h:j ∉ t.place.toList):t.slot j = .empty:=by
 unfold SetTable.slot;dsimp only;rw [AK,hd,qBO]
 ·simp
 ·intro q;refine h (mem_getD.mpr ⟨SetTable.below t.place j,?_⟩);have q:=eq_of_beq q;obtain ⟨h1,h2⟩:=BT.mp q;refine ⟨h1,?_⟩;rw [AN,q];rfl
def qAN (mask:Nat) (p:SetTable.Probe):SetTable.Probe :=
 if p.more > 0 then { p with j:=p.j + 1,more:=p.more - 1 } else
 { p with j:=(SetTable.leap mask p.i p.perturb).1,more:=SetTable.runEnd mask (SetTable.leap mask p.i p.perturb).1 - (SetTable.leap mask p.i p.perturb).1,i:=(SetTable.leap mask p.i p.perturb).1,perturb:=(SetTable.leap mask p.i p.perturb).2 }
theorem qGr (t:SetTable) (p:SetTable.Probe):t.advance p=qAN t.mask p:=rfl
def sq (mask:Nat) (h:Int):Nat->SetTable.Probe
 |0=>⟨SetTable.bits h % (mask + 1),SetTable.runEnd mask (SetTable.bits h % (mask + 1)) - SetTable.bits h % (mask + 1),SetTable.bits h % (mask + 1),SetTable.bits h,none⟩
 |n + 1=>qAN mask (sq mask h n)
def lp (mask:Nat) (h:Int):Nat->Nat×Nat
 |0=>(SetTable.bits h % (mask + 1),SetTable.bits h)
 |n + 1=>SetTable.leap mask (lp mask h n).1 (lp mask h n).2
def rn (mask i:Nat):Nat:=SetTable.runEnd mask i - i
def lpN (mask:Nat) (h:Int):Nat->Nat
 |0=>0
 |n + 1=>lpN mask h n + rn mask (lp mask h n).1 + 1
theorem qAs {mask:Nat} {h:Int} {m n:Nat} (e:sq mask h n=⟨(lp mask h m).1,rn mask (lp mask h m).1,(lp mask h m).1,(lp mask h m).2,none⟩):∀ k,k≤rn mask (lp mask h m).1->sq mask h (n + k)=⟨(lp mask h m).1 + k,rn mask (lp mask h m).1 - k,(lp mask h m).1,(lp mask h m).2,none⟩
 |0,_=>e
 |k + 1,hk=>by
  rw [← Nat.add_assoc,sq,qAs e k (by omega)]
  unfold qAN;rw [AF (show rn mask (lp mask h m).1 - k > 0 by omega)]
  show SetTable.Probe.mk _ _ _ _ _=_;rw [show rn mask (lp mask h m).1 - k - 1=rn mask (lp mask h m).1 - (k + 1) by omega,Nat.add_assoc]
theorem qBf {mask:Nat} {h:Int}:∀ m,sq mask h (lpN mask h m)=⟨(lp mask h m).1,rn mask (lp mask h m).1,(lp mask h m).1,(lp mask h m).2,none⟩
 |0=>rfl
 |m + 1=>by
  rw [lpN,sq,qAs (qBf m) _ (AG _)];unfold qAN;rw [AK (show ¬ rn mask (lp mask h m).1 - rn mask (lp mask h m).1 > 0 by omega)]
  rfl
theorem qGe {mask:Nat} {h:Int} {m k:Nat} (hk:k≤rn mask (lp mask h m).1):(sq mask h (lpN mask h m + k)).j=(lp mask h m).1 + k:=by rw [qAs (qBf m) k hk]
theorem qI9 (mask i:Nat):rn mask i≤9:=by unfold rn SetTable.runEnd;split <;> omega
theorem qCt {mask:Nat} {h:Int}:∀ m,lpN mask h m≤10 * m
 |0=>AG _
 |m + 1=>by
  have:=qCt (mask:=mask) (h:=h) m
  have:=qI9 mask (lp mask h m).1
  rw [lpN];omega
theorem qJi {mask:Nat} {h:Int}:∀ m,(lp mask h m).1≤mask
 |0=>Nat.le_of_lt_succ (Nat.mod_lt _ (Nat.succ_pos _))
 |m + 1=>Nat.le_of_lt_succ (Nat.mod_lt _ (Nat.succ_pos _))
theorem qBY {mask:Nat} {h:Int}:∀ m,(lp mask h m).2=SetTable.bits h / 32 ^ m
 |0=>by simp [lp]
 |m + 1=>by show (lp mask h m).2 / 32=_;rw [qBY m,Nat.div_div_eq_div_mul,Nat.pow_succ]
theorem jm (h:Int):SetTable.bits h < 2 ^ 64:=by
 unfold SetTable.bits
 have:=Int.emod_lt_of_pos h (show (0:Int) < 2 ^ 64 by decide)
 have:=Int.emod_nonneg h (show (2 ^ 64:Int)≠0 by decide)
 omega
theorem qIO {mask:Nat} {h:Int} (m:Nat) (hm:13≤m):(lp mask h m).2=0:=by rw [qBY];refine Nat.div_eq_of_lt (Al (jm h) ?_);exact Aa (show 2 ^ 64≤32 ^ 13 by decide) (Bn (by decide) hm)
def cy (mask:Nat) (a:Nat):Nat->Nat
 |0=>a
 |n + 1=>(cy mask a n * 5 + 1) % (mask + 1)
theorem Yb {mask a:Nat} (m:Nat):∀ n,cy mask (cy mask a m) n=cy mask a (m + n)
 |0=>rfl
 |n + 1=>by rw [← Nat.add_assoc,cy,cy,Yb m n]
def Cyc (mask:Nat):Prop := ∀ a,a≤mask -> ∀ e,e≤mask -> ∃ k,k≤mask∧cy mask a k=e
def cyl (mask:Nat):Nat->Nat->List Nat
 |0,_=>[]
 |n + 1,a=>a::cyl mask n ((a * 5 + 1) % (mask + 1))
theorem qBh {mask:Nat}:∀ (n a i:Nat),i < n->(cyl mask n a)[i]? = some (cy mask a i)
 |0,_,_,h=>absurd h (A8 _)
 |n + 1,a,0,_=>rfl
 |n + 1,a,i + 1,h=>by
  rw [cyl,List.getElem?_cons_succ,qBh n _ i (by omega)]
  have:=Yb (mask:=mask) (a:=a) 1 i
  rw [show i + 1=1 + i by omega,← this]
  rfl
theorem qBa {mask:Nat}:∀ (n a:Nat),(cyl mask n a).length=n
 |0,_=>rfl
 |n + 1,a=>by rw [cyl,AH,qBa n]
def qIk (mask:Nat):Bool:=Nat.beq (cy mask 0 (mask + 1)) 0&&(List.range (mask + 1)).all fun e=>(cyl mask (mask + 1) 0).any fun x=>Nat.beq x e
theorem jz {mask:Nat} (h:qIk mask=true):Cyc mask:=by
 unfold qIk at h;rw [AV,At] at h;obtain ⟨h0,hall⟩:=h;have h0:=Nat.eq_of_beq_eq_true h0;have hat:∀ e,e≤mask -> ∃ k,k≤mask∧cy mask 0 k=e:=fun e he=>by
  obtain ⟨x,hx,q⟩:=List.any_eq_true.mp (hall e (BC.mpr (by omega)))
  have q:=Nat.eq_of_beq_eq_true q;obtain ⟨k,hk⟩:=BH hx;have hl:=(AS.mp hk).1;rw [qBa] at hl;rw [qBh _ _ _ hl] at hk;cases hk;exact ⟨k,by omega,q⟩
 intro a ha e he;obtain ⟨k1,h1,e1⟩:=hat a ha;obtain ⟨k2,h2,e2⟩:=hat e he;by_cases hq:k1≤k2
 ·refine ⟨k2 - k1,by omega,?_⟩
  rw [← e1,Yb,show k1 + (k2 - k1)=k2 by omega,e2]
 ·refine ⟨k2 + (mask + 1) - k1,by omega,?_⟩
  rw [← e1,Yb,show k1 + (k2 + (mask + 1) - k1)=(mask + 1) + k2 by omega,← Yb,h0,e2]
theorem qKA:Cyc 7:=jz (by decide +kernel)
theorem qI1:Cyc 31:=jz (by decide +kernel)
theorem qH2:Cyc 127:=jz (by decide +kernel)
theorem qHt:Cyc 511:=jz (by decide +kernel)
theorem qGP {mask:Nat} {h:Int}:∀ n,(lp mask h (13 + n)).1=cy mask (lp mask h 13).1 n
 |0=>rfl
 |n + 1=>by
  show ((lp mask h (13 + n)).1 * 5 + 1 + (lp mask h (13 + n)).2 / 32) % (mask + 1)=_;rw [qIO _ (by omega),qGP n]
  rfl
theorem qDF {mask:Nat} {h:Int} (C:Cyc mask) {e:Nat} (he:e≤mask):∃ m,m≤mask + 13∧(lp mask h m).1=e:=by obtain ⟨k,hk,q⟩:=C _ (qJi (mask:=mask) (h:=h) 13) e he;exact ⟨13 + k,by omega,by rw [qGP,q]⟩
theorem qIP {mask:Nat} {h:Int} (C:Cyc mask) {e:Nat} (he:e≤mask):∃ n,n < 10 * SetTable.turns mask∧(sq mask h n).j=e:=by
 obtain ⟨m,hm,q⟩:=qDF (h:=h) C he;refine ⟨lpN mask h m,?_,?_⟩
 ·have:=qCt (mask:=mask) (h:=h) m
  unfold SetTable.turns;omega
 ·rw [qBf];exact q
structure TbG (t:SetTable) (n:Nat):Prop where
 dum:t.dummies = #[]
 sz:t.place.size=n
 ris:Rz t.place
 le:∀ j∈t.place.toList,j≤t.mask
 room:n≤t.mask
theorem qAL:∀ (n:Nat) (l:List Nat),l.length < n -> ∃ e,e < n∧e ∉ l
 |0,l,h=>absurd h (A8 _)
 |n + 1,l,h=>by
  by_cases hn:n∈l
  ·obtain ⟨e,he,hq⟩:=qAL n (l.filter (· ≠ n)) (by
    have:(l.filter (· ≠ n)).length < l.length:=by apply List.length_filter_lt_length_iff_exists.mpr;exact ⟨n,hn,by simp⟩
    omega)
   refine ⟨e,by omega,fun q=>hq (List.mem_filter.mpr ⟨q,by simp;omega⟩)⟩
  ·exact ⟨n,by omega,hn⟩
theorem TbG.free {t:SetTable} {n:Nat} (T:TbG t n):∃ e,e≤t.mask∧e ∉ t.place.toList:=by
 obtain ⟨e,h1,h2⟩:=qAL (t.mask + 1) t.place.toList (by rw [AZ,T.sz];have:=T.room;omega)
 exact ⟨e,by omega,h2⟩
theorem qAD {P:Nat->Prop} (hd:∀ n,Decidable (P n)):∀ {n:Nat},P n -> ∃ k,k≤n∧P k ∧ ∀ m,m < k -> ¬ P m
 |0,h=>⟨0,AG _,h,fun m hm=>absurd hm (A8 _)⟩
 |n + 1,h=>by
  by_cases hq:∃ m,m≤n∧P m
  ·obtain ⟨m,hm,hp⟩:=hq
   have:∀ (f:Nat) (m:Nat),m≤f->P m -> ∃ k,k≤m∧P k ∧ ∀ m',m' < k -> ¬ P m':=by
    intro f;induction f with
    |zero =>
     intro m hm hp
     have:m=0:=by omega
     subst this;exact ⟨0,AG _,hp,fun m hm=>absurd hm (A8 _)⟩
    |succ f ih =>
     intro m hm hp;by_cases hz:∃ m',m' < m∧P m'
     ·obtain ⟨m',h1,h2⟩:=hz;obtain ⟨k,k1,k2,k3⟩:=ih m' (by omega) h2
      exact ⟨k,by omega,k2,k3⟩
     ·exact ⟨m,AG _,hp,fun m' h1 h2=>hz ⟨m',h1,h2⟩⟩
   obtain ⟨k,k1,k2,k3⟩:=this m m (AG _) hp;exact ⟨k,by omega,k2,k3⟩
  ·exact ⟨n + 1,AG _,h,fun m hm hp=>hq ⟨m,by omega,hp⟩⟩
theorem TbG.first {t:SetTable} {n:Nat} (T:TbG t n) (C:Cyc t.mask) (h:Int):∃ k,k < 10 * SetTable.turns t.mask∧(sq t.mask h k).j ∉ t.place.toList ∧ ∀ m,m < k->(sq t.mask h m).j∈t.place.toList:=by
 obtain ⟨e,he,hq⟩:=T.free;obtain ⟨k,hk,hj⟩:=qIP (h:=h) C he;obtain ⟨k',k1,k2,k3⟩:=qAD (P:=fun k=>(sq t.mask h k).j ∉ t.place.toList) (fun _=>inferInstance) (n:=k) (by rw [hj];exact hq)
 exact ⟨k',by omega,k2,fun m hm=>Decidable.not_not.mp (k3 m hm)⟩
theorem YJ (mask:Nat) (h:Int):∀ n,(sq mask h n).dummy=none
 |0=>rfl
 |n + 1=>by
  rw [sq];unfold qAN;split
  ·exact YJ mask h n
  ·exact YJ mask h n
theorem JN {t:SetTable} {n:Nat} (T:TbG t n) (f:Nat->Int) (h:Int) {k:Nat} (hk:(sq t.mask h k).j ∉ t.place.toList) (hb:∀ m,m < k->(sq t.mask h m).j∈t.place.toList):∀ (F m:Nat),m≤k->k - m < F ->
  ((∀ x,m≤x->x < k -> ∀ i,t.place.getD i 0=(sq t.mask h x).j->i < t.place.size->f i≠h)∧SetTable.probe.go t f h F (sq t.mask h m)=some (.empty (sq t.mask h k).j none)) ∨
  ∃ x i,m≤x∧x < k∧i < t.place.size∧t.place.getD i 0=(sq t.mask h x).j∧f i=h∧(∀ y,m≤y->y < x -> ∀ i,t.place.getD i 0=(sq t.mask h y).j->i < t.place.size->f i≠h)∧SetTable.probe.go t f h F (sq t.mask h m)=some (.candidate (sq t.mask h x).j i (sq t.mask h (x + 1)))
 |0,m,_,h2=>absurd h2 (A8 _)
 |F + 1,m,h1,h2=>by
  rw [SetTable.probe.go];by_cases he:m=k
  ·subst he;left;refine ⟨fun x a b=>absurd b (by omega),?_⟩
   rw [qAh T.dum hk,YJ]
  ·have hm:=hb m (by omega)
   obtain ⟨i,hi,e⟩:=mem_getD.mp hm;have hsl:t.slot (sq t.mask h m).j = .live i:=by rw [← e];exact Y7 T.ris hi
   rw [hsl];dsimp only;have uniq:∀ i',t.place.getD i' 0=(sq t.mask h m).j->i' < t.place.size->i'=i:=fun i' e' h'=>by
    rcases Nat.lt_trichotomy i' i with q |q |q
    ·have:=T.ris _ _ q hi;omega
    ·exact q
    ·have:=T.ris _ _ q h';omega
   by_cases hf:f i=h
   ·rw [AF (by rw [hf];exact Ay h)]
    right;exact ⟨m,i,AG _,by omega,hi,e,hf,fun y a b=>absurd b (by omega),rfl⟩
   ·rw [AK (by simpa using hf)]
    have:=JN T f h hk hb F (m + 1) (by omega) (by omega)
    rw [qGr];have hs:qAN t.mask (sq t.mask h m)=sq t.mask h (m + 1):=rfl;rw [hs];rcases this with ⟨a,b⟩ |⟨x,i',a,b,c,d,e1,e2,e3⟩
    ·left;refine ⟨fun x h1 h2 i' e' h' => ?_,b⟩;by_cases hx:x=m
     ·subst hx;rw [uniq i' e' h'];exact hf
     ·exact a x (by omega) h2 i' e' h'
    ·right;refine ⟨x,i',by omega,b,c,d,e1,fun y h1 h2 i'' e' h' => ?_,e3⟩
     by_cases hx:y=m
     ·subst hx;rw [uniq i'' e' h'];exact hf
     ·exact e2 y (by omega) h2 i'' e' h'
def Rch {α:Type} (t:SetTable) (es:List (Int×α)):Prop := ∀ q∈t.place.toList.zip es,∃ m,(sq t.mask q.2.1 m).j=q.1 ∧ ∀ m',m' < m->(sq t.mask q.2.1 m').j∈t.place.toList
theorem qFE {α:Type} (xs:Array α) (p:Nat) (x:α):(SetTable.insertAt xs p x).toList=xs.toList.take p++x::xs.toList.drop p:=by unfold SetTable.insertAt;simp [Array.toList_append,List.take_of_length_le]
theorem ris_list {xs:Array Nat}:Rz xs ↔ xs.toList.Pairwise (· < ·):=by
 rw [Bo];constructor
 ·intro R i j hi hj hij
  have:=R i j hij (by simpa using hj)
  rw [AN,AN,AO (by simpa using hi),AO (by simpa using hj)] at this
  simpa using this
 ·intro R i k hik hk
  have:=R i k (by simp;omega) (by simpa using hk) hik
  rw [AN,AN,AO (by omega),AO hk]
  simpa using this
theorem qFr {xs:Array Nat} (R:Rz xs) {j:Nat}:∀ x∈xs.toList.take (SetTable.below xs j),x < j:=by
 intro x hx;obtain ⟨i,hi,e⟩:=List.getElem_of_mem hx;rw [Bf,AZ] at hi
 have:=(zK R j).1 i (by omega)
 rw [AN,AO (by omega)] at this
 rw [List.getElem_take] at e;simp at e this;omega
theorem qBV {xs:Array Nat} (R:Rz xs) {j:Nat}:∀ x∈xs.toList.drop (SetTable.below xs j),j≤x:=by
 intro x hx;obtain ⟨i,hi,e⟩:=List.getElem_of_mem hx;rw [B7,AZ] at hi
 have:=(zK R j).2.1 (SetTable.below xs j + i) (by omega) (by omega)
 rw [AN,AO (by omega)] at this
 rw [List.getElem_drop] at e;simp at e this;omega
theorem qFh {xs:Array Nat} (R:Rz xs) {j:Nat} (h:j ∉ xs.toList):Rz (SetTable.insertAt xs (SetTable.below xs j) j):=by
 rw [ris_list,qFE];have P:=ris_list.mp R;rw [List.pairwise_append];refine ⟨P.sublist (List.take_sublist _ _),?_,?_⟩
 ·rw [B1];refine ⟨fun x hx => ?_,P.sublist (List.drop_sublist _ _)⟩
  have:=qBV R x hx
  have:x≠j:=fun q=>h (by rw [← q];exact B9 hx)
  omega
 ·intro a ha b hb;have h1:=qFr R a ha;rcases AJ.mp hb with q |q
  ·omega
  ·have:=qBV R b q;omega
theorem qFv {α β:Type} {xs:List α} {ys:List β} {p:Nat} {x:α} {y:β} (hl:xs.length=ys.length):(xs.take p++x::xs.drop p).zip (ys.take p++y::ys.drop p)=(xs.zip ys).take p++(x,y)::(xs.zip ys).drop p:=by rw [List.zip_append (by simp [hl]),Aq,List.zip_eq_zipWith,List.zip_eq_zipWith,List.zip_eq_zipWith,List.take_zipWith,List.drop_zipWith]
theorem qGu {α:Type} {t:SetTable} {es:Array (Int×α)} {h:Int} {x:α} {k:Nat} (T:TbG t es.size) (hr:es.size + 1≤t.mask) (R:Rch t es.toList) (hjm:(sq t.mask h k).j≤t.mask) (hk:(sq t.mask h k).j ∉ t.place.toList) (hb:∀ m,m < k->(sq t.mask h m).j∈t.place.toList) :
  TbG (t.put (sq t.mask h k).j).1 (es.size + 1)∧Rch (t.put (sq t.mask h k).j).1 (SetTable.insertAt es (t.put (sq t.mask h k).j).2 (h,x)).toList∧(SetTable.insertAt es (t.put (sq t.mask h k).j).2 (h,x)).toList.Perm ((h,x)::es.toList):=by
 have hp:(t.put (sq t.mask h k).j).1.place.toList=t.place.toList.take (SetTable.below t.place (sq t.mask h k).j)++(sq t.mask h k).j::t.place.toList.drop (SetTable.below t.place (sq t.mask h k).j):=qFE _ _ _;have hmem:∀ j,j∈(t.put (sq t.mask h k).j).1.place.toList ↔ j=(sq t.mask h k).j∨j∈t.place.toList:=by
  intro j;rw [hp,Am,AJ];constructor
  ·rintro (q |q |q)
   ·exact .inr (CA q)
   ·exact .inl q
   ·exact .inr (B9 q)
  ·rintro (q |q)
   ·exact .inr (.inl q)
   ·rw [← List.take_append_drop (SetTable.below t.place (sq t.mask h k).j) t.place.toList,Am] at q;rcases q with q |q
    ·exact .inl q
    ·exact .inr (.inr q)
 refine ⟨⟨?_,?_,qFh T.ris hk,?_,hr⟩,?_,?_⟩
 ·show (if SetTable.has t.dummies _=true then SetTable.eraseAt t.dummies _ else t.dummies) = #[];rw [T.dum,qBO];rfl
 ·rw [← AZ,hp]
  have:=(zK T.ris (sq t.mask h k).j).2.2
  rw [AQ,Bf,AH,B7,AZ,T.sz] at *;omega
 ·intro j hj;rcases (hmem j).mp hj with q |q
  ·rw [q];exact hjm
  ·exact T.le j q
 ·intro q hq;rw [hp,qFE] at hq;have hq:q∈(t.place.toList.take (SetTable.below t.place (sq t.mask h k).j)++(sq t.mask h k).j::t.place.toList.drop (SetTable.below t.place (sq t.mask h k).j)).zip (es.toList.take (SetTable.below t.place (sq t.mask h k).j)++(h,x)::es.toList.drop (SetTable.below t.place (sq t.mask h k).j)):=hq;rw [qFv (by rw [AZ,AZ,T.sz]),Am,AJ] at hq
  have old:q∈t.place.toList.zip es.toList -> ∃ m,(sq t.mask q.2.1 m).j=q.1 ∧ ∀ m',m' < m->(sq t.mask q.2.1 m').j∈(t.put (sq t.mask h k).j).1.place.toList:=fun hq=>by obtain ⟨m,h1,h2⟩:=R q hq;exact ⟨m,h1,fun m' hm=>(hmem _).mpr (.inr (h2 m' hm))⟩
  rcases hq with hq |hq |hq
  ·exact old (CA hq)
  ·subst hq;exact ⟨k,rfl,fun m' hm=>(hmem _).mpr (.inr (hb m' hm))⟩
  ·exact old (B9 hq)
 ·rw [qFE];refine List.perm_middle.trans ?_;rw [List.take_append_drop]
structure Ow (mask:Nat) (owner:Array (Option Nat)) (hs:List Int) (js:List Nat):Prop where
 size:owner.size=mask + 1
 len:js.length=hs.length
 iff:∀ (j k:Nat),owner[j]? = some (some k) ↔ js[k]? = some j
 way:∀ (k:Nat) (h:Int) (j:Nat),hs[k]? = some h->js[k]? = some j -> ∃ m,(sq mask h m).j=j ∧ ∀ m',m' < m->(sq mask h m').j∈js
 le:∀ j∈js,j≤mask
theorem JW {mask:Nat} {h:Int} {a:Nat}:∀ {b:Nat},a≤b->lpN mask h a≤lpN mask h b
 |0,q=>by
  have:a=0:=by omega
  subst this;exact AG _
 |b + 1,q=>by
  by_cases e:a=b + 1
  ·subst e;exact AG _
  ·have:=JW (mask:=mask) (h:=h) (a:=a) (b:=b) (by omega)
   rw [lpN];omega
theorem qHx {mask:Nat} {h:Int} {a b:Nat} (q:a < b):lpN mask h a < lpN mask h b:=by
 have:=JW (mask:=mask) (h:=h) (show a + 1≤b by omega)
 rw [lpN] at this;omega
theorem qBg {mask:Nat} {owner:Array (Option Nat)} {hs:List Int} {js:List Nat} (O:Ow mask owner hs js) {h:Int} {k0:Nat} (hk:(sq mask h k0).j ∉ js) (hkm:(sq mask h k0).j≤mask) (hb:∀ m,m < k0->(sq mask h m).j∈js) :
  ∀ (F m:Nat),lpN mask h m≤k0->k0 < lpN mask h (m + F)->SetTable.layClean.free mask owner F (lp mask h m).1 (lp mask h m).2=some (sq mask h k0).j
 |0,m,h1,h2=>by rw [Nat.add_zero] at h2;omega
 |F + 1,m,h1,h2=>by
  rw [SetTable.layClean.free];have hrn:SetTable.runEnd mask (lp mask h m).1 + 1 - (lp mask h m).1=rn mask (lp mask h m).1 + 1:=by unfold rn SetTable.runEnd;split <;> omega
  have occ:∀ k,k≤rn mask (lp mask h m).1->lpN mask h m + k < k0->(owner.getD ((lp mask h m).1 + k) (some 0)).isNone=false:=fun k a b=>by
   have:=hb _ b
   rw [qGe a] at this;obtain ⟨i,hi⟩:=BH this
   have:=(O.iff _ _).mpr hi
   rw [AN,this];rfl
  rw [hrn];by_cases hq:k0≤lpN mask h m + rn mask (lp mask h m).1
  ·have ej:(sq mask h k0).j=(lp mask h m).1 + (k0 - lpN mask h m):=by
    have:=qGe (mask:=mask) (h:=h) (m:=m) (k:=k0 - lpN mask h m) (by omega)
    rw [show lpN mask h m + (k0 - lpN mask h m)=k0 by omega] at this
    exact this
   have hf:(List.range (rn mask (lp mask h m).1 + 1)).find? (fun k=>(owner.getD ((lp mask h m).1 + k) (some 0)).isNone)=some (k0 - lpN mask h m):=by
    rw [List.find?_range_eq_some];refine ⟨?_,BC.mpr (by omega),fun j hj => ?_⟩
    ·rw [← ej,AN,AO (by rw [O.size];omega)]
     cases hx:owner[(sq mask h k0).j]'(by rw [O.size];omega) with
     |none=>rfl
     |some k' =>exfalso;refine hk (Ar ((O.iff _ k').mp ?_));rw [AO (by rw [O.size];omega),hx]
    ·rw [occ j (by omega) (by omega)];rfl
   rw [hf,ej]
  ·have hf:(List.range (rn mask (lp mask h m).1 + 1)).find? (fun k=>(owner.getD ((lp mask h m).1 + k) (some 0)).isNone)=none:=by
    rw [List.find?_eq_none];intro k hk';rw [occ k (by have:=BC.mp hk';omega) (by have:=BC.mp hk';omega)]
    simp
   rw [hf];exact qBg O hk hkm hb F (m + 1) (by rw [lpN];omega) (by rw [show m + 1 + F=m + (F + 1) by omega];exact h2)
theorem qGR {mask:Nat} {h:Int} (n:Nat):(sq mask h n).j≤mask:=by
 have:∀ n,(sq mask h n).j + (sq mask h n).more≤mask∧(sq mask h n).i≤mask:=by
  intro n;have key:∀ i,i≤mask->i + (SetTable.runEnd mask i - i)≤mask:=fun i hi=>by unfold SetTable.runEnd;split <;> omega
  induction n with
  |zero =>have hi:SetTable.bits h % (mask + 1)≤mask:=Nat.le_of_lt_succ (Nat.mod_lt _ (Nat.succ_pos _));exact ⟨key _ hi,hi⟩
  |succ n ih =>
   rw [sq];unfold qAN;split
   ·rename_i hm;exact ⟨by show (sq mask h n).j + 1 + ((sq mask h n).more - 1)≤mask;omega,ih.2⟩
   ·have hi:(SetTable.leap mask (sq mask h n).i (sq mask h n).perturb).1≤mask:=Nat.le_of_lt_succ (Nat.mod_lt _ (Nat.succ_pos _));exact ⟨key _ hi,hi⟩
 have:=(this n).1
 omega
theorem Ow.step {mask:Nat} {owner:Array (Option Nat)} {hs:List Int} {js:List Nat} (O:Ow mask owner hs js) (C:Cyc mask) (hl:hs.length≤mask) (h:Int):∃ j,SetTable.layClean.free mask owner (SetTable.turns mask) (SetTable.bits h % (mask + 1)) (SetTable.bits h)=some j∧Ow mask (owner.setIfInBounds j (some hs.length)) (hs++[h]) (js++[j]):=by
 obtain ⟨e,he,hq⟩:=qAL (mask + 1) js (by rw [O.len];omega)
 obtain ⟨m,hm,q⟩:=qDF (h:=h) C (show e≤mask by omega)
 obtain ⟨k0,k1,k2,k3⟩:=qAD (P:=fun k=>(sq mask h k).j ∉ js) (fun _=>inferInstance) (n:=lpN mask h m) (by rw [qBf,q];exact hq)
 have hb:∀ m,m < k0->(sq mask h m).j∈js:=fun m hm=>Decidable.not_not.mp (k3 m hm);have hj:=qGR (mask:=mask) (h:=h) k0;refine ⟨_,qBg O k2 hj hb (SetTable.turns mask) 0 (A3 _) ?_,?_⟩
 ·rw [Nat.zero_add];refine BY k1 (qHx ?_);unfold SetTable.turns;omega
 ·have hmem:∀ x,x∈js++[(sq mask h k0).j] ↔ x∈js∨x=(sq mask h k0).j:=fun x=>by simp
  refine ⟨by simp [O.size],by simp [O.len],fun j k => ?_,fun k h' j h1 h2 => ?_,fun j hj' => ?_⟩
  ·rw [Array.getElem?_setIfInBounds];by_cases hjj:(sq mask h k0).j=j
   ·rw [AF hjj,AF (by rw [O.size];omega)]
    constructor
    ·intro z;cases z;rw [Ap (by rw [O.len];exact AG _),O.len,CS]
     simp [hjj]
    ·intro z;by_cases hkl:k < js.length
     ·rw [Af hkl] at z;exact absurd (by rw [hjj];exact Ar z) k2
     ·rw [Ap (by omega)] at z
      have:k - js.length=0:=by
       have:=(AS.mp z).1
       simp at this;omega
      rw [show k=hs.length by have:=O.len;omega]
   ·rw [AK hjj,O.iff];constructor
    ·intro z;rw [Af (AS.mp z).1];exact z
    ·intro z;by_cases hkl:k < js.length
     ·rwa [Af hkl] at z
     ·rw [Ap (by omega)] at z
      have h0:=(AS.mp z).1
      have:k - js.length=0:=by simp at h0;omega
      rw [this] at z;simp at z;exact absurd z hjj
  ·by_cases hkl:k < js.length
   ·rw [Af hkl] at h2;rw [Af (by rw [← O.len];exact hkl)] at h1
    obtain ⟨m,a,b⟩:=O.way k h' j h1 h2;exact ⟨m,a,fun m' hm'=>(hmem _).mpr (.inl (b m' hm'))⟩
   ·rw [Ap (by omega)] at h2
    rw [Ap (by have:=O.len;omega)] at h1
    have h0:=(AS.mp h2).1;have z:k - js.length=0:=by simp at h0;omega
    rw [← O.len,z] at h1;rw [z] at h2;simp at h1 h2;subst h1;subst h2;exact ⟨k0,rfl,fun m' hm'=>(hmem _).mpr (.inl (hb m' hm'))⟩
  ·rcases (hmem j).mp hj' with q |q
   ·exact O.le j q
   ·rw [q];exact hj
theorem Jf {mask:Nat} (C:Cyc mask):∀ (r hs:List Int) (owner:Array (Option Nat)) (js:List Nat),Ow mask owner hs js->hs.length + r.length≤mask + 1 ->
  ∃ owner' js',r.foldl (fun acc h=>do
   let (owner,k) ← acc;let j ← SetTable.layClean.free mask owner (SetTable.turns mask) (SetTable.bits h % (mask + 1)) (SetTable.bits h)
   pure (owner.setIfInBounds j (some k),k + 1)) (some (owner,hs.length))=some (owner',(hs++r).length)∧Ow mask owner' (hs++r) js'
 |[],hs,owner,js,O,_=>⟨owner,js,by simp,by simpa using O⟩
 |h::r,hs,owner,js,O,hl=>by
  rw [AH] at hl;obtain ⟨j,e,O'⟩:=O.step C (by omega) h
  obtain ⟨ow,js',e2,O2⟩:=Jf C r (hs++[h]) _ _ O' (by rw [AQ,As];omega)
  refine ⟨ow,js',?_,by simpa using O2⟩
  rw [List.foldl_cons]
  have:(do
   let (owner,k) ← some (owner,hs.length);let j ← SetTable.layClean.free mask owner (SetTable.turns mask) (SetTable.bits h % (mask + 1)) (SetTable.bits h)
   pure (owner.setIfInBounds j (some k),k + 1))=some (owner.setIfInBounds j (some hs.length),hs.length + 1):=by
   show (do
    let j ← SetTable.layClean.free mask owner (SetTable.turns mask) (SetTable.bits h % (mask + 1)) (SetTable.bits h)
    pure (owner.setIfInBounds j (some hs.length),hs.length + 1))=_
   rw [e];rfl
  rw [this];simpa using e2
theorem qDq {mask:Nat} (C:Cyc mask) (hashes:Array Int) (hl:hashes.size≤mask + 1):∃ owner js,SetTable.layClean mask hashes=some owner∧Ow mask owner hashes.toList js:=by
 obtain ⟨owner,js,e,O⟩:=Jf C hashes.toList [] (Array.replicate (mask + 1) none) [] ⟨by simp,rfl,fun j k=>by
  constructor
  ·intro z;rw [Array.getElem?_replicate] at z;split at z <;> simp at z
  ·intro z;simp at z,fun k h j h1 h2=>by simp at h1,fun j h=>by simp at h⟩ (by simpa using hl)
 refine ⟨owner,js,?_,by simpa using O⟩
 unfold SetTable.layClean;rw [← Array.foldl_toList];have e':=e;simp only [List.nil_append] at e';have h0:(some (Array.replicate (mask + 1) none,([]:List Int).length):Option (Array (Option Nat)×Nat))=some (Array.replicate (mask + 1) none,0):=rfl;rw [h0] at e';rw [e'];rfl
theorem ZI {α:Type} [DecidableEq α]:∀ {l m:List α},l.Nodup->m.Nodup->(∀ x,x∈l ↔ x∈m)->l.Perm m
 |[],m,_,_,h=>by
  cases m with
  |nil=>exact .refl _
  |cons y m=>exact absurd ((h y).mpr AL) (by simp)
 |x::l,m,h1,h2,h=>by
  have hx:=(h x).mp AL;refine List.Perm.trans ?_ (List.perm_cons_erase hx).symm;refine List.Perm.cons x (ZI (BE.mp h1).2 (h2.erase x) fun y => ?_);rw [h2.mem_erase_iff];constructor
  ·intro hy;exact ⟨fun z=>(BE.mp h1).1 (by rw [← z];exact hy),(h y).mp (AE _ hy)⟩
  ·rintro ⟨a,b⟩
   rcases AJ.mp ((h y).mpr b) with q |q
   ·exact absurd q a
   ·exact q
theorem qD7 {α:Type} (l:List α):(List.range l.length).filterMap (fun i=>l[i]?)=l:=by
 induction l with
 |nil=>rfl
 |cons x l ih =>rw [AH,B2,BA];show x::((List.range l.length).map Nat.succ).filterMap _=_;rw [List.filterMap_map];congr 1
theorem qDN {α β:Type} {f:α->Option β} {g:α->β}:∀ {l:List α},(∀ x∈l,f x=some (g x))->l.filterMap f=l.map g
 |[],_=>rfl
 |x::l,h=>by rw [BA,h x AL,Aj,qDN fun y hy=>h y (AE _ hy)]
theorem yg {α:Type} [Inhabited α] {mask finger moves:Nat} {led plain:Bool} (C:Cyc mask) {es:Array (Int×α)} (hl:es.size≤mask):∃ t order,SetTable.laid mask finger moves led plain (es.map (·.1))=some (t,order)∧t.mask=mask∧t.led=led∧t.plain=plain ∧
  (order.filterMap (es[·]?)).toList.Perm es.toList∧TbG t es.size∧Rch t (order.filterMap (es[·]?)).toList:=by
 obtain ⟨owner,js,e,O⟩:=qDq C (es.map (·.1)) (by simp;omega)
 refine ⟨_,_,by unfold SetTable.laid;rw [e];rfl,rfl,rfl,rfl,?_⟩
 generalize hL:(List.range (mask + 1)).filterMap (fun j=>(owner.getD j none).map (j,·))=L;have hmem:∀ q,q∈L ↔ js[q.2]? = some q.1:=by
  intro ⟨j,k⟩;rw [← hL,Bw];constructor
  ·rintro ⟨a,ha,hb⟩
   have ha:=BC.mp ha;rw [AN,AO (by rw [O.size];omega)] at hb
   cases hx:owner[a]'(by rw [O.size];omega) with
   |none=>rw [hx] at hb;simp at hb
   |some k' =>rw [hx] at hb;simp at hb;obtain ⟨rfl,rfl⟩:=hb;exact (O.iff _ _).mp (by rw [AO (by rw [O.size];omega),hx])
  ·intro z;have z':=(O.iff _ _).mpr z;refine ⟨j,BC.mpr (by have:=O.le j (Ar z);omega),?_⟩
   rw [AN,z'];rfl
 have hlen:js.length=es.size:=by rw [O.len];simp
 have hinj:∀ a b j,js[a]? = some j->js[b]? = some j->a=b:=fun a b j h1 h2=>by have h1:=(O.iff j a).mpr h1;have h2:=(O.iff j b).mpr h2;rw [h1] at h2;cases h2;rfl
 have hpw:L.Pairwise (fun p q=>p.1 < q.1):=by rw [← hL,List.pairwise_filterMap];refine List.Pairwise.imp ?_ List.pairwise_lt_range;intro a b hab x hx y hy;simp only [Option.map_eq_some_iff] at hx hy;obtain ⟨_,_,rfl⟩:=hx;obtain ⟨_,_,rfl⟩:=hy;exact hab
 have hnd:(L.map (·.2)).Nodup:=by
  rw [List.nodup_iff_pairwise_ne,List.pairwise_map];refine List.Pairwise.imp_of_mem (R:=fun p q=>p.1 < q.1) ?_ hpw;intro a b ha hb hab z;have h1:=(hmem a).mp ha;have h2:=(hmem b).mp hb;rw [z,h2] at h1
  have:=Ag h1
  omega
 have hperm:(L.map (·.2)).Perm (List.range es.size):=by
  refine ZI hnd List.nodup_range fun k => ?_;rw [BC,AX];constructor
  ·rintro ⟨q,hq,rfl⟩
   have:=(AS.mp ((hmem q).mp hq)).1
   omega
  ·intro hk
   have:js[k]? = some (js[k]'(by omega)):=AI _
   exact ⟨(js[k]'(by omega),k),(hmem _).mpr this,rfl⟩
 have hLl:L.length=es.size:=by have:=hperm.length_eq;simpa using this
 have hfm:(((L.map (·.2)).toArray.filterMap (es[·]?)).toList)=L.map fun q=>es.toList.getD q.2 (0,default):=by
  rw [List.filterMap_toArray];show (L.map (·.2)).filterMap (fun i=>es[i]?)=_;rw [List.filterMap_map];refine qDN fun q hq => ?_
  have:=(AS.mp ((hmem q).mp hq)).1
  show es[q.2]? = _;rw [AO (by omega),Ab,Av,AO (by omega)]
  rfl
 refine ⟨?_,⟨rfl,by simp [hLl],?_,?_,hl⟩,?_⟩
 ·have h1:((L.map (·.2)).toArray.filterMap (es[·]?)).toList=(L.map (·.2)).filterMap (fun i=>es.toList[i]?):=by rw [List.filterMap_toArray];simp
  rw [h1];refine (hperm.filterMap _).trans ?_
  have:=qD7 es.toList
  rw [AZ] at this;rw [this]
 ·rw [ris_list];show (L.map (·.1)).Pairwise _;rw [List.pairwise_map];exact hpw
 ·intro j hj;have hj:j∈L.map (·.1):=hj;obtain ⟨q,hq,rfl⟩:=AX.mp hj;exact O.le _ (Ar ((hmem q).mp hq))
 ·intro q hq;rw [hfm] at hq;have hq:q∈(L.map (·.1)).zip (L.map fun q=>es.toList.getD q.2 (0,default)):=hq;rw [List.zip_map,AX] at hq;obtain ⟨⟨u,v⟩,huv,rfl⟩:=hq;have huv':u=v∧u∈L:=by
   have:∀ (l:List (Nat×Nat)) (p:(Nat×Nat)×(Nat×Nat)),p∈l.zip l->p.1=p.2∧p.1∈l:=by
    intro l;induction l with
    |nil=>intro p hp;simp at hp
    |cons a l ih =>
     intro p hp;rw [Aq] at hp;rcases AJ.mp hp with z |z
     ·subst z;exact ⟨rfl,AL⟩
     ·exact ⟨(ih p z).1,AE _ (ih p z).2⟩
   exact this L _ huv
  obtain ⟨rfl,hu⟩:=huv';have hj:=(hmem u).mp hu;have hlt:=(AS.mp hj).1;have hh:(es.map (·.1)).toList[u.2]? = some (es.toList.getD u.2 (0,default)).1:=by
   rw [Ab,Av,Av,Array.getElem?_map,AO (show u.2 < es.size by omega)]
   rfl
  obtain ⟨m,h1,h2⟩:=O.way _ _ _ hh hj;refine ⟨m,h1,fun m' hm' => ?_⟩
  have:=h2 m' hm'
  obtain ⟨i,hi⟩:=BH this;show _∈L.map (·.1);exact AX.mpr ⟨((sq mask (es.toList.getD u.2 (0,default)).1 m').j,i),(hmem _).mpr hi,rfl⟩
end ET
end
section
namespace ET
open PySem PySem.Spec PyProof.Rows L2 EX
section
variable {prog:Program} {w:World} {A:Around} {E:Value->Shared->Prop} {s:Shared}
abbrev TK (prog:Program) (w:World) (h:Heap) (ks:List Int) (b:Addr):Prop:=IsTupleKey (intKind prog w) h ks b
abbrev hsT (prog:Program) (w:World) (ks:List Int):Int:=tupleKeyHash (intKind prog w) ks
theorem zq {ks:List Int} {vs:List Value} (h:ItemsAre (intKind prog w) ks vs):∀ v∈vs,∃ n t,v=Value.int n t:=by
 induction h with
 |nil=>intro v hv;cases hv
 | @cons k v ks vs h1 _ ih =>
  intro u hu;rcases AJ.mp hu with q |q
  ·subst q;cases u with
   |int n t=>exact ⟨n,t,rfl⟩
   |_=>exact Bool.noConfusion (show false=true from h1)
  ·exact ih u q
theorem TK.keep {h h':Heap} {ks:List Int} {b:Addr} (k:TK prog w h ks b) (e:∀ o,h.get? b=some o->h'.get? b=some o):TK prog w h' ks b:=by obtain ⟨o,its,n,h1,h2⟩:=k;exact ⟨o,its,n,e o h1,h2⟩
theorem hbv {ks:List Int} {b:Addr} {Q:Bool->Shared->Prop} (k:TK prog w s.heap ks b) (h:Q true s):wpAny (model prog w) A (hashByValue 8 (.ref b)) Q E s:=by
 have hT:=k.typeIs;obtain ⟨o,items,n,ho,_,hd,hi⟩:=k;unfold hashByValue;refine AA (wpAny_specialOf hT F.slot_tuple_hash.lookup ?_);dsimp only;refine AA (Br ho hd ?_);show wpAny _ _ (forIn items _ _ >>= _) _ _ s;refine AA ?_;rw [← Array.forIn_toList];refine Bt _ (fun rest r s'=>r.1=none∧s'=s ∧ ∀ v∈rest,∃ n t,v=Value.int n t) _ ?_ ?_ _ _ ⟨rfl,rfl,zq hi⟩
 ·rintro v rest r s' ⟨hr,rfl,hall⟩
  obtain ⟨n,t,rfl⟩:=hall v AL;refine AA (Ao (a:=true) (by rw [hashByValue_scannable 7 (x := .int n t) rfl];rfl) ?_)
  simp only [Bool.not_true,Az,BU];exact AB ⟨rfl,rfl,fun u hu'=>hall u (AE _ hu')⟩
 ·rintro ⟨r1,r2⟩ s' ⟨hr,rfl,_⟩
  simp only at hr;subst hr;exact AB h
theorem oac {ks:List Int} {b:Addr} {Q:Bool->Shared->Prop} (k:TK prog w s.heap ks b) (h:Q false s):wpAny (model prog w) A (ofAClassStatement 8 (.ref b)) Q E s:=by
 have hT:=k.typeIs;obtain ⟨o,items,n,ho,_,hd,hi⟩:=k;unfold ofAClassStatement;refine AA (Ba hT ?_);dsimp only;rw [AF (by decide)]
 refine AA (AB ?_);rw [AK (by decide)]
 refine AA (Br ho hd ?_);dsimp only;refine AA ?_;rw [← Array.forIn_toList];refine Bt _ (fun rest r s'=>r.1=none∧s'=s ∧ ∀ v∈rest,∃ n t,v=Value.int n t) _ ?_ ?_ _ _ ⟨rfl,rfl,zq hi⟩
 ·rintro v rest r s' ⟨hr,rfl,hall⟩
  obtain ⟨n,t,rfl⟩:=hall v AL;refine AA (Ao (a:=false) (by unfold ofAClassStatement;rfl) ?_)
  rw [AK (by decide)]
  exact AB ⟨rfl,rfl,fun u hu'=>hall u (AE _ hu')⟩
 ·rintro ⟨r1,r2⟩ s' ⟨hr,rfl,_⟩
  simp only at hr;subst hr;exact AB h
theorem qKM {ks:List Int} {b:Addr} {Q:Bool->Shared->Prop} (k:TK prog w s.heap ks b) (l:List Value) (hl:∀ v∈l,∃ c ks',v = .ref c∧TK prog w s.heap ks' c) (h:Q false s):wpAny (model prog w) A (searchCouldBeSeen (.ref b) l) Q E s:=by
 unfold searchCouldBeSeen;refine AA ?_;refine Bt _ (fun rest r s'=>r.1=none∧s'=s ∧ ∀ v∈rest,∃ c ks',v = .ref c∧TK prog w s.heap ks' c) _ ?_ ?_ _ _ ⟨rfl,rfl,hl⟩
 ·rintro v rest r s' ⟨hr,rfl,hall⟩
  obtain ⟨c,ks',rfl,k'⟩:=hall v AL;dsimp only;by_cases hbc:(b==c || (carriedByValue (.ref b)&&carriedByValue (.ref c)))=true
  ·rw [AF hbc];exact AB ⟨rfl,rfl,fun u hu'=>hall u (AE _ hu')⟩
  ·rw [AK hbc];refine AA (wpAny_eqIsQuiet_tuple k ?_);rw [AK (by decide)]
   refine AA (wpAny_eqIsQuiet_tuple k' ?_);rw [AK (by decide)]
   refine AA (oac k ?_);rw [AK (by decide)]
   refine AA (oac k' ?_);rw [AK (by decide)]
   exact AB ⟨rfl,rfl,fun u hu'=>hall u (AE _ hu')⟩
 ·rintro ⟨r1,r2⟩ s' ⟨hr,rfl,_⟩
  simp only at hr;subst hr;exact AB h
inductive EsT (prog:Program) (w:World) (h:Heap):List (Int×Value)->List (List Int)->Prop
 |nil:EsT prog w h [] []
 |cons {ks:List Int} {b:Addr} {l:List (Int×Value)} {kss:List (List Int)}:TK prog w h ks b->EsT prog w h l kss->EsT prog w h ((hsT prog w ks,.ref b)::l) (ks::kss)
theorem EsT.len {h:Heap} {l:List (Int×Value)} {kss:List (List Int)} (e:EsT prog w h l kss):l.length=kss.length:=by
 induction e with
 |nil=>rfl
 |cons _ _ ih=>rw [AH,AH,ih]
theorem EsT.keep {h h':Heap} {l:List (Int×Value)} {kss:List (List Int)} (e:EsT prog w h l kss) (k:∀ b ks,TK prog w h ks b->TK prog w h' ks b):EsT prog w h' l kss:=by
 induction e with
 |nil=>exact .nil
 |cons a _ ih=>exact .cons (k _ _ a) ih
theorem EsT.get {h:Heap} {l:List (Int×Value)} {kss:List (List Int)} (e:EsT prog w h l kss):∀ {i:Nat} {x:Int×Value},l[i]? = some x -> ∃ ks b,kss[i]? = some ks∧x=(hsT prog w ks,.ref b)∧TK prog w h ks b:=by
 induction e with
 |nil=>intro i x hx;simp at hx
 | @cons ks b l kss a _ ih =>
  intro i x hx;cases i with
  |zero=>simp at hx;exact ⟨ks,b,rfl,hx.symm,a⟩
  |succ i=>simp at hx;simpa using ih hx
theorem EsT.get' {h:Heap} {l:List (Int×Value)} {kss:List (List Int)} (e:EsT prog w h l kss):∀ {i:Nat} {ks:List Int},kss[i]? = some ks -> ∃ b,l[i]? = some (hsT prog w ks,.ref b)∧TK prog w h ks b:=by
 induction e with
 |nil=>intro i x hx;simp at hx
 | @cons ks b l kss a _ ih =>
  intro i x hx;cases i with
  |zero=>simp at hx;subst hx;exact ⟨b,rfl,a⟩
  |succ i=>simp at hx;simpa using ih hx
theorem EsT.perm {h:Heap} {l l':List (Int×Value)} (p:l.Perm l'):∀ {kss:List (List Int)},EsT prog w h l kss -> ∃ kss',kss.Perm kss'∧EsT prog w h l' kss':=by
 induction p with
 |nil=>intro kss e;exact ⟨kss,.refl _,e⟩
 |cons x _ ih =>
  intro kss e;cases e with
  |cons a e =>obtain ⟨k',q,r⟩:=ih e;exact ⟨_,q.cons _,.cons a r⟩
 |swap x y l =>
  intro kss e;cases e with
  |cons a e =>
   cases e with
   |cons b e=>exact ⟨_,.swap _ _ _,.cons b (.cons a e)⟩
 |trans _ _ ih1 ih2 =>intro kss e;obtain ⟨k1,q1,r1⟩:=ih1 e;obtain ⟨k2,q2,r2⟩:=ih2 r1;exact ⟨k2,q1.trans q2,r2⟩
theorem EsT.mem {h:Heap} {l:List (Int×Value)} {kss:List (List Int)} (e:EsT prog w h l kss):∀ x∈l,∃ ks b,ks∈kss∧x=(hsT prog w ks,.ref b)∧TK prog w h ks b:=by intro x hx;obtain ⟨i,hi⟩:=BH hx;obtain ⟨ks,b,h1,h2,h3⟩:=e.get hi;exact ⟨ks,b,Ar h1,h2,h3⟩
def Lv (mask n:Nat):Prop:=(mask=7∧n≤4)∨(mask=31∧n≤18)∨(mask=127∧n≤76)∨(mask=511∧n≤306)
theorem Lv.cyc {mask n:Nat} (h:Lv mask n):Cyc mask:=by
 rcases h with ⟨rfl,_⟩ |⟨rfl,_⟩ |⟨rfl,_⟩ |⟨rfl,_⟩
 ·exact qKA
 ·exact qI1
 ·exact qH2
 ·exact qHt
structure TbT (w:World) (t:SetTable) (es:Array (Int×Value)):Prop where
 g:TbG t es.size
 r:Rch t es.toList
 lv:Lv t.mask es.size
 led:t.led = !byT w
 pl:t.plain=true
structure SetT (prog:Program) (w:World) (h:Heap) (a:Addr) (es:Array (Int×Value)) (ep:Nat) (t:SetTable) (kss:List (List Int)):Prop where
 ex:∃ o,h.get? a=some o∧o.ExactSet∧o.data=Data.set es ep t
 el:EsT prog w h es.toList kss
 nd:kss.Nodup
 tb:TbT w t es
theorem jw {t:SetTable} {n:Nat} (T:TbG t n):t.fits n=true:=by
 unfold SetTable.fits;rw [AV];refine ⟨by rw [T.sz];exact Ay _,AR ?_⟩
 unfold SetTable.fill;rw [T.dum,T.sz];exact T.room
theorem qCm {t:SetTable} {n:Nat} (h:Lv t.mask n):t.gaveWay=false:=by unfold SetTable.gaveWay;rcases h with ⟨h,_⟩ |⟨h,_⟩ |⟨h,_⟩ |⟨h,_⟩ <;> rw [h] <;> rfl
theorem qC4 {a:Addr} {es:Array (Int×Value)} {ep:Nat} {t:SetTable} {kss:List (List Int)} {ks:List Int} {b:Addr} {adding:Bool} {Q:SetFound->Shared->Prop} (hu:A.units < cLine) (S:SetT prog w s.heap a es ep t kss) (k:TK prog w s.heap ks b) {k0:Nat}
  (hk:(sq t.mask (hsT prog w ks) k0).j ∉ t.place.toList) (hb:∀ m,m < k0->(sq t.mask (hsT prog w ks) m).j∈t.place.toList) (hk0:k0 < 10 * SetTable.turns t.mask)
  (h1:ks∈kss -> ∀ oi,(adding=false->oi.isSome=true)->Q (.there oi) s) (h2:ks ∉ kss->Q (.free (sq t.mask (hsT prog w ks) k0).j false) s) :
  ∀ (f m:Nat) (st:Option SetTable.Probe),m≤k0->k0 - m < f->st.getD (t.probeStart (hsT prog w ks))=sq t.mask (hsT prog w ks) m->(∀ y,y < m -> ∀ i,t.place.getD i 0=(sq t.mask (hsT prog w ks) y).j->i < t.place.size->kss[i]? ≠ some ks) ->
   wpAny (model prog w) A (setSearchFrom a (.ref b) (hsT prog w ks) adding f st) Q E s
 |0,m,st,_,hf,_,_=>absurd hf (A8 _)
 |f + 1,m,st,hm,hf,hst,hn=>by
  obtain ⟨o,ho,hx,hd⟩:=S.ex;have hfit:=jw S.tb.g;have hsz:t.place.size=es.size:=S.tb.g.sz;have hkl:es.size=kss.length:=by rw [← S.el.len,AZ]
  rw [setSearchFrom];refine AA (Bb ho hd hfit ?_);dsimp only;rw [qCm S.tb.lv];simp only [Az,BU];rw [hst];have hp:=JN S.tb.g (fun i=>(es[i]?.map (·.1)).getD 0) (hsT prog w ks) hk hb (10 * SetTable.turns t.mask) m hm (by omega)
  rcases hp with ⟨hall,e⟩ |⟨x,i,hx1,hx2,hi,hpl,hfi,hall,e⟩
  ·generalize hg:t.probe _ (hsT prog w ks) (sq t.mask (hsT prog w ks) m)=pr;have e2:=hg.symm.trans e;subst e2;dsimp only;refine AB (h2 fun hmem => ?_);obtain ⟨i,hi⟩:=BH hmem;have hil:i < es.size:=by rw [hkl];exact (AS.mp hi).1
   obtain ⟨c,hc,_⟩:=S.el.get' hi;have hz:(t.place.getD i 0,(hsT prog w ks,Value.ref c))∈t.place.toList.zip es.toList:=by
    refine Ar (i:=i) ?_;rw [List.getElem?_zip_eq_some];refine ⟨?_,hc⟩;rw [Av,AO (by omega),AN,AO (by omega)]
    rfl
   obtain ⟨y,hy1,hy2⟩:=S.tb.r _ hz;have hyk:y < k0:=by
    rcases Nat.lt_trichotomy y k0 with q |q |q
    ·exact q
    ·subst q;exact absurd (by rw [hy1];exact mem_getD.mpr ⟨i,by omega,rfl⟩) hk
    ·exact absurd (hy2 k0 q) hk
   by_cases hym:y < m
   ·exact hn y hym i hy1.symm (by omega) hi
   ·refine hall y (by omega) hyk i hy1.symm (by omega) ?_
    show (es[i]?.map (·.1)).getD 0=_;rw [← Av,hc];rfl
  ·generalize hg:t.probe _ (hsT prog w ks) (sq t.mask (hsT prog w ks) m)=pr;have e2:=hg.symm.trans e;subst e2;dsimp only;have hie:i < es.size:=by omega
   obtain ⟨ks',c,hks',hc,kc⟩:=S.el.get (i:=i) (x:=es[i]) (by rw [Av,AO hie])
   have hsl:t.slot (sq t.mask (hsT prog w ks) x).j = .live i:=by rw [← hpl];exact Y7 S.tb.g.ris hi
   cases hled:t.led
   case' true=>simp only [Bool.not_true,Az,BU]
   case' false =>
    simp only [Bool.not_false,CJ];refine AA (qKM k _ (fun v hv=>(by
     obtain ⟨e',he',rfl⟩:=AX.mp hv;have he':e'∈es.toList:=Array.mem_toList_iff.mpr (Array.mem_filter.mp (Array.mem_toList_iff.mp he')).1;obtain ⟨ks'',c',_,hh,kk⟩:=S.el.mem _ he';exact ⟨c',ks'',by rw [hh],kk⟩)) ?_)
    simp only [Az,BU]
   all_goals
    rw [AO hie,hc];dsimp only;refine AA (An (wpAny_eqBool_tuple hu kc k ?_));refine AA (Bb ho hd hfit ?_);dsimp only;by_cases hq:ks'=ks
    ·subst hq;rw [AR rfl];have hmem:ks'∈kss:=Ar hks';cases adding with
     |true=>exact AB (h1 hmem none fun z=>by cases z)
     |false =>
      simp only [Bool.false_and,Az,BU];rw [show t.sameMemory t.moves t.mask=some true by unfold SetTable.sameMemory;rw [AF (Ay _)]]
      dsimp only;rw [AF rfl,hsl];dsimp only;rw [AO hie,hc];dsimp only;refine AA (wpAny_isSame_ref_self (AA (AB ?_)));rw [AF rfl];dsimp only;exact AB (h1 hmem (some i) fun _=>rfl)
    ·rw [Ae hq];rw [Bs];simp only [Az,BU];rw [show t.sameMemory t.moves t.mask=some true by unfold SetTable.sameMemory;rw [AF (Ay _)]]
     dsimp only;rw [AF rfl,hsl];dsimp only;rw [AO hie,hc];dsimp only;refine AA (wpAny_isSame_ref_self (AA (AB ?_)));rw [AF rfl];dsimp only;refine qC4 hu S k hk hb hk0 h1 h2 f (x + 1) _ (by omega) (by omega) rfl fun y hy j hj hjl => ?_
     by_cases hym:y < m
     ·exact hn y hym j hj hjl
     ·have uniq:t.place.getD j 0=t.place.getD i 0->j=i:=fun e'=>by
       rcases Nat.lt_trichotomy j i with q |q |q
       ·have:=S.tb.g.ris _ _ q hi;omega
       ·exact q
       ·have:=S.tb.g.ris _ _ q hjl;omega
      by_cases hyx:y=x
      ·subst hyx;rw [uniq (hj.trans hpl.symm),hks'];intro z;cases z;exact hq rfl
      ·intro z;refine hall y (by omega) (by omega) j hj hjl ?_
       obtain ⟨c',hc',_⟩:=S.el.get' z;show (es[j]?.map (·.1)).getD 0=_;rw [← Av,hc'];rfl
theorem SetT.first {h:Heap} {a:Addr} {es:Array (Int×Value)} {ep:Nat} {t:SetTable} {kss:List (List Int)} (S:SetT prog w h a es ep t kss) (hs:Int):∃ k,k < 10 * SetTable.turns t.mask∧(sq t.mask hs k).j ∉ t.place.toList ∧ ∀ m,m < k->(sq t.mask hs m).j∈t.place.toList:=S.tb.g.first S.tb.lv.cyc hs
theorem Jy {mask n:Nat} (h:Lv mask n):10 * SetTable.turns mask < 100000:=by unfold SetTable.turns;rcases h with ⟨h,_⟩ |⟨h,_⟩ |⟨h,_⟩ |⟨h,_⟩ <;> omega
theorem qFz {a:Addr} {es:Array (Int×Value)} {ep:Nat} {t:SetTable} {kss:List (List Int)} {ks:List Int} {b:Addr} {adding:Bool} {Q:SetFound->Shared->Prop} (hu:A.units < cLine) (S:SetT prog w s.heap a es ep t kss) (k:TK prog w s.heap ks b)
  (h1:ks∈kss -> ∀ oi,(adding=false->oi.isSome=true)->Q (.there oi) s)
  (h2:ks ∉ kss -> ∀ k0,(sq t.mask (hsT prog w ks) k0).j ∉ t.place.toList->(∀ m,m < k0->(sq t.mask (hsT prog w ks) m).j∈t.place.toList)->Q (.free (sq t.mask (hsT prog w ks) k0).j false) s) :
  wpAny (model prog w) A (setSearch a (.ref b) (hsT prog w ks) adding) Q E s:=by
 obtain ⟨k0,hk0,hk,hb⟩:=S.first (hsT prog w ks)
 have:=Jy S.tb.lv
 exact qC4 hu S k hk hb hk0 h1 (fun q=>h2 q k0 hk hb) 100000 0 none (A3 _) (by omega) rfl fun y hy=>absurd hy (A8 _)
theorem qGI {mask n:Nat} (h:Lv mask n) (hn:n + 1≤300) (hf:¬ (n + 1) * 5 ≥ mask * 3):Lv mask (n + 1):=by
 rcases h with ⟨rfl,h⟩ |⟨rfl,h⟩ |⟨rfl,h⟩ |⟨rfl,h⟩
 ·exact .inl ⟨rfl,by omega⟩
 ·exact .inr (.inl ⟨rfl,by omega⟩)
 ·exact .inr (.inr (.inl ⟨rfl,by omega⟩))
 ·exact .inr (.inr (.inr ⟨rfl,by omega⟩))
theorem qFI {mask n:Nat} (h:Lv mask n) (hn:n + 1≤300) (hf:(n + 1) * 5 ≥ mask * 3):Lv (SetTable.sizeAbove (SetTable.grown (n + 1)) - 1) (n + 1)∧SetTable.sizeAbove (SetTable.grown (n + 1))≤512:=by
 rcases h with ⟨rfl,h⟩ |⟨rfl,h⟩ |⟨rfl,h⟩ |⟨rfl,h⟩
 ·have:n=4:=by omega
  subst this;exact ⟨.inr (.inl ⟨by decide,by omega⟩),by decide⟩
 ·have:n=18:=by omega
  subst this;exact ⟨.inr (.inr (.inl ⟨by decide,by omega⟩)),by decide⟩
 ·have:n=76:=by omega
  subst this;exact ⟨.inr (.inr (.inr ⟨by decide,by omega⟩)),by decide⟩
 ·omega
theorem qBH {mask n:Nat} (h:Lv mask n):n + 1≤mask:=by rcases h with ⟨rfl,h⟩ |⟨rfl,h⟩ |⟨rfl,h⟩ |⟨rfl,h⟩ <;> omega
theorem qJG {a:Addr} {es:Array (Int×Value)} {ep:Nat} {t:SetTable} {kss:List (List Int)} {ks:List Int} {b:Addr} {Q:Bool->Shared->Prop} (hu:A.units < cLine) (S:SetT prog w s.heap a es ep t kss) (k:TK prog w s.heap ks b) (hn:kss.length + 1≤300)
  (h:∀ (h':Heap) (es':Array (Int×Value)) (ep':Nat) (t':SetTable) (kss':List (List Int)),Heap.SameBut a s.heap h'->SetT prog w h' a es' ep' t' kss'->kss'.Perm (if ks∈kss then kss else kss++[ks])->(∀ e∈es'.toList,e∈es.toList∨e.2 = .ref b)->Q (decide (ks ∉ kss)) { s with heap:=h' }) :
  wpAny (model prog w) A (setAddHashed a (.ref b) (hsT prog w ks)) Q E s:=by
 obtain ⟨o,ho,hx,hd⟩:=S.ex;have hfit:=jw S.tb.g;have hlen:es.size=kss.length:=by rw [← S.el.len,AZ]
 unfold setAddHashed;refine An ?_;rw [setAddHashedIn.eq_def];refine AA (Bb ho hd hfit ?_);dsimp only;rw [AK (by unfold byScan;exact fun q=>Bool.noConfusion (show false=true from q))]
 refine AA (qFz (adding:=true) hu S k (fun q oi _ => ?_) fun q k0 hk hb => ?_)
 ·dsimp only;refine AB ?_
  have:=h s.heap es ep t kss ⟨rfl,fun _ _=>rfl⟩ S (by rw [AF q]) (fun e he => .inl he)
  rw [Ae (not_not_intro q)] at this;exact this
 ·dsimp only;refine AA (Bb ho hd hfit ?_);dsimp only;have hne:∀ ks' c,TK prog w s.heap ks' c->c≠a:=fun ks' c kc z=>by subst z;obtain ⟨o',_,_,g1,g2,g3,_⟩:=kc;rw [ho] at g1;cases g1;rw [hd] at g3;cases g3
  obtain ⟨T1,R1,P1⟩:=qGu (x:=Value.ref b) S.tb.g (qBH S.tb.lv) S.tb.r (qGR k0) hk hb;generalize ht:t.put (sq t.mask (hsT prog w ks) k0).j=tp at T1 R1 P1 ⊢;obtain ⟨t1,p1⟩:=tp;dsimp only at T1 R1 P1 ⊢;have hm1:t1.mask=t.mask:=by have:=CP (fun x=>x.1.mask) ht;exact this.symm
  have hl1:t1.led=t.led:=by have:=CP (fun x=>x.1.led) ht;exact this.symm
  have hp1:t1.plain=t.plain:=by have:=CP (fun x=>x.1.plain) ht;exact this.symm
  rw [AF (hp1.trans S.tb.pl)];refine AA (hbv k ?_);rw [AF rfl];have hsz1:(SetTable.insertAt es p1 (hsT prog w ks,Value.ref b)).size=es.size + 1:=by
   have:=P1.length_eq
   simpa using this
  refine AA (wpAny_storeSet_of ho hd ?_ (by rw [hsz1];exact Aa (show es.size + 1≤300 by omega) (by decide)))
  obtain ⟨oc,od,odt,osl⟩:=o;have hd:odt=Data.set es ep t:=hd;subst hd;have hu1:(s.heap.update a (Obj.putSet (SetTable.insertAt es p1 (hsT prog w ks,.ref b)) t1)).get? a=some ⟨oc,od,Data.set (SetTable.insertAt es p1 (hsT prog w ks,.ref b)) (ep + 1) t1,osl⟩:=by rw [BG _ ho rfl];rfl
  have hsb:Heap.SameBut a s.heap (s.heap.update a (Obj.putSet (SetTable.insertAt es p1 (hsT prog w ks,.ref b)) t1)):=⟨CB ..,fun c hc=>Heap.get?_update_ne _ _ _ _ hc⟩;generalize s.heap.update a (Obj.putSet (SetTable.insertAt es p1 (hsT prog w ks,.ref b)) t1)=h1 at hu1 hsb ⊢;have keep:∀ c ks',TK prog w s.heap ks' c->TK prog w h1 ks' c:=fun c ks' kc=>kc.keep fun o' ho'=>(hsb.2 c (hne ks' c kc)).trans ho';have E1:EsT prog w h1 ((hsT prog w ks,Value.ref b)::es.toList) (ks::kss) := .cons (keep _ _ k) (S.el.keep keep);obtain ⟨kss1,q1,E2⟩:=E1.perm P1.symm;have nd1:kss1.Nodup:=q1.nodup_iff.mp (BE.mpr ⟨q,S.nd⟩);have qp:kss1.Perm (if ks∈kss then kss else kss++[ks]):=by rw [AK q];exact q1.symm.trans (List.perm_append_comm (l₁:=[ks]) (l₂:=kss))
  have hfull:t1.tooFull=decide ((es.size + 1) * 5 ≥ t.mask * 3):=by unfold SetTable.tooFull SetTable.fill;rw [T1.dum,T1.sz,hm1];rfl
  rw [hfull];have fresh1:∀ e∈(SetTable.insertAt es p1 (hsT prog w ks,Value.ref b)).toList,e∈es.toList∨e.2 = .ref b:=fun e he=>by
   rcases AJ.mp (P1.mem_iff.mp he) with z |z
   ·exact .inr (by rw [z])
   ·exact .inl z
  have fin:∀ (h2:Heap),(∀ es' ep' t' kss',Heap.SameBut a s.heap h2->SetT prog w h2 a es' ep' t' kss'->kss'.Perm (if ks∈kss then kss else kss++[ks])->(∀ e∈es'.toList,e∈es.toList∨e.2 = .ref b)->Q true { s with heap:=h2 }):=fun h2 es' ep' t' kss' a1 a2 a3 a4=>by
   have:=h h2 es' ep' t' kss' a1 a2 a3 a4
   rw [AR q] at this;exact this
  by_cases hf:(es.size + 1) * 5 ≥ t.mask * 3
  ·rw [AR hf];simp only [Bool.not_false,Bool.and_self,CJ];obtain ⟨L1,L2⟩:=qFI S.tb.lv (by omega) hf
   unfold setRelay;refine AA ?_;refine AA (Bb (s:={ s with heap:=h1 }) hu1 rfl (by rw [hsz1];exact jw T1) ?_)
   dsimp only;rw [AK (by rw [Bq];omega)]
   obtain ⟨t2,order,e2,m2,l2,p2,P2,T2,R2⟩:=yg (finger:=t1.finger) (moves:=t1.movedTo (SetTable.sizeAbove (SetTable.grown (es.size + 1)) - 1)) (led:=t1.led) (plain:=t1.plain) L1.cyc (es:=SetTable.insertAt es p1 (hsT prog w ks,Value.ref b)) (by rw [hsz1];have:=qBH L1;omega)
   have e2:t1.relaid ((SetTable.insertAt es p1 (hsT prog w ks,Value.ref b)).map (·.1)) (SetTable.grown (es.size + 1))=some (t2,order):=e2;rw [e2];have hsz2:(order.filterMap ((SetTable.insertAt es p1 (hsT prog w ks,Value.ref b))[·]?)).size=es.size + 1:=by
    have:=P2.length_eq
    rw [AZ,AZ,hsz1] at this;exact this
   refine AA (Ao (a:=(order.filterMap ((SetTable.insertAt es p1 (hsT prog w ks,Value.ref b))[·]?),t2)) ?_ ?_)
   ·show (if ((order.filterMap ((SetTable.insertAt es p1 (hsT prog w ks,Value.ref b))[·]?)).size != (SetTable.insertAt es p1 (hsT prog w ks,Value.ref b)).size)=true then _ else pure _)=pure _;rw [AK (by rw [hsz2,hsz1];simp)]
   ·dsimp only;refine wpAny_storeSet_of (s:={ s with heap:=h1 }) hu1 rfl ?_ (by rw [hsz2];exact Aa (show es.size + 1≤300 by omega) (by decide))
    have hu2:(h1.update a (Obj.putSet (order.filterMap ((SetTable.insertAt es p1 (hsT prog w ks,Value.ref b))[·]?)) t2)).get? a=some ⟨oc,od,Data.set (order.filterMap ((SetTable.insertAt es p1 (hsT prog w ks,Value.ref b))[·]?)) (ep + 1 + 1) t2,osl⟩:=by rw [BG _ hu1 rfl];rfl
    have hsb2:Heap.SameBut a h1 (h1.update a (Obj.putSet (order.filterMap ((SetTable.insertAt es p1 (hsT prog w ks,Value.ref b))[·]?)) t2)):=⟨CB ..,fun c hc=>Heap.get?_update_ne _ _ _ _ hc⟩;refine AB ?_;generalize h1.update a (Obj.putSet (order.filterMap ((SetTable.insertAt es p1 (hsT prog w ks,Value.ref b))[·]?)) t2)=h2 at hu2 hsb2 ⊢;obtain ⟨kss2,q2,E3⟩:=E2.perm P2.symm;have E4:EsT prog w h2 (order.filterMap ((SetTable.insertAt es p1 (hsT prog w ks,Value.ref b))[·]?)).toList kss2:=E3.keep fun c ks' kc=>kc.keep fun o' ho'=>(hsb2.2 c (fun z=>by
     subst z;obtain ⟨o',_,_,g1,g2,g3,_⟩:=kc;rw [hu1] at g1;cases g1;cases g3)).trans ho'
    refine fin h2 _ _ _ kss2 ⟨hsb2.1.trans hsb.1,fun c hc=>(hsb2.2 c hc).trans (hsb.2 c hc)⟩ ⟨⟨_,hu2,hx,rfl⟩,E4,q2.nodup_iff.mp nd1,⟨?_,R2,?_,?_,?_⟩⟩ (q2.symm.trans qp) (fun e he=>fresh1 e (P2.mem_iff.mp he))
    ·rw [hsz2,← hsz1];exact T2
    ·rw [hsz2,m2];exact L1
    ·rw [l2,hl1];exact S.tb.led
    ·rw [p2,hp1];exact S.tb.pl
  ·rw [Ae hf];simp only [Bool.not_false,Bs,Az,BU];refine AB (fin h1 _ _ _ kss1 hsb ⟨⟨_,hu1,hx,rfl⟩,E2,nd1,⟨?_,R1,?_,?_,?_⟩⟩ qp fresh1)
   ·rw [hsz1];exact T1
   ·rw [hsz1,hm1];exact qGI S.tb.lv (by omega) hf
   ·rw [hl1];exact S.tb.led
   ·rw [hp1];exact S.tb.pl
end
end ET
end
section
namespace ET
open PySem PySem.Spec PyProof.Rows L2 EX PySem.W
section
variable {O:KeyOrd} {key:Nat->O.α} {n:Nat}
def kOk (key:Nat->O.α) (n:Nat) {α:Type}:KasT α->(α->Prop)->Prop
 | .ret a,P=>P a
 | .ask i j k,P=>i < n∧j < n∧kOk key n (k (O.blt (key i) (key j))) P
theorem zB {α β:Type} {f:α->KasT β} {P:β->Prop}:∀ {t:KasT α},kOk key n t (fun a=>kOk key n (f a) P)->kOk key n (t.bind f) P
 | .ret a,h=>h
 | .ask i j k,h=>⟨h.1,h.2.1,zB h.2.2⟩
theorem JZ {α:Type} {cmp:Nat->Nat->(Bool->Shared->Prop)->Shared->Prop} {s:Shared} (hc:∀ i j C,i < n->j < n->C (O.blt (key i) (key j)) s->cmp i j C s) {P:α->Prop} {Q:α->Shared->Prop} (hq:∀ a,P a->Q a s):∀ (t:KasT α),kOk key n t P->t.kasWp cmp Q s
 | .ret a,h=>hq a h
 | .ask i j k,h=>hc i j _ h.1 h.2.1 (JZ hc hq _ h.2.2)
structure PB (n:Nat) (p:Array Nat):Prop where
 perm:p.Perm (List.range n).toArray
theorem PB.size {p:Array Nat} (h:PB n p):p.size=n:=by
 have:=h.perm.size_eq;simpa using this
theorem PB.lt {p:Array Nat} (h:PB n p) {k:Nat} (hk:k < n):p.getD k 0 < n:=by
 have hs:=h.size;rw [AN,AO (by omega)]
 have:p[k]∈(List.range n).toArray.toList:=(Array.perm_iff_toList_perm.mp h.perm).mem_iff.mp (by simp)
 simpa using this
def kq (key:Nat->O.α) (p:Array Nat) (k:Nat):O.α:=key (p.getD k 0)
def Srt (key:Nat->O.α) (p:Array Nat) (k:Nat):Prop := ∀ i j,i≤j->j < k->O.kle (kq key p i) (kq key p j)
def Nin (key:Nat->O.α) (p:Array Nat) (k:Nat):Prop := ∀ i j,i≤j->j < k->O.kle (kq key p j) (kq key p i)
theorem Z6 {p:Array Nat} {i j:Nat} (hj:j≤p.size) (k:Nat):kq key (kas_rev p i j) k=if i≤k∧k < j then kq key p (i + j - 1 - k) else kq key p k:=by
 have e:=getElem?_mirror_all (i:=i) hj k;unfold kq kas_rev;rw [AN,e];split
 ·rw [AN]
 ·rw [AN]
theorem w6 {p:Array Nat} {i j:Nat} (hj:j≤p.size) (heq:∀ k,i≤k->k < j->kq key p k=kq key p (j - 1)) (k:Nat):kq key (kas_rev p i j) k=kq key p k:=by
 rw [Z6 hj];split
 ·rw [heq _ (by omega) (by omega),heq k (by omega) (by omega)]
 ·rfl
theorem jF {p:Array Nat} {src d:Nat} (hs:src < p.size) (hd:d≤src) (k:Nat):kq key (bubble p src d) k=if k=src - d then kq key p src else if src - d < k∧k≤src then kq key p (k - 1) else kq key p k:=by
 have e:=getElem?_bubble hs d hd k;unfold kq;rw [AN,AN,AN,AN,e];split
 ·rfl
 ·split <;> rfl
theorem PB.rev {p:Array Nat} (h:PB n p) (i j:Nat):PB n (kas_rev p i j):=⟨(mirror_perm _ _ _ _).trans h.perm⟩
theorem qAn {p:Array Nat} (B:PB n p) {nrem:Nat} (hn:nrem≤n) {P:Nat->Prop} (h:∀ m,1≤m->m≤nrem->Srt key p m->(m=nrem∨O.klt (kq key p m) (kq key p (m - 1)))->P m):∀ (f a:Nat),1≤a->a + f=nrem->Srt key p a->kOk key n (kas_asc p f a) P
 |0,a,h1,h2,hs=>h a h1 (by omega) hs (.inl (by omega))
 |f + 1,a,h1,h2,hs=>by
  refine ⟨B.lt (by omega),B.lt (by omega),?_⟩
  show kOk key n (if O.blt (kq key p a) (kq key p (a - 1))=true then .ret a else kas_asc p f (a + 1)) P;cases hl:O.blt (kq key p a) (kq key p (a - 1)) with
  |true=>rw [AF rfl];exact h a h1 (by omega) hs (.inr hl)
  |false =>
   rw [AK (by simp)]
   refine qAn B hn h f (a + 1) (by omega) (by omega) fun i j hij hj => ?_
   by_cases hja:j < a
   ·exact hs i j hij hja
   ·have:j=a:=by omega
    subst this;by_cases hi':i=j
    ·subst hi';exact BR _
    ·exact CC (hs i (j - 1) (by omega) (by omega)) hl
theorem JY {p:Array Nat} (B:PB n p) {nrem m:Nat} (hn:nrem≤n) (h1:1≤m) (hm:m≤nrem) (hs:Nin key p m) {P:Nat×Array Nat->Prop} (h:∀ m' p',PB n p'->1≤m'->m'≤nrem->Srt key p' m'->P (m',p')):kOk key n (kas_tail3 m nrem p) P:=by
 unfold kas_tail3;have hsz:m≤p.size:=by rw [B.size];omega
 refine zB (qAn (B.rev 0 m) hn (fun m' a b c _=>h m' _ (B.rev 0 m) a b c) _ _ h1 (by omega) fun i j hij hj => ?_)
 rw [Z6 hsz,Z6 hsz,AF (by omega),AF (by omega)]
 exact hs _ _ (by omega) (by omega)
theorem yk {nrem:Nat} (hn:nrem≤n) {P:Array Nat×Nat×Nat->Prop}
  (h:∀ m neq p',PB n p'->1≤m->m≤nrem->Nin key p' m->neq + 1≤m->(∀ i,m - (neq + 1)≤i->i < m->kq key p' i=kq key p' (m - 1))->P (p',m,neq)) :
  ∀ (f:Nat) (p:Array Nat) (x neq:Nat),PB n p->1≤x->x + f=nrem->Nin key p x->neq + 1≤x->(∀ i,x - (neq + 1)≤i->i < x->kq key p i=kq key p (x - 1))->kOk key n (kas_desc f p x neq) P
 |0,p,x,neq,B,h1,h2,hs,hq,he=>h x neq p B h1 (by omega) hs hq he
 |f + 1,p,x,neq,B,h1,h2,hs,hq,he=>by
  have hsz:x≤p.size:=by rw [B.size];omega
  refine ⟨B.lt (by omega),B.lt (by omega),?_⟩
  show kOk key n (if O.blt (kq key p x) (kq key p (x - 1))=true then (if neq > 0 then kas_desc f (kas_rev p (x - (neq + 1)) x) (x + 1) 0 else kas_desc f p (x + 1) 0) else .ask (p.getD (x - 1) 0) (p.getD x 0) fun d=>if d=true then .ret (p,x,neq) else kas_desc f p (x + 1) (neq + 1)) P;cases hl:O.blt (kq key p x) (kq key p (x - 1)) with
  |true =>
   rw [AF rfl];have step1:∀ p':Array Nat,(∀ k,kq key p' k=kq key p k)->Nin key p' (x + 1):=by
    intro p' hk i j hij hj;rw [hk,hk];by_cases hjx:j < x
    ·exact hs i j hij hjx
    ·have hj':j=x:=by omega
     subst hj';by_cases hi':i=j
     ·subst hi';exact BR _
     ·exact CC (B3 hl) (hs i (j - 1) (by omega) (by omega))
   by_cases hneq:neq > 0
   ·rw [AF hneq];exact yk hn h f _ _ _ (B.rev _ _) (by omega) (by omega) (step1 _ (w6 hsz he)) (by omega) fun i h1 h2=>by congr 1;omega
   ·rw [AK hneq];exact yk hn h f _ _ _ B (by omega) (by omega) (step1 _ fun _=>rfl) (by omega) fun i h1 h2=>by congr 1;omega
  |false =>
   rw [AK (by simp)]
   refine ⟨B.lt (by omega),B.lt (by omega),?_⟩
   show kOk key n (if O.blt (kq key p (x - 1)) (kq key p x)=true then .ret (p,x,neq) else kas_desc f p (x + 1) (neq + 1)) P;cases hg:O.blt (kq key p (x - 1)) (kq key p x) with
   |true=>rw [AF rfl];exact h x neq p B h1 (by omega) hs hq he
   |false =>
    rw [AK (by simp)]
    have heqx:kq key p x=kq key p (x - 1):=KeyOrd.kle_antisymm hg hl;refine yk hn h f _ _ _ B (by omega) (by omega) (fun i j hij hj => ?_) (by omega) fun i h1 h2 => ?_
    ·by_cases hjx:j < x
     ·exact hs i j hij hjx
     ·have hj':j=x:=by omega
      subst hj';by_cases hi':i=j
      ·subst hi';exact BR _
      ·rw [heqx];exact hs i (j - 1) (by omega) (by omega)
    ·rw [show x + 1 - 1=x by omega]
     by_cases hix:i=x
     ·subst hix;rfl
     ·rw [heqx];exact he i (by omega) (by omega)
theorem yI {p:Array Nat} (B:PB n p) {nrem m:Nat} (hn:nrem≤n) (hm:m + 1≤nrem) (hs:Nin key p (m + 1)) {P:Nat×Array Nat->Prop} (h:∀ m' p',PB n p'->1≤m'->m'≤nrem->Srt key p' m'->P (m',p')):kOk key n (kas_descPart m nrem p) P:=by
 unfold kas_descPart;refine zB (yk hn (fun m' neq p' B' a1 a2 hs' hq he => ?_) _ _ _ _ B (by omega) (by omega) hs (by omega) fun i h1 h2=>by congr 1;omega)
 dsimp only;have hsz:m'≤p'.size:=by rw [B'.size];omega
 by_cases hneq:neq > 0
 ·rw [AF hneq];refine JY (B'.rev _ _) hn a1 a2 (fun i j hij hj => ?_) h;rw [w6 hsz he,w6 hsz he];exact hs' i j hij hj
 ·rw [AK hneq];exact JY B' hn a1 a2 hs' h
theorem qEC {p:Array Nat} (B:PB n p) (h1:1≤n) {P:Nat×Array Nat->Prop} (h:∀ m' p',PB n p'->1≤m'->m'≤n->Srt key p' m'->P (m',p')):kOk key n (kas_count n p) P:=by
 unfold kas_count;refine zB (qAn B (AG n) (fun m hm1 hm2 hsn hor => ?_) _ _ (AG 1) (by omega) fun i j hij hj=>by have:i=j:=(by omega);subst this;exact BR _)
 by_cases hnn:m=n
 ·rw [AF (by simpa using hnn)]
  exact h m p B hm1 hm2 hsn
 ·rw [AK (by simpa using hnn)]
  have hlt:O.klt (kq key p m) (kq key p (m - 1)):=hor.resolve_left hnn;have hsz:m≤p.size:=by rw [B.size];omega
  by_cases hgt:m > 1
  ·rw [AF hgt];refine ⟨B.lt (by omega),B.lt (by omega),?_⟩
   show kOk key n (if O.blt (kq key p 0) (kq key p (m - 1))=true then .ret (m,p) else kas_descPart m n (kas_rev p 0 m)) P;cases hrose:O.blt (kq key p 0) (kq key p (m - 1)) with
   |true=>rw [AF rfl];exact h m p B hm1 hm2 hsn
   |false =>
    rw [AK (by simp)]
    have hall:∀ k,0≤k->k < m->kq key p k=kq key p (m - 1):=by
     intro k _ hk;have a1:=hsn 0 k (by omega) hk
     have a2:=hsn k (m - 1) (by omega) (by omega)
     exact KeyOrd.kle_antisymm a2 (CC hrose a1)
    refine yI (B.rev _ _) (AG n) (by omega) (fun i j hij hj => ?_) h
    rw [w6 hsz hall,w6 hsz hall];by_cases hjn:j < m
    ·rw [hall i (by omega) (by omega),hall j (by omega) hjn];exact BR _
    ·have hj':j=m:=by omega
     subst hj';by_cases hi':i=j
     ·subst hi';exact BR _
     ·rw [hall i (by omega) (by omega)];exact B3 hlt
  ·rw [AK hgt];have hn1':m=1:=by omega
   subst hn1';refine yI B (AG n) (by omega) (fun i j hij hj => ?_) h
   by_cases hi':i=j
   ·subst hi';exact BR _
   ·have hi0:i=0:=by omega
    have hj1:j=1:=by omega
    subst hi0;subst hj1;exact B3 hlt
theorem Yk {p:Array Nat} (B:PB n p) {k:Nat} (hk:k < n) (hs:Srt key p k) {P:Nat->Prop} (h:∀ l,l≤k->(∀ i,i < l->O.kle (kq key p i) (kq key p k))->(∀ i,l≤i->i < k->O.klt (kq key p k) (kq key p i))->P l) :
  ∀ (f l r:Nat),l≤r->r≤k->r - l≤f->(∀ i,i < l->O.kle (kq key p i) (kq key p k))->(∀ i,r≤i->i < k->O.klt (kq key p k) (kq key p i))->kOk key n (kas_place p k f l r) P
 |0,l,r,h1,h2,h3,h4,h5=>by
  have:l=r:=by omega
  subst this;exact h l h2 h4 h5
 |f + 1,l,r,h1,h2,h3,h4,h5=>by
  unfold kas_place;by_cases hge:l ≥ r
  ·rw [AF hge]
   have:l=r:=by omega
   subst this;exact h l h2 h4 h5
  ·rw [AK hge];refine ⟨B.lt hk,B.lt (by omega),?_⟩
   show kOk key n (if O.blt (kq key p k) (kq key p ((l + r) / 2))=true then kas_place p k f l ((l + r) / 2) else kas_place p k f ((l + r) / 2 + 1) r) P;cases hless:O.blt (kq key p k) (kq key p ((l + r) / 2)) with
   |true =>rw [AF rfl];exact Yk B hk hs h f _ _ (by omega) (by omega) (by omega) h4 fun i a b=>KeyOrd.klt_of_klt_of_kle hless (hs _ _ a b)
   |false =>
    rw [AK (by simp)]
    exact Yk B hk hs h f _ _ (by omega) (by omega) (by omega) (fun i a=>CC (hs i ((l + r) / 2) (by omega) (by omega)) (show O.kle _ _ from hless)) h5
theorem ja {P:Array Nat->Prop} (h:∀ p,PB n p->Srt key p n->P p):∀ (f:Nat) (p:Array Nat) (k:Nat),PB n p->k + f=n->Srt key p k->kOk key n (kas_bin f p k) P
 |0,p,k,B,h1,hs=>h p B (by
  have:k=n:=by omega
  subst this;exact hs)
 |f + 1,p,k,B,h1,hs=>by
  unfold kas_bin;refine zB (Yk B (by omega) hs (fun l hlk hlo hhi => ?_) k 0 k (by omega) (AG _) (by omega) (fun i hi=>absurd hi (A8 _)) fun i a b=>absurd b (by omega))
  refine ja h f _ (k + 1) ⟨(bubble_perm _ _ _).trans B.perm⟩ (by omega) fun i j hij hj => ?_
  have hks:k < p.size:=by rw [B.size];omega
  rw [jF hks (by omega),jF hks (by omega),show k - (k - l)=l by omega]
  repeat' split
  all_goals first
   |(exfalso;omega)
   |exact BR _
   |exact hlo _ (by omega)
   |exact B3 (hhi _ (by omega) (by omega))
   |exact hs _ _ (by omega) (by omega)
theorem qF5 (h1:1≤n):kOk key n (kas_sort n) fun p=>PB n p∧Srt key p n:=by
 unfold kas_sort;refine zB (qEC ⟨Array.Perm.refl _⟩ h1 fun m p B a b hs => ?_);dsimp only;by_cases hlt:m < n
 ·rw [AF hlt,show max m 1=m by omega]
  exact ja (fun p B hs=>⟨B,hs⟩) _ _ _ B (by omega) hs
 ·rw [AK hlt]
  have:m=n:=by omega
  subst this;exact ⟨B,hs⟩
end
section
variable {prog:Program} {w:World} {A:Around} {E:Value->Shared->Prop} {s:Shared} {O:KeyOrd}
theorem qCU {vs:List Value} (hsz:vs.toArray.size=vs.length) (h2:vs.toArray.size < 2):List.toArray ((List.range vs.length).toArray.toList.map fun i=>vs.getD i Value.none)=(vs.toArray.zip vs.toArray).map (·.2):=by
 match vs,hsz,h2 with
 |[],_,_=>simp
 |[v],_,_=>simp
 |v₁::v₂::rest,hsz,h2=>rw [hsz,AH,AH] at h2;omega
theorem qFy {a:Addr} {vs:List Value} {n:Nat} {P:PySem.Fin->Shared->Prop} {key:Nat->O.α} {κ:SortKind} (ho:s.heap.get? a=some (seqObj "list" vs.toArray n)) (h64:vs.length < 64)
  (hk:2≤vs.length -> ∀ (h6:Heap) (Q:SortKind->Shared->Prop),(∀ b o,b≠a->s.heap.get? b=some o->h6.get? b=some o)->Q κ { s with heap:=h6 }->wpAny (model prog w) A (keyKind' vs.toArray) Q E { s with heap:=h6 })
  (hc:∀ (h6:Heap) (i j:Nat) (C:Bool->Shared->Prop),(∀ b o,b≠a->s.heap.get? b=some o->h6.get? b=some o)->i < vs.length->j < vs.length->C (O.blt (key i) (key j)) { s with heap:=h6 }->wpAny (model prog w) A (keyLt' κ (vs.getD i Value.none) (vs.getD j Value.none)) C (fun _ _=>False) { s with heap:=h6 })
  (h:∀ p:Array Nat,PB vs.length p->Srt key p vs.length->P (.done (.ret .none)) { s with heap:=sortedHeap s.heap a vs (List.toArray (p.toList.map fun i=>vs.getD i Value.none)) }) :
  wpAny (model prog w) A (Builtin.«list.sort» ⟨[.ref a],[]⟩) P E s:=by
 rw [list_sort_plain];have ha:a < s.heap.objs.size:=AT ho;refine AA (listItems_at ho rfl ?_);refine AA (listUpdate_at ho rfl ?_);obtain ⟨e1,ho1⟩:∃ e1,(s.heap.update a (Obj.mapSeq fun _ => #[])).get? a=some (seqObj "list" #[] e1):=⟨_,get?_update_seq ho (fun _ => #[])⟩;refine AA (seqEpoch_at ho1 rfl ?_);refine AA (wpAny_newTuple ?_);refine AA (wpAny_newList ?_);refine An ?_;have ho6:(((s.heap.update a (Obj.mapSeq fun _ => #[])).push (seqObj "tuple" vs.toArray 0)).push (seqObj "list" #[] 0)).get? a=some (seqObj "list" #[] e1):=by
  rw [Heap.get?_push_ne _ _ _ (by rw [size_push',CB];exact Ac (BJ ha)),Heap.get?_push_ne _ _ _ (by rw [CB];exact Ac ha)]
  exact ho1
 have keep:∀ b o,b≠a->s.heap.get? b=some o->(((s.heap.update a (Obj.mapSeq fun _ => #[])).push (seqObj "tuple" vs.toArray 0)).push (seqObj "list" #[] 0)).get? b=some o:=fun b o hb q =>
  AD _ (AD _ ((Ak _ _ (Ne.symm hb)).trans q))
 show wpAny (model prog w) A _ P E { s with heap:=((s.heap.update a (Obj.mapSeq fun _ => #[])).push (seqObj "tuple" vs.toArray 0)).push (seqObj "list" #[] 0) };dsimp only;have hsz:vs.toArray.size=vs.length:=by simp
 by_cases h2:vs.toArray.size < 2
 ·rw [AF h2,AF h2];refine AA (AB ?_);rw [StateT.run_pure];refine AA (AB ?_);dsimp only;refine AA (seqEpoch_at ho6 rfl ?_);refine AA (listUpdate_at ho6 rfl ?_ (hsz2:=by rw [Array.size_map];show (pairsOf vs).size≤_;rw [pairsOf_size,Bq];omega))
  simp only [bne_self_eq_false,Az,BU];refine AB ?_
  have:=h (List.range vs.length).toArray ⟨Array.Perm.refl _⟩ fun i j hij hj=>by
   have:i=j:=by omega
   subst this;exact BR _
  have e:List.toArray ((List.range vs.length).toArray.toList.map fun i=>vs.getD i Value.none)=(arrOf (SortSt.mk' general' (vs.toArray.zip vs.toArray) #[] 7 none)).map (·.2):=qCU hsz h2;rw [e] at this;exact this
 ·rw [AK h2,AK h2];have h2':2≤vs.length:=by omega
  refine AA (hk h2' _ _ keep ?_);have hw:(kas_sort vs.length).kasWp (kas_ask prog w A κ vs) (fun p s'=>s'={ s with heap:=((s.heap.update a (Obj.mapSeq fun _ => #[])).push (seqObj "tuple" vs.toArray 0)).push (seqObj "list" #[] 0) }∧PB vs.length p∧Srt key p vs.length) { s with heap:=((s.heap.update a (Obj.mapSeq fun _ => #[])).push (seqObj "tuple" vs.toArray 0)).push (seqObj "list" #[] 0) } :=
   JZ (O:=O) (key:=key) (n:=vs.length) (fun i j C hi hj hC=>hc _ i j C keep hi hj hC) (P:=fun p=>PB vs.length p∧Srt key p vs.length) (fun p hp=>⟨rfl,hp⟩) _ (qF5 (by omega))
  refine AA (BZ (kat_run (Q:=fun st' s' => ∃ p:Array Nat,p.size=vs.length∧arrOf st'=p.map (kas_item (vs.toArray.zip vs.toArray))∧failedOf st'=none∧s'={ s with heap:=((s.heap.update a (Obj.mapSeq fun _ => #[])).push (seqObj "tuple" vs.toArray 0)).push (seqObj "list" #[] 0) }∧PB vs.length p∧Srt key p vs.length)
   rfl h2' h64 (fun p' st' s' a1 a2 a3 a4=>⟨p',a1,a2,a3,a4⟩) hw) ?_ fun _ _ e=>e)
  rintro ⟨⟨⟩,st'⟩ s' ⟨p,hp,har,hf,rfl,B,S⟩
  dsimp only;have hout:=kat_snds rfl har;refine AA (seqEpoch_at ho6 rfl ?_);refine AA (listUpdate_at ho6 rfl ?_ (hsz2:=by rw [hout,AM,AC,AZ,hp,Bq];omega))
  rw [hf];simp only [bne_self_eq_false,Az,BU];rw [hout];exact AB (h p B S)
theorem JU {l:Addr} {vs:List Value} {Q:List Value->Shared->Prop} (hl:∃ o,s.heap.get? l=some o∧o.cls = .type "tuple" ∧ ∃ n,o.data = .seq vs.toArray n) (hz:vs.length≤sizeLine)
  (h:Q vs { s with heap:=(s.heap.push (seqObj "list" #[] 0)).update s.heap.objs.size (Obj.mapSeq (· ++ vs.toArray)) }):wpAny (model prog w) A (collect (.ref l)) Q E s:=by
 obtain ⟨ob,g1,g2,nn,g3⟩:=hl;unfold collect;refine AA (wpAny_runValue (BK entry_proto_collect' ?_));show wpAny _ _ (do again (.builtin "list.__iadd__" ⟨[← newList [],.ref l],[]⟩)) _ _ s;refine AA (wpAny_newList (AB ⟨Code.quiet_builtin _ (by decide +kernel),BK entry_list_iadd' ?_⟩))
 show wpAny _ _ (Builtin.List.listExtendWith (.ref s.heap.objs.size) (.ref l) (.ref s.heap.objs.size)) _ _ { s with heap:=s.heap.push (seqObj "list" #[] 0) };unfold Builtin.List.listExtendWith;have g4:(s.heap.push (seqObj "list" #[] 0)).get? l=some ob:=AD _ g1;refine AA (Ba (T := "tuple") ⟨ob,g4,g2⟩ ?_);have g5:(Value.type "tuple" == Value.type "tuple")=true:=by rfl
 rw [AF (by rw [g5];simp)]
 refine AA (listItems_at g4 g3 ?_);refine AA (listItems_at (xs := #[]) (n:=0) (AY _ rfl) rfl ?_);rw [AK (by simp)]
 refine AA (listUpdate_at (xs := #[]) (n:=0) (AY _ rfl) rfl ?_ (A3 _) (by show (#[]++vs.toArray).size≤sizeLine + 1;simp only [Array.size_append,AM,BQ];omega))
 refine AB ?_;show wpAny _ _ (load s.heap.objs.size >>= _) Q E _;refine AA (wpAny_load (get?_update_seq (AY _ rfl) _) ?_);show wpAny _ _ (pure ((#[]:Array Value)++vs.toArray).toList) Q E _;rw [show ((#[]:Array Value)++vs.toArray).toList=vs by simp]
 exact AB h
theorem qBv {l:Addr} {vs:List Value} {Q:Value->Shared->Prop} {key:Nat->O.α} {κ:SortKind} (hcol:∀ {E':Value->Shared->Prop} {Q':List Value->Shared->Prop},Q' vs { s with heap:=(s.heap.push (seqObj "list" #[] 0)).update s.heap.objs.size (Obj.mapSeq (· ++ vs.toArray)) }->wpAny (model prog w) A.in1 (collect (.ref l)) Q' E' s) (h64:vs.length < 64)
  (hk:2≤vs.length -> ∀ (A':Around) (E':Value->Shared->Prop) (h6:Heap) (Q:SortKind->Shared->Prop),(∀ b o,s.heap.get? b=some o->h6.get? b=some o)->Q κ { s with heap:=h6 }->wpAny (model prog w) A' (keyKind' vs.toArray) Q E' { s with heap:=h6 })
  (hc:∀ (h6:Heap) (i j:Nat) (C:Bool->Shared->Prop),(∀ b o,s.heap.get? b=some o->h6.get? b=some o)->i < vs.length->j < vs.length->C (O.blt (key i) (key j)) { s with heap:=h6 }->wpAny (model prog w) A.in1.in1 (keyLt' κ (vs.getD i Value.none) (vs.getD j Value.none)) C (fun _ _=>False) { s with heap:=h6 })
  (h:∀ p:Array Nat,PB vs.length p->Srt key p vs.length->Q (.ref (s.heap.objs.size + 1)) { s with heap:=sortedAll s.heap vs (List.toArray (p.toList.map fun i=>vs.getD i Value.none)) }) :
  wpAny (model prog w) A (call (.builtin "sorted") [.ref l]) Q E s:=by
 refine Calls.call_function_entry kind_sorted plain_sorted entry_sorted (args_sorted1 _) ?_;unfold Builtin.«sorted»;refine AA (m:=checkCount "sorted" 1 1 _) (AB ?_);refine AA (hcol ?_);refine AA (wpAny_newList ?_ (by rw [Bq];omega))
 have hsz:((s.heap.push (seqObj "list" #[] 0)).update s.heap.objs.size (Obj.mapSeq (· ++ vs.toArray))).objs.size=s.heap.objs.size + 1:=by rw [CB,size_push']
 have hoL:(((s.heap.push (seqObj "list" #[] 0)).update s.heap.objs.size (Obj.mapSeq (· ++ vs.toArray))).push (seqObj "list" vs.toArray 0)).get? (s.heap.objs.size + 1)=some (seqObj "list" vs.toArray 0):=by rw [← hsz];exact AY _ rfl
 have keep:∀ b o,s.heap.get? b=some o->(((s.heap.push (seqObj "list" #[] 0)).update s.heap.objs.size (Obj.mapSeq (· ++ vs.toArray))).push (seqObj "list" vs.toArray 0)).get? b=some o:=fun b o q=>by
  have hlt:b < s.heap.objs.size:=AT q;rw [Heap.get?_push_ne _ _ _ (by rw [hsz];exact Ac (BJ hlt)),Heap.get?_update_ne _ _ _ _ (Ac hlt),Heap.get?_push_ne _ _ _ (Ac hlt)]
  exact q
 show wpAny _ _ _ _ _ { s with heap:=((s.heap.push (seqObj "list" #[] 0)).update s.heap.objs.size (Obj.mapSeq (· ++ vs.toArray))).push (seqObj "list" vs.toArray 0) };rw [hsz];have hne:∀ b o,s.heap.get? b=some o->b≠s.heap.objs.size + 1:=fun b o q=>Ac (BJ (AT q));refine AA (An (Be slot_list_sort ⟨_,hoL,rfl⟩ entry_list_sort (qFy (O:=O) (key:=key) (κ:=κ) hoL h64 (fun h2 h6 Q' k q=>hk h2 _ _ h6 Q' (fun b o hb=>k b o (hne b o hb) (keep b o hb)) q) (fun h6 i j C k hi hj q=>hc h6 i j C (fun b o hb=>k b o (hne b o hb) (keep b o hb)) hi hj q) fun p a1 a2=>⟨_,rfl,?_⟩) (args_list_sort _)));exact AB ⟨_,rfl,h p a1 a2⟩
end
def lxb:List Int->List Int->Bool
 |_,[]=>false
 |[],_::_=>true
 |a::l,b::m=>if a < b then true else if b < a then false else lxb l m
theorem yd:∀ l,lxb l l=false
 |[]=>rfl
 |a::l=>by rw [lxb,AK (CI a),AK (CI a)];exact yd l
theorem qAz:∀ a b c,lxb a b=true->lxb b c=true->lxb a c=true
 |_,_,[],_,h=>by cases ‹List Int› <;> simp [lxb] at h
 |_,[],_::_,h,_=>by simp [lxb] at h
 |[],_::_,_::_,_,_=>rfl
 |x::l,y::m,z::n,h1,h2=>by
  unfold lxb at h1 h2 ⊢;by_cases hxy:x < y
  ·by_cases hyz:y < z
   ·rw [AF (by omega)]
   ·rw [AK hyz] at h2;by_cases hzy:z < y
    ·rw [AF hzy] at h2;cases h2
    ·rw [AF (by omega)]
  ·rw [AK hxy] at h1;by_cases hyx:y < x
   ·rw [AF hyx] at h1;cases h1
   ·rw [AK hyx] at h1;by_cases hyz:y < z
    ·rw [AF (by omega)]
    ·rw [AK hyz] at h2;by_cases hzy:z < y
     ·rw [AF hzy] at h2;cases h2
     ·rw [AK hzy] at h2;rw [AK (by omega),AK (by omega)]
      exact qAz l m n h1 h2
theorem yb:∀ a b,lxb a b=false->lxb b a=false->a=b
 |[],[],_,_=>rfl
 |[],_::_,h,_=>by cases h
 |_::_,[],_,h=>by cases h
 |x::l,y::m,h1,h2=>by
  unfold lxb at h1 h2;by_cases hxy:x < y
  ·rw [AF hxy] at h1;cases h1
  ·by_cases hyx:y < x
   ·rw [AF hyx] at h2;cases h2
   ·rw [AK hxy,AK hyx] at h1;rw [AK hyx,AK hxy] at h2
    have:x=y:=by omega
    rw [this,yb l m h1 h2]
def lxO:KeyOrd where
 α:=List Int
 blt:=lxb
 irrefl:=yd
 trans:=qAz
 total:=yb
 negTrans:=fun a b c h=>by
  cases h1:lxb a b with
  |true=>exact .inl rfl
  |false =>
   right;cases h2:lxb b a with
   |true=>exact qAz b a c h2 h
   |false=>rw [← yb a b h1 h2];exact h
section
variable {prog:Program} {w:World} {A:Around} {E:Value->Shared->Prop} {s:Shared}
theorem qEz (b:Bool) {x y:Int} {t u:Tok} {Q:Bool->Shared->Prop} (h:Q (decide (x < y)) s):wpAny (model prog w) A (oneLt' b (.int x t) (.int y u)) Q E s:=by
 cases b with
 |true=>exact oneLt_int h
 |false=>exact kat_one _ _ (wpAny_lt_int h)
theorem qHs {b fin:Bool} {Q:Bool->Shared->Prop} {ks:List Int} {vs:List Value} (hx:ItemsAre (intKind prog w) ks vs):∀ {ks':List Int} {us:List Value} (i:Nat),ItemsAre (intKind prog w) ks' us->decide (vs.length < us.length)=fin->Q (lxb ks ks') s->KatLex prog w A b fin Q (vs.zip us) i s:=by
 induction hx with
 |nil =>
  intro ks' us i hy hf h;refine kat_nil ?_;cases hy with
  |nil=>rw [← hf];exact h
  |cons _ _=>rw [← hf,BQ,AH,AR (Nat.succ_pos _)];exact h
 | @cons k v ks vs h1 h2 ih =>
  intro ks' us i hy hf h;cases hy with
  |nil=>refine kat_nil ?_;rw [← hf];exact h
  | @cons k' u ks' us g1 g2 =>
   rw [Aq];refine kat_cons ((intKind prog w).eqBool h1 g1 ?_);obtain ⟨n1,t1,rfl⟩:=zq (.cons h1 h2) v AL;obtain ⟨n2,t2,rfl⟩:=zq (.cons g1 g2) u AL;have e1:n1=k:=(intKind prog w).inj _ _ _ (intKind_is prog w n1 t1) h1;have e2:n2=k':=(intKind prog w).inj _ _ _ (intKind_is prog w n2 t2) g1;subst e1;subst e2;unfold lxb at h;by_cases hq:n1=n2
   ·rw [AR hq];rw [AK (by omega),AK (by omega)] at h
    exact kat_yes (ih (i + 1) g2 (by simpa using hf) h)
   ·rw [Ae hq];refine kat_no (qEz _ ?_);by_cases hl:n1 < n2
    ·rw [AF hl] at h;rw [AR hl];exact h
    ·rw [AK hl,AF (by omega)] at h;rw [Ae hl];exact h
theorem qJl {b:Bool} {ks ks':List Int} {x y:Addr} {Q:Bool->Shared->Prop} (hx:TK prog w s.heap ks x) (hy:TK prog w s.heap ks' y) (h:Q (lxb ks ks') s):wpAny (model prog w) A (keyLt' (tuples' b) (.ref x) (.ref y)) Q E s:=by obtain ⟨ox,xs,n,h1,_,h3,h4⟩:=hx;obtain ⟨oy,ys,m,g1,_,g3,g4⟩:=hy;exact kat_lt h1 h3 g1 g3 (qHs h4 0 g4 (by simp) h)
inductive TsV (prog:Program) (w:World) (h:Heap):List Value->List (List Int)->Prop
 |nil:TsV prog w h [] []
 |cons {ks:List Int} {b:Addr} {vs:List Value} {kss:List (List Int)}:TK prog w h ks b->ks≠[]->TsV prog w h vs kss->TsV prog w h (.ref b::vs) (ks::kss)
theorem TsV.len {h:Heap} {vs:List Value} {kss:List (List Int)} (e:TsV prog w h vs kss):vs.length=kss.length:=by
 induction e with
 |nil=>rfl
 |cons _ _ _ ih=>rw [AH,AH,ih]
theorem TsV.keep {h h':Heap} {vs:List Value} {kss:List (List Int)} (e:TsV prog w h vs kss) (k:∀ b o,(∃ ks,TK prog w h ks b)->h.get? b=some o->h'.get? b=some o):TsV prog w h' vs kss:=by
 induction e with
 |nil=>exact .nil
 |cons a ne _ ih=>exact .cons (a.keep fun o=>k _ o ⟨_,a⟩) ne ih
theorem TsV.get {h:Heap} {vs:List Value} {kss:List (List Int)} (e:TsV prog w h vs kss):∀ {i:Nat},i < vs.length -> ∃ b,vs.getD i Value.none = .ref b∧TK prog w h (kss.getD i []) b:=by
 induction e with
 |nil=>intro i hi;exact absurd hi (A8 _)
 | @cons ks b vs kss a _ _ ih =>
  intro i hi;cases i with
  |zero=>exact ⟨b,rfl,a⟩
  |succ i=>simpa using ih (i:=i) (by simpa using hi)
theorem TsV.kat {h:Heap} {vs:List Value} {kss:List (List Int)} (e:TsV prog w h vs kss):∃ fs:List Value,KatTups h vs fs∧fs.length=vs.length ∧ ∀ v∈fs,∃ n t,v=Value.int n t:=by
 induction e with
 |nil=>exact ⟨[],KatTups.nil,rfl,fun v hv=>(Ah hv).elim⟩
 | @cons ks b vs kss a ne _ ih =>
  obtain ⟨fs,h1,h2,h3⟩:=ih;obtain ⟨o,its,n,g1,g2,g3,g4⟩:=a;have hv:=zq g4;cases hq:its.toList with
  |nil =>rw [hq] at g4;cases g4;exact absurd rfl ne
  |cons f r =>
   have hf:its[0]? = some f:=by rw [← Av,hq];rfl
   refine ⟨f::fs,KatTups.cons g1 g2 g3 hf h1,by rw [AH,AH,h2],fun v hv' => ?_⟩
   rcases AJ.mp hv' with q |q
   ·rw [q];exact hv f (by rw [hq];exact AL)
   ·exact h3 v q
theorem qHX {vs:List Value} {kss:List (List Int)} {Q:SortKind->Shared->Prop} (e:TsV prog w s.heap vs kss) (h2:2≤vs.length) (h:Q (tuples' true) s):wpAny (model prog w) A (keyKind' vs.toArray) Q E s:=by
 obtain ⟨fs,h1,h3,h4⟩:=e.kat;refine kat_kind (T := .type "int") h1 (by omega) (fun v hv => ?_) (by decide) ?_
 ·obtain ⟨n,t,rfl⟩:=h4 v hv;exact .now
 ·rw [show (Value.type "int" != Value.type "tuple")=true by decide];exact h
def srt (kss:List (List Int)):List (List Int):=kss.mergeSort fun a b => !lxb b a
theorem WV (kss:List (List Int)):(srt kss).Perm kss:=List.mergeSort_perm _ _
theorem qET (kss:List (List Int)):(srt kss).Pairwise fun a b=>lxb b a=false:=by
 have:=List.pairwise_mergeSort (le:=fun a b:List Int => !lxb b a) (fun a b c h1 h2=>by
  simp only [Bool.not_eq_eq_eq_not,Bool.not_true] at h1 h2 ⊢;exact CC (O:=lxO) h1 h2) (fun a b=>by
  cases h:lxb b a with
  |false=>simp
  |true =>
   have:lxb a b=false:=B3 (O:=lxO) (a:=b) (b:=a) h
   simp [this]) kss
 exact this.imp fun h=>by simpa using h
theorem qGL:∀ {l m:List (List Int)},l.Pairwise (fun a b=>lxb b a=false)->m.Pairwise (fun a b=>lxb b a=false)->l.Perm m->l=m
 |[],m,_,_,p=>(List.Perm.eq_nil p.symm).symm
 |x::l,[],_,_,p=>by have:=p.length_eq;simp at this
 |x::l,y::m,hl,hm,p=>by
  have hx:x∈y::m:=p.mem_iff.mp AL;have hy:y∈x::l:=p.mem_iff.mpr AL;have e:x=y:=by
   have h1:lxb y x=false:=by
    rcases AJ.mp hy with q |q
    ·rw [q];exact yd _
    ·exact (B1.mp hl).1 y q
   have h2:lxb x y=false:=by
    rcases AJ.mp hx with q |q
    ·rw [q];exact yd _
    ·exact (B1.mp hm).1 x q
   exact yb _ _ h2 h1
  subst e;rw [qGL (B1.mp hl).2 (B1.mp hm).2 (List.Perm.cons_inv p)]
theorem qIq {h:Heap} {vs:List Value} {kss:List (List Int)} (e:TsV prog w h vs kss) {p:Array Nat} (B:PB vs.length p) (S:Srt (O:=lxO) (fun i=>kss.getD i []) p vs.length):p.toList.map (fun i=>kss.getD i [])=srt kss:=by
 have hsz:=B.size;refine qGL ?_ (qET kss) ?_
 ·rw [List.pairwise_map,Bo];intro i j hi hj hij
  have:=S i j (by omega) (by rw [AZ] at hj;omega)
  unfold kq at this;rw [AN,AN,AO (by simpa using hi),AO (by simpa using hj)] at this
  exact this
 ·refine ((Array.perm_iff_toList_perm.mp B.perm).map _).trans (.trans ?_ (WV kss).symm)
  have:(List.range vs.length).map (fun i=>kss.getD i [])=kss:=by
   rw [e.len];refine List.ext_getElem (by simp) fun i h1 h2 => ?_
   simp [Ab,AI h2]
  show ((List.range vs.length).map fun i=>kss.getD i []).Perm kss;rw [this]
end
end ET
end
section
namespace ET
open PySem PySem.Spec PyProof.Rows L2
open EX
def Ys (acc:List (List Int)) (k:List Int):List (List Int):=if k∈acc then acc else acc++[k]
def ddT (kss:List (List Int)):List (List Int):=kss.foldl Ys []
theorem qDP {kss:List (List Int)} {i:Nat} (h:i < kss.length):ddT (kss.take (i + 1))=Ys (ddT (kss.take i)) (kss.getD i []):=by unfold ddT;rw [List.take_succ_eq_append_getElem h,List.foldl_append,Ab,AI h];rfl
theorem qB2 {a b:List (List Int)} {k:List Int} (h:a.Perm b):(if k∈a then a else a++[k]).Perm (Ys b k):=by
 unfold Ys;by_cases q:k∈a
 ·rw [AF q,AF (h.mem_iff.mp q)];exact h
 ·rw [AK q,AK (fun z=>q (h.mem_iff.mpr z))];exact h.append_right _
theorem yZ:∀ (kss acc:List (List Int)),(kss.foldl Ys acc).length≤acc.length + kss.length
 |[],acc=>AG _
 |k::vs,acc=>by
  rw [List.foldl_cons,AH];have h:=yZ vs (Ys acc k)
  have:(Ys acc k).length≤acc.length + 1:=by
   unfold Ys;split
   ·omega
   ·rw [AQ];exact AG _
  omega
section
variable {prog:Program} {w:World} {A:Around} {E:Value->Shared->Prop} {R:Result->Shared->Prop}
theorem SetT.same {h h':Heap} {a:Addr} {es:Array (Int×Value)} {ep:Nat} {t:SetTable} {kss:List (List Int)} (S:SetT prog w h a es ep t kss) (e:∀ b o,(b=a ∨ ∃ ks,TK prog w h ks b)->h.get? b=some o->h'.get? b=some o):SetT prog w h' a es ep t kss:=by obtain ⟨⟨o,h1,h2⟩,el,nd,tb⟩:=S;exact ⟨⟨o,e a o (.inl rfl) h1,h2⟩,el.keep fun b ks k=>k.keep fun o' ho'=>e b o' (.inr ⟨ks,k⟩) ho',nd,tb⟩
theorem qA0 {h:Heap} {b:Addr} {o:Obj} (ho:h.get? b=some o) (hc:o.cls ≠ .type "tuple"):∀ ks,¬ TK prog w h ks b:=fun ks ⟨o',_,_,h1,h2,_⟩=>by rw [ho] at h1;cases h1;exact hc h2
theorem SetT.not {h:Heap} {a:Addr} {es:Array (Int×Value)} {ep:Nat} {t:SetTable} {kss:List (List Int)} (S:SetT prog w h a es ep t kss) (ks:List Int):¬ TK prog w h ks a:=by obtain ⟨o,ho,hx,_⟩:=S.ex;exact qA0 ho (by rw [hx.1];decide) ks
theorem Jg {I:Addr} {fp wr:List Addr} {n:Nat} {P:Nat->Value->Prop} {St:Nat->Heap->Prop} (W:Walks prog w A.in1 I fp wr n P St) (hwr:∀ i h,St i h -> ∀ b∈wr,∀ ks,¬ TK prog w h ks b) (hu:A.in1.units < cLine) {Sa:Addr} (hS:Sa ∉ fp) {its:List Value} {kss:List (List Int)} (hn:its.length=n) (h3:n≤299) (hv:∀ i v,P i v->its[i]? = some v) :
  ∀ (k i:Nat) (s:Shared) (es:Array (Int×Value)) (ep:Nat) (t:SetTable) (ks1:List (List Int)),n - i=k->i≤n->St i s.heap->TsV prog w s.heap its kss->SetT prog w s.heap Sa es ep t ks1->(∀ e∈es.toList,e.2∈its)->ks1.Perm (ddT (kss.take i)) ->
   (∀ (h':Heap) (tk:Nat) (es':Array (Int×Value)) (ep':Nat) (t':SetTable) (ks':List (List Int)),(∀ b o,b ∉ Sa::wr->s.heap.get? b=some o->h'.get? b=some o)->SetT prog w h' Sa es' ep' t' ks'->ks'.Perm (ddT kss)->(∀ e∈es'.toList,e.2∈its)->R (.ok (.ret .none)) { s with heap:=h',toks:=tk }) ->
   codeAny (model prog w) A (.builtin "set.update.loop" ⟨[.ref Sa,.ref I],[]⟩) R s:=by
 intro k;induction k with
 |zero =>
  intro i s es ep t ks1 hk hi hSt V S hE hp h
  have:i=n:=by omega
  subst this;refine BK F.entry_set_update_loop ?_;rw [Bp F.plain_set_update_loop];unfold Builtin.«set.update.loop»;refine AA (W.done _ _ _ hSt fun h' tk hk' => ?_);dsimp only;refine AB ?_;refine h h' tk es ep t ks1 (fun b o hb'=>hk' b o fun q=>hb' (AE _ q)) (S.same fun b o hb=>hk' b o fun q=>hb.elim (fun z=>hS (W.sub _ (by rw [← z];exact q))) fun ⟨ks,z⟩=>hwr _ _ hSt b q ks z) ?_ ?_
  ·rw [← hn,V.len,List.take_length] at hp;exact hp
  ·exact hE
 |succ k ih =>
  intro i s es ep t ks1 hk hi hSt V S hE hp h;have hi':i < n:=by omega
  refine BK F.entry_set_update_loop ?_;rw [Bp F.plain_set_update_loop];unfold Builtin.«set.update.loop»;refine AA (W.item i _ _ _ hi' hSt fun v h' tk hP hSt' hk' => ?_);obtain ⟨b,hb,kb⟩:=V.get (i:=i) (by omega)
  have hvi:=hv i v hP;have evb:v = .ref b:=by rw [Ab,hvi] at hb;exact hb
  subst evb;have low:∀ c o,(∃ ks,TK prog w s.heap ks c)->s.heap.get? c=some o->h'.get? c=some o:=fun c o ⟨ks,z⟩=>hk' c o fun q=>hwr _ _ hSt c q ks z;have kb':TK prog w h' (kss.getD i []) b:=kb.keep fun o=>low b o ⟨_,kb⟩;have S':SetT prog w h' Sa es ep t ks1:=S.same fun c o hc=>hc.elim (fun z=>hk' c o fun q=>hS (W.sub _ (by rw [← z];exact q))) fun z=>low c o z
  have V':TsV prog w h' its kss:=V.keep low;dsimp only;refine AA (An ?_);unfold setAdd;refine An (AA (wpAny_pyHash_tuple (s:={ s with heap:=h',toks:=tk }) hu kb' ?_));have hl:ks1.length + 1≤300:=by
   have:=yZ (kss.take i) []
   have e:(ddT (kss.take i)).length≤i:=by have q:=List.length_take_le i kss;unfold ddT;have z:([]:List (List Int)).length=0:=rfl;omega
   rw [hp.length_eq];omega
  refine qJG (s:={ s with heap:=h',toks:=tk + ((kss.getD i []).length + 1) }) hu S' kb' hl fun h2 es2 ep2 t2 ks2 hs2 S2 hp2 he2 => ?_;refine AB ⟨CW F.plain_set_update_loop _,?_⟩;refine ih (i + 1) _ es2 ep2 t2 ks2 (by omega) (by omega) (W.frame _ _ _ hSt' fun b hbf o ho=>by
   rw [hs2.2 b (fun z=>hS (by rw [← z];exact hbf))];exact ho) ?_ S2 (fun e he=>(he2 e he).elim (hE e) fun z=>by rw [z];exact Ar hvi) ?_ fun h3 tk3 es3 ep3 t3 ks3 hh S3 hp3 hE3 => ?_
  ·exact V'.keep fun c o ⟨ks,z⟩ ho=>(hs2.2 c (fun e=>S'.not ks (by rw [← e];exact z))).trans ho
  ·rw [qDP (by rw [← V.len];omega)]
   exact hp2.trans (qB2 hp)
  ·exact h h3 tk3 es3 ep3 t3 ks3 (fun b o hbn ho=>hh b o hbn (by
    have:b≠Sa:=fun z=>hbn (by rw [z];exact AL)
    rw [hs2.2 b this];exact hk' b o (fun q=>hbn (AE _ q)) ho)) S3 hp3 hE3
theorem qBq {h:Heap} {led:Bool} (hl:led = !byT w):SetT prog w (h.push { cls := .type "set",data := .set #[] 0 (SetTable.fresh 0 0 led) }) h.objs.size #[] 0 (SetTable.fresh 0 0 led) [] :=
 ⟨⟨_,AY _ rfl,⟨rfl,rfl,rfl⟩,rfl⟩,.nil,CT,⟨⟨rfl,rfl,fun i k _ hk=>absurd hk (A8 _),fun j hj=>(Ah hj).elim,A3 _⟩,fun q hq=>(Ah hq).elim,.inl ⟨rfl,A3 _⟩,hl,rfl⟩⟩
theorem qAV {s:Shared} {l:Addr} {items:Array Value} {kss:List (List Int)} {Q:Value->Shared->Prop} (hh:A.handled=none) (hu:A.units + 8 < cLine) (hl:s.heap.IsList l items) (V:TsV prog w s.heap items.toList kss) (h3:kss.length≤299)
  (h:∀ (h':Heap) (tk:Nat) (es':Array (Int×Value)) (ep':Nat) (t':SetTable) (ks':List (List Int)),SetT prog w h' s.heap.objs.size es' ep' t' ks'->ks'.Perm (ddT kss)->(∀ e∈es'.toList,e.2∈items.toList)->(∀ b o,b < s.heap.objs.size->s.heap.get? b=some o->h'.get? b=some o)->Q (.ref s.heap.objs.size) { s with heap:=h',toks:=tk }) :
  wpAny (model prog w) A (call (.type "set") [.ref l]) Q E s:=by
 refine By (codeAny_of_tree (Ao (a:=Fin.again (.builtin "type.__call__" ⟨[.type "set",.ref l],[]⟩)) rfl ⟨Code.quiet_builtin _ (by decide +kernel),?_⟩))
 refine BK F.entry_type_call ?_;rw [Around.under_plain (weight_type_call_type _ _ _) rfl];unfold Builtin.«type.__call__»;dsimp only;rw [AK (by rw [F.called_set.notType];decide),AK (by rw [F.called_set.canCreate];decide)]
 refine AA (Ao (F.typeCall_set_1 _) ?_);obtain ⟨c,tl,hm⟩:=F.called_set.mro;refine AA (Ao hm ?_);rw [AK (by simp)]
 refine AA (Ao F.called_set.made ?_);dsimp only;refine AA (AB (AA (An (By (qBp ?_)))));have hT:({ s with heap:=s.heap.push { cls := .type "set",data := .set #[] 0 (SetTable.fresh 0 0 (!byT w)) } }:Shared).TypeIs (.ref s.heap.objs.size) "set" := ⟨_,AY _ rfl,rfl⟩;refine AA (BL hT sub_set_self ?_);rw [AK (by decide)]
 refine AA (An ?_);unfold callSpecial?;refine AA (wpAny_specialOf hT F.called_set.init.lookup ?_);dsimp only;refine An (AA (Ao (F.called_set.init.bind _) ?_));dsimp only;refine AA (By (B8 F.called_set.init.plain F.entry_set_init (check_set_init_1 hT ?_)));unfold Builtin.«set.__init__»;refine AA (Ao (a:=()) rfl ?_);show wpAny _ _ (do
  let n ← typeNameOfCut 200 (.ref s.heap.objs.size)
  checkCount n 0 1 1
  let a ← Builtin.Frozenset.addrOf (.ref s.heap.objs.size);let u ← setUsed a
  if u=true then do
   Builtin.Frozenset.clearAll a
   Builtin.Frozenset.updateFrom "set.__init__" a (.ref l)
   ret Value.none
  else do
   Builtin.Frozenset.updateFrom "set.__init__" a (.ref l)
   ret Value.none) _ _ _
 unfold typeNameOfCut shownTypeOf;refine AA (AA (AA (Ba hT ?_)));rw [AK (by decide)]
 refine AB (Ao (a := "set") (by rfl) ?_)
 refine AA (Ao (a:=()) rfl ?_);refine AA (Ao (a:=s.heap.objs.size) rfl ?_);unfold setUsed;have hg:(s.heap.push { cls := .type "set",data := .set #[] 0 (SetTable.fresh 0 0 (!byT w)) }).get? s.heap.objs.size=some { cls := .type "set",data := .set #[] 0 (SetTable.fresh 0 0 (!byT w)) }:=AY _ rfl;refine AA (AA (Bb hg rfl rfl (AB ?_)));rw [AK (by intro q;exact Bool.noConfusion (show false=true from q))]
 refine AA ?_;unfold Builtin.Frozenset.updateFrom Builtin.Frozenset.isAnySet;have hl':(s.heap.push { cls := .type "set",data := .set #[] 0 (SetTable.fresh 0 0 (!byT w)) }).IsList l items:=hl.push _;refine AA (AA (BL (T := "list") hl'.typeIs F.sub_list_set ?_));show wpAny _ _ (isInstance (.ref l) (.type "frozenset")) _ _ _;refine BL (T := "list") hl'.typeIs F.sub_list_frozenset ?_;rw [AK (by decide)]
 refine AA (Ba (T := "list") hl'.typeIs ?_);rw [AK (by decide)]
 refine AA (wpAny_pyIter_list hl' (AA (wpAny_runValue ?_)));have hlt:l < s.heap.objs.size:=by obtain ⟨o,ho,_⟩:=hl;exact AT ho
 have hS:=qBq (prog:=prog) (w:=w) (h:=s.heap) (led := !byT w) rfl;have hsz:(s.heap.push { cls := .type "set",data := .set #[] 0 (SetTable.fresh 0 0 (!byT w)) }).objs.size=s.heap.objs.size + 1:=B5 ..;have hlen:items.size=kss.length:=by rw [← V.len,AZ]
 refine Jg (A:=A.in1.in1) (Walks.list (A:=A.in1.in1.in1) hh (s.heap.push { cls := .type "set",data := .set #[] 0 (SetTable.fresh 0 0 (!byT w)) }).objs.size l (by rw [hsz];exact Ac (BJ hlt)) items) (fun i h' hst b hb ks=>by
  rw [Ai.mp hb];obtain ⟨o,ho,hc,_⟩:=hst.1;exact qA0 ho (by rw [hc];decide) ks) (by show A.units + 3 < cLine;omega) (Sa:=s.heap.objs.size) (by
  rw [hsz];intro q;rcases AJ.mp q with q |q
  ·exact absurd q (by show ¬ s.heap.objs.size=s.heap.objs.size + 1;omega)
  ·have:=Ai.mp q;exact absurd hlt (by rw [← this];exact BI _)) (its:=items.toList) (kss:=kss) (by rw [AZ]) (by omega) (fun i v hi=>by rw [Av];exact hi) _ 0 _ #[] 0 _ [] rfl (A3 _) ⟨⟨_,AY _ rfl,rfl,rfl⟩,hl'.push _⟩ (V.keep fun b o _ ho=>AD _ (AD _ ho)) (hS.same fun b o _ ho=>AD _ ho) (fun e he=>(Ah he).elim) (by rw [List.take_zero];exact .refl _) fun h' tk es' ep' t' ks' hk S' hp hE' => ?_
 refine AB (AB ?_);refine AB ?_;dsimp only;rw [AK (by decide)]
 refine AB ?_;refine h h' tk es' ep' t' ks' S' hp hE' fun b o hb' ho=>hk b o (fun q => ?_) (AD _ (AD _ ho));rw [hsz] at q;rcases AJ.mp q with q |q
 ·exact absurd hb' (by rw [q];exact BI _)
 ·have:=Ai.mp q;exact absurd hb' (by rw [this];exact Nat.not_lt_of_le (Nat.le_succ _))
theorem qAt {s:Shared} {l:Addr} {items:Array Value} {kss:List (List Int)} {Q:Value->Shared->Prop} (hh:A.handled=none) (hu:A.units + 8 < cLine) (hl:s.heap.IsTuple l items) (V:TsV prog w s.heap items.toList kss) (h3:kss.length≤299)
  (h:∀ (h':Heap) (tk:Nat) (es':Array (Int×Value)) (ep':Nat) (t':SetTable) (ks':List (List Int)),SetT prog w h' s.heap.objs.size es' ep' t' ks'->ks'.Perm (ddT kss)->(∀ e∈es'.toList,e.2∈items.toList)->(∀ b o,b < s.heap.objs.size->s.heap.get? b=some o->h'.get? b=some o)->Q (.ref s.heap.objs.size) { s with heap:=h',toks:=tk }) :
  wpAny (model prog w) A (call (.type "set") [.ref l]) Q E s:=by
 refine By (codeAny_of_tree (Ao (a:=Fin.again (.builtin "type.__call__" ⟨[.type "set",.ref l],[]⟩)) rfl ⟨Code.quiet_builtin _ (by decide +kernel),?_⟩))
 refine BK F.entry_type_call ?_;rw [Around.under_plain (weight_type_call_type _ _ _) rfl];unfold Builtin.«type.__call__»;dsimp only;rw [AK (by rw [F.called_set.notType];decide),AK (by rw [F.called_set.canCreate];decide)]
 refine AA (Ao (F.typeCall_set_1 _) ?_);obtain ⟨c,tl,hm⟩:=F.called_set.mro;refine AA (Ao hm ?_);rw [AK (by simp)]
 refine AA (Ao F.called_set.made ?_);dsimp only;refine AA (AB (AA (An (By (qBp ?_)))));have hT:({ s with heap:=s.heap.push { cls := .type "set",data := .set #[] 0 (SetTable.fresh 0 0 (!byT w)) } }:Shared).TypeIs (.ref s.heap.objs.size) "set" := ⟨_,AY _ rfl,rfl⟩;refine AA (BL hT sub_set_self ?_);rw [AK (by decide)]
 refine AA (An ?_);unfold callSpecial?;refine AA (wpAny_specialOf hT F.called_set.init.lookup ?_);dsimp only;refine An (AA (Ao (F.called_set.init.bind _) ?_));dsimp only;refine AA (By (B8 F.called_set.init.plain F.entry_set_init (check_set_init_1 hT ?_)));unfold Builtin.«set.__init__»;refine AA (Ao (a:=()) rfl ?_);show wpAny _ _ (do
  let n ← typeNameOfCut 200 (.ref s.heap.objs.size)
  checkCount n 0 1 1
  let a ← Builtin.Frozenset.addrOf (.ref s.heap.objs.size);let u ← setUsed a
  if u=true then do
   Builtin.Frozenset.clearAll a
   Builtin.Frozenset.updateFrom "set.__init__" a (.ref l)
   ret Value.none
  else do
   Builtin.Frozenset.updateFrom "set.__init__" a (.ref l)
   ret Value.none) _ _ _
 unfold typeNameOfCut shownTypeOf;refine AA (AA (AA (Ba hT ?_)));rw [AK (by decide)]
 refine AB (Ao (a := "set") (by rfl) ?_)
 refine AA (Ao (a:=()) rfl ?_);refine AA (Ao (a:=s.heap.objs.size) rfl ?_);unfold setUsed;have hg:(s.heap.push { cls := .type "set",data := .set #[] 0 (SetTable.fresh 0 0 (!byT w)) }).get? s.heap.objs.size=some { cls := .type "set",data := .set #[] 0 (SetTable.fresh 0 0 (!byT w)) }:=AY _ rfl;refine AA (AA (Bb hg rfl rfl (AB ?_)));rw [AK (by intro q;exact Bool.noConfusion (show false=true from q))]
 refine AA ?_;unfold Builtin.Frozenset.updateFrom Builtin.Frozenset.isAnySet;have hl':(s.heap.push { cls := .type "set",data := .set #[] 0 (SetTable.fresh 0 0 (!byT w)) }).IsTuple l items:=hl.push _;refine AA (AA (BL (T := "tuple") hl'.typeIs F.sub_tuple_set ?_));show wpAny _ _ (isInstance (.ref l) (.type "frozenset")) _ _ _;refine BL (T := "tuple") hl'.typeIs F.sub_tuple_frozenset ?_;rw [AK (by decide)]
 refine AA (Ba (T := "tuple") hl'.typeIs ?_);rw [AK (by decide)]
 refine AA (wpAny_pyIter_tuple hl' (AA (wpAny_runValue ?_)));have hlt:l < s.heap.objs.size:=by obtain ⟨o,ho,_⟩:=hl;exact AT ho
 have hS:=qBq (prog:=prog) (w:=w) (h:=s.heap) (led := !byT w) rfl;have hsz:(s.heap.push { cls := .type "set",data := .set #[] 0 (SetTable.fresh 0 0 (!byT w)) }).objs.size=s.heap.objs.size + 1:=B5 ..;have hlen:items.size=kss.length:=by rw [← V.len,AZ]
 refine Jg (A:=A.in1.in1) (Walks.tuple (A:=A.in1.in1.in1) hh (s.heap.push { cls := .type "set",data := .set #[] 0 (SetTable.fresh 0 0 (!byT w)) }).objs.size l (by rw [hsz];exact Ac (BJ hlt)) items) (fun i h' hst b hb ks=>by
  rw [Ai.mp hb];obtain ⟨o,ho,hc,_⟩:=hst.1;exact qA0 ho (by rw [hc];decide) ks) (by show A.units + 3 < cLine;omega) (Sa:=s.heap.objs.size) (by
  rw [hsz];intro q;rcases AJ.mp q with q |q
  ·exact absurd q (by show ¬ s.heap.objs.size=s.heap.objs.size + 1;omega)
  ·have:=Ai.mp q;exact absurd hlt (by rw [← this];exact BI _)) (its:=items.toList) (kss:=kss) (by rw [AZ]) (by omega) (fun i v hi=>by rw [Av];exact hi) _ 0 _ #[] 0 _ [] rfl (A3 _) ⟨⟨_,AY _ rfl,rfl,rfl⟩,hl'.push _⟩ (V.keep fun b o _ ho=>AD _ (AD _ ho)) (hS.same fun b o _ ho=>AD _ ho) (fun e he=>(Ah he).elim) (by rw [List.take_zero];exact .refl _) fun h' tk es' ep' t' ks' hk S' hp hE' => ?_
 refine AB (AB ?_);refine AB ?_;dsimp only;rw [AK (by decide)]
 refine AB ?_;refine h h' tk es' ep' t' ks' S' hp hE' fun b o hb' ho=>hk b o (fun q => ?_) (AD _ (AD _ ho));rw [hsz] at q;rcases AJ.mp q with q |q
 ·exact absurd hb' (by rw [q];exact BI _)
 ·have:=Ai.mp q;exact absurd hb' (by rw [this];exact Nat.not_lt_of_le (Nat.le_succ _))
end
end ET
end
section
namespace ET
open PySem PySem.Spec PyProof.Rows L2 PySem.W
open EX
section
variable {prog:Program} {w:World} {A:Around} {E:Value->Shared->Prop} {s:Shared}
theorem TsV.pick {h:Heap} {vs:List Value} {kss:List (List Int)} (e:TsV prog w h vs kss) (hne:∀ ks∈kss,ks≠[]):∀ (l:List Nat),(∀ i∈l,i < vs.length)->TsV prog w h (l.map fun i=>vs.getD i Value.none) (l.map fun i=>kss.getD i [])
 |[],_ => .nil
 |i::l,hl=>by
  have hi:=hl i AL;obtain ⟨b,h1,h2⟩:=e.get hi;rw [Aj,Aj,h1];refine .cons h2 ?_ (e.pick hne l fun j hj=>hl j (AE _ hj));have hk:i < kss.length:=by rw [← e.len];exact hi
  refine hne _ ?_;rw [Ab,AI hk];exact BV hk
theorem TsV.ne {h:Heap} {vs:List Value} {kss:List (List Int)} (e:TsV prog w h vs kss):∀ ks∈kss,ks≠[]:=by
 induction e with
 |nil=>intro ks hk;cases hk
 |cons _ ne _ ih =>
  intro ks hk;rcases AJ.mp hk with q |q
  ·rw [q];exact ne
  ·exact ih ks q
theorem PB.mem {n:Nat} {p:Array Nat} (B:PB n p):∀ i∈p.toList,i < n:=fun i hi=>by
 have:=(Array.perm_iff_toList_perm.mp B.perm).mem_iff.mp hi
 simpa using this
end
inductive TsL (K:W.Frag) (H:Hp):List V->List (List Int)->Prop
 |nil:TsL K H [] []
 |cons {a:Addr} {ks:List Int} {xs:List V} {kss:List (List Int)}:SqT K H a (ks.map V.int)->ks≠[]->TsL K H xs kss->TsL K H (.ref a::xs) (ks::kss)
section
variable {X:Cx} {pins:List (Addr×Obj)} {σ:L2.St} {H:Hp} {s:Shared}
theorem JT {prog:Program} {w:World}:∀ {ks:List Int} {its:List Value},Vals (ks.map V.int) its->ItemsAre (intKind prog w) ks its
 |[],its,h=>by
  cases its with
  |nil=>exact .nil
  |cons u us=>cases h
 |k::ks,its,h=>by
  rw [Aj] at h;cases h with
  |cons r t =>obtain ⟨tk,rfl⟩:=(show ∃ t,_=Value.int k t from r);exact .cons (intKind_is prog w k tk) (JT t)
theorem qGh (I:L2.Inv X pins σ H s) {a:Addr} {ks:List Int} (h:SqT X.K H a (ks.map V.int)):TK X.prog X.w s.heap ks a:=by obtain ⟨its,rv,⟨o,h1,h2,n,h3⟩,hz⟩:=I.tuple h;exact ⟨o,its.toArray,n,h1,h2,h3,JT rv⟩
theorem tsv_of (I:L2.Inv X pins σ H s) {xs:List V} {kss:List (List Int)} (h:TsL X.K H xs kss):∀ {its:List Value},Vals xs its->TsV X.prog X.w s.heap its kss:=by
 induction h with
 |nil=>intro its hv;cases hv;exact .nil
 | @cons a ks xs kss h1 ne _ ih =>
  intro its hv;cases hv with
  |cons r t =>obtain rfl:=(show _=Value.ref a from r);exact .cons (qGh I h1) ne (ih t)
theorem TsL.mem {xs:List V} {kss:List (List Int)} (h:TsL X.K H xs kss):∀ x∈xs,∃ a ks,x = .ref a∧SqT X.K H a (ks.map V.int)∧ks≠[]:=by
 induction h with
 |nil=>intro x hx;cases hx
 |cons h1 ne _ ih =>
  intro x hx;rcases AJ.mp hx with q |q
  ·exact ⟨_,_,q,h1,ne⟩
  ·exact ih x q
theorem qBw {xs:List V} {its:List Value} (h:Vals xs its):∀ b,Value.ref b∈its->(∀ x∈xs,∃ a,x=V.ref a)->V.ref b∈xs:=by
 induction h with
 |nil=>intro b hb;cases hb
 | @cons x u xs us r t ih =>
  intro b hb hx;obtain ⟨a,rfl⟩:=hx _ AL;obtain rfl:=(show u=Value.ref a from r);rcases AJ.mp hb with q |q
  ·cases q;exact AL
  ·exact AE _ (ih b q fun y hy=>hx y (AE _ hy))
theorem TsL.zip {xs:List V} {kss:List (List Int)} (h:TsL X.K H xs kss):∀ a,V.ref a∈xs -> ∃ ks,(V.ref a,ks)∈xs.zip kss∧SqT X.K H a (ks.map V.int):=by
 induction h with
 |nil=>intro a hx;cases hx
 | @cons b ks xs kss h1 ne _ ih =>
  intro a hx;rw [Aq];rcases AJ.mp hx with q |q
  ·cases q;exact ⟨ks,AL,h1⟩
  ·obtain ⟨ks,i1,i2⟩:=ih a q;exact ⟨ks,AE _ i1,i2⟩
theorem qIV (I:L2.Inv X pins σ H s) {xs:List V} {kss0:List (List Int)} (T:TsL X.K H xs kss0) {its:List Value} (rv:Vals xs its) {h':Heap} (hk:∀ b o,s.heap.get? b=some o->h'.get? b=some o) :
  ∀ {out:List Value} {kss:List (List Int)},TsV X.prog X.w h' out kss->(∀ v∈out,v∈its) -> ∃ L:List (V×List Int),L.map (·.2)=kss∧Vals (L.map (·.1)) out ∧ ∀ q∈L,q∈xs.zip kss0:=by
 intro out kss V;induction V with
 |nil=>intro _;exact ⟨[],rfl,.nil,fun y hy=>(Ah hy).elim⟩
 | @cons ks b vs kss k ne _ ih =>
  intro hin;obtain ⟨L,h1,h2,h3⟩:=ih fun v hv=>hin v (AE _ hv);have hm:=qBw rv b (hin _ AL) fun x hx=>by obtain ⟨a,_,e,_⟩:=T.mem x hx;exact ⟨a,e⟩
  obtain ⟨ks2,hz,hs⟩:=T.zip b hm;have k2:TK X.prog X.w h' ks2 b:=(qGh I hs).keep fun o=>hk b o
  have:=k.inj k2
  subst this;exact ⟨(.ref b,ks)::L,by rw [Aj,h1],.cons rfl h2,fun y hy=>(AJ.mp hy).elim (fun z=>by rw [z];exact hz) (h3 y)⟩
end
section
variable {X:Cx} {e:Expr} {te:TE} {p p2 pos pos2:Pos}
theorem qCr {A:Around} {E:Value->Shared->Prop} {pins:List (Addr×Obj)} {σ:L2.St} {H:Hp} {s:Shared} {Q:Value->Shared->Prop} {a:Addr} {xs:List V} {kss:List (List Int)} (I:L2.Inv X pins σ H s) (hh:A.handled=none) (hu:A.units + 8 < cLine) (hq:SqL X.K H a xs∨SqT X.K H a xs) (T:TsL X.K H xs kss) (h3:kss.length≤299)
  (h:∀ (its:List Value) (h':Heap) (tk:Nat) (es':Array (Int×Value)) (ep':Nat) (t':SetTable) (ks':List (List Int)),Vals xs its->SetT X.prog X.w h' s.heap.objs.size es' ep' t' ks'->ks'.Perm (ddT kss)->(∀ e∈es'.toList,e.2∈its)->(∀ b o,b < s.heap.objs.size->s.heap.get? b=some o->h'.get? b=some o)->Q (.ref s.heap.objs.size) { s with heap:=h',toks:=tk }) :
  wpAny (model X.prog X.w) A (call (.type "set") [.ref a]) Q E s:=by
 rcases hq with hq |hq
 ·obtain ⟨its,rv,ht,hz⟩:=I.list hq;exact qAV hh hu ht.isList (by simpa using tsv_of I T rv) h3 fun h' tk es' ep' t' ks' S hp hE hk=>h its h' tk es' ep' t' ks' rv S hp (by simpa using hE) hk
 ·obtain ⟨its,rv,ht,hz⟩:=I.tuple hq;exact qAt hh hu ht (by simpa using tsv_of I T rv) h3 fun h' tk es' ep' t' ks' S hp hE hk=>h its h' tk es' ep' t' ks' rv S hp (by simpa using hE) hk
def qIZ (K:W.Frag) (te:TE):TE:=fun σ H Q=>te σ H fun x H1 => ∃ a xs kss,x = .ref a∧(SqL K H1 a xs∨SqT K H1 a xs)∧TsL K H1 xs kss∧kss.length≤299∧Q (.int (ddT kss).length) H1
def qG8 (K:W.Frag) (te:TE):TE:=fun σ H Q=>te σ H fun x H1 => ∃ a xs kss,x = .ref a∧(SqL K H1 a xs∨SqT K H1 a xs)∧TsL K H1 xs kss∧kss.length < 64 ∧ ∀ p (L:List (V×List Int)),H1 p=none->(∀ q∈L,q∈xs.zip kss)->L.map (·.2)=srt kss->Q (.ref p) (upd H1 p (.lst (L.map (·.1))))
theorem qEU (hu:X.A.units + 64 < cLine) (hg:Gl X "sorted") (hm:X.mg "sorted" = none) (he:PE X e te) (h1:starEach [e] X.env=(false,eval e X.env)::starEach [] X.env:=by rfl) :
  PE X (.Call (.Name "sorted" p) [e] [] pos) (qG8 X.K te):=by
 intro pins s σ H Q I h;refine Bi (zr I hg hm PyProof.Rows.boot_sorted ?_ (by decide) (by decide))
 refine PyProof.Rows.callWith_builtin1 ?_ h1 rfl;rw [h1];show wpAny _ _ (spliced ((false,eval e X.env)::[])) _ _ s;refine CQ (thn (he pins s σ H _ I h) fun u s1 ⟨x,H1,I1,r1,q1⟩=>Calls.spliced_nil ?_);obtain ⟨a,xs,kss,rfl,hq,T,h64,q⟩:=q1;cases r1;obtain ⟨its,rv,hcol⟩:∃ its,Vals xs its∧(its.length < 64 -> ∀ {E':Value->Shared->Prop} {Q':List Value->Shared->Prop},Q' its { s1 with heap:=(s1.heap.push (seqObj "list" #[] 0)).update s1.heap.objs.size (Obj.mapSeq (· ++ its.toArray)) }->wpAny (model X.prog X.w) X.A.in1 (collect (.ref a)) Q' E' s1):=by
  rcases hq with hq |hq
  ·obtain ⟨its,rv,ht,_⟩:=I1.list hq;exact ⟨its,rv,fun h _ _ q=>collect_list ht.isList q (by rw [Bq];omega)⟩
  ·obtain ⟨its,rv,ht,_⟩:=I1.tuple hq;exact ⟨its,rv,fun h _ _ q=>JU ht (by rw [Bq];omega) q⟩
 have V:=tsv_of I1 T rv;have hl:=V.len;refine qBv (O:=lxO) (key:=fun i=>kss.getD i []) (κ:=tuples' true) (s:=s1) (vs:=its) (hcol (by omega)) (by omega) (fun h2 A' E' h6 Q' k q'=>qHX (s:={ s1 with heap:=h6 }) (V.keep fun b o _ ho=>k b o ho) h2 q') (fun h6 i j C k hi hj q' => ?_) fun pp B S => ?_
 ·obtain ⟨b,e1,k1⟩:=V.get hi;obtain ⟨c,e2,k2⟩:=V.get hj;rw [e1,e2];exact qJl (s:={ s1 with heap:=h6 }) (k1.keep fun o=>k b o) (k2.keep fun o=>k c o) q'
 ·have V2:=V.pick V.ne pp.toList B.mem;rw [qIq V B S] at V2;have keep:∀ b o,s1.heap.get? b=some o->(sortedAll s1.heap its (List.toArray (pp.toList.map fun i=>its.getD i Value.none))).get? b=some o:=fun b o hb=>sortedAll_old hb;obtain ⟨L,lk,rv2,hin2⟩:=qIV I1 T rv keep (V2.keep fun b o _ ho=>keep b o ho) fun v hv=>by obtain ⟨i,hi,rfl⟩:=AX.mp hv;have hi:=B.mem i hi;rw [Ab,AI hi];exact BV hi
  obtain ⟨e',he'⟩:=sortedAll_at s1.heap its (List.toArray (pp.toList.map fun i=>its.getD i Value.none));have hlen:(L.map (·.1)).length≤sizeLine:=by rw [rv2.length,AC,AZ,B.size,Bq];omega
  refine ⟨.ref (s1.heap.objs.size + 1),_,I1.laid (t':=s1.toks) (o := .lst (L.map (·.1))) keep (Nat.le_succ _) ⟨hlen,_,e',rv2,he'⟩,rfl,q _ L (I1.hok.fresh (Nat.le_succ _)) hin2 lk⟩
end
open EX
section
variable {X:Cx} {e:Expr} {te:TE} {p p2 pos pos2:Pos}
theorem qDn (hc:X.calm=true) (hu:X.A.units + 64 < cLine) (hg:Gl X "len") (hm:X.mg "len" = none) (hg2:Gl X "set") (hm2:X.mg "set" = none) (he:PE X e te)
  (h1:starEach [.Call (.Name "set" p2) [e] [] pos2] X.env=(false,eval (.Call (.Name "set" p2) [e] [] pos2) X.env)::starEach [] X.env:=by rfl) (h2:starEach [e] X.env=(false,eval e X.env)::starEach [] X.env:=by rfl) :
  PE X (.Call (.Name "len" p) [.Call (.Name "set" p2) [e] [] pos2] [] pos) (qIZ X.K te):=by
 intro pins s σ H Q I h;refine Bi (zr I hg hm PyProof.Rows.Boot.«len» ?_ (by decide) (by decide))
 refine PyProof.Rows.callWith_builtin1 ?_ h1 rfl;rw [h1];show wpAny _ _ (spliced ((false,eval (.Call (.Name "set" p2) [e] [] pos2) X.env)::[])) _ _ s;refine CQ ?_;refine Bi (zr I hg2 hm2 PyProof.Rows.Boot.«set» ?_ (by decide) (by decide))
 refine Bh ?_ h2 rfl;rw [h2];show wpAny _ _ (spliced ((false,eval e X.env)::[])) _ _ s;refine CQ (thn (he pins s σ H _ I h) fun u s1 ⟨x,H1,I1,r1,q1⟩=>Calls.spliced_nil ?_);obtain ⟨a,xs,kss,rfl,hq,T,h3,q⟩:=q1;cases r1;have hh:X.A.handled=none:=I.ok.hd hc;refine qCr I1 hh (by omega) hq T h3 fun its h' tk es' ep' t' ks' rv S hp hE hk=>Calls.spliced_nil ?_
 obtain ⟨o,ho,hx,hd⟩:=S.ex;have hsz:es'.size=(ddT kss).length:=by rw [← hp.length_eq,← S.el.len,AZ]
 have hdl:(ddT kss).length≤299:=by
  have:=yZ kss []
  have z:([]:List (List Int)).length=0:=rfl;unfold ddT;omega
 refine call_len_set (s:={ s1 with heap:=h',toks:=tk }) ho hx hd (jw S.tb.g) (by omega) ?_
 refine ⟨.int (ddT kss).length,H1,(I1.kept (h':=h') (t':=tk + 1 + 1) fun b u hb=>hk b u (AT hb) hb),⟨tk + 1,by rw [hsz]⟩,q⟩
end
end ET
namespace EV
open PySem PySem.Spec PyProof.Rows L2 EX ET
def ZZ:PV->Option (List Int)
 | .tup (p::l)=>Qr Ja (p::l)
 |_=>none
def yU (ks:List Int):PV := .tup (ks.map PV.int)
section
variable {K:W.Frag} {H:Hp} {b:Bz}
theorem jc {p:PV} {v:V} {ks:List Int} (r:RV K H b p v) (h:ZZ p=some ks):∃ a,v = .ref a∧SqT K H a (ks.map V.int)∧ks≠[]∧RV K H b (yU ks) v:=by
 unfold ZZ at h;split at h
 ·rename_i p l;have r':=r;unfold RV at r;obtain ⟨a,xs,rfl,h2,h3⟩:=r;have e:=jt h3 h;subst e;refine ⟨a,rfl,h2.sq,?_,?_⟩
  ·intro z;subst z
   have:=h3.length
   simp at this
  ·unfold yU RV;exact ⟨a,ks.map V.int,rfl,h2,z6 ks⟩
 ·cases h
theorem j5:∀ {l:List PV} {xs:List V} {kss:List (List Int)},RVs K H b l xs->Qr ZZ l=some kss->TsL K H xs kss ∧ ∀ q∈xs.zip kss,RV K H b (yU q.2) q.1
 |[],xs,kss,r,h=>by unfold RVs at r;subst r;cases h;exact ⟨.nil,fun q hq=>(Ah hq).elim⟩
 |p::l,xs,kss,r,h=>by
  unfold RVs at r;obtain ⟨x,t,rfl,h2,h3⟩:=r;unfold Qr at h;cases e1:ZZ p with
  |none=>rw [e1] at h;cases h
  |some ks =>
   rw [e1] at h;dsimp only at h;cases e2:Qr ZZ l with
   |none=>rw [e2] at h;cases h
   |some kss' =>
    rw [e2] at h;cases h;obtain ⟨a,rfl,h4,h5,h6⟩:=jc h2 e1;obtain ⟨i1,i2⟩:=j5 h3 e2;refine ⟨.cons h4 h5 i1,fun q hq => ?_⟩;rw [Aq] at hq;rcases AJ.mp hq with z |z
    ·rw [z];exact h6
    ·exact i2 q z
theorem jI {xs:List V} {kss:List (List Int)} (hr:∀ q∈xs.zip kss,RV K H b (yU q.2) q.1):∀ {L:List (V×List Int)},(∀ q∈L,q∈xs.zip kss)->RVs K H b ((L.map (·.2)).map yU) (L.map (·.1))
 |[],_=>RVs.nil
 |q::L,h=>by rw [Aj,Aj,Aj];exact RVs.cons (hr q (h q AL)) (jI hr fun y hy=>h y (AE _ hy))
end
section
variable {X:Cx} {E:XK} {e:Expr} {f:FE} {p p2 pos pos2:Pos}
def qJn:PV->qD->Rs PV:=fun q st=>match zF st q with
 |some l=>match Qr ZZ l with
  |some kss=>if kss.length≤299∧(ddT kss).length < 64 then .ok (.lst ((srt (ddT kss)).map yU)) st else .no
  |none => .no
 |none => .no
def yp:PV->qD->Rs PV:=fun q st=>match zF st q with
 |some l=>match Qr ZZ l with
  |some kss=>if kss.length≤299 then .ok (.int (ddT kss).length) st else .no
  |none => .no
 |none => .no
def yA (f:FE):FE:=fun r st=>(f r st).bind yp
theorem Jp (hc:X.calm=true) (hu:X.A.units + 64 < cLine) (hm:X.mg "len" = none) (hm2:X.mg "set" = none) (h:VE X E e f) (hg:Gl X "len" := by rfl) (hg2:Gl X "set" := by rfl)
  (h1:starEach [.Call (.Name "set" p2) [e] [] pos2] X.env=(false,eval (.Call (.Name "set" p2) [e] [] pos2) X.env)::starEach [] X.env:=by rfl) (h2:starEach [e] X.env=(false,eval e X.env)::starEach [] X.env:=by rfl) :
  VE X E (.Call (.Name "len" p) [.Call (.Name "set" p2) [e] [] pos2] [] pos) (yA f) :=
 PE.imp (qDn hc hu hg hm hg2 hm2 h h1 h2) fun s H Q ⟨b,r,st,S,R,P⟩=>⟨b,r,st,S,R,PostE.bind P fun q s1 u H1 b1 e1 S1 r1 P1=>by
  unfold yp at P1;split at P1
  ·rename_i l el;split at P1
   ·rename_i kss ek;split at P1
    ·rename_i hn;obtain ⟨x,xs,rfl,h2,h3⟩:=ZF S1 r1 el;obtain ⟨T,hr⟩:=j5 h3 ek;exact ⟨x,xs,kss,rfl,h2,T,hn,PostE.here P1 S1 Qu⟩
    ·exact P1.elim
   ·exact P1.elim
  ·exact P1.elim⟩
def Zb:PV->qD->Rs PV:=fun q st=>match zF st q with
 |some l=>match Qr ZZ l with
  |some kss=>if kss.length < 64 then .ok (.lst ((srt kss).map yU)) st else .no
  |none => .no
 |none => .no
def z5 (f:FE):FE:=fun r st=>(f r st).bind Zb
theorem Zj (hu:X.A.units + 64 < cLine) (hm:X.mg "sorted" = none) (h:VE X E e f) (hg:Gl X "sorted" := by rfl) (h1:starEach [e] X.env=(false,eval e X.env)::starEach [] X.env:=by rfl) :
  VE X E (.Call (.Name "sorted" p) [e] [] pos) (z5 f) :=
 PE.imp (qEU hu hg hm h h1) fun s H Q ⟨b,r,st,S,R,P⟩=>⟨b,r,st,S,R,PostE.bind P fun q s1 u H1 b1 e1 S1 r1 P1=>by
  unfold Zb at P1;split at P1
  ·rename_i l el;split at P1
   ·rename_i kss ek;split at P1
    ·rename_i hn;obtain ⟨x,xs,rfl,h2,h3⟩:=ZF S1 r1 el;obtain ⟨T,hr⟩:=j5 h3 ek;exact ⟨x,xs,kss,rfl,h2,T,hn,fun p L hp hin hL=>PostN.lay (PostN.of (r := .ok ((srt kss).map yU) s1) P1) S1 (by rw [← hL];exact jI hr hin) hp⟩
    ·exact P1.elim
   ·exact P1.elim
  ·exact P1.elim⟩
end
end EV
end
section
namespace EJ
open PySem PySem.Spec PyProof.Rows L2 PySem.W EX ET
end EJ
namespace EV
open PySem PySem.Spec PyProof.Rows L2 EX ET EJ
end EV
end
section
namespace EX
open PySem PySem.Spec PyProof.Rows L2 PySem.W
end EX
namespace EX
open PySem PySem.Spec PyProof.Rows L2 PySem.W
end EX
namespace EV
open PySem PySem.Spec PyProof.Rows L2 EX
end EV
end
section
namespace EX
open PySem PySem.Spec PyProof.Rows L2 PySem.W
inductive LexO (op:CmpOp) (z:Nat->Nat->Bool) (A:Around) (s:Shared) (r:Bool):List Value->List Value->Prop where
 |nl {ws}:r=z 0 ws.length->LexO op z A s r [] ws
 |nr {vs}:r=z vs.length 0->LexO op z A s r vs []
 |eq {v vs w ws}:SeqAt.EqAt A s v w true->LexO op z A s r vs ws->LexO op z A s r (v::vs) (w::ws)
 |ne {v vs w ws}:SeqAt.EqAt A s v w false->(∀ (prog:Program) (wd:World) (E:Value->Shared->Prop) (Q:Value->Shared->Prop),Q (.bool r) s->wpAny (model prog wd) A (richCompare op v w) Q E s)->LexO op z A s r (v::vs) (w::ws)
def qAU (z:Nat->Nat->Bool) (o:Int->Int->Bool):List Int->List Int->Bool
 |[],m=>z 0 m.length
 |a::l,[]=>z (l.length + 1) 0
 |a::l,b::m=>if a=b then qAU z o l m else o a b
theorem yC {op:CmpOp} {z:Nat->Nat->Bool} {o:Int->Int->Bool} {A:Around} {s:Shared} (hop:∀ (i j:Int) (t u:Tok) (prog:Program) (w:World) (E:Value->Shared->Prop) (Q:Value->Shared->Prop),Q (.bool (o i j)) s->wpAny (model prog w) A (richCompare op (.int i t) (.int j u)) Q E s) :
  ∀ {ks ms:List Int} {its its2:List Value},Vals (ks.map V.int) its->Vals (ms.map V.int) its2->LexO op z A s (qAU z o ks ms) its its2
 |[],ms,its,its2,h1,h2=>by cases h1;refine .nl ?_;rw [← h2.length,AC];rfl
 |k::ks,[],its,its2,h1,h2=>by cases h2;refine .nr ?_;rw [← h1.length,AC];rfl
 |k::ks,m::ms,its,its2,h1,h2=>by
  rw [Aj] at h1 h2;cases h1 with
  |cons r1 t1 =>
   cases h2 with
   |cons r2 t2 =>
    obtain ⟨t,rfl⟩:=(show ∃ t,_=Value.int k t from r1);obtain ⟨u,rfl⟩:=(show ∃ t,_=Value.int m t from r2);have he:=SeqAt.EqAt.int_int (A:=A) (s:=s) k t m u;unfold qAU;by_cases q:k=m
    ·rw [AF q];rw [BF.mpr q] at he;exact .eq he (yC hop t1 t2)
    ·rw [AK q];rw [AW.mpr q] at he;exact .ne he (hop k m t u)
def TI (h:Heap) (ks:List Int) (a:Addr):Prop := ∃ (o:Obj) (its:List Value) (n:Nat),h.get? a=some o∧o.cls = .type "tuple" ∧ o.data = .seq its.toArray n∧Vals (ks.map V.int) its
theorem TI.keep {h h':Heap} {ks:List Int} {a:Addr} (t:TI h ks a) (k:∀ o,h.get? a=some o->h'.get? a=some o):TI h' ks a:=by obtain ⟨o,its,n,h1,h2⟩:=t;exact ⟨o,its,n,k o h1,h2⟩
section
open PySem.SeqAt
open PySem.AutoSeq1 (wpAny_loadPart')
open PySem.MeetsSeq PySem.MeetsSeq2 PySem.MeetsSeq3
theorem JJ (l b:Addr) (items items2:Array Value) (n n2:Nat) (dd dd2:Option Addr) (sl sl2:Array (Option Value)) (r:Bool) :
  Meets (Builtin.«tuple.__gt__» ⟨[.ref l,.ref b],[]⟩)
   (fun A R s=>s.heap.get? l=some { cls := .type "tuple",dict:=dd,data := .seq items n,slots:=sl }∧s.heap.get? b=some { cls := .type "tuple",dict:=dd2,data := .seq items2 n2,slots:=sl2 }∧LexO .Gt (fun i j=>decide (i > j)) A.in1 s r items.toList items2.toList ∧
    R (.ok (.ret (.bool r))) s) :=
 .of_wp fun prog w A R s h=>by
  obtain ⟨hp,g,d,tk,os⟩:=s;obtain ⟨hl,hb,hG,h⟩:=h;have f2:=AutoSeq1.sub_tuple_tuple
  wp_walk using wpAny_loadPart' hl,wpAny_loadPart' hb,Bt _ (fun rest b s'=>b.1=none∧s'=⟨hp,g,d,tk,os⟩ ∧ ∃ (vs ws:List Value),rest=vs.zip ws∧LexO .Gt (fun i j=>decide (i > j)) A.in1 ⟨hp,g,d,tk,os⟩ r vs ws ∧
   vs.length + items2.size=ws.length + items.size) _
  case turn =>
   rintro ⟨y,x⟩ rest b s' ⟨hb',rfl,vs,ws,hz,hG',hlen⟩
   cases hG' with
   |nl _=>cases hz
   |nr _=>rw [List.zip_nil_right] at hz;cases hz
   |eq he hG2 =>
    rw [Aq] at hz;injection hz with hyx hrest;injection hyx with hy hx;subst hy hx;simp only [AH] at hlen;refine AA (he prog w _ _ ?_)
    wp_walk
    exact ⟨rfl,rfl,_,_,hrest,hG2,by omega⟩
   |ne he hc =>
    rw [Aq] at hz;injection hz with hyx hrest;injection hyx with hy hx;subst hy hx;refine AA (he prog w _ _ ?_);have hri:=hc prog w
    wp_walk using hri
    exact ⟨_,rfl,by simpa using h⟩
  case fin =>
   rintro ⟨b1,b2⟩ s' ⟨hb',rfl,vs,ws,hz,hG',hlen⟩
   simp only at hb';subst hb';have hv:r=decide (items.size > items2.size):=by
    cases hG' with
    |nl hr=>rw [hr];simp only [BQ] at hlen ⊢;exact CD.mpr (by omega)
    |nr hr=>rw [hr];simp only [BQ] at hlen ⊢;exact CD.mpr (by omega)
    |eq he hG2=>rw [Aq] at hz;cases hz
    |ne he hc=>rw [Aq] at hz;cases hz
   rw [hv] at h
   wp_walk
   exact ⟨_,rfl,by simpa [Builtin.Tuple.tupleCompareSizes] using h⟩
  case h =>exact ⟨rfl,rfl,items.toList,items2.toList,rfl,hG,by simp;omega⟩
theorem jZ (l b:Addr) (items items2:Array Value) (n n2:Nat) (dd dd2:Option Addr) (sl sl2:Array (Option Value)) (r:Bool) :
  Meets (Builtin.«tuple.__le__» ⟨[.ref l,.ref b],[]⟩)
   (fun A R s=>s.heap.get? l=some { cls := .type "tuple",dict:=dd,data := .seq items n,slots:=sl }∧s.heap.get? b=some { cls := .type "tuple",dict:=dd2,data := .seq items2 n2,slots:=sl2 }∧LexO .LtE (fun i j=>decide (i≤j)) A.in1 s r items.toList items2.toList ∧
    R (.ok (.ret (.bool r))) s) :=
 .of_wp fun prog w A R s h=>by
  obtain ⟨hp,g,d,tk,os⟩:=s;obtain ⟨hl,hb,hG,h⟩:=h;have f2:=AutoSeq1.sub_tuple_tuple
  wp_walk using wpAny_loadPart' hl,wpAny_loadPart' hb,Bt _ (fun rest b s'=>b.1=none∧s'=⟨hp,g,d,tk,os⟩ ∧ ∃ (vs ws:List Value),rest=vs.zip ws∧LexO .LtE (fun i j=>decide (i≤j)) A.in1 ⟨hp,g,d,tk,os⟩ r vs ws ∧
   vs.length + items2.size=ws.length + items.size) _
  case turn =>
   rintro ⟨y,x⟩ rest b s' ⟨hb',rfl,vs,ws,hz,hG',hlen⟩
   cases hG' with
   |nl _=>cases hz
   |nr _=>rw [List.zip_nil_right] at hz;cases hz
   |eq he hG2 =>
    rw [Aq] at hz;injection hz with hyx hrest;injection hyx with hy hx;subst hy hx;simp only [AH] at hlen;refine AA (he prog w _ _ ?_)
    wp_walk
    exact ⟨rfl,rfl,_,_,hrest,hG2,by omega⟩
   |ne he hc =>
    rw [Aq] at hz;injection hz with hyx hrest;injection hyx with hy hx;subst hy hx;refine AA (he prog w _ _ ?_);have hri:=hc prog w
    wp_walk using hri
    exact ⟨_,rfl,by simpa using h⟩
  case fin =>
   rintro ⟨b1,b2⟩ s' ⟨hb',rfl,vs,ws,hz,hG',hlen⟩
   simp only at hb';subst hb';have hv:r=decide (items.size≤items2.size):=by
    cases hG' with
    |nl hr=>rw [hr];simp only [BQ] at hlen ⊢;exact CD.mpr (by omega)
    |nr hr=>rw [hr];simp only [BQ] at hlen ⊢;exact CD.mpr (by omega)
    |eq he hG2=>rw [Aq] at hz;cases hz
    |ne he hc=>rw [Aq] at hz;cases hz
   rw [hv] at h
   wp_walk
   exact ⟨_,rfl,by simpa [Builtin.Tuple.tupleCompareSizes] using h⟩
  case h =>exact ⟨rfl,rfl,items.toList,items2.toList,rfl,hG,by simp;omega⟩
theorem qIu {a b:Addr} {ks ms:List Int} {s:Shared} {A:Around} {prog:Program} {w:World} {E:Value->Shared->Prop} {Q:Value->Shared->Prop} (t1:TI s.heap ks a) (t2:TI s.heap ms b) (hu:A.units + 8 < cLine) (h:Q (.bool (qAU (fun i j=>decide (i > j)) (fun i j=>decide (i > j)) ks ms)) s):wpAny (model prog w) A (richCompare .Gt (.ref a) (.ref b)) Q E s:=by
 obtain ⟨⟨cls,dd,data,sl⟩,its,n1,ho,hc,hda,r1⟩:=t1;obtain ⟨⟨cls2,dd2,data2,sl2⟩,its2,n2,ho2,hc2,hda2,r2⟩:=t2;simp only at hc hda hc2 hda2;subst hc hda hc2 hda2;have G:=yC (op := .Gt) (z:=fun i j=>decide (i > j)) (o:=fun i j=>decide (i > j)) (A:=A.in1) (s:=s) (fun i j t u prog w E Q h=>richCompare_gives (op := .Gt) (typeIs_int _ _ t) (typeIs_int _ _ u) F.slot_int_gt F.entry_int_gt (F.args_int_gt_2 _ _) (gives_int_gt _ _ t u) (fun x=>nomatch x) h) r1 r2;exact richCompare_meets_room (op := .Gt) ⟨_,ho,rfl⟩ ⟨_,ho2,rfl⟩ PySem.F.slot_tuple_gt PySem.F.entry_tuple_gt (PySem.F.args_tuple_gt_2 _ _) (JJ _ _ its.toArray its2.toArray n1 n2 dd dd2 sl sl2 _)
  ⟨ho,ho2,by simpa using G,show Value.bool _≠Value.notImplemented∧Q (.bool _) s from ⟨(fun x=>nomatch x),h⟩⟩ (by omega)
theorem qJY {a b:Addr} {ks ms:List Int} {s:Shared} {A:Around} {prog:Program} {w:World} {E:Value->Shared->Prop} {Q:Value->Shared->Prop} (t1:TI s.heap ks a) (t2:TI s.heap ms b) (hu:A.units + 8 < cLine) (h:Q (.bool (qAU (fun i j=>decide (i≤j)) (fun i j=>decide (i≤j)) ks ms)) s):wpAny (model prog w) A (richCompare .LtE (.ref a) (.ref b)) Q E s:=by
 obtain ⟨⟨cls,dd,data,sl⟩,its,n1,ho,hc,hda,r1⟩:=t1;obtain ⟨⟨cls2,dd2,data2,sl2⟩,its2,n2,ho2,hc2,hda2,r2⟩:=t2;simp only at hc hda hc2 hda2;subst hc hda hc2 hda2;have G:=yC (op := .LtE) (z:=fun i j=>decide (i≤j)) (o:=fun i j=>decide (i≤j)) (A:=A.in1) (s:=s) (fun i j t u prog w E Q h=>richCompare_gives (op := .LtE) (typeIs_int _ _ t) (typeIs_int _ _ u) F.slot_int_le F.entry_int_le (F.args_int_le_2 _ _) (gives_int_le _ _ t u) (fun x=>nomatch x) h) r1 r2;exact richCompare_meets_room (op := .LtE) ⟨_,ho,rfl⟩ ⟨_,ho2,rfl⟩ PySem.F.slot_tuple_le PySem.F.entry_tuple_le (PySem.F.args_tuple_le_2 _ _) (jZ _ _ its.toArray its2.toArray n1 n2 dd dd2 sl sl2 _)
  ⟨ho,ho2,by simpa using G,show Value.bool _≠Value.notImplemented∧Q (.bool _) s from ⟨(fun x=>nomatch x),h⟩⟩ (by omega)
end
section
variable {prog:Program} {w:World} {A:Around} {R:Result->Shared->Prop} {I:Addr} {fp wr:List Addr} {n:Nat} {P:Nat->Value->Prop} {St:Nat->Heap->Prop}
def Kp (wr:List Addr) (S:Addr) (h h':Heap):Prop := ∀ b o,b ∉ wr->b≠S->h.get? b=some o->h'.get? b=some o
theorem Kp.tr {wr:List Addr} {S:Addr} {h h' h2:Heap} (x:Kp wr S h h') (y:Kp wr S h' h2):Kp wr S h h2:=fun b o e1 e2 e=>y b o e1 e2 (x b o e1 e2 e)
theorem qFi (W:Walks prog w A.in1 I fp wr n P St) (bt:Nat->Nat->Bool) {S:Addr} (hSf:S ∉ fp) {h0:Heap}
  (hcmp:∀ i j vi vj (s:Shared) (Q:Value->Shared->Prop) (E:Value->Shared->Prop),Kp wr S h0 s.heap->P i vi->P j vj->Q (.bool (bt i j)) s->wpAny (model prog w) A.in1 (richCompare .Gt vi vj) Q E s) :
  ∀ (k j:Nat) (s:Shared) (vb:Value) (c:Nat),n - (j + 1)=k->j + 1≤n->Kp wr S h0 s.heap->St (j + 1) s.heap->P (argBest bt j) vb->s.heap.get? S=some { cls := .type "list",dict:=none,data := .seq #[vb,vb] c,slots := #[] } ->
   (∀ v h' tk,P (argBest bt (n - 1)) v->Kp wr S s.heap h'->R (.ok (.ret v)) { s with heap:=h',toks:=tk })->codeAny (model prog w) A (.builtin "max.loop" ⟨[.ref I,.none,.ref S],[]⟩) R s:=by
 have hSw:S ∉ wr:=fun h=>hSf (W.sub _ h);have nm:(toString "max" ++ toString ".loop":String) = "max.loop" := by decide
 intro k;induction k with
 |zero =>
  intro j s vb c hk hj hK hst hP hS hR;have e1:n=j + 1:=by omega
  subst e1;refine BK F.entry_max_loop ?_;rw [Bp Bg _];show wpAny _ A.in1 (seqItems? (.ref S) >>= _) _ _ s;refine AA (Br hS rfl ?_);show wpAny _ A.in1 (tryCatch (pyNext (.ref I)) _ >>= _) _ _ s;refine AA (wpAny_tryCatch (W.done s _ _ hst fun h2 t2 k2 => ?_));show wpAny _ A.in1 (updateSeq S (fun _ => #[]) >>= _) _ _ _;exact AA (wpAny_updateSeq (k2 S _ hSw hS) rfl (AA (wpAny_letGo (AB (hR vb _ t2 hP fun b o n1 n2 e=>(Ak _ _ (Ne.symm n2)).trans (k2 b o n1 e))))))
 |succ k ih =>
  intro j s vb c hk hj hK hst hP hS hR;have e1:j + 1 < n:=by omega
  refine BK F.entry_max_loop ?_;rw [Bp Bg _];show wpAny _ A.in1 (seqItems? (.ref S) >>= _) _ _ s;refine AA (Br hS rfl ?_);show wpAny _ A.in1 (tryCatch (pyNext (.ref I)) _ >>= _) _ _ s;refine AA (wpAny_tryCatch (W.item (j + 1) s _ _ e1 hst fun v h2 t2 hv st2 k2 => ?_));have S2:=k2 S _ hSw hS;have K2:Kp wr S s.heap h2:=fun b o n1 _ e=>k2 b o n1 e;show wpAny _ A.in1 (tryCatch (holding [v,v] (richCompare .Gt v vb >>= _)) _ >>= _) _ _ _;refine AA (wpAny_tryCatch (An (AA (hcmp (j + 1) (argBest bt j) v vb _ _ _ (hK.tr K2) hv hP ?_))));refine AA (An (Bm ?_));refine AA (wpAny_letGo (AB ?_));cases q:bt (j + 1) (argBest bt j) with
  |true =>
   simp only [CJ];refine AA (wpAny_updateSeq S2 rfl (AA (wpAny_letGo ?_)));rw [nm];have K3:Kp wr S s.heap (h2.update S (Obj.mapSeq fun _ => #[v,v])):=fun b o n1 n2 e=>(Ak _ _ (Ne.symm n2)).trans (k2 b o n1 e);exact AB ⟨CW Bg _,ih (j + 1) _ v _ (by omega) e1 (hK.tr K3) (W.frame _ _ _ st2 fun b hb o e=>(Ak _ _ (fun z:S=b=>hSf (by rw [z];exact hb))).trans e) (by simp only [argBest,q,CJ];exact hv) (BG _ S2 rfl)
    fun v' h3 t3 p3 k3=>hR v' h3 t3 p3 (K3.tr k3)⟩
  |false =>simp only [Az,BU];refine AA (wpAny_letGo ?_);rw [nm];exact AB ⟨CW Bg _,ih (j + 1) _ vb c (by omega) e1 (hK.tr K2) st2 (by simp only [argBest,q,Az,BU];exact hP) S2 fun v' h3 t3 p3 k3=>hR v' h3 t3 p3 (K2.tr k3)⟩
theorem qCo (W:Walks prog w A.in1 I fp wr n P St) (bt:Nat->Nat->Bool) {S:Addr} (hSf:S ∉ fp) (hn:0 < n) {s:Shared} {c:Nat}
  (hcmp:∀ i j vi vj (s':Shared) (Q:Value->Shared->Prop) (E:Value->Shared->Prop),Kp wr S s.heap s'.heap->P i vi->P j vj->Q (.bool (bt i j)) s'->wpAny (model prog w) A.in1 (richCompare .Gt vi vj) Q E s')
  (hst:St 0 s.heap) (hS:s.heap.get? S=some { cls := .type "list",dict:=none,data := .seq #[] c,slots := #[] })
  (hR:∀ v h' tk,P (argBest bt (n - 1)) v->Kp wr S s.heap h'->R (.ok (.ret v)) { s with heap:=h',toks:=tk }):codeAny (model prog w) A (.builtin "max.loop" ⟨[.ref I,.none,.ref S],[]⟩) R s:=by
 have hSw:S ∉ wr:=fun h=>hSf (W.sub _ h);have nm:(toString "max" ++ toString ".loop":String) = "max.loop" := by decide
 refine BK F.entry_max_loop ?_;rw [Bp Bg _];show wpAny _ A.in1 (seqItems? (.ref S) >>= _) _ _ s;refine AA (Br hS rfl ?_);show wpAny _ A.in1 (tryCatch (pyNext (.ref I)) _ >>= _) _ _ s;refine AA (wpAny_tryCatch (W.item 0 s _ _ hn hst fun v h2 t2 hv st2 k2 => ?_));show wpAny _ A.in1 (updateSeq S (fun _ => #[v,v]) >>= _) _ _ _;refine AA (wpAny_updateSeq (k2 S _ hSw hS) rfl ?_);rw [nm];have K3:Kp wr S s.heap (h2.update S (Obj.mapSeq fun _ => #[v,v])):=fun b o n1 n2 e=>(Ak _ _ (Ne.symm n2)).trans (k2 b o n1 e);exact AB ⟨CW Bg _,qFi W bt hSf hcmp _ 0 _ v _ rfl hn K3 (W.frame _ _ _ st2 fun b hb o e=>(Ak _ _ (fun z:S=b=>hSf (by rw [z];exact hb))).trans e) hv (BG _ (k2 S _ hSw hS) rfl) fun v' h3 t3 p3 k3=>hR v' h3 t3 p3 (K3.tr k3)⟩
end
section
variable {prog:Program} {w:World} {A:Around} {E:Value->Shared->Prop} {s:Shared}
theorem qFZ {x:Value} {Q:Value->Shared->Prop}
  (h:wpAny (model prog w) A.in1 (pyIter x) (fun it s₂ => ∃ I fp wr n P St bt,it = .ref I∧Walks prog w A.in1 I fp wr n P St∧St 0 s₂.heap∧(∀ b∈fp,b < s₂.heap.objs.size)∧0 < n ∧
   (∀ i j vi vj (s':Shared) (Q:Value->Shared->Prop) (E:Value->Shared->Prop),(∀ b o,b ∉ wr->s₂.heap.get? b=some o->s'.heap.get? b=some o)->P i vi->P j vj->Q (.bool (bt i j)) s'->wpAny (model prog w) A.in1 (richCompare .Gt vi vj) Q E s') ∧
   ∀ v h' tk,P (argBest bt (n - 1)) v->(∀ b o,b ∉ wr->s₂.heap.get? b=some o->h'.get? b=some o)->Q v { s₂ with heap:=h',toks:=tk }) E s):wpAny (model prog w) A (call (.builtin "max") [x]) Q E s:=by
 have nm:(toString "max" ++ toString ".loop":String) = "max.loop" := by decide
 refine call_function_tree F.kind_max F.plain_max F.entry_max (F.args_max1 _) ?_;show wpAny _ A.in1 (Builtin.Builtins.bindParams "max" ["key","default"] 0 ⟨[],[]⟩ >>= _) _ _ s;refine AA (Ao (show Builtin.Builtins.bindParams "max" ["key","default"] 0 ⟨[],[]⟩=pure [none,none] from rfl) (AA (AB ?_)));refine AA (BZ h (fun it s₂ h₂ => ?_) fun _ _ e=>e);obtain ⟨I,fp,wr,n,P,St,bt,rfl,W,hst,hfp,hn,hc,hQ⟩:=h₂;refine AA (A1 ?_);have old:∀ b o,s₂.heap.get? b=some o->b≠s₂.heap.objs.size:=fun b o e=>Ac (AT e);rw [nm];exact AB ⟨CW Bg _,qCo W bt (fun hm=>BI _ (hfp _ hm)) hn (fun i j vi vj s' Q E k p1 p2 q=>hc i j vi vj s' Q E (fun b o n1 e=>k b o n1 (old b o e) (AD _ e)) p1 p2 q)
  (W.frame _ _ _ hst fun b _ o e=>AD _ e) (AY _ rfl) fun v h' tk p k=>hQ v h' tk p fun b o n1 e=>k b o n1 (old b o e) (AD _ e)⟩
end
section
variable {X:Cx}
def gtL (a b:List Int):Bool:=qAU (fun i j=>decide (i > j)) (fun i j=>decide (i > j)) a b
def leL (a b:List Int):Bool:=qAU (fun i j=>decide (i≤j)) (fun i j=>decide (i≤j)) a b
def Zu (kss:List (List Int)):Nat:=argBest (fun i j=>gtL (kss.getD i []) (kss.getD j [])) (kss.length - 1)
theorem yj (bt:Nat->Nat->Bool):∀ n,argBest bt n≤n
 |0=>AG _
 |n + 1=>by
  unfold argBest;split
  ·exact AG _
  ·exact Nat.le_succ_of_le (yj bt n)
theorem qEa {pins:List (Addr×Obj)} {σ:L2.St} {H:Hp} {s:Shared} (I:L2.Inv X pins σ H s) {a:Addr} {ks:List Int} (h:SqT X.K H a (ks.map V.int)):TI s.heap ks a:=by obtain ⟨its,rv,⟨o,h1,h2,n,h3⟩,hz⟩:=I.tuple h;exact ⟨o,its,n,h1,h2,h3,rv⟩
theorem qIE {pins:List (Addr×Obj)} {σ:L2.St} {H:Hp} {s:Shared} (I:L2.Inv X pins σ H s) {xs:List V} {kss:List (List Int)} (T:ET.TsL X.K H xs kss):∀ {its:List Value},Vals xs its -> ∀ (i:Nat) (v:Value),its[i]? = some v -> ∃ a,v = .ref a∧xs.getD i .non = .ref a∧TI s.heap (kss.getD i []) a:=by
 induction T with
 |nil=>intro its rv i v e;cases rv;simp at e
 | @cons a ks xs kss h1 ne _ ih =>
  intro its rv i v e;cases rv with
  |cons r t =>
   cases i with
   |zero =>obtain rfl:=(show _=Value.ref a from r);simp only [List.getElem?_cons_zero,Option.some.injEq] at e;exact ⟨a,e.symm,rfl,qEa I h1⟩
   |succ i=>exact ih t i v (by simpa using e)
theorem qBu (hu:X.A.units + 64 < cLine):Wo X (.builtin "max") (fun xs H Q => ∃ (p:Addr) (vs:List V) (kss:List (List Int)),xs=[.ref p]∧SqL X.K H p vs∧ET.TsL X.K H vs kss∧kss≠[]∧Q (vs.getD (Zu kss) .non) H):=by
 intro pins s σ H xs us Q I r h;obtain ⟨p,vs,kss,rfl,hq,T,hne,q⟩:=h;obtain ⟨u,rfl,rx⟩:=YE r;cases rx;obtain ⟨its,r',pl,hz⟩:=I.list hq;have V:=ET.tsv_of I T r';have hl:=V.len;have hpos:0 < kss.length:=List.length_pos_iff.mpr hne;have hsz:its.toArray.size=kss.length:=by rw [AM,hl]
 have hat:=fun i v (e:its.toArray[i]? = some v)=>qIE I T r' i v (by simpa using e)
 refine qFZ (yE I pl fun W st fp k=>⟨_,_,_,_,_,_,fun i j=>gtL (kss.getD i []) (kss.getD j []),rfl,W,st,fp,by rw [hsz];exact hpos,fun i j vi vj s' Q' E' kk p1 p2 q' => ?_,fun v h' tk hv hk => ?_⟩)
 ·obtain ⟨a1,rfl,_,t1⟩:=hat i vi p1;obtain ⟨a2,rfl,_,t2⟩:=hat j vj p2;exact qIu (t1.keep fun o e=>k s'.heap kk a1 o e) (t2.keep fun o e=>k s'.heap kk a2 o e) (by show X.A.units + 1 + 8 < cLine;omega) q'
 ·rw [hsz] at hv;obtain ⟨a1,rfl,e1,t1⟩:=hat _ v hv;have q:Q (vs.getD (argBest (fun i j=>gtL (kss.getD i []) (kss.getD j [])) (kss.length - 1)) .non) H:=q;rw [e1] at q;exact ⟨.ref a1,H,I.kept (t':=tk) (k h' hk),rfl,q⟩
def qJB (K:W.Frag):R2:=fun u v H Q => ∃ a b ks ms,u = .ref a∧v = .ref b∧SqT K H a (ks.map V.int)∧SqT K H b (ms.map V.int)∧Q (.bl (leL ks ms)) H
theorem qHd (hu:X.A.units + 64 < cLine):OpR X (compareOp .LtE) (qJB X.K):=by intro pins s σ H x y v u Q I rx ry h;obtain ⟨a,b,ks,ms,rfl,rfl,h1,h2,q⟩:=h;cases rx;cases ry;exact qJY (qEa I h1) (qEa I h2) (by omega) ⟨.bl _,H,I,rfl,q⟩
theorem qAj:Wo X (.type "bool") (fun xs H Q => ∃ i,xs=[.int i]∧Q (.bl (i != 0)) H):=by intro pins s σ H xs us Q I r h;obtain ⟨i,rfl,q⟩:=h;obtain ⟨u,rfl,rx⟩:=YE r;obtain ⟨t,rfl⟩:=(show ∃ t,_=Value.int i t from rx);exact call_bool_int ⟨.bl _,H,I,rfl,q⟩
end
end EX
namespace EV
open PySem PySem.Spec PyProof.Rows L2 EX ET
section
variable {X:Cx} {E:XK} {e a c:Expr} {es:List Expr} {fa fb:FE} {pos:Pos}
def yx:List PV->qD->Rs PV:=fun ps st=>match ps with
 |[p]=>match asL st p with
  |some l=>match Qr ZZ l with
   |some (ks::kss) => .ok (yU ((ks::kss).getD (Zu (ks::kss)) [])) st
   |_ => .no
  |none => .no
 |_ => .no
theorem qE0 {K:W.Frag} {H:Hp} {xs:List V} {kss:List (List Int)} (T:TsL K H xs kss):xs.length=kss.length:=by
 induction T with
 |nil=>rfl
 |cons _ _ _ ih=>rw [AH,AH,ih]
theorem qDR {α β:Type} {d:α} {d':β}:∀ {l:List α} {m:List β} {i:Nat},l.length=m.length->i < l.length->(l.getD i d,m.getD i d')∈l.zip m
 |[],_,i,_,h=>absurd h (A8 i)
 |x::l,[],i,h,_=>by cases h
 |x::l,y::m,0,_,_=>AL
 |x::l,y::m,i + 1,h,h2=>AE _ (qDR (l:=l) (m:=m) (i:=i) (by simpa using h) (by simpa using h2))
theorem qFp {ta:FA} {p:Pos} (hu:X.A.units + 64 < cLine) (ha:VA X E (e::es) ta) (hm:X.mg "max" = none) (hg:Gl X "max" := by rfl) (he:starEach (e::es) X.env=(false,eval e X.env)::starEach es X.env:=by rfl) (hpl:(backTo pos (starEach es X.env)).any (·.1)=false:=by rfl):VE X E (.Call (.Name "max" p) (e::es) [] pos) (qH yx ta) :=
 WT (qBu hu) (fun H b st ps vs Q S r P=>by
  unfold yx at P;split at P
  ·rename_i p';split at P
   ·rename_i l el;split at P
    ·rename_i ks kss en;obtain ⟨v,rfl,r1⟩:=RVs.one r;obtain ⟨x,xs,rfl,h2,h3⟩:=Q5 S r1 el;obtain ⟨T,hr⟩:=j5 h3 en;have hl:=qE0 T;have hb:Zu (ks::kss) < xs.length:=by rw [hl];unfold Zu;have:=yj (fun i j=>gtL ((ks::kss).getD i []) ((ks::kss).getD j [])) ((ks::kss).length - 1);simp only [AH] at this ⊢;omega
     exact ⟨x,xs,ks::kss,rfl,h2,T,(fun z=>by cases z),PostE.here P S (hr _ (qDR hl hb))⟩
    ·exact P.elim
   ·exact P.elim
  ·exact P.elim) hg hm Boot.«max» ha (he:=he) (hpl:=hpl)
def qCB:PV->PV->qD->Rs PV:=fun p q st=>match ZZ p,ZZ q with
 |some ks,some ms => .ok (.bl (leL ks ms)) st
 |_,_ => .no
theorem qHr:OpG X E (qJB X.K) qCB:=by
 intro H b st p q u v Q S rp rq P;unfold qCB at P;split at P
 ·rename_i ks ms e1 e2;obtain ⟨x,rfl,h1,_,_⟩:=jc rp e1;obtain ⟨y,rfl,h2,_,_⟩:=jc rq e2;exact ⟨x,y,ks,ms,rfl,rfl,h1,h2,PostE.here P S (by unfold RV;rfl)⟩
 ·exact P.elim
def qEB:List PV->qD->Rs PV:=fun ps st=>match ps with
 |[.int i] => .ok (.bl (i != 0)) st
 |_ => .no
theorem qCs {ta:FA} {p:Pos} (ha:VA X E (e::es) ta) (hm:X.mg "bool" = none) (hg:Gl X "bool" := by rfl) (he:starEach (e::es) X.env=(false,eval e X.env)::starEach es X.env:=by rfl) (hpl:(backTo pos (starEach es X.env)).any (·.1)=false:=by rfl):VE X E (.Call (.Name "bool" p) (e::es) [] pos) (qH qEB ta) :=
 jL qAj (fun H b st ps vs Q S r P=>by
  unfold qEB at P;split at P
  ·rename_i i;obtain ⟨v,rfl,r1⟩:=RVs.one r;unfold RV at r1;subst r1;exact ⟨i,rfl,PostE.here P S (by unfold RV;rfl)⟩
  ·exact P.elim) hg hm Boot.«bool» ha (he:=he) (hpl:=hpl)
end
end EV
end
section
namespace EV
open PySem PySem.Spec PyProof.Rows L2 EX
section
variable {X:Cx} {E:XK} {a c:Expr} {fa fb:FE} {pos:Pos}
def qHD (neg:Bool):R2:=fun x y H Q => ∃ b d:Bool,x = .bl b∧y = .bl d∧Q (.bl (if neg then !(b==d) else (b==d))) H
theorem qHp:OpR X (compareOp .Is) (qHD false):=by
 intro pins s σ H x y v u Q I rx ry h;obtain ⟨b,d,rfl,rfl,q⟩:=h;cases rx;cases ry;refine wpAny_is_plain (by cases b <;> cases d <;> rfl) ⟨.bl _,H,I,?_,q⟩
 cases b <;> cases d <;> rfl
theorem qDO:OpR X (compareOp .IsNot) (qHD true):=by
 intro pins s σ H x y v u Q I rx ry h;obtain ⟨b,d,rfl,rfl,q⟩:=h;cases rx;cases ry;refine wpAny_isNot_plain (by cases b <;> cases d <;> rfl) ⟨.bl _,H,I,?_,q⟩
 cases b <;> cases d <;> rfl
def qCk (neg:Bool):PV->PV->qD->Rs PV:=fun p q st=>match p,q with
 | .bl b,.bl d => .ok (.bl (if neg then !(b==d) else (b==d))) st
 |_,_ => .no
theorem qEH {neg:Bool}:OpG X E (qHD neg) (qCk neg):=by
 intro H b st p q u v Q S rp rq P;unfold qCk at P;split at P
 ·unfold RV at rp rq;exact ⟨_,_,rp,rq,PostE.here P S zE⟩
 ·exact P.elim
theorem qG4 (ha:VE X E a fa) (hb:VE X E c fb):VE X E (.Compare a [.Is] [c] pos) (qI (qCk false) fa fb):=j7 qHp qEH ha hb
end
end EV
end
noncomputable section
namespace K21
open PySem PySem.Spec PyProof.Rows L2 EX EV
structure Ad where
 (Z0 Z1 Z2 Z3 Z4 Z5 Z6 Z7 Z8 Z9 Z10 Z11:Addr)
 (is_whole is_whole_within is_rising is_length need_length is_bar places_of is_within covered_by is_packing is_filling law_cell law_mix law_box law_take law_cover law_laid law_floor law_whole law_fillings law_is_bar law_are_apart law_odd law_bent law_kind law_said law:Addr)
def kitTab:List ((String×String)×Bool):=[(("NoneType","int"),false),(("NoneType","bool"),false),(("NoneType","tuple"),false),(("NoneType","list"),false),(("int","int"),true),(("int","bool"),false),(("int","tuple"),false),(("int","list"),false),(("bool","int"),true),(("bool","bool"),true),(("bool","tuple"),false),(("bool","list"),false),(("str","int"),false),(("str","bool"),false),(("str","tuple"),false),(("str","list"),false),(("tuple","int"),false),(("tuple","bool"),false),(("tuple","tuple"),true),(("tuple","list"),false),(("list","int"),false),(("list","bool"),false),(("list","tuple"),false),(("list","list"),true),(("dict","int"),false),(("dict","bool"),false),(("dict","tuple"),false),(("dict","list"),false)]
def qJe (s T:String):Option Bool:=kitTab.lookup (s,T)
def Ad.kinds (a:Ad):List Addr:=[a.Z1,a.Z2,a.Z3,a.Z4,a.Z5,a.Z6,a.Z7,a.Z8,a.Z9,a.Z10,a.Z11]
def Dist (a:Ad):Prop:=a.kinds.Nodup
instance (a:Ad):Decidable (Dist a):=by unfold Dist;infer_instance
theorem Dist.nd {a:Ad} (h:Dist a):a.kinds.Nodup:=h
def Qp (a:Ad):List Addr:=[a.Z1]
def kit (a:Ad):Value->Value->Option Bool
 | .type s,.type T=>qJe s T
 | .ref x,.ref d=>if x∈Qp a∧d∈a.kinds then some (x==d) else none
 | .ref x,.type T=>if x∈Qp a∧T = "ValueError" then some true else none
 |_,_=>none
def top (i:Nat):Stmt:=PySem.Challenge.pw_barfloors_k21_fillings_looked_at.main.body.getD i (.Pass ⟨0,0,0,0⟩)
abbrev WL:Stmt:=top 16
abbrev QT:Stmt:=top 17
abbrev ww:Stmt:=top 18
abbrev wu:Stmt:=top 19
abbrev Ql:Stmt:=top 20
abbrev Wm:Stmt:=top 25
abbrev wG:Stmt:=top 26
abbrev wx:Stmt:=top 27
abbrev wR:Stmt:=top 28
abbrev Qz:Stmt:=top 30
abbrev wK:Stmt:=top 32
abbrev WJ:Stmt:=top 34
abbrev Wf:Stmt:=top 35
abbrev Wh:Stmt:=top 36
abbrev wk:Stmt:=top 37
abbrev wH:Stmt:=top 38
abbrev wm:Stmt:=top 39
abbrev wD:Stmt:=top 40
abbrev wp:Stmt:=top 41
abbrev Qb:Stmt:=top 42
abbrev wL:Stmt:=top 43
abbrev QV:Stmt:=top 44
abbrev Wg:Stmt:=top 45
abbrev wn:Stmt:=top 46
abbrev WH:Stmt:=top 47
abbrev wc:Stmt:=top 48
abbrev ze:Stmt:=top 49
def Yh (a:Ad):FS:=(ql (Zc (qH (QY (kit a)) (qA (qB 0) (qA (vC (.ty "int")) qC))) (qHk (qH (QY (kit a)) (qA (qB 0) (qA (vC (.ty "bool")) qC))))))
def ZT (a:Ad):List PV->qD->Rs PV:=QI 1 1 (Yh a)
def w8 (a:Ad):FS:=(ql (Zc (qH (ZT a) (qA (qB 0) qC)) (qEZ gLe gLe (qB 1) (qB 0) (qB 2))))
def QR (a:Ad):List PV->qD->Rs PV:=QI 3 3 (w8 a)
def yL (a:Ad):FS:=(ql (qH yD (qA (vFz (QN [0] 1 (Jk (qA (vC (.int 1)) (qA (qH wB (qA (qB 0) qC)) qC))) (Qe 1) [] [] (qI Yi (qI gIx (qB 0) (qI Wt (qB 1) (vC (.int 1)))) (qI gIx (qB 0) (qB 1))))) qC)))
def zz (a:Ad):List PV->qD->Rs PV:=QI 1 1 (yL a)
def zf (a:Ad):FS:=(ql (qH (QR a) (qA (qB 0) (qA (vC (.int 2)) (qA (vC (.int 5)) qC)))))
def zn (a:Ad):List PV->qD->Rs PV:=QI 1 1 (zf a)
def W6 (a:Ad):FS:=(Qc (Qn (QM (qH (zn a) (qA (qB 0) qC)))) (jn a.Z1 (qA (vJ [(vC (.str "a length is a whole number from ")),(qGw (vC (.int 2))),(vC (.str " to ")),(qGw (vC (.int 5)))] Str.empty) qC)) QL)
def Qm (a:Ad):List PV->qD->Rs PV:=QI 1 1 (W6 a)
def J1 (a:Ad):FS:=(qP (Qc (Wb (Qn (QM (qH (QY (kit a)) (qA (qB 0) (qA (vC (.ty "tuple")) qC))))) (vTB (qI gNe (qH wB (qA (qB 0) qC)) (vC (.int 3))))) (ql (vC (.bl false))) QL) (qP (Ww (qB 0) (ZS 3 (QX (qr 1) (QX (qr 2) (QX (qr 3) Zr))))) (qP (Qc (Wb (Qn (QM (qH (QR a) (qA (qB 1) (qA (Z0 (vC (.int 40))) (qA (vC (.int 40)) qC)))))) (Qn (QM (qH (QR a) (qA (qB 2) (qA (Z0 (vC (.int 40))) (qA (vC (.int 40)) qC))))))) (ql (vC (.bl false))) QL) (ql (qH (QR a) (qA (qB 3) (qA (vC (.int 0)) (qA (vC (.int 1)) qC))))))))
def Ze (a:Ad):List PV->qD->Rs PV:=QI 1 4 (J1 a)
def yN (a:Ad):FS:=(qP (Ww (qB 0) (ZS 3 (QX (qr 2) (QX (qr 3) (QX (qr 4) Zr))))) (qP (Qc (vTB (qI gEq (qB 4) (vC (.int 0)))) (ql (qH WI (qA (vFz (QN [2,3] 1 (WC (qA (qB 1) qC)) (Qe 2) [] [] (qe (qA (qB 0) (qA (qI qx (qB 1) (qB 2)) qC))))) qC))) QL) (ql (qH WI (qA (vFz (QN [3,2] 1 (WC (qA (qB 1) qC)) (Qe 2) [] [] (qe (qA (qI qx (qB 1) (qB 2)) (qA (qB 0) qC))))) qC)))))
def wE (a:Ad):List PV->qD->Rs PV:=QI 2 5 (yN a)
def yK (a:Ad):FS:=(ql (qH yD (qA (vFz (QN [0] 1 (q5 (qH (wE a) (qA (qB 1) (qA (qB 2) qC)))) (Qe 1) [] [] (qI (gIn false) (qB 1) (qB 0)))) qC)))
def Wv (a:Ad):List PV->qD->Rs PV:=QI 3 3 (yK a)
def Z3 (a:Ad):FS:=(ql (vFz (QN [1] 2 (q5 (qB 0)) (Qe 1) [] [⟨(q5 (qH (wE a) (qA (qB 1) (qA (qB 0) qC)))),(Qe 2),[]⟩] (qB 2))))
def zU (a:Ad):List PV->qD->Rs PV:=QI 2 2 (Z3 a)
def Zy (a:Ad):FS:=(qP (zP (qH (Qm a) (qA (qB 1) qC))) (qP (Qc (Wb (Qn (QM (qH (QY (kit a)) (qA (qB 2) (qA (vC (.ty "tuple")) qC))))) (Wb (Qn (QM (qH yD (qA (vFz (QN [] 1 (q5 (qB 2)) (Qe 0) [] [] (qH (Ze a) (qA (qB 0) qC)))) qC)))) (Qn (QM (qH (zz a) (qA (qB 2) qC)))))) (ql (vC (.bl false))) QL) (qP (Qc (Qn (QM (qH yD (qA (vFz (QN [0,1] 1 (q5 (qB 2)) (Qe 2) [] [] (qH (Wv a) (qA (qB 0) (qA (qB 2) (qA (qB 1) qC)))))) qC)))) (ql (vC (.bl false))) QL) (qP (qY 3 (qH (zU a) (qA (qB 2) (qA (qB 1) qC)))) (ql (qI gEq (yA (qB 3)) (qH wB (qA (qB 3) qC))))))))
def Wc (a:Ad):List PV->qD->Rs PV:=QI 3 4 (Zy a)
def Zo (a:Ad):FS:=(ql (Zc (qH (Wc a) (qA (qB 0) (qA (qB 1) (qA (qB 2) qC)))) (qI gEq (qI zG (qH wB (qA (qB 2) qC)) (qB 1)) (qH wB (qA (qB 0) qC)))))
def QW (a:Ad):List PV->qD->Rs PV:=QI 3 3 (Zo a)
def YU (a:Ad):FS:=(qP (Qc (vTB (qI gLt (qB 1) (qH wB (qA (qB 0) qC)))) (ql (qI gIx (qB 0) (qB 1))) QL) (ql (qI qx (qI zG (vC (.int 6151)) (qB 1)) (vC (.int 29)))))
def zZ (a:Ad):List PV->qD->Rs PV:=QI 2 2 (YU a)
def Y5 (a:Ad):FS:=(qP (qY 2 (qI qx (qI zG (qI qx (qB 0) (vC (.int 1))) (vC (.int 40692))) (qI zG (vC (.int 104729)) (qB 1)))) (qP (qY 2 (qI qx (qI qAZ (qI qBZ (qB 2) (qB 2)) (vC (.int 2147483399))) (qB 1))) (ql (qI qAZ (qI zG (qB 2) (qI qx (qB 2) (vC (.int 31)))) (vC (.int 2147483563))))))
def ZE (a:Ad):List PV->qD->Rs PV:=QI 2 3 (Y5 a)
def jG (a:Ad):FS:=(qP (qY 2 (qH (zZ a) (qA (qB 0) (qA (qB 1) qC)))) (qP (Qc (vTB (qI gEq (qI qAZ (qB 2) (vC (.int 2))) (vC (.int 0)))) (Z4 (QP (qA (qI J3 (qB 2) (vC (.int 2))) qC))) QL) (qP (qY 3 (vC (.int 0))) (qP (WX (WC (qA (vC (.int 24)) qC)) (qr 4) (qY 3 (qI qx (qI zG (qB 3) (vC (.int 2147483647))) (qH (ZE a) (qA (qB 2) (qA (qB 4) qC)))))) (Z4 (QP (qA (qB 3) qC)))))))
def ZB (a:Ad):List PV->qD->Rs PV:=QI 2 5 (jG a)
def yn (a:Ad):FS:=(qP (Ww (qH Zx (qA (qI gIx (qB 0) (vC (.int 0))) (qA (qB 1) qC))) (ZS 2 (QX (qr 2) (QX (qr 3) Zr)))) (qP (qBX (qB 0) (vC (.int 0)) (qB 2)) (ql (qB 3))))
def qS (a:Ad):List PV->qD->Rs PV:=QI 2 4 (yn a)
def yP (a:Ad):FS:=(qP (Ww (qB 0) (ZS 3 (QX (qr 2) (QX (qr 3) (QX (qr 4) Zr))))) (ql (vFz (QN [2,4,3] 1 (WC (qA (qB 1) qC)) (Qe 3) [] [] (qe (qA (qI qx (qB 0) (qI zG (qB 3) (qB 1))) (qA (qI Wt (qI qx (qB 2) (qB 3)) (qI zG (qB 3) (qB 1))) qC)))))))
def QZ (a:Ad):List PV->qD->Rs PV:=QI 2 5 (yP a)
def ZU (a:Ad):FS:=(qP (qY 3 (vFz (QP qC))) (qP (W8 4 (QP qC)) (qP (JM 5 6 (qA (qI qx (qB 1) (qH (qS a) (qA (qB 0) (qA (qI Wt (vC (.int 9)) (qB 1)) qC)))) (qA (qI qx (qB 1) (qH (qS a) (qA (qB 0) (qA (qI Wt (vC (.int 9)) (qB 1)) qC)))) qC))) (qP (WX (WC (qA (qI qx (vC (.int 1)) (qH (qS a) (qA (qB 0) (qA (qB 2) qC)))) qC)) (qr 7) (qP (qY 8 (qe (qA (qH (qS a) (qA (qB 0) (qA (qB 5) qC))) (qA (qH (qS a) (qA (qB 0) (qA (qB 6) qC))) (qA (qH (qS a) (qA (qB 0) (qA (vC (.int 2)) qC))) qC))))) (qP (Qc (WS (vTB (qI gNe (qB 4) (vFz (QP qC)))) (vTB (qI gEq (qH (qS a) (qA (qB 0) (qA (vC (.int 2)) qC))) (vC (.int 0))))) (qP (qY 9 (qI gIx (qB 4) (Z0 (vC (.int 1))))) (qY 8 (qe (qA (qH yo (qA (vC (.int 7)) (qA (qI Wt (qI qx (qI gIx (qB 9) (vC (.int 0))) (vC (.int 1))) (qI gIx (qB 9) (vC (.int 2)))) qC))) (qA (qH yo (qA (vC (.int 7)) (qA (qI qx (qI gIx (qB 9) (vC (.int 1))) (qI gIx (qB 9) (vC (.int 2)))) qC))) (qA (qI gIx (qB 9) (vC (.int 2))) qC)))))) QL) (qP (qY 10 (qH (QZ a) (qA (qB 8) (qA (qB 1) qC)))) (Qc (WS (vTB (qI qCB (qH yx (qA (qB 10) qC)) (qe (qA (vC (.int 7)) (qA (vC (.int 7)) qC))))) (WS (vTB (qI gLt (qH YH (qA (vFz (QN [] 1 (q5 (qB 10)) (Qe 0) [] [] (qI gIx (qB 0) (vC (.int 1))))) qC)) (vC (.int 8)))) (vTB (qI gEq (vFz (QN [3] 1 (q5 (qB 10)) (Qe 1) [(vTB (qI (gIn false) (qB 1) (qB 0)))] [] (qB 1))) (vFz (QP qC)))))) (qP (Qa (qB 4) (qB 8)) (qY 3 (vFz (ZO (qB 3) (qB 10))))) QL))))) (ql (qe (qA (qH WI (qA (z5 (qB 3)) qC)) (qA (qH WI (qA (z5 (qB 4)) qC)) qC))))))))
def WD (a:Ad):List PV->qD->Rs PV:=QI 3 11 (ZU a)
def zl (a:Ad):FS:=(qP (qY 3 (qH (qS a) (qA (qB 0) (qA (vC (.int 5)) qC)))) (qP (JM 4 5 (qA (qI qx (vC (.int 1)) (qH (qS a) (qA (qB 0) (qA (vC (.int 6)) qC)))) (qA (qI qx (vC (.int 1)) (qH (qS a) (qA (qB 0) (qA (vC (.int 6)) qC)))) qC))) (qP (Ww (qe (qA (qH (qS a) (qA (qB 0) (qA (qI Wt (vC (.int 9)) (qB 4)) qC))) (qA (qH (qS a) (qA (qB 0) (qA (qI Wt (vC (.int 9)) (qB 5)) qC))) qC))) (ZS 2 (QX (qr 6) (QX (qr 7) Zr)))) (qP (qY 8 (vFz (QP qC))) (qP (WX (WC (qA (qB 4) qC)) (qr 9) (qY 8 (vFz (ZO (qB 8) (vFz (QN [6,9,7,3,0] 1 (WC (qA (qB 5) qC)) (Qe 5) [(Wb (vTB (qI gEq (qB 3) (vC (.int 0)))) (vTB (qI gGt (qH (qS a) (qA (qB 4) (qA (vC (.int 6)) qC))) (vC (.int 0)))))] [] (qe (qA (qI qx (qB 0) (qB 1)) (qA (qI qx (qB 2) (qB 5)) qC))))))))) (qP (Qc (vTB (qI gGt (qB 3) (vC (.int 2)))) (ql (qI gIx (qH (WD a) (qA (qB 0) (qA (qB 1) (qA (qH qAo (qA (vC (.int 1)) (qA (qI J3 (qB 2) (qB 1)) qC))) qC)))) (vC (.int 0)))) QL) (ql (qH WI (qA (qEN (z5 (qB 8)) wF (Q4 (qB 2))) qC)))))))))
def WR (a:Ad):List PV->qD->Rs PV:=QI 3 10 (zl a)
def yQ (a:Ad):FS:=(ql (Zc (qH (QY (kit a)) (qA (qB 0) (qA (vC (.ty "int")) qC))) (qHk (qH (QY (kit a)) (qA (qB 0) (qA (vC (.ty "bool")) qC))))))
def WO (a:Ad):List PV->qD->Rs PV:=QI 1 1 (yQ a)
def zi (a:Ad):FS:=(qP (W8 2 (QP qC)) (qP (W8 3 (QP (qA (qe (qA (qe qC) (qA (vFz (Zd (qB 0))) qC))) qC))) (qP (WK (vTB (qI gNe (qB 3) (vFz (QP qC)))) (qP (Ww (qCS (qB 3)) (ZS 2 (QX (qr 4) (QX (qr 5) Zr)))) (Qc (vTB (qI gEq (qB 5) (vFz (QP qC)))) (Qa (qB 2) (qB 4)) (WX (q5 (qe (qA (vC (.int 1)) (qA (vC (.int 0)) qC)))) (qr 6) (qP (qY 7 (qH (QZ a) (qA (qI Q9 (qI gIx (qB 5) (vC (.int 0))) (qe (qA (qB 6) qC))) (qA (qB 1) qC)))) (Qc (vTB (qI gEq (vFz (QN [5] 1 (q5 (qB 7)) (Qe 1) [(vTB (qI (gIn true) (qB 1) (qB 0)))] [] (qB 1))) (vFz (QP qC)))) (Qa (qB 3) (qe (qA (qI Q9 (qB 4) (qe (qA (qI Q9 (qI gIx (qB 5) (vC (.int 0))) (qe (qA (qB 6) qC))) qC))) (qA (vFz (QN [7] 1 (q5 (qB 5)) (Qe 1) [(vTB (qI (gIn true) (qB 1) (qB 0)))] [] (qB 1))) qC)))) QL))))) 2000) (ql (qB 2)))))
def w4 (a:Ad):List PV->qD->Rs PV:=QI 2 8 (zi a)
def Zw (a:Ad):FS:=(qP (Qc (Wb (Qn (QM (qH (QY (kit a)) (qA (qB 2) (qA (vC (.ty "tuple")) qC))))) (Wb (vTB (qI gNe (qH wB (qA (qB 2) qC)) (vC (.int 3)))) (Qn (QM (qH yD (qA (vFz (QN [] 1 (q5 (qB 2)) (Qe 0) [] [] (qH (WO a) (qA (qB 0) qC)))) qC)))))) (ql (vC (.bl false))) QL) (qP (Qc (vTB (qI (gIn true) (qI gIx (qB 2) (vC (.int 2))) (qe (qA (vC (.int 0)) (qA (vC (.int 1)) qC))))) (ql (vC (.bl false))) QL) (ql (qI gEq (vFz (QN [0] 1 (q5 (qH (QZ a) (qA (qB 2) (qA (qB 1) qC)))) (Qe 1) [(vTB (qI (gIn true) (qB 1) (qB 0)))] [] (qB 1))) (vFz (QP qC))))))
def wP (a:Ad):List PV->qD->Rs PV:=QI 3 3 (Zw a)
def zd (a:Ad):FS:=(qP (Qc (Qn (QM (qH (QY (kit a)) (qA (qB 2) (qA (vC (.ty "tuple")) qC))))) (ql (vC (.bl false))) QL) (qP (qY 3 (vFz (QP qC))) (qP (WX (WC (qA (qH wB (qA (qB 2) qC)) qC)) (qr 4) (qP (Qc (Wb (Qn (QM (qH (wP a) (qA (qB 0) (qA (qB 1) (qA (qI gIx (qB 2) (qB 4)) qC)))))) (WS (vTB (qI gGt (qB 4) (vC (.int 0)))) (Qn (vTB (qI Yi (qI gIx (qB 2) (qI Wt (qB 4) (vC (.int 1)))) (qI gIx (qB 2) (qB 4))))))) (ql (vC (.bl false))) QL) (qY 3 (vFz (ZO (qB 3) (qH (QZ a) (qA (qI gIx (qB 2) (qB 4)) (qA (qB 1) qC)))))))) (ql (qI gEq (yA (qB 3)) (qH wB (qA (qB 3) qC)))))))
def wZ (a:Ad):List PV->qD->Rs PV:=QI 3 5 (zd a)
def jD (a:Ad):FS:=(qP (qY 1 (vFz (QP (qA (vC .non) (qA (vC (.bl true)) (qA (vC (.bl false)) (qA (Z0 (vC (.int 1))) (qA (vC (.int 0)) (qA (vC (.int 1)) (qA (vC (.int 2)) (qA (vC (.int 5)) (qA (vC (.int 6)) (qA (vC (.str "")) (qA (vC (.str "0")) (qA (vC (.str "none")) (qA (qe qC) (qA (qe (qA (vC (.int 0)) qC)) (qA (qe (qA (vC (.int 0)) (qA (vC (.int 0)) qC))) (qA (qe (qA (vC (.int 0)) (qA (vC (.int 0)) (qA (vC (.int 0)) qC)))) (qA (vFz (QP (qA (vC (.int 0)) qC))) (qA (vC .dct) (qA (qe (qA (vC (.int 0)) (qA (vC (.int 0)) (qA (vC (.bl true)) qC)))) qC)))))))))))))))))))))) (qP (qY 1 (vFz (ZO (qB 1) (vFz (QP (qA (qe (qA (qe (qA (vC (.int 0)) (qA (vC (.int 0)) (qA (vC (.int 0)) qC)))) qC)) (qA (qe (qA (qe (qA (vC (.int 0)) (qA (vC (.int 0)) (qA (vC (.int 1)) qC)))) qC)) (qA (vFz (QP (qA (qe (qA (vC (.int 0)) (qA (vC (.int 0)) (qA (vC (.int 0)) qC)))) qC))) (qA (qI qF7 (vC (.int 10)) (vC (.int 39))) (qA (qe (qA (vC (.int 0)) (qA (vC (.int 0)) (qA (vC (.int 2)) qC)))) (qA (qe (qA (vC (.int 0)) (qA (Z0 (vC (.int 1))) (qA (vC (.int 0)) qC)))) (qA (qe (qA (qe (qA (vC (.int 0)) (qA (vC (.int 0)) qC))) qC)) (qA (qe (qA (vC (.int 0)) (qA (vC (.int 0)) (qA (vC (.int 0)) (qA (vC (.int 0)) qC))))) qC))))))))))))) (ql (qI gIx (qB 1) (qH (qS a) (qA (qB 0) (qA (qH wB (qA (qB 1) qC)) qC)))))))
def zI (a:Ad):List PV->qD->Rs PV:=QI 1 2 (jD a)
def ZQ (a:Ad):FS:=(qP (qY 2 (qH (zI a) (qA (qB 0) qC))) (qP (Qc (vTB (qI gEq (qB 1) (qe qC))) (ql (qI gIx (vFz (QP (qA (qB 2) (qA (qe (qA (qB 2) qC)) (qA (vFz (QP qC)) (qA (qe (qA (qe (qA (vC (.int 0)) (qA (vC (.int 0)) (qA (vC (.int 0)) qC)))) qC)) qC)))))) (qH (qS a) (qA (qB 0) (qA (vC (.int 4)) qC))))) QL) (qP (qY 3 (qH (qS a) (qA (qB 0) (qA (qH wB (qA (qB 1) qC)) qC)))) (qP (qY 4 (qH (qS a) (qA (qB 0) (qA (qH wB (qA (qB 1) qC)) qC)))) (qP (Ww (qI gIx (qB 1) (qB 3)) (ZS 3 (QX (qr 5) (QX (qr 6) (QX (qr 7) Zr))))) (qP (W8 8 (Zd (qB 1))) (qP (JK (qe (qA (qI gIx (qB 8) (qB 4)) (qA (qI gIx (qB 8) (qB 3)) qC))) (qB 8) (qB 3) (qB 8) (qB 4)) (qP (W8 9 (QP (qA (qI Q9 (Z9 (qB 1) wF (Q4 (qB 3))) (Z9 (qB 1) (Q4 (qI qx (qB 3) (vC (.int 1)))) wF)) (qA (qI Q9 (Z9 (qB 1) wF (Q4 (qI qx (qB 3) (vC (.int 1))))) (Z9 (qB 1) (Q4 (qB 3)) wF)) (qA (qH WI (qA (qB 8) qC)) (qA (vFz (Zd (qB 1))) (qA (qB 2) (qA (qBl (qB 1) wF wF (Q4 (Z0 (vC (.int 1))))) qC)))))))) (qP (qY 10 (vFz (QP (qA (qe (qA (qB 5) (qA (qB 6) (qA (qI Wt (vC (.int 1)) (qB 7)) qC)))) (qA (qe (qA (qI qx (qB 5) (vC (.int 1))) (qA (qB 6) (qA (qB 7) qC)))) (qA (qe (qA (qB 5) (qA (qI qx (qB 6) (vC (.int 1))) (qA (qB 7) qC)))) (qA (qe (qA (qB 5) (qA (qI Wt (qB 6) (vC (.int 1))) (qA (qB 7) qC)))) (qA (qB 2) qC)))))))) (qP (WX (q5 (vFz (ZO (qB 10) (vFz (QP (qA (qe (qA (qB 5) (qA (qB 6) (qA (vC (.int 2)) qC)))) (qA (qe (qA (qB 5) (qA (qB 6) qC))) (qA (vFz (QP (qA (qB 5) (qA (qB 6) (qA (qB 7) qC))))) (qA (qe (qA (qB 5) (qA (qB 6) (qA (qH qEB (qA (qB 7) qC)) qC)))) qC))))))))) (qr 11) (Qa (qB 9) (qI Q9 (qI Q9 (Z9 (qB 1) wF (Q4 (qB 3))) (qe (qA (qB 11) qC))) (Z9 (qB 1) (Q4 (qI qx (qB 3) (vC (.int 1)))) wF)))) (qP (Qa (qB 9) (qH WI (qA (z5 (qI Q9 (qB 1) (qe (qA (qe (qA (qB 5) (qA (qI qx (qB 6) (vC (.int 1))) (qA (qB 7) qC)))) qC)))) qC))) (ql (qI gIx (qB 9) (qH (qS a) (qA (qB 0) (qA (vC (.int 16)) qC))))))))))))))))
def WG (a:Ad):List PV->qD->Rs PV:=QI 2 12 (ZQ a)
def YW (a:Ad):FS:=(qP (qY 1 (vFz (QP (qA (qH (QY (kit a)) (qA (qB 0) (qA (vC (.fn a.Z1)) qC))) (qA (qH (QY (kit a)) (qA (qB 0) (qA (vC (.fn a.Z2)) qC))) (qA (qH (QY (kit a)) (qA (qB 0) (qA (vC (.fn a.Z3)) qC))) (qA (qH (QY (kit a)) (qA (qB 0) (qA (vC (.fn a.Z4)) qC))) qC))))))) (qP (qY 1 (vFz (ZO (qB 1) (vFz (QP (qA (qH (QY (kit a)) (qA (qB 0) (qA (vC (.fn a.Z5)) qC))) (qA (qH (QY (kit a)) (qA (qB 0) (qA (vC (.fn a.Z6)) qC))) (qA (qH (QY (kit a)) (qA (qB 0) (qA (vC (.fn a.Z7)) qC))) (qA (qH (QY (kit a)) (qA (qB 0) (qA (vC (.fn a.Z8)) qC))) qC))))))))) (qP (qY 1 (vFz (ZO (qB 1) (vFz (QP (qA (qH (QY (kit a)) (qA (qB 0) (qA (vC (.fn a.Z9)) qC))) (qA (qH (QY (kit a)) (qA (qB 0) (qA (vC (.fn a.Z10)) qC))) (qA (qH (QY (kit a)) (qA (qB 0) (qA (vC (.fn a.Z11)) qC))) qC)))))))) (qP (Qc (Wb (Qn (QM (qH (QY (kit a)) (qA (qB 0) (qA (vC (.ty "ValueError")) qC))))) (vTB (qI gNe (qAy (qB 1) (vC (.bl true))) (vC (.int 1))))) (ql (vC (.str "! other"))) QL) (qP (Qc (QM (qI gIx (qB 1) (vC (.int 10)))) qIU QL) (qP (qY 2 (vFz (QP (qA (vC (.str "length")) (qA (vC (.str "number")) (qA (vC (.str "bars")) (qA (vC (.str "box")) (qA (vC (.str "weights")) (qA (vC (.str "sorts")) (qA (vC (.str "turn")) (qA (vC (.str "place")) (qA (vC (.str "text")) (qA (vC (.str "row")) qC))))))))))))) (ql (qI qFe (vC (.str "! ")) (qI gIx (qB 2) (qHv (qB 1) (vC (.bl true))))))))))))
def Wl (a:Ad):List PV->qD->Rs PV:=QI 1 3 (YW a)
def Yj (a:Ad):FS:=(qP (qY 3 (vC (.str "! other"))) (qP (Yc 4 5 (Qp a) (qY 3 (qH (QW a) (qA (qB 0) (qA (qB 1) (qA (qB 2) qC))))) (qY 3 (qH (Wl a) (qA (qB 4) qC)))) (ql (qB 3))))
def wg (a:Ad):List PV->qD->Rs PV:=QI 3 5 (Yj a)
def qGZ (a:Ad):FS:=(qP (WX (WC (qA (qH qAo (qA (vC (.int 1)) (qA (qH yo (qA (qH wB (qA (qB 0) qC)) (qA (vC (.int 5)) qC))) qC))) qC)) (qr 1) (qP (qY 2 (qH (ZB a) (qA (qB 0) (qA (qB 1) qC)))) (qP (qY 3 (qI qx (vC (.int 2)) (qH (qS a) (qA (qB 2) (qA (vC (.int 4)) qC))))) (qP (Ww (qH (WD a) (qA (qB 2) (qA (qB 3) (qA (qI J3 (vC (.int 16)) (qB 3)) qC)))) (ZS 2 (QX (qr 4) (QX (qr 5) Zr)))) (qP (qY 6 (qH (WR a) (qA (qB 2) (qA (qB 3) (qA (vC (.int 16)) qC))))) (qP (qY 7 (qH (w4 a) (qA (qB 6) (qA (qB 3) qC)))) (qP (qY 8 (qe qC)) (qP (Qc (vTB (qI gNe (qB 7) (vFz (QP qC)))) (qY 8 (qI gIx (qB 7) (qH (qS a) (qA (qB 2) (qA (qH wB (qA (qB 7) qC)) qC))))) QL) (qP (WX (q5 (vFz (QP (qA (qe (qA (qB 4) (qA (qB 5) qC))) (qA (qe (qA (qB 6) (qA (qB 8) qC))) qC))))) (ZS 2 (QX (qr 9) (QX (qr 10) Zr))) (WX (q5 (vFz (QP (qA (qB 10) (qA (qH (WG a) (qA (qB 2) (qA (qB 10) qC))) (qA (qH (WG a) (qA (qB 2) (qA (qB 10) qC))) (qA (qH (zI a) (qA (qB 2) qC)) qC))))))) (qr 11) (qP (qY 12 (qH (wZ a) (qA (qB 9) (qA (qB 3) (qA (qB 11) qC))))) (qP (qY 12 (Zc (qB 12) (qI gEq (qI zG (qH wB (qA (qB 11) qC)) (qB 3)) (qH wB (qA (qB 9) qC))))) (qP (qY 13 (qH (wg a) (qA (qB 9) (qA (qB 3) (qA (qB 11) qC))))) (Qc (Wb (Qn (QM (qH (QY (kit a)) (qA (qB 13) (qA (vC (.ty "bool")) qC))))) (vTB (qI gNe (qB 13) (qB 12)))) (ql (vC (.bl false))) QL)))))) (qP (qY 14 (qI gIx (vFz (QP (qA (vC (.int 1)) (qA (vC (.int 6)) (qA (vC (.int 0)) (qA (Z0 (vC (.int 1))) (qA (vC (.bl true)) (qA (vC .non) (qA (vC (.str "2")) (qA (qe (qA (vC (.int 2)) qC)) (qA (qI qF7 (vC (.int 10)) (vC (.int 39))) qC))))))))))) (qH (qS a) (qA (qB 2) (qA (vC (.int 9)) qC))))) (Qc (Wb (vTB (qI (qCk true) (qH (QW a) (qA (qB 4) (qA (qB 3) (qA (qB 5) qC)))) (vC (.bl true)))) (vTB (qI gNe (qH (wg a) (qA (qB 4) (qA (qB 14) (qA (qB 5) qC)))) (vC (.str "! length"))))) (ql (vC (.bl false))) QL))))))))))) (ql (qI (qCk false) (qH (QW a) (qA (qe qC) (qA (vC (.int 3)) (qA (qe qC) qC)))) (vC (.bl true)))))
def Jb (a:Ad):List PV->qD->Rs PV:=QI 1 15 (qGZ a)
structure Env (K:W.Frag) (mg:Str->Option Value) (a:Ad):Prop where
 kit:KitOk K (kit a)
 n_ValueError:mg "ValueError" = none
 n_all:mg "all" = none
 n_bool:mg "bool" = none
 n_divmod:mg "divmod" = none
 n_int:mg "int" = none
 n_isinstance:mg "isinstance" = none
 n_len:mg "len" = none
 n_list:mg "list" = none
 n_max:mg "max" = none
 n_min:mg "min" = none
 n_range:mg "range" = none
 n_set:mg "set" = none
 n_sorted:mg "sorted" = none
 n_tuple:mg "tuple" = none
 c_LEAST_LENGTH:∃ t,mg "LEAST_LENGTH" = some (.int 2 t)
 c_MOST_LENGTH:∃ t,mg "MOST_LENGTH" = some (.int 5 t)
 c_FURTHEST:∃ t,mg "FURTHEST" = some (.int 40 t)
 c_ACROSS:∃ t,mg "ACROSS" = some (.int 0 t)
 c_DOWN:∃ t,mg "DOWN" = some (.int 1 t)
 k_Z0:mg "BarError" = some (.ref a.Z0)
 k_Z1:mg "NoLength" = some (.ref a.Z1)
 k_Z2:mg "NoNumber" = some (.ref a.Z2)
 k_Z3:mg "NoBars" = some (.ref a.Z3)
 k_Z4:mg "NoBox" = some (.ref a.Z4)
 k_Z5:mg "NoWeights" = some (.ref a.Z5)
 k_Z6:mg "NoSorts" = some (.ref a.Z6)
 k_Z7:mg "NoTurn" = some (.ref a.Z7)
 k_Z8:mg "NoPlace" = some (.ref a.Z8)
 k_Z9:mg "NoText" = some (.ref a.Z9)
 k_Z10:mg "NoRow" = some (.ref a.Z10)
 k_Z11:mg "TooMany" = some (.ref a.Z11)
 x_Z1:W.excIn K a.Z1 bmV "ValueError.__new__" = true
 e_Z1:W.mroIn K a.Z1 (.ref a.Z0)=some true
 o_Z0:∃ dd cd sl,K.lookup a.Z0=some ⟨.type "type",dd,.cls cd,sl⟩
 b_Z0:W.mroIn K a.Z0 (.type "BaseException")=some true
 m_is_whole:mg "is_whole" = some (.ref a.is_whole)
 f_is_whole:∃ fd,Fun K "is_whole" "is_whole" WL a.is_whole fd
 m_is_whole_within:mg "is_whole_within" = some (.ref a.is_whole_within)
 f_is_whole_within:∃ fd,Fun K "is_whole_within" "is_whole_within" QT a.is_whole_within fd
 m_is_rising:mg "is_rising" = some (.ref a.is_rising)
 f_is_rising:∃ fd,Fun K "is_rising" "is_rising" ww a.is_rising fd
 m_is_length:mg "is_length" = some (.ref a.is_length)
 f_is_length:∃ fd,Fun K "is_length" "is_length" wu a.is_length fd
 m_need_length:mg "need_length" = some (.ref a.need_length)
 f_need_length:∃ fd,Fun K "need_length" "need_length" Ql a.need_length fd
 m_is_bar:mg "is_bar" = some (.ref a.is_bar)
 f_is_bar:∃ fd,Fun K "is_bar" "is_bar" Wm a.is_bar fd
 m_places_of:mg "places_of" = some (.ref a.places_of)
 f_places_of:∃ fd,Fun K "places_of" "places_of" wG a.places_of fd
 m_is_within:mg "is_within" = some (.ref a.is_within)
 f_is_within:∃ fd,Fun K "is_within" "is_within" wx a.is_within fd
 m_covered_by:mg "covered_by" = some (.ref a.covered_by)
 f_covered_by:∃ fd,Fun K "covered_by" "covered_by" wR a.covered_by fd
 m_is_packing:mg "is_packing" = some (.ref a.is_packing)
 f_is_packing:∃ fd,Fun K "is_packing" "is_packing" Qz a.is_packing fd
 m_is_filling:mg "is_filling" = some (.ref a.is_filling)
 f_is_filling:∃ fd,Fun K "is_filling" "is_filling" wK a.is_filling fd
 m_law_cell:mg "_law_cell" = some (.ref a.law_cell)
 f_law_cell:∃ fd,Fun K "_law_cell" "_law_cell" WJ a.law_cell fd
 m_law_mix:mg "_law_mix" = some (.ref a.law_mix)
 f_law_mix:∃ fd,Fun K "_law_mix" "_law_mix" Wf a.law_mix fd
 m_law_box:mg "_law_box" = some (.ref a.law_box)
 f_law_box:∃ fd,Fun K "_law_box" "_law_box" Wh a.law_box fd
 m_law_take:mg "_law_take" = some (.ref a.law_take)
 f_law_take:∃ fd,Fun K "_law_take" "_law_take" wk a.law_take fd
 m_law_cover:mg "_law_cover" = some (.ref a.law_cover)
 f_law_cover:∃ fd,Fun K "_law_cover" "_law_cover" wH a.law_cover fd
 m_law_laid:mg "_law_laid" = some (.ref a.law_laid)
 f_law_laid:∃ fd,Fun K "_law_laid" "_law_laid" wm a.law_laid fd
 m_law_floor:mg "_law_floor" = some (.ref a.law_floor)
 f_law_floor:∃ fd,Fun K "_law_floor" "_law_floor" wD a.law_floor fd
 m_law_whole:mg "_law_whole" = some (.ref a.law_whole)
 f_law_whole:∃ fd,Fun K "_law_whole" "_law_whole" wp a.law_whole fd
 m_law_fillings:mg "_law_fillings" = some (.ref a.law_fillings)
 f_law_fillings:∃ fd,Fun K "_law_fillings" "_law_fillings" Qb a.law_fillings fd
 m_law_is_bar:mg "_law_is_bar" = some (.ref a.law_is_bar)
 f_law_is_bar:∃ fd,Fun K "_law_is_bar" "_law_is_bar" wL a.law_is_bar fd
 m_law_are_apart:mg "_law_are_apart" = some (.ref a.law_are_apart)
 f_law_are_apart:∃ fd,Fun K "_law_are_apart" "_law_are_apart" QV a.law_are_apart fd
 m_law_odd:mg "_law_odd" = some (.ref a.law_odd)
 f_law_odd:∃ fd,Fun K "_law_odd" "_law_odd" Wg a.law_odd fd
 m_law_bent:mg "_law_bent" = some (.ref a.law_bent)
 f_law_bent:∃ fd,Fun K "_law_bent" "_law_bent" wn a.law_bent fd
 m_law_kind:mg "_law_kind" = some (.ref a.law_kind)
 f_law_kind:∃ fd,Fun K "_law_kind" "_law_kind" WH a.law_kind fd
 m_law_said:mg "_law_said" = some (.ref a.law_said)
 f_law_said:∃ fd,Fun K "_law_said" "_law_said" wc a.law_said fd
 m_law:mg "law" = some (.ref a.law)
 f_law:∃ fd,Fun K "law" "law" ze a.law fd
section
variable {P:Program} {w:World} {K:W.Frag} {mg:Str->Option Value} {base:Heap} {a:Ad}
theorem Jw:FnScope ["thing"] ["thing"] (qM WL):=⟨rfl,rfl,rfl,by decide +kernel,rfl,by decide +kernel,by decide +kernel⟩
theorem qAO (V:Env K mg a):DefG P w K mg base 2 "is_whole" a.is_whole 1 (ZT a):=by obtain ⟨fd,F⟩:=V.f_is_whole;refine Qw (B:=Yh a) F Jw (F.binds (ps:=["thing"]) fun _ _ _ _ _ _ us hl=>match us,hl with |[_],_=>rfl) V.m_is_whole (fun l st h=>qd h) (fun cdv A outer s H E hr hcm => ?_) (fun l s0 hl hn=>qb hl);have hu:=hr.units;exact (@qR _ _ _ _ (@qk _ _ _ _ _ (@Ym _ _ _ _ _ _ _ _ (@Qk _ _ _ _ _ _ _ _ V.kit V.n_isinstance (@qO _ _ _ _ _ _ _ (@qG _ _ 0 _ _ (by rfl) (by rfl) (by rfl)) (@qO _ _ _ _ _ _ _ (@ZK _ _ _ _ _ rfl V.n_int Boot.«int» (by decide) (by decide)) qF)) (by rfl) (by rfl) (by rfl)) (@Yl _ _ _ _ _ _ (@qEf _ _ _ _ _ (@Qk _ _ _ _ _ _ _ _ V.kit V.n_isinstance (@qO _ _ _ _ _ _ _ (@qG _ _ 0 _ _ (by rfl) (by rfl) (by rfl)) (@qO _ _ _ _ _ _ _ (@ZK _ _ _ _ _ rfl V.n_bool Boot.«bool» (by decide) (by decide)) qF)) (by rfl) (by rfl) (by rfl)))))))
theorem ZV:FnScope ["thing","least","most"] ["thing","least","most"] (qM QT):=⟨rfl,rfl,rfl,by decide +kernel,rfl,by decide +kernel,by decide +kernel⟩
theorem Q6 (V:Env K mg a):DefG P w K mg base 3 "is_whole_within" a.is_whole_within 3 (QR a):=by obtain ⟨fd,F⟩:=V.f_is_whole_within;refine Qw (B:=w8 a) F ZV (F.binds (ps:=["thing","least","most"]) fun _ _ _ _ _ _ us hl=>match us,hl with |[_,_,_],_=>rfl) V.m_is_whole_within (fun l st h=>qd h) (fun cdv A outer s H E hr hcm => ?_) (fun l s0 hl hn=>qb hl);have hu:=hr.units;exact (@qR _ _ _ _ (@qk _ _ _ _ _ (@Ym _ _ _ _ _ _ _ _ (@qT _ _ _ _ _ _ _ _ _ ((qAO V).call (hr.mono (by omega)) qa) (@qO _ _ _ _ _ _ _ (@qG _ _ 0 _ _ (by rfl) (by rfl) (by rfl)) qF) (by rfl) (by rfl)) (@Yl _ _ _ _ _ _ (@qDD _ _ _ _ _ _ _ _ _ _ _ _ _ _ _ qGc qGc qGK qGK (@qG _ _ 1 _ _ (by rfl) (by rfl) (by rfl)) (@qG _ _ 0 _ _ (by rfl) (by rfl) (by rfl)) (@qG _ _ 2 _ _ (by rfl) (by rfl) (by rfl)) (by with_unfolding_all rfl))))))
theorem j6:FnScope ["things"] ["things"] (qM ww):=⟨rfl,rfl,rfl,by decide +kernel,rfl,by decide +kernel,by decide +kernel⟩
theorem Jh (V:Env K mg a):DefG P w K mg base 2 "is_rising" a.is_rising 1 (zz a):=by obtain ⟨fd,F⟩:=V.f_is_rising;refine Qw (B:=yL a) F j6 (F.binds (ps:=["things"]) fun _ _ _ _ _ _ us hl=>match us,hl with |[_],_=>rfl) V.m_is_rising (fun l st h=>qd h) (fun cdv A outer s H E hr hcm => ?_) (fun l s0 hl hn=>qb hl);have hu:=hr.units;exact (@qR _ _ _ _ (@qk _ _ _ _ _ (@yu _ _ _ _ _ _ _ (@jk _ _ _ _ _ _ _ _ _ (@qo _ _ _ _ (@Qy _ _ _ _ _ _ _ (["things"]) (["at"]) ([0]) _ _ _ _ _ (by exact we rfl (by decide +kernel) rfl rfl ⟨⟨rfl,rfl⟩,trivial⟩) (@qB0 _ _ _ _ _ _ _ _ rfl V.n_range (@qf _ _ _ _ _ _ _ _ qK (@Qv _ _ _ _ _ _ _ _ _ (@Qo _ _ _ _ _ _ _ (@qO _ _ _ _ _ _ _ (@qG _ _ 0 _ _ (by rfl) (by rfl) (by rfl)) qF) V.n_len (by rfl) (by rfl) (by rfl)) qF)) (by rfl) (by rfl)) (fun s' H' fp pn=>⟨(@qHS _ _ _ _ _ _ _ hu (@Qi _ _ _ _ _ _ _ (@qG _ _ 0 _ _ (by rfl) (by rfl) (by rfl)) (@W5 _ _ _ _ _ _ _ (@qG _ _ 1 _ _ (by rfl) (by rfl) (by rfl)) qK) (by exact fun _ _=>rfl)) (@Qi _ _ _ _ _ _ _ (@qG _ _ 0 _ _ (by rfl) (by rfl) (by rfl)) (@qG _ _ 1 _ _ (by rfl) (by rfl) (by rfl)) (by exact fun _ _=>rfl))),⟨(@wW _ _ 1 _ (show (["things","at"]:List Str).Nodup by decide +kernel) (by rfl) (by first |exact Or.inl rfl |exact Or.inr rfl) (by first |exact .inl rfl |exact .inr rfl |assumption)),(QH 1),TsOk.nil,rfl⟩,GsOk.nil⟩) (by intro _;rfl))) qF) V.n_all (by rfl) (by rfl) (by rfl))))
theorem je:FnScope ["thing"] ["thing"] (qM wu):=⟨rfl,rfl,rfl,by decide +kernel,rfl,by decide +kernel,by decide +kernel⟩
theorem J7 (V:Env K mg a):DefG P w K mg base 4 "is_length" a.is_length 1 (zn a):=by obtain ⟨fd,F⟩:=V.f_is_length;obtain ⟨_,c_LEAST_LENGTH⟩:=V.c_LEAST_LENGTH;obtain ⟨_,c_MOST_LENGTH⟩:=V.c_MOST_LENGTH;refine Qw (B:=zf a) F je (F.binds (ps:=["thing"]) fun _ _ _ _ _ _ us hl=>match us,hl with |[_],_=>rfl) V.m_is_length (fun l st h=>qd h) (fun cdv A outer s H E hr hcm => ?_) (fun l s0 hl hn=>qb hl);have hu:=hr.units;exact (@qR _ _ _ _ (@qk _ _ _ _ _ (@qT _ _ _ _ _ _ _ _ _ ((Q6 V).call (hr.mono (by omega)) qa) (@qO _ _ _ _ _ _ _ (@qG _ _ 0 _ _ (by rfl) (by rfl) (by rfl)) (@qO _ _ _ _ _ _ _ (@wz _ _ _ _ _ _ rfl c_LEAST_LENGTH (by decide)) (@qO _ _ _ _ _ _ _ (@wz _ _ _ _ _ _ rfl c_MOST_LENGTH (by decide)) qF))) (by rfl) (by rfl))))
theorem YC:FnScope ["thing"] ["thing"] (qM Ql):=⟨rfl,rfl,rfl,by decide +kernel,rfl,by decide +kernel,by decide +kernel⟩
theorem Yz (V:Env K mg a):DefG P w K mg base 5 "need_length" a.need_length 1 (Qm a):=by
 obtain ⟨fd,F⟩:=V.f_need_length;obtain ⟨_,c_LEAST_LENGTH⟩:=V.c_LEAST_LENGTH;obtain ⟨_,c_MOST_LENGTH⟩:=V.c_MOST_LENGTH;refine Qw (B:=W6 a) F YC (F.binds (ps:=["thing"]) fun _ _ _ _ _ _ us hl=>match us,hl with |[_],_=>rfl) V.m_need_length (fun l st h=>qd h) (fun cdv A outer s H E hr hcm => ?_) (fun l s0 hl hn=>qb hl);have hu:=hr.units;have hc:(wS (CXF P w) P w K mg base ["thing"] "need_length" (qM Ql) a.need_length cdv A outer s H E).calm=true:=by show A.handled.isNone=true;rw [hcm (by omega)];rfl
 exact (@qR _ _ _ _ (@wC _ _ _ _ _ _ _ _ _ (@wo _ _ _ _ _ (@wa _ _ _ _ (@qT _ _ _ _ _ _ _ _ _ ((J7 V).call (hr.mono (by omega)) qa) (@qO _ _ _ _ _ _ _ (@qG _ _ 0 _ _ (by rfl) (by rfl) (by rfl)) qF) (by rfl) (by rfl)) (by intro _;rfl))) (@qR _ _ _ _ (@qEp _ _ _ _ _ _ _ _ _ _ qIl hc rfl V.k_Z1 V.x_Z1 (@qKO _ _ _ _ _ _ _ (@qFF _ _ _ _ _ _ _ (@yf _ _ _ _ _ _ Qs (@yf _ _ _ _ _ _ (@qEq _ _ _ _ _ (@wz _ _ _ _ _ _ rfl c_LEAST_LENGTH (by decide))) (@yf _ _ _ _ _ _ Qs (@yf _ _ _ _ _ _ (@qEq _ _ _ _ _ (@wz _ _ _ _ _ _ rfl c_MOST_LENGTH (by decide))) qHy))))) qF) (by decide) (by rfl) (by rfl))) QK))
theorem sc_is_bar:FnScope ["thing","row","column","way"] ["thing"] (qM Wm):=⟨rfl,rfl,rfl,by decide +kernel,rfl,by decide +kernel,by decide +kernel⟩
theorem qDy (V:Env K mg a):DefG P w K mg base 4 "is_bar" a.is_bar 1 (Ze a):=by
 obtain ⟨fd,F⟩:=V.f_is_bar;obtain ⟨_,c_FURTHEST⟩:=V.c_FURTHEST;obtain ⟨_,c_ACROSS⟩:=V.c_ACROSS;obtain ⟨_,c_DOWN⟩:=V.c_DOWN;refine Qw (B:=J1 a) F sc_is_bar (F.binds (ps:=["thing"]) fun _ _ _ _ _ _ us hl=>match us,hl with |[_],_=>rfl) V.m_is_bar (fun l st h=>qd h) (fun cdv A outer s H E hr hcm => ?_) (fun l s0 hl hn=>qb hl);have hu:=hr.units;have hc:(wS (CXF P w) P w K mg base ["thing","row","column","way"] "is_bar" (qM Wm) a.is_bar cdv A outer s H E).calm=true:=by show A.handled.isNone=true;rw [hcm (by omega)];rfl
 exact (@qL _ _ _ _ _ _ (@wC _ _ _ _ _ _ _ _ _ (@yV _ _ _ _ (@zx _ _ _ _ _ _ _ _ (@wo _ _ _ _ _ (@wa _ _ _ _ (@Qk _ _ _ _ _ _ _ _ V.kit V.n_isinstance (@qO _ _ _ _ _ _ _ (@qG _ _ 0 _ _ (by rfl) (by rfl) (by rfl)) (@qO _ _ _ _ _ _ _ (@ZK _ _ _ _ _ rfl V.n_tuple Boot.«tuple» (by decide) (by decide)) qF)) (by rfl) (by rfl) (by rfl)) (by intro _;rfl))) (@zW _ _ _ _ _ (@QG _ _ _ _ _ _ _ _ _ _ (zk hu) yS (@Qo _ _ _ _ _ _ _ (@qO _ _ _ _ _ _ _ (@qG _ _ 0 _ _ (by rfl) (by rfl) (by rfl)) qF) V.n_len (by rfl) (by rfl) (by rfl)) qK (by first |exact QC _ |with_unfolding_all rfl))))) (@qR _ _ _ _ (@qk _ _ _ _ _ WB)) QK) (@qL _ _ _ _ _ _ (@zy _ _ _ _ _ _ _ (@qG _ _ 0 _ _ (by rfl) (by rfl) (by rfl)) (@zL _ _ _ _ _ _ hc (@qw _ _ _ _ _ (@qm _ _ 1 _ sc_is_bar.nd (by rfl) (by first |exact Or.inl rfl |exact Or.inr rfl) (by first |exact .inl rfl |exact .inr rfl |assumption)) (@qw _ _ _ _ _ (@qm _ _ 2 _ sc_is_bar.nd (by rfl) (by first |exact Or.inl rfl |exact Or.inr rfl) (by first |exact .inl rfl |exact .inr rfl |assumption)) (@qw _ _ _ _ _ (@qm _ _ 3 _ sc_is_bar.nd (by rfl) (by first |exact Or.inl rfl |exact Or.inr rfl) (by first |exact .inl rfl |exact .inr rfl |assumption)) WY (by rfl)) (by rfl)) (by rfl)) (by rfl) (by rfl)) (by rfl) (by rfl) (by rfl)) (@qL _ _ _ _ _ _ (@wC _ _ _ _ _ _ _ _ _ (@yV _ _ _ _ (@zx _ _ _ _ _ _ _ _ (@wo _ _ _ _ _ (@wa _ _ _ _ (@qT _ _ _ _ _ _ _ _ _ ((Q6 V).call (hr.mono (by omega)) qa) (@qO _ _ _ _ _ _ _ (@qG _ _ 1 _ _ (by rfl) (by rfl) (by rfl)) (@qDt _ _ _ _ _ _ _ _ (@ZY _ _ _ _ _ (@wz _ _ _ _ _ _ rfl c_FURTHEST (by decide))) (@qO _ _ _ _ _ _ _ (@wz _ _ _ _ _ _ rfl c_FURTHEST (by decide)) qF))) (by rfl) (by rfl)) (by intro _;rfl))) (@zW _ _ _ _ _ (@wo _ _ _ _ _ (@wa _ _ _ _ (@qT _ _ _ _ _ _ _ _ _ ((Q6 V).call (hr.mono (by omega)) qa) (@qO _ _ _ _ _ _ _ (@qG _ _ 2 _ _ (by rfl) (by rfl) (by rfl)) (@qDt _ _ _ _ _ _ _ _ (@ZY _ _ _ _ _ (@wz _ _ _ _ _ _ rfl c_FURTHEST (by decide))) (@qO _ _ _ _ _ _ _ (@wz _ _ _ _ _ _ rfl c_FURTHEST (by decide)) qF))) (by rfl) (by rfl)) (by intro _;rfl)))))) (@qR _ _ _ _ (@qk _ _ _ _ _ WB)) QK) (@qR _ _ _ _ (@qk _ _ _ _ _ (@qT _ _ _ _ _ _ _ _ _ ((Q6 V).call (hr.mono (by omega)) qa) (@qO _ _ _ _ _ _ _ (@qG _ _ 3 _ _ (by rfl) (by rfl) (by rfl)) (@qO _ _ _ _ _ _ _ (@wz _ _ _ _ _ _ rfl c_ACROSS (by decide)) (@qO _ _ _ _ _ _ _ (@wz _ _ _ _ _ _ rfl c_DOWN (by decide)) qF))) (by rfl) (by rfl)))))))
theorem sc_places_of:FnScope ["bar","length","row","column","way"] ["bar","length"] (qM wG):=⟨rfl,rfl,rfl,by decide +kernel,rfl,by decide +kernel,by decide +kernel⟩
theorem yR (V:Env K mg a):DefG P w K mg base 2 "places_of" a.places_of 2 (wE a):=by
 obtain ⟨fd,F⟩:=V.f_places_of;obtain ⟨_,c_ACROSS⟩:=V.c_ACROSS;refine Qw (B:=yN a) F sc_places_of (F.binds (ps:=["bar","length"]) fun _ _ _ _ _ _ us hl=>match us,hl with |[_,_],_=>rfl) V.m_places_of (fun l st h=>qd h) (fun cdv A outer s H E hr hcm => ?_) (fun l s0 hl hn=>qb hl);have hu:=hr.units;have hc:(wS (CXF P w) P w K mg base ["bar","length","row","column","way"] "places_of" (qM wG) a.places_of cdv A outer s H E).calm=true:=by show A.handled.isNone=true;rw [hcm (by omega)];rfl
 exact (@qL _ _ _ _ _ _ (@zy _ _ _ _ _ _ _ (@qG _ _ 0 _ _ (by rfl) (by rfl) (by rfl)) (@zL _ _ _ _ _ _ hc (@qw _ _ _ _ _ (@qm _ _ 2 _ sc_places_of.nd (by rfl) (by first |exact Or.inl rfl |exact Or.inr rfl) (by first |exact .inl rfl |exact .inr rfl |assumption)) (@qw _ _ _ _ _ (@qm _ _ 3 _ sc_places_of.nd (by rfl) (by first |exact Or.inl rfl |exact Or.inr rfl) (by first |exact .inl rfl |exact .inr rfl |assumption)) (@qw _ _ _ _ _ (@qm _ _ 4 _ sc_places_of.nd (by rfl) (by first |exact Or.inl rfl |exact Or.inr rfl) (by first |exact .inl rfl |exact .inr rfl |assumption)) WY (by rfl)) (by rfl)) (by rfl)) (by rfl) (by rfl)) (by rfl) (by rfl) (by rfl)) (@qL _ _ _ _ _ _ (@wC _ _ _ _ _ _ _ _ _ (@QG _ _ _ _ _ _ _ _ _ _ (zQ hu) Zl (@qG _ _ 4 _ _ (by rfl) (by rfl) (by rfl)) (@wz _ _ _ _ _ _ rfl c_ACROSS (by decide)) (by first |exact QC _ |with_unfolding_all rfl)) (@qR _ _ _ _ (@qk _ _ _ _ _ (@WF _ _ _ _ _ _ _ (@jk _ _ _ _ _ _ _ _ _ (@qo _ _ _ _ (@Qy _ _ _ _ _ _ _ (["row","column"]) (["step"]) ([2,3]) _ _ _ _ _ (by exact we rfl (by decide +kernel) rfl rfl ⟨⟨rfl,rfl⟩,⟨⟨rfl,rfl⟩,trivial⟩⟩) (@wO _ _ _ _ _ _ _ rfl V.n_range (@qO _ _ _ _ _ _ _ (@qG _ _ 1 _ _ (by rfl) (by rfl) (by rfl)) qF) (by rfl)) (fun s' H' fp pn=>⟨(@qZ _ _ _ _ _ _ (@qO _ _ _ _ _ _ _ (@qG _ _ 0 _ _ (by rfl) (by rfl) (by rfl)) (@wX _ _ _ _ _ _ _ _ _ (@qy _ _ _ _ _ _ _ (@qG _ _ 1 _ _ (by rfl) (by rfl) (by rfl)) (@qG _ _ 2 _ _ (by rfl) (by rfl) (by rfl))) qF))),⟨(@wW _ _ 2 _ (show (["row","column","step"]:List Str).Nodup by decide +kernel) (by rfl) (by first |exact Or.inl rfl |exact Or.inr rfl) (by first |exact .inl rfl |exact .inr rfl |assumption)),(QH 2),TsOk.nil,rfl⟩,GsOk.nil⟩) (by intro _;rfl))) qF) V.n_tuple (by rfl) (by rfl) (by rfl)))) QK) (@qR _ _ _ _ (@qk _ _ _ _ _ (@WF _ _ _ _ _ _ _ (@jk _ _ _ _ _ _ _ _ _ (@qo _ _ _ _ (@Qy _ _ _ _ _ _ _ (["column","row"]) (["step"]) ([3,2]) _ _ _ _ _ (by exact we rfl (by decide +kernel) rfl rfl ⟨⟨rfl,rfl⟩,⟨⟨rfl,rfl⟩,trivial⟩⟩) (@wO _ _ _ _ _ _ _ rfl V.n_range (@qO _ _ _ _ _ _ _ (@qG _ _ 1 _ _ (by rfl) (by rfl) (by rfl)) qF) (by rfl)) (fun s' H' fp pn=>⟨(@qZ _ _ _ _ _ _ (@wX _ _ _ _ _ _ _ _ _ (@qy _ _ _ _ _ _ _ (@qG _ _ 1 _ _ (by rfl) (by rfl) (by rfl)) (@qG _ _ 2 _ _ (by rfl) (by rfl) (by rfl))) (@qO _ _ _ _ _ _ _ (@qG _ _ 0 _ _ (by rfl) (by rfl) (by rfl)) qF))),⟨(@wW _ _ 2 _ (show (["column","row","step"]:List Str).Nodup by decide +kernel) (by rfl) (by first |exact Or.inl rfl |exact Or.inr rfl) (by first |exact .inl rfl |exact .inr rfl |assumption)),(QH 2),TsOk.nil,rfl⟩,GsOk.nil⟩) (by intro _;rfl))) qF) V.n_tuple (by rfl) (by rfl) (by rfl))))))
theorem j4:FnScope ["floor","bar","length"] ["floor","bar","length"] (qM wx):=⟨rfl,rfl,rfl,by decide +kernel,rfl,by decide +kernel,by decide +kernel⟩
theorem Jd (V:Env K mg a):DefG P w K mg base 3 "is_within" a.is_within 3 (Wv a):=by obtain ⟨fd,F⟩:=V.f_is_within;refine Qw (B:=yK a) F j4 (F.binds (ps:=["floor","bar","length"]) fun _ _ _ _ _ _ us hl=>match us,hl with |[_,_,_],_=>rfl) V.m_is_within (fun l st h=>qd h) (fun cdv A outer s H E hr hcm => ?_) (fun l s0 hl hn=>qb hl);have hu:=hr.units;exact (@qR _ _ _ _ (@qk _ _ _ _ _ (@yu _ _ _ _ _ _ _ (@jk _ _ _ _ _ _ _ _ _ (@qo _ _ _ _ (@Qy _ _ _ _ _ _ _ (["floor"]) (["place"]) ([0]) _ _ _ _ _ (by exact we rfl (by decide +kernel) rfl rfl ⟨⟨rfl,rfl⟩,trivial⟩) (@wj _ _ _ _ _ (@qT _ _ _ _ _ _ _ _ _ ((yR V).call (hr.mono (by omega)) qa) (@qO _ _ _ _ _ _ _ (@qG _ _ 1 _ _ (by rfl) (by rfl) (by rfl)) (@qO _ _ _ _ _ _ _ (@qG _ _ 2 _ _ (by rfl) (by rfl) (by rfl)) qF)) (by rfl) (by rfl))) (fun s' H' fp pn=>⟨(@qIi _ _ _ _ _ _ _ hu (@qG _ _ 1 _ _ (by rfl) (by rfl) (by rfl)) (@qG _ _ 0 _ _ (by rfl) (by rfl) (by rfl)) (by with_unfolding_all rfl)),⟨(@wW _ _ 1 _ (show (["floor","place"]:List Str).Nodup by decide +kernel) (by rfl) (by first |exact Or.inl rfl |exact Or.inr rfl) (by first |exact .inl rfl |exact .inr rfl |assumption)),(QH 1),TsOk.nil,rfl⟩,GsOk.nil⟩) (by intro _;rfl))) qF) V.n_all (by rfl) (by rfl) (by rfl))))
theorem Yt:FnScope ["bars","length"] ["bars","length"] (qM wR):=⟨rfl,rfl,rfl,by decide +kernel,rfl,by decide +kernel,by decide +kernel⟩
theorem jg (V:Env K mg a):DefG P w K mg base 3 "covered_by" a.covered_by 2 (zU a):=by obtain ⟨fd,F⟩:=V.f_covered_by;refine Qw (B:=Z3 a) F Yt (F.binds (ps:=["bars","length"]) fun _ _ _ _ _ _ us hl=>match us,hl with |[_,_],_=>rfl) V.m_covered_by (fun l st h=>qd h) (fun cdv A outer s H E hr hcm => ?_) (fun l s0 hl hn=>qb hl);have hu:=hr.units;exact (@qR _ _ _ _ (@qk _ _ _ _ _ (@qo _ _ _ _ (@Qy _ _ _ _ _ _ _ (["length"]) (["bar","place"]) ([1]) _ _ _ _ _ (by exact we rfl (by decide +kernel) rfl rfl ⟨⟨rfl,rfl⟩,trivial⟩) (@wj _ _ _ _ _ (@qG _ _ 0 _ _ (by rfl) (by rfl) (by rfl))) (fun s' H' fp pn=>⟨(@qG _ _ 2 _ _ (by rfl) (by rfl) (by rfl)),⟨(@wW _ _ 1 _ (show (["length","bar","place"]:List Str).Nodup by decide +kernel) (by rfl) (by first |exact Or.inl rfl |exact Or.inr rfl) (by first |exact .inl rfl |exact .inr rfl |assumption)),(QH 1),TsOk.nil,rfl⟩,(GsOk.cons ⟨⟨(@wW _ _ 2 _ (show (["length","bar","place"]:List Str).Nodup by decide +kernel) (by rfl) (by first |exact Or.inl rfl |exact Or.inr rfl) (by first |exact .inl rfl |exact .inr rfl |assumption)),(QH 2),TsOk.nil,rfl⟩,(@wj _ _ _ _ _ (@qT _ _ _ _ _ _ _ _ _ ((yR V).call (hr.mono (by omega)) (qt _)) (@qO _ _ _ _ _ _ _ (@qG _ _ 1 _ _ (by rfl) (by rfl) (by rfl)) (@qO _ _ _ _ _ _ _ (@qG _ _ 0 _ _ (by rfl) (by rfl) (by rfl)) qF)) (by rfl) (by rfl))),by intro _;rfl⟩ GsOk.nil)⟩) (by intro _;rfl)))))
theorem sc_is_packing:FnScope ["floor","length","thing","places"] ["floor","length","thing"] (qM Qz):=⟨rfl,rfl,rfl,by decide +kernel,rfl,by decide +kernel,by decide +kernel⟩
theorem jY (V:Env K mg a):DefG P w K mg base 6 "is_packing" a.is_packing 3 (Wc a):=by
 obtain ⟨fd,F⟩:=V.f_is_packing;refine Qw (B:=Zy a) F sc_is_packing (F.binds (ps:=["floor","length","thing"]) fun _ _ _ _ _ _ us hl=>match us,hl with |[_,_,_],_=>rfl) V.m_is_packing (fun l st h=>qd h) (fun cdv A outer s H E hr hcm => ?_) (fun l s0 hl hn=>qb hl);have hu:=hr.units;have hc:(wS (CXF P w) P w K mg base ["floor","length","thing","places"] "is_packing" (qM Qz) a.is_packing cdv A outer s H E).calm=true:=by show A.handled.isNone=true;rw [hcm (by omega)];rfl
 exact (@qL _ _ _ _ _ _ (@qFD _ _ _ _ _ (@qT _ _ _ _ _ _ _ _ _ ((Yz V).call (hr.mono (by omega)) qa) (@qO _ _ _ _ _ _ _ (@qG _ _ 1 _ _ (by rfl) (by rfl) (by rfl)) qF) (by rfl) (by rfl)) (by rfl)) (@qL _ _ _ _ _ _ (@wC _ _ _ _ _ _ _ _ _ (@yV _ _ _ _ (@zx _ _ _ _ _ _ _ _ (@wo _ _ _ _ _ (@wa _ _ _ _ (@Qk _ _ _ _ _ _ _ _ V.kit V.n_isinstance (@qO _ _ _ _ _ _ _ (@qG _ _ 2 _ _ (by rfl) (by rfl) (by rfl)) (@qO _ _ _ _ _ _ _ (@ZK _ _ _ _ _ rfl V.n_tuple Boot.«tuple» (by decide) (by decide)) qF)) (by rfl) (by rfl) (by rfl)) (by intro _;rfl))) (@zx _ _ _ _ _ _ _ _ (@wo _ _ _ _ _ (@wa _ _ _ _ (@yu _ _ _ _ _ _ _ (@jk _ _ _ _ _ _ _ _ _ (@qo _ _ _ _ (@Qy _ _ _ _ _ _ _ ([]) (["bar"]) ([]) _ _ _ _ _ (by exact we rfl (by decide +kernel) rfl rfl trivial) (@wj _ _ _ _ _ (@qG _ _ 2 _ _ (by rfl) (by rfl) (by rfl))) (fun s' H' fp pn=>⟨(@qT _ _ _ _ _ _ _ _ _ ((qDy V).call (hr.mono (by omega)) (qt _)) (@qO _ _ _ _ _ _ _ (@qG _ _ 0 _ _ (by rfl) (by rfl) (by rfl)) qF) (by rfl) (by rfl)),⟨(@wW _ _ 0 _ (show (["bar"]:List Str).Nodup by decide +kernel) (by rfl) (by first |exact Or.inl rfl |exact Or.inr rfl) (by first |exact .inl rfl |exact .inr rfl |assumption)),(QH 0),TsOk.nil,rfl⟩,GsOk.nil⟩) (by intro _;rfl))) qF) V.n_all (by rfl) (by rfl) (by rfl)) (by intro _;rfl))) (@zW _ _ _ _ _ (@wo _ _ _ _ _ (@wa _ _ _ _ (@qT _ _ _ _ _ _ _ _ _ ((Jh V).call (hr.mono (by omega)) qa) (@qO _ _ _ _ _ _ _ (@qG _ _ 2 _ _ (by rfl) (by rfl) (by rfl)) qF) (by rfl) (by rfl)) (by intro _;rfl))))))) (@qR _ _ _ _ (@qk _ _ _ _ _ WB)) QK) (@qL _ _ _ _ _ _ (@wC _ _ _ _ _ _ _ _ _ (@wo _ _ _ _ _ (@wa _ _ _ _ (@yu _ _ _ _ _ _ _ (@jk _ _ _ _ _ _ _ _ _ (@qo _ _ _ _ (@Qy _ _ _ _ _ _ _ (["floor","length"]) (["bar"]) ([0,1]) _ _ _ _ _ (by exact we rfl (by decide +kernel) rfl rfl ⟨⟨rfl,rfl⟩,⟨⟨rfl,rfl⟩,trivial⟩⟩) (@wj _ _ _ _ _ (@qG _ _ 2 _ _ (by rfl) (by rfl) (by rfl))) (fun s' H' fp pn=>⟨(@qT _ _ _ _ _ _ _ _ _ ((Jd V).call (hr.mono (by omega)) (qt _)) (@qO _ _ _ _ _ _ _ (@qG _ _ 0 _ _ (by rfl) (by rfl) (by rfl)) (@qO _ _ _ _ _ _ _ (@qG _ _ 2 _ _ (by rfl) (by rfl) (by rfl)) (@qO _ _ _ _ _ _ _ (@qG _ _ 1 _ _ (by rfl) (by rfl) (by rfl)) qF))) (by rfl) (by rfl)),⟨(@wW _ _ 2 _ (show (["floor","length","bar"]:List Str).Nodup by decide +kernel) (by rfl) (by first |exact Or.inl rfl |exact Or.inr rfl) (by first |exact .inl rfl |exact .inr rfl |assumption)),(QH 2),TsOk.nil,rfl⟩,GsOk.nil⟩) (by intro _;rfl))) qF) V.n_all (by rfl) (by rfl) (by rfl)) (by intro _;rfl))) (@qR _ _ _ _ (@qk _ _ _ _ _ WB)) QK) (@qL _ _ _ _ _ _ (@qi _ _ _ _ _ 3 _ _ sc_is_packing.nd (@qT _ _ _ _ _ _ _ _ _ ((jg V).call (hr.mono (by omega)) qa) (@qO _ _ _ _ _ _ _ (@qG _ _ 2 _ _ (by rfl) (by rfl) (by rfl)) (@qO _ _ _ _ _ _ _ (@qG _ _ 1 _ _ (by rfl) (by rfl) (by rfl)) qF)) (by rfl) (by rfl)) (by rfl) (by first |exact Or.inl rfl |exact Or.inr rfl) (by rfl) (by first |exact .inl rfl |exact .inr rfl |assumption)) (@qR _ _ _ _ (@qk _ _ _ _ _ (@qAF _ _ _ _ _ _ _ hu (@Jp _ _ _ _ _ _ _ _ hc hu V.n_len V.n_set (@qG _ _ 3 _ _ (by rfl) (by rfl) (by rfl)) (by rfl) (by rfl) (by rfl) (by rfl)) (@Qo _ _ _ _ _ _ _ (@qO _ _ _ _ _ _ _ (@qG _ _ 3 _ _ (by rfl) (by rfl) (by rfl)) qF) V.n_len (by rfl) (by rfl) (by rfl)))))))))
theorem Yv:FnScope ["floor","length","thing"] ["floor","length","thing"] (qM wK):=⟨rfl,rfl,rfl,by decide +kernel,rfl,by decide +kernel,by decide +kernel⟩
theorem zc (V:Env K mg a):DefG P w K mg base 7 "is_filling" a.is_filling 3 (QW a):=by obtain ⟨fd,F⟩:=V.f_is_filling;refine Qw (B:=Zo a) F Yv (F.binds (ps:=["floor","length","thing"]) fun _ _ _ _ _ _ us hl=>match us,hl with |[_,_,_],_=>rfl) V.m_is_filling (fun l st h=>qd h) (fun cdv A outer s H E hr hcm => ?_) (fun l s0 hl hn=>qb hl);have hu:=hr.units;exact (@qR _ _ _ _ (@qk _ _ _ _ _ (@Ym _ _ _ _ _ _ _ _ (@qT _ _ _ _ _ _ _ _ _ ((jY V).call (hr.mono (by omega)) qa) (@qO _ _ _ _ _ _ _ (@qG _ _ 0 _ _ (by rfl) (by rfl) (by rfl)) (@qO _ _ _ _ _ _ _ (@qG _ _ 1 _ _ (by rfl) (by rfl) (by rfl)) (@qO _ _ _ _ _ _ _ (@qG _ _ 2 _ _ (by rfl) (by rfl) (by rfl)) qF))) (by rfl) (by rfl)) (@Yl _ _ _ _ _ _ (@qAF _ _ _ _ _ _ _ hu (@zO _ _ _ _ _ _ _ (@Qo _ _ _ _ _ _ _ (@qO _ _ _ _ _ _ _ (@qG _ _ 2 _ _ (by rfl) (by rfl) (by rfl)) qF) V.n_len (by rfl) (by rfl) (by rfl)) (@qG _ _ 1 _ _ (by rfl) (by rfl) (by rfl))) (@Qo _ _ _ _ _ _ _ (@qO _ _ _ _ _ _ _ (@qG _ _ 0 _ _ (by rfl) (by rfl) (by rfl)) qF) V.n_len (by rfl) (by rfl) (by rfl)))))))
theorem qAH:FnScope ["_law_script","_law_k"] ["_law_script","_law_k"] (qM WJ):=⟨rfl,rfl,rfl,by decide +kernel,rfl,by decide +kernel,by decide +kernel⟩
theorem qAu (V:Env K mg a):DefG P w K mg base 2 "_law_cell" a.law_cell 2 (zZ a):=by obtain ⟨fd,F⟩:=V.f_law_cell;refine Qw (B:=YU a) F qAH (F.binds (ps:=["_law_script","_law_k"]) fun _ _ _ _ _ _ us hl=>match us,hl with |[_,_],_=>rfl) V.m_law_cell (fun l st h=>qd h) (fun cdv A outer s H E hr hcm => ?_) (fun l s0 hl hn=>qb hl);have hu:=hr.units;exact (@qL _ _ _ _ _ _ (@wC _ _ _ _ _ _ _ _ _ (@QG _ _ _ _ _ _ _ _ _ _ qGV qGN (@qG _ _ 1 _ _ (by rfl) (by rfl) (by rfl)) (@Qo _ _ _ _ _ _ _ (@qO _ _ _ _ _ _ _ (@qG _ _ 0 _ _ (by rfl) (by rfl) (by rfl)) qF) V.n_len (by rfl) (by rfl) (by rfl)) (by first |exact QC _ |with_unfolding_all rfl)) (@qR _ _ _ _ (@qk _ _ _ _ _ (@Qi _ _ _ _ _ _ _ (@qG _ _ 0 _ _ (by rfl) (by rfl) (by rfl)) (@qG _ _ 1 _ _ (by rfl) (by rfl) (by rfl)) (by exact fun _ _=>rfl)))) QK) (@qR _ _ _ _ (@qk _ _ _ _ _ (@qy _ _ _ _ _ _ _ (@zO _ _ _ _ _ _ _ qK (@qG _ _ 1 _ _ (by rfl) (by rfl) (by rfl))) qK))))
theorem sc_law_mix:FnScope ["_law_cell_here","_law_k","_law_number"] ["_law_cell_here","_law_k"] (qM Wf):=⟨rfl,rfl,rfl,by decide +kernel,rfl,by decide +kernel,by decide +kernel⟩
theorem qCL (V:Env K mg a):DefG P w K mg base 2 "_law_mix" a.law_mix 2 (ZE a):=by obtain ⟨fd,F⟩:=V.f_law_mix;refine Qw (B:=Y5 a) F sc_law_mix (F.binds (ps:=["_law_cell_here","_law_k"]) fun _ _ _ _ _ _ us hl=>match us,hl with |[_,_],_=>rfl) V.m_law_mix (fun l st h=>qd h) (fun cdv A outer s H E hr hcm => ?_) (fun l s0 hl hn=>qb hl);have hu:=hr.units;exact (@qL _ _ _ _ _ _ (@qi _ _ _ _ _ 2 _ _ sc_law_mix.nd (@qy _ _ _ _ _ _ _ (@zO _ _ _ _ _ _ _ (@qy _ _ _ _ _ _ _ (@qG _ _ 0 _ _ (by rfl) (by rfl) (by rfl)) qK) qK) (@zO _ _ _ _ _ _ _ qK (@qG _ _ 1 _ _ (by rfl) (by rfl) (by rfl)))) (by rfl) (by first |exact Or.inl rfl |exact Or.inr rfl) (by rfl) (by first |exact .inl rfl |exact .inr rfl |assumption)) (@qL _ _ _ _ _ _ (@qi _ _ _ _ _ 2 _ _ sc_law_mix.nd (@qy _ _ _ _ _ _ _ (@qAR _ _ _ _ _ _ _ (@qF0 _ _ _ _ _ _ _ (@qG _ _ 2 _ _ (by rfl) (by rfl) (by rfl)) (@qG _ _ 2 _ _ (by rfl) (by rfl) (by rfl))) qK) (@qG _ _ 1 _ _ (by rfl) (by rfl) (by rfl))) (by rfl) (by first |exact Or.inl rfl |exact Or.inr rfl) (by rfl) (by first |exact .inl rfl |exact .inr rfl |assumption)) (@qR _ _ _ _ (@qk _ _ _ _ _ (@qAR _ _ _ _ _ _ _ (@zO _ _ _ _ _ _ _ (@qG _ _ 2 _ _ (by rfl) (by rfl) (by rfl)) (@qy _ _ _ _ _ _ _ (@qG _ _ 2 _ _ (by rfl) (by rfl) (by rfl)) qK)) qK)))))
theorem sc_law_box:FnScope ["_law_script","_law_k","_law_here","_law_number","_law_j"] ["_law_script","_law_k"] (qM Wh):=⟨rfl,rfl,rfl,by decide +kernel,rfl,by decide +kernel,by decide +kernel⟩
theorem qCc (V:Env K mg a):DefG P w K mg base 3 "_law_box" a.law_box 2 (ZB a):=by obtain ⟨fd,F⟩:=V.f_law_box;refine Qw (B:=jG a) F sc_law_box (F.binds (ps:=["_law_script","_law_k"]) fun _ _ _ _ _ _ us hl=>match us,hl with |[_,_],_=>rfl) V.m_law_box (fun l st h=>qd h) (fun cdv A outer s H E hr hcm => ?_) (fun l s0 hl hn=>qb hl);have hu:=hr.units;exact (@qL _ _ _ _ _ _ (@qi _ _ _ _ _ 2 _ _ sc_law_box.nd (@qT _ _ _ _ _ _ _ _ _ ((qAu V).call (hr.mono (by omega)) qa) (@qO _ _ _ _ _ _ _ (@qG _ _ 0 _ _ (by rfl) (by rfl) (by rfl)) (@qO _ _ _ _ _ _ _ (@qG _ _ 1 _ _ (by rfl) (by rfl) (by rfl)) qF)) (by rfl) (by rfl)) (by rfl) (by first |exact Or.inl rfl |exact Or.inr rfl) (by rfl) (by first |exact .inl rfl |exact .inr rfl |assumption)) (@qL _ _ _ _ _ _ (@wC _ _ _ _ _ _ _ _ _ (@QG _ _ _ _ _ _ _ _ _ _ (zQ hu) Zl (@qAR _ _ _ _ _ _ _ (@qG _ _ 2 _ _ (by rfl) (by rfl) (by rfl)) qK) qK (by first |exact QC _ |with_unfolding_all rfl)) (@qR _ _ _ _ (@qBQ _ _ _ _ _ (@QA _ _ _ _ _ (@wX _ _ _ _ _ _ _ _ _ (@qA7 _ _ _ _ _ _ _ (@qG _ _ 2 _ _ (by rfl) (by rfl) (by rfl)) qK) qF)))) QK) (@qL _ _ _ _ _ _ (@qi _ _ _ _ _ 3 _ _ sc_law_box.nd qK (by rfl) (by first |exact Or.inl rfl |exact Or.inr rfl) (by rfl) (by first |exact .inl rfl |exact .inr rfl |assumption)) (@qL _ _ _ _ _ _ (@zS _ _ _ _ _ _ _ _ _ (@wO _ _ _ _ _ _ _ rfl V.n_range (@qf _ _ _ _ _ _ _ _ qK qF) (by rfl)) (@qm _ _ 4 _ sc_law_box.nd (by rfl) (by first |exact Or.inl rfl |exact Or.inr rfl) (by first |exact .inl rfl |exact .inr rfl |assumption)) (@qR _ _ _ _ (@qi _ _ _ _ _ 3 _ _ sc_law_box.nd (@qy _ _ _ _ _ _ _ (@zO _ _ _ _ _ _ _ (@qG _ _ 3 _ _ (by rfl) (by rfl) (by rfl)) qK) (@qT _ _ _ _ _ _ _ _ _ ((qCL V).call (hr.mono (by omega)) (qt _)) (@qO _ _ _ _ _ _ _ (@qG _ _ 2 _ _ (by rfl) (by rfl) (by rfl)) (@qO _ _ _ _ _ _ _ (@qG _ _ 4 _ _ (by rfl) (by rfl) (by rfl)) qF)) (by rfl) (by rfl))) (by rfl) (by first |exact Or.inl rfl |exact Or.inr rfl) (by rfl) (by first |exact .inl rfl |exact .inr rfl |assumption))) (by intro _;rfl)) (@qR _ _ _ _ (@qBQ _ _ _ _ _ (@QA _ _ _ _ _ (@qO _ _ _ _ _ _ _ (@qG _ _ 3 _ _ (by rfl) (by rfl) (by rfl)) qF))))))))
theorem sc_law_take:FnScope ["_law_box_here","_law_many","_law_left","_law_digit"] ["_law_box_here","_law_many"] (qM wk):=⟨rfl,rfl,rfl,by decide +kernel,rfl,by decide +kernel,by decide +kernel⟩
theorem qg (V:Env K mg a):DefG P w K mg base 2 "_law_take" a.law_take 2 (qS a):=by
 obtain ⟨fd,F⟩:=V.f_law_take;refine Qw (B:=yn a) F sc_law_take (F.binds (ps:=["_law_box_here","_law_many"]) fun _ _ _ _ _ _ us hl=>match us,hl with |[_,_],_=>rfl) V.m_law_take (fun l st h=>qd h) (fun cdv A outer s H E hr hcm => ?_) (fun l s0 hl hn=>qb hl);have hu:=hr.units;have hc:(wS (CXF P w) P w K mg base ["_law_box_here","_law_many","_law_left","_law_digit"] "_law_take" (qM wk) a.law_take cdv A outer s H E).calm=true:=by show A.handled.isNone=true;rw [hcm (by omega)];rfl
 exact (@qL _ _ _ _ _ _ (@zy _ _ _ _ _ _ _ (@qCR _ _ _ _ _ _ _ (@Jx _ _ _ _ _ _ _ _ (@Qi _ _ _ _ _ _ _ (@qG _ _ 0 _ _ (by rfl) (by rfl) (by rfl)) qK (by exact fun _ _=>rfl)) (@qO _ _ _ _ _ _ _ (@qG _ _ 1 _ _ (by rfl) (by rfl) (by rfl)) qF)) V.n_divmod (by rfl) (by rfl) (by rfl)) (@zL _ _ _ _ _ _ hc (@qw _ _ _ _ _ (@qm _ _ 2 _ sc_law_take.nd (by rfl) (by first |exact Or.inl rfl |exact Or.inr rfl) (by first |exact .inl rfl |exact .inr rfl |assumption)) (@qw _ _ _ _ _ (@qm _ _ 3 _ sc_law_take.nd (by rfl) (by first |exact Or.inl rfl |exact Or.inr rfl) (by first |exact .inl rfl |exact .inr rfl |assumption)) WY (by rfl)) (by rfl)) (by rfl) (by rfl)) (by rfl) (by rfl) (by rfl)) (@qL _ _ _ _ _ _ (@qGz _ _ _ _ _ _ _ _ _ _ (@qG _ _ 0 _ _ (by rfl) (by rfl) (by rfl)) qK (@qG _ _ 2 _ _ (by rfl) (by rfl) (by rfl)) (by rfl) (by rfl) (by rfl) (by intro _;rfl)) (@qR _ _ _ _ (@qk _ _ _ _ _ (@qG _ _ 3 _ _ (by rfl) (by rfl) (by rfl))))))
theorem sc_law_cover:FnScope ["_law_bar","_law_length","_law_row","_law_column","_law_way"] ["_law_bar","_law_length"] (qM wH):=⟨rfl,rfl,rfl,by decide +kernel,rfl,by decide +kernel,by decide +kernel⟩
theorem W0 (V:Env K mg a):DefG P w K mg base 2 "_law_cover" a.law_cover 2 (QZ a):=by
 obtain ⟨fd,F⟩:=V.f_law_cover;refine Qw (B:=yP a) F sc_law_cover (F.binds (ps:=["_law_bar","_law_length"]) fun _ _ _ _ _ _ us hl=>match us,hl with |[_,_],_=>rfl) V.m_law_cover (fun l st h=>qd h) (fun cdv A outer s H E hr hcm => ?_) (fun l s0 hl hn=>qb hl);have hu:=hr.units;have hc:(wS (CXF P w) P w K mg base ["_law_bar","_law_length","_law_row","_law_column","_law_way"] "_law_cover" (qM wH) a.law_cover cdv A outer s H E).calm=true:=by show A.handled.isNone=true;rw [hcm (by omega)];rfl
 exact (@qL _ _ _ _ _ _ (@zy _ _ _ _ _ _ _ (@qG _ _ 0 _ _ (by rfl) (by rfl) (by rfl)) (@zL _ _ _ _ _ _ hc (@qw _ _ _ _ _ (@qm _ _ 2 _ sc_law_cover.nd (by rfl) (by first |exact Or.inl rfl |exact Or.inr rfl) (by first |exact .inl rfl |exact .inr rfl |assumption)) (@qw _ _ _ _ _ (@qm _ _ 3 _ sc_law_cover.nd (by rfl) (by first |exact Or.inl rfl |exact Or.inr rfl) (by first |exact .inl rfl |exact .inr rfl |assumption)) (@qw _ _ _ _ _ (@qm _ _ 4 _ sc_law_cover.nd (by rfl) (by first |exact Or.inl rfl |exact Or.inr rfl) (by first |exact .inl rfl |exact .inr rfl |assumption)) WY (by rfl)) (by rfl)) (by rfl)) (by rfl) (by rfl)) (by rfl) (by rfl) (by rfl)) (@qR _ _ _ _ (@qk _ _ _ _ _ (@qo _ _ _ _ (@Qy _ _ _ _ _ _ _ (["_law_row","_law_way","_law_column"]) (["_law_k"]) ([2,4,3]) _ _ _ _ _ (by exact we rfl (by decide +kernel) rfl rfl ⟨⟨rfl,rfl⟩,⟨⟨rfl,rfl⟩,⟨⟨rfl,rfl⟩,trivial⟩⟩⟩) (@wO _ _ _ _ _ _ _ rfl V.n_range (@qO _ _ _ _ _ _ _ (@qG _ _ 1 _ _ (by rfl) (by rfl) (by rfl)) qF) (by rfl)) (fun s' H' fp pn=>⟨(@qZ _ _ _ _ _ _ (@wX _ _ _ _ _ _ _ _ _ (@qy _ _ _ _ _ _ _ (@qG _ _ 0 _ _ (by rfl) (by rfl) (by rfl)) (@zO _ _ _ _ _ _ _ (@qG _ _ 3 _ _ (by rfl) (by rfl) (by rfl)) (@qG _ _ 1 _ _ (by rfl) (by rfl) (by rfl)))) (@wX _ _ _ _ _ _ _ _ _ (@W5 _ _ _ _ _ _ _ (@qy _ _ _ _ _ _ _ (@qG _ _ 2 _ _ (by rfl) (by rfl) (by rfl)) (@qG _ _ 3 _ _ (by rfl) (by rfl) (by rfl))) (@zO _ _ _ _ _ _ _ (@qG _ _ 3 _ _ (by rfl) (by rfl) (by rfl)) (@qG _ _ 1 _ _ (by rfl) (by rfl) (by rfl)))) qF))),⟨(@wW _ _ 3 _ (show (["_law_row","_law_way","_law_column","_law_k"]:List Str).Nodup by decide +kernel) (by rfl) (by first |exact Or.inl rfl |exact Or.inr rfl) (by first |exact .inl rfl |exact .inr rfl |assumption)),(QH 3),TsOk.nil,rfl⟩,GsOk.nil⟩) (by intro _;rfl))))))
theorem sc_law_laid:FnScope ["_law_box_here","_law_length","_law_turns","_law_cells","_law_bars","_law_high","_law_wide","_law_turn","_law_bar","_law_last","_law_some"] ["_law_box_here","_law_length","_law_turns"] (qM wm):=⟨rfl,rfl,rfl,by decide +kernel,rfl,by decide +kernel,by decide +kernel⟩
theorem YX (V:Env K mg a):DefG P w K mg base 3 "_law_laid" a.law_laid 3 (WD a):=by
 obtain ⟨fd,F⟩:=V.f_law_laid;refine Qw (B:=ZU a) F sc_law_laid (F.binds (ps:=["_law_box_here","_law_length","_law_turns"]) fun _ _ _ _ _ _ us hl=>match us,hl with |[_,_,_],_=>rfl) V.m_law_laid (fun l st h=>qd h) (fun cdv A outer s H E hr hcm => ?_) (fun l s0 hl hn=>qb hl);have hu:=hr.units;have hc:(wS (CXF P w) P w K mg base ["_law_box_here","_law_length","_law_turns","_law_cells","_law_bars","_law_high","_law_wide","_law_turn","_law_bar","_law_last","_law_some"] "_law_laid" (qM wm) a.law_laid cdv A outer s H E).calm=true:=by show A.handled.isNone=true;rw [hcm (by omega)];rfl
 exact (@qL _ _ _ _ _ _ (@qi _ _ _ _ _ 3 _ _ sc_law_laid.nd (@qo _ _ _ _ (@QA _ _ _ _ _ qF)) (by rfl) (by first |exact Or.inl rfl |exact Or.inr rfl) (by rfl) (by first |exact .inl rfl |exact .inr rfl |assumption)) (@qL _ _ _ _ _ _ (@Zi _ _ _ _ 4 _ _ _ sc_law_laid.nd (@QA _ _ _ _ _ qF) (by rfl) (by first |exact Or.inl rfl |exact Or.inr rfl) (by rfl) (by first |exact .inl rfl |exact .inr rfl |assumption)) (@qL _ _ _ _ _ _ (@qC1 _ _ _ _ _ 5 6 _ _ _ _ _ _ _ _ _ hc sc_law_laid.nd (@wX _ _ _ _ _ _ _ _ _ (@qy _ _ _ _ _ _ _ (@qG _ _ 1 _ _ (by rfl) (by rfl) (by rfl)) (@qT _ _ _ _ _ _ _ _ _ ((qg V).call (hr.mono (by omega)) qa) (@qO _ _ _ _ _ _ _ (@qG _ _ 0 _ _ (by rfl) (by rfl) (by rfl)) (@wX _ _ _ _ _ _ _ _ _ (@W5 _ _ _ _ _ _ _ qK (@qG _ _ 1 _ _ (by rfl) (by rfl) (by rfl))) qF)) (by rfl) (by rfl))) (@wX _ _ _ _ _ _ _ _ _ (@qy _ _ _ _ _ _ _ (@qG _ _ 1 _ _ (by rfl) (by rfl) (by rfl)) (@qT _ _ _ _ _ _ _ _ _ ((qg V).call (hr.mono (by omega)) qa) (@qO _ _ _ _ _ _ _ (@qG _ _ 0 _ _ (by rfl) (by rfl) (by rfl)) (@wX _ _ _ _ _ _ _ _ _ (@W5 _ _ _ _ _ _ _ qK (@qG _ _ 1 _ _ (by rfl) (by rfl) (by rfl))) qF)) (by rfl) (by rfl))) qF)) (by rfl) (by rfl) (by rfl) (by decide) (by rfl) (by rfl) (by rfl)) (@qL _ _ _ _ _ _ (@zS _ _ _ _ _ _ _ _ _ (@wO _ _ _ _ _ _ _ rfl V.n_range (@wX _ _ _ _ _ _ _ _ _ (@qy _ _ _ _ _ _ _ qK (@qT _ _ _ _ _ _ _ _ _ ((qg V).call (hr.mono (by omega)) qa) (@qO _ _ _ _ _ _ _ (@qG _ _ 0 _ _ (by rfl) (by rfl) (by rfl)) (@qO _ _ _ _ _ _ _ (@qG _ _ 2 _ _ (by rfl) (by rfl) (by rfl)) qF)) (by rfl) (by rfl))) qF) (by rfl)) (@qm _ _ 7 _ sc_law_laid.nd (by rfl) (by first |exact Or.inl rfl |exact Or.inr rfl) (by first |exact .inl rfl |exact .inr rfl |assumption)) (@qL _ _ _ _ _ _ (@qi _ _ _ _ _ 8 _ _ sc_law_laid.nd (@qZ _ _ _ _ _ _ (@Qv _ _ _ _ _ _ _ _ _ (@qT _ _ _ _ _ _ _ _ _ ((qg V).call (hr.mono (by omega)) (qt _)) (@qO _ _ _ _ _ _ _ (@qG _ _ 0 _ _ (by rfl) (by rfl) (by rfl)) (@qO _ _ _ _ _ _ _ (@qG _ _ 5 _ _ (by rfl) (by rfl) (by rfl)) qF)) (by rfl) (by rfl)) (@Qv _ _ _ _ _ _ _ _ _ (@qT _ _ _ _ _ _ _ _ _ ((qg V).call (hr.mono (by omega)) (qt _)) (@qO _ _ _ _ _ _ _ (@qG _ _ 0 _ _ (by rfl) (by rfl) (by rfl)) (@qO _ _ _ _ _ _ _ (@qG _ _ 6 _ _ (by rfl) (by rfl) (by rfl)) qF)) (by rfl) (by rfl)) (@Qv _ _ _ _ _ _ _ _ _ (@qT _ _ _ _ _ _ _ _ _ ((qg V).call (hr.mono (by omega)) (qt _)) (@qO _ _ _ _ _ _ _ (@qG _ _ 0 _ _ (by rfl) (by rfl) (by rfl)) (@qf _ _ _ _ _ _ _ _ qK qF)) (by rfl) (by rfl)) qF)))) (by rfl) (by first |exact Or.inl rfl |exact Or.inr rfl) (by rfl) (by first |exact .inl rfl |exact .inr rfl |assumption)) (@qL _ _ _ _ _ _ (@wC _ _ _ _ _ _ _ _ _ (@yV _ _ _ _ (@jq _ _ _ _ _ _ _ _ (@QG _ _ _ _ _ _ _ _ _ _ (zk hu) yS (@qG _ _ 4 _ _ (by rfl) (by rfl) (by rfl)) (@qo _ _ _ _ (@QA _ _ _ _ _ qF)) (by first |exact QC _ |with_unfolding_all rfl)) (@JD _ _ _ _ _ (@QG _ _ _ _ _ _ _ _ _ _ (zQ hu) Zl (@qT _ _ _ _ _ _ _ _ _ ((qg V).call (hr.mono (by omega)) (qt _)) (@qO _ _ _ _ _ _ _ (@qG _ _ 0 _ _ (by rfl) (by rfl) (by rfl)) (@qf _ _ _ _ _ _ _ _ qK qF)) (by rfl) (by rfl)) qK (by first |exact QC _ |with_unfolding_all rfl))))) (@qL _ _ _ _ _ _ (@qi _ _ _ _ _ 9 _ _ sc_law_laid.nd (@Qi _ _ _ _ _ _ _ (@qG _ _ 4 _ _ (by rfl) (by rfl) (by rfl)) (@ZY _ _ _ _ _ qK) (by exact fun _ _=>rfl)) (by rfl) (by first |exact Or.inl rfl |exact Or.inr rfl) (by rfl) (by first |exact .inl rfl |exact .inr rfl |assumption)) (@qR _ _ _ _ (@qi _ _ _ _ _ 8 _ _ sc_law_laid.nd (@qZ _ _ _ _ _ _ (@Qv _ _ _ _ _ _ _ _ _ (@JB _ _ _ _ _ _ _ (@qf _ _ _ _ _ _ _ _ qK (@wX _ _ _ _ _ _ _ _ _ (@W5 _ _ _ _ _ _ _ (@qy _ _ _ _ _ _ _ (@Qi _ _ _ _ _ _ _ (@qG _ _ 9 _ _ (by rfl) (by rfl) (by rfl)) qK (by exact fun _ _=>rfl)) qK) (@Qi _ _ _ _ _ _ _ (@qG _ _ 9 _ _ (by rfl) (by rfl) (by rfl)) qK (by exact fun _ _=>rfl))) qF)) hc V.n_min (by rfl) (by rfl) (by rfl)) (@Qv _ _ _ _ _ _ _ _ _ (@JB _ _ _ _ _ _ _ (@qf _ _ _ _ _ _ _ _ qK (@wX _ _ _ _ _ _ _ _ _ (@qy _ _ _ _ _ _ _ (@Qi _ _ _ _ _ _ _ (@qG _ _ 9 _ _ (by rfl) (by rfl) (by rfl)) qK (by exact fun _ _=>rfl)) (@Qi _ _ _ _ _ _ _ (@qG _ _ 9 _ _ (by rfl) (by rfl) (by rfl)) qK (by exact fun _ _=>rfl))) qF)) hc V.n_min (by rfl) (by rfl) (by rfl)) (@Jx _ _ _ _ _ _ _ _ (@Qi _ _ _ _ _ _ _ (@qG _ _ 9 _ _ (by rfl) (by rfl) (by rfl)) qK (by exact fun _ _=>rfl)) qF)))) (by rfl) (by first |exact Or.inl rfl |exact Or.inr rfl) (by rfl) (by first |exact .inl rfl |exact .inr rfl |assumption)))) QK) (@qL _ _ _ _ _ _ (@qi _ _ _ _ _ 10 _ _ sc_law_laid.nd (@qT _ _ _ _ _ _ _ _ _ ((W0 V).call (hr.mono (by omega)) (qt _)) (@qO _ _ _ _ _ _ _ (@qG _ _ 8 _ _ (by rfl) (by rfl) (by rfl)) (@qO _ _ _ _ _ _ _ (@qG _ _ 1 _ _ (by rfl) (by rfl) (by rfl)) qF)) (by rfl) (by rfl)) (by rfl) (by first |exact Or.inl rfl |exact Or.inr rfl) (by rfl) (by first |exact .inl rfl |exact .inr rfl |assumption)) (@qR _ _ _ _ (@wC _ _ _ _ _ _ _ _ _ (@yV _ _ _ _ (@jq _ _ _ _ _ _ _ _ (@QG _ _ _ _ _ _ _ _ _ _ (qHd hu) qHr (@qFp _ _ _ _ _ _ _ hu (@qO _ _ _ _ _ _ _ (@qG _ _ 10 _ _ (by rfl) (by rfl) (by rfl)) qF) V.n_max (by rfl) (by rfl) (by rfl)) (@qZ _ _ _ _ _ _ (@qf _ _ _ _ _ _ _ _ qK (@qf _ _ _ _ _ _ _ _ qK qF))) (by first |exact QC _ |with_unfolding_all rfl)) (@jq _ _ _ _ _ _ _ _ (@QG _ _ _ _ _ _ _ _ _ _ qGV qGN (@qFo _ _ _ _ _ _ _ (@jk _ _ _ _ _ _ _ _ _ (@qo _ _ _ _ (@Qy _ _ _ _ _ _ _ ([]) (["_law_cell_here"]) ([]) _ _ _ _ _ (by exact we rfl (by decide +kernel) rfl rfl trivial) (@wj _ _ _ _ _ (@qG _ _ 10 _ _ (by rfl) (by rfl) (by rfl))) (fun s' H' fp pn=>⟨(@Qi _ _ _ _ _ _ _ (@qG _ _ 0 _ _ (by rfl) (by rfl) (by rfl)) qK (by exact fun _ _=>rfl)),⟨(@wW _ _ 0 _ (show (["_law_cell_here"]:List Str).Nodup by decide +kernel) (by rfl) (by first |exact Or.inl rfl |exact Or.inr rfl) (by first |exact .inl rfl |exact .inr rfl |assumption)),(QH 0),TsOk.nil,rfl⟩,GsOk.nil⟩) (by intro _;rfl))) qF) V.n_max (by rfl) (by rfl) (by rfl)) qK (by first |exact QC _ |with_unfolding_all rfl)) (@JD _ _ _ _ _ (@QG _ _ _ _ _ _ _ _ _ _ (zQ hu) Zl (@qo _ _ _ _ (@Qy _ _ _ _ _ _ _ (["_law_cells"]) (["_law_one"]) ([3]) _ _ _ _ _ (by exact we rfl (by decide +kernel) rfl rfl ⟨⟨rfl,rfl⟩,trivial⟩) (@wj _ _ _ _ _ (@qG _ _ 10 _ _ (by rfl) (by rfl) (by rfl))) (fun s' H' fp pn=>⟨(@qG _ _ 1 _ _ (by rfl) (by rfl) (by rfl)),⟨(@wW _ _ 1 _ (show (["_law_cells","_law_one"]:List Str).Nodup by decide +kernel) (by rfl) (by first |exact Or.inl rfl |exact Or.inr rfl) (by first |exact .inl rfl |exact .inr rfl |assumption)),(QH 1),(TsOk.cons (@QG _ _ _ _ _ _ _ _ _ _ (qCu hu) jB (@qG _ _ 1 _ _ (by rfl) (by rfl) (by rfl)) (@qG _ _ 0 _ _ (by rfl) (by rfl) (by rfl)) (by first |exact QC _ |with_unfolding_all rfl)) TsOk.nil),rfl⟩,GsOk.nil⟩) (by intro _;rfl))) (@qo _ _ _ _ (@QA _ _ _ _ _ qF)) (by first |exact QC _ |with_unfolding_all rfl)))))) (@qL _ _ _ _ _ _ (@zA _ _ _ _ _ _ _ _ _ (@qG _ _ 4 _ _ (by rfl) (by rfl) (by rfl)) (@qG _ _ 8 _ _ (by rfl) (by rfl) (by rfl)) (by rfl) (by rfl) (by rfl) (by rfl) (by rfl) (by rfl)) (@qR _ _ _ _ (@qi _ _ _ _ _ 3 _ _ sc_law_laid.nd (@qo _ _ _ _ (@ZX _ _ _ _ _ _ _ (@qG _ _ 3 _ _ (by rfl) (by rfl) (by rfl)) (@qG _ _ 10 _ _ (by rfl) (by rfl) (by rfl)))) (by rfl) (by first |exact Or.inl rfl |exact Or.inr rfl) (by rfl) (by first |exact .inl rfl |exact .inr rfl |assumption)))) QK))))) (by intro _;rfl)) (@qR _ _ _ _ (@qk _ _ _ _ _ (@qZ _ _ _ _ _ _ (@Qv _ _ _ _ _ _ _ _ _ (@WF _ _ _ _ _ _ _ (@Qv _ _ _ _ _ _ _ _ _ (@Zj _ _ _ _ _ _ hu V.n_sorted (@qG _ _ 3 _ _ (by rfl) (by rfl) (by rfl)) (by rfl) (by rfl)) qF) V.n_tuple (by rfl) (by rfl) (by rfl)) (@Qv _ _ _ _ _ _ _ _ _ (@WF _ _ _ _ _ _ _ (@Qv _ _ _ _ _ _ _ _ _ (@Zj _ _ _ _ _ _ hu V.n_sorted (@qG _ _ 4 _ _ (by rfl) (by rfl) (by rfl)) (by rfl) (by rfl)) qF) V.n_tuple (by rfl) (by rfl) (by rfl)) qF)))))))))
theorem sc_law_floor:FnScope ["_law_box_here","_law_length","_law_most","_law_way","_law_high","_law_wide","_law_up","_law_left","_law_cells","_law_row"] ["_law_box_here","_law_length","_law_most"] (qM wD):=⟨rfl,rfl,rfl,by decide +kernel,rfl,by decide +kernel,by decide +kernel⟩
theorem qAB (V:Env K mg a):DefG P w K mg base 4 "_law_floor" a.law_floor 3 (WR a):=by
 obtain ⟨fd,F⟩:=V.f_law_floor;refine Qw (B:=zl a) F sc_law_floor (F.binds (ps:=["_law_box_here","_law_length","_law_most"]) fun _ _ _ _ _ _ us hl=>match us,hl with |[_,_,_],_=>rfl) V.m_law_floor (fun l st h=>qd h) (fun cdv A outer s H E hr hcm => ?_) (fun l s0 hl hn=>qb hl);have hu:=hr.units;have hc:(wS (CXF P w) P w K mg base ["_law_box_here","_law_length","_law_most","_law_way","_law_high","_law_wide","_law_up","_law_left","_law_cells","_law_row"] "_law_floor" (qM wD) a.law_floor cdv A outer s H E).calm=true:=by show A.handled.isNone=true;rw [hcm (by omega)];rfl
 exact (@qL _ _ _ _ _ _ (@qi _ _ _ _ _ 3 _ _ sc_law_floor.nd (@qT _ _ _ _ _ _ _ _ _ ((qg V).call (hr.mono (by omega)) qa) (@qO _ _ _ _ _ _ _ (@qG _ _ 0 _ _ (by rfl) (by rfl) (by rfl)) (@qf _ _ _ _ _ _ _ _ qK qF)) (by rfl) (by rfl)) (by rfl) (by first |exact Or.inl rfl |exact Or.inr rfl) (by rfl) (by first |exact .inl rfl |exact .inr rfl |assumption)) (@qL _ _ _ _ _ _ (@qC1 _ _ _ _ _ 4 5 _ _ _ _ _ _ _ _ _ hc sc_law_floor.nd (@wX _ _ _ _ _ _ _ _ _ (@qy _ _ _ _ _ _ _ qK (@qT _ _ _ _ _ _ _ _ _ ((qg V).call (hr.mono (by omega)) qa) (@qO _ _ _ _ _ _ _ (@qG _ _ 0 _ _ (by rfl) (by rfl) (by rfl)) (@qf _ _ _ _ _ _ _ _ qK qF)) (by rfl) (by rfl))) (@wX _ _ _ _ _ _ _ _ _ (@qy _ _ _ _ _ _ _ qK (@qT _ _ _ _ _ _ _ _ _ ((qg V).call (hr.mono (by omega)) qa) (@qO _ _ _ _ _ _ _ (@qG _ _ 0 _ _ (by rfl) (by rfl) (by rfl)) (@qf _ _ _ _ _ _ _ _ qK qF)) (by rfl) (by rfl))) qF)) (by rfl) (by rfl) (by rfl) (by decide) (by rfl) (by rfl) (by rfl)) (@qL _ _ _ _ _ _ (@zy _ _ _ _ _ _ _ (@qZ _ _ _ _ _ _ (@Qv _ _ _ _ _ _ _ _ _ (@qT _ _ _ _ _ _ _ _ _ ((qg V).call (hr.mono (by omega)) qa) (@qO _ _ _ _ _ _ _ (@qG _ _ 0 _ _ (by rfl) (by rfl) (by rfl)) (@wX _ _ _ _ _ _ _ _ _ (@W5 _ _ _ _ _ _ _ qK (@qG _ _ 4 _ _ (by rfl) (by rfl) (by rfl))) qF)) (by rfl) (by rfl)) (@Qv _ _ _ _ _ _ _ _ _ (@qT _ _ _ _ _ _ _ _ _ ((qg V).call (hr.mono (by omega)) qa) (@qO _ _ _ _ _ _ _ (@qG _ _ 0 _ _ (by rfl) (by rfl) (by rfl)) (@wX _ _ _ _ _ _ _ _ _ (@W5 _ _ _ _ _ _ _ qK (@qG _ _ 5 _ _ (by rfl) (by rfl) (by rfl))) qF)) (by rfl) (by rfl)) qF))) (@zL _ _ _ _ _ _ hc (@qw _ _ _ _ _ (@qm _ _ 6 _ sc_law_floor.nd (by rfl) (by first |exact Or.inl rfl |exact Or.inr rfl) (by first |exact .inl rfl |exact .inr rfl |assumption)) (@qw _ _ _ _ _ (@qm _ _ 7 _ sc_law_floor.nd (by rfl) (by first |exact Or.inl rfl |exact Or.inr rfl) (by first |exact .inl rfl |exact .inr rfl |assumption)) WY (by rfl)) (by rfl)) (by rfl) (by rfl)) (by rfl) (by rfl) (by rfl)) (@qL _ _ _ _ _ _ (@qi _ _ _ _ _ 8 _ _ sc_law_floor.nd (@qo _ _ _ _ (@QA _ _ _ _ _ qF)) (by rfl) (by first |exact Or.inl rfl |exact Or.inr rfl) (by rfl) (by first |exact .inl rfl |exact .inr rfl |assumption)) (@qL _ _ _ _ _ _ (@zS _ _ _ _ _ _ _ _ _ (@wO _ _ _ _ _ _ _ rfl V.n_range (@qO _ _ _ _ _ _ _ (@qG _ _ 4 _ _ (by rfl) (by rfl) (by rfl)) qF) (by rfl)) (@qm _ _ 9 _ sc_law_floor.nd (by rfl) (by first |exact Or.inl rfl |exact Or.inr rfl) (by first |exact .inl rfl |exact .inr rfl |assumption)) (@qR _ _ _ _ (@qi _ _ _ _ _ 8 _ _ sc_law_floor.nd (@qo _ _ _ _ (@ZX _ _ _ _ _ _ _ (@qG _ _ 8 _ _ (by rfl) (by rfl) (by rfl)) (@qo _ _ _ _ (@Qy _ _ _ _ _ _ _ (["_law_up","_law_row","_law_left","_law_way","_law_box_here"]) (["_law_column"]) ([6,9,7,3,0]) _ _ _ _ _ (by exact we rfl (by decide +kernel) rfl rfl ⟨⟨rfl,rfl⟩,⟨⟨rfl,rfl⟩,⟨⟨rfl,rfl⟩,⟨⟨rfl,rfl⟩,⟨⟨rfl,rfl⟩,trivial⟩⟩⟩⟩⟩) (@wO _ _ _ _ _ _ _ rfl V.n_range (@qO _ _ _ _ _ _ _ (@qG _ _ 5 _ _ (by rfl) (by rfl) (by rfl)) qF) (by rfl)) (fun s' H' fp pn=>⟨(@qZ _ _ _ _ _ _ (@wX _ _ _ _ _ _ _ _ _ (@qy _ _ _ _ _ _ _ (@qG _ _ 0 _ _ (by rfl) (by rfl) (by rfl)) (@qG _ _ 1 _ _ (by rfl) (by rfl) (by rfl))) (@wX _ _ _ _ _ _ _ _ _ (@qy _ _ _ _ _ _ _ (@qG _ _ 2 _ _ (by rfl) (by rfl) (by rfl)) (@qG _ _ 5 _ _ (by rfl) (by rfl) (by rfl))) qF))),⟨(@wW _ _ 5 _ (show (["_law_up","_law_row","_law_left","_law_way","_law_box_here","_law_column"]:List Str).Nodup by decide +kernel) (by rfl) (by first |exact Or.inl rfl |exact Or.inr rfl) (by first |exact .inl rfl |exact .inr rfl |assumption)),(QH 5),(TsOk.cons (@yV _ _ _ _ (@zx _ _ _ _ _ _ _ _ (@QG _ _ _ _ _ _ _ _ _ _ (zQ hu) Zl (@qG _ _ 3 _ _ (by rfl) (by rfl) (by rfl)) qK (by first |exact QC _ |with_unfolding_all rfl)) (@zW _ _ _ _ _ (@QG _ _ _ _ _ _ _ _ _ _ qDe qEO (@qT _ _ _ _ _ _ _ _ _ ((qg V).call (hr.mono (by omega)) (qt _)) (@qO _ _ _ _ _ _ _ (@qG _ _ 4 _ _ (by rfl) (by rfl) (by rfl)) (@qf _ _ _ _ _ _ _ _ qK qF)) (by rfl) (by rfl)) qK (by first |exact QC _ |with_unfolding_all rfl))))) TsOk.nil),rfl⟩,GsOk.nil⟩) (by intro _;rfl))))) (by rfl) (by first |exact Or.inl rfl |exact Or.inr rfl) (by rfl) (by first |exact .inl rfl |exact .inr rfl |assumption))) (by intro _;rfl)) (@qL _ _ _ _ _ _ (@wC _ _ _ _ _ _ _ _ _ (@QG _ _ _ _ _ _ _ _ _ _ qDe qEO (@qG _ _ 3 _ _ (by rfl) (by rfl) (by rfl)) qK (by first |exact QC _ |with_unfolding_all rfl)) (@qR _ _ _ _ (@qk _ _ _ _ _ (@Qi _ _ _ _ _ _ _ (@qT _ _ _ _ _ _ _ _ _ ((YX V).call (hr.mono (by omega)) qa) (@qO _ _ _ _ _ _ _ (@qG _ _ 0 _ _ (by rfl) (by rfl) (by rfl)) (@qO _ _ _ _ _ _ _ (@qG _ _ 1 _ _ (by rfl) (by rfl) (by rfl)) (@Qv _ _ _ _ _ _ _ _ _ (@qBe _ _ _ _ _ _ _ (@qf _ _ _ _ _ _ _ _ qK (@wX _ _ _ _ _ _ _ _ _ (@qA7 _ _ _ _ _ _ _ (@qG _ _ 2 _ _ (by rfl) (by rfl) (by rfl)) (@qG _ _ 1 _ _ (by rfl) (by rfl) (by rfl))) qF)) hc V.n_max (by rfl) (by rfl) (by rfl)) qF))) (by rfl) (by rfl)) qK (by exact fun _ _=>rfl)))) QK) (@qR _ _ _ _ (@qk _ _ _ _ _ (@WF _ _ _ _ _ _ _ (@Jx _ _ _ _ _ _ _ _ (@qIA _ _ _ _ _ _ _ _ _ _ (@Zj _ _ _ _ _ _ hu V.n_sorted (@qG _ _ 8 _ _ (by rfl) (by rfl) (by rfl)) (by rfl) (by rfl)) WZ (@Wy _ _ _ _ (@qG _ _ 2 _ _ (by rfl) (by rfl) (by rfl)))) qF) V.n_tuple (by rfl) (by rfl) (by rfl))))))))))
theorem j8:FnScope ["_law_found"] ["_law_found"] (qM wp):=⟨rfl,rfl,rfl,by decide +kernel,rfl,by decide +kernel,by decide +kernel⟩
theorem Jn (V:Env K mg a):DefG P w K mg base 2 "_law_whole" a.law_whole 1 (WO a):=by obtain ⟨fd,F⟩:=V.f_law_whole;refine Qw (B:=yQ a) F j8 (F.binds (ps:=["_law_found"]) fun _ _ _ _ _ _ us hl=>match us,hl with |[_],_=>rfl) V.m_law_whole (fun l st h=>qd h) (fun cdv A outer s H E hr hcm => ?_) (fun l s0 hl hn=>qb hl);have hu:=hr.units;exact (@qR _ _ _ _ (@qk _ _ _ _ _ (@Ym _ _ _ _ _ _ _ _ (@Qk _ _ _ _ _ _ _ _ V.kit V.n_isinstance (@qO _ _ _ _ _ _ _ (@qG _ _ 0 _ _ (by rfl) (by rfl) (by rfl)) (@qO _ _ _ _ _ _ _ (@ZK _ _ _ _ _ rfl V.n_int Boot.«int» (by decide) (by decide)) qF)) (by rfl) (by rfl) (by rfl)) (@Yl _ _ _ _ _ _ (@qEf _ _ _ _ _ (@Qk _ _ _ _ _ _ _ _ V.kit V.n_isinstance (@qO _ _ _ _ _ _ _ (@qG _ _ 0 _ _ (by rfl) (by rfl) (by rfl)) (@qO _ _ _ _ _ _ _ (@ZK _ _ _ _ _ rfl V.n_bool Boot.«bool» (by decide) (by decide)) qF)) (by rfl) (by rfl) (by rfl)))))))
theorem sc_law_fillings:FnScope ["_law_floor_here","_law_length","_law_found","_law_waiting","_law_bars","_law_left","_law_way","_law_some"] ["_law_floor_here","_law_length"] (qM Qb):=⟨rfl,rfl,rfl,by decide +kernel,rfl,by decide +kernel,by decide +kernel⟩
theorem YD (V:Env K mg a):DefG P w K mg base 3 "_law_fillings" a.law_fillings 2 (w4 a):=by
 obtain ⟨fd,F⟩:=V.f_law_fillings;refine Qw (B:=zi a) F sc_law_fillings (F.binds (ps:=["_law_floor_here","_law_length"]) fun _ _ _ _ _ _ us hl=>match us,hl with |[_,_],_=>rfl) V.m_law_fillings (fun l st h=>qd h) (fun cdv A outer s H E hr hcm => ?_) (fun l s0 hl hn=>qb hl);have hu:=hr.units;have hc:(wS (CXF P w) P w K mg base ["_law_floor_here","_law_length","_law_found","_law_waiting","_law_bars","_law_left","_law_way","_law_some"] "_law_fillings" (qM Qb) a.law_fillings cdv A outer s H E).calm=true:=by show A.handled.isNone=true;rw [hcm (by omega)];rfl
 exact (@qL _ _ _ _ _ _ (@Zi _ _ _ _ 2 _ _ _ sc_law_fillings.nd (@QA _ _ _ _ _ qF) (by rfl) (by first |exact Or.inl rfl |exact Or.inr rfl) (by rfl) (by first |exact .inl rfl |exact .inr rfl |assumption)) (@qL _ _ _ _ _ _ (@Zi _ _ _ _ 3 _ _ _ sc_law_fillings.nd (@QA _ _ _ _ _ (@wU _ _ _ _ _ _ _ _ (@qZ _ _ _ _ _ _ (@wU _ _ _ _ _ _ _ _ (@qZ _ _ _ _ _ _ qF) (@Qv _ _ _ _ _ _ _ _ _ (@qo _ _ _ _ (@yy _ _ _ _ _ _ V.n_list (@qG _ _ 0 _ _ (by rfl) (by rfl) (by rfl)) (by rfl) (by rfl) (by rfl))) qF))) qF)) (by rfl) (by first |exact Or.inl rfl |exact Or.inr rfl) (by rfl) (by first |exact .inl rfl |exact .inr rfl |assumption)) (@qL _ _ _ _ _ _ (@qC0 _ _ _ _ _ 2000 _ _ (@QG _ _ _ _ _ _ _ _ _ _ (zk hu) yS (@qG _ _ 3 _ _ (by rfl) (by rfl) (by rfl)) (@qo _ _ _ _ (@QA _ _ _ _ _ qF)) (by first |exact QC _ |with_unfolding_all rfl)) (@qL _ _ _ _ _ _ (@zy _ _ _ _ _ _ _ (@qHL _ _ _ _ _ _ (@qG _ _ 3 _ _ (by rfl) (by rfl) (by rfl)) (by rfl) (by rfl)) (@zL _ _ _ _ _ _ hc (@qw _ _ _ _ _ (@qm _ _ 4 _ sc_law_fillings.nd (by rfl) (by first |exact Or.inl rfl |exact Or.inr rfl) (by first |exact .inl rfl |exact .inr rfl |assumption)) (@qw _ _ _ _ _ (@qm _ _ 5 _ sc_law_fillings.nd (by rfl) (by first |exact Or.inl rfl |exact Or.inr rfl) (by first |exact .inl rfl |exact .inr rfl |assumption)) WY (by rfl)) (by rfl)) (by rfl) (by rfl)) (by rfl) (by rfl) (by rfl)) (@qR _ _ _ _ (@wC _ _ _ _ _ _ _ _ _ (@QG _ _ _ _ _ _ _ _ _ _ (zQ hu) Zl (@qG _ _ 5 _ _ (by rfl) (by rfl) (by rfl)) (@qo _ _ _ _ (@QA _ _ _ _ _ qF)) (by first |exact QC _ |with_unfolding_all rfl)) (@qR _ _ _ _ (@zA _ _ _ _ _ _ _ _ _ (@qG _ _ 2 _ _ (by rfl) (by rfl) (by rfl)) (@qG _ _ 4 _ _ (by rfl) (by rfl) (by rfl)) (by rfl) (by rfl) (by rfl) (by rfl) (by rfl) (by rfl))) (@qR _ _ _ _ (@zS _ _ _ _ _ _ _ _ _ (@wj _ _ _ _ _ (@qZ _ _ _ _ _ _ (@qf _ _ _ _ _ _ _ _ qK (@qf _ _ _ _ _ _ _ _ qK qF)))) (@qm _ _ 6 _ sc_law_fillings.nd (by rfl) (by first |exact Or.inl rfl |exact Or.inr rfl) (by first |exact .inl rfl |exact .inr rfl |assumption)) (@qL _ _ _ _ _ _ (@qi _ _ _ _ _ 7 _ _ sc_law_fillings.nd (@qT _ _ _ _ _ _ _ _ _ ((W0 V).call (hr.mono (by omega)) (qt _)) (@wX _ _ _ _ _ _ _ _ _ (@Wx _ _ _ _ _ _ _ (@Qi _ _ _ _ _ _ _ (@qG _ _ 5 _ _ (by rfl) (by rfl) (by rfl)) qK (by exact fun _ _=>rfl)) (@qZ _ _ _ _ _ _ (@qO _ _ _ _ _ _ _ (@qG _ _ 6 _ _ (by rfl) (by rfl) (by rfl)) qF))) (@qO _ _ _ _ _ _ _ (@qG _ _ 1 _ _ (by rfl) (by rfl) (by rfl)) qF)) (by rfl) (by rfl)) (by rfl) (by first |exact Or.inl rfl |exact Or.inr rfl) (by rfl) (by first |exact .inl rfl |exact .inr rfl |assumption)) (@qR _ _ _ _ (@wC _ _ _ _ _ _ _ _ _ (@QG _ _ _ _ _ _ _ _ _ _ (zQ hu) Zl (@qo _ _ _ _ (@Qy _ _ _ _ _ _ _ (["_law_left"]) (["_law_cell_here"]) ([5]) _ _ _ _ _ (by exact we rfl (by decide +kernel) rfl rfl ⟨⟨rfl,rfl⟩,trivial⟩) (@wj _ _ _ _ _ (@qG _ _ 7 _ _ (by rfl) (by rfl) (by rfl))) (fun s' H' fp pn=>⟨(@qG _ _ 1 _ _ (by rfl) (by rfl) (by rfl)),⟨(@wW _ _ 1 _ (show (["_law_left","_law_cell_here"]:List Str).Nodup by decide +kernel) (by rfl) (by first |exact Or.inl rfl |exact Or.inr rfl) (by first |exact .inl rfl |exact .inr rfl |assumption)),(QH 1),(TsOk.cons (@QG _ _ _ _ _ _ _ _ _ _ (ZA hu) jB (@qG _ _ 1 _ _ (by rfl) (by rfl) (by rfl)) (@qG _ _ 0 _ _ (by rfl) (by rfl) (by rfl)) (by first |exact QC _ |with_unfolding_all rfl)) TsOk.nil),rfl⟩,GsOk.nil⟩) (by intro _;rfl))) (@qo _ _ _ _ (@QA _ _ _ _ _ qF)) (by first |exact QC _ |with_unfolding_all rfl)) (@qR _ _ _ _ (@zA _ _ _ _ _ _ _ _ _ (@qG _ _ 3 _ _ (by rfl) (by rfl) (by rfl)) (@qZ _ _ _ _ _ _ (@wX _ _ _ _ _ _ _ _ _ (@Wx _ _ _ _ _ _ _ (@qG _ _ 4 _ _ (by rfl) (by rfl) (by rfl)) (@qZ _ _ _ _ _ _ (@wX _ _ _ _ _ _ _ _ _ (@Wx _ _ _ _ _ _ _ (@Qi _ _ _ _ _ _ _ (@qG _ _ 5 _ _ (by rfl) (by rfl) (by rfl)) qK (by exact fun _ _=>rfl)) (@qZ _ _ _ _ _ _ (@qO _ _ _ _ _ _ _ (@qG _ _ 6 _ _ (by rfl) (by rfl) (by rfl)) qF))) qF))) (@jk _ _ _ _ _ _ _ _ _ (@qo _ _ _ _ (@Qy _ _ _ _ _ _ _ (["_law_some"]) (["_law_cell_here"]) ([7]) _ _ _ _ _ (by exact we rfl (by decide +kernel) rfl rfl ⟨⟨rfl,rfl⟩,trivial⟩) (@wj _ _ _ _ _ (@qG _ _ 5 _ _ (by rfl) (by rfl) (by rfl))) (fun s' H' fp pn=>⟨(@qG _ _ 1 _ _ (by rfl) (by rfl) (by rfl)),⟨(@wW _ _ 1 _ (show (["_law_some","_law_cell_here"]:List Str).Nodup by decide +kernel) (by rfl) (by first |exact Or.inl rfl |exact Or.inr rfl) (by first |exact .inl rfl |exact .inr rfl |assumption)),(QH 1),(TsOk.cons (@QG _ _ _ _ _ _ _ _ _ _ (ZA hu) jB (@qG _ _ 1 _ _ (by rfl) (by rfl) (by rfl)) (@qG _ _ 0 _ _ (by rfl) (by rfl) (by rfl)) (by first |exact QC _ |with_unfolding_all rfl)) TsOk.nil),rfl⟩,GsOk.nil⟩) (by intro _;rfl))) qF))) (by rfl) (by rfl) (by rfl) (by rfl) (by rfl) (by rfl))) QK))) (by intro _;rfl))))))) (@qR _ _ _ _ (@qk _ _ _ _ _ (@qG _ _ 2 _ _ (by rfl) (by rfl) (by rfl)))))))
theorem Y0:FnScope ["_law_floor_here","_law_length","_law_thing"] ["_law_floor_here","_law_length","_law_thing"] (qM wL):=⟨rfl,rfl,rfl,by decide +kernel,rfl,by decide +kernel,by decide +kernel⟩
theorem JC (V:Env K mg a):DefG P w K mg base 3 "_law_is_bar" a.law_is_bar 3 (wP a):=by obtain ⟨fd,F⟩:=V.f_law_is_bar;refine Qw (B:=Zw a) F Y0 (F.binds (ps:=["_law_floor_here","_law_length","_law_thing"]) fun _ _ _ _ _ _ us hl=>match us,hl with |[_,_,_],_=>rfl) V.m_law_is_bar (fun l st h=>qd h) (fun cdv A outer s H E hr hcm => ?_) (fun l s0 hl hn=>qb hl);have hu:=hr.units;exact (@qL _ _ _ _ _ _ (@wC _ _ _ _ _ _ _ _ _ (@yV _ _ _ _ (@zx _ _ _ _ _ _ _ _ (@wo _ _ _ _ _ (@wa _ _ _ _ (@Qk _ _ _ _ _ _ _ _ V.kit V.n_isinstance (@qO _ _ _ _ _ _ _ (@qG _ _ 2 _ _ (by rfl) (by rfl) (by rfl)) (@qO _ _ _ _ _ _ _ (@ZK _ _ _ _ _ rfl V.n_tuple Boot.«tuple» (by decide) (by decide)) qF)) (by rfl) (by rfl) (by rfl)) (by intro _;rfl))) (@zx _ _ _ _ _ _ _ _ (@QG _ _ _ _ _ _ _ _ _ _ (zk hu) yS (@Qo _ _ _ _ _ _ _ (@qO _ _ _ _ _ _ _ (@qG _ _ 2 _ _ (by rfl) (by rfl) (by rfl)) qF) V.n_len (by rfl) (by rfl) (by rfl)) qK (by first |exact QC _ |with_unfolding_all rfl)) (@zW _ _ _ _ _ (@wo _ _ _ _ _ (@wa _ _ _ _ (@yu _ _ _ _ _ _ _ (@jk _ _ _ _ _ _ _ _ _ (@qo _ _ _ _ (@Qy _ _ _ _ _ _ _ ([]) (["_law_one"]) ([]) _ _ _ _ _ (by exact we rfl (by decide +kernel) rfl rfl trivial) (@wj _ _ _ _ _ (@qG _ _ 2 _ _ (by rfl) (by rfl) (by rfl))) (fun s' H' fp pn=>⟨(@qT _ _ _ _ _ _ _ _ _ ((Jn V).call (hr.mono (by omega)) (qt _)) (@qO _ _ _ _ _ _ _ (@qG _ _ 0 _ _ (by rfl) (by rfl) (by rfl)) qF) (by rfl) (by rfl)),⟨(@wW _ _ 0 _ (show (["_law_one"]:List Str).Nodup by decide +kernel) (by rfl) (by first |exact Or.inl rfl |exact Or.inr rfl) (by first |exact .inl rfl |exact .inr rfl |assumption)),(QH 0),TsOk.nil,rfl⟩,GsOk.nil⟩) (by intro _;rfl))) qF) V.n_all (by rfl) (by rfl) (by rfl)) (by intro _;rfl))))))) (@qR _ _ _ _ (@qk _ _ _ _ _ WB)) QK) (@qL _ _ _ _ _ _ (@wC _ _ _ _ _ _ _ _ _ (@QG _ _ _ _ _ _ _ _ _ _ (ZA hu) jB (@Qi _ _ _ _ _ _ _ (@qG _ _ 2 _ _ (by rfl) (by rfl) (by rfl)) qK (by exact fun _ _=>rfl)) (@qZ _ _ _ _ _ _ (@qf _ _ _ _ _ _ _ _ qK (@qf _ _ _ _ _ _ _ _ qK qF))) (by first |exact QC _ |with_unfolding_all rfl)) (@qR _ _ _ _ (@qk _ _ _ _ _ WB)) QK) (@qR _ _ _ _ (@qk _ _ _ _ _ (@qAF _ _ _ _ _ _ _ hu (@qo _ _ _ _ (@Qy _ _ _ _ _ _ _ (["_law_floor_here"]) (["_law_cell_here"]) ([0]) _ _ _ _ _ (by exact we rfl (by decide +kernel) rfl rfl ⟨⟨rfl,rfl⟩,trivial⟩) (@wj _ _ _ _ _ (@qT _ _ _ _ _ _ _ _ _ ((W0 V).call (hr.mono (by omega)) qa) (@qO _ _ _ _ _ _ _ (@qG _ _ 2 _ _ (by rfl) (by rfl) (by rfl)) (@qO _ _ _ _ _ _ _ (@qG _ _ 1 _ _ (by rfl) (by rfl) (by rfl)) qF)) (by rfl) (by rfl))) (fun s' H' fp pn=>⟨(@qG _ _ 1 _ _ (by rfl) (by rfl) (by rfl)),⟨(@wW _ _ 1 _ (show (["_law_floor_here","_law_cell_here"]:List Str).Nodup by decide +kernel) (by rfl) (by first |exact Or.inl rfl |exact Or.inr rfl) (by first |exact .inl rfl |exact .inr rfl |assumption)),(QH 1),(TsOk.cons (@QG _ _ _ _ _ _ _ _ _ _ (ZA hu) jB (@qG _ _ 1 _ _ (by rfl) (by rfl) (by rfl)) (@qG _ _ 0 _ _ (by rfl) (by rfl) (by rfl)) (by first |exact QC _ |with_unfolding_all rfl)) TsOk.nil),rfl⟩,GsOk.nil⟩) (by intro _;rfl))) (@qo _ _ _ _ (@QA _ _ _ _ _ qF)))))))
theorem sc_law_are_apart:FnScope ["_law_floor_here","_law_length","_law_thing","_law_cells","_law_k"] ["_law_floor_here","_law_length","_law_thing"] (qM QV):=⟨rfl,rfl,rfl,by decide +kernel,rfl,by decide +kernel,by decide +kernel⟩
theorem yX (V:Env K mg a):DefG P w K mg base 4 "_law_are_apart" a.law_are_apart 3 (wZ a):=by
 obtain ⟨fd,F⟩:=V.f_law_are_apart;refine Qw (B:=zd a) F sc_law_are_apart (F.binds (ps:=["_law_floor_here","_law_length","_law_thing"]) fun _ _ _ _ _ _ us hl=>match us,hl with |[_,_,_],_=>rfl) V.m_law_are_apart (fun l st h=>qd h) (fun cdv A outer s H E hr hcm => ?_) (fun l s0 hl hn=>qb hl);have hu:=hr.units;have hc:(wS (CXF P w) P w K mg base ["_law_floor_here","_law_length","_law_thing","_law_cells","_law_k"] "_law_are_apart" (qM QV) a.law_are_apart cdv A outer s H E).calm=true:=by show A.handled.isNone=true;rw [hcm (by omega)];rfl
 exact (@qL _ _ _ _ _ _ (@wC _ _ _ _ _ _ _ _ _ (@wo _ _ _ _ _ (@wa _ _ _ _ (@Qk _ _ _ _ _ _ _ _ V.kit V.n_isinstance (@qO _ _ _ _ _ _ _ (@qG _ _ 2 _ _ (by rfl) (by rfl) (by rfl)) (@qO _ _ _ _ _ _ _ (@ZK _ _ _ _ _ rfl V.n_tuple Boot.«tuple» (by decide) (by decide)) qF)) (by rfl) (by rfl) (by rfl)) (by intro _;rfl))) (@qR _ _ _ _ (@qk _ _ _ _ _ WB)) QK) (@qL _ _ _ _ _ _ (@qi _ _ _ _ _ 3 _ _ sc_law_are_apart.nd (@qo _ _ _ _ (@QA _ _ _ _ _ qF)) (by rfl) (by first |exact Or.inl rfl |exact Or.inr rfl) (by rfl) (by first |exact .inl rfl |exact .inr rfl |assumption)) (@qL _ _ _ _ _ _ (@zS _ _ _ _ _ _ _ _ _ (@wO _ _ _ _ _ _ _ rfl V.n_range (@Qv _ _ _ _ _ _ _ _ _ (@Qo _ _ _ _ _ _ _ (@qO _ _ _ _ _ _ _ (@qG _ _ 2 _ _ (by rfl) (by rfl) (by rfl)) qF) V.n_len (by rfl) (by rfl) (by rfl)) qF) (by rfl)) (@qm _ _ 4 _ sc_law_are_apart.nd (by rfl) (by first |exact Or.inl rfl |exact Or.inr rfl) (by first |exact .inl rfl |exact .inr rfl |assumption)) (@qL _ _ _ _ _ _ (@wC _ _ _ _ _ _ _ _ _ (@yV _ _ _ _ (@zx _ _ _ _ _ _ _ _ (@wo _ _ _ _ _ (@wa _ _ _ _ (@qT _ _ _ _ _ _ _ _ _ ((JC V).call (hr.mono (by omega)) (qt _)) (@qO _ _ _ _ _ _ _ (@qG _ _ 0 _ _ (by rfl) (by rfl) (by rfl)) (@qO _ _ _ _ _ _ _ (@qG _ _ 1 _ _ (by rfl) (by rfl) (by rfl)) (@Jx _ _ _ _ _ _ _ _ (@Qi _ _ _ _ _ _ _ (@qG _ _ 2 _ _ (by rfl) (by rfl) (by rfl)) (@qG _ _ 4 _ _ (by rfl) (by rfl) (by rfl)) (by exact fun _ _=>rfl)) qF))) (by rfl) (by rfl)) (by intro _;rfl))) (@zW _ _ _ _ _ (@yV _ _ _ _ (@jq _ _ _ _ _ _ _ _ (@QG _ _ _ _ _ _ _ _ _ _ qDe qEO (@qG _ _ 4 _ _ (by rfl) (by rfl) (by rfl)) qK (by first |exact QC _ |with_unfolding_all rfl)) (@JD _ _ _ _ _ (@wo _ _ _ _ _ (@QG _ _ _ _ _ _ _ _ _ _ (qEh hu) qEr (@Qi _ _ _ _ _ _ _ (@qG _ _ 2 _ _ (by rfl) (by rfl) (by rfl)) (@W5 _ _ _ _ _ _ _ (@qG _ _ 4 _ _ (by rfl) (by rfl) (by rfl)) qK) (by exact fun _ _=>rfl)) (@Qi _ _ _ _ _ _ _ (@qG _ _ 2 _ _ (by rfl) (by rfl) (by rfl)) (@qG _ _ 4 _ _ (by rfl) (by rfl) (by rfl)) (by exact fun _ _=>rfl)) (by first |exact QC _ |with_unfolding_all rfl))))))))) (@qR _ _ _ _ (@qk _ _ _ _ _ WB)) QK) (@qR _ _ _ _ (@qi _ _ _ _ _ 3 _ _ sc_law_are_apart.nd (@qo _ _ _ _ (@ZX _ _ _ _ _ _ _ (@qG _ _ 3 _ _ (by rfl) (by rfl) (by rfl)) (@qT _ _ _ _ _ _ _ _ _ ((W0 V).call (hr.mono (by omega)) (qt _)) (@Jx _ _ _ _ _ _ _ _ (@Qi _ _ _ _ _ _ _ (@qG _ _ 2 _ _ (by rfl) (by rfl) (by rfl)) (@qG _ _ 4 _ _ (by rfl) (by rfl) (by rfl)) (by exact fun _ _=>rfl)) (@qO _ _ _ _ _ _ _ (@qG _ _ 1 _ _ (by rfl) (by rfl) (by rfl)) qF)) (by rfl) (by rfl)))) (by rfl) (by first |exact Or.inl rfl |exact Or.inr rfl) (by rfl) (by first |exact .inl rfl |exact .inr rfl |assumption)))) (by intro _;rfl)) (@qR _ _ _ _ (@qk _ _ _ _ _ (@qAF _ _ _ _ _ _ _ hu (@Jp _ _ _ _ _ _ _ _ hc hu V.n_len V.n_set (@qG _ _ 3 _ _ (by rfl) (by rfl) (by rfl)) (by rfl) (by rfl) (by rfl) (by rfl)) (@Qo _ _ _ _ _ _ _ (@qO _ _ _ _ _ _ _ (@qG _ _ 3 _ _ (by rfl) (by rfl) (by rfl)) qF) V.n_len (by rfl) (by rfl) (by rfl))))))))
theorem sc_law_odd:FnScope ["_law_box_here","_law_some"] ["_law_box_here"] (qM Wg):=⟨rfl,rfl,rfl,by decide +kernel,rfl,by decide +kernel,by decide +kernel⟩
theorem jE (V:Env K mg a):DefG P w K mg base 3 "_law_odd" a.law_odd 1 (zI a):=by obtain ⟨fd,F⟩:=V.f_law_odd;refine Qw (B:=jD a) F sc_law_odd (F.binds (ps:=["_law_box_here"]) fun _ _ _ _ _ _ us hl=>match us,hl with |[_],_=>rfl) V.m_law_odd (fun l st h=>qd h) (fun cdv A outer s H E hr hcm => ?_) (fun l s0 hl hn=>qb hl);have hu:=hr.units;exact (@qL _ _ _ _ _ _ (@qi _ _ _ _ _ 1 _ _ sc_law_odd.nd (@qo _ _ _ _ (@QA _ _ _ _ _ (@qf _ _ _ _ _ _ _ _ qDL (@qf _ _ _ _ _ _ _ _ WB (@qf _ _ _ _ _ _ _ _ WB (@qDt _ _ _ _ _ _ _ _ (@ZY _ _ _ _ _ qK) (@qf _ _ _ _ _ _ _ _ qK (@qf _ _ _ _ _ _ _ _ qK (@qf _ _ _ _ _ _ _ _ qK (@qf _ _ _ _ _ _ _ _ qK (@qf _ _ _ _ _ _ _ _ qK (@qf _ _ _ _ _ _ _ _ Qs (@qf _ _ _ _ _ _ _ _ Qs (@qf _ _ _ _ _ _ _ _ Qs (@wU _ _ _ _ _ _ _ _ (@qZ _ _ _ _ _ _ qF) (@wU _ _ _ _ _ _ _ _ (@qZ _ _ _ _ _ _ (@qf _ _ _ _ _ _ _ _ qK qF)) (@wU _ _ _ _ _ _ _ _ (@qZ _ _ _ _ _ _ (@qf _ _ _ _ _ _ _ _ qK (@qf _ _ _ _ _ _ _ _ qK qF))) (@wU _ _ _ _ _ _ _ _ (@qZ _ _ _ _ _ _ (@qf _ _ _ _ _ _ _ _ qK (@qf _ _ _ _ _ _ _ _ qK (@qf _ _ _ _ _ _ _ _ qK qF)))) (@qFl _ _ _ _ _ _ _ (@qo _ _ _ _ (@QA _ _ _ _ _ (@qf _ _ _ _ _ _ _ _ qK qF))) (@qJ5 _ _ _ _ _ _ _ _ qHA (@wU _ _ _ _ _ _ _ _ (@qZ _ _ _ _ _ _ (@qf _ _ _ _ _ _ _ _ qK (@qf _ _ _ _ _ _ _ _ qK (@qf _ _ _ _ _ _ _ _ WB qF)))) qF))))))))))))))))))))) (by rfl) (by first |exact Or.inl rfl |exact Or.inr rfl) (by rfl) (by first |exact .inl rfl |exact .inr rfl |assumption)) (@qL _ _ _ _ _ _ (@qi _ _ _ _ _ 1 _ _ sc_law_odd.nd (@qo _ _ _ _ (@ZX _ _ _ _ _ _ _ (@qG _ _ 1 _ _ (by rfl) (by rfl) (by rfl)) (@qo _ _ _ _ (@QA _ _ _ _ _ (@wU _ _ _ _ _ _ _ _ (@qZ _ _ _ _ _ _ (@wU _ _ _ _ _ _ _ _ (@qZ _ _ _ _ _ _ (@qf _ _ _ _ _ _ _ _ qK (@qf _ _ _ _ _ _ _ _ qK (@qf _ _ _ _ _ _ _ _ qK qF)))) qF)) (@wU _ _ _ _ _ _ _ _ (@qZ _ _ _ _ _ _ (@wU _ _ _ _ _ _ _ _ (@qZ _ _ _ _ _ _ (@qf _ _ _ _ _ _ _ _ qK (@qf _ _ _ _ _ _ _ _ qK (@qf _ _ _ _ _ _ _ _ qK qF)))) qF)) (@qFl _ _ _ _ _ _ _ (@qo _ _ _ _ (@QA _ _ _ _ _ (@wU _ _ _ _ _ _ _ _ (@qZ _ _ _ _ _ _ (@qf _ _ _ _ _ _ _ _ qK (@qf _ _ _ _ _ _ _ _ qK (@qf _ _ _ _ _ _ _ _ qK qF)))) qF))) (@wX _ _ _ _ _ _ _ _ _ (@qDS _ _ _ _ _ _ _ qK qK) (@wU _ _ _ _ _ _ _ _ (@qZ _ _ _ _ _ _ (@qf _ _ _ _ _ _ _ _ qK (@qf _ _ _ _ _ _ _ _ qK (@qf _ _ _ _ _ _ _ _ qK qF)))) (@wU _ _ _ _ _ _ _ _ (@qZ _ _ _ _ _ _ (@qf _ _ _ _ _ _ _ _ qK (@qDt _ _ _ _ _ _ _ _ (@ZY _ _ _ _ _ qK) (@qf _ _ _ _ _ _ _ _ qK qF)))) (@wU _ _ _ _ _ _ _ _ (@qZ _ _ _ _ _ _ (@wU _ _ _ _ _ _ _ _ (@qZ _ _ _ _ _ _ (@qf _ _ _ _ _ _ _ _ qK (@qf _ _ _ _ _ _ _ _ qK qF))) qF)) (@wU _ _ _ _ _ _ _ _ (@qZ _ _ _ _ _ _ (@qf _ _ _ _ _ _ _ _ qK (@qf _ _ _ _ _ _ _ _ qK (@qf _ _ _ _ _ _ _ _ qK (@qf _ _ _ _ _ _ _ _ qK qF))))) qF)))))))))))) (by rfl) (by first |exact Or.inl rfl |exact Or.inr rfl) (by rfl) (by first |exact .inl rfl |exact .inr rfl |assumption)) (@qR _ _ _ _ (@qk _ _ _ _ _ (@Qi _ _ _ _ _ _ _ (@qG _ _ 1 _ _ (by rfl) (by rfl) (by rfl)) (@qT _ _ _ _ _ _ _ _ _ ((qg V).call (hr.mono (by omega)) qa) (@qO _ _ _ _ _ _ _ (@qG _ _ 0 _ _ (by rfl) (by rfl) (by rfl)) (@Qv _ _ _ _ _ _ _ _ _ (@Qo _ _ _ _ _ _ _ (@qO _ _ _ _ _ _ _ (@qG _ _ 1 _ _ (by rfl) (by rfl) (by rfl)) qF) V.n_len (by rfl) (by rfl) (by rfl)) qF)) (by rfl) (by rfl)) (by exact fun _ _=>rfl))))))
theorem sc_law_bent:FnScope ["_law_box_here","_law_bars","_law_odd_here","_law_at","_law_to","_law_row","_law_column","_law_way","_law_rows","_law_some","_law_news","_law_one"] ["_law_box_here","_law_bars"] (qM wn):=⟨rfl,rfl,rfl,by decide +kernel,rfl,by decide +kernel,by decide +kernel⟩
theorem YO (V:Env K mg a):DefG P w K mg base 4 "_law_bent" a.law_bent 2 (WG a):=by
 obtain ⟨fd,F⟩:=V.f_law_bent;refine Qw (B:=ZQ a) F sc_law_bent (F.binds (ps:=["_law_box_here","_law_bars"]) fun _ _ _ _ _ _ us hl=>match us,hl with |[_,_],_=>rfl) V.m_law_bent (fun l st h=>qd h) (fun cdv A outer s H E hr hcm => ?_) (fun l s0 hl hn=>qb hl);have hu:=hr.units;have hc:(wS (CXF P w) P w K mg base ["_law_box_here","_law_bars","_law_odd_here","_law_at","_law_to","_law_row","_law_column","_law_way","_law_rows","_law_some","_law_news","_law_one"] "_law_bent" (qM wn) a.law_bent cdv A outer s H E).calm=true:=by show A.handled.isNone=true;rw [hcm (by omega)];rfl
 exact (@qL _ _ _ _ _ _ (@qi _ _ _ _ _ 2 _ _ sc_law_bent.nd (@qT _ _ _ _ _ _ _ _ _ ((jE V).call (hr.mono (by omega)) qa) (@qO _ _ _ _ _ _ _ (@qG _ _ 0 _ _ (by rfl) (by rfl) (by rfl)) qF) (by rfl) (by rfl)) (by rfl) (by first |exact Or.inl rfl |exact Or.inr rfl) (by rfl) (by first |exact .inl rfl |exact .inr rfl |assumption)) (@qL _ _ _ _ _ _ (@wC _ _ _ _ _ _ _ _ _ (@QG _ _ _ _ _ _ _ _ _ _ (zQ hu) Zl (@qG _ _ 1 _ _ (by rfl) (by rfl) (by rfl)) (@qZ _ _ _ _ _ _ qF) (by first |exact QC _ |with_unfolding_all rfl)) (@qR _ _ _ _ (@qk _ _ _ _ _ (@Qi _ _ _ _ _ _ _ (@qo _ _ _ _ (@QA _ _ _ _ _ (@qO _ _ _ _ _ _ _ (@qG _ _ 2 _ _ (by rfl) (by rfl) (by rfl)) (@wU _ _ _ _ _ _ _ _ (@qZ _ _ _ _ _ _ (@qO _ _ _ _ _ _ _ (@qG _ _ 2 _ _ (by rfl) (by rfl) (by rfl)) qF)) (@qFl _ _ _ _ _ _ _ (@qo _ _ _ _ (@QA _ _ _ _ _ qF)) (@wU _ _ _ _ _ _ _ _ (@qZ _ _ _ _ _ _ (@wU _ _ _ _ _ _ _ _ (@qZ _ _ _ _ _ _ (@qf _ _ _ _ _ _ _ _ qK (@qf _ _ _ _ _ _ _ _ qK (@qf _ _ _ _ _ _ _ _ qK qF)))) qF)) qF)))))) (@qT _ _ _ _ _ _ _ _ _ ((qg V).call (hr.mono (by omega)) qa) (@qO _ _ _ _ _ _ _ (@qG _ _ 0 _ _ (by rfl) (by rfl) (by rfl)) (@qf _ _ _ _ _ _ _ _ qK qF)) (by rfl) (by rfl)) (by exact fun _ _=>rfl)))) QK) (@qL _ _ _ _ _ _ (@qi _ _ _ _ _ 3 _ _ sc_law_bent.nd (@qT _ _ _ _ _ _ _ _ _ ((qg V).call (hr.mono (by omega)) qa) (@qO _ _ _ _ _ _ _ (@qG _ _ 0 _ _ (by rfl) (by rfl) (by rfl)) (@Qv _ _ _ _ _ _ _ _ _ (@Qo _ _ _ _ _ _ _ (@qO _ _ _ _ _ _ _ (@qG _ _ 1 _ _ (by rfl) (by rfl) (by rfl)) qF) V.n_len (by rfl) (by rfl) (by rfl)) qF)) (by rfl) (by rfl)) (by rfl) (by first |exact Or.inl rfl |exact Or.inr rfl) (by rfl) (by first |exact .inl rfl |exact .inr rfl |assumption)) (@qL _ _ _ _ _ _ (@qi _ _ _ _ _ 4 _ _ sc_law_bent.nd (@qT _ _ _ _ _ _ _ _ _ ((qg V).call (hr.mono (by omega)) qa) (@qO _ _ _ _ _ _ _ (@qG _ _ 0 _ _ (by rfl) (by rfl) (by rfl)) (@Qv _ _ _ _ _ _ _ _ _ (@Qo _ _ _ _ _ _ _ (@qO _ _ _ _ _ _ _ (@qG _ _ 1 _ _ (by rfl) (by rfl) (by rfl)) qF) V.n_len (by rfl) (by rfl) (by rfl)) qF)) (by rfl) (by rfl)) (by rfl) (by first |exact Or.inl rfl |exact Or.inr rfl) (by rfl) (by first |exact .inl rfl |exact .inr rfl |assumption)) (@qL _ _ _ _ _ _ (@zy _ _ _ _ _ _ _ (@Qi _ _ _ _ _ _ _ (@qG _ _ 1 _ _ (by rfl) (by rfl) (by rfl)) (@qG _ _ 3 _ _ (by rfl) (by rfl) (by rfl)) (by exact fun _ _=>rfl)) (@zL _ _ _ _ _ _ hc (@qw _ _ _ _ _ (@qm _ _ 5 _ sc_law_bent.nd (by rfl) (by first |exact Or.inl rfl |exact Or.inr rfl) (by first |exact .inl rfl |exact .inr rfl |assumption)) (@qw _ _ _ _ _ (@qm _ _ 6 _ sc_law_bent.nd (by rfl) (by first |exact Or.inl rfl |exact Or.inr rfl) (by first |exact .inl rfl |exact .inr rfl |assumption)) (@qw _ _ _ _ _ (@qm _ _ 7 _ sc_law_bent.nd (by rfl) (by first |exact Or.inl rfl |exact Or.inr rfl) (by first |exact .inl rfl |exact .inr rfl |assumption)) WY (by rfl)) (by rfl)) (by rfl)) (by rfl) (by rfl)) (by rfl) (by rfl) (by rfl)) (@qL _ _ _ _ _ _ (@Zi _ _ _ _ 8 _ _ _ sc_law_bent.nd (@yy _ _ _ _ _ _ V.n_list (@qG _ _ 1 _ _ (by rfl) (by rfl) (by rfl)) (by rfl) (by rfl) (by rfl)) (by rfl) (by first |exact Or.inl rfl |exact Or.inr rfl) (by rfl) (by first |exact .inl rfl |exact .inr rfl |assumption)) (@qL _ _ _ _ _ _ (@qFm _ _ _ _ _ _ _ _ _ _ _ _ _ _ _ _ _ hc (@qZ _ _ _ _ _ _ (@Jx _ _ _ _ _ _ _ _ (@Qi _ _ _ _ _ _ _ (@qG _ _ 8 _ _ (by rfl) (by rfl) (by rfl)) (@qG _ _ 4 _ _ (by rfl) (by rfl) (by rfl)) (by exact fun _ _=>rfl)) (@Jx _ _ _ _ _ _ _ _ (@Qi _ _ _ _ _ _ _ (@qG _ _ 8 _ _ (by rfl) (by rfl) (by rfl)) (@qG _ _ 3 _ _ (by rfl) (by rfl) (by rfl)) (by exact fun _ _=>rfl)) qF))) (@qG _ _ 8 _ _ (by rfl) (by rfl) (by rfl)) (@qG _ _ 3 _ _ (by rfl) (by rfl) (by rfl)) (@qG _ _ 8 _ _ (by rfl) (by rfl) (by rfl)) (@qG _ _ 4 _ _ (by rfl) (by rfl) (by rfl)) (by rfl) (by rfl) (by rfl) (by rfl) (by rfl) (by rfl) (by rfl) (by intro _;rfl) (by intro _;rfl)) (@qL _ _ _ _ _ _ (@Zi _ _ _ _ 9 _ _ _ sc_law_bent.nd (@QA _ _ _ _ _ (@wX _ _ _ _ _ _ _ _ _ (@Wx _ _ _ _ _ _ _ (@yF _ _ _ _ _ _ _ _ _ _ (@qG _ _ 1 _ _ (by rfl) (by rfl) (by rfl)) WZ (@Wy _ _ _ _ (@qG _ _ 3 _ _ (by rfl) (by rfl) (by rfl)))) (@yF _ _ _ _ _ _ _ _ _ _ (@qG _ _ 1 _ _ (by rfl) (by rfl) (by rfl)) (@Wy _ _ _ _ (@qy _ _ _ _ _ _ _ (@qG _ _ 3 _ _ (by rfl) (by rfl) (by rfl)) qK)) WZ)) (@wX _ _ _ _ _ _ _ _ _ (@Wx _ _ _ _ _ _ _ (@yF _ _ _ _ _ _ _ _ _ _ (@qG _ _ 1 _ _ (by rfl) (by rfl) (by rfl)) WZ (@Wy _ _ _ _ (@qy _ _ _ _ _ _ _ (@qG _ _ 3 _ _ (by rfl) (by rfl) (by rfl)) qK))) (@yF _ _ _ _ _ _ _ _ _ _ (@qG _ _ 1 _ _ (by rfl) (by rfl) (by rfl)) (@Wy _ _ _ _ (@qG _ _ 3 _ _ (by rfl) (by rfl) (by rfl))) WZ)) (@Qv _ _ _ _ _ _ _ _ _ (@WF _ _ _ _ _ _ _ (@qO _ _ _ _ _ _ _ (@qG _ _ 8 _ _ (by rfl) (by rfl) (by rfl)) qF) V.n_tuple (by rfl) (by rfl) (by rfl)) (@Qv _ _ _ _ _ _ _ _ _ (@qo _ _ _ _ (@yy _ _ _ _ _ _ V.n_list (@qG _ _ 1 _ _ (by rfl) (by rfl) (by rfl)) (by rfl) (by rfl) (by rfl))) (@qO _ _ _ _ _ _ _ (@qG _ _ 2 _ _ (by rfl) (by rfl) (by rfl)) (@Jx _ _ _ _ _ _ _ _ (@qFW _ _ _ _ _ _ _ _ _ _ _ _ (@qG _ _ 1 _ _ (by rfl) (by rfl) (by rfl)) WZ WZ (@Wy _ _ _ _ (@ZY _ _ _ _ _ qK))) qF))))))) (by rfl) (by first |exact Or.inl rfl |exact Or.inr rfl) (by rfl) (by first |exact .inl rfl |exact .inr rfl |assumption)) (@qL _ _ _ _ _ _ (@qi _ _ _ _ _ 10 _ _ sc_law_bent.nd (@qo _ _ _ _ (@QA _ _ _ _ _ (@wU _ _ _ _ _ _ _ _ (@qZ _ _ _ _ _ _ (@qO _ _ _ _ _ _ _ (@qG _ _ 5 _ _ (by rfl) (by rfl) (by rfl)) (@qO _ _ _ _ _ _ _ (@qG _ _ 6 _ _ (by rfl) (by rfl) (by rfl)) (@wX _ _ _ _ _ _ _ _ _ (@W5 _ _ _ _ _ _ _ qK (@qG _ _ 7 _ _ (by rfl) (by rfl) (by rfl))) qF)))) (@wU _ _ _ _ _ _ _ _ (@qZ _ _ _ _ _ _ (@wX _ _ _ _ _ _ _ _ _ (@qy _ _ _ _ _ _ _ (@qG _ _ 5 _ _ (by rfl) (by rfl) (by rfl)) qK) (@qO _ _ _ _ _ _ _ (@qG _ _ 6 _ _ (by rfl) (by rfl) (by rfl)) (@qO _ _ _ _ _ _ _ (@qG _ _ 7 _ _ (by rfl) (by rfl) (by rfl)) qF)))) (@wU _ _ _ _ _ _ _ _ (@qZ _ _ _ _ _ _ (@qO _ _ _ _ _ _ _ (@qG _ _ 5 _ _ (by rfl) (by rfl) (by rfl)) (@wX _ _ _ _ _ _ _ _ _ (@qy _ _ _ _ _ _ _ (@qG _ _ 6 _ _ (by rfl) (by rfl) (by rfl)) qK) (@qO _ _ _ _ _ _ _ (@qG _ _ 7 _ _ (by rfl) (by rfl) (by rfl)) qF)))) (@wU _ _ _ _ _ _ _ _ (@qZ _ _ _ _ _ _ (@qO _ _ _ _ _ _ _ (@qG _ _ 5 _ _ (by rfl) (by rfl) (by rfl)) (@wX _ _ _ _ _ _ _ _ _ (@W5 _ _ _ _ _ _ _ (@qG _ _ 6 _ _ (by rfl) (by rfl) (by rfl)) qK) (@qO _ _ _ _ _ _ _ (@qG _ _ 7 _ _ (by rfl) (by rfl) (by rfl)) qF)))) (@qO _ _ _ _ _ _ _ (@qG _ _ 2 _ _ (by rfl) (by rfl) (by rfl)) qF))))))) (by rfl) (by first |exact Or.inl rfl |exact Or.inr rfl) (by rfl) (by first |exact .inl rfl |exact .inr rfl |assumption)) (@qL _ _ _ _ _ _ (@zS _ _ _ _ _ _ _ _ _ (@wj _ _ _ _ _ (@qo _ _ _ _ (@ZX _ _ _ _ _ _ _ (@qG _ _ 10 _ _ (by rfl) (by rfl) (by rfl)) (@qo _ _ _ _ (@QA _ _ _ _ _ (@wU _ _ _ _ _ _ _ _ (@qZ _ _ _ _ _ _ (@qO _ _ _ _ _ _ _ (@qG _ _ 5 _ _ (by rfl) (by rfl) (by rfl)) (@qO _ _ _ _ _ _ _ (@qG _ _ 6 _ _ (by rfl) (by rfl) (by rfl)) (@qf _ _ _ _ _ _ _ _ qK qF)))) (@wU _ _ _ _ _ _ _ _ (@qZ _ _ _ _ _ _ (@qO _ _ _ _ _ _ _ (@qG _ _ 5 _ _ (by rfl) (by rfl) (by rfl)) (@qO _ _ _ _ _ _ _ (@qG _ _ 6 _ _ (by rfl) (by rfl) (by rfl)) qF))) (@qFl _ _ _ _ _ _ _ (@qo _ _ _ _ (@QA _ _ _ _ _ (@qO _ _ _ _ _ _ _ (@qG _ _ 5 _ _ (by rfl) (by rfl) (by rfl)) (@qO _ _ _ _ _ _ _ (@qG _ _ 6 _ _ (by rfl) (by rfl) (by rfl)) (@qO _ _ _ _ _ _ _ (@qG _ _ 7 _ _ (by rfl) (by rfl) (by rfl)) qF))))) (@wU _ _ _ _ _ _ _ _ (@qZ _ _ _ _ _ _ (@qO _ _ _ _ _ _ _ (@qG _ _ 5 _ _ (by rfl) (by rfl) (by rfl)) (@qO _ _ _ _ _ _ _ (@qG _ _ 6 _ _ (by rfl) (by rfl) (by rfl)) (@Qv _ _ _ _ _ _ _ _ _ (@qCs _ _ _ _ _ _ _ (@qO _ _ _ _ _ _ _ (@qG _ _ 7 _ _ (by rfl) (by rfl) (by rfl)) qF) V.n_bool (by rfl) (by rfl) (by rfl)) qF)))) qF))))))))) (@qm _ _ 11 _ sc_law_bent.nd (by rfl) (by first |exact Or.inl rfl |exact Or.inr rfl) (by first |exact .inl rfl |exact .inr rfl |assumption)) (@qR _ _ _ _ (@zA _ _ _ _ _ _ _ _ _ (@qG _ _ 9 _ _ (by rfl) (by rfl) (by rfl)) (@Wx _ _ _ _ _ _ _ (@Wx _ _ _ _ _ _ _ (@yF _ _ _ _ _ _ _ _ _ _ (@qG _ _ 1 _ _ (by rfl) (by rfl) (by rfl)) WZ (@Wy _ _ _ _ (@qG _ _ 3 _ _ (by rfl) (by rfl) (by rfl)))) (@qZ _ _ _ _ _ _ (@qO _ _ _ _ _ _ _ (@qG _ _ 11 _ _ (by rfl) (by rfl) (by rfl)) qF))) (@yF _ _ _ _ _ _ _ _ _ _ (@qG _ _ 1 _ _ (by rfl) (by rfl) (by rfl)) (@Wy _ _ _ _ (@qy _ _ _ _ _ _ _ (@qG _ _ 3 _ _ (by rfl) (by rfl) (by rfl)) qK)) WZ)) (by rfl) (by rfl) (by rfl) (by rfl) (by rfl) (by rfl))) (by intro _;rfl)) (@qL _ _ _ _ _ _ (@zA _ _ _ _ _ _ _ _ _ (@qG _ _ 9 _ _ (by rfl) (by rfl) (by rfl)) (@WF _ _ _ _ _ _ _ (@Qv _ _ _ _ _ _ _ _ _ (@Zj _ _ _ _ _ _ hu V.n_sorted (@Wx _ _ _ _ _ _ _ (@qG _ _ 1 _ _ (by rfl) (by rfl) (by rfl)) (@qZ _ _ _ _ _ _ (@wU _ _ _ _ _ _ _ _ (@qZ _ _ _ _ _ _ (@qO _ _ _ _ _ _ _ (@qG _ _ 5 _ _ (by rfl) (by rfl) (by rfl)) (@wX _ _ _ _ _ _ _ _ _ (@qy _ _ _ _ _ _ _ (@qG _ _ 6 _ _ (by rfl) (by rfl) (by rfl)) qK) (@qO _ _ _ _ _ _ _ (@qG _ _ 7 _ _ (by rfl) (by rfl) (by rfl)) qF)))) qF))) (by rfl) (by rfl)) qF) V.n_tuple (by rfl) (by rfl) (by rfl)) (by rfl) (by rfl) (by rfl) (by rfl) (by rfl) (by rfl)) (@qR _ _ _ _ (@qk _ _ _ _ _ (@Qi _ _ _ _ _ _ _ (@qG _ _ 9 _ _ (by rfl) (by rfl) (by rfl)) (@qT _ _ _ _ _ _ _ _ _ ((qg V).call (hr.mono (by omega)) qa) (@qO _ _ _ _ _ _ _ (@qG _ _ 0 _ _ (by rfl) (by rfl) (by rfl)) (@qf _ _ _ _ _ _ _ _ qK qF)) (by rfl) (by rfl)) (by exact fun _ _=>rfl)))))))))))))))
theorem sc_law_kind:FnScope ["_law_e","_law_kinds","_law_words"] ["_law_e"] (qM WH):=⟨rfl,rfl,rfl,by decide +kernel,rfl,by decide +kernel,by decide +kernel⟩
theorem qAb (V:Env K mg a):DefG P w K mg base 1 "_law_kind" a.law_kind 1 (Wl a):=by obtain ⟨fd,F⟩:=V.f_law_kind;refine Qw (B:=YW a) F sc_law_kind (F.binds (ps:=["_law_e"]) fun _ _ _ _ _ _ us hl=>match us,hl with |[_],_=>rfl) V.m_law_kind (fun l st h=>qd h) (fun cdv A outer s H E hr hcm => ?_) (fun l s0 hl hn=>qb hl);have hu:=hr.units;exact (@qL _ _ _ _ _ _ (@qi _ _ _ _ _ 1 _ _ sc_law_kind.nd (@qo _ _ _ _ (@QA _ _ _ _ _ (@Qv _ _ _ _ _ _ _ _ _ (@Qk _ _ _ _ _ _ _ _ V.kit V.n_isinstance (@qO _ _ _ _ _ _ _ (@qG _ _ 0 _ _ (by rfl) (by rfl) (by rfl)) (@qO _ _ _ _ _ _ _ (@zw _ _ _ _ _ rfl V.k_Z1 (by decide)) qF)) (by rfl) (by rfl) (by rfl)) (@Qv _ _ _ _ _ _ _ _ _ (@Qk _ _ _ _ _ _ _ _ V.kit V.n_isinstance (@qO _ _ _ _ _ _ _ (@qG _ _ 0 _ _ (by rfl) (by rfl) (by rfl)) (@qO _ _ _ _ _ _ _ (@zw _ _ _ _ _ rfl V.k_Z2 (by decide)) qF)) (by rfl) (by rfl) (by rfl)) (@Qv _ _ _ _ _ _ _ _ _ (@Qk _ _ _ _ _ _ _ _ V.kit V.n_isinstance (@qO _ _ _ _ _ _ _ (@qG _ _ 0 _ _ (by rfl) (by rfl) (by rfl)) (@qO _ _ _ _ _ _ _ (@zw _ _ _ _ _ rfl V.k_Z3 (by decide)) qF)) (by rfl) (by rfl) (by rfl)) (@Qv _ _ _ _ _ _ _ _ _ (@Qk _ _ _ _ _ _ _ _ V.kit V.n_isinstance (@qO _ _ _ _ _ _ _ (@qG _ _ 0 _ _ (by rfl) (by rfl) (by rfl)) (@qO _ _ _ _ _ _ _ (@zw _ _ _ _ _ rfl V.k_Z4 (by decide)) qF)) (by rfl) (by rfl) (by rfl)) qF)))))) (by rfl) (by first |exact Or.inl rfl |exact Or.inr rfl) (by rfl) (by first |exact .inl rfl |exact .inr rfl |assumption)) (@qL _ _ _ _ _ _ (@qi _ _ _ _ _ 1 _ _ sc_law_kind.nd (@qo _ _ _ _ (@ZX _ _ _ _ _ _ _ (@qG _ _ 1 _ _ (by rfl) (by rfl) (by rfl)) (@qo _ _ _ _ (@QA _ _ _ _ _ (@Qv _ _ _ _ _ _ _ _ _ (@Qk _ _ _ _ _ _ _ _ V.kit V.n_isinstance (@qO _ _ _ _ _ _ _ (@qG _ _ 0 _ _ (by rfl) (by rfl) (by rfl)) (@qO _ _ _ _ _ _ _ (@zw _ _ _ _ _ rfl V.k_Z5 (by decide)) qF)) (by rfl) (by rfl) (by rfl)) (@Qv _ _ _ _ _ _ _ _ _ (@Qk _ _ _ _ _ _ _ _ V.kit V.n_isinstance (@qO _ _ _ _ _ _ _ (@qG _ _ 0 _ _ (by rfl) (by rfl) (by rfl)) (@qO _ _ _ _ _ _ _ (@zw _ _ _ _ _ rfl V.k_Z6 (by decide)) qF)) (by rfl) (by rfl) (by rfl)) (@Qv _ _ _ _ _ _ _ _ _ (@Qk _ _ _ _ _ _ _ _ V.kit V.n_isinstance (@qO _ _ _ _ _ _ _ (@qG _ _ 0 _ _ (by rfl) (by rfl) (by rfl)) (@qO _ _ _ _ _ _ _ (@zw _ _ _ _ _ rfl V.k_Z7 (by decide)) qF)) (by rfl) (by rfl) (by rfl)) (@Qv _ _ _ _ _ _ _ _ _ (@Qk _ _ _ _ _ _ _ _ V.kit V.n_isinstance (@qO _ _ _ _ _ _ _ (@qG _ _ 0 _ _ (by rfl) (by rfl) (by rfl)) (@qO _ _ _ _ _ _ _ (@zw _ _ _ _ _ rfl V.k_Z8 (by decide)) qF)) (by rfl) (by rfl) (by rfl)) qF)))))))) (by rfl) (by first |exact Or.inl rfl |exact Or.inr rfl) (by rfl) (by first |exact .inl rfl |exact .inr rfl |assumption)) (@qL _ _ _ _ _ _ (@qi _ _ _ _ _ 1 _ _ sc_law_kind.nd (@qo _ _ _ _ (@ZX _ _ _ _ _ _ _ (@qG _ _ 1 _ _ (by rfl) (by rfl) (by rfl)) (@qo _ _ _ _ (@QA _ _ _ _ _ (@Qv _ _ _ _ _ _ _ _ _ (@Qk _ _ _ _ _ _ _ _ V.kit V.n_isinstance (@qO _ _ _ _ _ _ _ (@qG _ _ 0 _ _ (by rfl) (by rfl) (by rfl)) (@qO _ _ _ _ _ _ _ (@zw _ _ _ _ _ rfl V.k_Z9 (by decide)) qF)) (by rfl) (by rfl) (by rfl)) (@Qv _ _ _ _ _ _ _ _ _ (@Qk _ _ _ _ _ _ _ _ V.kit V.n_isinstance (@qO _ _ _ _ _ _ _ (@qG _ _ 0 _ _ (by rfl) (by rfl) (by rfl)) (@qO _ _ _ _ _ _ _ (@zw _ _ _ _ _ rfl V.k_Z10 (by decide)) qF)) (by rfl) (by rfl) (by rfl)) (@Qv _ _ _ _ _ _ _ _ _ (@Qk _ _ _ _ _ _ _ _ V.kit V.n_isinstance (@qO _ _ _ _ _ _ _ (@qG _ _ 0 _ _ (by rfl) (by rfl) (by rfl)) (@qO _ _ _ _ _ _ _ (@zw _ _ _ _ _ rfl V.k_Z11 (by decide)) qF)) (by rfl) (by rfl) (by rfl)) qF))))))) (by rfl) (by first |exact Or.inl rfl |exact Or.inr rfl) (by rfl) (by first |exact .inl rfl |exact .inr rfl |assumption)) (@qL _ _ _ _ _ _ (@wC _ _ _ _ _ _ _ _ _ (@yV _ _ _ _ (@zx _ _ _ _ _ _ _ _ (@wo _ _ _ _ _ (@wa _ _ _ _ (@Qk _ _ _ _ _ _ _ _ V.kit V.n_isinstance (@qO _ _ _ _ _ _ _ (@qG _ _ 0 _ _ (by rfl) (by rfl) (by rfl)) (@qO _ _ _ _ _ _ _ (@ZK _ _ _ _ _ rfl V.n_ValueError Boot.«ValueError» (by decide) (by decide)) qF)) (by rfl) (by rfl) (by rfl)) (by intro _;rfl))) (@zW _ _ _ _ _ (@QG _ _ _ _ _ _ _ _ _ _ (zk hu) yS (@qDC _ _ _ _ _ _ _ _ hu (@qG _ _ 1 _ _ (by rfl) (by rfl) (by rfl)) WB (by rfl) (by rfl) (by rfl) (by rfl) (by rfl)) qK (by first |exact QC _ |with_unfolding_all rfl))))) (@qR _ _ _ _ (@qk _ _ _ _ _ Qs)) QK) (@qL _ _ _ _ _ _ (@wC _ _ _ _ _ _ _ _ _ (@wa _ _ _ _ (@Qi _ _ _ _ _ _ _ (@qG _ _ 1 _ _ (by rfl) (by rfl) (by rfl)) qK (by exact fun _ _=>rfl)) (by intro _;rfl)) (@qR _ _ _ _ qJX) QK) (@qL _ _ _ _ _ _ (@qi _ _ _ _ _ 2 _ _ sc_law_kind.nd (@qo _ _ _ _ (@QA _ _ _ _ _ (@qf _ _ _ _ _ _ _ _ Qs (@qf _ _ _ _ _ _ _ _ Qs (@qf _ _ _ _ _ _ _ _ Qs (@qf _ _ _ _ _ _ _ _ Qs (@qf _ _ _ _ _ _ _ _ Qs (@qf _ _ _ _ _ _ _ _ Qs (@qf _ _ _ _ _ _ _ _ Qs (@qf _ _ _ _ _ _ _ _ Qs (@qf _ _ _ _ _ _ _ _ Qs (@qf _ _ _ _ _ _ _ _ Qs qF)))))))))))) (by rfl) (by first |exact Or.inl rfl |exact Or.inr rfl) (by rfl) (by first |exact .inl rfl |exact .inr rfl |assumption)) (@qR _ _ _ _ (@qk _ _ _ _ _ (@qFV _ _ _ _ _ _ _ Qs (@Qi _ _ _ _ _ _ _ (@qG _ _ 2 _ _ (by rfl) (by rfl) (by rfl)) (@qC5 _ _ _ _ _ _ _ _ hu (@qG _ _ 1 _ _ (by rfl) (by rfl) (by rfl)) WB (by rfl) (by rfl) (by rfl) (by rfl) (by rfl)) (by exact fun _ _=>rfl)))))))))))
theorem qCF (V:Env K mg a):∀ C∈Qp a,W.mroIn K C (.ref a.Z0)=some true:=by
 intro C hC;unfold Qp at hC;rcases AJ.mp hC with rfl |hC
 ·exact V.e_Z1
 cases hC
theorem sc_law_said:FnScope ["_law_floor_here","_law_length","_law_thing","_law_found","_law_e"] ["_law_floor_here","_law_length","_law_thing"] (qM wc):=⟨rfl,rfl,rfl,by decide +kernel,rfl,by decide +kernel,by decide +kernel⟩
theorem YB (V:Env K mg a):DefG P w K mg base 8 "_law_said" a.law_said 3 (wg a):=by
 obtain ⟨fd,F⟩:=V.f_law_said;obtain ⟨_,_,_,o_Z0⟩:=V.o_Z0;refine Qw (B:=Yj a) F sc_law_said (F.binds (ps:=["_law_floor_here","_law_length","_law_thing"]) fun _ _ _ _ _ _ us hl=>match us,hl with |[_,_,_],_=>rfl) V.m_law_said (fun l st h=>qd h) (fun cdv A outer s H E hr hcm => ?_) (fun l s0 hl hn=>qb hl);have hu:=hr.units;have hc:(wS (CXF P w) P w K mg base ["_law_floor_here","_law_length","_law_thing","_law_found","_law_e"] "_law_said" (qM wc) a.law_said cdv A outer s H E).calm=true:=by show A.handled.isNone=true;rw [hcm (by omega)];rfl
 exact (@qL _ _ _ _ _ _ (@qi _ _ _ _ _ 3 _ _ sc_law_said.nd Qs (by rfl) (by first |exact Or.inl rfl |exact Or.inr rfl) (by rfl) (by first |exact .inl rfl |exact .inr rfl |assumption)) (@qL _ _ _ _ _ _ (@qHN _ _ _ _ _ _ _ _ _ _ _ _ _ _ _ _ _ 4 ⟨rfl,rfl,rfl⟩ hc sc_law_said.nd rfl V.k_Z0 o_Z0 V.b_Z0 (qCF V) (fun pins xe E' hp=>(@qR _ _ _ _ (@qi _ _ _ _ _ 3 _ _ sc_law_said.nd (@qT _ _ _ _ _ _ _ _ _ ((zc V).call (hr.mono (by omega)) hp) (@qO _ _ _ _ _ _ _ (@qG _ _ 0 _ _ (by rfl) (by rfl) (by rfl)) (@qO _ _ _ _ _ _ _ (@qG _ _ 1 _ _ (by rfl) (by rfl) (by rfl)) (@qO _ _ _ _ _ _ _ (@qG _ _ 2 _ _ (by rfl) (by rfl) (by rfl)) qF))) (by rfl) (by rfl)) (by rfl) (by first |exact Or.inl rfl |exact Or.inr rfl) (by rfl) (by first |exact .inl rfl |exact .inr rfl |assumption)))) (fun ea=>(@qR _ _ _ _ (@qi _ _ _ _ _ 3 _ _ sc_law_said.nd (@qT _ _ _ _ _ _ _ _ _ ((qAb V).call (qFn hr) (qt _)) (@qO _ _ _ _ _ _ _ (@qG _ _ 4 _ _ (by rfl) (by rfl) (by rfl)) qF) (by rfl) (by rfl)) (by rfl) (by first |exact Or.inl rfl |exact Or.inr rfl) (by rfl) (by first |exact .inl rfl |exact .inr rfl |assumption)))) (by rfl) (by rfl) (by decide)) (@qR _ _ _ _ (@qk _ _ _ _ _ (@qG _ _ 3 _ _ (by rfl) (by rfl) (by rfl))))))
theorem sc_law:FnScope ["_law_script","_law_k","_law_box_here","_law_length","_law_floor_here","_law_laid_here","_law_drawn","_law_some","_law_one","_law_place","_law_thing","_law_told","_law_due","_law_found","_law_bad"] ["_law_script"] (qM ze):=⟨rfl,rfl,rfl,by decide +kernel,rfl,by decide +kernel,by decide +kernel⟩
theorem qJN {fd:FuncData} (V:Env K mg a) (F:Fun K "law" "law" ze a.law fd):FnOk P w K mg base (CXF P w) 9 a.law fd ["_law_script"] (spG K 1 (Jb a)):=by
 refine okV F sc_law fun cdv A outer s H E hr hcm=>⟨qGZ a,?_,fun l s0 hl hn=>qb hl⟩;have hu:=hr.units;have hc:(wS (CXF P w) P w K mg base ["_law_script","_law_k","_law_box_here","_law_length","_law_floor_here","_law_laid_here","_law_drawn","_law_some","_law_one","_law_place","_law_thing","_law_told","_law_due","_law_found","_law_bad"] "law" (qM ze) a.law cdv A outer s H E).calm=true:=by show A.handled.isNone=true;rw [hcm (by omega)];rfl
 exact (@qL _ _ _ _ _ _ (@zS _ _ _ _ _ _ _ _ _ (@wO _ _ _ _ _ _ _ rfl V.n_range (@Qv _ _ _ _ _ _ _ _ _ (@qBe _ _ _ _ _ _ _ (@qf _ _ _ _ _ _ _ _ qK (@Qv _ _ _ _ _ _ _ _ _ (@JB _ _ _ _ _ _ _ (@Qv _ _ _ _ _ _ _ _ _ (@Qo _ _ _ _ _ _ _ (@qO _ _ _ _ _ _ _ (@qG _ _ 0 _ _ (by rfl) (by rfl) (by rfl)) qF) V.n_len (by rfl) (by rfl) (by rfl)) (@qf _ _ _ _ _ _ _ _ qK qF)) hc V.n_min (by rfl) (by rfl) (by rfl)) qF)) hc V.n_max (by rfl) (by rfl) (by rfl)) qF) (by rfl)) (@qm _ _ 1 _ sc_law.nd (by rfl) (by first |exact Or.inl rfl |exact Or.inr rfl) (by first |exact .inl rfl |exact .inr rfl |assumption)) (@qL _ _ _ _ _ _ (@qi _ _ _ _ _ 2 _ _ sc_law.nd (@qT _ _ _ _ _ _ _ _ _ ((qCc V).call (hr.mono (by omega)) (qt _)) (@qO _ _ _ _ _ _ _ (@qG _ _ 0 _ _ (by rfl) (by rfl) (by rfl)) (@qO _ _ _ _ _ _ _ (@qG _ _ 1 _ _ (by rfl) (by rfl) (by rfl)) qF)) (by rfl) (by rfl)) (by rfl) (by first |exact Or.inl rfl |exact Or.inr rfl) (by rfl) (by first |exact .inl rfl |exact .inr rfl |assumption)) (@qL _ _ _ _ _ _ (@qi _ _ _ _ _ 3 _ _ sc_law.nd (@qy _ _ _ _ _ _ _ qK (@qT _ _ _ _ _ _ _ _ _ ((qg V).call (hr.mono (by omega)) (qt _)) (@qO _ _ _ _ _ _ _ (@qG _ _ 2 _ _ (by rfl) (by rfl) (by rfl)) (@qf _ _ _ _ _ _ _ _ qK qF)) (by rfl) (by rfl))) (by rfl) (by first |exact Or.inl rfl |exact Or.inr rfl) (by rfl) (by first |exact .inl rfl |exact .inr rfl |assumption)) (@qL _ _ _ _ _ _ (@zy _ _ _ _ _ _ _ (@qT _ _ _ _ _ _ _ _ _ ((YX V).call (hr.mono (by omega)) (qt _)) (@qO _ _ _ _ _ _ _ (@qG _ _ 2 _ _ (by rfl) (by rfl) (by rfl)) (@qO _ _ _ _ _ _ _ (@qG _ _ 3 _ _ (by rfl) (by rfl) (by rfl)) (@wX _ _ _ _ _ _ _ _ _ (@qA7 _ _ _ _ _ _ _ qK (@qG _ _ 3 _ _ (by rfl) (by rfl) (by rfl))) qF))) (by rfl) (by rfl)) (@zL _ _ _ _ _ _ hc (@qw _ _ _ _ _ (@qm _ _ 4 _ sc_law.nd (by rfl) (by first |exact Or.inl rfl |exact Or.inr rfl) (by first |exact .inl rfl |exact .inr rfl |assumption)) (@qw _ _ _ _ _ (@qm _ _ 5 _ sc_law.nd (by rfl) (by first |exact Or.inl rfl |exact Or.inr rfl) (by first |exact .inl rfl |exact .inr rfl |assumption)) WY (by rfl)) (by rfl)) (by rfl) (by rfl)) (by rfl) (by rfl) (by rfl)) (@qL _ _ _ _ _ _ (@qi _ _ _ _ _ 6 _ _ sc_law.nd (@qT _ _ _ _ _ _ _ _ _ ((qAB V).call (hr.mono (by omega)) (qt _)) (@qO _ _ _ _ _ _ _ (@qG _ _ 2 _ _ (by rfl) (by rfl) (by rfl)) (@qO _ _ _ _ _ _ _ (@qG _ _ 3 _ _ (by rfl) (by rfl) (by rfl)) (@qf _ _ _ _ _ _ _ _ qK qF))) (by rfl) (by rfl)) (by rfl) (by first |exact Or.inl rfl |exact Or.inr rfl) (by rfl) (by first |exact .inl rfl |exact .inr rfl |assumption)) (@qL _ _ _ _ _ _ (@qi _ _ _ _ _ 7 _ _ sc_law.nd (@qT _ _ _ _ _ _ _ _ _ ((YD V).call (hr.mono (by omega)) (qt _)) (@qO _ _ _ _ _ _ _ (@qG _ _ 6 _ _ (by rfl) (by rfl) (by rfl)) (@qO _ _ _ _ _ _ _ (@qG _ _ 3 _ _ (by rfl) (by rfl) (by rfl)) qF)) (by rfl) (by rfl)) (by rfl) (by first |exact Or.inl rfl |exact Or.inr rfl) (by rfl) (by first |exact .inl rfl |exact .inr rfl |assumption)) (@qL _ _ _ _ _ _ (@qi _ _ _ _ _ 8 _ _ sc_law.nd (@qZ _ _ _ _ _ _ qF) (by rfl) (by first |exact Or.inl rfl |exact Or.inr rfl) (by rfl) (by first |exact .inl rfl |exact .inr rfl |assumption)) (@qL _ _ _ _ _ _ (@wC _ _ _ _ _ _ _ _ _ (@QG _ _ _ _ _ _ _ _ _ _ (zk hu) yS (@qG _ _ 7 _ _ (by rfl) (by rfl) (by rfl)) (@qo _ _ _ _ (@QA _ _ _ _ _ qF)) (by first |exact QC _ |with_unfolding_all rfl)) (@qR _ _ _ _ (@qi _ _ _ _ _ 8 _ _ sc_law.nd (@Qi _ _ _ _ _ _ _ (@qG _ _ 7 _ _ (by rfl) (by rfl) (by rfl)) (@qT _ _ _ _ _ _ _ _ _ ((qg V).call (hr.mono (by omega)) (qt _)) (@qO _ _ _ _ _ _ _ (@qG _ _ 2 _ _ (by rfl) (by rfl) (by rfl)) (@Qv _ _ _ _ _ _ _ _ _ (@Qo _ _ _ _ _ _ _ (@qO _ _ _ _ _ _ _ (@qG _ _ 7 _ _ (by rfl) (by rfl) (by rfl)) qF) V.n_len (by rfl) (by rfl) (by rfl)) qF)) (by rfl) (by rfl)) (by exact fun _ _=>rfl)) (by rfl) (by first |exact Or.inl rfl |exact Or.inr rfl) (by rfl) (by first |exact .inl rfl |exact .inr rfl |assumption))) QK) (@qL _ _ _ _ _ _ (@zS _ _ _ _ _ _ _ _ _ (@wj _ _ _ _ _ (@qo _ _ _ _ (@QA _ _ _ _ _ (@wU _ _ _ _ _ _ _ _ (@qZ _ _ _ _ _ _ (@qO _ _ _ _ _ _ _ (@qG _ _ 4 _ _ (by rfl) (by rfl) (by rfl)) (@qO _ _ _ _ _ _ _ (@qG _ _ 5 _ _ (by rfl) (by rfl) (by rfl)) qF))) (@wU _ _ _ _ _ _ _ _ (@qZ _ _ _ _ _ _ (@qO _ _ _ _ _ _ _ (@qG _ _ 6 _ _ (by rfl) (by rfl) (by rfl)) (@qO _ _ _ _ _ _ _ (@qG _ _ 8 _ _ (by rfl) (by rfl) (by rfl)) qF))) qF))))) (@zL _ _ _ _ _ _ hc (@qw _ _ _ _ _ (@qm _ _ 9 _ sc_law.nd (by rfl) (by first |exact Or.inl rfl |exact Or.inr rfl) (by first |exact .inl rfl |exact .inr rfl |assumption)) (@qw _ _ _ _ _ (@qm _ _ 10 _ sc_law.nd (by rfl) (by first |exact Or.inl rfl |exact Or.inr rfl) (by first |exact .inl rfl |exact .inr rfl |assumption)) WY (by rfl)) (by rfl)) (by rfl) (by rfl)) (@qR _ _ _ _ (@zS _ _ _ _ _ _ _ _ _ (@wj _ _ _ _ _ (@qo _ _ _ _ (@QA _ _ _ _ _ (@qO _ _ _ _ _ _ _ (@qG _ _ 10 _ _ (by rfl) (by rfl) (by rfl)) (@Qv _ _ _ _ _ _ _ _ _ (@qT _ _ _ _ _ _ _ _ _ ((YO V).call (hr.mono (by omega)) (qt _)) (@qO _ _ _ _ _ _ _ (@qG _ _ 2 _ _ (by rfl) (by rfl) (by rfl)) (@qO _ _ _ _ _ _ _ (@qG _ _ 10 _ _ (by rfl) (by rfl) (by rfl)) qF)) (by rfl) (by rfl)) (@Qv _ _ _ _ _ _ _ _ _ (@qT _ _ _ _ _ _ _ _ _ ((YO V).call (hr.mono (by omega)) (qt _)) (@qO _ _ _ _ _ _ _ (@qG _ _ 2 _ _ (by rfl) (by rfl) (by rfl)) (@qO _ _ _ _ _ _ _ (@qG _ _ 10 _ _ (by rfl) (by rfl) (by rfl)) qF)) (by rfl) (by rfl)) (@Qv _ _ _ _ _ _ _ _ _ (@qT _ _ _ _ _ _ _ _ _ ((jE V).call (hr.mono (by omega)) (qt _)) (@qO _ _ _ _ _ _ _ (@qG _ _ 2 _ _ (by rfl) (by rfl) (by rfl)) qF) (by rfl) (by rfl)) qF))))))) (@qm _ _ 11 _ sc_law.nd (by rfl) (by first |exact Or.inl rfl |exact Or.inr rfl) (by first |exact .inl rfl |exact .inr rfl |assumption)) (@qL _ _ _ _ _ _ (@qi _ _ _ _ _ 12 _ _ sc_law.nd (@qT _ _ _ _ _ _ _ _ _ ((yX V).call (hr.mono (by omega)) (qt _)) (@qO _ _ _ _ _ _ _ (@qG _ _ 9 _ _ (by rfl) (by rfl) (by rfl)) (@qO _ _ _ _ _ _ _ (@qG _ _ 3 _ _ (by rfl) (by rfl) (by rfl)) (@qO _ _ _ _ _ _ _ (@qG _ _ 11 _ _ (by rfl) (by rfl) (by rfl)) qF))) (by rfl) (by rfl)) (by rfl) (by first |exact Or.inl rfl |exact Or.inr rfl) (by rfl) (by first |exact .inl rfl |exact .inr rfl |assumption)) (@qL _ _ _ _ _ _ (@qi _ _ _ _ _ 12 _ _ sc_law.nd (@Ym _ _ _ _ _ _ _ _ (@qG _ _ 12 _ _ (by rfl) (by rfl) (by rfl)) (@Yl _ _ _ _ _ _ (@qAF _ _ _ _ _ _ _ hu (@zO _ _ _ _ _ _ _ (@Qo _ _ _ _ _ _ _ (@qO _ _ _ _ _ _ _ (@qG _ _ 11 _ _ (by rfl) (by rfl) (by rfl)) qF) V.n_len (by rfl) (by rfl) (by rfl)) (@qG _ _ 3 _ _ (by rfl) (by rfl) (by rfl))) (@Qo _ _ _ _ _ _ _ (@qO _ _ _ _ _ _ _ (@qG _ _ 9 _ _ (by rfl) (by rfl) (by rfl)) qF) V.n_len (by rfl) (by rfl) (by rfl))))) (by rfl) (by first |exact Or.inl rfl |exact Or.inr rfl) (by rfl) (by first |exact .inl rfl |exact .inr rfl |assumption)) (@qL _ _ _ _ _ _ (@qi _ _ _ _ _ 13 _ _ sc_law.nd (@qT _ _ _ _ _ _ _ _ _ ((YB V).call (hr.mono (by omega)) (qt _)) (@qO _ _ _ _ _ _ _ (@qG _ _ 9 _ _ (by rfl) (by rfl) (by rfl)) (@qO _ _ _ _ _ _ _ (@qG _ _ 3 _ _ (by rfl) (by rfl) (by rfl)) (@qO _ _ _ _ _ _ _ (@qG _ _ 11 _ _ (by rfl) (by rfl) (by rfl)) qF))) (by rfl) (by rfl)) (by rfl) (by first |exact Or.inl rfl |exact Or.inr rfl) (by rfl) (by first |exact .inl rfl |exact .inr rfl |assumption)) (@qR _ _ _ _ (@wC _ _ _ _ _ _ _ _ _ (@yV _ _ _ _ (@zx _ _ _ _ _ _ _ _ (@wo _ _ _ _ _ (@wa _ _ _ _ (@Qk _ _ _ _ _ _ _ _ V.kit V.n_isinstance (@qO _ _ _ _ _ _ _ (@qG _ _ 13 _ _ (by rfl) (by rfl) (by rfl)) (@qO _ _ _ _ _ _ _ (@ZK _ _ _ _ _ rfl V.n_bool Boot.«bool» (by decide) (by decide)) qF)) (by rfl) (by rfl) (by rfl)) (by intro _;rfl))) (@zW _ _ _ _ _ (@QG _ _ _ _ _ _ _ _ _ _ (zk hu) yS (@qG _ _ 13 _ _ (by rfl) (by rfl) (by rfl)) (@qG _ _ 12 _ _ (by rfl) (by rfl) (by rfl)) (by first |exact QC _ |with_unfolding_all rfl))))) (@qR _ _ _ _ (@qk _ _ _ _ _ WB)) QK))))) (by intro _;rfl))) (by intro _;rfl)) (@qL _ _ _ _ _ _ (@qi _ _ _ _ _ 14 _ _ sc_law.nd (@Qi _ _ _ _ _ _ _ (@qo _ _ _ _ (@QA _ _ _ _ _ (@qf _ _ _ _ _ _ _ _ qK (@qf _ _ _ _ _ _ _ _ qK (@qf _ _ _ _ _ _ _ _ qK (@qDt _ _ _ _ _ _ _ _ (@ZY _ _ _ _ _ qK) (@qf _ _ _ _ _ _ _ _ WB (@qf _ _ _ _ _ _ _ _ qDL (@qf _ _ _ _ _ _ _ _ Qs (@wU _ _ _ _ _ _ _ _ (@qZ _ _ _ _ _ _ (@qf _ _ _ _ _ _ _ _ qK qF)) (@wX _ _ _ _ _ _ _ _ _ (@qDS _ _ _ _ _ _ _ qK qK) qF))))))))))) (@qT _ _ _ _ _ _ _ _ _ ((qg V).call (hr.mono (by omega)) (qt _)) (@qO _ _ _ _ _ _ _ (@qG _ _ 2 _ _ (by rfl) (by rfl) (by rfl)) (@qf _ _ _ _ _ _ _ _ qK qF)) (by rfl) (by rfl)) (by exact fun _ _=>rfl)) (by rfl) (by first |exact Or.inl rfl |exact Or.inr rfl) (by rfl) (by first |exact .inl rfl |exact .inr rfl |assumption)) (@qR _ _ _ _ (@wC _ _ _ _ _ _ _ _ _ (@yV _ _ _ _ (@zx _ _ _ _ _ _ _ _ (@QG _ _ _ _ _ _ _ _ _ _ qDO qEH (@qT _ _ _ _ _ _ _ _ _ ((zc V).call (hr.mono (by omega)) (qt _)) (@qO _ _ _ _ _ _ _ (@qG _ _ 4 _ _ (by rfl) (by rfl) (by rfl)) (@qO _ _ _ _ _ _ _ (@qG _ _ 3 _ _ (by rfl) (by rfl) (by rfl)) (@qO _ _ _ _ _ _ _ (@qG _ _ 5 _ _ (by rfl) (by rfl) (by rfl)) qF))) (by rfl) (by rfl)) WB (by first |exact QC _ |with_unfolding_all rfl)) (@zW _ _ _ _ _ (@QG _ _ _ _ _ _ _ _ _ _ (zk hu) yS (@qT _ _ _ _ _ _ _ _ _ ((YB V).call (hr.mono (by omega)) (qt _)) (@qO _ _ _ _ _ _ _ (@qG _ _ 4 _ _ (by rfl) (by rfl) (by rfl)) (@qO _ _ _ _ _ _ _ (@qG _ _ 14 _ _ (by rfl) (by rfl) (by rfl)) (@qO _ _ _ _ _ _ _ (@qG _ _ 5 _ _ (by rfl) (by rfl) (by rfl)) qF))) (by rfl) (by rfl)) Qs (by first |exact QC _ |with_unfolding_all rfl))))) (@qR _ _ _ _ (@qk _ _ _ _ _ WB)) QK))))))))))) (by intro _;rfl)) (@qR _ _ _ _ (@qk _ _ _ _ _ (@qG4 _ _ _ _ _ _ _ (@qT _ _ _ _ _ _ _ _ _ ((zc V).call (hr.mono (by omega)) qa) (@wU _ _ _ _ _ _ _ _ (@qZ _ _ _ _ _ _ qF) (@qf _ _ _ _ _ _ _ _ qK (@wU _ _ _ _ _ _ _ _ (@qZ _ _ _ _ _ _ qF) qF))) (by rfl) (by rfl)) WB))))
end
end K21
end
section
namespace EV
open PySem L2 EX
theorem WU {G:qD->Prop} {k:PV->qD->Rs (List PV)} {st:qD} (hG:G st) {F:PV->List PV}:∀ {l:List PV},(∀ p∈l,k p st = .ok (F p) st)->qz G k l st = .ok (l.flatMap F) st
 |[],_=>by unfold qz;rw [AF hG];rfl
 |p::l,h=>by unfold qz;rw [AF hG,h p AL];show (qz G k l st).bind _=_;rw [WU hG fun q hq=>h q (AE _ hq)];rfl
theorem yJ {F:PV->PV}:∀ l:List PV,l.flatMap (fun p=>[F p])=l.map F
 |[]=>rfl
 |p::l=>by rw [List.flatMap_cons,yJ l];rfl
theorem zu {c:PV->Bool}:∀ l:List PV,l.flatMap (fun p=>if c p=true then [p] else [])=l.filter c
 |[]=>rfl
 |p::l=>by rw [List.flatMap_cons,zu l,CF];cases c p <;> rfl
theorem wM {caps:List Nat} {n:Nat} {fi:FI} {g:FG} {f:FE} {r:qv} {st:qD} {w:ItP} {F:PV->PV} (hfi:fi r st = .ok w st) (hG:w.G st) (hl:w.l.length≤sizeLine)
  (h:∀ p∈w.l,∃ r',g p (zt caps n r)=some r'∧f r' st = .ok (F p) st):QN caps n fi g [] [] f r st = .ok (w.l.map F) st:=by
 unfold QN;rw [hfi];show (match qz w.G (Qd ⟨fi,g,[]⟩ (Q7 [] f) (zt caps n r)) w.l st with | .ok l s'=>if l.length≤sizeLine then Rs.ok l s' else Rs.no |_=>Rs.no)=_;rw [WU (F:=fun p=>[F p]) hG fun p hp=>by
  obtain ⟨r',h1,h2⟩:=h p hp;unfold Qd;show (match g p (zt caps n r) with |none=>_ |some r'=>_)=_;rw [h1];show (Q7 [] f) r' st=_;unfold Q7;rw [h2];rfl]
 rw [yJ];dsimp only;rw [AF (by rw [AC];exact hl)]
theorem Wa {caps:List Nat} {n:Nat} {fi:FI} {g:FG} {t:FT} {f:FE} {r:qv} {st:qD} {w:ItP} {c:PV->Bool} (hfi:fi r st = .ok w st) (hG:w.G st) (hl:w.l.length≤sizeLine)
  (h:∀ p∈w.l,∃ r',g p (zt caps n r)=some r'∧t r' st = .ok (c p) st∧f r' st = .ok p st):QN caps n fi g [t] [] f r st = .ok (w.l.filter c) st:=by
 unfold QN;rw [hfi];show (match qz w.G (Qd ⟨fi,g,[t]⟩ (Q7 [] f) (zt caps n r)) w.l st with | .ok l s'=>if l.length≤sizeLine then Rs.ok l s' else Rs.no |_=>Rs.no)=_;rw [WU (F:=fun p=>if c p=true then [p] else []) hG fun p hp=>by
  obtain ⟨r',h1,h2,h3⟩:=h p hp;unfold Qd;show (match g p (zt caps n r) with |none=>_ |some r'=>_)=_;rw [h1];show (wT [t] r' st).bind _=_;unfold wT wT;rw [h2];cases hc:c p
  ·rfl
  ·show (Q7 [] f) r' st=_;unfold Q7;rw [h3];rfl]
 rw [zu];dsimp only;rw [AF (Aa (List.length_filter_le _ _) hl)]
theorem qBt {G:qD->Prop} {g:FG} {F:FS} {r:qv} {st:qD} (h:G st):Qt G g F [] r st = .nx r st:=by unfold Qt;rw [AF h]
theorem qA5 {G:qD->Prop} {g:FG} {F:FS} {r r1 r2:qv} {st s2:qD} {p:PV} {ps:List PV} (h:G st) (h1:g p r=some r1) (h2:F r1 st = .nx r2 s2):Qt G g F (p::ps) r st=Qt G g F ps r2 s2:=by rw [Qt,AF h,h1];dsimp only;rw [h2]
section
variable {F G:FS} {f:FE} {fl:FL} {fi:FI} {g:FG} {t:FT} {r r':qv} {st st':qD} {p:PV} {l:List PV} {w:ItP} {i:Nat}
theorem qHm (h:F r st = .nx r' st'):qP F G r st=G r' st':=by unfold qP;rw [h]
theorem qH3 (h:F r st = .rt p st'):qP F G r st = .rt p st':=by unfold qP;rw [h]
theorem qHW {x:Exc} (h:F r st = .ex x st'):qP F G r st = .ex x st':=by unfold qP;rw [h]
theorem qHh {x:Exc} (h:f r st = .ex x st'):zP f r st = .ex x st':=by unfold zP;rw [h];rfl
theorem qGB {x:Exc} {n N:Nat} {B:FS} (hl:l.length=n) (h:B (Qg N l) st = .ex x st'):QI n N B l st = .ex x st':=by unfold QI;rw [AF hl,h];rfl
theorem qGx (h:f r st = .ok p st'):zP f r st = .nx r st':=by unfold zP;rw [h];rfl
theorem qG0 (h:f r st = .ok p st'):qY i f r st = .nx (r.set i (some p)) st':=by unfold qY;rw [h];rfl
theorem qFC (h:fl r st = .ok l st'):W8 i fl r st = .nx (r.set i (some (.ref st'.length))) (st'++[.l l]):=by unfold W8;rw [h];rfl
theorem qAX (h:f r st = .ok p st'):ql f r st = .rt p st':=by unfold ql;rw [h];rfl
theorem qGH (h:fl r st = .ok l st'):Z4 fl r st = .rt (.ref st'.length) (st'++[.l l]):=by unfold Z4;rw [h];rfl
theorem qH8 (h:fi r st = .ok w st'):WX fi g F r st=Qt w.G g F w.l r st':=by unfold WX;rw [h];rfl
theorem qKP (h:t r st = .ok true st'):Qc t F G r st=F r st':=by unfold Qc;rw [h];rfl
theorem qJ6 (h:t r st = .ok false st'):Qc t F G r st=G r st':=by unfold Qc;rw [h];rfl
theorem qIy (h:fl r st = .ok l st'):vFz fl r st = .ok (.lst l) st':=by unfold vFz;rw [h];rfl
theorem ZC {k:List PV->qD->Rs PV} {fa:FA} (h:fa r st = .ok l st'):qH k fa r st=k l st':=by unfold qH;rw [h];rfl
theorem qFQ {fa:FA} {st2:qD} (h:f r st = .ok p st') (h2:fa r st' = .ok l st2):qA f fa r st = .ok (p::l) st2:=by unfold qA;rw [h];show (fa r st').bind _=_;rw [h2];rfl
theorem ja {k:PV->PV->qD->Rs PV} {fb:FE} {q:PV} {st2:qD} (h:f r st = .ok p st') (h2:fb r st' = .ok q st2):qI k f fb r st=k p q st2:=by unfold qI;rw [h];show (fb r st').bind _=_;rw [h2];rfl
theorem qCg {b:Bool} (h:f r st = .ok (.bl b) st'):QM f r st = .ok b st':=by unfold QM;rw [h];rfl
theorem qId {b:Bool} (h:t r st = .ok b st'):Qn t r st = .ok (!b) st':=by unfold Qn;rw [h];rfl
theorem qI0 {b:Bool} (h:f r st = .ok (.bl b) st'):vTB f r st = .ok b st':=by unfold vTB;rw [h];rfl
theorem jW {n N:Nat} {B:FS} (hl:l.length=n) (h:B (Qg N l) st = .rt p st'):QI n N B l st = .ok p st':=by unfold QI;rw [AF hl,h];rfl
end
section
variable {F G:FS} {f fb fo fi2:FE} {fl:FL} {fi:FI} {fa:FA} {g:FG} {t u:FT} {r r1 r':qv} {st s1 s2 s3:qD} {p q z:PV} {l m:List PV} {w:ItP} {i:Nat} {b c:Bool} {x:Exc} {o:RS} {R:Rs PV}
theorem qQ {k:PV->PV->qD->Rs PV} (h:f r st = .ok p s1) (h2:fb r s1 = .ok q s2) (h3:k p q s2=R):qI k f fb r st=R:=by rw [ja h h2];exact h3
theorem qN {k:List PV->qD->Rs PV} (h:fa r st = .ok l s1) (h2:k l s1=R):qH k fa r st=R:=by rw [ZC h];exact h2
theorem qX:qC r st = .ok [] st:=rfl
theorem qJ (h:f r st = .ok p s1) (h2:fa r s1 = .ok l s2):qA f fa r st = .ok (p::l) s2:=qFQ h h2
theorem wq (h:fa r st = .ok l s1) (hl:l.length≤sizeLine):qe fa r st = .ok (.tup l) s1:=by unfold qe;rw [h];exact AF hl
theorem Wn (h:fa r st = .ok l s1) (hl:l.length≤sizeLine):QP fa r st = .ok l s1:=by unfold QP;rw [h];exact AF hl
theorem wb (h:fl r st = .ok l s1):vFz fl r st = .ok (.lst l) s1:=qIy h
theorem YZ (h:f r st = .ok p s1) (h2:fb r s1 = .ok q s2) (e1:asL s2 p=some l) (e2:asL s2 q=some m) (hl:l.length + m.length≤sizeLine):ZO f fb r st = .ok (l++m) s2:=by unfold ZO;rw [h];show (fb r s1).bind _=_;rw [h2];show (match asL s2 p with |some l=>_ |none=>_)=_;rw [e1];dsimp only;rw [e2];dsimp only;rw [AF hl]
theorem QO (h:f r st = .ok (.bl b) s1):QM f r st = .ok b s1:=qCg h
theorem wf (h:f r st = .ok (.bl b) s1):vTB f r st = .ok b s1:=qI0 h
theorem w_not (h:t r st = .ok b s1):Qn t r st = .ok (!b) s1:=qId h
theorem zj (h:t r st = .ok true s1):Wb t u r st = .ok true s1:=by unfold Wb;rw [h];rfl
theorem Qq (h:t r st = .ok false s1) (h2:u r s1 = .ok b s2):Wb t u r st = .ok b s2:=by unfold Wb;rw [h];exact h2
theorem JA (h:t r st = .ok false s1):WS t u r st = .ok false s1:=by unfold WS;rw [h];rfl
theorem ya (h:t r st = .ok true s1) (h2:u r s1 = .ok b s2):WS t u r st = .ok b s2:=by unfold WS;rw [h];exact h2
theorem qU (h:F r st = .nx r' s1) (h2:G r' s1=o):qP F G r st=o:=by rw [qHm h];exact h2
theorem q9 (h:F r st = .rt p s1):qP F G r st = .rt p s1:=qH3 h
theorem qDu (h:F r st = .ex x s1):qP F G r st = .ex x s1:=qHW h
theorem QB (h:f r st = .ok p s1):qY i f r st = .nx (r.set i (some p)) s1:=qG0 h
theorem qA1 (h:fl r st = .ok l s1):W8 i fl r st = .nx (r.set i (some (.ref s1.length))) (s1++[.l l]):=qFC h
theorem qGs (h:f r st = .ok p s1):zP f r st = .nx r s1:=qGx h
theorem qCK (h:f r st = .ex x s1):zP f r st = .ex x s1:=qHh h
theorem QD (h:f r st = .ok p s1):ql f r st = .rt p s1:=qAX h
theorem qCq (h:f r st = .ex x s1):ql f r st = .ex x s1:=by unfold ql;rw [h];rfl
theorem qEk (h:fl r st = .ok l s1):Z4 fl r st = .rt (.ref s1.length) (s1++[.l l]):=qGH h
theorem QU (h:t r st = .ok true s1) (h2:F r s1=o):Qc t F G r st=o:=by rw [qKP h];exact h2
theorem Qf (h:t r st = .ok false s1) (h2:G r s1=o):Qc t F G r st=o:=by rw [qJ6 h];exact h2
theorem ZL (h:fi r st = .ok w s1) (h2:Qt w.G g F w.l r s1=o):WX fi g F r st=o:=by rw [qH8 h];exact h2
theorem Qx {Gd:qD->Prop} (h:Gd st):Qt Gd g F [] r st = .nx r st:=qBt h
theorem WW {Gd:qD->Prop} {ps:List PV} (h:Gd st) (h1:g p r=some r1) (h2:F r1 st = .nx r' s2) (h3:Qt Gd g F ps r' s2=o):Qt Gd g F (p::ps) r st=o:=by rw [qA5 h h1 h2];exact h3
theorem Zq {r1:qv} (h:f r st = .ok p s1) (h2:g p r=some r1):Ww f g r st = .nx r1 s1:=by unfold Ww;rw [h];show (match g p r with |some r'=>RS.nx r' s1 |none=>RS.no)=_;rw [h2]
theorem qGW {j:Nat} (h:fa r st = .ok [p,q] s1):JM i j fa r st = .nx ((r.set i (some p)).set j (some q)) s1:=by unfold JM;rw [h];rfl
theorem qJP (h:f r st = .ok p s1) (h2:fo r s1 = .ok q s2) (h3:fi2 r s2 = .ok z s3) {s4:qD} (h4:WQ s3 q z p=some s4):qBX fo fi2 f r st = .nx r s4:=by unfold qBX;rw [h];show (fo r s1).bindS _=_;rw [h2];show (fi2 r s2).bindS _=_;rw [h3];show (match WQ s3 q z p with |some s4=>RS.nx r s4 |none=>RS.no)=_;rw [h4]
theorem qu {n N:Nat} {B:FS} (hl:l.length=n) (h:B (Qg N l) st = .rt p s1):QI n N B l st = .ok p s1:=jW hl h
theorem Y8 {n N:Nat} {B:FS} (hl:l.length=n) (h:B (Qg N l) st = .ex x s1):QI n N B l st = .ex x s1:=qGB hl h
theorem sz {n:Nat} (h:Nat.ble n 1000=true):n≤sizeLine:=Aa (Bk h) (by decide)
theorem YI {i j:Int} (h:-(2 ^ 64) < i∧i < 2 ^ 64):zG (.int i) (.int j) st = .ok (.int (i * j)) st:=by unfold zG gI;dsimp only;rw [AF (.inl h)]
theorem qAq {i j:Int} (h:-(2 ^ 64) < j∧j < 2 ^ 64):zG (.int i) (.int j) st = .ok (.int (i * j)) st:=by unfold zG gI;dsimp only;rw [AF (.inr h)]
theorem qEm {i j:Int} (h:0 < j):qAZ (.int i) (.int j) st = .ok (.int (i % j)) st:=by unfold qAZ gI;dsimp only;rw [AF h]
theorem qC9 {i j:Int} (h:0 < j∧j < 1073741824):J3 (.int i) (.int j) st = .ok (.int (i / j)) st:=by unfold J3 gI;dsimp only;rw [AF h]
theorem qDA {i j:Int} (h:0 < j∧j < 1073741824):Zx [.int i,.int j] st = .ok (.tup [.int (i / j),.int (i % j)]) st:=by unfold Zx;dsimp only;rw [AF h]
theorem wA {i j:Int}:qx (.int i) (.int j) st = .ok (.int (i + j)) st:=rfl
theorem YL {i j:Int}:Wt (.int i) (.int j) st = .ok (.int (i - j)) st:=rfl
theorem w_lt {i j:Int}:gLt (.int i) (.int j) st = .ok (.bl (decide (i < j))) st:=rfl
theorem qIQ {i j:Int}:gGt (.int i) (.int j) st = .ok (.bl (decide (i > j))) st:=rfl
theorem Yy {i:Int} (h:zF st p=some l) (h2:atI l i=some z):gIx p (.int i) st = .ok z st:=by unfold gIx;simp only [h,h2]
theorem zC (h:zF st p=some l) {n:Int} (hn:(l.length:Int)=n):wB [p] st = .ok (.int n) st:=by unfold wB;simp only [h];rw [hn]
theorem yH {n:Nat} (h:st[n]? = some (.l l)):zF st (.ref n)=some l:=by unfold zF asL;simp only [h]
theorem qDp {n:Nat} (h:r[n]? = some (some p)):qB n r st = .ok p st:=by unfold qB;rw [h]
theorem Ye {n:Nat} (h:fo r st = .ok (.ref n) s1) (hk:lk s1 (.ref n)=true) (h2:f r s1 = .ok p s2) (h3:s2[n]? = some (.l l)) (hl:l.length < sizeLine):Qa fo f r st = .nx r (s2.set n (.l (l++[p]))):=by unfold Qa;rw [h];show (if lk s1 (.ref n)=true then (f r s1).bindS _ else RS.no)=_;rw [AF hk,h2];show (match s2[n]? with |some (.l xs)=>if xs.length < sizeLine then RS.nx r (s2.set n (.l (xs++[p]))) else .no |_ => .no)=_;rw [h3];exact AF hl
theorem qFH {n j:Nat} {k:Int} {v:PV} (h:st[n]? = some (.l l)) (hj:ixN l.length k=some j):WQ st (.ref n) (.int k) v=some (st.set n (.l (l.set j v))):=by unfold WQ;simp only [h,hj]
theorem Wd {n:Nat} {k:Int} (h0:0≤k) (h1:k < n):ixN n k=some k.toNat:=by unfold ixN;rw [AF h0,AF (by omega)]
theorem Je {Gd:qD->Prop} {k:PV->qD->Rs (List PV)} (h:Gd st):qz Gd k [] st = .ok [] st:=by unfold qz;exact AF h
theorem qBD {Gd:qD->Prop} {k:PV->qD->Rs (List PV)} {ps:List PV} (hG:Gd st) (h:k p st = .ok l s1) (h2:qz Gd k ps s1 = .ok m s2):qz Gd k (p::ps) st = .ok (l++m) s2:=by rw [qz,AF hG,h];show (qz Gd k ps s1).bind _=_;rw [h2];rfl
theorem qH9 (h:g p r=some r') (hf:f r' st = .ok q s1):Qd ⟨fi,g,[]⟩ (Q7 [] f) r p st = .ok [q] s1:=by unfold Qd;show (match g p r with |none=>_ |some r'=>_)=_;rw [h];show (Q7 [] f) r' st=_;unfold Q7;rw [hf];rfl
theorem qDK {caps:List Nat} {n:Nat} {ts:List FT} {gs:List GenF} (hfi:fi r st = .ok w s1) (h:qz w.G (Qd ⟨fi,g,ts⟩ (Q7 gs f) (zt caps n r)) w.l s1 = .ok l s2) (hl:l.length≤sizeLine):QN caps n fi g ts gs f r st = .ok l s2:=by unfold QN;rw [hfi];show (match qz w.G (Qd ⟨fi,g,ts⟩ (Q7 gs f) (zt caps n r)) w.l s1 with | .ok l s'=>if l.length≤sizeLine then Rs.ok l s' else Rs.no |_=>Rs.no)=_;rw [h];exact AF hl
theorem zX (h:zF st p=some l):WI [p] st = .ok (.tup l) st:=by unfold WI;simp only [h]
theorem wI (h:f r st = .ok (.lst l) s1):q5 f r st = .ok ⟨l,fun _=>True⟩ s1:=by unfold q5;rw [h];rfl
theorem wl (h:f r st = .ok (.tup l) s1):q5 f r st = .ok ⟨l,fun _=>True⟩ s1:=by unfold q5;rw [h];rfl
end
abbrev CE:=qv->Option PV
section
variable {F G:FS} {f fb fc fo fi2:FE} {fl:FL} {fi:FI} {fa:FL} {g:FG} {t u:FT} {c d e:CE} {co cp:CO} {f1 f2:FO} {r r':qv} {st s1 s2 s3:qD} {p q z:PV} {l:List PV} {n:Nat} {o:RS}
theorem qHH {c:FT} (h:c r st = .ok false s1):WK c F (n + 1) r st = .nx r s1:=by unfold WK;rw [h]
theorem qDW {c:FT} (h:c r st = .ok true s1) (h2:F r s1 = .nx r' s2) (h3:WK c F n r' s2=o):WK c F (n + 1) r st=o:=by unfold WK;rw [h];dsimp only;rw [h2];exact h3
theorem qJM (h:fo r st = .ok (.ref n) s1) (h2:s1[n]? = some (.l l)) (h3:l[l.length - 1]? = some p):qCS fo r st = .ok p (s1.set n (.l l.dropLast)):=by unfold qCS;rw [h];show (match s1[n]? with |some (.l xs)=>_ |_=>_)=_;rw [h2];dsimp only;rw [h3]
theorem qHa (h:st[n]? = some (.l l)):lk st (.ref n)=true:=by unfold lk;dsimp only;rw [h]
end
end EV
end
section
namespace EV
open PySem ET
abbrev qc:=Int×Int
def cP (c:qc):PV := .tup [.int c.1,.int c.2]
def cL (c:qc):List Int:=[c.1,c.2]
def lC:List Int->qc
 |[x,y]=>(x,y)
 |_=>(0,0)
theorem qBn:∀ l:List qc,nrs (l.map cP)=true
 |[]=>rfl
 |c::l=>by rw [Aj,nrs,qBn l];rfl
theorem JF:∀ l:List qc,deps (l.map cP)≤1
 |[]=>A3 _
 |c::l=>by
  rw [Aj,deps]
  have:=JF l
  have h:dep (cP c)=1:=rfl;omega
theorem qI5 (a b:qc):peq (cP a) (cP b)=decide (a=b):=by
 obtain ⟨a1,a2⟩:=a;obtain ⟨b1,b2⟩:=b;show ((a1==b1)&&((a2==b2)&&true))=_;rw [Bool.and_true];by_cases h1:a1=b1
 ·by_cases h2:a2=b2
  ·subst h1;subst h2;simp
  ·rw [AW.mpr h2,Bs];exact (Ae (by simp [h2])).symm
 ·rw [AW.mpr h1,Bool.false_and];exact (Ae (by simp [h1])).symm
theorem qGd (c:qc):∀ l:List qc,pin (cP c) (l.map cP)=decide (c∈l)
 |[]=>rfl
 |d::l=>by
  rw [Aj,pin,qI5,qGd c l];by_cases h:d=c
  ·subst h;rw [AR rfl,Bool.true_or];exact (AR AL).symm
  ·rw [Ae h,Bool.false_or];refine CD.mpr ⟨fun q=>AE _ q,fun q => ?_⟩;rcases AJ.mp q with z |z
   ·exact absurd z.symm h
   ·exact z
theorem qEe {neg:Bool} {c:qc} {l:List qc} {q:PV} {st:qD} (h:zF st q=some (l.map cP)):gIn neg (cP c) q st = .ok (.bl (if neg then !decide (c∈l) else decide (c∈l))) st:=by
 unfold gIn;rw [h];dsimp only;rw [AF ⟨qBn l,rfl,Aa (JF l) (by decide)⟩]
 show Rs.ok (PV.bl (if neg then !pin (cP c) (l.map cP) else pin (cP c) (l.map cP))) st=_;rw [qGd]
theorem eq_nil {l:List qc} {st:qD}:gEq (.lst (l.map cP)) (.lst []) st = .ok (.bl l.isEmpty) st:=by
 have h1:ZN (.lst (l.map cP)) (.lst [])=true:=by show (nrs (l.map cP)&&true&&decide (deps (l.map cP) + 1≤ZG))=true;rw [qBn,AR (Aa (CG (JF l)) (by decide))];rfl
 show (if ZN (.lst (l.map cP)) (.lst [])=true then Rs.ok (PV.bl (peq (PV.lst (l.map cP)) (PV.lst []))) st else Rs.no)=_;rw [AF h1];cases l <;> rfl
theorem qIG (c:qc):ZZ (cP c)=some (cL c):=rfl
theorem JL:∀ l:List qc,Qr ZZ (l.map cP)=some (l.map cL)
 |[]=>rfl
 |c::l=>by rw [Aj,Qr,qIG];dsimp only;rw [JL l];rfl
theorem qBC:∀ (vs acc:List (List Int)) (x:List Int),x∈vs.foldl Ys acc ↔ x∈acc∨x∈vs
 |[],acc,x=>by simp
 |k::vs,acc,x=>by
  rw [List.foldl_cons,qBC vs _ x];unfold Ys;split
  ·rename_i q;constructor
   ·rintro (h |h)
    ·exact .inl h
    ·exact .inr (AE _ h)
   ·rintro (h |h)
    ·exact .inl h
    ·rcases AJ.mp h with rfl |h
     ·exact .inl q
     ·exact .inr h
  ·simp only [Am,AJ,Ah,Bu];constructor
   ·rintro ((h |h) |h)
    ·exact .inl h
    ·exact .inr (.inl h)
    ·exact .inr (.inr h)
   ·rintro (h |h |h)
    ·exact .inl (.inl h)
    ·exact .inl (.inr h)
    ·exact .inr h
def w9 (l:List qc):List qc:=(srt (l.map cL)).map lC
theorem qGQ (c:qc):lC (cL c)=c:=rfl
theorem qGk {l:List (List Int)} {m:List qc} (h:∀ x∈l,x∈m.map cL):l.map yU=(l.map lC).map cP:=by rw [A5];refine A4 fun x hx => ?_;obtain ⟨c,_,rfl⟩:=AX.mp (h x hx);rfl
theorem qF4 (l:List qc):(srt (l.map cL)).map yU=(w9 l).map cP:=qGk fun x hx=>(WV _).mem_iff.mp hx
theorem ddT_in {l:List qc} {x:List Int}:x∈ddT (l.map cL) ↔ x∈l.map cL:=by unfold ddT;rw [qBC];simp
theorem mem_cL {l:List qc} {c:qc}:cL c∈l.map cL ↔ c∈l:=by
 rw [AX];constructor
 ·rintro ⟨d,hd,e⟩
  have:d=c:=by rw [← qGQ d,e,qGQ]
  rw [← this];exact hd
 ·intro h;exact ⟨c,h,rfl⟩
theorem mem_srtC {l:List qc} {c:qc}:c∈w9 l ↔ c∈l:=by
 unfold w9;rw [AX];constructor
 ·rintro ⟨x,hx,rfl⟩
  obtain ⟨d,hd,rfl⟩:=AX.mp ((WV _).mem_iff.mp hx);exact hd
 ·intro h;exact ⟨cL c,(WV _).mem_iff.mpr (mem_cL.mpr h),rfl⟩
theorem YY (l:List qc):(w9 l).length=l.length:=by unfold w9;rw [AC,(WV _).length_eq,AC]
theorem qE2 (l:List qc):(ddT (l.map cL)).length≤l.length:=by
 have:=yZ (l.map cL) []
 have z:([]:List (List Int)).length=0:=rfl;rw [AC] at this;unfold ddT;omega
def clt (a b:qc):Prop:=a.1 < b.1∨(a.1=b.1∧a.2 < b.2)
instance (a b:qc):Decidable (clt a b):=by unfold clt;infer_instance
theorem qEA {l:List qc} {q:PV} {st:qD} (h:zF st q=some (l.map cP)) (hl:l.length≤63):Zb q st = .ok (.lst ((w9 l).map cP)) st:=by unfold Zb;rw [h];dsimp only;rw [JL];dsimp only;rw [AF (by rw [AC];omega),qF4]
theorem qGp {l:List qc} {q:PV} {st:qD} (h:zF st q=some (l.map cP)) (hl:l.length≤299):yp q st = .ok (.int (ddT (l.map cL)).length) st:=by unfold yp;rw [h];dsimp only;rw [JL];dsimp only;rw [AF (by rw [AC];omega)]
section
variable {F G:FS} {f fb fo fi2:FE} {fl:FL} {fi:FI} {fa:FA} {g:FG} {t u:FT} {r r1 r':qv} {st s1 s2 s3 s4:qD} {p q z:PV} {l m:List PV} {w:ItP} {n:Nat}
theorem JH (h:f r st = .ok p s1) {R:Rs PV} (h2:Zb p s1=R):z5 f r st=R:=by unfold z5;rw [h];exact h2
theorem qHb (h:f r st = .ok p s1) {R:Rs PV} (h2:yp p s1=R):yA f r st=R:=by unfold yA;rw [h];exact h2
theorem qJg {a b:Option Int} {f1 f2:FO} (h:f r st = .ok p s1) (h1:f1 r s1 = .ok a s2) (h2:f2 r s2 = .ok b s3) (h3:asL s3 p=some l):qEN f f1 f2 r st = .ok (.lst (Wk l a b)) s3:=by unfold qEN;rw [h];show (f1 r s1).bind _=_;rw [h1];show (f2 r s2).bind _=_;rw [h2];show (match asL s3 p with |some l=>_ |none=>_)=_;rw [h3]
theorem qEP {i k:Nat} {cs:List Addr} {Fb Fh:FS} (h:Fb r st = .nx r1 s1):Yc i k cs Fb Fh r st = .nx r1 s1:=by unfold Yc;rw [h]
theorem qCh {i k:Nat} {cs:List Addr} {Fb Fh:FS} {x:Exc} (h:Fb r st = .ex x s1) (hx:x.cls∈cs) (h2:Fh ((List.replicate k none).set i (some (.exc x.cls x.fs))) s1 = .nx r1 s2):Yc i k cs Fb Fh r st = .nx (r1.set i none) s2:=by unfold Yc;rw [h];dsimp only;rw [AF hx,h2]
theorem qCV {Gd:qD->Prop} {ps:List PV} (h:Gd st) (h1:g p r=some r1) (h2:F r1 st = .rt z s2):Qt Gd g F (p::ps) r st = .rt z s2:=by rw [Qt,AF h,h1];dsimp only;rw [h2]
theorem zT {k:Int} (h:f r st = .ok (.int k) s1):Q4 f r st = .ok (some k) s1:=by unfold Q4;rw [h];rfl
end
end EV
end
noncomputable section
namespace K21
open PySem EV
def wY:PV->Bool
 | .non=>true | .bl _=>true | .int _=>true | .str _=>true | .tup _=>true | .lst _=>true | .dct=>true |_=>false
def isInt:PV->Bool
 | .int _=>true
 |_=>false
theorem qA4 {a:Ad} {v:PV} {st:qD} (h:wY v=true):ZT a [v] st = .ok (.bl (isInt v)) st:=by cases v <;> first |rfl |cases h
def qq (lo hi:Int):PV->Bool
 | .int i=>decide (lo≤i)&&decide (i≤hi)
 |_=>false
theorem Zz {a:Ad} {v:PV} {st:qD} {lo hi:Int} (h:wY v=true):QR a [v,.int lo,.int hi] st = .ok (.bl (qq lo hi v)) st:=by
 refine jW rfl ?_;unfold w8;refine (qAX (p := .bl (qq lo hi v)) (st':=st) ?_);unfold Zc;rw [ZC (l:=[v]) (st':=st) rfl,qA4 h];cases v with
 |int i =>show (match (PV.bl (decide (lo≤i))) with | .bl true=>Rs.ok (PV.bl (decide (i≤hi))) st | .bl false=>Rs.ok (.bl false) st |_ => .no)=_;unfold qq;dsimp only;cases decide (lo≤i) <;> rfl
 |_=>rfl
theorem JQ {a:Ad} {v:PV} {st:qD} (h:wY v=true):zn a [v] st = .ok (.bl (qq 2 5 v)) st:=by refine jW rfl ?_;unfold zf;refine (qAX (p := .bl (qq 2 5 v)) (st':=st) ?_);rw [ZC (l:=[v,.int 2,.int 5]) (st':=st) rfl];exact Zz h
theorem ZJ {a:Ad} {v:PV} {st:qD} (h:wY v=true):Qm a [v] st=if qq 2 5 v=true then .ok .non st else .ex ⟨a.Z1,[]⟩ st:=by unfold Qm QI;rw [AF (show [v].length=1 from rfl)];unfold W6 Qc Qn QM;rw [ZC (l:=[v]) (st':=st) rfl,JQ h];cases hw:qq 2 5 v <;> rfl
theorem Js {f:PV->Bool}:∀ l:List PV,Qr pbl (l.map fun p => .bl (f p))=some (l.map f)
 |[]=>rfl
 |p::l=>by simp only [Aj,Qr,pbl,Js l]
theorem jM:∀ l:List Int,Qr Ja (l.map PV.int)=some l
 |[]=>rfl
 |p::l=>by simp only [Aj,Qr,Ja,jM l]
theorem ZM {i j:Int} {st:qD}:gEq (.int i) (.int j) st = .ok (.bl (i==j)) st:=rfl
theorem WP {n:Nat} (h:n≤100000):n≤sizeLine:=Aa h (by decide)
def WA (L:Int):List Int:=(List.range L.toNat).map fun (i:Nat)=>(i:Int)
theorem qEY {L:Int}:Z7 0 L=(WA L).map PV.int:=by unfold Z7 WA;rw [A5,Int.sub_zero];refine A4 fun i _ => ?_;show PV.int (0 + (i:Int))=PV.int i;rw [Int.zero_add]
theorem upto_mem {L i:Int}:i∈WA L ↔ 0≤i∧i < L:=by
 unfold WA;rw [AX];constructor
 ·rintro ⟨j,hj,rfl⟩;rw [BC] at hj;omega
 ·rintro ⟨h1,h2⟩;exact ⟨i.toNat,by rw [BC];omega,by omega⟩
theorem Wp {L:Int}:(WA L).length=L.toNat:=by simp [WA]
theorem qE7 {l:List Int} {L i:Int} (hl:l.length=L.toNat) (h0:0≤i) (h1:i < L):L2.atI (l.map PV.int) i=some (.int (l.getD i.toNat 0)):=by
 unfold L2.atI L2.ixN;rw [AC,AF h0,AF (by omega)]
 show (l.map PV.int)[i.toNat]? = _;have hi:i.toNat < l.length:=by omega
 rw [Au,AI hi,Ab,AI hi];rfl
theorem qHw {l:List Int} {L i:Int} {st:qD} (hl:l.length=L.toNat) (h0:0≤i) (h1:i < L):gIx (.lst (l.map PV.int)) (.int i) st = .ok (.int (l.getD i.toNat 0)) st:=by unfold gIx;simp only [zF,asL,qE7 hl h0 h1]
theorem QQ {a:Ad} {st j:qD} {x m:Int} (h:0 < m∧m < 1073741824):qS a [.ref st.length,.int m] (st ++ .l [.int x]::j) = .ok (.int (x % m)) (st ++ .l [.int (x / m)]::j):=by
 have hs:(st++SO.l [.int x]::j)[st.length]? = some (.l [.int x]):=by simp
 refine qu rfl (qU (Zq (qN (qJ (qQ rfl rfl (Yy (yH hs) rfl)) (qJ rfl qX)) (qDA h)) rfl) (qU (qJP rfl rfl rfl (s4:=st ++ .l [.int (x / m)]::j) ?_) (QD rfl)));unfold WQ;simp only [hs];show some ((st++SO.l [.int x]::j).set st.length (.l [.int (x / m)]))=_;rw [Bl _ _ (AG _),CS];rfl
def Zn:Nat:=2 ^ 20
theorem qDU:64≤Zn:=by decide
theorem qEK:Zn + Zn + 100≤bitsLine:=by decide
theorem qFB {a:Ad} {ns:List Int} {k:Int} {st:qD} (hb:∀ n∈ns,Builtin.Int.intBits n≤2 ^ 20) (h0:0≤k) (h1:k < 100):∃ c:Int,c.natAbs < 2 ^ Zn∧zZ a [.lst (ns.map PV.int),.int k] st = .ok (.int c) st:=by
 have e1:vTB (qI gLt (qB 1) (qH wB (qA (qB 0) qC))) (Qg 2 [.lst (ns.map PV.int),.int k]) st = .ok (decide (k < (ns.length:Int))) st :=
  wf (qQ rfl (qN (qJ rfl qX) (zC (l:=ns.map PV.int) rfl (by rw [AC]))) w_lt)
 by_cases hk:k < (ns.length:Int)
 ·refine ⟨ns.getD k.toNat 0,?_,qu rfl (q9 (QU (by rw [e1,AR hk]) (QD (qQ rfl rfl (qHw (L:=ns.length) (by omega) h0 hk)))))⟩
  have hi:k.toNat < ns.length:=by omega
  rw [Ab,AI hi];exact qEy (hb _ (BV hi))
 ·refine ⟨6151 * k + 29,?_,qu rfl (qU (r':=Qg 2 [.lst (ns.map PV.int),.int k]) (s1:=st) (Qf (by rw [e1,Ae hk]) rfl) (QD (qQ (qQ rfl rfl (YI (by decide))) rfl wA)))⟩
  refine Al (m:=2 ^ 64) ?_ (Bn (by decide) qDU)
  omega
theorem qIe {a:Ad} {c k:Int} {st:qD} (hc:c.natAbs < 2 ^ Zn) (h0:0≤k) (h1:k < 24):∃ m:Int,ZE a [.int c,.int k] st = .ok (.int m) st:=by
 have hn:((c + 1) * 40692 + 104729 * k).natAbs < 2 ^ (Zn + 30):=by
  rw [Nat.pow_add];have h2:0 < 2 ^ Zn:=Nat.two_pow_pos _;generalize 2 ^ Zn=N at hc h2
  have:(2:Nat) ^ 30=1073741824:=by decide
  rw [this];omega
 generalize hN:(c + 1) * 40692 + 104729 * k=n at hn;have hbits:Builtin.Int.intBits n + Builtin.Int.intBits n≤bitsLine:=by
  have:=jm hn
  have:=qEK
  omega
 have hm1:0≤n * n % 2147483399:=Int.emod_nonneg _ (by decide)
 have hm2:n * n % 2147483399 < 2147483399:=Int.emod_lt_of_pos _ (by decide)
 refine ⟨(n * n % 2147483399 + k) * (n * n % 2147483399 + k + 31) % 2147483563,qu rfl (qU (QB (p := .int n) (s1:=st) (qQ (qQ (qQ rfl rfl wA) rfl (qAq (by decide))) (qQ rfl rfl (YI (by decide))) (by rw [wA,hN]))) (qU (QB (qQ (qQ (qQ rfl rfl (qHV hbits)) rfl (qEm (by decide))) rfl wA)) (QD (qQ (qQ rfl (qQ rfl rfl wA) (YI ⟨?_,?_⟩)) rfl (qEm (by decide))))))⟩
 ·omega
 ·omega
def qFJ (a:Ad):FS:=qY 3 (qI qx (qI zG (qB 3) (vC (.int 2147483647))) (qH (ZE a) (qA (qB 2) (qA (qB 4) qC))))
theorem JP {a:Ad} {s:PV} {c k:Int} {st:qD} (hc:c.natAbs < 2 ^ Zn):∀ (js:List Int) (n:Int) (x:Option PV),(∀ j∈js,0≤j∧j < 24) -> ∃ n' x',Qt (fun _=>True) (qr 4) (qFJ a) (js.map PV.int) [some s,some (.int k),some (.int c),some (.int n),x] st = .nx [some s,some (.int k),some (.int c),some (.int n'),x'] st
 |[],n,x,_=>⟨n,x,Qx trivial⟩
 |j::js,n,x,h=>by have hj:=h j AL;obtain ⟨m,hm⟩:=qIe (a:=a) (st:=st) hc hj.1 hj.2;obtain ⟨n',x',e2⟩:=JP (a:=a) (s:=s) (k:=k) (st:=st) hc js (n * 2147483647 + m) (some (.int j)) fun q hq=>h q (AE _ hq);exact ⟨n',x',WW trivial rfl (QB (qQ (qQ rfl rfl (qAq (by decide))) (qN (qJ rfl (qJ rfl qX)) hm) wA)) e2⟩
theorem qHq {a:Ad} {ns:List Int} {k:Int} {st:qD} (hb:∀ n∈ns,Builtin.Int.intBits n≤2 ^ 20) (h0:0≤k) (h1:k < 100):∃ x,ZB a [.lst (ns.map PV.int),.int k] st = .ok (.ref st.length) (st++[.l [.int x]]):=by
 obtain ⟨c,hc,e⟩:=qFB (a:=a) (st:=st) hb h0 h1;have ht:vTB (qI gEq (qI qAZ (qB 2) (vC (.int 2))) (vC (.int 0))) [some (.lst (ns.map PV.int)),some (.int k),some (.int c),none,none] st = .ok (c % 2==0) st:=wf (qQ (qQ rfl rfl (qEm (by decide))) rfl ZM)
 have e0:qY 2 (qH (zZ a) (qA (qB 0) (qA (qB 1) qC))) (Qg 5 [.lst (ns.map PV.int),.int k]) st = .nx [some (.lst (ns.map PV.int)),some (.int k),some (.int c),none,none] st:=QB (qN (qJ rfl (qJ rfl qX)) e);cases hp:(c % 2==0) with
 |true=>exact ⟨c / 2,qu rfl (qU e0 (q9 (QU (by rw [ht,hp]) (qEk (Wn (qJ (qQ rfl rfl (qC9 (by decide))) qX) (sz rfl))))))⟩
 |false =>obtain ⟨n',x',el⟩:=JP (a:=a) (s := .lst (ns.map PV.int)) (k:=k) (st:=st) hc (WA 24) 0 none fun j hj=>upto_mem.mp hj;exact ⟨n',qu rfl (qU e0 (qU (r':=[some (.lst (ns.map PV.int)),some (.int k),some (.int c),none,none]) (s1:=st) (Qf (by rw [ht,hp]) rfl) (qU (QB rfl) (qU (ZL (w:=⟨(WA 24).map PV.int,fun _=>True⟩) (s1:=st) rfl el) (qEk (Wn (qJ rfl qX) (sz rfl)))))))⟩
theorem Wj {a:Ad} {x d:Addr} {st:qD} {r:qv} {b:Bool} (h0:r[0]? = some (some (.exc x []))) (hx:x∈Qp a) (hd:d∈a.kinds) (hb:(x==d)=b):qH (QY (kit a)) (qA (qB 0) (qA (vC (.fn d)) qC)) r st = .ok (.bl b) st:=by
 rw [ZC (l:=[.exc x [],.fn d]) (st':=st) (by unfold qA qB;rw [h0];rfl)]
 show (match (if x∈Qp a∧d∈a.kinds then some (x==d) else none) with |some b=>Rs.ok (PV.bl b) st |none => .no)=_;rw [AF ⟨hx,hd⟩,hb]
theorem qHe {a:Ad} {x:Addr} {st:qD} {r:qv} (h0:r[0]? = some (some (.exc x []))) (hx:x∈Qp a):qH (QY (kit a)) (qA (qB 0) (qA (vC (.ty "ValueError")) qC)) r st = .ok (.bl true) st:=by
 rw [ZC (l:=[.exc x [],.ty "ValueError"]) (st':=st) (by unfold qA qB;rw [h0];rfl)]
 show (match (if x∈Qp a ∧ "ValueError" = "ValueError" then some true else none) with |some b=>Rs.ok (PV.bl b) st |none => .no)=_;rw [AF ⟨hx,rfl⟩]
theorem qBz (a:Ad):a.Z1∈a.kinds∧a.Z2∈a.kinds∧a.Z3∈a.kinds∧a.Z4∈a.kinds∧a.Z5∈a.kinds∧a.Z6∈a.kinds∧a.Z7∈a.kinds∧a.Z8∈a.kinds∧a.Z9∈a.kinds∧a.Z10∈a.kinds∧a.Z11∈a.kinds:=by unfold Ad.kinds;simp
def qEQ (a:Ad):FS:=(qP (Qc (QM (qI gIx (qB 1) (vC (.int 10)))) qIU QL) (qP (qY 2 (vFz (QP (qA (vC (.str "length")) (qA (vC (.str "number")) (qA (vC (.str "bars")) (qA (vC (.str "box")) (qA (vC (.str "weights")) (qA (vC (.str "sorts")) (qA (vC (.str "turn")) (qA (vC (.str "place")) (qA (vC (.str "text")) (qA (vC (.str "row")) qC))))))))))))) (ql (qI qFe (vC (.str "! ")) (qI gIx (qB 2) (qHv (qB 1) (vC (.bl true))))))))
theorem qDH {a:Ad} {x:Addr} {st:qD} {v:PV} (hx:x∈Qp a) {b0 b1 b2 b3 b4 b5 b6 b7 b8 b9 b10:Bool} (e0:(x==a.Z1)=b0) (e1:(x==a.Z2)=b1) (e2:(x==a.Z3)=b2) (e3:(x==a.Z4)=b3) (e4:(x==a.Z5)=b4) (e5:(x==a.Z6)=b5) (e6:(x==a.Z7)=b6) (e7:(x==a.Z8)=b7) (e8:(x==a.Z9)=b8) (e9:(x==a.Z10)=b9) (e10:(x==a.Z11)=b10)
  (hc:qAy (qB 1) (vC (.bl true)) [some (.exc x []),some (.lst [.bl b0,.bl b1,.bl b2,.bl b3,.bl b4,.bl b5,.bl b6,.bl b7,.bl b8,.bl b9,.bl b10]),none] st = .ok (.int 1) st)
  (h:qEQ a [some (.exc x []),some (.lst [.bl b0,.bl b1,.bl b2,.bl b3,.bl b4,.bl b5,.bl b6,.bl b7,.bl b8,.bl b9,.bl b10]),none] st = .rt v st):Wl a [.exc x []] st = .ok v st:=by
 obtain ⟨m0,m1,m2,m3,m4,m5,m6,m7,m8,m9,m10⟩:=qBz a;exact qu rfl (qU (QB (wb (Wn (qJ (Wj rfl hx m0 e0) (qJ (Wj rfl hx m1 e1) (qJ (Wj rfl hx m2 e2) (qJ (Wj rfl hx m3 e3) qX)))) (sz rfl))))
  (qU (QB (wb (YZ (l:=[.bl b0,.bl b1,.bl b2,.bl b3]) rfl (wb (Wn (qJ (Wj rfl hx m4 e4) (qJ (Wj rfl hx m5 e5) (qJ (Wj rfl hx m6 e6) (qJ (Wj rfl hx m7 e7) qX)))) (sz rfl))) rfl rfl (sz rfl))))
  (qU (QB (wb (YZ (l:=[.bl b0,.bl b1,.bl b2,.bl b3,.bl b4,.bl b5,.bl b6,.bl b7]) rfl (wb (Wn (qJ (Wj rfl hx m8 e8) (qJ (Wj rfl hx m9 e9) (qJ (Wj rfl hx m10 e10) qX))) (sz rfl))) rfl rfl (sz rfl))))
  (qU (r':=[some (.exc x []),some (.lst [.bl b0,.bl b1,.bl b2,.bl b3,.bl b4,.bl b5,.bl b6,.bl b7,.bl b8,.bl b9,.bl b10]),none]) (s1:=st) (Qf (Qq (w_not (b:=true) (QO (qHe rfl hx))) (wf (qQ hc rfl rfl))) rfl) h))))
theorem Jm {a:Ad} (hd:Dist a) {st:qD}:Wl a [.exc a.Z1 []] st = .ok (.str "! length") st:=by have nd:=hd;unfold Dist Ad.kinds at nd;simp only [BE,AJ,Ah,not_or,Bu] at nd;obtain ⟨⟨n1,n2,n3,n4,n5,n6,n7,n8,n9,n10⟩,_⟩:=nd;exact qDH (by unfold Qp;simp) (Ay _) (AW.mpr n1) (AW.mpr n2) (AW.mpr n3) (AW.mpr n4) (AW.mpr n5) (AW.mpr n6) (AW.mpr n7) (AW.mpr n8) (AW.mpr n9) (AW.mpr n10) rfl rfl
theorem itN {L:Int} {r:qv} {st s1:qD} {f:FA} (h1:0≤L) (h2:L≤1000) (hf:f r st = .ok [.int L] s1):(WC f) r st = .ok ⟨(WA L).map PV.int,fun _=>True⟩ s1:=by unfold WC;rw [hf];show ju [.int L] s1=_;unfold ju;dsimp only;rw [AF (by omega),qEY]
theorem Q3 {x m:Int} (h:0 < m):0≤x % m∧x % m < m:=⟨Int.emod_nonneg _ (by omega),Int.emod_lt_of_pos _ h⟩
def unC:PV->qc
 | .tup [.int x,.int y]=>(x,y)
 |_=>(0,0)
theorem Zf {d:qc->Bool} {l:List qc} {c:PV->Bool} (h:∀ x∈l,c (cP x)=d x):(l.map cP).filter c=(l.filter d).map cP:=by
 induction l with
 |nil=>rfl
 |cons x l ih =>rw [Aj,CF,CF,h x AL,ih fun y hy=>h y (AE _ hy)];cases d x <;> rfl
theorem qFb {st j:qD} {b:SO} {i:Nat} {o:SO} (h:j[i]? = some o):(st++b::j)[st.length + 1 + i]? = some o:=by rw [Ap (by omega),show st.length + 1 + i - st.length=i + 1 by omega,List.getElem?_cons_succ];exact h
def In8 (c:qc):Prop:=0≤c.1∧c.1≤7∧0≤c.2∧c.2≤7
theorem qEJ {fi:FI} {g:FG} {t:FT} {f:FE} {r r':qv} {st s1 s2:qD} {p q:PV} (h:g p r=some r') (ht:t r' st = .ok true s1) (hf:f r' s1 = .ok q s2):Qd ⟨fi,g,[t]⟩ (Q7 [] f) r p st = .ok [q] s2:=by unfold Qd;show (match g p r with |none=>_ |some r'=>_)=_;rw [h];show (wT [t] r' st).bind _=_;unfold wT wT;rw [ht];show (Q7 [] f) r' s1=_;unfold Q7;rw [hf];rfl
theorem qDd {fi:FI} {g:FG} {t:FT} {f:FE} {r r':qv} {st s1:qD} {p:PV} (h:g p r=some r') (ht:t r' st = .ok false s1):Qd ⟨fi,g,[t]⟩ (Q7 [] f) r p st = .ok [] s1:=by unfold Qd;show (match g p r with |none=>_ |some r'=>_)=_;rw [h];show (wT [t] r' st).bind _=_;unfold wT wT;rw [ht];rfl
theorem qJZ {st j:qD} {b o:SO} {i:Nat} (h:i < j.length):(st++b::j).set (st.length + 1 + i) o=st++b::j.set i o:=by rw [Bl _ _ (by omega),show st.length + 1 + i - st.length=i + 1 by omega,List.set_cons_succ]
theorem qJI {l:List qc} {n:Nat} (hn:n≤1000):Wk (l.map cP) none (some (n:Int))=(l.take n).map cP:=by
 have h1:HT.sIx (l.map cP).length 0 none=0:=rfl;have h2:HT.sIx (l.map cP).length (l.map cP).length (some (n:Int))=min n (l.map cP).length:=HT.sIx_nat _ _ _;unfold Wk;rw [h1,h2,List.drop_zero,Nat.sub_zero,List.map_take];by_cases h:n≤(l.map cP).length
 ·rw [Nat.min_eq_left h]
 ·rw [Nat.min_eq_right (by omega),List.take_length,List.take_of_length_le (by omega)]
def okP:PV->Bool
 | .tup l=>Nat.ble l.length 1000&&l.all wY
 |p=>wY p
theorem yB {v:PV} (h:okP v=true):wY v=true:=by cases v <;> first |rfl |exact h
def okV:PV->Bool
 | .tup l=>Nat.ble l.length 59&&l.all okP
 |p=>wY p
theorem jP {v:PV} (h:okV v=true):wY v=true:=by cases v <;> first |rfl |exact h
theorem yh {a:Ad} {v:PV} {st:qD} (h:wY v=true):QY (kit a) [v,.ty "tuple"] st = .ok (.bl (match v with | .tup _=>true |_=>false)) st:=by cases v <;> first |rfl |cases h
theorem qG3 {f g:FE} {r:qv} {st s1:qD} {R:Rs PV} (h:f r st = .ok (.bl true) s1) (h2:g r s1=R):Zc f g r st=R:=by unfold Zc;rw [h];exact h2
theorem qC8 {f g:FE} {r:qv} {st s1:qD} (h:f r st = .ok (.bl false) s1):Zc f g r st = .ok (.bl false) s1:=by unfold Zc;rw [h];rfl
theorem qEn {l:List PV} {n:Int} {st:qD}:gNe (.int (l.length:Int)) (.int n) st = .ok (.bl (!decide ((l.length:Int)=n))) st:=by
 show Rs.ok (PV.bl (!((l.length:Int)==n))) st=_;by_cases h:(l.length:Int)=n
 ·rw [AR h,BF.mpr h]
 ·rw [Ae h,AW.mpr h]
theorem YK {f:PV->Bool} {l:List PV} {st:qD}:yD [.lst (l.map fun p => .bl (f p))] st = .ok (.bl (l.all f)) st:=by unfold yD qEi;simp only [asL];rw [Js];show Rs.ok (PV.bl ((l.map f).all id)) st=_;rw [List.all_map];rfl
theorem itR {lo hi:Int} {r:qv} {st s1:qD} {f:FA} (h1:0≤lo) (h2:lo≤1000) (h3:0≤hi) (h4:hi≤1000) (hf:f r st = .ok [.int lo,.int hi] s1):(Jk f) r st = .ok ⟨Z7 lo hi,fun _=>True⟩ s1:=by unfold Jk;rw [hf];show jU [.int lo,.int hi] s1=_;unfold jU;dsimp only;rw [AF ⟨by omega,by omega,by omega,by omega⟩]
theorem zM {lo hi:Int} {p:PV} (h:qq lo hi p=true):∃ i,p = .int i∧lo≤i∧i≤hi:=by
 cases p with
 |int i =>have h:(decide (lo≤i)&&decide (i≤hi))=true:=h;rw [AV] at h;exact ⟨i,rfl,BO h.1,BO h.2⟩
 |_=>cases h
theorem qDh {a:Ad} {v:PV} {st:qD} (h:wY v=true):WO a [v] st = .ok (.bl (isInt v)) st:=by cases v <;> first |rfl |cases h
theorem qCf {a:Ad} {l:List PV} {r:qv} {st:qD} {f:FE} (hl:l.length≤1000) (h:∀ p∈l,wY p=true) (hf:f r st = .ok (.tup l) st):qH yD (qA (vFz (QN [] 1 (q5 f) (Qe 0) [] [] (qH (WO a) (qA (qB 0) qC)))) qC) r st = .ok (.bl (l.all isInt)) st:=by
 have e:=wM (caps:=[]) (n:=1) (fi:=q5 f) (g:=Qe 0) (f:=qH (WO a) (qA (qB 0) qC)) (r:=r) (st:=st) (w:=⟨l,fun _=>True⟩) (F:=fun p => .bl (isInt p)) (wl hf) trivial (WP (by show l.length≤_;omega)) fun p hp=>⟨[some p],rfl,qN (l:=[p]) rfl (qDh (h p hp))⟩
 exact qN (qJ (wb e) qX) YK
theorem wJ {lo hi i:Int}:qq lo hi (.int i)=(decide (lo≤i)&&decide (i≤hi)):=rfl
theorem qDx {f:FE} {r:qv} {st s1:qD} {l:List PV} (h:f r st = .ok (.tup l) s1):vFz (Zd f) r st = .ok (.lst l) s1:=by unfold vFz Zd;rw [h];rfl
theorem qAa {l:List PV} {i:Int} {st:qD} (h0:0≤i) (h1:i < l.length):∃ p,p∈l∧gIx (.lst l) (.int i) st = .ok p st:=by
 have hi:i.toNat < l.length:=by omega
 refine ⟨l[i.toNat],BV hi,Yy rfl ?_⟩;unfold L2.atI;rw [Wd h0 h1];exact AI hi
theorem ZD {l:List PV} {lo hi:Option Int} {p:PV} (h:p∈Wk l lo hi):p∈l:=by unfold Wk at h;exact B9 (CA h)
theorem WN {l:List PV} {lo hi:Option Int}:(Wk l lo hi).length≤l.length:=by unfold Wk;rw [Bf,B7];omega
theorem qEg {l:List PV} {lo hi:Option Int} {s:Int} {p:PV} (h:p∈HT.cutS l lo hi s):p∈l:=by unfold HT.cutS at h;obtain ⟨m,_,e⟩:=Bw.mp h;exact Ar e
theorem qCv:∀ n:Fin 42,Builtin.Slice.slicePlaces (Builtin.Slice.sliceAdjust none none (-1) (n.val:Nat)).1 (Builtin.Slice.sliceAdjust none none (-1) (n.val:Nat)).2 (-1)≤n.val:=by decide +kernel
theorem J6 {l:List PV} (h:l.length≤41):(HT.cutS l none none (-1)).length≤l.length:=by unfold HT.cutS;refine Aa (List.length_filterMap_le _ _) ?_;rw [List.length_range];exact qCv ⟨l.length,by omega⟩
theorem Y3 {f:FE} {lo hi:FO} {r:qv} {st s1 s2 s3:qD} {l:List PV} {p q:Option Int} (h:f r st = .ok (.tup l) s1) (h1:lo r s1 = .ok p s2) (h2:hi r s2 = .ok q s3):Z9 f lo hi r st = .ok (.tup (Wk l p q)) s3:=by unfold Z9;rw [h];show (lo r s1).bind _=_;rw [h1];show (hi r s2).bind _=_;rw [h2];rfl
theorem qIL {f:FE} {r:qv} {st s1:qD} {l:List PV} (h:f r st = .ok (.tup l) s1) (hl:l.length≤41):qBl f wF wF (Q4 (Z0 (vC (.int 1)))) r st = .ok (.tup (HT.cutS l none none (-1))) s1:=by unfold qBl;rw [h];show (if (-1:Int) < 0∧(HT.cutS l none none (-1)).length≤sizeLine then Rs.ok (PV.tup (HT.cutS l none none (-1))) s1 else Rs.no)=_;rw [AF ⟨by decide,Aa (J6 hl) (WP (by omega))⟩]
theorem Za {l m:List PV} {st:qD} (h:l.length + m.length≤1000):Q9 (.tup l) (.tup m) st = .ok (.tup (l++m)) st:=by unfold Q9;exact AF (Aa h (by decide))
theorem zY {l:List PV} (hl:l.length≤59) (h:∀ p∈l,okP p=true):okV (.tup l)=true:=by show (Nat.ble l.length 59&&l.all okP)=true;rw [AV,At];exact ⟨Nat.ble_eq_true_of_le hl,h⟩
theorem zV {P:PV->Prop} {l m:List PV} (h1:∀ p∈l,P p) (h2:∀ p∈m,P p):∀ p∈l++m,P p:=fun p hp=>(Am.mp hp).elim (h1 p) (h2 p)
theorem j9 {P:PV->Prop} {q:PV} (h:P q):∀ p∈[q],P p:=fun p hp=>by rw [Ai.mp hp];exact h
def qAY (W:List PV) (t:Int) (p:PV):List PV:=Wk W none (some t)++[p]++Wk W (some (t + 1)) none
theorem qDc {W:List PV} {t:Int} {p:PV}:(qAY W t p).length≤2 * W.length + 1:=by unfold qAY;have a1:=WN (l:=W) (lo:=none) (hi:=some t);have a2:=WN (l:=W) (lo:=some (t + 1)) (hi:=none);rw [AQ,AQ,As];omega
theorem qEs {P:PV->Prop} {W:List PV} {t:Int} {p:PV} (h1:∀ q∈W,P q) (h2:P p):∀ q∈qAY W t p,P q:=zV (zV (fun q hq=>h1 q (ZD hq)) (j9 h2)) (fun q hq=>h1 q (ZD hq))
theorem qFT {W:List PV} {t:Int} {p:PV} {f g:FE} {h:FE} {r:qv} {st:qD} (hW:W.length≤41) (h1:f r st = .ok (.tup W) st) (h2:g r st = .ok (.int t) st) (h3:h r st = .ok p st):qI Q9 (qI Q9 (Z9 f wF (Q4 g)) (qe (qA h qC))) (Z9 f (Q4 (qI qx g (vC (.int 1)))) wF) r st = .ok (.tup (qAY W t p)) st:=by have a1:=WN (l:=W) (lo:=none) (hi:=some t);have a2:=WN (l:=W) (lo:=some (t + 1)) (hi:=none);exact qQ (qQ (Y3 h1 rfl (zT h2)) (wq (qJ h3 qX) (sz rfl)) (Za (by rw [As];omega))) (Y3 h1 (zT (qQ h2 rfl wA)) rfl) (Za (by rw [AQ,As];omega))
theorem qE9 {l:List PV} {i:Int} {st:qD} {n:Nat} (hs:st[n]? = some (.l l)) (h0:0≤i) (h1:i < l.length):∃ p,p∈l∧gIx (.ref n) (.int i) st = .ok p st:=by
 have hi:i.toNat < l.length:=by omega
 refine ⟨l[i.toNat],BV hi,Yy (yH hs) ?_⟩;unfold L2.atI;rw [Wd h0 h1];exact AI hi
theorem qBG {st j:qD} {b o p:SO}:(st++b::(j++[o])).set (st.length + 1 + j.length) p=st++b::(j++[p]):=by rw [qJZ (by rw [AQ,As];omega),Bl _ _ (AG _),CS];rfl
theorem Wu {st j:qD} {b o:SO}:(st++b::(j++[o]))[st.length + 1 + j.length]? = some o:=qFb (by simp)
theorem qBI {st j:qD} {b:SO}:(st++b::j).length=st.length + 1 + j.length:=by rw [AQ,AH];omega
theorem qEw {st j:qD} {b o:SO}:(st++b::j)++[o]=st++b::(j++[o]):=by rw [A2];rfl
theorem YN {i:Nat} {fl:FL} {r:qv} {S st j:qD} {b:SO} {l:List PV} (h:fl r S = .ok l (st++b::j)):W8 i fl r S = .nx (r.set i (some (.ref (st.length + 1 + j.length)))) (st++b::(j++[.l l])):=by rw [qA1 h,qBI,qEw]
theorem ym {fo f:FE} {r:qv} {st j:qD} {b b':SO} {l:List PV} {p:PV} (h:fo r (st++b::(j++[.l l])) = .ok (.ref (st.length + 1 + j.length)) (st++b::(j++[.l l]))) (h2:f r (st++b::(j++[.l l])) = .ok p (st++b'::(j++[.l l]))) (hl:l.length≤1000):Qa fo f r (st++b::(j++[.l l])) = .nx r (st++b'::(j++[.l (l++[p])])):=by rw [Ye h (qHa Wu) h2 Wu (BY hl (by decide)),qBG]
end K21
end
noncomputable section
namespace K21
open PySem EV EX ET
abbrev Bar:=Int×Int×Int
def bP (b:Bar):PV := .tup [.int b.1,.int b.2.1,.int b.2.2]
def bL (b:Bar):List Int:=[b.1,b.2.1,b.2.2]
def lB:List Int->Bar
 |[x,y,z]=>(x,y,z)
 |_=>(0,0,0)
def unB:PV->Bar
 | .tup [.int x,.int y,.int z]=>(x,y,z)
 |_=>(0,0,0)
def yY (b:Bar) (k:Int):qc:=(b.1 + k * b.2.2,b.2.1 + k - k * b.2.2)
def cov (L:Int) (b:Bar):List qc:=(WA L).map (yY b)
theorem We {L:Int} {b:Bar}:(cov L b).length=L.toNat:=by unfold cov;rw [AC,Wp]
theorem Zp {a:Ad} {b:Bar} {L:Int} {st:qD} (h1:0≤L) (h2:L≤1000):QZ a [bP b,.int L] st = .ok (.lst ((cov L b).map cP)) st:=by
 let G:PV->PV:=fun p=>match p with
  | .int k=>cP (yY b k)
  |_=>p
 have e:=wM (caps:=[2,4,3]) (n:=1) (fi:=WC (qA (qB 1) qC)) (g:=Qe 3) (f:=qe (qA (qI qx (qB 0) (qI zG (qB 3) (qB 1))) (qA (qI Wt (qI qx (qB 2) (qB 3)) (qI zG (qB 3) (qB 1))) qC))) (r:=[some (bP b),some (.int L),some (.int b.1),some (.int b.2.1),some (.int b.2.2)]) (st:=st) (w:=⟨(WA L).map PV.int,fun _=>True⟩) (F:=G) (itN h1 h2 rfl) trivial (by rw [AC,Wp];exact WP (by omega)) fun p hp=>by
  obtain ⟨k,hk,rfl⟩:=AX.mp hp;have hk:=upto_mem.mp hk;have hm:-(2 ^ 64) < k∧k < 2 ^ 64:=by omega
  exact ⟨[some (.int b.1),some (.int b.2.2),some (.int b.2.1),some (.int k)],rfl,wq (qJ (qQ rfl (qQ rfl rfl (YI hm)) wA) (qJ (qQ (qQ rfl rfl wA) (qQ rfl rfl (YI hm)) YL) qX)) (sz rfl)⟩
 have e2:((WA L).map PV.int).map G=(cov L b).map cP:=by unfold cov;rw [A5,A5];rfl
 rw [← e2];exact qu rfl (qU (Zq (r1:=[some (bP b),some (.int L),some (.int b.1),some (.int b.2.1),some (.int b.2.2)]) rfl rfl) (QD (wb e)))
theorem Y9 {a:Ad} {b:Bar} {L:Int} {st:qD} (h1:0≤L) (h2:L≤1000) (hw:b.2.2=0∨b.2.2=1):wE a [bP b,.int L] st = .ok (.tup ((cov L b).map cP)) st:=by
 have hl:((WA L).map PV.int).length≤sizeLine:=by rw [AC,Wp];exact WP (by omega)
 rcases hw with hw |hw
 ·let G:PV->PV:=fun p=>match p with
   | .int k => .tup [.int b.1,.int (b.2.1 + k)]
   |_=>p
  have e:=wM (caps:=[2,3]) (n:=1) (fi:=WC (qA (qB 1) qC)) (g:=Qe 2) (f:=qe (qA (qB 0) (qA (qI qx (qB 1) (qB 2)) qC))) (r:=[some (bP b),some (.int L),some (.int b.1),some (.int b.2.1),some (.int b.2.2)]) (st:=st) (w:=⟨(WA L).map PV.int,fun _=>True⟩) (F:=G) (itN h1 h2 rfl) trivial hl fun p hp=>by obtain ⟨k,hk,rfl⟩:=AX.mp hp;exact ⟨[some (.int b.1),some (.int b.2.1),some (.int k)],rfl,wq (qJ rfl (qJ (qQ rfl rfl wA) qX)) (sz rfl)⟩
  have e2:((WA L).map PV.int).map G=(cov L b).map cP:=by unfold cov;rw [A5,A5];refine A4 fun k _ => ?_;show PV.tup [.int b.1,.int (b.2.1 + k)] = .tup [.int (b.1 + k * b.2.2),.int (b.2.1 + k - k * b.2.2)];rw [hw,Int.mul_zero,Int.add_zero,Int.sub_zero]
  rw [← e2];exact qu rfl (qU (Zq (r1:=[some (bP b),some (.int L),some (.int b.1),some (.int b.2.1),some (.int b.2.2)]) rfl rfl) (q9 (QU (wf (qQ rfl rfl (by rw [ZM,hw];rfl))) (QD (qN (qJ (wb e) qX) (zX rfl))))))
 ·let G:PV->PV:=fun p=>match p with
   | .int k => .tup [.int (b.1 + k),.int b.2.1]
   |_=>p
  have e:=wM (caps:=[3,2]) (n:=1) (fi:=WC (qA (qB 1) qC)) (g:=Qe 2) (f:=qe (qA (qI qx (qB 1) (qB 2)) (qA (qB 0) qC))) (r:=[some (bP b),some (.int L),some (.int b.1),some (.int b.2.1),some (.int b.2.2)]) (st:=st) (w:=⟨(WA L).map PV.int,fun _=>True⟩) (F:=G) (itN h1 h2 rfl) trivial hl fun p hp=>by obtain ⟨k,hk,rfl⟩:=AX.mp hp;exact ⟨[some (.int b.2.1),some (.int b.1),some (.int k)],rfl,wq (qJ (qQ rfl rfl wA) (qJ rfl qX)) (sz rfl)⟩
  have e2:((WA L).map PV.int).map G=(cov L b).map cP:=by unfold cov;rw [A5,A5];refine A4 fun k _ => ?_;show PV.tup [.int (b.1 + k),.int b.2.1] = .tup [.int (b.1 + k * b.2.2),.int (b.2.1 + k - k * b.2.2)];rw [hw,Int.mul_one,Int.add_sub_cancel]
  rw [← e2];exact qu rfl (qU (Zq (r1:=[some (bP b),some (.int L),some (.int b.1),some (.int b.2.1),some (.int b.2.2)]) rfl rfl) (qU (Qf (wf (qQ rfl rfl (by rw [ZM,hw];rfl))) rfl) (QD (qN (qJ (wb e) qX) (zX rfl)))))
theorem qCp:∀ l:List Bar,Qr ZZ (l.map bP)=some (l.map bL)
 |[]=>rfl
 |c::l=>by rw [Aj,Qr,show ZZ (bP c)=some (bL c) from rfl];dsimp only;rw [qCp l];rfl
theorem qDb {l:List Bar} {q:PV} {st:qD} (h:zF st q=some (l.map bP)) (hl:l.length≤63):∃ m:List Bar,m=(srt (l.map bL)).map lB∧m.length=l.length∧(∀ b∈m,b∈l)∧Zb q st = .ok (.lst (m.map bP)) st:=by
 have hp:=WV (l.map bL);have hb:∀ x∈srt (l.map bL),∃ b∈l,bL b=x:=fun x hx=>AX.mp (hp.mem_iff.mp hx);refine ⟨(srt (l.map bL)).map lB,rfl,by rw [AC,hp.length_eq,AC],fun b hm => ?_,?_⟩
 ·obtain ⟨x,hx,rfl⟩:=AX.mp hm;obtain ⟨c,hc,rfl⟩:=hb x hx;exact hc
 ·unfold Zb;rw [h];dsimp only;rw [qCp];dsimp only;rw [AF (by rw [AC];omega),A5]
  congr 2;refine A4 fun x hx => ?_;obtain ⟨c,hc,rfl⟩:=hb x hx;rfl
theorem qD0 {num:Nat->Int} {bt:Nat->Nat->Bool} {n:Nat} (h1:∀ i j,i≤n->j≤n->num i > num j->bt i j=true) (h2:∀ i j,i≤n->j≤n->bt i j=true->num j≤num i):∀ k,k≤n -> ∀ j,j≤k->num j≤num (argBest bt k)
 |0,_,j,h=>by rw [Nat.le_zero.mp h];exact Int.le_refl _
 |k + 1,hn,j,h=>by
  have ih:=qD0 h1 h2 k (by omega)
  have hb:argBest bt k≤n:=Aa (yj bt k) (by omega)
  unfold argBest;cases q:bt (k + 1) (argBest bt k) with
  |true =>
   rw [AF rfl];rcases Nat.lt_or_ge j (k + 1) with z |z
   ·exact Int.le_trans (ih j (by omega)) (h2 _ _ hn hb q)
   ·rw [show j=k + 1 by omega];exact Int.le_refl _
  |false =>
   rw [AK (by simp)]
   rcases Nat.lt_or_ge j (k + 1) with z |z
   ·exact ih j (by omega)
   ·rw [show j=k + 1 by omega]
    rcases Int.lt_or_le (num (argBest bt k)) (num (k + 1)) with y |y
    ·rw [h1 _ _ hn hb y] at q;cases q
    ·exact y
theorem qGi {c d:qc}:(c.1 > d.1->gtL (cL c) (cL d)=true)∧(gtL (cL c) (cL d)=true->d.1≤c.1):=by
 show (c.1 > d.1->(if c.1=d.1 then _ else decide (c.1 > d.1))=true)∧((if c.1=d.1 then _ else decide (c.1 > d.1))=true->d.1≤c.1);by_cases q:c.1=d.1
 ·exact ⟨fun h=>by omega,fun _=>by omega⟩
 ·rw [AK q];exact ⟨fun h=>AR h,fun h=>by have:=BO h;omega⟩
theorem qJA {C:List qc} {st:qD} (h:C≠[]):∃ c:qc,(∀ d∈C,d.1≤c.1)∧yx [.lst (C.map cP)] st = .ok (cP c) st:=by
 cases C with
 |nil=>exact absurd rfl h
 |cons c0 C =>
  have hD:∀ i,i≤C.length->((c0::C).map cL).getD i []=cL ((c0::C).getD i (0,0)):=fun i hi=>by
   have hi:i < (c0::C).length:=by rw [AH];omega
   rw [Ab,Ab,Au,AI hi];rfl
  have hl:((c0::C).map cL).length - 1=C.length:=by rw [AC,AH];rfl
  have hb:Zu ((c0::C).map cL)≤C.length:=by unfold Zu;rw [hl];exact yj _ _
  refine ⟨(c0::C).getD (Zu ((c0::C).map cL)) (0,0),fun d hd => ?_,?_⟩
  ·obtain ⟨j,hj,rfl⟩:=List.mem_iff_getElem.mp hd;have hj':j≤C.length:=by rw [AH] at hj;omega
   have key:=qD0 (num:=fun i=>((c0::C).getD i (0,0)).1) (bt:=fun i j=>gtL (((c0::C).map cL).getD i []) (((c0::C).map cL).getD j [])) (n:=C.length) (fun i j hi hj h=>by
    show gtL _ _=true;rw [hD i hi,hD j hj];exact qGi.1 h) (fun i j hi hj h=>by
    have h:gtL _ _=true:=h;rw [hD i hi,hD j hj] at h;exact qGi.2 h) C.length (AG _) j hj'
   have e:((c0::C).getD j (0,0))=(c0::C)[j]:=by rw [Ab,AI hj];rfl
   rw [← e];unfold Zu;rw [hl];exact key
  ·unfold yx;simp only [asL];rw [JL];show Rs.ok (yU (((c0::C).map cL).getD (Zu ((c0::C).map cL)) [])) st=_;rw [hD _ hb];rfl
theorem qKB {c:qc} {st:qD}:∃ b:Bool,qCB (cP c) (.tup [.int 7,.int 7]) st = .ok (.bl b) st∧(b=true->c.1≤7):=by
 refine ⟨leL (cL c) [7,7],rfl,fun h => ?_⟩;have h:(if c.1=7 then _ else decide (c.1≤7))=true:=h;by_cases q:c.1=7
 ·omega
 ·rw [AK q] at h;exact BO h
theorem qE1 {ns:List Int} {st:qD} (h:ns≠[]):∃ m:Int,(∀ x∈ns,x≤m)∧YH [.lst (ns.map PV.int)] st = .ok (.int m) st:=by
 cases hm:ns.max? with
 |none=>exact absurd (List.max?_eq_none_iff.mp hm) h
 |some m =>refine ⟨m,(List.max?_eq_some_iff.mp hm).2,?_⟩;unfold YH;simp only [asL,jM,hm]
theorem qD6 {t u:FT} {r:qv} {st s1:qD} {b c:Bool} (h:t r st = .ok b s1) (h2:b=true->u r s1 = .ok c s1):WS t u r st = .ok (b&&c) s1:=by
 cases b with
 |true=>exact ya h (h2 rfl)
 |false=>exact JA h
def OKB (b:Bar):Prop:=0≤b.1∧b.1≤7∧0≤b.2.1∧b.2.1≤7∧(b.2.2=0∨b.2.2=1)
theorem JS:∀ l:List Bar,nrs (l.map bP)=true
 |[]=>rfl
 |c::l=>by rw [Aj,nrs,JS l];rfl
theorem YQ:∀ l:List Bar,deps (l.map bP)≤1
 |[]=>A3 _
 |c::l=>by
  rw [Aj,deps]
  have:=YQ l
  have h:dep (bP c)=1:=rfl;omega
theorem jd {st:qD} {i:Nat} {l:List PV} (h:st[i]? = some (.l l)):res st (.ref i) = .lst l:=by unfold res;simp only [asL,h]
theorem qEL {l:List Bar} {p:PV} {st:qD} (h:res st p = .lst (l.map bP)):gNe p (.lst []) st = .ok (.bl (!l.isEmpty)) st:=by
 have h1:ZN (.lst (l.map bP)) (.lst [])=true:=by show (nrs (l.map bP)&&true&&decide (deps (l.map bP) + 1≤ZG))=true;rw [JS,AR (Aa (CG (YQ l)) (by decide))];rfl
 unfold gNe;rw [h];show (if ZN (.lst (l.map bP)) (.lst [])=true then Rs.ok (PV.bl (!peq (PV.lst (l.map bP)) (PV.lst []))) st else Rs.no)=_;rw [AF h1];cases l <;> rfl
theorem qIX {L:Int} {b:Bar} (hL:L≤5) (h:OKB b):∀ c∈cov L b,0≤c.1∧0≤c.2∧c.1≤11∧c.2≤11:=fun c hc=>by
 obtain ⟨k,hk,rfl⟩:=AX.mp hc;have hk:=upto_mem.mp hk;unfold OKB at h;unfold yY;rcases h.2.2.2.2 with w |w
 ·rw [w,Int.mul_zero];dsimp only;omega
 ·rw [w,Int.mul_one];dsimp only;omega
def layT:FT:=(WS (vTB (qI qCB (qH yx (qA (qB 10) qC)) (qe (qA (vC (.int 7)) (qA (vC (.int 7)) qC))))) (WS (vTB (qI gLt (qH YH (qA (vFz (QN [] 1 (q5 (qB 10)) (Qe 0) [] [] (qI gIx (qB 0) (vC (.int 1))))) qC)) (vC (.int 8)))) (vTB (qI gEq (vFz (QN [3] 1 (q5 (qB 10)) (Qe 1) [(vTB (qI (gIn false) (qB 1) (qB 0)))] [] (qB 1))) (vFz (QP qC))))))
theorem qEt {r:qv} {st:qD} {L:Int} {b:Bar} {cells:List qc} (hL1:2≤L) (hL2:L≤5) (hb:OKB b) (r3:r[3]? = some (some (.lst (cells.map cP)))) (r10:r[10]? = some (some (.lst ((cov L b).map cP)))):∃ k:Bool,layT r st = .ok k st∧(k=true -> ∀ c∈cov L b,In8 c∧c ∉ cells):=by
 have hne:cov L b≠[]:=fun z=>by have:=We (L:=L) (b:=b);rw [z] at this;have h0:([]:List qc).length=0:=rfl;omega
 have hlen:((cov L b).map cP).length≤sizeLine:=by rw [AC,We];exact WP (by omega)
 obtain ⟨m,hm1,hm2⟩:=qJA (st:=st) hne;obtain ⟨k1,e1,e1'⟩:=qKB (c:=m) (st:=st);have hne2:(cov L b).map (·.2)≠[]:=fun z=>hne (List.map_eq_nil_iff.mp z);obtain ⟨n,hn1,hn2⟩:=qE1 (st:=st) hne2;have f1:vTB (qI qCB (qH yx (qA (qB 10) qC)) (qe (qA (vC (.int 7)) (qA (vC (.int 7)) qC)))) r st = .ok k1 st:=wf (qQ (qN (qJ (qDp r10) qX) hm2) rfl e1);have f2:vTB (qI gLt (qH YH (qA (vFz (QN [] 1 (q5 (qB 10)) (Qe 0) [] [] (qI gIx (qB 0) (vC (.int 1))))) qC)) (vC (.int 8))) r st = .ok (decide (n < 8)) st:=by
  have e:=wM (caps:=[]) (n:=1) (fi:=q5 (qB 10)) (g:=Qe 0) (f:=qI gIx (qB 0) (vC (.int 1))) (r:=r) (st:=st) (w:=⟨(cov L b).map cP,fun _=>True⟩) (F:=fun p => .int (unC p).2) (wI (qDp r10)) trivial hlen fun p hp=>by obtain ⟨c,_,rfl⟩:=AX.mp hp;exact ⟨[some (cP c)],rfl,rfl⟩
  have e2:((cov L b).map cP).map (fun p=>PV.int (unC p).2)=((cov L b).map (·.2)).map PV.int:=by rw [A5,A5];rfl
  have e3:=wb e;rw [e2] at e3;exact wf (qQ (qN (qJ e3 qX) hn2) rfl w_lt)
 have hc3:zt [3] 1 r=[some (.lst (cells.map cP)),none]:=by unfold zt;show [(r[3]?).join]++_=_;rw [r3];rfl
 have f3:vTB (qI gEq (vFz (QN [3] 1 (q5 (qB 10)) (Qe 1) [(vTB (qI (gIn false) (qB 1) (qB 0)))] [] (qB 1))) (vFz (QP qC))) r st = .ok ((cov L b).filter fun c=>decide (c∈cells)).isEmpty st:=by
  refine wf (qQ (wb ?_) rfl eq_nil);rw [Wa (w:=⟨(cov L b).map cP,fun _=>True⟩) (c:=fun p=>decide (unC p∈cells)) (wI (qDp r10)) trivial hlen fun p hp => ?_]
  ·rw [Zf (d:=fun c=>decide (c∈cells)) fun x _=>rfl]
  ·obtain ⟨c,_,rfl⟩:=AX.mp hp;exact ⟨[some (.lst (cells.map cP)),some (cP c)],by rw [hc3];rfl,wf (qQ rfl rfl (qEe rfl)),rfl⟩
 refine ⟨_,qD6 f1 fun _=>qD6 f2 fun _=>f3,fun h c hc => ?_⟩;rw [AV,AV] at h;have a1:=e1' h.1;have a2:=hm1 c hc;have a3:=BO h.2.1;have a4:=hn1 c.2 (AX.mpr ⟨c,hc,rfl⟩);have a5:=qIX hL2 hb c hc;refine ⟨by unfold In8;omega,fun hm => ?_⟩
 have a6:=List.isEmpty_iff.mp h.2.2;exact (List.filter_eq_nil_iff.mp a6 c hc) (AR hm)
def Zs (a:Ad):FS:=(qP (qY 8 (qe (qA (qH (qS a) (qA (qB 0) (qA (qB 5) qC))) (qA (qH (qS a) (qA (qB 0) (qA (qB 6) qC))) (qA (qH (qS a) (qA (qB 0) (qA (vC (.int 2)) qC))) qC))))) (qP (Qc (WS (vTB (qI gNe (qB 4) (vFz (QP qC)))) (vTB (qI gEq (qH (qS a) (qA (qB 0) (qA (vC (.int 2)) qC))) (vC (.int 0))))) (qP (qY 9 (qI gIx (qB 4) (Z0 (vC (.int 1))))) (qY 8 (qe (qA (qH yo (qA (vC (.int 7)) (qA (qI Wt (qI qx (qI gIx (qB 9) (vC (.int 0))) (vC (.int 1))) (qI gIx (qB 9) (vC (.int 2)))) qC))) (qA (qH yo (qA (vC (.int 7)) (qA (qI qx (qI gIx (qB 9) (vC (.int 1))) (qI gIx (qB 9) (vC (.int 2)))) qC))) (qA (qI gIx (qB 9) (vC (.int 2))) qC)))))) QL) (qP (qY 10 (qH (QZ a) (qA (qB 8) (qA (qB 1) qC)))) (Qc layT (qP (Qa (qB 4) (qB 8)) (qY 3 (vFz (ZO (qB 3) (qB 10))))) QL))))
theorem Wz {r:qv} {S1 S2 S3 S4:qD} {f g h:FE} {x y z:Int} (h1:f r S1 = .ok (.int x) S2) (h2:g r S2 = .ok (.int y) S3) (h3:h r S3 = .ok (.int z) S4):qe (qA f (qA g (qA h qC))) r S1 = .ok (bP (x,y,z)) S4 :=
 wq (qJ h1 (qJ h2 (qJ h3 qX))) (sz rfl)
theorem qCY {a:Ad} {st j:qD} {x L hi wd:Int} {bars:List Bar} {cells:List qc} {x2 x7 x8 x9 x10:Option PV} (hL1:2≤L) (hL2:L≤5) (hh:0 < hi∧hi≤8) (hw:0 < wd∧wd≤8) (hb:∀ b∈bars,OKB b) (hc:∀ c∈cells,In8 c) (hbl:bars.length≤900) (hcl:cells.length≤900) :
  ∃ (y:Int) (bars':List Bar) (cells':List qc) (y8 y9 y10:Option PV),(∀ b∈bars',OKB b)∧(∀ c∈cells',In8 c)∧bars'.length≤bars.length + 1∧cells'.length≤cells.length + L.toNat∧((bars'=bars∧cells'=cells) ∨ ∃ b,OKB b∧bars'=bars++[b]∧cells'=cells++cov L b ∧ ∀ c∈cov L b,In8 c∧c ∉ cells) ∧
   Zs a [some (.ref st.length),some (.int L),x2,some (.lst (cells.map cP)),some (.ref (st.length + 1 + j.length)),some (.int hi),some (.int wd),x7,x8,x9,x10] (st ++ .l [.int x]::(j++[.l (bars.map bP)])) = .nx [some (.ref st.length),some (.int L),x2,some (.lst (cells'.map cP)),some (.ref (st.length + 1 + j.length)),some (.int hi),some (.int wd),x7,y8,y9,y10] (st ++ .l [.int y]::(j++[.l (bars'.map bP)])):=by
 have t1:=QQ (a:=a) (st:=st) (j:=j++[.l (bars.map bP)]) (x:=x) (m:=hi) ⟨hh.1,by omega⟩
 have t2:=QQ (a:=a) (st:=st) (j:=j++[.l (bars.map bP)]) (x:=x / hi) (m:=wd) ⟨hw.1,by omega⟩
 have t3:=QQ (a:=a) (st:=st) (j:=j++[.l (bars.map bP)]) (x:=x / hi / wd) (m:=2) ⟨by decide,by decide⟩
 have t4:=QQ (a:=a) (st:=st) (j:=j++[.l (bars.map bP)]) (x:=x / hi / wd / 2) (m:=2) ⟨by decide,by decide⟩
 have i1:=Q3 (x:=x) (m:=hi) hh.1;have i2:=Q3 (x:=x / hi) (m:=wd) hw.1;have i3:=Q3 (x:=x / hi / wd) (m:=2) (by decide)
 generalize x % hi=r at t1 i1;generalize x / hi % wd=c at t2 i2;generalize x / hi / wd % 2=w at t3 i3;generalize x / hi / wd / 2=x3 at t3 t4;have ob:OKB (r,c,w):=⟨i1.1,by show r≤7;omega,i2.1,by show c≤7;omega,by show w=0∨w=1;omega⟩
 have hg:∀ X:Int,(st++SO.l [.int X]::(j++[.l (bars.map bP)]))[st.length + 1 + j.length]? = some (.l (bars.map bP)):=fun X=>Wu
 -- the bar
 obtain ⟨b,y,y9,hbo,e2⟩:∃ (b:Bar) (y:Int) (y9:Option PV),OKB b∧(Qc (WS (vTB (qI gNe (qB 4) (vFz (QP qC)))) (vTB (qI gEq (qH (qS a) (qA (qB 0) (qA (vC (.int 2)) qC))) (vC (.int 0))))) (qP (qY 9 (qI gIx (qB 4) (Z0 (vC (.int 1))))) (qY 8 (qe (qA (qH yo (qA (vC (.int 7)) (qA (qI Wt (qI qx (qI gIx (qB 9) (vC (.int 0))) (vC (.int 1))) (qI gIx (qB 9) (vC (.int 2)))) qC))) (qA (qH yo (qA (vC (.int 7)) (qA (qI qx (qI gIx (qB 9) (vC (.int 1))) (qI gIx (qB 9) (vC (.int 2)))) qC))) (qA (qI gIx (qB 9) (vC (.int 2))) qC)))))) QL) [some (.ref st.length),some (.int L),x2,some (.lst (cells.map cP)),some (.ref (st.length + 1 + j.length)),some (.int hi),some (.int wd),x7,some (bP (r,c,w)),x9,x10] (st ++ .l [.int x3]::(j++[.l (bars.map bP)])) = .nx [some (.ref st.length),some (.int L),x2,some (.lst (cells.map cP)),some (.ref (st.length + 1 + j.length)),some (.int hi),some (.int wd),x7,some (bP b),y9,x10] (st ++ .l [.int y]::(j++[.l (bars.map bP)])):=by
  have q0:vTB (qI gNe (qB 4) (vFz (QP qC))) [some (.ref st.length),some (.int L),x2,some (.lst (cells.map cP)),some (.ref (st.length + 1 + j.length)),some (.int hi),some (.int wd),x7,some (bP (r,c,w)),x9,x10] (st ++ .l [.int x3]::(j++[.l (bars.map bP)])) = .ok (!bars.isEmpty) (st ++ .l [.int x3]::(j++[.l (bars.map bP)])):=wf (qQ rfl rfl (qEL (jd (hg x3))));cases hbe:bars with
  |nil =>rw [hbe] at q0;exact ⟨(r,c,w),x3,x9,ob,Qf (JA q0) rfl⟩
  |cons b0 bs =>
   have q0:_=Rs.ok true (st ++ .l [.int x3]::(j++[.l (bars.map bP)])):=q0.trans (by rw [hbe];rfl)
   rw [← hbe];have q1:vTB (qI gEq (qH (qS a) (qA (qB 0) (qA (vC (.int 2)) qC))) (vC (.int 0))) [some (.ref st.length),some (.int L),x2,some (.lst (cells.map cP)),some (.ref (st.length + 1 + j.length)),some (.int hi),some (.int wd),x7,some (bP (r,c,w)),x9,x10] (st ++ .l [.int x3]::(j++[.l (bars.map bP)])) = .ok (x3 % 2==0) (st ++ .l [.int (x3 / 2)]::(j++[.l (bars.map bP)])):=wf (qQ (qN (l:=[.ref st.length,.int 2]) rfl t4) rfl ZM);cases hz:(x3 % 2==0) with
   |false=>rw [hz] at q1;exact ⟨(r,c,w),x3 / 2,x9,ob,Qf (ya q0 q1) rfl⟩
   |true =>
    rw [hz] at q1;have hl:bars.length - 1 < bars.length:=by rw [hbe,AH];omega
    let d:=bars[bars.length - 1];have od:OKB d:=hb d (BV hl);have eix:gIx (.ref (st.length + 1 + j.length)) (.int (-1)) (st ++ .l [.int (x3 / 2)]::(j++[.l (bars.map bP)])) = .ok (bP d) (st ++ .l [.int (x3 / 2)]::(j++[.l (bars.map bP)])):=by
     refine Yy (yH (hg _)) ?_;unfold L2.atI L2.ixN;rw [AC,AK (by decide),AF (by omega)]
     show (bars.map bP)[((bars.length:Int) + -1).toNat]? = _;rw [show ((bars.length:Int) + -1).toNat=bars.length - 1 by omega,Au,AI hl]
     rfl
    obtain ⟨d1,d2,d3⟩:=d;unfold OKB at od;dsimp only at od;refine ⟨((if d1 + 1 - d3 < 7 then d1 + 1 - d3 else 7),(if d2 + d3 < 7 then d2 + d3 else 7),d3),x3 / 2,some (bP (d1,d2,d3)),⟨?_,?_,?_,?_,od.2.2.2.2⟩,?_⟩
    ·dsimp only;split <;> omega
    ·dsimp only;split <;> omega
    ·dsimp only;split <;> omega
    ·dsimp only;split <;> omega
    ·exact QU (ya q0 q1) (qU (QB (qQ rfl rfl eix)) (QB (Wz (qN (l:=[.int 7,.int (d1 + 1 - d3)]) rfl rfl) (qN (l:=[.int 7,.int (d2 + d3)]) rfl rfl) rfl)))
 obtain ⟨k,ek,hk⟩:=qEt (r:=[some (.ref st.length),some (.int L),x2,some (.lst (cells.map cP)),some (.ref (st.length + 1 + j.length)),some (.int hi),some (.int wd),x7,some (bP b),y9,some (.lst ((cov L b).map cP))]) (st:=st ++ .l [.int y]::(j++[.l (bars.map bP)])) (cells:=cells) hL1 hL2 hbo rfl rfl;have pre:∀ {o:RS},(Qc layT (qP (Qa (qB 4) (qB 8)) (qY 3 (vFz (ZO (qB 3) (qB 10))))) QL) [some (.ref st.length),some (.int L),x2,some (.lst (cells.map cP)),some (.ref (st.length + 1 + j.length)),some (.int hi),some (.int wd),x7,some (bP b),y9,some (.lst ((cov L b).map cP))] (st ++ .l [.int y]::(j++[.l (bars.map bP)]))=o ->
   Zs a [some (.ref st.length),some (.int L),x2,some (.lst (cells.map cP)),some (.ref (st.length + 1 + j.length)),some (.int hi),some (.int wd),x7,x8,x9,x10] (st ++ .l [.int x]::(j++[.l (bars.map bP)]))=o:=fun {o} h=>by unfold Zs;refine qU (QB (Wz (qN (l:=[.ref st.length,.int hi]) rfl t1) (qN (l:=[.ref st.length,.int wd]) rfl t2) (qN (l:=[.ref st.length,.int 2]) rfl t3))) ?_;refine qU e2 ?_;exact qU (QB (qN (l:=[bP b,.int L]) rfl (Zp (by omega) (by omega)))) h
 cases k with
 |false=>exact ⟨y,bars,cells,some (bP b),y9,some (.lst ((cov L b).map cP)),hb,hc,by omega,by omega,.inl ⟨rfl,rfl⟩,pre (Qf ek rfl)⟩
 |true =>
  refine ⟨y,bars++[b],cells++cov L b,some (bP b),y9,some (.lst ((cov L b).map cP)),fun d hd => ?_,fun d hd => ?_,by rw [AQ];exact AG _,by rw [AQ,We];omega,.inr ⟨b,hbo,rfl,rfl,hk rfl⟩,pre ?_⟩
  ·rcases Am.mp hd with z |z
   ·exact hb d z
   ·rw [Ai.mp z];exact hbo
  ·rcases Am.mp hd with z |z
   ·exact hc d z
   ·exact (hk rfl d z).1
  ·have ea:=ym (fo:=qB 4) (f:=qB 8) (r:=[some (.ref st.length),some (.int L),x2,some (.lst (cells.map cP)),some (.ref (st.length + 1 + j.length)),some (.int hi),some (.int wd),x7,some (bP b),y9,some (.lst ((cov L b).map cP))]) (st:=st) (j:=j) (b := .l [.int y]) (b' := .l [.int y]) (l:=bars.map bP) (p:=bP b) rfl rfl (by rw [AC];omega)
   rw [show bars.map bP++[bP b]=(bars++[b]).map bP by rw [A9];rfl] at ea
   rw [show (cells++cov L b).map cP=cells.map cP++(cov L b).map cP from A9];exact QU ek (qU ea (QB (wb (YZ rfl rfl rfl rfl (by rw [AC,AC,We];exact WP (by omega))))))
def qAT (L:Int) (bars:List Bar) (cells:List qc):Prop:=cells=bars.flatMap (cov L)∧cells.Nodup∧bars.Nodup∧(∀ b∈bars,OKB b) ∧ ∀ c∈cells,In8 c
theorem qAW {L:Int}:(WA L).Nodup:=by unfold WA;refine List.Pairwise.map _ (fun a b h z=>h ?_) (List.nodup_range (n:=L.toNat));exact Int.ofNat.inj z
theorem qCa {L:Int} {b:Bar} (h:OKB b):(cov L b).Nodup:=by
 unfold cov;refine List.Pairwise.map _ (fun i j hij z=>hij ?_) qAW;unfold yY at z;injection z with z1 z2;rcases h.2.2.2.2 with w |w
 ·rw [w] at z2;omega
 ·rw [w] at z1;omega
theorem jQ {L:Int} {b:Bar} (hL:2≤L):yY b 0∈cov L b:=AX.mpr ⟨0,upto_mem.mpr ⟨by decide,by omega⟩,rfl⟩
theorem qCX {L:Int} {bars:List Bar} {cells:List qc} {b:Bar} (hL:2≤L) (I:qAT L bars cells) (hb:OKB b) (hc:∀ c∈cov L b,In8 c∧c ∉ cells):qAT L (bars++[b]) (cells++cov L b):=by
 obtain ⟨h1,h2,h3,h4,h5⟩:=I;refine ⟨by rw [h1,List.flatMap_append,List.flatMap_singleton],?_,?_,fun d hd => ?_,fun d hd => ?_⟩
 ·refine List.nodup_append.mpr ⟨h2,qCa hb,fun x hx y hy z => ?_⟩;subst z;exact (hc x hy).2 hx
 ·refine List.nodup_append.mpr ⟨h3,BE.mpr ⟨Ah,CT⟩,fun x hx y hy z => ?_⟩;rw [Ai.mp hy] at z;subst z;refine (hc _ (jQ hL)).2 ?_;rw [h1];exact List.mem_flatMap.mpr ⟨x,hx,jQ hL⟩
 ·rcases Am.mp hd with z |z
  ·exact h4 d z
  ·rw [Ai.mp z];exact hb
 ·rcases Am.mp hd with z |z
  ·exact h5 d z
  ·exact (hc d z).1
theorem jJ {a:Ad} {st j:qD} {L hi wd:Int} {x2:Option PV} (hL1:2≤L) (hL2:L≤5) (hh:0 < hi∧hi≤8) (hw:0 < wd∧wd≤8):∀ (ks:List PV) (x:Int) (bars:List Bar) (cells:List qc) (x7 x8 x9 x10:Option PV),qAT L bars cells->bars.length + ks.length≤100->cells.length + L.toNat * ks.length≤500 ->
  ∃ (y:Int) (bars':List Bar) (cells':List qc) (y7 y8 y9 y10:Option PV),qAT L bars' cells'∧bars'.length≤bars.length + ks.length∧cells'.length≤cells.length + L.toNat * ks.length ∧
   Qt (fun _=>True) (qr 7) (Zs a) ks [some (.ref st.length),some (.int L),x2,some (.lst (cells.map cP)),some (.ref (st.length + 1 + j.length)),some (.int hi),some (.int wd),x7,x8,x9,x10] (st ++ .l [.int x]::(j++[.l (bars.map bP)])) = .nx [some (.ref st.length),some (.int L),x2,some (.lst (cells'.map cP)),some (.ref (st.length + 1 + j.length)),some (.int hi),some (.int wd),y7,y8,y9,y10] (st ++ .l [.int y]::(j++[.l (bars'.map bP)]))
 |[],x,bars,cells,x7,x8,x9,x10,hI,_,_=>⟨x,bars,cells,x7,x8,x9,x10,hI,AG _,AG _,Qx trivial⟩
 |k::ks,x,bars,cells,x7,x8,x9,x10,hI,n1,n2=>by
  rw [AH] at n1 n2;rw [Nat.mul_succ] at n2;obtain ⟨y,bs,cs,y8,y9,y10,b1,c1,l1,l2,hor,e⟩:=qCY (a:=a) (st:=st) (j:=j) (x:=x) (L:=L) (hi:=hi) (wd:=wd) (bars:=bars) (cells:=cells) (x2:=x2) (x7:=some k) (x8:=x8) (x9:=x9) (x10:=x10) hL1 hL2 hh hw hI.2.2.2.1 hI.2.2.2.2 (by omega) (by omega)
  have hI':qAT L bs cs:=by
   rcases hor with ⟨e1,e2⟩ |⟨b,hb,e1,e2,hc⟩
   ·rw [e1,e2];exact hI
   ·rw [e1,e2];exact qCX hL1 hI hb hc
  obtain ⟨z,bs',cs',z7,z8,z9,z10,b2,m1,m2,e2⟩:=jJ hL1 hL2 hh hw ks y bs cs (some k) y8 y9 y10 hI' (by omega) (by omega)
  refine ⟨z,bs',cs',z7,z8,z9,z10,b2,by rw [AH];omega,by rw [AH,Nat.mul_succ];omega,WW trivial rfl e e2⟩
def wV (l:List Bar):List Bar:=(srt (l.map bL)).map lB
theorem yg {a:Ad} {st j:qD} {x L T:Int} (hL1:2≤L) (hL2:L≤5) (hT1:1≤T) (hT2:L * T≤60):∃ (bars:List Bar) (cells:List qc) (y:Int) (g:qD),qAT L bars cells∧(cells.length:Int)≤L * T∧(bars.length:Int)≤T∧WD a [.ref st.length,.int L,.int T] (st ++ .l [.int x]::j) = .ok (.tup [.tup ((w9 cells).map cP),.tup ((wV bars).map bP)]) (st ++ .l [.int y]::(j++g)):=by
 have hT3:T≤30:=by
  rcases Int.lt_or_le 30 T with z |z
  ·have h1:2 * 31≤L * T:=Int.mul_le_mul hL1 (by omega) (by decide) (by omega)
   omega
  ·exact z
 have hLT:0≤L * T:=Int.mul_nonneg (by omega) (by omega)
 have t1:=QQ (a:=a) (st:=st) (j:=j++[.l []]) (x:=x) (m:=9 - L) ⟨by omega,by omega⟩
 have t2:=QQ (a:=a) (st:=st) (j:=j++[.l []]) (x:=x / (9 - L)) (m:=9 - L) ⟨by omega,by omega⟩
 have t3:=QQ (a:=a) (st:=st) (j:=j++[.l []]) (x:=x / (9 - L) / (9 - L)) (m:=T) ⟨by omega,by omega⟩
 have i1:=Q3 (x:=x) (m:=9 - L) (by omega)
 have i2:=Q3 (x:=x / (9 - L)) (m:=9 - L) (by omega)
 have i3:=Q3 (x:=x / (9 - L) / (9 - L)) (m:=T) (by omega)
 generalize x % (9 - L)=h1 at t1 i1;generalize x / (9 - L) % (9 - L)=w1 at t2 i2;generalize x / (9 - L) / (9 - L) % T=n1 at t3 i3;generalize x / (9 - L) / (9 - L) / T=x3 at t3;have hks:((WA (1 + n1)).map PV.int).length=(1 + n1).toNat:=by rw [AC,Wp]
 have hLn:L.toNat * (1 + n1).toNat≤(L * T).toNat:=by
  have:L * (1 + n1)≤L * T:=Int.mul_le_mul_of_nonneg_left (by omega) (by omega)
  have e:(L.toNat * (1 + n1).toNat:Int)=L * (1 + n1):=by rw [CL (by omega),CL (by omega)]
  omega
 obtain ⟨y,bars,cells,y7,y8,y9,y10,hI,l1,l2,e⟩:=jJ (a:=a) (st:=st) (j:=j) (L:=L) (hi:=L + h1) (wd:=L + w1) (x2:=some (.int T)) hL1 hL2 (by omega) (by omega) ((WA (1 + n1)).map PV.int) x3 [] [] none none none none ⟨rfl,CT,CT,fun b h=>(by cases h),fun c h=>(by cases h)⟩ (by rw [hks];show 0 + _≤100;omega) (by rw [hks];show 0 + _≤500;omega)
 rw [hks] at l1 l2;have l1:bars.length≤0 + (1 + n1).toNat:=l1;have l2:cells.length≤0 + L.toNat * (1 + n1).toNat:=l2;obtain ⟨m,q0,q1,q2,q3⟩:=qDb (l:=bars) (q := .ref (st.length + 1 + j.length)) (st:=st ++ .l [.int y]::(j++[.l (bars.map bP)])) (yH Wu) (by omega)
 subst q0;refine ⟨bars,cells,y,[.l (bars.map bP)],hI,by omega,by omega,qu rfl ?_⟩
 unfold ZU;refine qU (QB rfl) (qU (YN (Wn qX (sz rfl))) ?_);refine qU (qGW (qJ (qQ rfl (qN (l:=[.ref st.length,.int (9 - L)]) rfl t1) wA) (qJ (qQ rfl (qN (l:=[.ref st.length,.int (9 - L)]) rfl t2) wA) qX))) ?_;refine qU (ZL (itN (L:=1 + n1) (by omega) (by omega) (qJ (qQ rfl (qN (l:=[.ref st.length,.int T]) rfl t3) wA) qX)) e) ?_
 exact QD (wq (qJ (qN (qJ (JH rfl (qEA rfl (by omega))) qX) (zX rfl)) (qJ (qN (qJ (JH rfl q3) qX) (zX rfl)) qX)) (sz rfl))
theorem jR {a:Ad} {st j:qD} {fi:FI} {up rw' lf wy:Int}:∀ (ks:List Int) (x:Int),∃ (cs:List qc) (y:Int),cs.length≤ks.length∧(∀ c∈cs,c.1=up + rw' ∧ ∃ k∈ks,c.2=lf + k)∧qz (fun _=>True) (Qd ⟨fi,Qe 5,[(Wb (vTB (qI gEq (qB 3) (vC (.int 0)))) (vTB (qI gGt (qH (qS a) (qA (qB 4) (qA (vC (.int 6)) qC))) (vC (.int 0)))))]⟩ (Q7 [] (qe (qA (qI qx (qB 0) (qB 1)) (qA (qI qx (qB 2) (qB 5)) qC)))) [some (.int up),some (.int rw'),some (.int lf),some (.int wy),some (.ref st.length),none]) (ks.map PV.int) (st ++ .l [.int x]::j) = .ok (cs.map cP) (st ++ .l [.int y]::j)
 |[],x=>⟨[],x,AG _,fun c hc=>(by cases hc),Je trivial⟩
 |k::ks,x=>by
  have t:=QQ (a:=a) (st:=st) (j:=j) (x:=x) (m:=6) ⟨by decide,by decide⟩
  have c1:vTB (qI gEq (qB 3) (vC (.int 0))) [some (.int up),some (.int rw'),some (.int lf),some (.int wy),some (.ref st.length),some (.int k)] (st ++ .l [.int x]::j) = .ok (wy==0) (st ++ .l [.int x]::j):=wf (qQ rfl rfl ZM);have c2:vTB (qI gGt (qH (qS a) (qA (qB 4) (qA (vC (.int 6)) qC))) (vC (.int 0))) [some (.int up),some (.int rw'),some (.int lf),some (.int wy),some (.ref st.length),some (.int k)] (st ++ .l [.int x]::j) = .ok (decide (x % 6 > 0)) (st ++ .l [.int (x / 6)]::j):=wf (qQ (qN (l:=[.ref st.length,.int 6]) rfl t) rfl qIQ);obtain ⟨b,z,ht⟩:∃ (b:Bool) (z:Int),(Wb (vTB (qI gEq (qB 3) (vC (.int 0)))) (vTB (qI gGt (qH (qS a) (qA (qB 4) (qA (vC (.int 6)) qC))) (vC (.int 0))))) [some (.int up),some (.int rw'),some (.int lf),some (.int wy),some (.ref st.length),some (.int k)] (st ++ .l [.int x]::j) = .ok b (st ++ .l [.int z]::j):=by
   cases hw:(wy==0) with
   |true=>rw [hw] at c1;exact ⟨true,x,zj c1⟩
   |false=>rw [hw] at c1;exact ⟨_,x / 6,Qq c1 c2⟩
  obtain ⟨cs,y,h1,h2,h3⟩:=jR (a:=a) (st:=st) (j:=j) (fi:=fi) (up:=up) (rw':=rw') (lf:=lf) (wy:=wy) ks z;cases b with
  |true =>
   refine ⟨(up + rw',lf + k)::cs,y,CG h1,fun c hc => ?_,qBD trivial (qEJ rfl ht (wq (qJ (qQ rfl rfl wA) (qJ (qQ rfl rfl wA) qX)) (sz rfl))) h3⟩;rcases AJ.mp hc with rfl |hc
   ·exact ⟨rfl,k,AL,rfl⟩
   ·obtain ⟨a1,k',a2,a3⟩:=h2 c hc;exact ⟨a1,k',AE _ a2,a3⟩
  |false =>refine ⟨cs,y,Nat.le_succ_of_le h1,fun c hc => ?_,qBD trivial (qDd rfl ht) h3⟩;obtain ⟨a1,k',a2,a3⟩:=h2 c hc;exact ⟨a1,k',AE _ a2,a3⟩
def qIJ (a:Ad):FS:=(qY 8 (vFz (ZO (qB 8) (vFz (QN [6,9,7,3,0] 1 (WC (qA (qB 5) qC)) (Qe 5) [(Wb (vTB (qI gEq (qB 3) (vC (.int 0)))) (vTB (qI gGt (qH (qS a) (qA (qB 4) (qA (vC (.int 6)) qC))) (vC (.int 0)))))] [] (qe (qA (qI qx (qB 0) (qB 1)) (qA (qI qx (qB 2) (qB 5)) qC))))))))
theorem qBo {a:Ad} {st j:qD} {hi wd up lf wy:Int} {x1 x2:Option PV} (hu:0≤up∧up + hi≤8) (hl:0≤lf∧lf + wd≤8) (hw:1≤wd∧wd≤6):∀ (rs:List Int) (x:Int) (fd:List qc) (x9:Option PV),(∀ r∈rs,0≤r∧r < hi)->(∀ c∈fd,In8 c)->fd.length + 6 * rs.length≤500 ->
  ∃ (y:Int) (fd':List qc) (y9:Option PV),(∀ c∈fd',In8 c)∧fd'.length≤fd.length + 6 * rs.length∧Qt (fun _=>True) (qr 9) (qIJ a) (rs.map PV.int) [some (.ref st.length),x1,x2,some (.int wy),some (.int hi),some (.int wd),some (.int up),some (.int lf),some (.lst (fd.map cP)),x9] (st ++ .l [.int x]::j) = .nx [some (.ref st.length),x1,x2,some (.int wy),some (.int hi),some (.int wd),some (.int up),some (.int lf),some (.lst (fd'.map cP)),y9] (st ++ .l [.int y]::j)
 |[],x,fd,x9,_,hf,_=>⟨x,fd,x9,hf,AG _,Qx trivial⟩
 |r::rs,x,fd,x9,hr,hf,hn=>by
  rw [AH] at hn;obtain ⟨cs,y,h1,h2,h3⟩:=jR (a:=a) (st:=st) (j:=j) (fi:=WC (qA (qB 5) qC)) (up:=up) (rw':=r) (lf:=lf) (wy:=wy) (WA wd) x;rw [Wp] at h1;have r0:=hr r AL;have hf':∀ c∈fd++cs,In8 c:=fun c hc=>by
   rcases Am.mp hc with z |z
   ·exact hf c z
   ·obtain ⟨a1,k,a2,a3⟩:=h2 c z
    have:=upto_mem.mp a2
    unfold In8;omega
  obtain ⟨y',fd',y9,g1,g2,g3⟩:=qBo hu hl hw rs y (fd++cs) (some (.int r)) (fun q hq=>hr q (AE _ hq)) hf' (by rw [AQ];omega)
  refine ⟨y',fd',y9,g1,by rw [AQ] at g2;rw [AH];omega,WW trivial rfl (QB (wb (YZ (l:=fd.map cP) (m:=cs.map cP) rfl (wb (qDK (w:=⟨(WA wd).map PV.int,fun _=>True⟩) (itN (by omega) (by omega) rfl) h3 (by rw [AC];exact WP (by omega)))) rfl rfl (by rw [AC,AC];exact WP (by omega))))) ?_⟩
  rw [← A9];exact g3
theorem qDY {a:Ad} {st j:qD} {x L M:Int} (hL1:2≤L) (hL2:L≤5) (hM1:5≤M) (hM2:M≤40):∃ (F:List qc) (y:Int) (g:qD),(F.length:Int)≤M∧(∀ c∈F,In8 c)∧WR a [.ref st.length,.int L,.int M] (st ++ .l [.int x]::j) = .ok (.tup (F.map cP)) (st ++ .l [.int y]::(j++g)):=by
 have t1:=QQ (a:=a) (st:=st) (j:=j) (x:=x) (m:=5) ⟨by decide,by decide⟩
 have t2:=QQ (a:=a) (st:=st) (j:=j) (x:=x / 5) (m:=6) ⟨by decide,by decide⟩
 have t3:=QQ (a:=a) (st:=st) (j:=j) (x:=x / 5 / 6) (m:=6) ⟨by decide,by decide⟩
 have i2:=Q3 (x:=x / 5) (m:=6) (by decide)
 have i3:=Q3 (x:=x / 5 / 6) (m:=6) (by decide)
 generalize x % 5=wy at t1;generalize x / 5 % 6=h1 at t2 i2;generalize x / 5 / 6 % 6=w1 at t3 i3;generalize x / 5 / 6 / 6=x3 at t3;have t4:=QQ (a:=a) (st:=st) (j:=j) (x:=x3) (m:=9 - (1 + h1)) ⟨by omega,by omega⟩
 have t5:=QQ (a:=a) (st:=st) (j:=j) (x:=x3 / (9 - (1 + h1))) (m:=9 - (1 + w1)) ⟨by omega,by omega⟩
 have i4:=Q3 (x:=x3) (m:=9 - (1 + h1)) (by omega)
 have i5:=Q3 (x:=x3 / (9 - (1 + h1))) (m:=9 - (1 + w1)) (by omega)
 generalize x3 % (9 - (1 + h1))=up at t4 i4;generalize x3 / (9 - (1 + h1)) % (9 - (1 + w1))=lf at t5 i5;generalize x3 / (9 - (1 + h1)) / (9 - (1 + w1))=x5 at t5;obtain ⟨y,fd,y9,g1,g2,g3⟩:=qBo (a:=a) (st:=st) (j:=j) (hi:=1 + h1) (wd:=1 + w1) (up:=up) (lf:=lf) (wy:=wy) (x1:=some (.int L)) (x2:=some (.int M)) (by omega) (by omega) (by omega) (WA (1 + h1)) x5 [] none (fun r hr=>upto_mem.mp hr) (fun c hc=>(by cases hc)) (by rw [Wp];show 0 + _≤500;omega)
 rw [Wp] at g2;have g2:fd.length≤0 + 6 * (1 + h1).toNat:=g2;have pre:∀ {p:PV} {S:qD},(qP (Qc (vTB (qI gGt (qB 3) (vC (.int 2)))) (ql (qI gIx (qH (WD a) (qA (qB 0) (qA (qB 1) (qA (qH qAo (qA (vC (.int 1)) (qA (qI J3 (qB 2) (qB 1)) qC))) qC)))) (vC (.int 0)))) QL) (ql (qH WI (qA (qEN (z5 (qB 8)) wF (Q4 (qB 2))) qC)))) [some (.ref st.length),some (.int L),some (.int M),some (.int wy),some (.int (1 + h1)),some (.int (1 + w1)),some (.int up),some (.int lf),some (.lst (fd.map cP)),y9] (st ++ .l [.int y]::j) = .rt p S->WR a [.ref st.length,.int L,.int M] (st ++ .l [.int x]::j) = .ok p S:=fun {p S} h=>by refine qu rfl ?_;unfold zl;refine qU (QB (qN (l:=[.ref st.length,.int 5]) rfl t1)) ?_;refine qU (qGW (qJ (qQ rfl (qN (l:=[.ref st.length,.int 6]) rfl t2) wA) (qJ (qQ rfl (qN (l:=[.ref st.length,.int 6]) rfl t3) wA) qX))) ?_;refine qU (Zq (r1:=[some (.ref st.length),some (.int L),some (.int M),some (.int wy),some (.int (1 + h1)),some (.int (1 + w1)),some (.int up),some (.int lf),none,none]) (wq (qJ (qN (l:=[.ref st.length,.int (9 - (1 + h1))]) rfl t4) (qJ (qN (l:=[.ref st.length,.int (9 - (1 + w1))]) rfl t5) qX)) (sz rfl)) rfl) ?_;exact qU (QB rfl) (qU (ZL (itN (L:=1 + h1) (by omega) (by omega) rfl) g3) h)
 have cg:vTB (qI gGt (qB 3) (vC (.int 2))) [some (.ref st.length),some (.int L),some (.int M),some (.int wy),some (.int (1 + h1)),some (.int (1 + w1)),some (.int up),some (.int lf),some (.lst (fd.map cP)),y9] (st ++ .l [.int y]::j) = .ok (decide (wy > 2)) (st ++ .l [.int y]::j):=wf (qQ rfl rfl qIQ);by_cases hwy:wy > 2
 ·rw [AR hwy] at cg;have hmul:L * (M / L)≤M:=Int.mul_ediv_self_le (by omega)
  let T:Int:=if M / L > 1 then M / L else 1;have hT1:1≤T:=by show 1≤(if M / L > 1 then M / L else 1);split <;> omega
  have hT2:L * T≤60:=by show L * (if M / L > 1 then M / L else 1)≤60;split <;> omega
  have hT3:L * T≤M:=by show L * (if M / L > 1 then M / L else 1)≤M;split <;> omega
  obtain ⟨bs,cs,z,g,l0,l1,l2,l5⟩:=yg (a:=a) (st:=st) (j:=j) (x:=y) (L:=L) (T:=T) hL1 hL2 hT1 hT2;exact ⟨w9 cs,z,g,by rw [YY];omega,fun c hc=>l0.2.2.2.2 c (mem_srtC.mp hc),pre (q9 (QU cg (QD (qQ (qN (l:=[.ref st.length,.int L,.int T]) (qJ rfl (qJ rfl (qJ (qN (l:=[.int 1,.int (M / L)]) (qJ rfl (qJ (qQ rfl rfl (qC9 ⟨by omega,by omega⟩)) qX)) rfl) qX))) l5) rfl rfl))))⟩
 ·rw [Ae hwy] at cg;refine ⟨(w9 fd).take M.toNat,y,[],?_,fun c hc=>g1 c (mem_srtC.mp (CA hc)),?_⟩
  ·rw [Bf,YY];omega
  ·rw [BP];have hct:=qJI (l:=w9 fd) (n:=M.toNat) (by omega)
   rw [CL (by omega)] at hct
   rw [← hct];exact pre (qU (Qf cg rfl) (QD (qN (qJ (qJg (JH rfl (qEA rfl (by omega))) rfl (zT rfl) rfl) qX) (zX rfl))))
theorem qDX {a:Ad} {st j:qD} {x:Int}:∃ v,okV v=true∧zI a [.ref st.length] (st ++ .l [.int x]::j) = .ok v (st ++ .l [.int (x / 27)]::j):=by
 have t1:=QQ (a:=a) (st:=st) (j:=j) (x:=x) (m:=27) ⟨by decide,by decide⟩
 have hx:=Q3 (x:=x) (m:=27) (by decide)
 let l1:List PV:=[.non,.bl true,.bl false,.int (-1),.int 0,.int 1,.int 2,.int 5,.int 6,.str "",.str "0",.str "none",.tup [],.tup [.int 0],.tup [.int 0,.int 0],.tup [.int 0,.int 0,.int 0],.lst [.int 0],.dct,.tup [.int 0,.int 0,.bl true]];let l2:List PV:=[.tup [.tup [.int 0,.int 0,.int 0]],.tup [.tup [.int 0,.int 0,.int 1]],.lst [.tup [.int 0,.int 0,.int 0]],.int (10 ^ 39),.tup [.int 0,.int 0,.int 2],.tup [.int 0,.int (-1),.int 0],.tup [.tup [.int 0,.int 0]],.tup [.int 0,.int 0,.int 0,.int 0]];obtain ⟨p,hp,e⟩:=qAa (l:=l1++l2) (i:=x % 27) (st:=st ++ .l [.int (x / 27)]::j) hx.1 hx.2;refine ⟨p,At.mp (show (l1++l2).all okV=true from rfl) p hp,qu rfl (qU (QB (p := .lst l1) rfl) (qU (QB (p := .lst (l1++l2)) (wb (YZ (l:=l1) (m:=l2) rfl rfl rfl rfl (sz rfl)))) (QD (qQ rfl (qN (l:=[.ref st.length,.int 27]) (qJ rfl (qJ (qN (l:=[.lst (l1++l2)]) rfl (zC rfl rfl)) qX)) t1) e))))⟩
theorem qBb {v:PV} (h:okV v=true):okP v=true:=by
 cases v with
 |tup l =>have h:(Nat.ble l.length 59&&l.all okP)=true:=h;rw [AV,At] at h;show (Nat.ble l.length 1000&&l.all wY)=true;rw [AV,At];exact ⟨Nat.ble_eq_true_of_le (Aa (Bk h.1) (by decide)),fun p hp=>yB (h.2 p hp)⟩
 |_=>exact h
theorem Zv {bs:List Bar}:∀ p∈bs.map bP,okP p=true:=fun p hp=>by obtain ⟨c,_,rfl⟩:=AX.mp hp;rfl
theorem qHT {f o1 i1 o2 i2:FE} {r:qv} {st s1 s2 s3:qD} {p q u v u' v':PV} (h:f r st = .ok (.tup [p,q]) s1) (h1:o1 r s1 = .ok u s1) (h2:i1 r s1 = .ok v s1) (h3:WQ s1 u v p=some s2) (h4:o2 r s2 = .ok u' s2) (h5:i2 r s2 = .ok v' s2) (h6:WQ s2 u' v' q=some s3):JK f o1 i1 o2 i2 r st = .nx r s3:=by unfold JK;rw [h];show (o1 r s1).bindS _=_;rw [h1];show (i1 r s1).bindS _=_;rw [h2];show (match WQ s1 u v p with |some s3=>_ |none=>_)=_;rw [h3];show (o2 r s2).bindS _=_;rw [h4];show (i2 r s2).bindS _=_;rw [h5];show (match WQ s2 u' v' q with |some s6=>RS.nx r s6 |none=>_)=_;rw [h6]
theorem Ju {st j:qD} {b:SO} {l:List PV} {k:Int} {v:PV} (h0:0≤k) (h1:k < l.length):WQ (st++b::(j++[.l l])) (.ref (st.length + 1 + j.length)) (.int k) v=some (st++b::(j++[.l (l.set k.toNat v)])):=by rw [qFH Wu (Wd h0 h1),qBG]
theorem qBL {P:PV->Prop} {l:List PV} {i:Nat} {v:PV} (h:∀ p∈l,P p) (hv:P v):∀ p∈l.set i v,P p:=fun p hp=>by
 rcases List.mem_or_eq_of_mem_set hp with z |z
 ·exact h p z
 ·rw [z];exact hv
def qG9:FS:=(Qa (qB 9) (qI Q9 (qI Q9 (Z9 (qB 1) wF (Q4 (qB 3))) (qe (qA (qB 11) qC))) (Z9 (qB 1) (Q4 (qI qx (qB 3) (vC (.int 1)))) wF)))
theorem qBR {st j:qD} {b:SO} {W:List PV} {t:Int} {x0 x2 x4 x5 x6 x7 x8 x10:Option PV} (hW:W.length≤41):∀ (ks l:List PV) (x11:Option PV),l.length + ks.length≤500 ->
  ∃ y11,Qt (fun _=>True) (qr 11) qG9 ks [x0,some (.tup W),x2,some (.int t),x4,x5,x6,x7,x8,some (.ref (st.length + 1 + j.length)),x10,x11] (st++b::(j++[.l l])) = .nx [x0,some (.tup W),x2,some (.int t),x4,x5,x6,x7,x8,some (.ref (st.length + 1 + j.length)),x10,y11] (st++b::(j++[.l (l++ks.map fun p => .tup (qAY W t p))]))
 |[],l,x11,_=>⟨x11,by rw [List.map_nil,BP];exact Qx trivial⟩
 |k::ks,l,x11,h=>by
  rw [AH] at h;obtain ⟨y,e⟩:=qBR (st:=st) (j:=j) (b:=b) (W:=W) (t:=t) (x0:=x0) (x2:=x2) (x4:=x4) (x5:=x5) (x6:=x6) (x7:=x7) (x8:=x8) (x10:=x10) hW ks (l++[.tup (qAY W t k)]) (some k) (by rw [AQ,As];omega)
  rw [A2] at e;exact ⟨y,WW trivial rfl (ym rfl (qFT hW rfl rfl rfl) (by omega)) e⟩
theorem eq_nil_b {bs:List Bar} {st:qD}:gEq (.tup (bs.map bP)) (.tup []) st = .ok (.bl bs.isEmpty) st:=by
 have h1:ZN (.tup (bs.map bP)) (.tup [])=true:=by show (nrs (bs.map bP)&&true&&decide (deps (bs.map bP) + 1≤ZG))=true;rw [JS,AR (Aa (CG (YQ bs)) (by decide))];rfl
 show (if ZN (.tup (bs.map bP)) (.tup [])=true then Rs.ok (PV.bl (peq (PV.tup (bs.map bP)) (PV.tup []))) st else Rs.no)=_;rw [AF h1];cases bs <;> rfl
theorem qHE {bs:List Bar} {i:Nat} {st:qD} (h:i < bs.length):gIx (.tup (bs.map bP)) (.int (i:Int)) st = .ok (bP bs[i]) st:=by
 refine Yy rfl ?_;unfold L2.atI;rw [Wd (by omega) (by rw [AC];omega),CH,BN,Au,AI h]
 rfl
theorem qJm {α:Type} {P:α->Prop} {a b c d e f:α} (h1:P a) (h2:P b) (h3:P c) (h4:P d) (h5:P e) (h6:P f):∀ p∈[a,b,c,d,e,f],P p:=fun p hp=>by simp only [AJ,Ah,Bu] at hp;rcases hp with rfl |rfl |rfl |rfl |rfl |rfl <;> assumption
theorem qBN {a:Ad} {st j:qD} {x:Int} {bs:List Bar} (hbs:bs.length≤25):∃ (v:PV) (y:Int) (g:qD),okV v=true∧WG a [.ref st.length,.tup (bs.map bP)] (st ++ .l [.int x]::j) = .ok v (st ++ .l [.int y]::(j++g)):=by
 obtain ⟨o,ho,eo⟩:=qDX (a:=a) (st:=st) (j:=j) (x:=x);generalize x / 27=x0 at eo;cases hbe:bs with
 |nil =>
  have t1:=QQ (a:=a) (st:=st) (j:=j) (x:=x0) (m:=4) ⟨by decide,by decide⟩
  have i1:=Q3 (x:=x0) (m:=4) (by decide)
  let l4:List PV:=[o,.tup [o],.lst [],.tup [.tup [.int 0,.int 0,.int 0]]];obtain ⟨v,hv,ev⟩:=qAa (l:=l4) (i:=x0 % 4) (st:=st ++ .l [.int (x0 / 4)]::j) i1.1 i1.2;have h4:okV v=true:=by
   simp only [l4,AJ,Ah,Bu] at hv;rcases hv with rfl |rfl |rfl |rfl
   ·exact ho
   ·exact zY (show 1≤59 by decide) (j9 (qBb ho))
   ·rfl
   ·rfl
  refine ⟨v,x0 / 4,[],h4,qu rfl ?_⟩;rw [BP];exact qU (QB (qN (l:=[.ref st.length]) rfl eo)) (q9 (QU (wf (qQ rfl rfl (eq_nil_b (bs:=[])))) (QD (qQ (p := .lst l4) (wb (Wn (qJ rfl (qJ (wq (qJ rfl qX) (sz rfl)) (qJ rfl (qJ rfl qX)))) (sz rfl))) (qN (l:=[.ref st.length,.int 4]) rfl t1) ev))))
 |cons b0 br =>
  rw [← hbe];have hpos:0 < bs.length:=by rw [hbe,AH];omega
  have hne:bs.isEmpty=false:=by rw [hbe];rfl
  have t1:=QQ (a:=a) (st:=st) (j:=j) (x:=x0) (m:=(bs.length:Int)) ⟨by omega,by omega⟩
  have t2:=QQ (a:=a) (st:=st) (j:=j) (x:=x0 / (bs.length:Int)) (m:=(bs.length:Int)) ⟨by omega,by omega⟩
  have i1:=Q3 (x:=x0) (m:=(bs.length:Int)) (by omega)
  have i2:=Q3 (x:=x0 / (bs.length:Int)) (m:=(bs.length:Int)) (by omega)
  generalize x0 % (bs.length:Int)=at' at t1 i1;generalize x0 / (bs.length:Int) % (bs.length:Int)=to' at t2 i2;generalize x0 / (bs.length:Int) / (bs.length:Int)=x2 at t2;obtain ⟨i,rfl⟩:∃ i:Nat,at'=(i:Int):=⟨at'.toNat,by omega⟩
  obtain ⟨k,rfl⟩:∃ k:Nat,to'=(k:Int):=⟨to'.toNat,by omega⟩
  have hi:i < bs.length:=by omega
  have hk:k < bs.length:=by omega
  let W:=bs.map bP;have hWl:W.length≤41:=by show (bs.map bP).length≤41;rw [AC];omega
  have hW25:W.length≤25:=by show (bs.map bP).length≤25;rw [AC];omega
  have hWn:W.length=bs.length:=by show (bs.map bP).length=_;rw [AC]
  have hWo:∀ p∈W,okP p=true:=Zv;have eb:∀ S:qD,gIx (.tup W) (.int (i:Int)) S = .ok (bP bs[i]) S:=fun S=>qHE hi;obtain ⟨r,c,w,hb⟩:∃ r c w,bs[i]=(r,c,w):=⟨_,_,_,rfl⟩
  -- the slot of the rows
  have gs:∀ (n:Nat) (hn:n < bs.length) (X:SO),gIx (.ref (st.length + 1 + j.length)) (.int (n:Int)) (st++X::(j++[.l W])) = .ok (bP bs[n]) (st++X::(j++[.l W])):=fun n hn X=>by
   refine Yy (yH Wu) ?_;unfold L2.atI;rw [Wd (by omega) (by rw [hWn];omega),CH,BN]
   show (bs.map bP)[n]? = _;rw [Au,AI hn];rfl
  let W1:=W.set i (bP bs[k]);let W2:=W1.set k (bP bs[i]);have hW2:∀ p∈W2,okP p=true:=qBL (qBL hWo rfl) rfl;have hW2l:W2.length≤25:=by show ((W.set i (bP bs[k])).set k (bP bs[i])).length≤25;rw [List.length_set,List.length_set];exact hW25
  have s1:∀ X:SO,WQ (st++X::(j++[.l W])) (.ref (st.length + 1 + j.length)) (.int (i:Int)) (bP bs[k])=some (st++X::(j++[.l W1])):=fun X=>Ju (by omega) (by rw [hWn];omega)
  have s2:∀ X:SO,WQ (st++X::(j++[.l W1])) (.ref (st.length + 1 + j.length)) (.int (k:Int)) (bP bs[i])=some (st++X::(j++[.l W2])):=fun X=>Ju (by omega) (by show (k:Int) < ((W.set i (bP bs[k])).length:Int);rw [List.length_set,hWn];omega)
  -- the six,and the nine
  have c1:=WN (l:=W) (lo:=none) (hi:=some (i:Int));have c2:=WN (l:=W) (lo:=some ((i:Int) + 1)) (hi:=none);have c3:=WN (l:=W) (lo:=none) (hi:=some ((i:Int) + 1));have c4:=WN (l:=W) (lo:=some (i:Int)) (hi:=none);have c5:=J6 (l:=W) hWl;let s6:List PV:=[.tup (Wk W none (some (i:Int))++Wk W (some ((i:Int) + 1)) none),.tup (Wk W none (some ((i:Int) + 1))++Wk W (some (i:Int)) none),.tup W2,.lst W,o,.tup (HT.cutS W none none (-1))];have h6:∀ p∈s6,okV p=true:=qJm (zY (by rw [AQ];omega) (zV (fun q hq=>hWo q (ZD hq)) fun q hq=>hWo q (ZD hq))) (zY (by rw [AQ];omega) (zV (fun q hq=>hWo q (ZD hq)) fun q hq=>hWo q (ZD hq))) (zY (by omega) hW2) rfl ho (zY (by omega) fun q hq=>hWo q (qEg hq))
  let n5:List PV:=[bP (r,c,1 - w),bP (r + 1,c,w),bP (r,c + 1,w),bP (r,c - 1,w),o];let n4:List PV:=[bP (r,c,2),.tup [.int r,.int c],.lst [.int r,.int c,.int w],.tup [.int r,.int c,.bl (w != 0)]];have h9:∀ p∈n5++n4,okP p=true:=zV (fun p hp=>by
   simp only [n5,AJ,Ah,Bu] at hp;rcases hp with rfl |rfl |rfl |rfl |rfl
   ·rfl
   ·rfl
   ·rfl
   ·rfl
   ·exact qBb ho) fun p hp=>by simp only [n4,AJ,Ah,Bu] at hp;rcases hp with rfl |rfl |rfl |rfl <;> rfl
  let J:qD:=j++[.l W2];let l15:List PV:=s6++(n5++n4).map fun p => .tup (qAY W (i:Int) p);obtain ⟨y11,el⟩:=qBR (st:=st) (j:=J) (b := .l [.int x2]) (W:=W) (t:=(i:Int)) (x0:=some (.ref st.length)) (x2:=some o) (x4:=some (.int (k:Int))) (x5:=some (.int r)) (x6:=some (.int c)) (x7:=some (.int w)) (x8:=some (.ref (st.length + 1 + j.length))) (x10:=some (.lst n5)) hWl (n5++n4) s6 none (show 6 + 9≤500 by decide)
  obtain ⟨m,q0,q1,q2,q3⟩:=qDb (l:=bs++[(r,c + 1,w)]) (q := .tup (W++[bP (r,c + 1,w)])) (st:=st ++ .l [.int x2]::(J++[.l l15])) (by show some (bs.map bP++[bP (r,c + 1,w)])=_;rw [A9];rfl) (by rw [AQ,As];omega)
  rw [AQ,As] at q1;let l16:List PV:=l15++[.tup (m.map bP)];have h16:∀ p∈l16,okV p=true:=zV (zV h6 fun p hp=>by
   obtain ⟨z,hz,rfl⟩:=AX.mp hp;exact zY (by have:=qDc (W:=W) (t:=(i:Int)) (p:=z);omega) (qEs hWo (h9 z hz))) (j9 (zY (by rw [AC];omega) Zv))
  have t3:=QQ (a:=a) (st:=st) (j:=J++[.l l16]) (x:=x2) (m:=16) ⟨by decide,by decide⟩
  have i3:=Q3 (x:=x2) (m:=16) (by decide)
  obtain ⟨v,hv,ev⟩:=qE9 (l:=l16) (i:=x2 % 16) (st:=st ++ .l [.int (x2 / 16)]::(J++[.l l16])) (n:=st.length + 1 + J.length) Wu i3.1 i3.2;refine ⟨v,x2 / 16,[.l W2,.l l16],h16 v hv,?_⟩;rw [show j++[SO.l W2,.l l16]=J++[.l l16] by show _=(j++[_])++[_];rw [A2];rfl]
  refine qu rfl ?_;unfold ZQ;refine qU (QB (qN (l:=[.ref st.length]) rfl eo)) ?_;refine qU (Qf (wf (qQ rfl rfl (eq_nil_b.trans (by rw [hne])))) rfl) ?_
  refine qU (QB (qN (l:=[.ref st.length,.int (bs.length:Int)]) (qJ rfl (qJ (qN (l:=[.tup W]) rfl (zC rfl (by rw [hWn]))) qX)) t1)) ?_
  refine qU (QB (qN (l:=[.ref st.length,.int (bs.length:Int)]) (qJ rfl (qJ (qN (l:=[.tup W]) rfl (zC rfl (by rw [hWn]))) qX)) t2)) ?_
  refine qU (Zq (r1:=[some (.ref st.length),some (.tup W),some o,some (.int (i:Int)),some (.int (k:Int)),some (.int r),some (.int c),some (.int w),none,none,none,none]) (qQ rfl rfl (eb _)) (by rw [hb];rfl)) ?_
  refine qU (YN (l:=W) (by unfold Zd;rfl)) ?_
  refine qU (qHT (wq (qJ (qQ rfl rfl (gs k hk _)) (qJ (qQ rfl rfl (gs i hi _)) qX)) (sz rfl)) rfl rfl (s1 _) rfl rfl (s2 _)) ?_;refine qU (YN (j:=J) (l:=s6) (Wn (qJ (qQ (Y3 rfl rfl (zT rfl)) (Y3 rfl (zT (qQ rfl rfl wA)) rfl) (Za (by omega))) (qJ (qQ (Y3 rfl rfl (zT (qQ rfl rfl wA))) (Y3 rfl (zT rfl) rfl) (Za (by omega))) (qJ (qN (qJ rfl qX) (zX (yH Wu))) (qJ (qDx rfl) (qJ rfl (qJ (qIL rfl hWl) qX)))))) (sz rfl))) ?_
  refine qU (QB (p := .lst n5) (wb (Wn (qJ (Wz rfl rfl (qQ rfl rfl YL)) (qJ (Wz (qQ rfl rfl wA) rfl rfl) (qJ (Wz rfl (qQ rfl rfl wA) rfl) (qJ (Wz rfl (qQ rfl rfl YL) rfl) (qJ rfl qX))))) (sz rfl)))) ?_;refine qU (ZL (wI (wb (YZ (l:=n5) (m:=n4) rfl (wb (Wn (qJ (Wz rfl rfl rfl) (qJ (wq (qJ rfl (qJ rfl qX)) (sz rfl)) (qJ (wb (Wn (qJ rfl (qJ rfl (qJ rfl qX))) (sz rfl))) (qJ (wq (qJ rfl (qJ rfl (qJ (qN (l:=[.int w]) rfl rfl) qX))) (sz rfl)) qX)))) (sz rfl))) rfl rfl (sz rfl)))) el) ?_;refine qU (ym (b' := .l [.int x2]) rfl (qN (qJ (JH (qQ rfl (wq (qJ (Wz rfl (qQ rfl rfl wA) rfl) qX) (sz rfl)) (Za (by rw [As];omega))) q3) qX) (zX rfl)) (show 15≤1000 by decide)) ?_
  exact QD (qQ rfl (qN (l:=[.ref st.length,.int 16]) rfl t3) ev)
def W3:PV->Bool
 | .tup [x,y,w]=>qq (-40) 40 x&&(qq (-40) 40 y&&qq 0 1 w)
 |_=>false
theorem qDv {l:List PV} (q:¬ (l.length:Int)=3):W3 (.tup l)=false:=by
 unfold W3;split
 ·rename_i x y w e;cases e;exact absurd rfl q
 ·rfl
theorem qG7 {a:Ad} {v:PV} {st:qD} (hv:okP v=true):Ze a [v] st = .ok (.bl (W3 v)) st:=by
 have e1:=yh (a:=a) (st:=st) (yB hv);cases v with
 |tup l =>
  have e1:QY (kit a) [.tup l,.ty "tuple"] st = .ok (.bl true) st:=e1;have hv:(Nat.ble l.length 1000&&l.all wY)=true:=hv;rw [AV,At] at hv;have e2:vTB (qI gNe (qH wB (qA (qB 0) qC)) (vC (.int 3))) (Qg 4 [.tup l]) st = .ok (!decide ((l.length:Int)=3)) st:=wf (qQ (qN (l:=[.tup l]) rfl (zC rfl rfl)) rfl qEn);by_cases q:(l.length:Int)=3
  ·rw [AR q] at e2;refine qu rfl (qU (Qf (Qq (w_not (b:=true) (QO (qN (l:=[.tup l,.ty "tuple"]) rfl e1))) e2) rfl) ?_)
   match l,q,hv with
   |[x,y,w],_,hv =>
    have px:=hv.2 x (by simp)
    have py:=hv.2 y (by simp)
    have pw:=hv.2 w (by simp)
    refine qU (Zq (r1:=[some (.tup [x,y,w]),some x,some y,some w]) rfl rfl) ?_;have c1:=QO (qN (fa:=qA (qB 1) (qA (Z0 (vC (.int 40))) (qA (vC (.int 40)) qC))) (r:=[some (.tup [x,y,w]),some x,some y,some w]) (st:=st) (l:=[x,.int (-40),.int 40]) rfl (Zz (a:=a) (lo := -40) (hi:=40) (st:=st) px));have c2:=QO (qN (fa:=qA (qB 2) (qA (Z0 (vC (.int 40))) (qA (vC (.int 40)) qC))) (r:=[some (.tup [x,y,w]),some x,some y,some w]) (st:=st) (l:=[y,.int (-40),.int 40]) rfl (Zz (a:=a) (lo := -40) (hi:=40) (st:=st) py));show _=RS.rt (PV.bl (qq (-40) 40 x&&(qq (-40) 40 y&&qq 0 1 w))) st;cases h1:qq (-40) 40 x with
    |false=>rw [h1] at c1;exact q9 (QU (zj (w_not c1)) (QD rfl))
    |true =>
     rw [h1] at c1;cases h2:qq (-40) 40 y with
     |false=>rw [h2] at c2;exact q9 (QU (Qq (w_not c1) (w_not c2)) (QD rfl))
     |true =>rw [h2] at c2;exact qU (Qf (Qq (w_not c1) (w_not c2)) rfl) (QD (qN (l:=[w,.int 0,.int 1]) rfl (Zz pw)))
  ·rw [Ae q] at e2;rw [qDv q];exact qu rfl (q9 (QU (Qq (w_not (b:=true) (QO (qN (l:=[.tup l,.ty "tuple"]) rfl e1))) e2) (QD rfl)))
 |_=>first |(cases hv;done) |exact qu rfl (q9 (QU (zj (w_not (b:=false) (QO (qN (l:=[_,.ty "tuple"]) rfl e1)))) (QD rfl)))
theorem jf {p:PV} (h:W3 p=true):p=bP (unB p) ∧ -40≤(unB p).1∧(unB p).1≤40 ∧ -40≤(unB p).2.1∧(unB p).2.1≤40∧((unB p).2.2=0∨(unB p).2.2=1):=by
 unfold W3 at h;split at h
 ·rename_i x y w;rw [AV,AV] at h;obtain ⟨i,rfl,i1,i2⟩:=zM h.1;obtain ⟨j,rfl,j1,j2⟩:=zM h.2.1;obtain ⟨k,rfl,k1,k2⟩:=zM h.2.2;exact ⟨rfl,i1,i2,j1,j2,by show k=0∨k=1;omega⟩
 ·cases h
theorem qB9 {l:List PV} (h:l.all W3=true):l=(l.map unB).map bP:=by rw [A5];refine (List.map_id l).symm.trans (A4 fun p hp => ?_);exact (jf (At.mp h p hp)).1
def zR (b c:Bar):Bool:=if b.1=c.1 then (if b.2.1=c.2.1 then decide (b.2.2 < c.2.2) else decide (b.2.1 < c.2.1)) else decide (b.1 < c.1)
theorem qI2 {c d:Bar} {st:qD}:Yi (bP c) (bP d) st = .ok (.bl (zR c d)) st:=by
 show (if ZN (bP c) (bP d)=true then (match plts [.int c.1,.int c.2.1,.int c.2.2] [.int d.1,.int d.2.1,.int d.2.2] with |some r=>Rs.ok (PV.bl r) st |none => .no) else .no)=_;have h0:ZN (bP c) (bP d)=true:=rfl;rw [AF h0]
 have:plts [.int c.1,.int c.2.1,.int c.2.2] [.int d.1,.int d.2.1,.int d.2.2]=some (zR c d):=by
  show (if (c.1==d.1)=true then (if (c.2.1==d.2.1)=true then (if (c.2.2==d.2.2)=true then some false else some (decide (c.2.2 < d.2.2))) else some (decide (c.2.1 < d.2.1))) else some (decide (c.1 < d.1)))=_;unfold zR;by_cases h:c.1=d.1
  ·rw [AF (BF.mpr h),AF h];by_cases h2:c.2.1=d.2.1
   ·rw [AF (BF.mpr h2),AF h2];by_cases h3:c.2.2=d.2.2
    ·rw [AF (BF.mpr h3),Ae (by omega)]
    ·rw [AK (by rw [BF];exact h3)]
   ·rw [AK (by rw [BF];exact h2),AK h2]
  ·rw [AK (by rw [BF];exact h),AK h]
 rw [this]
def zg:List Bar->Bool
 |[]=>true
 |[_]=>true
 |b::c::l=>zR b c&&zg (c::l)
theorem YM:∀ {bs:List Bar},zg bs=true ↔ ∀ i,(h:i + 1 < bs.length)->zR bs[i] bs[i + 1]=true
 |[]=>⟨fun _ i h=>by simp at h,fun _=>rfl⟩
 |[_]=>⟨fun _ i h=>by simp at h,fun _=>rfl⟩
 |b::c::l=>by
  rw [zg,AV,YM (bs:=c::l)];constructor
  ·rintro ⟨h1,h2⟩ i hi
   cases i with
   |zero=>exact h1
   |succ i=>exact h2 i (by simpa using hi)
  ·intro h;exact ⟨h 0 (by simp),fun i hi=>h (i + 1) (by simpa using hi)⟩
def adj (F:List Bar) (p:PV):Bool:=match p with
 | .int k=>zR (F.getD (k - 1).toNat (0,0,0)) (F.getD k.toNat (0,0,0))
 |_=>false
theorem yG {F:List Bar} {i:Nat} (h:i < F.length):F.getD i (0,0,0)=F[i]:=by rw [Ab,AI h];rfl
theorem qC6 {a:Ad} {F:List Bar} {st:qD} (h40:F.length≤900):zz a [.tup (F.map bP)] st = .ok (.bl (zg F)) st:=by
 have e:=wM (caps:=[0]) (n:=1) (fi:=Jk (qA (vC (.int 1)) (qA (qH wB (qA (qB 0) qC)) qC))) (g:=Qe 1) (f:=qI Yi (qI gIx (qB 0) (qI Wt (qB 1) (vC (.int 1)))) (qI gIx (qB 0) (qB 1))) (r:=Qg 1 [.tup (F.map bP)]) (st:=st) (w:=⟨Z7 1 (F.length:Int),fun _=>True⟩) (F:=fun p => .bl (adj F p)) (itR (by decide) (by decide) (by omega) (by omega) (qJ rfl (qJ (qN (l:=[.tup (F.map bP)]) rfl (zC rfl (by rw [AC]))) qX))) trivial (by unfold Z7;rw [AC,List.length_range];exact WP (by omega)) fun p hp=>by
  obtain ⟨i,hi,rfl⟩:=AX.mp hp;have hi:=BC.mp hi;have h0:i < F.length:=by omega
  have h1:i + 1 < F.length:=by omega
  have g1:gIx (.tup (F.map bP)) (.int (1 + (i:Int) - 1)) st = .ok (bP F[i]) st:=by rw [show (1:Int) + (i:Int) - 1=(i:Int) by omega];exact qHE h0
  have g2:gIx (.tup (F.map bP)) (.int (1 + (i:Int))) st = .ok (bP F[i + 1]) st:=by rw [show (1:Int) + (i:Int)=((i + 1:Nat):Int) by omega];exact qHE h1
  refine ⟨[some (.tup (F.map bP)),some (.int (1 + (i:Int)))],rfl,(qQ (qQ rfl (qQ rfl rfl YL) g1) (qQ rfl rfl g2) qI2).trans ?_⟩;show _=Rs.ok (PV.bl (zR (F.getD (1 + (i:Int) - 1).toNat (0,0,0)) (F.getD (1 + (i:Int)).toNat (0,0,0)))) st;rw [show (1 + (i:Int) - 1).toNat=i by omega,show (1 + (i:Int)).toNat=i + 1 by omega,yG h0,yG h1]
 have key:(Z7 1 (F.length:Int)).all (adj F)=zg F:=by
  rw [Bool.eq_iff_iff,YM,At];constructor
  ·intro h i hi
   have:=h (.int (1 + (i:Int))) (AX.mpr ⟨i,BC.mpr (by omega),rfl⟩)
   have this:zR (F.getD (1 + (i:Int) - 1).toNat (0,0,0)) (F.getD (1 + (i:Int)).toNat (0,0,0))=true:=this;rw [show (1 + (i:Int) - 1).toNat=i by omega,show (1 + (i:Int)).toNat=i + 1 by omega,yG (by omega),yG hi] at this
   exact this
  ·intro h p hp;obtain ⟨i,hi,rfl⟩:=AX.mp hp;have hi:=BC.mp hi;have h1:i + 1 < F.length:=by omega
   show zR (F.getD (1 + (i:Int) - 1).toNat (0,0,0)) (F.getD (1 + (i:Int)).toNat (0,0,0))=true;rw [show (1 + (i:Int) - 1).toNat=i by omega,show (1 + (i:Int)).toNat=i + 1 by omega,yG (by omega),yG h1]
   exact h i h1
 rw [← key];exact qu rfl (QD (qN (qJ (wb e) qX) YK))
def inF (F:List qc) (L:Int) (b:Bar):Bool:=(cov L b).all fun c=>decide (c∈F)
theorem qCb {a:Ad} {F:List qc} {L:Int} {b:Bar} {st:qD} (h1:0≤L) (h2:L≤1000) (hw:b.2.2=0∨b.2.2=1):Wv a [.tup (F.map cP),bP b,.int L] st = .ok (.bl (inF F L b)) st:=by
 have e:=wM (caps:=[0]) (n:=1) (fi:=q5 (qH (wE a) (qA (qB 1) (qA (qB 2) qC)))) (g:=Qe 1) (f:=qI (gIn false) (qB 1) (qB 0)) (r:=Qg 3 [.tup (F.map cP),bP b,.int L]) (st:=st) (w:=⟨(cov L b).map cP,fun _=>True⟩) (F:=fun p => .bl (decide (unC p∈F))) (wl (qN (l:=[bP b,.int L]) rfl (Y9 h1 h2 hw))) trivial (by rw [AC,We];exact WP (by omega)) fun p hp=>by obtain ⟨c,_,rfl⟩:=AX.mp hp;exact ⟨[some (.tup (F.map cP)),some (cP c)],rfl,qQ rfl rfl (qEe rfl)⟩
 refine qu rfl (QD ((qN (qJ (wb e) qX) YK).trans ?_));rw [List.all_map];rfl
def cells (L:Int) (bs:List Bar):List qc:=bs.flatMap (cov L)
theorem Wi {L:Int}:∀ {bs:List Bar},(cells L bs).length=L.toNat * bs.length
 |[]=>rfl
 |b::bs=>by show (cov L b++cells L bs).length=_;rw [AQ,We,Wi (bs:=bs),AH,Nat.mul_succ];omega
theorem qFX {fi:FI} {g:FG} {rest:FL} {r r':qv} {st:qD} {p:PV} {R:Rs (List PV)} (h:g p r=some r') (h2:rest r' st=R):Qd ⟨fi,g,[]⟩ rest r p st=R:=by unfold Qd;dsimp only;rw [h];exact h2
theorem qAl {a:Ad} {L:Int} {bs:List Bar} {st:qD} (h1:0≤L) (h2:L≤5) (hbs:bs.length≤59) (hw:∀ b∈bs,b.2.2=0∨b.2.2=1):zU a [.tup (bs.map bP),.int L] st = .ok (.lst ((cells L bs).map cP)) st:=by
 have e:qz (fun _=>True) (Qd ⟨q5 (qB 0),Qe 1,[]⟩ (Q7 [⟨(q5 (qH (wE a) (qA (qB 1) (qA (qB 0) qC)))),(Qe 2),[]⟩] (qB 2)) [some (.int L),none,none]) (bs.map bP) st = .ok ((bs.map bP).flatMap fun p=>((cov L (unB p)).map cP).flatMap fun q=>[q]) st:=by
  refine WU trivial fun p hp => ?_;obtain ⟨b,hb,rfl⟩:=AX.mp hp;refine qFX rfl ?_;show ((q5 (qH (wE a) (qA (qB 1) (qA (qB 0) qC)))) [some (.int L),some (bP b),none] st).bind _=_;rw [wl (qN (l:=[bP b,.int L]) rfl (Y9 h1 (by omega) (hw b hb)))]
  show qz _ _ _ _=_;exact WU trivial fun q hq=>qH9 rfl rfl
 have e2:((bs.map bP).flatMap fun p=>((cov L (unB p)).map cP).flatMap fun q=>[q])=(cells L bs).map cP:=by unfold cells;rw [List.flatMap_map,List.map_flatMap];congr 1;funext b;rw [← List.map_eq_flatMap,List.map_id'];rfl
 rw [e2] at e;exact qu rfl (QD (wb (qDK (w:=⟨bs.map bP,fun _=>True⟩) (wl rfl) e (by rw [AC,Wi];exact WP (by have:L.toNat * bs.length≤5 * 59:=Nat.mul_le_mul (by omega) hbs;omega)))))
def Zk (C:List qc):Bool:=((ddT (C.map cL)).length:Int)==(C.length:Int)
theorem qEc {C:List qc} {r:qv} {st:qD} {f:FE} (h:f r st = .ok (.lst (C.map cP)) st) (hl:C.length≤299):qI gEq (yA f) (qH wB (qA f qC)) r st = .ok (.bl (Zk C)) st :=
 qQ (qHb h (qGp rfl hl)) (qN (qJ h qX) (zC rfl (by rw [AC]))) ZM
def Yf (F:List qc) (L:Int):PV->Bool
 | .tup l=>l.all W3&&(zg (l.map unB)&&(l.all (fun p=>inF F L (unB p))&&Zk (cells L (l.map unB))))
 |_=>false
theorem qHI {a:Ad} {v:PV} {st:qD} (h:wY v=true) (hw:qq 2 5 v=true):Qm a [v] st = .ok .non st:=by rw [ZJ h,AF hw]
theorem qIa {a:Ad} {v:PV} {st:qD} (h:wY v=true) (hw:qq 2 5 v=false):Qm a [v] st = .ex ⟨a.Z1,[]⟩ st:=by rw [ZJ h,hw];rfl
theorem qJo {L:Int} (h1:2≤L) (h2:L≤5):qq 2 5 (.int L)=true:=by simp [qq,h1,h2]
theorem qAg {a:Ad} {F:List qc} {L:Int} {v:PV} {st:qD} (h1:2≤L) (h2:L≤5) (hv:okV v=true):Wc a [.tup (F.map cP),.int L,v] st = .ok (.bl (Yf F L v)) st:=by
 have e1:=yh (a:=a) (st:=st) (jP hv);have e0:zP (qH (Qm a) (qA (qB 1) qC)) (Qg 4 [.tup (F.map cP),.int L,v]) st = .nx (Qg 4 [.tup (F.map cP),.int L,v]) st:=qGs (qN (l:=[.int L]) rfl (qHI rfl (qJo h1 h2)));cases v with
 |tup l =>
  have e1:QY (kit a) [.tup l,.ty "tuple"] st = .ok (.bl true) st:=e1;have hv:(Nat.ble l.length 59&&l.all okP)=true:=hv;rw [AV,At] at hv;have hl:l.length≤59:=Bk hv.1;have e:=wM (caps:=[]) (n:=1) (fi:=q5 (qB 2)) (g:=Qe 0) (f:=qH (Ze a) (qA (qB 0) qC)) (r:=Qg 4 [.tup (F.map cP),.int L,.tup l]) (st:=st) (w:=⟨l,fun _=>True⟩) (F:=fun p => .bl (W3 p)) (wl rfl) trivial (WP (by show l.length≤_;omega)) fun p hp=>⟨[some p],rfl,qN (l:=[p]) rfl (qG7 (hv.2 p hp))⟩
  have eb:=QO (qN (k:=yD) (qJ (wb e) qX) YK);have t0:Qn (QM (qH (QY (kit a)) (qA (qB 2) (qA (vC (.ty "tuple")) qC)))) (Qg 4 [.tup (F.map cP),.int L,.tup l]) st = .ok false st:=w_not (b:=true) (QO (qN (l:=[.tup l,.ty "tuple"]) rfl e1));show _=Rs.ok (PV.bl (l.all W3&&(zg (l.map unB)&&(l.all (fun p=>inF F L (unB p))&&Zk (cells L (l.map unB)))))) st;cases hb:l.all W3 with
  |false=>rw [hb] at eb;exact qu rfl (qU e0 (q9 (QU (Qq t0 (zj (w_not eb))) (QD rfl))))
  |true =>
   rw [hb] at eb;have hbk:=qB9 hb;have hw:∀ b∈l.map unB,b.2.2=0∨b.2.2=1:=fun b hm=>by obtain ⟨p,hp,rfl⟩:=AX.mp hm;exact (jf (At.mp hb p hp)).2.2.2.2.2
   have er:=qC6 (a:=a) (F:=l.map unB) (st:=st) (by rw [AC];omega)
   rw [← hbk] at er;have er:=QO (qN (fa:=qA (qB 2) qC) (r:=Qg 4 [.tup (F.map cP),.int L,.tup l]) (l:=[.tup l]) rfl er);cases hr:zg (l.map unB) with
   |false=>rw [hr] at er;exact qu rfl (qU e0 (q9 (QU (Qq t0 (Qq (w_not eb) (w_not er))) (QD rfl))))
   |true =>
    rw [hr] at er;have ew:=wM (caps:=[0,1]) (n:=1) (fi:=q5 (qB 2)) (g:=Qe 2) (f:=qH (Wv a) (qA (qB 0) (qA (qB 2) (qA (qB 1) qC)))) (r:=Qg 4 [.tup (F.map cP),.int L,.tup l]) (st:=st) (w:=⟨l,fun _=>True⟩) (F:=fun p => .bl (inF F L (unB p))) (wl rfl) trivial (WP (by show l.length≤_;omega)) fun p hp=>by
     have hq:=jf (At.mp hb p hp);refine ⟨[some (.tup (F.map cP)),some (.int L),some p],rfl,qN (l:=[.tup (F.map cP),p,.int L]) rfl ?_⟩
     have:=qCb (a:=a) (F:=F) (L:=L) (b:=unB p) (st:=st) (by omega) (by omega) hq.2.2.2.2.2
     rw [← hq.1] at this;exact this
    have ew:=QO (qN (k:=yD) (qJ (wb ew) qX) YK);refine qu rfl (qU e0 (qU (Qf (Qq t0 (Qq (w_not eb) (w_not er))) rfl) ?_));cases hi:l.all (fun p=>inF F L (unB p)) with
    |false=>rw [hi] at ew;exact q9 (QU (w_not ew) (QD rfl))
    |true =>
     rw [hi] at ew;have ec:=qAl (a:=a) (L:=L) (bs:=l.map unB) (st:=st) (by omega) h2 (by rw [AC];exact hl) hw
     rw [← hbk] at ec;exact qU (Qf (w_not ew) rfl) (qU (QB (qN (l:=[.tup l,.int L]) rfl ec)) (QD (qEc rfl (by rw [Wi,AC];have:L.toNat * l.length≤5 * 59:=Nat.mul_le_mul (by omega) hl;omega))))
 |_=>first |(cases hv;done) |exact qu rfl (qU e0 (q9 (QU (zj (w_not (b:=false) (QO (qN (l:=[_,.ty "tuple"]) rfl e1)))) (QD rfl))))
theorem qAw {a:Ad} {F v u:PV} {st:qD} (hu:wY u=true) (nu:qq 2 5 u=false):Wc a [F,u,v] st = .ex ⟨a.Z1,[]⟩ st :=
 Y8 rfl (qDu (qCK (qN (l:=[u]) rfl (qIa hu nu))))
def Q8 (F:List qc) (L:Int):PV->Bool
 | .tup [.int r,.int c,.int w]=>qq 0 1 (.int w)&&((cov L (r,c,w)).filter fun d => !decide (d∈F)).isEmpty
 |_=>false
theorem qJK {w:Int} {st:qD}:gIn true (.int w) (.tup [.int 0,.int 1]) st = .ok (.bl (!qq 0 1 (.int w))) st:=by show Rs.ok (PV.bl (!((0==w) || ((1==w) || false)))) st=_;rw [wJ];congr 3;rw [Bool.eq_iff_iff,AV,decide_eq_true_iff,decide_eq_true_iff,Bool.or_false,Bool.or_eq_true,BF,BF];omega
theorem yi {F:List qc} {L:Int} {p:PV} (h:Q8 F L p=true):p=bP (unB p)∧((unB p).2.2=0∨(unB p).2.2=1)∧((cov L (unB p)).filter fun d => !decide (d∈F)).isEmpty=true:=by
 unfold Q8 at h;split at h
 ·rename_i r c w;rw [AV] at h;obtain ⟨k,e,k1,k2⟩:=zM h.1;injection e with e;subst e;exact ⟨rfl,by show w=0∨w=1;omega,h.2⟩
 ·cases h
theorem jy {d:qc->Bool}:∀ l:List qc,(l.filter fun c => !d c).isEmpty=l.all d
 |[]=>rfl
 |c::l=>by
  rw [CF,Bc];cases h:d c with
  |true=>exact jy l
  |false=>rfl
theorem qFu {a:Ad} {F:List qc} {L:Int} {p:PV} {st:qD} (h1:0≤L) (h2:L≤1000) (hp:okP p=true):wP a [.tup (F.map cP),.int L,p] st = .ok (.bl (Q8 F L p)) st:=by
 have e1:=yh (a:=a) (st:=st) (yB hp);cases p with
 |tup l =>
  have e1:QY (kit a) [.tup l,.ty "tuple"] st = .ok (.bl true) st:=e1;have hv:(Nat.ble l.length 1000&&l.all wY)=true:=hp;rw [AV,At] at hv;have hl:l.length≤1000:=Bk hv.1;have e2:vTB (qI gNe (qH wB (qA (qB 2) qC)) (vC (.int 3))) (Qg 3 [.tup (F.map cP),.int L,.tup l]) st = .ok (!decide ((l.length:Int)=3)) st:=wf (qQ (qN (l:=[.tup l]) rfl (zC rfl rfl)) rfl qEn);have e3:=qCf (a:=a) (l:=l) (r:=Qg 3 [.tup (F.map cP),.int L,.tup l]) (st:=st) (f:=qB 2) hl hv.2 rfl;by_cases q:(l.length:Int)=3
  ·rw [AR q] at e2;cases hw:l.all isInt with
   |false =>
    rw [hw] at e3
    have:Q8 F L (.tup l)=false:=by
     cases hc:Q8 F L (.tup l) with
     |false=>rfl
     |true =>have e:=(yi hc).1;have e:l=[.int (unB (.tup l)).1,.int (unB (.tup l)).2.1,.int (unB (.tup l)).2.2]:=PV.tup.inj e;rw [e] at hw;exact absurd hw (fun h=>by have h:true=false:=h;cases h)
    rw [this];exact qu rfl (q9 (QU (Qq (w_not (b:=true) (QO (qN (l:=[.tup l,.ty "tuple"]) rfl e1))) (Qq e2 (w_not (b:=false) (QO e3)))) (QD rfl)))
   |true =>
    rw [hw] at e3;refine qu rfl (qU (Qf (Qq (w_not (b:=true) (QO (qN (l:=[.tup l,.ty "tuple"]) rfl e1))) (Qq e2 (w_not (b:=true) (QO e3)))) rfl) ?_)
    match l,q,hw with
    |[.int r,.int c,.int w],_,_ =>
     have c1:vTB (qI (gIn true) (qI gIx (qB 2) (vC (.int 2))) (qe (qA (vC (.int 0)) (qA (vC (.int 1)) qC)))) (Qg 3 [.tup (F.map cP),.int L,.tup [.int r,.int c,.int w]]) st = .ok (!qq 0 1 (.int w)) st:=wf (qQ (p := .int w) rfl rfl qJK);show _=RS.rt (PV.bl (qq 0 1 (.int w)&&((cov L (r,c,w)).filter fun d => !decide (d∈F)).isEmpty)) st;cases hw1:qq 0 1 (.int w) with
     |false=>rw [hw1] at c1;exact q9 (QU c1 (QD rfl))
     |true =>
      rw [hw1] at c1;refine qU (Qf c1 rfl) (QD (qQ (wb ?_) rfl eq_nil));rw [Wa (w:=⟨(cov L (r,c,w)).map cP,fun _=>True⟩) (c:=fun p => !decide (unC p∈F)) (wI (qN (l:=[bP (r,c,w),.int L]) rfl (Zp h1 h2))) trivial (by rw [AC,We];exact WP (by omega)) fun p hp => ?_]
      ·rw [Zf (d:=fun c => !decide (c∈F)) fun x _=>rfl]
      ·obtain ⟨d,_,rfl⟩:=AX.mp hp;exact ⟨[some (.tup (F.map cP)),some (cP d)],rfl,wf (qQ rfl rfl (qEe (neg:=true) rfl)),rfl⟩
  ·rw [Ae q] at e2
   have:Q8 F L (.tup l)=false:=by
    unfold Q8;split
    ·rename_i x y w e;cases e;exact absurd rfl q
    ·rfl
   rw [this];exact qu rfl (q9 (QU (Qq (w_not (b:=true) (QO (qN (l:=[.tup l,.ty "tuple"]) rfl e1))) (zj e2)) (QD rfl)))
 |_=>first |(cases hp;done) |exact qu rfl (q9 (QU (zj (w_not (b:=false) (QO (qN (l:=[_,.ty "tuple"]) rfl e1)))) (QD rfl)))
theorem qES {F:List qc} {L:Int} (hF:∀ c∈F,In8 c) (hL:2≤L) {p:PV}:Q8 F L p=(W3 p&&inF F L (unB p)):=by
 rw [Bool.eq_iff_iff,AV];constructor
 ·intro h;obtain ⟨e,hw,hf⟩:=yi h;have hin:inF F L (unB p)=true:=by unfold inF;rw [← jy];exact hf
  refine ⟨?_,hin⟩;have h0:yY (unB p) 0∈F:=BO (At.mp hin _ (AX.mpr ⟨0,upto_mem.mpr ⟨by decide,by omega⟩,rfl⟩))
  have h8:=hF _ h0;unfold In8 yY at h8;rw [Int.zero_mul,Int.add_zero,Int.add_zero,Int.sub_zero] at h8;dsimp only at h8;rw [e];show (qq (-40) 40 (.int (unB p).1)&&(qq (-40) 40 (.int (unB p).2.1)&&qq 0 1 (.int (unB p).2.2)))=true;rw [wJ,wJ,wJ,AR (by omega),AR (by omega),AR (by omega),AR (by omega),AR (by omega),AR (by omega)]
  rfl
 ·rintro ⟨hb,hin⟩
  obtain ⟨e,_,_,_,_,hw⟩:=jf hb;rw [e];show (qq 0 1 (.int (unB p).2.2)&&((cov L (unB p)).filter fun d => !decide (d∈F)).isEmpty)=true;rw [wJ,jy,AR (by omega),AR (by omega)]
  exact hin
def YS (F:List qc) (L:Int):Option Bar->List PV->Bool
 |_,[]=>true
 |prev,p::l=>Q8 F L p&&((match prev with |none=>true |some b=>zR b (unB p))&&YS F L (some (unB p)) l)
theorem YG {F:List qc} {L:Int} {prev:Option Bar} {p:PV} {l:List PV}:YS F L prev (p::l)=(Q8 F L p&&((match prev with |none=>true |some b=>zR b (unB p))&&YS F L (some (unB p)) l)):=by cases prev <;> rfl
def jr (a:Ad):FS:=(qP (Qc (Wb (Qn (QM (qH (wP a) (qA (qB 0) (qA (qB 1) (qA (qI gIx (qB 2) (qB 4)) qC)))))) (WS (vTB (qI gGt (qB 4) (vC (.int 0)))) (Qn (vTB (qI Yi (qI gIx (qB 2) (qI Wt (qB 4) (vC (.int 1)))) (qI gIx (qB 2) (qB 4))))))) (ql (vC (.bl false))) QL) (qY 3 (vFz (ZO (qB 3) (qH (QZ a) (qA (qI gIx (qB 2) (qB 4)) (qA (qB 1) qC)))))))
theorem qFa {a:Ad} {F:List qc} {L:Int} {l:List PV} {pre:List Bar} {p:PV} {rest:List PV} {st:qD} (h1:0≤L) (h2:L≤5) (hp:okP p=true) (hl:l=pre.map bP++p::rest) (hn:l.length≤59):jr a [some (.tup (F.map cP)),some (.int L),some (.tup l),some (.lst ((cells L pre).map cP)),some (.int (pre.length:Int))] st =
  if (Q8 F L p&&(match pre.getLast? with |none=>true |some b=>zR b (unB p)))=true then .nx [some (.tup (F.map cP)),some (.int L),some (.tup l),some (.lst ((cells L (pre++[unB p])).map cP)),some (.int (pre.length:Int))] st else .rt (.bl false) st:=by
 have hlen:l.length=pre.length + (rest.length + 1):=by rw [hl,AQ,AC,AH]
 have ei:∀ S:qD,gIx (.tup l) (.int (pre.length:Int)) S = .ok p S:=fun S=>by
  refine Yy rfl ?_;unfold L2.atI;rw [Wd (by omega) (by omega),CH,BN,hl,Ap (by rw [AC];exact AG _),AC,CS]
  rfl
 have eb:=QO (qN (fa:=qA (qB 0) (qA (qB 1) (qA (qI gIx (qB 2) (qB 4)) qC))) (r:=[some (.tup (F.map cP)),some (.int L),some (.tup l),some (.lst ((cells L pre).map cP)),some (.int (pre.length:Int))]) (l:=[.tup (F.map cP),.int L,p]) (qJ rfl (qJ rfl (qJ (qQ rfl rfl (ei st)) qX))) (qFu (a:=a) (F:=F) (st:=st) h1 (by omega) hp))
 unfold jr;cases hb:Q8 F L p with
 |false=>rw [hb] at eb;exact q9 (QU (zj (w_not eb)) (QD rfl))
 |true =>
  rw [hb] at eb;rw [Bool.true_and];have hpb:=(yi hb).1;have eg:vTB (qI gGt (qB 4) (vC (.int 0))) [some (.tup (F.map cP)),some (.int L),some (.tup l),some (.lst ((cells L pre).map cP)),some (.int (pre.length:Int))] st = .ok (decide ((pre.length:Int) > 0)) st:=wf (qQ rfl rfl qIQ);have fin:∀ {k:Bool},Wb (Qn (QM (qH (wP a) (qA (qB 0) (qA (qB 1) (qA (qI gIx (qB 2) (qB 4)) qC)))))) (WS (vTB (qI gGt (qB 4) (vC (.int 0)))) (Qn (vTB (qI Yi (qI gIx (qB 2) (qI Wt (qB 4) (vC (.int 1)))) (qI gIx (qB 2) (qB 4)))))) [some (.tup (F.map cP)),some (.int L),some (.tup l),some (.lst ((cells L pre).map cP)),some (.int (pre.length:Int))] st = .ok (!k) st->(qP (Qc (Wb (Qn (QM (qH (wP a) (qA (qB 0) (qA (qB 1) (qA (qI gIx (qB 2) (qB 4)) qC)))))) (WS (vTB (qI gGt (qB 4) (vC (.int 0)))) (Qn (vTB (qI Yi (qI gIx (qB 2) (qI Wt (qB 4) (vC (.int 1)))) (qI gIx (qB 2) (qB 4))))))) (ql (vC (.bl false))) QL) (qY 3 (vFz (ZO (qB 3) (qH (QZ a) (qA (qI gIx (qB 2) (qB 4)) (qA (qB 1) qC))))))) [some (.tup (F.map cP)),some (.int L),some (.tup l),some (.lst ((cells L pre).map cP)),some (.int (pre.length:Int))] st=if k=true then .nx [some (.tup (F.map cP)),some (.int L),some (.tup l),some (.lst ((cells L (pre++[unB p])).map cP)),some (.int (pre.length:Int))] st else .rt (.bl false) st:=fun {k} h=>by
   cases k with
   |false=>exact q9 (QU h (QD rfl))
   |true =>
    have ec:(cells L (pre++[unB p])).map cP=(cells L pre).map cP++(cov L (unB p)).map cP:=by unfold cells;rw [List.flatMap_append,A9,List.flatMap_singleton]
    rw [AF rfl,ec];have hcv:=Zp (a:=a) (b:=unB p) (L:=L) (st:=st) h1 (by omega)
    rw [← hpb] at hcv;exact qU (Qf h rfl) (QB (wb (YZ rfl (qN (l:=[p,.int L]) (qJ (qQ rfl rfl (ei st)) (qJ rfl qX)) hcv) rfl rfl (by rw [AC,AC,Wi,We];have:L.toNat * pre.length≤5 * 59:=Nat.mul_le_mul (by omega) (by omega);exact WP (by omega)))))
  cases hg:pre.getLast? with
  |none =>have hpre:pre=[]:=List.getLast?_eq_none_iff.mp hg;refine fin (k:=true) (Qq (w_not eb) (JA (eg.trans ?_)));rw [hpre];rfl
  |some b =>
   have hpos:0 < pre.length:=by
    cases hpr:pre with
    |nil=>rw [hpr] at hg;cases hg
    |cons c l=>rw [AH];omega
   have hgl:pre[pre.length - 1]? = some b:=by rw [← List.getLast?_eq_getElem?];exact hg
   have ei2:gIx (.tup l) (.int ((pre.length:Int) - 1)) st = .ok (bP b) st:=by
    refine Yy rfl ?_;unfold L2.atI;rw [Wd (by omega) (by omega),CH,show ((pre.length:Int) - 1).toNat=pre.length - 1 by omega,hl,Af (by rw [AC];omega),Au,hgl]
    rfl
   have ei3:=ei st;rw [hpb] at ei3;have el:vTB (qI Yi (qI gIx (qB 2) (qI Wt (qB 4) (vC (.int 1)))) (qI gIx (qB 2) (qB 4))) [some (.tup (F.map cP)),some (.int L),some (.tup l),some (.lst ((cells L pre).map cP)),some (.int (pre.length:Int))] st = .ok (zR b (unB p)) st:=wf (qQ (qQ rfl (qQ rfl rfl YL) ei2) (qQ rfl rfl ei3) qI2);rw [AR (by omega)] at eg
   exact fin (k:=zR b (unB p)) (Qq (w_not eb) (ya eg (w_not el)))
def ixs (k n:Nat):List PV:=(List.range n).map fun i => .int ((k + i:Nat):Int)
theorem qDa {k n:Nat}:ixs k (n + 1) = .int (k:Int)::ixs (k + 1) n:=by unfold ixs;rw [B2,Aj,A5,Nat.add_zero];congr 1;refine A4 fun i _ => ?_;show PV.int ((k + (i + 1):Nat):Int)=PV.int ((k + 1 + i:Nat):Int);rw [show k + (i + 1)=k + 1 + i by omega]
theorem qJW {n:Nat}:ixs 0 n=(WA (n:Int)).map PV.int:=by unfold ixs WA;rw [A5,BN];refine A4 fun i _ => ?_;show PV.int ((0 + i:Nat):Int)=PV.int (i:Int);rw [Nat.zero_add]
theorem qBT {a:Ad} {F:List qc} {L:Int} {l:List PV} {st:qD} (h1:0≤L) (h2:L≤5) (hn:l.length≤59):∀ (rest:List PV) (pre:List Bar) (x4:Option PV),(∀ p∈rest,okP p=true)->l=pre.map bP++rest ->
  (YS F L pre.getLast? rest=true -> ∃ y4,Qt (fun _=>True) (qr 4) (jr a) (ixs pre.length rest.length) [some (.tup (F.map cP)),some (.int L),some (.tup l),some (.lst ((cells L pre).map cP)),x4] st = .nx [some (.tup (F.map cP)),some (.int L),some (.tup l),some (.lst ((cells L (pre++rest.map unB)).map cP)),y4] st) ∧
  (YS F L pre.getLast? rest=false->Qt (fun _=>True) (qr 4) (jr a) (ixs pre.length rest.length) [some (.tup (F.map cP)),some (.int L),some (.tup l),some (.lst ((cells L pre).map cP)),x4] st = .rt (.bl false) st)
 |[],pre,x4,_,_=>⟨fun _=>⟨x4,by rw [List.map_nil,BP];exact Qx trivial⟩,fun h=>by cases h⟩
 |p::rest,pre,x4,hk,hl=>by
  have et:=qFa (a:=a) (F:=F) (L:=L) (st:=st) h1 h2 (hk p AL) hl hn;rw [AH,qDa];rw [YG,← Bool.and_assoc];cases hc:(Q8 F L p&&(match pre.getLast? with |none=>true |some b=>zR b (unB p))) with
  |false =>rw [hc] at et;exact ⟨fun h=>(by cases h),fun _=>qCV trivial rfl et⟩
  |true =>
   rw [hc,AF rfl] at et;have hb:=(AV _ _).mp hc;have hpb:=(yi hb.1).1;obtain ⟨i1,i2⟩:=qBT (a:=a) (F:=F) (L:=L) (l:=l) (st:=st) h1 h2 hn rest (pre++[unB p]) (some (.int (pre.length:Int))) (fun q hq=>hk q (AE _ hq)) (by rw [hl,A9,A2];show _=pre.map bP++(bP (unB p)::rest);rw [← hpb])
   rw [List.getLast?_append,AQ,As] at i1 i2;rw [Bool.true_and];refine ⟨fun h => ?_,fun h=>WW trivial rfl et (i2 h)⟩;obtain ⟨y,ey⟩:=i1 h;rw [A2] at ey;exact ⟨y,WW trivial rfl et ey⟩
theorem qER {F:List qc} {L:Int}:∀ (l:List PV) (b:Bar),YS F L (some b) l=(l.all (Q8 F L)&&zg (b::l.map unB))
 |[],b=>rfl
 |p::l,b=>by rw [YG,qER l (unB p),Bc,Aj,zg];show (Q8 F L p&&(zR b (unB p)&&(l.all (Q8 F L)&&zg (unB p::l.map unB))))=_;cases Q8 F L p <;> cases zR b (unB p) <;> cases l.all (Q8 F L) <;> rfl
theorem qF9 {F:List qc} {L:Int}:∀ l:List PV,YS F L none l=(l.all (Q8 F L)&&zg (l.map unB))
 |[]=>rfl
 |p::l=>by rw [YG,qER l (unB p),Bc,Aj];show (Q8 F L p&&(true&&(l.all (Q8 F L)&&zg (unB p::l.map unB))))=_;cases Q8 F L p <;> cases l.all (Q8 F L) <;> rfl
theorem jC {F:List qc} {L:Int} (hF:∀ c∈F,In8 c) (h1:2≤L):∀ l:List PV,l.all (Q8 F L)=(l.all W3&&l.all fun p=>inF F L (unB p))
 |[]=>rfl
 |p::l=>by rw [Bc,Bc,Bc,jC hF h1 l,qES hF h1];cases W3 p <;> cases inF F L (unB p) <;> cases l.all W3 <;> rfl
theorem qD4 {a:Ad} {F:List qc} {L:Int} {v:PV} {st:qD} (hF:∀ c∈F,In8 c) (h1:2≤L) (h2:L≤5) (hv:okV v=true):wZ a [.tup (F.map cP),.int L,v] st = .ok (.bl (Yf F L v)) st:=by
 have e1:=yh (a:=a) (st:=st) (jP hv);cases v with
 |tup l =>
  have e1:QY (kit a) [.tup l,.ty "tuple"] st = .ok (.bl true) st:=e1;have hv:(Nat.ble l.length 59&&l.all okP)=true:=hv;rw [AV,At] at hv;have hl:l.length≤59:=Bk hv.1;obtain ⟨i1,i2⟩:=qBT (a:=a) (F:=F) (L:=L) (l:=l) (st:=st) (by omega) h2 hl l [] none hv.2 rfl
  have hz:ixs 0 l.length=(WA (l.length:Int)).map PV.int:=qJW;have i1:YS F L none l=true->_:=i1;have i2:YS F L none l=false->_:=i2;have hp:Yf F L (.tup l)=(YS F L none l&&Zk (cells L (l.map unB))):=by show (l.all W3&&(zg (l.map unB)&&(l.all (fun p=>inF F L (unB p))&&Zk (cells L (l.map unB)))))=_;have ha:=jC (L:=L) hF h1 l;rw [qF9,ha];cases l.all W3 <;> cases l.all (fun p=>inF F L (unB p)) <;> cases zg (l.map unB) <;> rfl
  rw [hp];refine qu rfl (qU (Qf (w_not (b:=true) (QO (qN (l:=[.tup l,.ty "tuple"]) rfl e1))) rfl) (qU (QB rfl) ?_));have hit:WC (qA (qH wB (qA (qB 2) qC)) qC) [some (.tup (F.map cP)),some (.int L),some (.tup l),some (.lst []),none] st = .ok ⟨ixs 0 l.length,fun _=>True⟩ st:=by rw [hz];exact itN (by omega) (by omega) (qJ (qN (l:=[.tup l]) rfl (zC rfl rfl)) qX)
  cases hc:YS F L none l with
  |false=>exact q9 (ZL hit (i2 hc))
  |true =>obtain ⟨y,ey⟩:=i1 hc;exact qU (ZL hit ey) (QD (qEc rfl (by rw [Wi];show L.toNat * (l.map unB).length≤299;rw [AC];have:L.toNat * l.length≤5 * 59:=Nat.mul_le_mul (by omega) hl;omega)))
 |_=>first |(cases hv;done) |exact qu rfl (q9 (QU (w_not (b:=false) (QO (qN (l:=[_,.ty "tuple"]) rfl e1))) (QD rfl)))
def yM (F:List qc) (L:Int) (v:PV):Bool:=Yf F L v&&(match v with | .tup l=>(l.length:Int) * L==(F.length:Int) |_=>false)
theorem qDk {F:List qc} {L:Int} {v:PV} (h:Yf F L v=true):∃ l,v = .tup l∧l.all W3=true:=by
 cases v with
 |tup l =>have h:(l.all W3&&_)=true:=h;rw [AV] at h;exact ⟨l,rfl,h.1⟩
 |_=>cases h
theorem qHj {F:List qc} {L:Int} {l:List PV} {r:qv} {st:qD} {f g h:FE} (hL:-(2 ^ 64) < L∧L < 2 ^ 64) (h1:f r st = .ok (.tup l) st) (h2:g r st = .ok (.int L) st) (h3:h r st = .ok (.tup (F.map cP)) st):qI gEq (qI zG (qH wB (qA f qC)) g) (qH wB (qA h qC)) r st = .ok (.bl ((l.length:Int) * L==(F.length:Int))) st :=
 qQ (qQ (qN (qJ h1 qX) (zC rfl rfl)) h2 (qAq hL)) (qN (qJ h3 qX) (zC rfl (by rw [AC]))) ZM
theorem qGM {F:List qc} {L:Int} {v:PV} {r:qv} {st:qD} {e f g h:FE} (hL:-(2 ^ 64) < L∧L < 2 ^ 64) (h0:e r st = .ok (.bl (Yf F L v)) st) (h1:f r st = .ok v st) (h2:g r st = .ok (.int L) st) (h3:h r st = .ok (.tup (F.map cP)) st):Zc e (qI gEq (qI zG (qH wB (qA f qC)) g) (qH wB (qA h qC))) r st = .ok (.bl (yM F L v)) st:=by
 unfold yM;cases hp:Yf F L v with
 |false=>rw [hp] at h0;exact qC8 h0
 |true =>rw [hp] at h0;obtain ⟨l,rfl,_⟩:=qDk hp;rw [Bool.true_and];exact qG3 h0 (qHj hL h1 h2 h3)
theorem ZP {a:Ad} {F:List qc} {L:Int} {v:PV} {st:qD} (h1:2≤L) (h2:L≤5) (hv:okV v=true):QW a [.tup (F.map cP),.int L,v] st = .ok (.bl (yM F L v)) st :=
 qu rfl (QD (qGM (by omega) (qN (l:=[.tup (F.map cP),.int L,v]) rfl (qAg h1 h2 hv)) rfl rfl rfl))
theorem qA2 {a:Ad} {F v u:PV} {st:qD} (hu:wY u=true) (nu:qq 2 5 u=false):QW a [F,u,v] st = .ex ⟨a.Z1,[]⟩ st:=by refine Y8 rfl (qCq ?_);unfold Zc;rw [qN (l:=[F,u,v]) rfl (qAw hu nu)];rfl
theorem qBj {α:Type} [DecidableEq α]:∀ {G F:List α},G.Nodup->(∀ c∈G,c∈F)->G.length≤F.length
 |[],_,_,_=>A3 _
 |c::G,F,hn,hs=>by
  have hn':=BE.mp hn;have hc:=hs c AL;have ih:=qBj (G:=G) (F:=F.erase c) hn'.2 fun d hd=>by
   have hne:d≠c:=fun z=>hn'.1 (by rw [← z];exact hd)
   exact (List.mem_erase_of_ne hne).mpr (hs d (AE _ hd))
  rw [List.length_erase_of_mem hc] at ih
  have:0 < F.length:=List.length_pos_of_mem hc
  rw [AH];omega
theorem qAf {C:List qc} (h:C.Nodup):Zk C=true:=by
 have h1:=qE2 C;have h2:(C.map cL).Nodup:=List.Pairwise.map _ (fun a b hab z=>hab (by
  have z:[a.1,a.2]=[b.1,b.2]:=z;injection z with z1 z2;injection z2 with z2 _;exact Prod.ext z1 z2)) h
 have h3:=qBj (F:=ddT (C.map cL)) h2 fun c hc=>ddT_in.mpr hc;rw [AC] at h3;unfold Zk;rw [BF];omega
theorem W9 (l:List Bar):(wV l).Perm l:=by unfold wV;have h:=(WV (l.map bL)).map lB;rw [A5] at h;have e:l.map (lB ∘ bL)=l:=(A4 fun b _=>rfl).trans (List.map_id l);rw [e] at h;exact h
theorem qFx (l:List Bar):(wV l).map bL=srt (l.map bL):=by unfold wV;rw [A5];refine (A4 fun x hx => ?_).trans (List.map_id _);obtain ⟨c,_,rfl⟩:=AX.mp ((WV _).mem_iff.mp hx);rfl
theorem qIS {b c:Bar} (h:lxb (bL c) (bL b)=false) (hne:b≠c):zR b c=true:=by
 obtain ⟨b1,b2,b3⟩:=b;obtain ⟨c1,c2,c3⟩:=c;have h:(if c1 < b1 then true else if b1 < c1 then false else if c2 < b2 then true else if b2 < c2 then false else if c3 < b3 then true else if b3 < c3 then false else false)=false:=h;unfold zR;dsimp only;by_cases e1:b1=c1
 ·subst e1;rw [AK (CI _),AK (CI _)] at h;rw [AF rfl];by_cases e2:b2=c2
  ·subst e2;rw [AK (CI _),AK (CI _)] at h;rw [AF rfl];by_cases e3:c3 < b3
   ·rw [AF e3] at h;cases h
   ·have:b3≠c3:=fun z=>hne (by rw [z])
    exact AR (by omega)
  ·rw [AK e2];by_cases e3:c2 < b2
   ·rw [AF e3] at h;cases h
   ·exact AR (by omega)
 ·rw [AK e1];by_cases e3:c1 < b1
  ·rw [AF e3] at h;cases h
  ·exact AR (by omega)
theorem qCl {l:List Bar} (h:l.Nodup):zg (wV l)=true:=by
 rw [YM];intro i hi;have hn:(wV l).Nodup:=(W9 l).nodup_iff.mpr h;have hp:=qET (l.map bL);rw [← qFx,List.pairwise_map] at hp;refine qIS (Bo.mp hp i (i + 1) (by omega) hi (by omega)) ?_
 exact Bo.mp hn i (i + 1) (by omega) hi (by omega)
theorem qFU {b:Bar} (h:OKB b):W3 (bP b)=true:=by
 unfold OKB at h;show (qq (-40) 40 (.int b.1)&&(qq (-40) 40 (.int b.2.1)&&qq 0 1 (.int b.2.2)))=true;rw [wJ,wJ,wJ,AR (by omega),AR (by omega),AR (by omega),AR (by omega),AR (by omega),AR (by omega)]
 rfl
theorem qFs {l:List Bar}:(l.map bP).map unB=l:=by rw [A5];exact (A4 fun b _=>rfl).trans (List.map_id l)
theorem qCT {L:Int} {bars:List Bar} {C:List qc} (h1:2≤L) (I:qAT L bars C):yM (w9 C) L (.tup ((wV bars).map bP))=true:=by
 obtain ⟨i1,i2,i3,i4,i5⟩:=I;have hm:∀ b,b∈wV bars ↔ b∈bars:=fun b=>(W9 bars).mem_iff;show ((((wV bars).map bP).all W3&&(zg (((wV bars).map bP).map unB)&&(((wV bars).map bP).all (fun p=>inF (w9 C) L (unB p))&&Zk (cells L (((wV bars).map bP).map unB)))))&&((((wV bars).map bP).length:Int) * L==((w9 C).length:Int)))=true;have a1:((wV bars).map bP).all W3=true:=At.mpr fun p hp=>by obtain ⟨b,hb,rfl⟩:=AX.mp hp;exact qFU (i4 b ((hm b).mp hb))
 have a3:((wV bars).map bP).all (fun p=>inF (w9 C) L (unB p))=true:=At.mpr fun p hp=>by obtain ⟨b,hb,rfl⟩:=AX.mp hp;show (cov L b).all _=true;refine At.mpr fun c hc=>AR (mem_srtC.mpr ?_);rw [i1];exact List.mem_flatMap.mpr ⟨b,(hm b).mp hb,hc⟩
 have hp:(cells L (wV bars)).Perm C:=by rw [i1];exact (W9 bars).flatMap_right _
 have a4:Zk (cells L (wV bars))=true:=qAf (hp.nodup_iff.mpr i2);have hl:C.length=L.toNat * bars.length:=by rw [i1];exact Wi
 have a5:((((wV bars).map bP).length:Int) * L==((w9 C).length:Int))=true:=by rw [BF,AC,(W9 bars).length_eq,YY,hl];rw [Int.natCast_mul,CL (by omega),Int.mul_comm]
 rw [qFs,a1,qCl i3,a3,a4,a5];rfl
theorem qDT {i:Nat} {f:FE} {r:qv} {st s1:qD} {x:Exc} (h:f r st = .ex x s1):qY i f r st = .ex x s1:=by unfold qY;rw [h];rfl
theorem qFP {a:Ad} {F v u:PV} {st:qD} {z:PV} (e:QW a [F,u,v] st = .ok z st):wg a [F,u,v] st = .ok z st :=
 qu rfl (qU (QB rfl) (qU (qEP (QB (qN (l:=[F,u,v]) rfl e))) (QD rfl)))
theorem qGq {a:Ad} {F v u:PV} {st:qD} {C:Addr} {z:PV} (e:QW a [F,u,v] st = .ex ⟨C,[]⟩ st) (hC:C∈Qp a) (hk:Wl a [.exc C []] st = .ok z st):wg a [F,u,v] st = .ok z st :=
 qu rfl (qU (QB rfl) (qU (qCh (r1:=[none,none,none,some z,some (.exc C [])]) (qDT (qN (l:=[F,u,v]) rfl e)) hC (QB (qN (l:=[.exc C []]) rfl hk))) (QD rfl)))
theorem qH6 (a:Ad):a.Z1∈Qp a:=by unfold Qp;simp
theorem qJd {b:Bool} {st:qD}:gNe (.bl b) (.bl b) st = .ok (.bl false) st:=by cases b <;> rfl
abbrev ZH:=List Bar×List qc
def nP (w:ZH):PV := .tup [.tup (w.1.map bP),.lst (w.2.map cP)]
def fP (b:List Bar):PV := .tup (b.map bP)
theorem qJw (w:ZH):nr (nP w)=true:=by show (nrs (w.1.map bP)&&(nrs (w.2.map cP)&&true))=true;rw [JS,qBn];rfl
theorem qGf:∀ l:List ZH,nrs (l.map nP)=true
 |[]=>rfl
 |w::l=>by rw [Aj,nrs,qGf l,qJw];rfl
theorem qDs:∀ l:List ZH,deps (l.map nP)≤4
 |[]=>A3 _
 |w::l=>by
  rw [Aj,deps]
  have:=qDs l
  have h1:=YQ w.1;have h2:=JF w.2;have h:dep (nP w)=max (deps (w.1.map bP) + 1) (max (deps (w.2.map cP) + 1) 0) + 1:=rfl;omega
theorem qGX:∀ l:List (List Bar),nrs (l.map fP)=true
 |[]=>rfl
 |w::l=>by rw [Aj,nrs,qGX l,show nr (fP w)=nrs (w.map bP) from rfl,JS];rfl
theorem qC3:∀ l:List (List Bar),deps (l.map fP)≤3
 |[]=>A3 _
 |w::l=>by
  rw [Aj,deps]
  have:=qC3 l
  have h1:=YQ w;have h:dep (fP w)=deps (w.map bP) + 1:=rfl;omega
theorem qBm {l:List PV} {p:PV} {st:qD} (h:res st p = .lst l) (h1:nrs l=true) (h2:deps l≤10):gNe p (.lst []) st = .ok (.bl (!l.isEmpty)) st:=by
 have h3:ZN (.lst l) (.lst [])=true:=by show (nrs l&&true&&decide (deps l + 1≤ZG))=true;rw [h1,AR (Aa (CG h2) (by decide))];rfl
 unfold gNe;rw [h];show (if ZN (.lst l) (.lst [])=true then Rs.ok (PV.bl (!peq (PV.lst l) (PV.lst []))) st else Rs.no)=_;rw [AF h3];cases l <;> rfl
theorem qGU {S:qD} {x y:SO}:(S++[x,y])[S.length]? = some x:=by simp
theorem qBJ {S:qD} {x y:SO}:(S++[x,y])[S.length + 1]? = some y:=by simp
theorem qHQ {S:qD} {x y z:SO}:(S++[x,y]).set S.length z=S++[z,y]:=by rw [Bl _ _ (AG _),CS];rfl
theorem qDl {S:qD} {x y z:SO}:(S++[x,y]).set (S.length + 1) z=S++[x,z]:=by rw [Bl _ _ (by omega),show S.length + 1 - S.length=1 by omega];rfl
def wt (w:ZH):Nat:=2 ^ (w.2.length / 2 + 1) - 1
def pot (ws:List ZH):Nat:=(ws.map wt).sum
theorem jx {u v:List ZH}:pot (u++v)=pot u + pot v:=by unfold pot;rw [A9,List.sum_append]
theorem Zt {w:ZH}:pot [w]=wt w:=by unfold pot;simp
theorem Jc {w v:ZH} (h:v.2.length + 2≤w.2.length):2 * wt v + 1≤wt w:=by
 unfold wt;have h1:2 ^ (v.2.length / 2 + 1)≤2 ^ (w.2.length / 2):=Bn (by decide) (by omega)
 have h2:2 ^ (w.2.length / 2 + 1)=2 * 2 ^ (w.2.length / 2):=by rw [Nat.pow_succ,Nat.mul_comm]
 have h3:0 < 2 ^ (v.2.length / 2 + 1):=Nat.pow_pos (by decide)
 omega
theorem jj {w:ZH}:1≤wt w:=by
 unfold wt
 have:2 ^ 1≤2 ^ (w.2.length / 2 + 1):=Bn (by decide) (by omega)
 omega
theorem qBd {p:qc->Bool} {x y:qc} (hxy:x≠y) (hx:p x=false) (hy:p y=false):∀ {l:List qc},x∈l->y∈l->(l.filter p).length + 2≤l.length
 |[],h,_=>by cases h
 |a::l,h1,h2=>by
  have one:∀ {z:qc},p z=false->z∈l->(l.filter p).length + 1≤l.length:=fun {z} hz hm=>List.length_filter_lt_length_iff_exists.mpr ⟨z,hm,by rw [hz];simp⟩
  rw [CF,AH];rcases AJ.mp h1 with e1 |e1
  ·subst e1;have hm:y∈l:=(AJ.mp h2).elim (fun z=>absurd z.symm hxy) id
   have:=one hy hm
   rw [hx,AK (by simp)];omega
  ·rcases AJ.mp h2 with e2 |e2
   ·subst e2
    have:=one hx e1
    rw [hy,AK (by simp)];omega
   ·have ih:=qBd hxy hx hy e1 e2;split
    ·rw [AH];omega
    ·omega
theorem qE8 {L:Int} {b:Bar} (hL:2≤L) (hw:b.2.2=0∨b.2.2=1):yY b 0∈cov L b∧yY b 1∈cov L b∧yY b 0≠yY b 1:=by
 refine ⟨AX.mpr ⟨0,upto_mem.mpr ⟨by decide,by omega⟩,rfl⟩,AX.mpr ⟨1,upto_mem.mpr ⟨by decide,by omega⟩,rfl⟩,fun z => ?_⟩
 unfold yY at z;injection z with z1 z2;rcases hw with w |w
 ·rw [w] at z2;omega
 ·rw [w] at z1;omega
theorem ix0 {c:qc} {cs:List qc} {T:qD}:gIx (.lst ((c::cs).map cP)) (.int 0) T = .ok (cP c) T:=by
 refine Yy rfl ?_;unfold L2.atI;rw [Wd (Int.le_refl 0) (by rw [AC,AH];omega)]
 rfl
def JE (a:Ad):FS:=(qP (qY 7 (qH (QZ a) (qA (qI Q9 (qI gIx (qB 5) (vC (.int 0))) (qe (qA (qB 6) qC))) (qA (qB 1) qC)))) (Qc (vTB (qI gEq (vFz (QN [5] 1 (q5 (qB 7)) (Qe 1) [(vTB (qI (gIn true) (qB 1) (qB 0)))] [] (qB 1))) (vFz (QP qC)))) (Qa (qB 3) (qe (qA (qI Q9 (qB 4) (qe (qA (qI Q9 (qI gIx (qB 5) (vC (.int 0))) (qe (qA (qB 6) qC))) qC))) (qA (vFz (QN [7] 1 (q5 (qB 5)) (Qe 1) [(vTB (qI (gIn true) (qB 1) (qB 0)))] [] (qB 1))) qC)))) QL))
theorem qBr {a:Ad} {S:qD} {x:SO} {L wy:Int} {bs:List Bar} {c:qc} {cs:List qc} {ws:List ZH} {x0 x7:Option PV} (hL1:2≤L) (hL2:L≤5) (hwy:wy=0∨wy=1) (hbs:bs.length≤100) (hcs:(c::cs).length≤100) (hws:ws.length≤5000) :
  ∃ (ws':List ZH) (y7:Option PV),(ws'=ws ∨ ∃ v:ZH,ws'=ws++[v]∧v.1.length=bs.length + 1∧v.2.length + 2≤(c::cs).length) ∧
   JE a [x0,some (.int L),some (.ref S.length),some (.ref (S.length + 1)),some (fP bs),some (.lst ((c::cs).map cP)),some (.int wy),x7] (S++[x,.l (ws.map nP)]) = .nx [x0,some (.int L),some (.ref S.length),some (.ref (S.length + 1)),some (fP bs),some (.lst ((c::cs).map cP)),some (.int wy),y7] (S++[x,.l (ws'.map nP)]):=by
 let b:Bar:=(c.1,c.2,wy);let C:=cov L b;let R:qv:=[x0,some (.int L),some (.ref S.length),some (.ref (S.length + 1)),some (fP bs),some (.lst ((c::cs).map cP)),some (.int wy),some (.lst (C.map cP))];have hlen:(C.map cP).length≤sizeLine:=by rw [AC];show (cov L b).length≤_;rw [We];exact WP (by omega)
 have eb:∀ (r7:Option PV) (T:qD),qI Q9 (qI gIx (qB 5) (vC (.int 0))) (qe (qA (qB 6) qC)) [x0,some (.int L),some (.ref S.length),some (.ref (S.length + 1)),some (fP bs),some (.lst ((c::cs).map cP)),some (.int wy),r7] T = .ok (bP b) T:=fun r7 T=>qQ (qQ rfl rfl ix0) (wq (qJ rfl qX) (sz rfl)) (Za (l:=[.int c.1,.int c.2]) (m:=[.int wy]) (show 2 + 1≤1000 by decide))
 have f3:vTB (qI gEq (vFz (QN [5] 1 (q5 (qB 7)) (Qe 1) [(vTB (qI (gIn true) (qB 1) (qB 0)))] [] (qB 1))) (vFz (QP qC))) R (S++[x,.l (ws.map nP)]) = .ok (C.filter fun d => !decide (d∈c::cs)).isEmpty (S++[x,.l (ws.map nP)]):=by
  refine wf (qQ (wb ?_) rfl eq_nil);rw [Wa (w:=⟨C.map cP,fun _=>True⟩) (c:=fun p => !decide (unC p∈c::cs)) (wI rfl) trivial hlen fun p hp => ?_]
  ·rw [Zf (d:=fun d => !decide (d∈c::cs)) fun x _=>rfl]
  ·obtain ⟨d,_,rfl⟩:=AX.mp hp;exact ⟨[some (.lst ((c::cs).map cP)),some (cP d)],rfl,wf (qQ rfl rfl (qEe (neg:=true) rfl)),rfl⟩
 have pre:∀ {o:RS},(Qc (vTB (qI gEq (vFz (QN [5] 1 (q5 (qB 7)) (Qe 1) [(vTB (qI (gIn true) (qB 1) (qB 0)))] [] (qB 1))) (vFz (QP qC)))) (Qa (qB 3) (qe (qA (qI Q9 (qB 4) (qe (qA (qI Q9 (qI gIx (qB 5) (vC (.int 0))) (qe (qA (qB 6) qC))) qC))) (qA (vFz (QN [7] 1 (q5 (qB 5)) (Qe 1) [(vTB (qI (gIn true) (qB 1) (qB 0)))] [] (qB 1))) qC)))) QL) R (S++[x,.l (ws.map nP)])=o->JE a [x0,some (.int L),some (.ref S.length),some (.ref (S.length + 1)),some (fP bs),some (.lst ((c::cs).map cP)),some (.int wy),x7] (S++[x,.l (ws.map nP)])=o:=fun {o} h=>by unfold JE;exact qU (QB (qN (l:=[bP b,.int L]) (qJ (eb x7 _) (qJ rfl qX)) (Zp (by omega) (by omega)))) h
 cases hq:(C.filter fun d => !decide (d∈c::cs)).isEmpty with
 |false=>rw [hq] at f3;exact ⟨ws,some (.lst (C.map cP)),.inl rfl,pre (Qf f3 rfl)⟩
 |true =>
  rw [hq] at f3;let lf:=(c::cs).filter fun d => !decide (d∈C);have hin:∀ d∈C,d∈c::cs:=fun d hd=>by
   have:=List.filter_eq_nil_iff.mp (List.isEmpty_iff.mp hq) d hd
   by_cases z:d∈c::cs
   ·exact z
   ·rw [Ae z] at this;exact absurd rfl this
  obtain ⟨c0,c1,cne⟩:=qE8 (L:=L) (b:=b) hL1 hwy;have hlf:lf.length + 2≤(c::cs).length:=qBd cne (by rw [AR c0];rfl) (by rw [AR c1];rfl) (hin _ c0) (hin _ c1)
  have f4:vFz (QN [7] 1 (q5 (qB 5)) (Qe 1) [(vTB (qI (gIn true) (qB 1) (qB 0)))] [] (qB 1)) R (S++[x,.l (ws.map nP)]) = .ok (.lst (lf.map cP)) (S++[x,.l (ws.map nP)]):=by
   refine wb ?_;rw [Wa (w:=⟨(c::cs).map cP,fun _=>True⟩) (c:=fun p => !decide (unC p∈C)) (wI rfl) trivial (by rw [AC];exact WP (by omega)) fun p hp => ?_]
   ·rw [Zf (d:=fun d => !decide (d∈C)) fun x _=>rfl]
   ·obtain ⟨d,_,rfl⟩:=AX.mp hp;exact ⟨[some (.lst (C.map cP)),some (cP d)],rfl,wf (qQ rfl rfl (qEe (neg:=true) rfl)),rfl⟩
  refine ⟨ws++[(bs++[b],lf)],some (.lst (C.map cP)),.inr ⟨_,rfl,by rw [AQ];rfl,hlf⟩,pre ?_⟩
  have en:qe (qA (qI Q9 (qB 4) (qe (qA (qI Q9 (qI gIx (qB 5) (vC (.int 0))) (qe (qA (qB 6) qC))) qC))) (qA (vFz (QN [7] 1 (q5 (qB 5)) (Qe 1) [(vTB (qI (gIn true) (qB 1) (qB 0)))] [] (qB 1))) qC)) R (S++[x,.l (ws.map nP)]) = .ok (nP (bs++[b],lf)) (S++[x,.l (ws.map nP)]):=by
   have e0:nP (bs++[b],lf) = .tup [.tup (bs.map bP++[bP b]),.lst (lf.map cP)]:=by show PV.tup [.tup ((bs++[b]).map bP),.lst (lf.map cP)]=_;rw [A9];rfl
   rw [e0];exact wq (qJ (qQ rfl (wq (qJ (eb _ _) qX) (sz rfl)) (Za (by rw [AC];show bs.length + 1≤1000;omega))) (qJ f4 qX)) (sz rfl)
  have ea:=Ye (fo:=qB 3) (r:=R) (st:=S++[x,.l (ws.map nP)]) (n:=S.length + 1) rfl (qHa qBJ) en qBJ (by rw [AC];exact BY hws (by decide))
  rw [qDl,show ws.map nP++[nP (bs++[b],lf)]=(ws++[(bs++[b],lf)]).map nP by rw [A9];rfl] at ea
  exact QU f3 ea
def NOK (w:ZH):Prop:=2 * w.1.length + w.2.length≤17
def qCy:FT:=(vTB (qI gNe (qB 3) (vFz (QP qC))))
def qDw (a:Ad):FS:=(qP (Ww (qCS (qB 3)) (ZS 2 (QX (qr 4) (QX (qr 5) Zr)))) (Qc (vTB (qI gEq (qB 5) (vFz (QP qC)))) (Qa (qB 2) (qB 4)) (WX (q5 (qe (qA (vC (.int 1)) (qA (vC (.int 0)) qC)))) (qr 6) (JE a))))
theorem Z8 {a:Ad} {S:qD} {L:Int} {x0:Option PV} (hL1:2≤L) (hL2:L≤5):∀ (n:Nat) (ws:List ZH) (fs:List (List Bar)) (x4 x5 x6 x7:Option PV),(∀ w∈ws,NOK w)->(∀ f∈fs,f.length≤8)->pot ws < n->fs.length + pot ws≤3000 ->
  ∃ (fs':List (List Bar)) (y4 y5 y6 y7:Option PV),(∀ f∈fs',f.length≤8)∧fs'.length≤3000∧WK qCy (qDw a) n [x0,some (.int L),some (.ref S.length),some (.ref (S.length + 1)),x4,x5,x6,x7] (S++[.l (fs.map fP),.l (ws.map nP)]) = .nx [x0,some (.int L),some (.ref S.length),some (.ref (S.length + 1)),y4,y5,y6,y7] (S++[.l (fs'.map fP),.l []])
 |0,ws,fs,x4,x5,x6,x7,_,_,h,_=>absurd h (A8 _)
 |n + 1,ws,fs,x4,x5,x6,x7,hw,hf,hp,hb=>by
  have ec:qCy [x0,some (.int L),some (.ref S.length),some (.ref (S.length + 1)),x4,x5,x6,x7] (S++[.l (fs.map fP),.l (ws.map nP)]) = .ok (!(ws.map nP).isEmpty) (S++[.l (fs.map fP),.l (ws.map nP)]):=wf (qQ rfl rfl (qBm (jd qBJ) (qGf ws) (Aa (qDs ws) (by decide))))
  rcases List.eq_nil_or_concat ws with rfl |⟨w0,w,rfl⟩
  ·exact ⟨fs,x4,x5,x6,x7,hf,by omega,qHH ec⟩
  ·rw [List.concat_eq_append] at *;rw [jx,Zt] at hp hb;have hne:((w0++[w]).map nP).isEmpty=false:=by rw [A9];cases w0 <;> rfl
   rw [hne] at ec;obtain ⟨bs,cs⟩:=w;have hN:NOK (bs,cs):=hw _ (A0 _ AL);have hw0:∀ w∈w0,NOK w:=fun w hm=>hw w (B6 _ hm);unfold NOK at hN;dsimp only at hN;have hlast:((w0++[(bs,cs)]).map nP)[((w0++[(bs,cs)]).map nP).length - 1]? = some (nP (bs,cs)):=by
    rw [A9,AQ,AC];show (w0.map nP++[nP (bs,cs)])[w0.length + 1 - 1]? = _;rw [Nat.add_sub_cancel,Ap (by rw [AC];exact AG _),AC,CS]
    rfl
   have hdrop:((w0++[(bs,cs)]).map nP).dropLast=w0.map nP:=by rw [A9];exact List.dropLast_concat
   have epop:=qJM (fo:=qB 3) (r:=[x0,some (.int L),some (.ref S.length),some (.ref (S.length + 1)),x4,x5,x6,x7]) (st:=S++[.l (fs.map fP),.l ((w0++[(bs,cs)]).map nP)]) (n:=S.length + 1) rfl qBJ hlast;rw [hdrop,qDl] at epop;have easg:Ww (qCS (qB 3)) (ZS 2 (QX (qr 4) (QX (qr 5) Zr))) [x0,some (.int L),some (.ref S.length),some (.ref (S.length + 1)),x4,x5,x6,x7] (S++[.l (fs.map fP),.l ((w0++[(bs,cs)]).map nP)]) = .nx [x0,some (.int L),some (.ref S.length),some (.ref (S.length + 1)),some (fP bs),some (.lst (cs.map cP)),x6,x7] (S++[.l (fs.map fP),.l (w0.map nP)]):=Zq epop rfl;have ee:vTB (qI gEq (qB 5) (vFz (QP qC))) [x0,some (.int L),some (.ref S.length),some (.ref (S.length + 1)),some (fP bs),some (.lst (cs.map cP)),x6,x7] (S++[.l (fs.map fP),.l (w0.map nP)]) = .ok cs.isEmpty (S++[.l (fs.map fP),.l (w0.map nP)]):=wf (qQ rfl rfl eq_nil);cases cs with
   |nil =>
    have hf':∀ f∈fs++[bs],f.length≤8:=fun f hm=>by
     rcases Am.mp hm with z |z
     ·exact hf f z
     ·rw [Ai.mp z]
      have:([]:List qc).length=0:=rfl
      omega
    have h1:1≤wt (bs,[]):=jj;obtain ⟨fs',y4,y5,y6,y7,g1,g2,g3⟩:=Z8 (a:=a) (S:=S) (L:=L) (x0:=x0) hL1 hL2 n w0 (fs++[bs]) (some (fP bs)) (some (.lst [])) x6 x7 hw0 hf' (by omega) (by rw [AQ,As];omega)
    refine ⟨fs',y4,y5,y6,y7,g1,g2,qDW ec (qU easg (QU ee ?_)) g3⟩;have ea:=Ye (fo:=qB 2) (f:=qB 4) (r:=[x0,some (.int L),some (.ref S.length),some (.ref (S.length + 1)),some (fP bs),some (.lst (([]:List qc).map cP)),x6,x7]) (st:=S++[.l (fs.map fP),.l (w0.map nP)]) (n:=S.length) rfl (qHa qGU) rfl qGU (by rw [AC];exact BY (show fs.length≤3000 by omega) (by decide))
    rw [qHQ,show fs.map fP++[fP bs]=(fs++[bs]).map fP by rw [A9];rfl] at ea
    exact ea
   |cons c cs =>
    have hcl:(c::cs).length≤17:=by omega
    have hwl:w0.length≤4000:=by
     have:∀ l:List ZH,l.length≤pot l:=fun l=>by
      induction l with
      |nil=>exact A3 _
      |cons v l ih =>
       have:pot (v::l)=wt v + pot l:=by unfold pot;simp
       have:=jj (w:=v)
       rw [AH];omega
     have:=this w0
     omega
    obtain ⟨w1,z7,hor1,e1⟩:=qBr (a:=a) (S:=S) (x := .l (fs.map fP)) (L:=L) (wy:=1) (bs:=bs) (c:=c) (cs:=cs) (ws:=w0) (x0:=x0) (x7:=x7) hL1 hL2 (.inr rfl) (by omega) (by omega) (by omega)
    have hw1:(∀ w∈w1,NOK w)∧2 * pot w1 + 1≤2 * pot w0 + wt (bs,c::cs)∧w1.length≤w0.length + 1:=by
     rcases hor1 with rfl |⟨v,rfl,v1,v2⟩
     ·exact ⟨hw0,by have:=jj (w:=(bs,c::cs));omega,by omega⟩
     ·refine ⟨fun w hm => ?_,?_,by rw [AQ];exact AG _⟩
      ·rcases Am.mp hm with z |z
       ·exact hw0 w z
       ·rw [Ai.mp z];unfold NOK;omega
      ·have:=Jc (w:=(bs,c::cs)) (v:=v) v2
       rw [jx,Zt];omega
    obtain ⟨w2,z7',hor2,e2⟩:=qBr (a:=a) (S:=S) (x := .l (fs.map fP)) (L:=L) (wy:=0) (bs:=bs) (c:=c) (cs:=cs) (ws:=w1) (x0:=x0) (x7:=z7) hL1 hL2 (.inl rfl) (by omega) (by omega) (by omega)
    have hw2:(∀ w∈w2,NOK w)∧2 * pot w2 + 1≤2 * pot w1 + wt (bs,c::cs):=by
     rcases hor2 with rfl |⟨v,rfl,v1,v2⟩
     ·exact ⟨hw1.1,by have:=jj (w:=(bs,c::cs));omega⟩
     ·refine ⟨fun w hm => ?_,?_⟩
      ·rcases Am.mp hm with z |z
       ·exact hw1.1 w z
       ·rw [Ai.mp z];unfold NOK;omega
      ·have:=Jc (w:=(bs,c::cs)) (v:=v) v2
       rw [jx,Zt];omega
    obtain ⟨fs',y4,y5,y6,y7,g1,g2,g3⟩:=Z8 (a:=a) (S:=S) (L:=L) (x0:=x0) hL1 hL2 n w2 fs (some (fP bs)) (some (.lst ((c::cs).map cP))) (some (.int 0)) z7' hw2.1 hf (by omega) (by omega)
    exact ⟨fs',y4,y5,y6,y7,g1,g2,qDW ec (qU easg (Qf ee (ZL (wl (l:=[.int 1,.int 0]) rfl) (WW trivial rfl e1 (WW trivial rfl e2 (Qx trivial)))))) g3⟩
theorem Jt {a:Ad} {F:List qc} {L:Int} {st:qD} (hL1:2≤L) (hL2:L≤5) (hF:F.length≤16):∃ fs:List (List Bar),(∀ f∈fs,f.length≤8)∧fs.length≤3000∧w4 a [.tup (F.map cP),.int L] st = .ok (.ref st.length) (st++[.l (fs.map fP),.l []]):=by
 have hw:wt ([],F)≤511:=by
  unfold wt
  have:2 ^ (F.length / 2 + 1)≤2 ^ 9:=Bn (by decide) (by omega)
  show 2 ^ (F.length / 2 + 1) - 1≤511;omega
 obtain ⟨fs,y4,y5,y6,y7,g1,g2,g3⟩:=Z8 (a:=a) (S:=st) (L:=L) (x0:=some (.tup (F.map cP))) hL1 hL2 2000 [([],F)] [] none none none none (fun w hm=>by rw [Ai.mp hm];unfold NOK;show 2 * 0 + F.length≤17;omega) (fun f hm=>by cases hm) (by rw [Zt];omega) (by rw [Zt];show 0 + _≤3000;omega)
 refine ⟨fs,g1,g2,qu rfl ?_⟩;have e1:(st++[SO.l []]).length=st.length + 1:=by rw [AQ];rfl
 have e2:(st++[SO.l []])++[.l [nP ([],F)]]=st++[.l (([]:List (List Bar)).map fP),.l ([([],F)].map nP)]:=by rw [A2];rfl
 have s2:=qA1 (i:=3) (fl:=QP (qA (qe (qA (qe qC) (qA (vFz (Zd (qB 0))) qC))) qC)) (r:=[some (.tup (F.map cP)),some (.int L),some (.ref st.length),none,none,none,none,none]) (st:=st++[SO.l []]) (l:=[nP ([],F)]) (s1:=st++[SO.l []]) (Wn (qJ (wq (qJ (wq qX (sz rfl)) (qJ (qDx rfl) qX)) (sz rfl)) qX) (sz rfl));rw [e1,e2] at s2;exact qU (qA1 (Wn qX (sz rfl))) (qU s2 (qU g3 (QD rfl)))
def JI (a:Ad):FS:=(qP (qY 12 (qH (wZ a) (qA (qB 9) (qA (qB 3) (qA (qB 11) qC))))) (qP (qY 12 (Zc (qB 12) (qI gEq (qI zG (qH wB (qA (qB 11) qC)) (qB 3)) (qH wB (qA (qB 9) qC))))) (qP (qY 13 (qH (wg a) (qA (qB 9) (qA (qB 3) (qA (qB 11) qC))))) (Qc (Wb (Qn (QM (qH (QY (kit a)) (qA (qB 13) (qA (vC (.ty "bool")) qC))))) (vTB (qI gNe (qB 13) (qB 12)))) (ql (vC (.bl false))) QL))))
theorem qIh {a:Ad} {F:List qc} {L:Int} {v:PV} {S:qD} {x0 x1 x2 x4 x5 x6 x7 x8 x10 x12 x13 x14:Option PV} (h1:2≤L) (h2:L≤5) (hF:∀ c∈F,In8 c) (hv:okV v=true):∃ y12 y13,JI a [x0,x1,x2,some (.int L),x4,x5,x6,x7,x8,some (.tup (F.map cP)),x10,some v,x12,x13,x14] S = .nx [x0,x1,x2,some (.int L),x4,x5,x6,x7,x8,some (.tup (F.map cP)),x10,some v,y12,y13,x14] S:=by
 have e1:=qD4 (a:=a) (F:=F) (st:=S) hF h1 h2 hv;have e2:=qFP (ZP (a:=a) (F:=F) (st:=S) h1 h2 hv);refine ⟨some (.bl (yM F L v)),some (.bl (yM F L v)),?_⟩;unfold JI;refine qU (QB (qN (l:=[.tup (F.map cP),.int L,v]) rfl e1)) ?_;refine qU (QB (qGM (by omega) rfl rfl rfl rfl)) ?_
 refine qU (QB (qN (l:=[.tup (F.map cP),.int L,v]) rfl e2)) ?_;exact Qf (Qq (w_not (b:=true) (QO (qN (l:=[.bl (yM F L v),.ty "bool"]) rfl rfl))) (wf (qQ rfl rfl qJd))) rfl
theorem qBW {a:Ad} {F:List qc} {L:Int} {S:qD} {x0 x1 x2 x4 x5 x6 x7 x8 x10 x14:Option PV} (h1:2≤L) (h2:L≤5) (hF:∀ c∈F,In8 c):∀ (vs:List PV) (x11 x12 x13:Option PV),(∀ v∈vs,okV v=true) -> ∃ y11 y12 y13,Qt (fun _=>True) (qr 11) (JI a) vs [x0,x1,x2,some (.int L),x4,x5,x6,x7,x8,some (.tup (F.map cP)),x10,x11,x12,x13,x14] S = .nx [x0,x1,x2,some (.int L),x4,x5,x6,x7,x8,some (.tup (F.map cP)),x10,y11,y12,y13,x14] S
 |[],x11,x12,x13,_=>⟨x11,x12,x13,Qx trivial⟩
 |v::vs,x11,x12,x13,h=>by obtain ⟨z12,z13,e⟩:=qIh (a:=a) (F:=F) (L:=L) (S:=S) (x0:=x0) (x1:=x1) (x2:=x2) (x4:=x4) (x5:=x5) (x6:=x6) (x7:=x7) (x8:=x8) (x10:=x10) (x12:=x12) (x13:=x13) (x14:=x14) h1 h2 hF (h v AL);obtain ⟨y11,y12,y13,e2⟩:=qBW (a:=a) (F:=F) (L:=L) (S:=S) (x0:=x0) (x1:=x1) (x2:=x2) (x4:=x4) (x5:=x5) (x6:=x6) (x7:=x7) (x8:=x8) (x10:=x10) (x14:=x14) h1 h2 hF vs (some v) z12 z13 fun u hu=>h u (AE _ hu);exact ⟨y11,y12,y13,WW trivial rfl e e2⟩
def qAp (a:Ad):FS:=(WX (q5 (vFz (QP (qA (qB 10) (qA (qH (WG a) (qA (qB 2) (qA (qB 10) qC))) (qA (qH (WG a) (qA (qB 2) (qA (qB 10) qC))) (qA (qH (zI a) (qA (qB 2) qC)) qC))))))) (qr 11) (JI a))
theorem qBE {a:Ad} {F:List qc} {bs:List Bar} {L x:Int} {st j:qD} {x0 x1 x4 x5 x6 x7 x8 x11 x12 x13 x14:Option PV} (h1:2≤L) (h2:L≤5) (hF:∀ c∈F,In8 c) (hbs:bs.length≤25):∃ (y:Int) (g:qD) (y11 y12 y13:Option PV),qAp a [x0,x1,some (.ref st.length),some (.int L),x4,x5,x6,x7,x8,some (.tup (F.map cP)),some (.tup (bs.map bP)),x11,x12,x13,x14] (st ++ .l [.int x]::j) = .nx [x0,x1,some (.ref st.length),some (.int L),x4,x5,x6,x7,x8,some (.tup (F.map cP)),some (.tup (bs.map bP)),y11,y12,y13,x14] (st ++ .l [.int y]::(j++g)):=by
 obtain ⟨v1,y1,g1,hv1,e1⟩:=qBN (a:=a) (st:=st) (j:=j) (x:=x) (bs:=bs) hbs;obtain ⟨v2,y2,g2,hv2,e2⟩:=qBN (a:=a) (st:=st) (j:=j++g1) (x:=y1) (bs:=bs) hbs;obtain ⟨v3,hv3,e3⟩:=qDX (a:=a) (st:=st) (j:=j++g1++g2) (x:=y2);have hall:∀ v∈[PV.tup (bs.map bP),v1,v2,v3],okV v=true:=fun v hv=>by
  simp only [AJ,Ah,Bu] at hv;rcases hv with rfl |rfl |rfl |rfl
  ·exact zY (by rw [AC];omega) Zv
  ·exact hv1
  ·exact hv2
  ·exact hv3
 obtain ⟨y11,y12,y13,et⟩:=qBW (a:=a) (F:=F) (L:=L) (S:=st ++ .l [.int (y2 / 27)]::(j++g1++g2)) (x0:=x0) (x1:=x1) (x2:=some (.ref st.length)) (x4:=x4) (x5:=x5) (x6:=x6) (x7:=x7) (x8:=x8) (x10:=some (.tup (bs.map bP))) (x14:=x14) h1 h2 hF [.tup (bs.map bP),v1,v2,v3] x11 x12 x13 hall;refine ⟨y2 / 27,g1++g2,y11,y12,y13,?_⟩;rw [← A2];unfold qAp;exact ZL (wI (wb (Wn (qJ rfl (qJ (qN (l:=[.ref st.length,.tup (bs.map bP)]) rfl e1) (qJ (qN (l:=[.ref st.length,.tup (bs.map bP)]) rfl e2) (qJ (qN (l:=[.ref st.length]) rfl e3) qX)))) (sz rfl)))) et
def Yg (a:Ad):FS:=(qP (qY 2 (qH (ZB a) (qA (qB 0) (qA (qB 1) qC)))) (qP (qY 3 (qI qx (vC (.int 2)) (qH (qS a) (qA (qB 2) (qA (vC (.int 4)) qC))))) (qP (Ww (qH (WD a) (qA (qB 2) (qA (qB 3) (qA (qI J3 (vC (.int 16)) (qB 3)) qC)))) (ZS 2 (QX (qr 4) (QX (qr 5) Zr)))) (qP (qY 6 (qH (WR a) (qA (qB 2) (qA (qB 3) (qA (vC (.int 16)) qC))))) (qP (qY 7 (qH (w4 a) (qA (qB 6) (qA (qB 3) qC)))) (qP (qY 8 (qe qC)) (qP (Qc (vTB (qI gNe (qB 7) (vFz (QP qC)))) (qY 8 (qI gIx (qB 7) (qH (qS a) (qA (qB 2) (qA (qH wB (qA (qB 7) qC)) qC))))) QL) (qP (WX (q5 (vFz (QP (qA (qe (qA (qB 4) (qA (qB 5) qC))) (qA (qe (qA (qB 6) (qA (qB 8) qC))) qC))))) (ZS 2 (QX (qr 9) (QX (qr 10) Zr))) (qAp a)) (qP (qY 14 (qI gIx (vFz (QP (qA (vC (.int 1)) (qA (vC (.int 6)) (qA (vC (.int 0)) (qA (Z0 (vC (.int 1))) (qA (vC (.bl true)) (qA (vC .non) (qA (vC (.str "2")) (qA (qe (qA (vC (.int 2)) qC)) (qA (qI qF7 (vC (.int 10)) (vC (.int 39))) qC))))))))))) (qH (qS a) (qA (qB 2) (qA (vC (.int 9)) qC))))) (Qc (Wb (vTB (qI (qCk true) (qH (QW a) (qA (qB 4) (qA (qB 3) (qA (qB 5) qC)))) (vC (.bl true)))) (vTB (qI gNe (qH (wg a) (qA (qB 4) (qA (qB 14) (qA (qB 5) qC)))) (vC (.str "! length"))))) (ql (vC (.bl false))) QL))))))))))
theorem qKH {fs:List (List Bar)} {i:Nat} {n:Nat} {st:qD} (hg:st[n]? = some (.l (fs.map fP))) (h:i < fs.length):gIx (.ref n) (.int (i:Int)) st = .ok (fP fs[i]) st:=by
 refine Yy (yH hg) ?_;unfold L2.atI;rw [Wd (by omega) (by rw [AC];omega),CH,BN,Au,AI h]
 rfl
theorem qGF {a:Ad} (hd:Dist a) {ns:List Int} {k:Int} {st:qD} {x2 x3 x4 x5 x6 x7 x8 x9 x10 x11 x12 x13 x14:Option PV} (hb:∀ n∈ns,Builtin.Int.intBits n≤2 ^ 20) (h0:0≤k) (h00:k < 100):∃ y2 y3 y4 y5 y6 y7 y8 y9 y10 y11 y12 y13 y14 st',Yg a [some (.lst (ns.map PV.int)),some (.int k),x2,x3,x4,x5,x6,x7,x8,x9,x10,x11,x12,x13,x14] st = .nx [some (.lst (ns.map PV.int)),some (.int k),y2,y3,y4,y5,y6,y7,y8,y9,y10,y11,y12,y13,y14] st':=by
 obtain ⟨x,ex⟩:=qHq (a:=a) (ns:=ns) (k:=k) (st:=st) hb h0 h00;have t1:=QQ (a:=a) (st:=st) (j:=[]) (x:=x) (m:=4) ⟨by decide,by decide⟩
 have hL:=Q3 (x:=x) (m:=4) (by decide)
 have hL1:2≤2 + x % 4:=by omega
 have hL2:2 + x % 4≤5:=by omega
 generalize hLe:2 + x % 4=L at hL1 hL2;have hT:1≤16 / L∧16 / L≤8∧L * (16 / L)≤60:=by
  have:L=2∨L=3∨L=4∨L=5:=by omega
  rcases this with rfl |rfl |rfl |rfl <;> decide
 obtain ⟨lb,lc,y,g,hI,hlc,hlb,el⟩:=yg (a:=a) (st:=st) (j:=[]) (x:=x / 4) (L:=L) (T:=16 / L) hL1 hL2 hT.1 hT.2.2;rw [List.nil_append] at el;obtain ⟨F,y1,g1,hFl,hF,ef⟩:=qDY (a:=a) (st:=st) (j:=g) (x:=y) (L:=L) (M:=16) hL1 hL2 (by decide) (by decide)
 generalize g++g1=G1 at ef;obtain ⟨fs,hf,hfl,efl⟩:=Jt (a:=a) (F:=F) (L:=L) (st:=st ++ .l [.int y1]::G1) hL1 hL2 (by omega)
 have hst:(st++SO.l [.int y1]::G1)++[.l (fs.map fP),.l []]=st ++ .l [.int y1]::(G1++[.l (fs.map fP),.l []]):=by rw [A2];rfl
 rw [hst,qBI] at efl;let G2:qD:=G1++[.l (fs.map fP),.l []];have hG2:G2[G1.length]? = some (.l (fs.map fP)):=by show (G1++[_,_])[G1.length]? = _;simp
 -- one of the fillings
 obtain ⟨one,y2,hone,e8⟩:∃ (one:List Bar) (y2:Int),one.length≤8∧(Qc (vTB (qI gNe (qB 7) (vFz (QP qC)))) (qY 8 (qI gIx (qB 7) (qH (qS a) (qA (qB 2) (qA (qH wB (qA (qB 7) qC)) qC))))) QL) [some (.lst (ns.map PV.int)),some (.int k),some (.ref st.length),some (.int L),some (.tup ((w9 lc).map cP)),some (.tup ((wV lb).map bP)),some (.tup (F.map cP)),some (.ref (st.length + 1 + G1.length)),some (.tup []),x9,x10,x11,x12,x13,x14] (st ++ .l [.int y1]::G2) = .nx [some (.lst (ns.map PV.int)),some (.int k),some (.ref st.length),some (.int L),some (.tup ((w9 lc).map cP)),some (.tup ((wV lb).map bP)),some (.tup (F.map cP)),some (.ref (st.length + 1 + G1.length)),some (.tup (one.map bP)),x9,x10,x11,x12,x13,x14] (st ++ .l [.int y2]::G2):=by
  have ec:vTB (qI gNe (qB 7) (vFz (QP qC))) [some (.lst (ns.map PV.int)),some (.int k),some (.ref st.length),some (.int L),some (.tup ((w9 lc).map cP)),some (.tup ((wV lb).map bP)),some (.tup (F.map cP)),some (.ref (st.length + 1 + G1.length)),some (.tup []),x9,x10,x11,x12,x13,x14] (st ++ .l [.int y1]::G2) = .ok (!(fs.map fP).isEmpty) (st ++ .l [.int y1]::G2):=wf (qQ rfl rfl (qBm (jd (qFb hG2)) (qGX fs) (Aa (qC3 fs) (by decide))))
  cases hfe:fs with
  |nil=>rw [hfe] at ec;exact ⟨[],y1,A3 _,Qf ec rfl⟩
  |cons f0 fr =>
   have ec:_=Rs.ok true (st ++ .l [.int y1]::G2):=ec.trans (by rw [hfe];rfl)
   have hpos:0 < fs.length:=by rw [hfe,AH];omega
   have t2:=QQ (a:=a) (st:=st) (j:=G2) (x:=y1) (m:=(fs.length:Int)) ⟨by omega,by omega⟩
   have i2:=Q3 (x:=y1) (m:=(fs.length:Int)) (by omega)
   generalize y1 % (fs.length:Int)=at' at t2 i2;obtain ⟨i,rfl⟩:∃ i:Nat,at'=(i:Int):=⟨at'.toNat,by omega⟩
   have hi:i < fs.length:=by omega
   exact ⟨fs[i],y1 / (fs.length:Int),hf _ (BV hi),QU ec (QB (qQ rfl (qN (l:=[.ref st.length,.int (fs.length:Int)]) (qJ rfl (qJ (qN (qJ rfl qX) (zC (yH (qFb hG2)) (by rw [AC]))) qX)) t2) (qKH (qFb hG2) hi)))⟩
 have hFL:∀ c∈w9 lc,In8 c:=fun c hc=>hI.2.2.2.2 c (mem_srtC.mp hc);have hsl:(wV lb).length≤25:=by rw [(W9 lb).length_eq];omega
 obtain ⟨y3,g3,z11,z12,z13,e9⟩:=qBE (a:=a) (F:=w9 lc) (bs:=wV lb) (L:=L) (x:=y2) (st:=st) (j:=G2) (x0:=some (.lst (ns.map PV.int))) (x1:=some (.int k)) (x4:=some (.tup ((w9 lc).map cP))) (x5:=some (.tup ((wV lb).map bP))) (x6:=some (.tup (F.map cP))) (x7:=some (.ref (st.length + 1 + G1.length))) (x8:=some (.tup (one.map bP))) (x11:=x11) (x12:=x12) (x13:=x13) (x14:=x14) hL1 hL2 hFL hsl;generalize G2++g3=G3 at e9;obtain ⟨y4,g4,u11,u12,u13,e10⟩:=qBE (a:=a) (F:=F) (bs:=one) (L:=L) (x:=y3) (st:=st) (j:=G3) (x0:=some (.lst (ns.map PV.int))) (x1:=some (.int k)) (x4:=some (.tup ((w9 lc).map cP))) (x5:=some (.tup ((wV lb).map bP))) (x6:=some (.tup (F.map cP))) (x7:=some (.ref (st.length + 1 + G1.length))) (x8:=some (.tup (one.map bP))) (x11:=z11) (x12:=z12) (x13:=z13) (x14:=x14) hL1 hL2 hF (by omega)
 generalize G3++g4=G4 at e10;have t6:=QQ (a:=a) (st:=st) (j:=G4) (x:=y4) (m:=9) ⟨by decide,by decide⟩
 have hx:=Q3 (x:=y4) (m:=9) (by decide)
 let l9:List PV:=[.int 1,.int 6,.int 0,.int (-1),.bl true,.non,.str "2",.tup [.int 2],.int (10 ^ 39)];obtain ⟨q,hq,e11⟩:=qAa (l:=l9) (i:=y4 % 9) (st:=st ++ .l [.int (y4 / 9)]::G4) hx.1 hx.2;have ho2:(wY q && !qq 2 5 q)=true:=At.mp (show (l9.all fun p=>wY p && !qq 2 5 p)=true from rfl) q hq;rw [AV,Bool.not_eq_true'] at ho2;have hlv:okV (.tup ((wV lb).map bP))=true:=zY (by rw [AC];omega) Zv
 have efi:=ZP (a:=a) (F:=w9 lc) (L:=L) (v := .tup ((wV lb).map bP)) (st:=st ++ .l [.int (y4 / 9)]::G4) hL1 hL2 hlv;rw [qCT hL1 hI] at efi;refine ⟨some (.ref st.length),some (.int L),some (.tup ((w9 lc).map cP)),some (.tup ((wV lb).map bP)),some (.tup (F.map cP)),some (.ref (st.length + 1 + G1.length)),some (.tup (one.map bP)),some (.tup (F.map cP)),some (.tup (one.map bP)),u11,u12,u13,some q,st ++ .l [.int (y4 / 9)]::G4,?_⟩;unfold Yg;refine qU (QB (p := .ref st.length) (s1:=st++[.l [.int x]]) (qN (qJ rfl (qJ rfl qX)) ex)) ?_;refine qU (QB (p := .int L) (qQ rfl (qN (l:=[.ref st.length,.int 4]) rfl t1) (by rw [wA,hLe]))) ?_
 refine qU (Zq (r1:=[some (.lst (ns.map PV.int)),some (.int k),some (.ref st.length),some (.int L),some (.tup ((w9 lc).map cP)),some (.tup ((wV lb).map bP)),x6,x7,x8,x9,x10,x11,x12,x13,x14]) (qN (l:=[.ref st.length,.int L,.int (16 / L)]) (qJ rfl (qJ rfl (qJ (qQ rfl rfl (qC9 ⟨by omega,by omega⟩)) qX))) el) rfl) ?_
 refine qU (QB (qN (l:=[.ref st.length,.int L,.int 16]) rfl ef)) ?_;refine qU (QB (qN (l:=[.tup (F.map cP),.int L]) rfl efl)) ?_;refine qU (QB rfl) (qU e8 ?_);refine qU (ZL (wI (l:=[.tup [.tup ((w9 lc).map cP),.tup ((wV lb).map bP)],.tup [.tup (F.map cP),.tup (one.map bP)]]) (wb (Wn (qJ (wq (qJ rfl (qJ rfl qX)) (sz rfl)) (qJ (wq (qJ rfl (qJ rfl qX)) (sz rfl)) qX)) (sz rfl)))) (WW trivial rfl e9 (WW trivial rfl e10 (Qx trivial)))) ?_;refine qU (QB (qQ (p := .lst l9) rfl (qN (l:=[.ref st.length,.int 9]) rfl t6) e11)) ?_;exact Qf (Qq (wf (qQ (p := .bl true) (q := .bl true) (qN (l:=[.tup ((w9 lc).map cP),.int L,.tup ((wV lb).map bP)]) rfl efi) rfl rfl)) (wf (qQ (qN (l:=[.tup ((w9 lc).map cP),q,.tup ((wV lb).map bP)]) rfl (qGq (qA2 ho2.1 ho2.2) (qH6 a) (Jm hd))) rfl rfl))) rfl
theorem J9 {a:Ad} (hd:Dist a) {ns:List Int} (hb:∀ n∈ns,Builtin.Int.intBits n≤2 ^ 20):∀ (ks:List Int) (x1 x2 x3 x4 x5 x6 x7 x8 x9 x10 x11 x12 x13 x14:Option PV) (st:qD),(∀ k∈ks,0≤k∧k < 100) -> ∃ e st',Qt (fun _=>True) (qr 1) (Yg a) (ks.map PV.int) [some (.lst (ns.map PV.int)),x1,x2,x3,x4,x5,x6,x7,x8,x9,x10,x11,x12,x13,x14] st = .nx e st'
 |[],x1,x2,x3,x4,x5,x6,x7,x8,x9,x10,x11,x12,x13,x14,st,_=>⟨_,st,Qx trivial⟩
 |k::ks,x1,x2,x3,x4,x5,x6,x7,x8,x9,x10,x11,x12,x13,x14,st,h=>by obtain ⟨y2,y3,y4,y5,y6,y7,y8,y9,y10,y11,y12,y13,y14,st1,e⟩:=qGF (a:=a) hd (ns:=ns) (k:=k) (st:=st) (x2:=x2) (x3:=x3) (x4:=x4) (x5:=x5) (x6:=x6) (x7:=x7) (x8:=x8) (x9:=x9) (x10:=x10) (x11:=x11) (x12:=x12) (x13:=x13) (x14:=x14) hb (h k AL).1 (h k AL).2;obtain ⟨e',st',e2⟩:=J9 hd (ns:=ns) hb ks (some (.int k)) y2 y3 y4 y5 y6 y7 y8 y9 y10 y11 y12 y13 y14 st1 fun q hq=>h q (AE _ hq);exact ⟨e',st',WW trivial rfl e e2⟩
theorem law_true:∀ (a:Ad) (ns:List Int),Dist a->ns.length≤63->(∀ k∈ns,Builtin.Int.intBits k≤2 ^ 20) -> ∃ st,Jb a [.lst (ns.map PV.int)] [] = .ok (.bl true) st:=by
 intro a ns hd hl hb;obtain ⟨n,hn0,hn4,hn⟩:∃ n:Int,0≤n∧n≤5∧qH qAo (qA (vC (.int 1)) (qA (qH yo (qA (qH wB (qA (qB 0) qC)) (qA (vC (.int 5)) qC))) qC)) (Qg 15 [.lst (ns.map PV.int)]) [] = .ok (.int n) []:=by
  refine ⟨if (if (5:Int) < ns.length then 5 else (ns.length:Int)) > 1 then (if (5:Int) < ns.length then 5 else (ns.length:Int)) else 1,?_,?_,?_⟩
  ·split <;> (try split) <;> omega
  ·split <;> (try split) <;> omega
  ·exact qN (qJ rfl (qJ (qN (l:=[.int ns.length,.int 5]) (qJ (qN (qJ rfl qX) (zC (l:=ns.map PV.int) rfl (by rw [AC]))) (qJ rfl qX)) rfl) qX)) rfl
 obtain ⟨e,st',h⟩:=J9 hd hb (WA n) none none none none none none none none none none none none none none [] fun k hk=>by have:=upto_mem.mp hk;omega
 have ef:=ZP (a:=a) (F:=[]) (L:=3) (v := .tup []) (st:=st') (by decide) (by decide) rfl
 have e0:yM [] 3 (.tup [])=true:=rfl;rw [e0] at ef;exact ⟨st',qu rfl (qU (ZL (itN hn0 (by omega) (qJ hn qX)) h) (QD (qQ (p := .bl true) (q := .bl true) (qN (l:=[.tup [],.int 3,.tup []]) rfl ef) rfl rfl)))⟩
end K21
end
section

end
noncomputable section
namespace K21
open PySem PySem.Spec PyProof.Rows L2 EX EV
theorem qGJ {a:Ad} {x:Addr} {c:Value} {b:Bool} (h:kit a (.ref x) c=some b):x∈Qp a:=by
 cases c with
 |ref d =>
  have h:(if x∈Qp a∧d∈a.kinds then some (x==d) else none)=some b:=h;split at h
  ·rename_i hx;exact hx.1
  ·cases h
 |type T =>
  have h:(if x∈Qp a∧T = "ValueError" then some true else none)=some b:=h;split at h
  ·rename_i hx;exact hx.1
  ·cases h
 |_=>cases h
theorem qCG {K:W.Frag}:∀ p∈kitTab,W.kitOne K (.type p.1.1) (.type p.1.2)=some p.2:=by intro p hp;unfold kitTab at hp;simp only [AJ,Ah,Bu] at hp;rcases hp with rfl |rfl |rfl |rfl |rfl |rfl |rfl |rfl |rfl |rfl |rfl |rfl |rfl |rfl |rfl |rfl |rfl |rfl |rfl |rfl |rfl |rfl |rfl |rfl |rfl |rfl |rfl |rfl <;> rfl
theorem qAA {s T:String} {b:Bool}:∀ {l:List ((String×String)×Bool)},l.lookup (s,T)=some b->((s,T),b)∈l
 |[],h=>by cases h
 |(q,k)::l,h=>by
  rw [Ax] at h;split at h
  ·rename_i e;cases h;rw [eq_of_beq e];exact AL
  ·exact AE _ (qAA h)
theorem qE4 {K:W.Frag} {s T:String} {b:Bool} (h:qJe s T=some b):W.kitOne K (.type s) (.type T)=some b:=qCG _ (qAA h)
theorem QE {a:Ad} (h:Dist a):a.Z1≠a.Z2∧a.Z1≠a.Z3∧a.Z1≠a.Z4∧a.Z1≠a.Z5∧a.Z1≠a.Z6∧a.Z1≠a.Z7∧a.Z1≠a.Z8∧a.Z1≠a.Z9∧a.Z1≠a.Z10∧a.Z1≠a.Z11:=by have nd:=h.nd;unfold Ad.kinds at nd;simp only [BE,AJ,Ah,not_or,Bu] at nd;refine ⟨?_,?_,?_,?_,?_,?_,?_,?_,?_,?_⟩ <;> (intro z;simp only [z,not_true_eq_false,false_and,and_false] at nd)
def qAM (e:DictEntry):Bool:=match e.key with
 | .str _ _=>true
 |_=>false
theorem qBP {K:W.Frag} {N:Addr} {c:Value} {dd:Option Addr} {es:Array DictEntry} {ep:Nat} {sl:Array (Option Value)} (h:K.lookup N=some ⟨c,dd,.dict es ep,sl⟩) (hl:es.toList.all qAM=true):W.nsOkIn K N=true:=by unfold W.nsOkIn;rw [show List.lookup N K=_ from h];show (es.all fun e=>match e.key with | .str _ _=>true |_=>false)=true;rw [← Array.all_toList];exact hl
theorem qF6 {K:W.Frag} {B:Addr} {cdB:ClassData} {cB:Value} {dB:Option Addr} {slB:Array (Option Value)} (hB:K.lookup B=some ⟨cB,dB,.cls cdB,slB⟩) (hnB:W.nsOkIn K cdB.ns=true) (hiB:W.nsIn K cdB.ns "__init__" = some none):W.tailIn K bmV (.ref B::bmV)=true:=by rw [W.tailIn.eq_2,show List.lookup B K=_ from hB];dsimp only;rw [hnB,hiB];rfl
theorem qHF {K:W.Frag} {C B:Addr} {dd:Option Addr} {cd cdB:ClassData} {sl:Array (Option Value)} {k0 k1 k2 k3 k5:Option Value} {cB:Value} {dB:Option Addr} {slB:Array (Option Value)} (hC:K.lookup C=some ⟨.type "type",dd,.cls cd,sl⟩) (hm:cd.mro = .ref C :: .ref B::bmV)
  (hs:sl.toList=[k0,k1,k2,k3,some (.builtin "ValueError.__new__"),k5]) (hD:cd.hasDel=false) (hn:W.nsOkIn K cd.ns=true) (hi:W.nsIn K cd.ns "__init__" = some none) (hB:K.lookup B=some ⟨cB,dB,.cls cdB,slB⟩) (hnB:W.nsOkIn K cdB.ns=true) (hiB:W.nsIn K cdB.ns "__init__" = some none) :
  W.excIn K C bmV "ValueError.__new__" = true:=by have t:=qF6 hB hnB hiB;obtain ⟨nm,bs,mro,ns,qn,hd,sn,sb,ab,co,del⟩:=cd;obtain ⟨sl⟩:=sl;have hm:mro=_:=hm;have hs:sl=_:=hs;have hD:del=false:=hD;subst hm;subst hs;subst hD;unfold W.excIn;rw [show List.lookup C K=_ from hC];show (C==C&&("ValueError.__new__" == "ValueError.__new__") && !false&&W.tailIn K bmV (.ref B::bmV)&&W.nsOkIn K ns&&(W.nsIn K ns "__init__" == some none))=true;rw [t,show W.nsOkIn K ns=true from hn,show W.nsIn K ns "__init__" = some none from hi];simp
theorem qFR {P:Program} {w:World} {K:W.Frag} {mg:Str->Option Value} {base:Heap} {CX:CXT} {k:Nat} {f:Addr} {fd:FuncData} {ps:List Str} {sp sp':Sp} (F:FnOk P w K mg base CX k f fd ps sp) (h:∀ vs H Q E,sp' vs H Q E->sp vs H Q E):FnOk P w K mg base CX k f fd ps sp' :=
 ⟨fun vs H Q E q=>F.len vs H Q E (h vs H Q E q),fun A outer s H args us vs Q E hr e b v q=>F.run A outer s H args us vs Q E hr e b v (h vs H Q E q)⟩
def spL (K:W.Frag):Sp:=fun vs H Q E => ∀ a,Dist a->spG K 1 (Jb a) vs H Q E
theorem all_mk {l:W.OpenLaw} {w:World} {K:W.Frag} {h:Heap} {mg:Str->Option Value} {fa:Addr} (X:K.In h) (G:h.Ns mainGlobals mg) (hfa:mg "law" = some (.ref fa))
  {c_Z0 c_Z1 c_Z2 c_Z3 c_Z4 c_Z5 c_Z6 c_Z7 c_Z8 c_Z9 c_Z10 c_Z11 ff0 ff1 ff2 ff3 ff4 ff5 ff6 ff7 ff8 ff9 ff10 ff11 ff12 ff13 ff14 ff15 ff16 ff17 ff18 ff19 ff20 ff21 ff22 ff23 ff24 ff25 ff26:Addr}
  {t_LEAST_LENGTH:Tok}
  {t_MOST_LENGTH:Tok}
  {t_FURTHEST:Tok}
  {t_ACROSS:Tok}
  {t_DOWN:Tok}
  {ddB:Option Addr} {cdB:ClassData} {slB:Array (Option Value)}
  {NB:Addr} {cNB:Value} {dNB:Option Addr} {esB:Array DictEntry} {epB:Nat} {sNB:Array (Option Value)}
  {xdd_Z1:Option Addr} {xcd_Z1:ClassData} {xsl_Z1:Array (Option Value)} {xk0_Z1 xk1_Z1 xk2_Z1 xk3_Z1 xk5_Z1:Option Value} {xN_Z1:Addr} {xc_Z1:Value} {xd2_Z1:Option Addr} {xes_Z1:Array DictEntry} {xep_Z1:Nat} {xs2_Z1:Array (Option Value)}
  (aa0:W.nsIn K mainGlobals "is_whole" = some (some (.ref ff0)))
  (ll0:K.lookup ff0=some ⟨oc0,od0,.func (W.fnOf "is_whole" "is_whole" (qj WL) (qh WL) (qM WL) .none kV0 dc0 pm0 an0 cd0 ct0),sl0⟩)
  (dd0:W.codeIn K cd0 "is_whole" = true)
  (kk0:W.keepIn K (.ref ff0)=true)
  (aa1:W.nsIn K mainGlobals "is_whole_within" = some (some (.ref ff1)))
  (ll1:K.lookup ff1=some ⟨oc1,od1,.func (W.fnOf "is_whole_within" "is_whole_within" (qj QT) (qh QT) (qM QT) .none kV1 dc1 pm1 an1 cd1 ct1),sl1⟩)
  (dd1:W.codeIn K cd1 "is_whole_within" = true)
  (kk1:W.keepIn K (.ref ff1)=true)
  (aa2:W.nsIn K mainGlobals "is_rising" = some (some (.ref ff2)))
  (ll2:K.lookup ff2=some ⟨oc2,od2,.func (W.fnOf "is_rising" "is_rising" (qj ww) (qh ww) (qM ww) .none kV2 dc2 pm2 an2 cd2 ct2),sl2⟩)
  (dd2:W.codeIn K cd2 "is_rising" = true)
  (kk2:W.keepIn K (.ref ff2)=true)
  (aa3:W.nsIn K mainGlobals "is_length" = some (some (.ref ff3)))
  (ll3:K.lookup ff3=some ⟨oc3,od3,.func (W.fnOf "is_length" "is_length" (qj wu) (qh wu) (qM wu) .none kV3 dc3 pm3 an3 cd3 ct3),sl3⟩)
  (dd3:W.codeIn K cd3 "is_length" = true)
  (kk3:W.keepIn K (.ref ff3)=true)
  (aa4:W.nsIn K mainGlobals "need_length" = some (some (.ref ff4)))
  (ll4:K.lookup ff4=some ⟨oc4,od4,.func (W.fnOf "need_length" "need_length" (qj Ql) (qh Ql) (qM Ql) .none kV4 dc4 pm4 an4 cd4 ct4),sl4⟩)
  (dd4:W.codeIn K cd4 "need_length" = true)
  (kk4:W.keepIn K (.ref ff4)=true)
  (aa5:W.nsIn K mainGlobals "is_bar" = some (some (.ref ff5)))
  (ll5:K.lookup ff5=some ⟨oc5,od5,.func (W.fnOf "is_bar" "is_bar" (qj Wm) (qh Wm) (qM Wm) .none kV5 dc5 pm5 an5 cd5 ct5),sl5⟩)
  (dd5:W.codeIn K cd5 "is_bar" = true)
  (kk5:W.keepIn K (.ref ff5)=true)
  (aa6:W.nsIn K mainGlobals "places_of" = some (some (.ref ff6)))
  (ll6:K.lookup ff6=some ⟨oc6,od6,.func (W.fnOf "places_of" "places_of" (qj wG) (qh wG) (qM wG) .none kV6 dc6 pm6 an6 cd6 ct6),sl6⟩)
  (dd6:W.codeIn K cd6 "places_of" = true)
  (kk6:W.keepIn K (.ref ff6)=true)
  (aa7:W.nsIn K mainGlobals "is_within" = some (some (.ref ff7)))
  (ll7:K.lookup ff7=some ⟨oc7,od7,.func (W.fnOf "is_within" "is_within" (qj wx) (qh wx) (qM wx) .none kV7 dc7 pm7 an7 cd7 ct7),sl7⟩)
  (dd7:W.codeIn K cd7 "is_within" = true)
  (kk7:W.keepIn K (.ref ff7)=true)
  (aa8:W.nsIn K mainGlobals "covered_by" = some (some (.ref ff8)))
  (ll8:K.lookup ff8=some ⟨oc8,od8,.func (W.fnOf "covered_by" "covered_by" (qj wR) (qh wR) (qM wR) .none kV8 dc8 pm8 an8 cd8 ct8),sl8⟩)
  (dd8:W.codeIn K cd8 "covered_by" = true)
  (kk8:W.keepIn K (.ref ff8)=true)
  (aa9:W.nsIn K mainGlobals "is_packing" = some (some (.ref ff9)))
  (ll9:K.lookup ff9=some ⟨oc9,od9,.func (W.fnOf "is_packing" "is_packing" (qj Qz) (qh Qz) (qM Qz) .none kV9 dc9 pm9 an9 cd9 ct9),sl9⟩)
  (dd9:W.codeIn K cd9 "is_packing" = true)
  (kk9:W.keepIn K (.ref ff9)=true)
  (aa10:W.nsIn K mainGlobals "is_filling" = some (some (.ref ff10)))
  (ll10:K.lookup ff10=some ⟨oc10,od10,.func (W.fnOf "is_filling" "is_filling" (qj wK) (qh wK) (qM wK) .none kV10 dc10 pm10 an10 cd10 ct10),sl10⟩)
  (dd10:W.codeIn K cd10 "is_filling" = true)
  (kk10:W.keepIn K (.ref ff10)=true)
  (aa11:W.nsIn K mainGlobals "_law_cell" = some (some (.ref ff11)))
  (ll11:K.lookup ff11=some ⟨oc11,od11,.func (W.fnOf "_law_cell" "_law_cell" (qj WJ) (qh WJ) (qM WJ) .none kV11 dc11 pm11 an11 cd11 ct11),sl11⟩)
  (dd11:W.codeIn K cd11 "_law_cell" = true)
  (kk11:W.keepIn K (.ref ff11)=true)
  (aa12:W.nsIn K mainGlobals "_law_mix" = some (some (.ref ff12)))
  (ll12:K.lookup ff12=some ⟨oc12,od12,.func (W.fnOf "_law_mix" "_law_mix" (qj Wf) (qh Wf) (qM Wf) .none kV12 dc12 pm12 an12 cd12 ct12),sl12⟩)
  (dd12:W.codeIn K cd12 "_law_mix" = true)
  (kk12:W.keepIn K (.ref ff12)=true)
  (aa13:W.nsIn K mainGlobals "_law_box" = some (some (.ref ff13)))
  (ll13:K.lookup ff13=some ⟨oc13,od13,.func (W.fnOf "_law_box" "_law_box" (qj Wh) (qh Wh) (qM Wh) .none kV13 dc13 pm13 an13 cd13 ct13),sl13⟩)
  (dd13:W.codeIn K cd13 "_law_box" = true)
  (kk13:W.keepIn K (.ref ff13)=true)
  (aa14:W.nsIn K mainGlobals "_law_take" = some (some (.ref ff14)))
  (ll14:K.lookup ff14=some ⟨oc14,od14,.func (W.fnOf "_law_take" "_law_take" (qj wk) (qh wk) (qM wk) .none kV14 dc14 pm14 an14 cd14 ct14),sl14⟩)
  (dd14:W.codeIn K cd14 "_law_take" = true)
  (kk14:W.keepIn K (.ref ff14)=true)
  (aa15:W.nsIn K mainGlobals "_law_cover" = some (some (.ref ff15)))
  (ll15:K.lookup ff15=some ⟨oc15,od15,.func (W.fnOf "_law_cover" "_law_cover" (qj wH) (qh wH) (qM wH) .none kV15 dc15 pm15 an15 cd15 ct15),sl15⟩)
  (dd15:W.codeIn K cd15 "_law_cover" = true)
  (kk15:W.keepIn K (.ref ff15)=true)
  (aa16:W.nsIn K mainGlobals "_law_laid" = some (some (.ref ff16)))
  (ll16:K.lookup ff16=some ⟨oc16,od16,.func (W.fnOf "_law_laid" "_law_laid" (qj wm) (qh wm) (qM wm) .none kV16 dc16 pm16 an16 cd16 ct16),sl16⟩)
  (dd16:W.codeIn K cd16 "_law_laid" = true)
  (kk16:W.keepIn K (.ref ff16)=true)
  (aa17:W.nsIn K mainGlobals "_law_floor" = some (some (.ref ff17)))
  (ll17:K.lookup ff17=some ⟨oc17,od17,.func (W.fnOf "_law_floor" "_law_floor" (qj wD) (qh wD) (qM wD) .none kV17 dc17 pm17 an17 cd17 ct17),sl17⟩)
  (dd17:W.codeIn K cd17 "_law_floor" = true)
  (kk17:W.keepIn K (.ref ff17)=true)
  (aa18:W.nsIn K mainGlobals "_law_whole" = some (some (.ref ff18)))
  (ll18:K.lookup ff18=some ⟨oc18,od18,.func (W.fnOf "_law_whole" "_law_whole" (qj wp) (qh wp) (qM wp) .none kV18 dc18 pm18 an18 cd18 ct18),sl18⟩)
  (dd18:W.codeIn K cd18 "_law_whole" = true)
  (kk18:W.keepIn K (.ref ff18)=true)
  (aa19:W.nsIn K mainGlobals "_law_fillings" = some (some (.ref ff19)))
  (ll19:K.lookup ff19=some ⟨oc19,od19,.func (W.fnOf "_law_fillings" "_law_fillings" (qj Qb) (qh Qb) (qM Qb) .none kV19 dc19 pm19 an19 cd19 ct19),sl19⟩)
  (dd19:W.codeIn K cd19 "_law_fillings" = true)
  (kk19:W.keepIn K (.ref ff19)=true)
  (aa20:W.nsIn K mainGlobals "_law_is_bar" = some (some (.ref ff20)))
  (ll20:K.lookup ff20=some ⟨oc20,od20,.func (W.fnOf "_law_is_bar" "_law_is_bar" (qj wL) (qh wL) (qM wL) .none kV20 dc20 pm20 an20 cd20 ct20),sl20⟩)
  (dd20:W.codeIn K cd20 "_law_is_bar" = true)
  (kk20:W.keepIn K (.ref ff20)=true)
  (aa21:W.nsIn K mainGlobals "_law_are_apart" = some (some (.ref ff21)))
  (ll21:K.lookup ff21=some ⟨oc21,od21,.func (W.fnOf "_law_are_apart" "_law_are_apart" (qj QV) (qh QV) (qM QV) .none kV21 dc21 pm21 an21 cd21 ct21),sl21⟩)
  (dd21:W.codeIn K cd21 "_law_are_apart" = true)
  (kk21:W.keepIn K (.ref ff21)=true)
  (aa22:W.nsIn K mainGlobals "_law_odd" = some (some (.ref ff22)))
  (ll22:K.lookup ff22=some ⟨oc22,od22,.func (W.fnOf "_law_odd" "_law_odd" (qj Wg) (qh Wg) (qM Wg) .none kV22 dc22 pm22 an22 cd22 ct22),sl22⟩)
  (dd22:W.codeIn K cd22 "_law_odd" = true)
  (kk22:W.keepIn K (.ref ff22)=true)
  (aa23:W.nsIn K mainGlobals "_law_bent" = some (some (.ref ff23)))
  (ll23:K.lookup ff23=some ⟨oc23,od23,.func (W.fnOf "_law_bent" "_law_bent" (qj wn) (qh wn) (qM wn) .none kV23 dc23 pm23 an23 cd23 ct23),sl23⟩)
  (dd23:W.codeIn K cd23 "_law_bent" = true)
  (kk23:W.keepIn K (.ref ff23)=true)
  (aa24:W.nsIn K mainGlobals "_law_kind" = some (some (.ref ff24)))
  (ll24:K.lookup ff24=some ⟨oc24,od24,.func (W.fnOf "_law_kind" "_law_kind" (qj WH) (qh WH) (qM WH) .none kV24 dc24 pm24 an24 cd24 ct24),sl24⟩)
  (dd24:W.codeIn K cd24 "_law_kind" = true)
  (kk24:W.keepIn K (.ref ff24)=true)
  (aa25:W.nsIn K mainGlobals "_law_said" = some (some (.ref ff25)))
  (ll25:K.lookup ff25=some ⟨oc25,od25,.func (W.fnOf "_law_said" "_law_said" (qj wc) (qh wc) (qM wc) .none kV25 dc25 pm25 an25 cd25 ct25),sl25⟩)
  (dd25:W.codeIn K cd25 "_law_said" = true)
  (kk25:W.keepIn K (.ref ff25)=true)
  (aa26:W.nsIn K mainGlobals "law" = some (some (.ref ff26)))
  (ll26:K.lookup ff26=some ⟨oc26,od26,.func (W.fnOf "law" "law" (qj ze) (qh ze) (qM ze) .none kV26 dc26 pm26 an26 cd26 ct26),sl26⟩)
  (dd26:W.codeIn K cd26 "law" = true)
  (kk26:W.keepIn K (.ref ff26)=true)
  (n_ValueError:W.nsIn K mainGlobals "ValueError" = some none)
  (n_all:W.nsIn K mainGlobals "all" = some none)
  (n_bool:W.nsIn K mainGlobals "bool" = some none)
  (n_divmod:W.nsIn K mainGlobals "divmod" = some none)
  (n_int:W.nsIn K mainGlobals "int" = some none)
  (n_isinstance:W.nsIn K mainGlobals "isinstance" = some none)
  (n_len:W.nsIn K mainGlobals "len" = some none)
  (n_list:W.nsIn K mainGlobals "list" = some none)
  (n_max:W.nsIn K mainGlobals "max" = some none)
  (n_min:W.nsIn K mainGlobals "min" = some none)
  (n_range:W.nsIn K mainGlobals "range" = some none)
  (n_set:W.nsIn K mainGlobals "set" = some none)
  (n_sorted:W.nsIn K mainGlobals "sorted" = some none)
  (n_tuple:W.nsIn K mainGlobals "tuple" = some none)
  (g_LEAST_LENGTH:W.nsIn K mainGlobals "LEAST_LENGTH" = some (some (.int 2 t_LEAST_LENGTH)))
  (g_MOST_LENGTH:W.nsIn K mainGlobals "MOST_LENGTH" = some (some (.int 5 t_MOST_LENGTH)))
  (g_FURTHEST:W.nsIn K mainGlobals "FURTHEST" = some (some (.int 40 t_FURTHEST)))
  (g_ACROSS:W.nsIn K mainGlobals "ACROSS" = some (some (.int 0 t_ACROSS)))
  (g_DOWN:W.nsIn K mainGlobals "DOWN" = some (some (.int 1 t_DOWN)))
  (q_Z0:W.nsIn K mainGlobals "BarError" = some (some (.ref c_Z0)))
  (q_Z1:W.nsIn K mainGlobals "NoLength" = some (some (.ref c_Z1)))
  (q_Z2:W.nsIn K mainGlobals "NoNumber" = some (some (.ref c_Z2)))
  (q_Z3:W.nsIn K mainGlobals "NoBars" = some (some (.ref c_Z3)))
  (q_Z4:W.nsIn K mainGlobals "NoBox" = some (some (.ref c_Z4)))
  (q_Z5:W.nsIn K mainGlobals "NoWeights" = some (some (.ref c_Z5)))
  (q_Z6:W.nsIn K mainGlobals "NoSorts" = some (some (.ref c_Z6)))
  (q_Z7:W.nsIn K mainGlobals "NoTurn" = some (some (.ref c_Z7)))
  (q_Z8:W.nsIn K mainGlobals "NoPlace" = some (some (.ref c_Z8)))
  (q_Z9:W.nsIn K mainGlobals "NoText" = some (some (.ref c_Z9)))
  (q_Z10:W.nsIn K mainGlobals "NoRow" = some (some (.ref c_Z10)))
  (q_Z11:W.nsIn K mainGlobals "TooMany" = some (some (.ref c_Z11)))
  (oB:K.lookup c_Z0=some ⟨.type "type",ddB,.cls cdB,slB⟩)
  (nB:cdB.ns=NB)
  (oNB:K.lookup NB=some ⟨cNB,dNB,.dict esB epB,sNB⟩)
  (eNB:esB.toList.all qAM=true)
  (iNB:W.nsIn K NB "__init__" = some none)
  (bB:W.mroIn K c_Z0 (.type "BaseException")=some true)
  (xl_Z1:K.lookup c_Z1=some ⟨.type "type",xdd_Z1,.cls xcd_Z1,xsl_Z1⟩)
  (xm_Z1:xcd_Z1.mro = .ref c_Z1 :: .ref c_Z0::bmV)
  (xs_Z1:xsl_Z1.toList=[xk0_Z1,xk1_Z1,xk2_Z1,xk3_Z1,some (.builtin "ValueError.__new__"),xk5_Z1])
  (xd_Z1:xcd_Z1.hasDel=false)
  (xn_Z1:xcd_Z1.ns=xN_Z1)
  (xo_Z1:K.lookup xN_Z1=some ⟨xc_Z1,xd2_Z1,.dict xes_Z1 xep_Z1,xs2_Z1⟩)
  (xe_Z1:xes_Z1.toList.all qAM=true)
  (xi_Z1:W.nsIn K xN_Z1 "__init__" = some none)
  (e_Z1:W.mroIn K c_Z1 (.ref c_Z0)=some true)
  (v_Z1:W.kitOne K (.ref c_Z1) (.type "ValueError")=some true)
  (w_Z1_Z1:W.kitOne K (.ref c_Z1) (.ref c_Z1)=some true)
  (w_Z1_Z2:W.kitOne K (.ref c_Z1) (.ref c_Z2)=some false)
  (w_Z1_Z3:W.kitOne K (.ref c_Z1) (.ref c_Z3)=some false)
  (w_Z1_Z4:W.kitOne K (.ref c_Z1) (.ref c_Z4)=some false)
  (w_Z1_Z5:W.kitOne K (.ref c_Z1) (.ref c_Z5)=some false)
  (w_Z1_Z6:W.kitOne K (.ref c_Z1) (.ref c_Z6)=some false)
  (w_Z1_Z7:W.kitOne K (.ref c_Z1) (.ref c_Z7)=some false)
  (w_Z1_Z8:W.kitOne K (.ref c_Z1) (.ref c_Z8)=some false)
  (w_Z1_Z9:W.kitOne K (.ref c_Z1) (.ref c_Z9)=some false)
  (w_Z1_Z10:W.kitOne K (.ref c_Z1) (.ref c_Z10)=some false)
  (w_Z1_Z11:W.kitOne K (.ref c_Z1) (.ref c_Z11)=some false)
  (ga_Z1:W.findIn K (.ref c_Z1) "__getattribute__" = some (some (.builtin "BaseException.__getattribute__")))
  (gn_Z1:W.findIn K (.ref c_Z1) "__getattr__" = some none)
  (fo_Z1:∀ od,W.findObj K c_Z1 od "__class__" = some (.bind (.builtin "getset_descriptor.__get__") (.builtin "object.__class__")))
  (mo_Z1:W.mroIn K c_Z1 (.type "object")=some true)
  (mb_Z1:W.mroIn K c_Z1 (.type "BaseException")=some true)
  (ds:Dist ⟨c_Z0,c_Z1,c_Z2,c_Z3,c_Z4,c_Z5,c_Z6,c_Z7,c_Z8,c_Z9,c_Z10,c_Z11,ff0,ff1,ff2,ff3,ff4,ff5,ff6,ff7,ff8,ff9,ff10,ff11,ff12,ff13,ff14,ff15,ff16,ff17,ff18,ff19,ff20,ff21,ff22,ff23,ff24,ff25,ff26⟩) :
  ∃ fd:FuncData,(∀ (s:Shared) (v:Value),BindsTo s fd ⟨[v],[]⟩ [("_law_script",v)]) ∧ ∀ base:Heap,K.In base->base.Ns mainGlobals mg->FnOk l.prog w K mg base (CXF l.prog w) 9 fa fd ["_law_script"] (spL K):=by
 have e:ff26=fa:=Value.ref.inj (Ag ((AU X G aa26).symm.trans hfa));subst e;have V:Env K mg ⟨c_Z0,c_Z1,c_Z2,c_Z3,c_Z4,c_Z5,c_Z6,c_Z7,c_Z8,c_Z9,c_Z10,c_Z11,ff0,ff1,ff2,ff3,ff4,ff5,ff6,ff7,ff8,ff9,ff10,ff11,ff12,ff13,ff14,ff15,ff16,ff17,ff18,ff19,ff20,ff21,ff22,ff23,ff24,ff25,ff26⟩:=by
  refine { kit:=⟨fun t c b hk => ?_,fun x c b hk => ?_⟩,n_ValueError:=Aw X G n_ValueError,n_all:=Aw X G n_all,n_bool:=Aw X G n_bool,n_divmod:=Aw X G n_divmod,n_int:=Aw X G n_int,n_isinstance:=Aw X G n_isinstance,n_len:=Aw X G n_len,n_list:=Aw X G n_list,n_max:=Aw X G n_max,n_min:=Aw X G n_min,n_range:=Aw X G n_range,n_set:=Aw X G n_set,n_sorted:=Aw X G n_sorted,n_tuple:=Aw X G n_tuple,c_LEAST_LENGTH:=⟨_,AU X G g_LEAST_LENGTH⟩,c_MOST_LENGTH:=⟨_,AU X G g_MOST_LENGTH⟩,c_FURTHEST:=⟨_,AU X G g_FURTHEST⟩,c_ACROSS:=⟨_,AU X G g_ACROSS⟩,c_DOWN:=⟨_,AU X G g_DOWN⟩,k_Z0:=AU X G q_Z0,k_Z1:=AU X G q_Z1,k_Z2:=AU X G q_Z2,k_Z3:=AU X G q_Z3,k_Z4:=AU X G q_Z4,k_Z5:=AU X G q_Z5,k_Z6:=AU X G q_Z6,k_Z7:=AU X G q_Z7,k_Z8:=AU X G q_Z8,k_Z9:=AU X G q_Z9,k_Z10:=AU X G q_Z10,k_Z11:=AU X G q_Z11,x_Z1:=qHF xl_Z1 xm_Z1 xs_Z1 xd_Z1 (by rw [xn_Z1];exact qBP xo_Z1 xe_Z1) (by rw [xn_Z1];exact xi_Z1) oB (by rw [nB];exact qBP oNB eNB) (by rw [nB];exact iNB),e_Z1:=e_Z1,o_Z0:=⟨_,_,_,oB⟩,b_Z0:=bB,m_is_whole:=AU X G aa0,f_is_whole:=⟨_,QJ (st:=WL) ll0 dd0 kk0⟩,m_is_whole_within:=AU X G aa1,f_is_whole_within:=⟨_,QJ (st:=QT) ll1 dd1 kk1⟩,m_is_rising:=AU X G aa2,f_is_rising:=⟨_,QJ (st:=ww) ll2 dd2 kk2⟩,m_is_length:=AU X G aa3,f_is_length:=⟨_,QJ (st:=wu) ll3 dd3 kk3⟩,m_need_length:=AU X G aa4,f_need_length:=⟨_,QJ (st:=Ql) ll4 dd4 kk4⟩,m_is_bar:=AU X G aa5,f_is_bar:=⟨_,QJ (st:=Wm) ll5 dd5 kk5⟩,m_places_of:=AU X G aa6,f_places_of:=⟨_,QJ (st:=wG) ll6 dd6 kk6⟩,m_is_within:=AU X G aa7,f_is_within:=⟨_,QJ (st:=wx) ll7 dd7 kk7⟩,m_covered_by:=AU X G aa8,f_covered_by:=⟨_,QJ (st:=wR) ll8 dd8 kk8⟩,m_is_packing:=AU X G aa9,f_is_packing:=⟨_,QJ (st:=Qz) ll9 dd9 kk9⟩,m_is_filling:=AU X G aa10,f_is_filling:=⟨_,QJ (st:=wK) ll10 dd10 kk10⟩,m_law_cell:=AU X G aa11,f_law_cell:=⟨_,QJ (st:=WJ) ll11 dd11 kk11⟩,m_law_mix:=AU X G aa12,f_law_mix:=⟨_,QJ (st:=Wf) ll12 dd12 kk12⟩,m_law_box:=AU X G aa13,f_law_box:=⟨_,QJ (st:=Wh) ll13 dd13 kk13⟩,m_law_take:=AU X G aa14,f_law_take:=⟨_,QJ (st:=wk) ll14 dd14 kk14⟩,m_law_cover:=AU X G aa15,f_law_cover:=⟨_,QJ (st:=wH) ll15 dd15 kk15⟩,m_law_laid:=AU X G aa16,f_law_laid:=⟨_,QJ (st:=wm) ll16 dd16 kk16⟩,m_law_floor:=AU X G aa17,f_law_floor:=⟨_,QJ (st:=wD) ll17 dd17 kk17⟩,m_law_whole:=AU X G aa18,f_law_whole:=⟨_,QJ (st:=wp) ll18 dd18 kk18⟩,m_law_fillings:=AU X G aa19,f_law_fillings:=⟨_,QJ (st:=Qb) ll19 dd19 kk19⟩,m_law_is_bar:=AU X G aa20,f_law_is_bar:=⟨_,QJ (st:=wL) ll20 dd20 kk20⟩,m_law_are_apart:=AU X G aa21,f_law_are_apart:=⟨_,QJ (st:=QV) ll21 dd21 kk21⟩,m_law_odd:=AU X G aa22,f_law_odd:=⟨_,QJ (st:=Wg) ll22 dd22 kk22⟩,m_law_bent:=AU X G aa23,f_law_bent:=⟨_,QJ (st:=wn) ll23 dd23 kk23⟩,m_law_kind:=AU X G aa24,f_law_kind:=⟨_,QJ (st:=WH) ll24 dd24 kk24⟩,m_law_said:=AU X G aa25,f_law_said:=⟨_,QJ (st:=wc) ll25 dd25 kk25⟩,m_law:=AU X G aa26,f_law:=⟨_,QJ (st:=ze) ll26 dd26 kk26⟩ }
  ·have hnd:=ds.nd;unfold kit at hk;split at hk
   ·exact qE4 hk
   ·split at hk
    ·rename_i x d hx;cases hk;have hx1:=hx.1;have hx2:=hx.2;unfold Qp at hx1;unfold Ad.kinds at hx2;simp only [AJ,Ah,Bu] at hx1 hx2;have e1:=hx1
     ·rcases hx2 with e2 |e2 |e2 |e2 |e2 |e2 |e2 |e2 |e2 |e2 |e2
      ·rw [e1,e2,Ay];exact w_Z1_Z1
      ·rw [e1,e2,show (c_Z1==c_Z2)=false from AW.mpr (QE ds).1];exact w_Z1_Z2
      ·rw [e1,e2,show (c_Z1==c_Z3)=false from AW.mpr (QE ds).2.1];exact w_Z1_Z3
      ·rw [e1,e2,show (c_Z1==c_Z4)=false from AW.mpr (QE ds).2.2.1];exact w_Z1_Z4
      ·rw [e1,e2,show (c_Z1==c_Z5)=false from AW.mpr (QE ds).2.2.2.1];exact w_Z1_Z5
      ·rw [e1,e2,show (c_Z1==c_Z6)=false from AW.mpr (QE ds).2.2.2.2.1];exact w_Z1_Z6
      ·rw [e1,e2,show (c_Z1==c_Z7)=false from AW.mpr (QE ds).2.2.2.2.2.1];exact w_Z1_Z7
      ·rw [e1,e2,show (c_Z1==c_Z8)=false from AW.mpr (QE ds).2.2.2.2.2.2.1];exact w_Z1_Z8
      ·rw [e1,e2,show (c_Z1==c_Z9)=false from AW.mpr (QE ds).2.2.2.2.2.2.2.1];exact w_Z1_Z9
      ·rw [e1,e2,show (c_Z1==c_Z10)=false from AW.mpr (QE ds).2.2.2.2.2.2.2.2.1];exact w_Z1_Z10
      ·rw [e1,e2,show (c_Z1==c_Z11)=false from AW.mpr (QE ds).2.2.2.2.2.2.2.2.2];exact w_Z1_Z11
    ·cases hk
   ·split at hk
    ·rename_i x T hx;cases hk;have hx1:=hx.1;have hx2:=hx.2;subst hx2;unfold Qp at hx1;simp only [AJ,Ah,Bu] at hx1;have e1:=hx1
     ·rw [e1];exact v_Z1
    ·cases hk
   ·cases hk
  ·have hm:=qGJ hk;unfold Qp at hm;simp only [AJ,Ah,Bu] at hm;have e1:=hm
   ·rw [e1];exact ⟨ga_Z1,gn_Z1,fo_Z1,mo_Z1,mb_Z1⟩
 refine ⟨W.fnOf "law" "law" (qj ze) (qh ze) (qM ze) .none kV26 dc26 pm26 an26 cd26 ct26,fun s v => .of_eq rfl,fun base _ _ => ?_⟩;exact qFR (qJN V (QJ (st:=ze) ll26 dd26 kk26)) fun vs H Q E q=>q _ ds
theorem qDG {l:W.OpenLaw} {n k:Nat} {q:Program} {loose:List Str} {XP:(Str->Option Value)->Heap->Prop} {YP:World->Heap->Prop} {d:DefRec} {K:Params->W.Frag} {CX:World->CXT} {sp:World->Sp} {x:Str}
  (hn:l.most=some n) (hn2:n≤sizeLine) (hdf:d.params.defaults=[]) (hr:Room k callerA)
  (hY:∀ (w:World) (h:Heap),YP w h->(K w.params).In h)
  (F:∀ (w:World) (mg:Str->Option Value) (fa:Addr) (h:Heap),(K w.params).In h->h.Ns mainGlobals mg->XP mg h->mg d.name=some (.ref fa) ->
   ∃ fd:FuncData,(∀ (s:Shared) (u:Value),BindsTo s fd ⟨[u],[]⟩ [(x,u)]) ∧
    ∀ base:Heap,(K w.params).In base->base.Ns mainGlobals mg->FnOk l.prog w (K w.params) mg base (CX w) k fa fd [x] (sp w))
  (hsp:∀ (w:World) (H:Hp) (a:Addr) (ns:List Int),ns.length≤n->(∀ k∈ns,Builtin.Int.intBits k≤2 ^ 20)->qH4 H->SqL (K w.params) H a (ns.map V.int)->sp w [.ref a] H (fun v _=>v = .bl true) fun _ _ _=>False)
  (hCX:∀ (w:World) (H:Hp) (s:Shared) (e:Value) (s':Shared),CX w [] H s (fun _ _ _=>False) e s'->False) :
  W.WalkO q loose XP YP l.row.toRowW d [] (fun f vs=>PySem.call f vs):=by refine Att.attach_callB hn hdf fun w s₀ s₁ mg mb fa o pm cd doc a vs ns G Y ho hd hcd hmg hobj hints hlen hbits hg => ?_;have KX:=hY w _ Y;obtain ⟨fd,hb,hF⟩:=F w mg fa _ KX G.T.g G.X hmg;exact qDI KX G.T.g G.T.b G.T.builtins G.T.nolimit hg hobj hints (Aa hlen hn2) hr hF hb (fun H hO hS=>hsp w H a ns hlen hbits hO hS) fun H e s'=>hCX w H s₁ e s'
theorem z6 {K:W.Frag} {H:Hp} {b:Bz}:∀ ns:List Int,RVs K H b (ns.map PV.int) (ns.map V.int)
 |[]=>RVs.nil
 |n::ns=>RVs.cons Qu (z6 ns)
theorem qEV (key:∀ (a:Ad) (ns:List Int),Dist a->ns.length≤63->(∀ k∈ns,Builtin.Int.intBits k≤2 ^ 20) -> ∃ st,Jb a [.lst (ns.map PV.int)] [] = .ok (.bl true) st) {K:W.Frag} {H:Hp} {a:Addr} {ns:List Int} (hl:ns.length≤63) (hb:∀ k∈ns,Builtin.Int.intBits k≤2 ^ 20) (hS:SqL K H a (ns.map V.int)):spL K [.ref a] H (fun v _=>v = .bl true) fun _ _ _=>False:=by
 intro ad hd;obtain ⟨st,e⟩:=key ad ns hd hl hb;refine ⟨rfl,⟨[],[]⟩,[.lst (ns.map PV.int)],[],⟨rfl,CT,fun i x h=>by simp at h,fun a ha=>(Ah ha).elim,fun a ha=>(Ah ha).elim⟩,RVs.cons ?_ RVs.nil,?_⟩
 ·unfold RV;exact ⟨a,_,rfl,hS.imp (fun h=>⟨h,Ah,Ah⟩) id,z6 ns⟩
 ·rw [e];intro v H' b' _ _ r;unfold RV at r;exact r
theorem walk31 (key:∀ (a:Ad) (ns:List Int),Dist a->ns.length≤63->(∀ k∈ns,Builtin.Int.intBits k≤2 ^ 20) -> ∃ st,Jb a [.lst (ns.map PV.int)] [] = .ok (.bl true) st) {l:W.OpenLaw} {q:Program} {loose:List Str} {XP:(Str->Option Value)->Heap->Prop} {YP:World->Heap->Prop} {d:DefRec} {K:Params->W.Frag} (hn:l.most=some 63) (hdf:d.params.defaults=[])
  (hY:∀ (w:World) (h:Heap),YP w h->(K w.params).In h)
  (F:∀ (w:World) (mg:Str->Option Value) (fa:Addr) (h:Heap),(K w.params).In h->h.Ns mainGlobals mg->XP mg h->mg d.name=some (.ref fa) ->
   ∃ fd:FuncData,(∀ (s:Shared) (u:Value),BindsTo s fd ⟨[u],[]⟩ [("_law_script",u)]) ∧ ∀ base:Heap,(K w.params).In base->base.Ns mainGlobals mg->FnOk l.prog w (K w.params) mg base (CXF l.prog w) 9 fa fd ["_law_script"] (spL (K w.params))) :
  W.WalkO q loose XP YP l.row.toRowW d [] (fun f vs=>PySem.call f vs) :=
 qDG (n:=63) (k:=9) (x := "_law_script") (CX:=fun w=>CXF l.prog w) (sp:=fun w=>spL (K w.params)) hn (by decide) hdf ⟨fun _=>rfl,by decide,by decide,rfl⟩ hY F (fun _ _ a ns hl hb _ hS=>qEV key hl hb hS) fun _ _ _ _ _ z=>by obtain ⟨_,_,_,_,_,_,_,_,_,_,_,_,q⟩:=z;exact q
end K21
end
section
namespace PySem.W.Fast
def tw17518083469490437869:=0
def tw683313398488970002:=0
def tw15234393097501494747:=0
def tw14372562268914376599:=0
def tw8823282796001524283:=0
def tw1682471586916293486:=0
def tw12418300486843791354:=0
def tw14414919005145604929:=0
def tw2615394901183106210:=0
def tw9752105357147123225:=0
def tw6584778746323816504:=0
def tw9591764504285365577:=0
def tw2749494163952512360:=0
def tw13199808407072639046:=0
def tw1773550326995866127:=0
def tw6875483001511239068:=0
def tw11570289882140888155:=0
def tw13901816003987571692:=0
def tw17300409747580858694:=0
def tw8687480536718802291:=0
def tw2199001335327033283:=0
def tw2640349927319471649:=0
def tw3216874858553691972:=0
def tw2180262649167585943:=0
def tw4341387085871165189:=0
def tw10316558761742960174:=0
def tw11019808078661390326:=0
def tw13364918494877344571:=0
def tw2701590826743370045:=0
def tw1569646907514243787:=0
def tw10713012870727223460:=0
def tw18265457912506257466:=0
def tw8296105777080427120:=0
def tw8385212232737976113:=0
def tw13742337595057152253:=0
def tw2412875241007122015:=0
def tw4791678326560672721:=0
def tw6461344300590276846:=0
def tw13522827229480549194:=0
def tw13801010886314408513:=0
def tw3085690931149088571:=0
def tw14901205237106086602:=0
def tw5587158103312035390:=0
def tw13350452426763657799:=0
def tw1349292604095527803:=0
def tw17323868989166217950:=0
def tw17230455968295518885:=0
end PySem.W.Fast
open PySem PySem.W PyProof.Rows
set_option maxRecDepth 100000 in
set_option maxHeartbeats 0 in
theorem PySem.Challenge.cw_barfloors_k21_fillings_looked_at_holds : PySem.Challenge.rw_barfloors_k21_fillings_looked_at.Holds := by
  w_on; o_law; k_head; (case hw => w_witness2)
  k_fill
  refine K21.walk31 K21.law_true (l := PySem.Challenge.rw_barfloors_k21_fillings_looked_at) rfl rfl (fun w h Y => PySem.W.kIn_of Y) ?F
  case F =>
    intro w mg fa h KX G XX hmg
    refine' K21.all_mk KX G hmg ?zzA ?zzB ?zzC ?zzD ?zzE ?zzF ?zzG ?zzH ?zzI ?zzJ ?zzK ?zzL ?zzM ?zzN ?zzO ?zzP ?zzQ ?zzR ?zzS ?zzT ?zzU ?zzV ?zzW ?zzX ?zzY ?zzZ ?zza ?zzb ?zzc ?zzd ?zze ?zzf ?zzg ?zzh ?zzi ?zzj ?zzk ?zzl ?zzm ?zzn ?zzo ?zzp ?zzq ?zzr ?zzs ?zzt ?zzu ?zzv ?zzw ?zzx ?zzy ?zzz ?zyA ?zyB ?zyC ?zyD ?zyE ?zyF ?zyG ?zyH ?zyI ?zyJ ?zyK ?zyL ?zyM ?zyN ?zyO ?zyP ?zyQ ?zyR ?zyS ?zyT ?zyU ?zyV ?zyW ?zyX ?zyY ?zyZ ?zya ?zyb ?zyc ?zyd ?zye ?zyf ?zyg ?zyh ?zyi ?zyj ?zyk ?zyl ?zym ?zyn ?zyo ?zyp ?zyq ?zyr ?zys ?zyt ?zyu ?zyv ?zyw ?zyx ?zyy ?zyz ?zxA ?zxB ?zxC ?zxD ?zxE ?zxF ?zxG ?zxH ?zxI ?zxJ ?zxK ?zxL ?zxM ?zxN ?zxO ?zxP ?zxQ ?zxR ?zxS ?zxT ?zxU ?zxV ?zxW ?zxX ?zxY ?zxZ ?zxa ?zxb ?zxc ?zxd ?zxe ?zxf ?zxg ?zxh ?zxi ?zxj ?zxk ?zxl ?zxm ?zxn ?zxo ?zxp ?zxq ?zxr ?zxs ?zxt ?zxu ?zxv ?zxw ?zxx ?zxy ?zxz ?zwA ?zwB ?zwC ?zwD ?zwE ?zwF ?zwG ?zwH ?zwI ?zwJ ?zwK ?zwL ?zwM ?zwN ?zwO ?zwP
    (case zzA|zzB|zzC|zzD|zzE|zzF|zzG|zzH|zzI|zzJ|zzK|zzL|zzM|zzN|zzO|zzP|zzQ|zzR|zzS|zzT|zzU|zzV|zzW|zzX|zzY|zzZ|zza|zzb|zzc|zzd|zze|zzf|zzg|zzh|zzi|zzj|zzk|zzl|zzm|zzn|zzo|zzp|zzq|zzr|zzs|zzt|zzu|zzv|zzw|zzx|zzy|zzz|zyA|zyB|zyC|zyD|zyE|zyF|zyG|zyH|zyI|zyJ|zyK|zyL|zyM|zyN|zyO|zyP|zyQ|zyR|zyS|zyT|zyU|zyV|zyW|zyX|zyY|zyZ|zya|zyb|zyc|zyd|zye|zyf|zyg|zyh|zyi|zyj|zyk|zyl|zym|zyn|zyo|zyp|zyq|zyr|zys|zyt|zyu|zyv|zyw|zyx|zyy|zyz|zxA|zxB|zxC|zxD|zxE|zxF|zxG|zxH|zxI|zxJ|zxK|zxL|zxM|zxN|zxO|zxP|zxQ|zxR|zxS|zxT|zxU|zxV|zxW|zxX|zxY|zxZ|zxa|zxb|zxc|zxd|zxe|zxf|zxg|zxh|zxi|zxj => k_is)
    (case zxk => rfl)
    (case zxl => k_is)
    (case zxm => rfl)
    (case zxn|zxo|zxp => k_is)
    (case zxq|zxr|zxs|zxt => rfl)
    (case zxu => k_is)
    (case zxv => rfl)
    (case zxw|zxx => k_is)
    (case zxy|zxz|zwA|zwB|zwC|zwD|zwE|zwF|zwG|zwH|zwI|zwJ => rfl)
    (case zwK|zwL => k_is)
    (case zwM => (intro od; rfl))
    (case zwN|zwO => k_is)
    (case zwP => decide)
end
