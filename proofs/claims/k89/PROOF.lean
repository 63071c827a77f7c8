import PyProof.Rows.All
import Wide.All
import OpenK.AllK
import Wide.FinOn
import PyProof.EqAt
import PyProof.EqKinds
import PyProof.TupleCall
import Lean
import PyProof.NeKinds
import PyProof.Rows.RuleDivmod
import PyProof.Rows.FactsN_divmod
import PyProof.DictItems
import KE.KPairComp
import PyProof.Draws
import PyProof.IsRules
import KE.KDictList
import KE.KItemsList
import PyProof.EnumMake
import KE.KRevIter
import KE.KDictOf
import PyProof.AttrMissHeap
import PySem.Challenge.RW_barfloors_k89_whole_lines_and_papers
theorem AA:type_of% @PySem.wpAny_bind:=@PySem.wpAny_bind
theorem AB:type_of% @PySem.wpAny_pure:=@PySem.wpAny_pure
theorem AC:type_of% @PySem.Heap.get?_push_of_some:=@PySem.Heap.get?_push_of_some
theorem AD:type_of% @List.getElem?_eq_getElem:=@List.getElem?_eq_getElem
theorem AE:type_of% @List.length_map:=@List.length_map
theorem AF:type_of% @List.getD_eq_getElem?_getD:=@List.getD_eq_getElem?_getD
theorem AG:type_of% @List.mem_cons_of_mem:=@List.mem_cons_of_mem
theorem AH:type_of% @List.mem_cons:=@List.mem_cons
theorem AI:type_of% @if_pos:=@if_pos
theorem AJ:type_of% @PySem.Heap.lt_size:=@PySem.Heap.lt_size
theorem AK:type_of% @List.mem_cons_self:=@List.mem_cons_self
theorem AL:type_of% @Nat.le_refl:=@Nat.le_refl
theorem AM:type_of% @List.size_toArray:=@List.size_toArray
theorem AN:type_of% @List.map_cons:=@List.map_cons
theorem AO:type_of% @List.length_cons:=@List.length_cons
theorem AQ:type_of% @if_neg:=@if_neg
theorem AR:type_of% @PySem.Heap.get?_push_size:=@PySem.Heap.get?_push_size
theorem AS:type_of% @Nat.le_trans:=@Nat.le_trans
theorem AT:type_of% @Nat.ne_of_lt:=@Nat.ne_of_lt
theorem AU:type_of% @PySem.Heap.get?_update_other:=@PySem.Heap.get?_update_other
theorem AV:type_of% @decide_eq_true:=@decide_eq_true
theorem AW:type_of% @List.mem_singleton:=@List.mem_singleton
theorem AX:type_of% @List.mem_map:=@List.mem_map
theorem AY:type_of% @decide_eq_false:=@decide_eq_false
theorem AZ:type_of% @Option.some.inj:=@Option.some.inj
theorem Aa:type_of% @List.getElem?_eq_some_iff:=@List.getElem?_eq_some_iff
theorem Ab:type_of% @Array.length_toList:=@Array.length_toList
theorem Ac:type_of% @List.getElem?_append_left:=@List.getElem?_append_left
theorem Ae:type_of% @PySem.W.mg_of:=@PySem.W.mg_of
theorem Af:type_of% @List.length_append:=@List.length_append
theorem Ag:type_of% @Array.getD_eq_getD_getElem?:=@Array.getD_eq_getD_getElem?
theorem Ah:type_of% @List.getElem?_map:=@List.getElem?_map
theorem Ai:type_of% @PySem.wpAny_holding:=@PySem.wpAny_holding
theorem Aj:type_of% @List.not_mem_nil:=@List.not_mem_nil
theorem Ak:type_of% @List.map_map:=@List.map_map
theorem Al:type_of% @PySem.wpAny_of_eq:=@PySem.wpAny_of_eq
theorem Am:type_of% @Nat.lt_of_lt_of_le:=@Nat.lt_of_lt_of_le
theorem An:type_of% @beq_self_eq_true:=@beq_self_eq_true
theorem Ao:type_of% @List.all_eq_true:=@List.all_eq_true
theorem Ap:type_of% @PySem.Heap.get?_update_self:=@PySem.Heap.get?_update_self
theorem Aq:type_of% @PySem.W.mg_none_of:=@PySem.W.mg_none_of
theorem Ar:type_of% @Bool.and_eq_true:=@Bool.and_eq_true
theorem As:type_of% @List.lookup_cons:=@List.lookup_cons
theorem At:type_of% @Nat.lt_succ_of_lt:=@Nat.lt_succ_of_lt
theorem Au:type_of% @PySem.codeAny_builtin:=@PySem.codeAny_builtin
theorem Av:type_of% @Int.toNat_natCast:=@Int.toNat_natCast
theorem Aw:type_of% @PySem.Around.under_plainId:=@PySem.Around.under_plainId
theorem Ax:type_of% @List.mem_append_right:=@List.mem_append_right
theorem Ay:type_of% @List.map_congr_left:=@List.map_congr_left
theorem Az:type_of% @List.getElem?_append_right:=@List.getElem?_append_right
theorem A0:type_of% @List.mem_filter:=@List.mem_filter
theorem A1:type_of% @List.mem_append:=@List.mem_append
theorem A2:type_of% @List.sum_cons:=@List.sum_cons
theorem A3:type_of% @PySem.Obj.data_mapFields:=@PySem.Obj.data_mapFields
theorem A4:type_of% @List.find?_cons:=@List.find?_cons
theorem A5:type_of% @List.pairwise_cons:=@List.pairwise_cons
theorem A6:type_of% @PySem.wpAny_truthy_bool:=@PySem.wpAny_truthy_bool
theorem A7:type_of% @of_decide_eq_true:=@of_decide_eq_true
theorem A8:type_of% @PySem.wpAny_callSpecial?_slot:=@PySem.wpAny_callSpecial?_slot
theorem A9:type_of% @PySem.wpAny_call_entry:=@PySem.wpAny_call_entry
theorem BA:type_of% @PySem.wpAny_field:=@PySem.wpAny_field
theorem BB:type_of% @PySem.wpAny_newObj_type:=@PySem.wpAny_newObj_type
theorem BC:type_of% @PySem.wpAny_setState_of:=@PySem.wpAny_setState_of
theorem BD:type_of% @PySem.wpAny_mono:=@PySem.wpAny_mono
theorem BE:type_of% @List.mem_of_getElem?:=@List.mem_of_getElem?
theorem BF:type_of% @List.map_append:=@List.map_append
theorem BG:type_of% @PyProof.Rows.KeyOrd.kle_refl:=@PyProof.Rows.KeyOrd.kle_refl
theorem BH:type_of% @List.filterMap_cons:=@List.filterMap_cons
theorem BI:type_of% @PySem.mem_of_lookup:=@PySem.mem_of_lookup
theorem BJ:type_of% @Nat.zero_le:=@Nat.zero_le
theorem BK:type_of% @Int.le_refl:=@Int.le_refl
theorem BL:type_of% @PySem.plainId_quiet:=@PySem.plainId_quiet
theorem BM:type_of% @PySem.wpAny_isInstance:=@PySem.wpAny_isInstance
theorem BN:type_of% @List.take_succ_eq_append_getElem:=@List.take_succ_eq_append_getElem
theorem BO:type_of% @List.getElem_mem:=@List.getElem_mem
theorem BP:type_of% @PySem.wpAny_setField:=@PySem.wpAny_setField
theorem BQ:type_of% @PySem.wpAny_Call_Name_kw:=@PySem.wpAny_Call_Name_kw
theorem BR:type_of% @PySem.Heap.size_push:=@PySem.Heap.size_push
theorem BS:type_of% @Nat.lt_of_le_of_lt:=@Nat.lt_of_le_of_lt
theorem BU:type_of% @List.zip_cons_cons:=@List.zip_cons_cons
theorem BV:type_of% @Array.getElem?_eq_getElem:=@Array.getElem?_eq_getElem
theorem BW:type_of% @PyProof.Rows.slot_tuple_getitem:=@PyProof.Rows.slot_tuple_getitem
theorem BX:type_of% @List.getElem?_set_ne:=@List.getElem?_set_ne
theorem BY:type_of% @PySem.wpAny_typeOf:=@PySem.wpAny_typeOf
theorem BZ:type_of% @Nat.not_succ_le_zero:=@Nat.not_succ_le_zero
theorem Ba:type_of% @List.append_assoc:=@List.append_assoc
theorem Bb:type_of% @Nat.lt_irrefl:=@Nat.lt_irrefl
theorem Bc:type_of% @beq_eq_false_iff_ne:=@beq_eq_false_iff_ne
theorem Bd:type_of% @List.mem_range:=@List.mem_range
theorem Be:type_of% @PySem.F.plain_min_loop:=@PySem.F.plain_min_loop
theorem Bf:type_of% @List.filter_cons:=@List.filter_cons
theorem Bg:type_of% @List.getElem?_set_self:=@List.getElem?_set_self
theorem Bh:type_of% @List.range_succ_eq_map:=@List.range_succ_eq_map
theorem Bi:type_of% @PyProof.Rows.callWith_type1:=@PyProof.Rows.callWith_type1
theorem Bj:type_of% @List.mem_filterMap:=@List.mem_filterMap
theorem Bk:type_of% @PySem.Obj.isFreed_of_fields:=@PySem.Obj.isFreed_of_fields
theorem Bl:type_of% @List.append_nil:=@List.append_nil
theorem Bm:type_of% @beq_false_of_ne:=@beq_false_of_ne
theorem Bn:type_of% @List.foldl_cons:=@List.foldl_cons
theorem Bo:type_of% @Array.getElem?_eq_some_iff:=@Array.getElem?_eq_some_iff
theorem Bp:type_of% @PySem.wpAny_newList:=@PySem.wpAny_newList
theorem Bq:type_of% @PySem.wpAny_rule:=@PySem.wpAny_rule
theorem Br:type_of% @PySem.sizeLine_eq:=@PySem.sizeLine_eq
theorem Bs:type_of% @PySem.wpAny_askSetting:=@PySem.wpAny_askSetting
theorem Bt:type_of% @PySem.Heap.size_update:=@PySem.Heap.size_update
theorem Bu:type_of% @List.getElem?_replicate:=@List.getElem?_replicate
theorem Bv:type_of% @PySem.wpAny_attempt:=@PySem.wpAny_attempt
theorem Bw:type_of% @PySem.wpAny_standAt:=@PySem.wpAny_standAt
theorem Bx:type_of% @Bool.false_ne_true:=@Bool.false_ne_true
theorem By:type_of% @PySem.Calls.spliced_cons:=@PySem.Calls.spliced_cons
theorem B0:type_of% @PySem.wpAny_updateSeq:=@PySem.wpAny_updateSeq
theorem B1:type_of% @Nat.add_sub_cancel:=@Nat.add_sub_cancel
theorem B2:type_of% @Int.emod_lt_of_pos:=@Int.emod_lt_of_pos
theorem B3:type_of% @PySem.Calls.spliced_nil:=@PySem.Calls.spliced_nil
theorem B4:type_of% @List.nodup_append:=@List.nodup_append
theorem B5:type_of% @PyProof.Rows.KeyOrd.kle_of_klt:=@PyProof.Rows.KeyOrd.kle_of_klt
theorem B6:type_of% @List.pairwise_map:=@List.pairwise_map
theorem B7:type_of% @Nat.lt_trans:=@Nat.lt_trans
theorem B8:type_of% @PySem.wpAny_seqItems:=@PySem.wpAny_seqItems
theorem B9:type_of% @List.map_nil:=@List.map_nil
theorem CA:type_of% @List.length_singleton:=@List.length_singleton
theorem CB:type_of% @PySem.codeAny_call_builtin:=@PySem.codeAny_call_builtin
theorem CC:type_of% @Nat.lt_succ_self:=@Nat.lt_succ_self
theorem CD:type_of% @List.take_length:=@List.take_length
theorem CF:type_of% @PySem.intKind_is:=@PySem.intKind_is
theorem CG:type_of% @Nat.not_lt_of_le:=@Nat.not_lt_of_le
theorem CH:type_of% @PyProof.Rows.KeyOrd.kle_trans:=@PyProof.Rows.KeyOrd.kle_trans
theorem CI:type_of% @Prod.mk.inj:=@Prod.mk.inj
theorem CJ:type_of% @List.nodup_cons:=@List.nodup_cons
theorem CK:type_of% @PySem.pushCells_keeps:=@PySem.pushCells_keeps
theorem CL:type_of% @List.length_nil:=@List.length_nil
theorem CM:type_of% @Int.emod_nonneg:=@Int.emod_nonneg
theorem CN:type_of% @Nat.le_of_lt:=@Nat.le_of_lt
theorem CP:type_of% @Bool.false_eq_true:=@Bool.false_eq_true
theorem CQ:type_of% @PySem.wpAny_call:=@PySem.wpAny_call
theorem CS:type_of% @PySem.wpAny_tryCatch:=@PySem.wpAny_tryCatch
set_option Elab.async false
set_option linter.all false
set_option maxRecDepth 100000
set_option maxHeartbeats 0
section
namespace EX
open PySem PySem.Spec PyProof.Rows
theorem jT:entryFor table "proto.unchain" = some Builtin.«proto.unchain» := entryFor_of_fast (by kernel_rfl)
def Hnd (A:Around) (h:Heap):Prop := ∀ v,A.handled=some v -> ∃ ea oe vs,v=Value.ref ea∧h.get? ea=some oe∧oe.data = .fields vs∧vs[2]? = some .none
section
variable {prog:Program} {w:World} {A:Around} {E:Value->Shared->Prop} {s:Shared}
theorem j9 {e v:Value} {ea:Addr} {oe:Obj} {vs:Array Value} {Q:Value->Shared->Prop} (ho:s.heap.get? ea=some oe) (hd:oe.data = .fields vs) (h2:vs[2]? = some .none) (hq:Q .none s) :
  wpAny (model prog w) A (runValue (.builtin "proto.unchain" ⟨[e,.ref ea,v,.bool false],[]⟩)) Q E s:=by
 refine wpAny_runValue (Au jT ?_)
 unfold Builtin.«proto.unchain»
 dsimp only
 refine AA (BA ho hd h2 ?_)
 rw [AI (show (Value.none==Value.none)=true by rfl)]
 refine AA (AB (AB ?_))
 exact hq
theorem JS {α:Type} {e:Addr} {oe:Obj} {vs:Array Value} {Q:α->Shared->Prop} (hn:Hnd A s.heap) (he:s.heap.get? e=some oe) (hd:oe.data = .fields vs) (hsz:2 < vs.size) (hne:∀ ea,A.handled=some (.ref ea)->ea≠e)
  (h:∀ h' o',Heap.SameBut e s.heap h'->h'.get? e=some o'->o'.cls=oe.cls->E (.ref e) { s with heap:=h' }):wpAny (model prog w) A (raiseNew (.ref e):Sem α) Q E s:=by
 unfold raiseNew
 refine AA (wpAny_handled ?_)
 cases hh:A.handled with
 |none=>exact AA (AB (wpAny_throw (h s.heap oe (.refl ..) he rfl)))
 |some v =>
  obtain ⟨ea,o,ws,rfl,ho,hdo,h2⟩:=hn v hh
  have hne':=hne ea hh
  have hb:(Value.ref ea != Value.ref e)=true:=by
   rw [bne_iff_ne];intro z;cases z;exact hne' rfl
  dsimp only
  rw [AI hb]
  refine AA (Ai (j9 ho hdo h2 ?_))
  refine AA (BP (x:=Value.ref ea) he hd hsz (wpAny_throw ?_))
  exact h _ _ (Heap.SameBut.update ..) (Ap _ he (Bk (A3 hd _))) (Obj.cls_mapFields ..)
theorem Wg {α:Type} {Q:α->Shared->Prop} (hn:Hnd A s.heap) (h:∀ h' e,(∀ b o,s.heap.get? b=some o->h'.get? b=some o)->(∃ o',h'.get? e=some o'∧o'.cls = .type "StopIteration")->E (.ref e) { s with heap:=h' }) :
  wpAny (model prog w) A (newExc (.type "StopIteration") [] >>= fun e=>(raiseNew e:Sem α)) Q E s:=by
 refine AA ?_
 unfold newExc newTuple
 refine AA (BB ?_ (by size_fits))
 refine AA (m:=firstArgMember _ _) (Al (a:=Value.none) (by first |rfl |(simp only [firstArgMember];rfl)) ?_)
 refine BB ?_ (by size_fits)
 have up:∀ {b o},s.heap.get? b=some o->((s.heap.push { cls := .type "tuple",data := .seq ([]:List Value).toArray }).push { cls := .type "StopIteration",data := .fields (#[.ref s.heap.objs.size,.none,.none,.none,.bool false,.none]++ownMembersOf (.type "StopIteration") []) }).get? b=some o:=fun q=>AC _ (AC _ q)
 refine JS (oe:={ cls := .type "StopIteration",data := .fields (#[.ref s.heap.objs.size,.none,.none,.none,.bool false,.none]++ownMembersOf (.type "StopIteration") []) }) ?_ (AR _ rfl) rfl (by simp [ownMembersOf]) (fun ea hea => ?_) fun h' o' sb ho' hc=>h h' _ (fun b o q => ?_) ⟨o',ho',hc⟩
 ·intro v hv
  obtain ⟨ea,oe,vs,e1,e2,e3⟩:=hn v hv
  exact ⟨ea,oe,vs,e1,up e2,e3⟩
 ·obtain ⟨ea',oe,vs,e1,e2,e3⟩:=hn _ hea
  cases e1
  exact AT (B7 (AJ e2) (by simp))
 ·exact (sb.2 b (AT (B7 (AJ q) (by simp)))).trans (up q)
theorem list_end {it l:Addr} {i:Nat} {items} {Q:Option Value->Shared->Prop} (hn:Hnd A s.heap) (z1:s.heap.IsListIter it l i) (z2:s.heap.IsList l items) (z3:items[i]? = none) (z4:∀ v,A.handled=some v->v ≠ .ref it)
  (hQ:∀ h',(∀ b o,b≠it->s.heap.get? b=some o->h'.get? b=some o)->Q none { s with heap:=h' }):wpAny (model prog w) A (pyNext (.ref it)) Q E s:=by
 obtain ⟨ob,g1,g2,g3⟩:=id z1
 obtain ⟨ol,g4,_,nl,g5⟩:=z2
 unfold pyNext
 refine AA (Bv (A8 (name:=Str.ofString "__next__") z1.typeIs slot_listiter_next (A9 slot_listiter_next z1.typeIs entry_listiter_next ?_ (args_listiter_next _))))
 change wpAny _ A.in1 (field (Value.ref it) 0 >>= _) _ _ s
 refine AA (BA g1 g3 (x:=Value.ref l) rfl ?_)
 change wpAny _ A.in1 (if (Value.ref l==Value.none)=true then _ else _) _ _ s
 rw [AQ (fun z:(Value.ref l==Value.none)=true=>Bx z)]
 change wpAny _ A.in1 (field (Value.ref it) 1 >>= _) _ _ s
 refine AA (BA g1 g3 (x:=Value.int i 0) rfl ?_)
 change wpAny _ A.in1 (seqItems? (Value.ref l) >>= _) _ _ s
 refine AA (B8 g4 g5 ?_)
 simp only [Av,z3]
 refine AA (Bq (AA (BP g1 g3 (by simp) ?_)))
 refine Wg (A:=A.in1) ?_ fun h' e k ht => ?_
 ·intro v hv
  obtain ⟨ea,oe,vs,e1,e2,e3⟩:=hn v hv
  refine ⟨ea,oe,vs,e1,?_,e3⟩
  have hne:ea≠it:=fun z=>z4 v hv (by rw [e1,z])
  exact (AU _ _ (Ne.symm hne)).trans e2
 ·refine AA (BM (T := "StopIteration") (b:=true) ht isSubtype_stop ?_)
  exact AB (hQ _ fun b o' hb q=>k b o' ((AU _ _ (Ne.symm hb)).trans q))
theorem tuple_end {it l:Addr} {i:Nat} {items} {Q:Option Value->Shared->Prop} (hn:Hnd A s.heap) (z1:s.heap.IsTupleIter it l i) (z2:s.heap.IsTuple l items) (z3:items[i]? = none) (z4:∀ v,A.handled=some v->v ≠ .ref it)
  (hQ:∀ h',(∀ b o,b≠it->s.heap.get? b=some o->h'.get? b=some o)->Q none { s with heap:=h' }):wpAny (model prog w) A (pyNext (.ref it)) Q E s:=by
 obtain ⟨ob,g1,g2,g3⟩:=id z1
 obtain ⟨ol,g4,_,nl,g5⟩:=z2
 unfold pyNext
 refine AA (Bv (A8 (name:=Str.ofString "__next__") z1.typeIs F.slot_tuple_iterator_next (A9 F.slot_tuple_iterator_next z1.typeIs F.entry_tuple_iterator_next ?_ (F.args_tuple_iterator_next_1 _))))
 change wpAny _ A.in1 (field (Value.ref it) 0 >>= _) _ _ s
 refine AA (BA g1 g3 (x:=Value.ref l) rfl ?_)
 change wpAny _ A.in1 (if (Value.ref l==Value.none)=true then _ else _) _ _ s
 rw [AQ (fun z:(Value.ref l==Value.none)=true=>Bx z)]
 change wpAny _ A.in1 (field (Value.ref it) 1 >>= _) _ _ s
 refine AA (BA g1 g3 (x:=Value.int i 0) rfl ?_)
 change wpAny _ A.in1 (seqItems? (Value.ref l) >>= _) _ _ s
 refine AA (B8 g4 g5 ?_)
 simp only [Av,z3]
 refine AA (Bq (AA (BP g1 g3 (by simp) ?_)))
 refine Wg (A:=A.in1) ?_ fun h' e k ht => ?_
 ·intro v hv
  obtain ⟨ea,oe,vs,e1,e2,e3⟩:=hn v hv
  refine ⟨ea,oe,vs,e1,?_,e3⟩
  have hne:ea≠it:=fun z=>z4 v hv (by rw [e1,z])
  exact (AU _ _ (Ne.symm hne)).trans e2
 ·refine AA (BM (T := "StopIteration") (b:=true) ht isSubtype_stop ?_)
  exact AB (hQ _ fun b o' hb q=>k b o' ((AU _ _ (Ne.symm hb)).trans q))
theorem range_end {it:Addr} {x left step:Int} {Q:Option Value->Shared->Prop} (hn:Hnd A s.heap) (z1:IsRangeIter s.heap it x left step) (z2:left≤0)
  (hQ:∀ h',(∀ b o,s.heap.get? b=some o->h'.get? b=some o)->Q none { s with heap:=h' }):wpAny (model prog w) A (pyNext (.ref it)) Q E s:=by
 have z0:s.TypeIs (.ref it) "range_iterator" := ⟨_,z1,rfl⟩
 unfold pyNext
 refine AA (Bv (A8 (name:=Str.ofString "__next__") z0 F.slot_range_iterator_next (A9 F.slot_range_iterator_next z0 F.entry_range_iterator_next ?_ (F.args_range_iterator_next_1 _))))
 change wpAny _ A.in1 (field (Value.ref it) 0 >>= _) _ _ s
 refine AA (BA z1 rfl (x:=rawInt x) rfl ?_)
 change wpAny _ A.in1 (field (Value.ref it) 1 >>= _) _ _ s
 refine AA (BA z1 rfl (x:=rawInt left) rfl ?_)
 change wpAny _ A.in1 (field (Value.ref it) 2 >>= _) _ _ s
 refine AA (BA z1 rfl (x:=rawInt step) rfl ?_)
 change wpAny _ A.in1 (if left≤0 then _ else _) _ _ s
 rw [AI z2]
 refine AA (Bq (AA ?_))
 refine Wg (A:=A.in1) hn fun h' e k ht => ?_
 refine AA (BM (T := "StopIteration") (b:=true) ht isSubtype_stop ?_)
 exact AB (hQ _ k)
end
end EX
end
section
namespace L2
open PySem PySem.Spec PyProof.Rows
abbrev Key:=Sum Int Str
def yg:Key->Value->Bool
 | .inl k,v=>Value.isInt k v
 | .inr x,v=>Value.isStrOf x v
def qGy (w:World):Key->Int
 | .inl k=>hashInt k
 | .inr x=>hashStr w x
theorem QK:∀ {k:Key} {v:Value},yg k v=true->(∃ i t,k=Sum.inl i∧v=Value.int i t)∨(∃ x t,k=Sum.inr x∧v=Value.str x t)
 | .inl i,v,h=>by
  obtain ⟨t,e⟩:=Value.isInt_shape (k:=i) (v:=v) h
  exact .inl ⟨i,t,rfl,e⟩
 | .inr x,v,h=>by
  obtain ⟨t,e⟩:=Value.isStrOf_shape (x:=x) (v:=v) h
  exact .inr ⟨x,t,rfl,e⟩
theorem qAe (i:Int) (t:Tok):yg (.inl i) (.int i t)=true:=by simp [yg,Value.isInt]
theorem qAT (x:Str) (t:Tok):yg (.inr x) (.str x t)=true:=by simp [yg,Value.isStrOf]
theorem qFc (a b:Int):decide ((Sum.inl a:Key)=Sum.inl b)=(a==b):=by
 by_cases e:a=b
 ·subst e;simp
 ·have h:¬ (Sum.inl a:Key)=Sum.inl b:=fun q=>e (Sum.inl.inj q)
  rw [AY h]
  exact (Bc.mpr e).symm
theorem qFP (a b:Str):decide ((Sum.inr a:Key)=Sum.inr b)=decide (a=b):=by
 by_cases e:a=b
 ·subst e;simp
 ·have h:¬ (Sum.inr a:Key)=Sum.inr b:=fun q=>e (Sum.inr.inj q)
  rw [AY h,AY e]
theorem qFk (a:Int) (b:Str):decide ((Sum.inl a:Key)=Sum.inr b)=false:=AY (fun q=>nomatch q)
theorem qFu (a:Str) (b:Int):decide ((Sum.inr a:Key)=Sum.inl b)=false:=AY (fun q=>nomatch q)
def Qs (prog:Program) (w:World):PySem.KeyKind prog w Key where
 is:=yg
 hash:=qGy w
 inj:=fun v a b ha hb=>by
  rcases QK ha with ⟨i,t,rfl,rfl⟩ |⟨x,t,rfl,rfl⟩
  ·rcases QK hb with ⟨j,u,rfl,e⟩ |⟨y,u,rfl,e⟩
   ·injection e with e1 _;rw [e1]
   ·exact nomatch e
  ·rcases QK hb with ⟨j,u,rfl,e⟩ |⟨y,u,rfl,e⟩
   ·exact nomatch e
   ·injection e with e1 _;rw [e1]
 byValue:=fun k v h=>by
  rcases QK h with ⟨i,t,rfl,rfl⟩ |⟨x,t,rfl,rfl⟩ <;> rfl
 pyHash:=fun hv h=>by
  rcases QK hv with ⟨i,t,rfl,rfl⟩ |⟨x,t,rfl,rfl⟩
  ·exact wpAny_pyHash_int h
  ·exact wpAny_pyHash_str h
 eqBool:=fun hu hv h=>by
  rcases QK hu with ⟨i,t,rfl,rfl⟩ |⟨x,t,rfl,rfl⟩
  ·rcases QK hv with ⟨j,u,rfl,rfl⟩ |⟨y,u,rfl,rfl⟩
   ·rw [qFc] at h;exact wpAny_eqBool_int h
   ·rw [qFk] at h;exact SeqAt.EqAt.int_str i t y u _ _ _ _ h
  ·rcases QK hv with ⟨j,u,rfl,rfl⟩ |⟨y,u,rfl,rfl⟩
   ·rw [qFu] at h;exact SeqAt.EqAt.str_int x t j u _ _ _ _ h
   ·rw [qFP] at h;exact wpAny_eqBool_str h
 «strs» := fun k x t v h=>by
  rcases QK h with ⟨i,u,rfl,e⟩ |⟨y,u,rfl,e⟩
  ·exact nomatch e
  ·injection e with e1 _
   subst e1
   cases v <;> rfl
theorem ja (prog:Program) (w:World) (i:Int) (t:Tok):(Qs prog w).is (.inl i) (.int i t)=true:=qAe i t
theorem jc (prog:Program) (w:World) (x:Str) (t:Tok):(Qs prog w).is (.inr x) (.str x t)=true:=qAT x t
end L2
namespace L2
open PySem PySem.Spec PyProof.Rows
inductive V where
 |non |bl (b:Bool) |int (i:Int) |str (x:Str) |byt (b:Array UInt8) |flt (b:UInt64) |ref (a:Addr) |ty (n:String)
 deriving DecidableEq
def RelV:V->Value->Prop
 | .non,u=>u=Value.none
 | .bl b,u=>u=Value.bool b
 | .int i,u => ∃ t,u=Value.int i t
 | .str x,u => ∃ t,u=Value.str x t
 | .byt b,u => ∃ t,u=Value.bytes b t
 | .flt b,u => ∃ t,u=Value.float b t
 | .ref a,u=>u=Value.ref a
 | .ty n,u=>u=Value.type n
abbrev Vals:List V->List Value->Prop:=Paired RelV
theorem Vals.length {xs:List V} {us:List Value} (r:Vals xs us):xs.length=us.length:=Paired.length r
theorem Vals.get:∀ {xs:List V} {us:List Value} {i:Nat} {x:V},Vals xs us->xs[i]? = some x -> ∃ u,us[i]? = some u∧RelV x u
 |_,_,_,_,.nil,e=>by simp at e
 |_,_,0,_,.cons r _,e=>by simp at e;subst e;exact ⟨_,rfl,r⟩
 |_,_,i + 1,x,.cons _ t,e=>by
  obtain ⟨u,h1,h2⟩:=Vals.get (i:=i) (x:=x) t (by simpa using e)
  exact ⟨u,by simpa using h1,h2⟩
theorem Vals.set {x:V} {u:Value} (r:RelV x u):∀ {xs:List V} {us:List Value} (i:Nat),Vals xs us->Vals (xs.set i x) (us.set i u)
 |_,_,_,.nil => .nil
 |_,_,0,.cons _ t => .cons r t
 |_,_,i + 1,.cons q t => .cons q (Vals.set r i t)
theorem Vals.append:∀ {xs ys:List V} {us ws:List Value},Vals xs us->Vals ys ws->Vals (xs++ys) (us++ws)
 |_,_,_,_,.nil,s=>s
 |_,_,_,_,.cons r t,s => .cons r (Vals.append t s)
theorem Vals.take:∀ {xs:List V} {us:List Value} (n:Nat),Vals xs us->Vals (xs.take n) (us.take n)
 |_,_,0,_ => .nil
 |_,_,_ + 1,.nil => .nil
 |_,_,n + 1,.cons r t => .cons r (Vals.take n t)
theorem Vals.drop:∀ {xs:List V} {us:List Value} (n:Nat),Vals xs us->Vals (xs.drop n) (us.drop n)
 |_,_,0,r=>r
 |_,_,_ + 1,.nil => .nil
 |_,_,n + 1,.cons _ t=>Vals.drop n t
def RelO:Option V->Option Value->Prop
 |some v,some u=>RelV v u
 |none,none=>True
 |_,_=>False
def KV {κ:Type}:List (κ×V)->List (κ×Value)->Prop:=Paired fun (p:κ×V) (q:κ×Value)=>p.1=q.1∧RelV p.2 q.2
def kV:Key->V
 | .inl i => .int i
 | .inr x => .str x
inductive HO where
 /-- a list -/
 |lst (xs:List V)
 /-- a tuple (never changes) -/
 |tup (xs:List V)
 /-- a dict whose keys are ints and texts;one whose keys are tuples of ints and texts (the empty one is both) -/
 |dK (kvs:List (Key×V)) |dT (kvs:List (List Key×V))
 /-- a set of ints: its members,its size -/
 |set (S:Int->Bool) (n:Nat)
 /-- an instance of the class at C,its dict at dx,its attributes -/
 |ins (C dx:Addr) (fs:List (Str×V))
 /-- the dict of the instance at x -/
 |own (x:Addr)
 /-- the dict of an exception -/
 |xd (fs:List (Str×V))
 /-- a bound method,f of x -/
 |met (f x:Addr)
 /-- a range object lo,lo + 1,.. below hi -/
 |rng (lo hi:Int)
 /-- a thing that is known to the object (the script;a dict while a loop walks it): read,never written while it is so -/
 |frz (o:Obj) (u:HO)
 /-- a code object's table -/
 |tbl (ps:Array Value)
 /-- any other thing,by what is true of its one object (a def of one's own: SetO a S n:=HO.ext fun h => ..) -/
 |ext (φ:Heap->Prop)
abbrev Hp:=Addr->Option HO
def upd (H:Hp) (a:Addr) (o:HO):Hp:=fun b=>if b=a then some o else H b
theorem Qa {H:Hp} {a:Addr} {o:HO}:upd H a o a=some o:=by unfold upd;rw [AI rfl]
theorem qQ {H:Hp} {a b:Addr} {o:HO} (h:b≠a):upd H a o b=H b:=by unfold upd;rw [AQ h]
theorem qL {H:Hp} {a b:Addr} {o:HO} (h:H a=some o) (h':H b=none):a≠b:=by
 intro e;subst e;rw [h] at h';cases h'
section
variable (P:Program) (w:World)
def ObjOk (H:Hp) (h:Heap) (a:Addr):HO->Prop
 | .lst xs=>xs.length≤sizeLine ∧ ∃ (its:List Value) (n:Nat),Vals xs its∧h.get? a=some { cls := .type "list",data := .seq its.toArray n }
 | .tup xs=>xs.length≤sizeLine ∧ ∃ its:List Value,Vals xs its∧IsTup h a its.toArray ∧ ∃ o,h.get? a=some o∧o.dict=none
 | .dK kvs=>kvs.length≤sizeLine∧(a==sysModules)=false ∧ ∃ vs,KV kvs vs∧h.DictOf (Qs P w) a vs
 | .dT kvs=>kvs.length≤sizeLine∧(a==sysModules)=false ∧ ∃ xs:List (List Key×Addr×Value),
   Paired (fun (p:List Key×V) (q:List Key×Addr×Value)=>p.1=q.1∧H q.2.1=some (.tup (p.1.map kV))∧RelV p.2 q.2.2) kvs xs ∧
   ∃ o es ep,h.get? a=some o∧o.ExactDict∧o.data = .dict es ep∧es.toList=xs.map (entryOfKey (tupleKind (Qs P w)))∧(xs.map (·.1)).Nodup
 | .set S n=>h.SetOf (intKind P w) a S n
 | .ins C dx fs=>H dx=some (.own a)∧fs.length≤1000∧dx≠a∧h.get? a=some (W.instObj C dx) ∧
   ∃ mA,h.Ns1 dx mA∧(∀ f,RelO (fs.lookup f) (mA f))∧PySem.Within mA (fs.map (·.1))
 | .own _ => ∃ o,h.get? a=some o
 | .xd fs => ∃ mA,h.Ns1 a mA ∧ ∀ f,RelO (fs.lookup f) (mA f)
 | .rng lo hi => ∃ t u v,h.get? a=some { cls := .type "range",data := .fields #[.int lo t,.int hi u,.int 1 v] }
 | .frz o u=>h.get? a=some o∧ObjOk H h a u
 | .tbl ps=>h.get? a=some { cls := .none,data := .fields ps }
 | .met f x=>h.get? a=some (W.methodObj (.ref f) (.ref x))
 | .ext φ=>φ h∧(∃ o,h.get? a=some o) ∧ ∀ h1 h2:Heap,φ h1->(∀ o,h1.get? a=some o->h2.get? a=some o)->φ h2
def HOk (H:Hp) (h:Heap):Prop := ∀ a o,H a=some o->ObjOk P w H h a o
end
section
variable {P:Program} {w:World} {H H':Hp} {h h':Heap} {a:Addr} {o:HO}
theorem ObjOk.lt (x:ObjOk P w H h a o):a < h.objs.size:=by
 cases o with
 |lst xs=>obtain ⟨_,_,_,_,e⟩:=x;exact AJ e
 |tup xs=>obtain ⟨_,_,_,p,_⟩:=x;exact p.lt
 |dK kvs=>obtain ⟨_,_,_,_,o,_,_,e,_⟩:=x;exact AJ e
 |dT kvs=>obtain ⟨_,_,_,_,o,_,_,e,_⟩:=x;exact AJ e
 |set S n=>obtain ⟨o,_,_,_,e,_⟩:=x;exact AJ e
 |ins C dx fs=>obtain ⟨_,_,_,e,_⟩:=x;exact AJ e
 |own y=>obtain ⟨_,e⟩:=x;exact AJ e
 |xd fs=>obtain ⟨_,⟨_,_,_,e,_⟩,_⟩:=x;exact AJ e
 |rng lo hi=>obtain ⟨_,_,_,e⟩:=x;exact AJ e
 |frz ob u=>obtain ⟨e,_⟩:=x;exact AJ e
 |tbl ps=>exact AJ (show h.get? a=some _ from x)
 |met f y=>exact AJ (show h.get? a=some _ from x)
 |ext φ=>obtain ⟨_,⟨_,e⟩,_⟩:=x;exact AJ e
theorem Paired.mapP {α β:Type} {F G:α->β->Prop}:∀ {l₁:List α} {l₂:List β},Paired F l₁ l₂->(∀ a b,F a b->G a b)->Paired G l₁ l₂
 |_,_,.nil,_ => .nil
 |_,_,.cons r t,f => .cons (f _ _ r) (Paired.mapP t f)
theorem ObjOk.stay (x:ObjOk P w H h a o) (k:∀ b u,(b=a∨H b=some (.own a))->h.get? b=some u->h'.get? b=some u)
  (ho:∀ b,H b=some (.own a)->H' b=some (.own a)) (ht:∀ b xs,H b=some (.tup xs)->H' b=some (.tup xs)):ObjOk P w H' h' a o:=by
 induction o with
 |lst xs=>obtain ⟨z,its,n,r,e⟩:=x;exact ⟨z,its,n,r,k _ _ (.inl rfl) e⟩
 |tup xs=>obtain ⟨z,its,r,⟨ob,e,c⟩,o,e2,c2⟩:=x;exact ⟨z,its,r,⟨ob,k _ _ (.inl rfl) e,c⟩,o,k _ _ (.inl rfl) e2,c2⟩
 |dK kvs=>obtain ⟨z,y,vs,r,ob,es,ep,e,c⟩:=x;exact ⟨z,y,vs,r,ob,es,ep,k _ _ (.inl rfl) e,c⟩
 |dT kvs =>
  obtain ⟨z,y,xs,r,ob,es,ep,e,c⟩:=x
  exact ⟨z,y,xs,Paired.mapP r fun p q z=>⟨z.1,ht _ _ z.2.1,z.2.2⟩,ob,es,ep,k _ _ (.inl rfl) e,c⟩
 |set S n=>obtain ⟨ob,es,ep,t,e,c⟩:=x;exact ⟨ob,es,ep,t,k _ _ (.inl rfl) e,c⟩
 |ins C dx fs =>
  obtain ⟨d,z,ne,e,mA,⟨od,es,ep,e2,c⟩,r⟩:=x
  exact ⟨ho _ d,z,ne,k _ _ (.inl rfl) e,mA,⟨od,es,ep,k _ _ (.inr d) e2,c⟩,r⟩
 |own y=>obtain ⟨ob,e⟩:=x;exact ⟨ob,k _ _ (.inl rfl) e⟩
 |xd fs=>obtain ⟨mA,⟨od,es,ep,e,c⟩,r⟩:=x;exact ⟨mA,⟨od,es,ep,k _ _ (.inl rfl) e,c⟩,r⟩
 |rng lo hi=>obtain ⟨t,u,v,e⟩:=x;exact ⟨t,u,v,k _ _ (.inl rfl) e⟩
 |frz ob u ih=>obtain ⟨e,q⟩:=x;exact ⟨k _ _ (.inl rfl) e,ih q⟩
 |tbl ps =>
  have e:h.get? a=some { cls := .none,data := .fields ps }:=x
  show h'.get? a=some { cls := .none,data := .fields ps }
  exact k a _ (.inl rfl) e
 |met f y =>
  have e:h.get? a=some (W.methodObj (.ref f) (.ref y)):=x
  show h'.get? a=some (W.methodObj (.ref f) (.ref y))
  exact k a _ (.inl rfl) e
 |ext φ=>obtain ⟨p,⟨o,e⟩,st⟩:=x;exact ⟨st _ _ p fun o q=>k _ _ (.inl rfl) q,⟨o,k _ _ (.inl rfl) e⟩,st⟩
theorem HOk.lt (x:HOk P w H h) (e:H a=some o):a < h.objs.size:=(x a o e).lt
theorem HOk.fresh (x:HOk P w H h) (e:h.objs.size≤a):H a=none:=by
 cases q:H a with
 |none=>rfl
 |some u=>exact absurd (Am (x.lt q) e) (Bb _)
theorem HOk.kept (x:HOk P w H h) (k:∀ b u,h.get? b=some u->h'.get? b=some u):HOk P w H h':=fun a o e =>
 (x a o e).stay (fun b u _ q=>k b u q) (fun _ q=>q) fun _ _ q=>q
theorem HOk.laid (x:HOk P w H h) (k:∀ b u,h.get? b=some u->h'.get? b=some u) (hp:h.objs.size≤a) (new:ObjOk P w (upd H a o) h' a o):HOk P w (upd H a o) h':=fun b u e=>by
 have hn:=x.fresh hp
 by_cases hb:b=a
 ·subst hb;rw [Qa] at e;cases e;exact new
 ·rw [qQ hb] at e
  exact (x b u e).stay (fun c v _ q=>k c v q) (fun c q=>by rw [qQ (qL q hn)];exact q) fun c xs q=>by rw [qQ (qL q hn)];exact q
end
def Rd (H:Hp) (a:Addr) (u:HO):Prop:=H a=some u ∨ ∃ o,H a=some (.frz o u)
theorem Rd.ok {P:Program} {w:World} {H:Hp} {h:Heap} {a:Addr} {u:HO} (r:Rd H a u) (x:HOk P w H h):ObjOk P w H h a u:=by
 rcases r with r |⟨o,r⟩
 ·exact x a u r
 ·obtain ⟨_,q⟩:=x a _ r
  exact q
def Mut:Option HO->Prop
 |some (.lst _)=>True
 |some (.dK _)=>True
 |some (.dT _)=>True
 |some (.set _ _)=>True
 |some (.ins _ _ _)=>True
 |some (.ext _)=>True
 |_=>False
section
variable {P:Program} {w:World} {H:Hp} {h h':Heap} {x e:Addr} {o':HO}
theorem HOk.write (ok:HOk P w H h) (mu:Mut (H x)) (he:e=x∨H e=some (.own x)) (k:∀ b u,b≠e->h.get? b=some u->h'.get? b=some u) (heo:∃ u,h'.get? e=some u)
  (new:ObjOk P w (upd H x o') h' x o'):HOk P w (upd H x o') h':=fun b u q=>by
 have nown:∀ c y,H c=some (.own y)->c≠x:=fun c y r z=>by subst z;rw [r] at mu;exact mu
 have ntup:∀ c xs,H c=some (.tup xs)->c≠x:=fun c xs r z=>by subst z;rw [r] at mu;exact mu
 by_cases hb:b=x
 ·subst hb;rw [Qa] at q;cases q;exact new
 ·rw [qQ hb] at q
  by_cases hbe:b=e
  ·have q':H b=some (.own x):=by
    rcases he with z |z
    ·exact absurd (hbe.trans z) hb
    ·rw [hbe];exact z
   rw [q] at q';cases q'
   obtain ⟨v,hv⟩:=heo
   exact ⟨v,by rw [hbe];exact hv⟩
  ·refine (ok b u q).stay (fun c v hc r=>k c v ?_ r) (fun c r=>by rw [qQ (nown c b r)];exact r) fun c xs r=>by rw [qQ (ntup c xs r)];exact r
   rcases hc with rfl |hc
   ·exact hbe
   ·rintro rfl
    rcases he with z |z
    ·exact nown c b hc z
    ·rw [hc] at z;cases z;exact hb rfl
end
structure Un (fs ex:List Addr) (H H':Hp) (h h':Heap):Prop where
 keep:∀ b o,h.get? b=some o->H b=none->b ∉ fs->b ∉ ex->h'.get? b=some o
 slot:∀ b o,h.get? b=some o->H b=none->b∈fs->b ∉ ex -> ∃ sl,h'.get? b=some { o with slots:=sl }
 free:∀ b o,h.get? b=some o->H b=none->b ∉ ex->H' b=none
 there:∀ b o,h.get? b=some o->b ∉ ex -> ∃ o',h'.get? b=some o'
 tups:∀ b xs,H b=some (.tup xs)->H' b=some (.tup xs)
 frzs:∀ b o u,H b=some (.frz o u)->H' b=some (.frz o u)
 tbls:∀ b ps,H b=some (.tbl ps) -> ∃ more,H' b=some (.tbl (ps++more))
section
variable {fs fs' ex ex':List Addr} {H H1 H2:Hp} {h h1 h2 h':Heap} {a x e:Addr} {o:HO}
theorem Un.any (u:Un fs ex H H1 h h1) {b:Addr} {ob:Obj} (q:h.get? b=some ob) (n:H b=none) (hx:b ∉ ex):∃ sl,h1.get? b=some { ob with slots:=sl }:=by
 by_cases hb:b∈fs
 ·exact u.slot b ob q n hb hx
 ·exact ⟨ob.slots,u.keep b ob q n hb hx⟩
theorem Un.kept (k:∀ b u,h.get? b=some u->h'.get? b=some u):Un fs ex H H h h' :=
 ⟨fun b ob q _ _ _=>k b ob q,fun b ob q _ _ _=>⟨ob.slots,k b ob q⟩,fun _ _ _ n _=>n,fun b ob q _=>⟨ob,k b ob q⟩,fun _ _ q=>q,fun _ _ _ q=>q,fun _ ps q=>⟨#[],by rw [q];simp⟩⟩
theorem Un.refl:Un fs ex H H h h:=Un.kept fun _ _ q=>q
theorem Un.laid (k:∀ b u,h.get? b=some u->h'.get? b=some u) (hp:h.objs.size≤a) (hn:H a=none):Un fs ex H (upd H a o) h h' where
 keep:=fun b u q _ _ _=>k b u q
 slot:=fun b u q _ _ _=>⟨u.slots,k b u q⟩
 free:=fun b u q n _=>by rw [qQ (AT (Am (AJ q) hp))];exact n
 there:=fun b u q _=>⟨u,k b u q⟩
 tups:=fun b xs q=>by rw [qQ (qL q hn)];exact q
 frzs:=fun b u xs q=>by rw [qQ (qL q hn)];exact q
 tbls:=fun b ps q=>⟨#[],by rw [qQ (qL q hn),q];simp⟩
theorem Un.write (mu:Mut (H x)) (he:e=x∨H e=some (.own x)) (k:∀ b u,b≠e->h.get? b=some u->h'.get? b=some u) (heo:∃ u,h'.get? e=some u):Un fs ex H (upd H x o) h h':=by
 have hx:∀ b,H b=none->b≠x:=fun b n z=>by subst z;rw [n] at mu;exact mu
 have hb:∀ b,H b=none->b≠e:=fun b n z=>by
  subst z
  rcases he with r |r
  ·exact hx b n r
  ·rw [n] at r;cases r
 have hm:∀ b u,H b=some u -> ¬ Mut (some u)->b≠x:=fun b u q nm z=>by subst z;rw [q] at mu;exact nm mu
 refine ⟨fun b u q n _ _=>k b u (hb b n) q,fun b u q n _ _=>⟨u.slots,k b u (hb b n) q⟩,fun b u q n _=>by rw [qQ (hx b n)];exact n,fun b u q _ => ?_,
  fun b xs q=>by rw [qQ (hm b _ q fun z=>z)];exact q,fun b u xs q=>by rw [qQ (hm b _ q fun z=>z)];exact q,fun b ps q=>⟨#[],by rw [qQ (hm b _ q fun z=>z),q];simp⟩⟩
 by_cases hbe:b=e
 ·subst hbe;exact heo
 ·exact ⟨u,k b u hbe q⟩
end
def trk (h:Heap) (H:Hp):List Addr:=(List.range h.objs.size).filter fun a=>(H a).isSome
def YT (h:Heap) (H:Hp):Heap:=W.hideAll h (trk h H)
theorem qA5 (h:Heap) (H:Hp):(YT h H).objs.size=h.objs.size:=W.hideAll_size _ _
theorem qCu {h:Heap} {H:Hp} {b:Addr} {o:Obj} (e:h.get? b=some o) (n:H b=none):(YT h H).get? b=some o :=
 W.hideAll_get _ e fun hm=>by
  have q:(H b).isSome=true:=(A0.mp hm).2
  rw [n] at q;simp at q
theorem qDr {h:Heap} {H:Hp} {b:Addr} {o:Obj} (e:(YT h H).get? b=some o):h.get? b=some o∧H b=none:=by
 have e':h.get? b=some o:=W.of_hideAll (trk h H) e
 refine ⟨e',?_⟩
 cases q:H b with
 |none=>rfl
 |some x =>
  have hm:b∈trk h H:=A0.mpr ⟨Bd.mpr (AJ e'),by simp [q]⟩
  have z:(YT h H).get? b=none:=W.hideAll_none (trk h H) hm
  rw [z] at e;cases e
end L2
namespace L2
open PySem PySem.Spec PyProof.Rows
structure Mod (K:W.Frag) (mg:Str->Option Value) (base:Heap):Prop where
 kin:K.In base
 glob:base.Ns mainGlobals mg
 blt:∃ mb,base.Ns builtinsNs mb ∧ ∀ x:Str,x ≠ "__name__" -> mb x=bootBuiltins x
 nolimit:base.NoLimit
structure Cx where
 prog:Program
 w:World
 K:W.Frag
 mg:Str->Option Value
 base:Heap
 A:Around
 N:List Str
 s₀:Shared
 H₀:Hp
 env:Env
 outer:List Env
 stack:List Env
 ex:List Addr
 fn:Str->Bool
 calm:Bool
 pn:List (Addr×Obj)
 xe:Value->Shared->Prop
def frs (l:List Env):List Addr:=l.filterMap (·.frame)
abbrev Cx.fs (X:Cx):List Addr:=frs X.outer
def Vis (sc:Scope) (x:Str):Prop:=sc.names.lookup x=some .local∨sc.names.lookup x=some .cell∨sc.names.lookup x=some .free
def Loc (sc:Scope) (x:Str):Prop:=sc.names.lookup x=some .local∨sc.names.lookup x=some .cell
def qHH (env:Env) (h:Heap) (m:Str->Option Value) (x:Str) (u:Value):Prop :=
 (env.kindOf x=some .local∧m x=some u)∨((env.kindOf x=some .cell∨env.kindOf x=some .free) ∧ ∃ c,env.cells.lookup x=some c∧h.IsCell c (some u))
structure Cx.Ok (X:Cx):Prop where
 mod:Mod X.K X.mg X.base
 kind:X.env.scope.kind = .function
 glob:X.env.globals=mainGlobals
 blt:X.env.builtins=builtinsNs
 above:X.s₀.heap.objs.size≤X.env.locals
 inj:∀ x y c,X.env.cells.lookup x=some c->X.env.cells.lookup y=some c->x=y
 has:∀ x,(X.env.kindOf x=some .cell∨X.env.kindOf x=some .free) -> ∃ c,X.env.cells.lookup x=some c
 cab:∀ x c,X.fn x=true->X.env.cells.lookup x=some c->X.s₀.heap.objs.size≤c
 hd:X.calm=true->X.A.handled=none
 frames:X.A.frames=some X.stack
 stk:X.stack=X.outer∨(X.stack=X.env::X.outer∧X.env.frame=some X.env.locals)
 exf:∀ b∈X.ex,b≠X.env.locals ∧ ∀ x c,X.env.cells.lookup x=some c->c≠b
 bs:∀ b o,X.base.get? b=some o->X.s₀.heap.get? b=some o∧X.H₀ b=none
 bsz:X.base.objs.size≤X.s₀.heap.objs.size
 noex:∀ b o,X.base.get? b=some o->b ∉ X.ex
 exfs:∀ b∈X.ex,b ∉ X.fs
 funs:X.s₀.heap.FunFrames X.base X.outer
 frf:∀ b∈X.fs,X.H₀ b=none
def HndH (A:Around) (H:Hp):Prop := ∀ v,A.handled=some v -> ∃ ea oe u vs,v=Value.ref ea∧H ea=some (.frz oe u)∧oe.data = .fields vs∧vs[2]? = some .none
theorem HndH.none {A:Around} {H:Hp} (h:A.handled=none):HndH A H:=fun v e=>by rw [h] at e;cases e
structure Inv (X:Cx) (pins:List (Addr×Obj)) (σ:List (Option V)) (H:Hp) (s:Shared):Prop where
 ok:X.Ok
 os:s.os=X.s₀.os
 bare:AllBare s.gens
 base:Un X.fs X.ex X.H₀ H X.s₀.heap s.heap
 loc:∃ m,s.heap.Ns X.env.locals m ∧ ∀ (i:Nat) (x:Str) (v:V),X.N[i]? = some x->σ[i]? = some (some v)->Vis X.env.scope x -> ∃ u,RelV v u∧qHH X.env s.heap m x u
 cell:∀ x c,X.env.cells.lookup x=some c -> ∃ v,s.heap.IsCell c v
 free:H X.env.locals=none
 freeC:∀ x c,X.env.cells.lookup x=some c->H c=none
 pin:∀ p∈X.pn++pins,s.heap.get? p.1=some p.2∧H p.1=none∧p.1≠X.env.locals∧p.1 ∉ X.fs ∧ ∀ v,p.2.data ≠ .cell v
 hok:HOk X.prog X.w H s.heap
 len:σ.length=X.N.length
 hnd:HndH X.A H
section
variable {X:Cx} {pins:List (Addr×Obj)} {σ:List (Option V)} {H H':Hp} {s:Shared} {h':Heap}
theorem Cx.Ok.nofr (ok:X.Ok) {b:Addr} {o:Obj} (e:X.base.get? b=some o):b ∉ X.fs:=fun hb=>by
 have:=(ok.funs.mem hb).1
 rw [e] at this;cases this
theorem Inv.bs (I:Inv X pins σ H s):∀ b o,X.base.get? b=some o->s.heap.get? b=some o∧H b=none:=fun b o e =>
 ⟨I.base.keep b o (I.ok.bs b o e).1 (I.ok.bs b o e).2 (I.ok.nofr e) (I.ok.noex b o e),I.base.free b o (I.ok.bs b o e).1 (I.ok.bs b o e).2 (I.ok.noex b o e)⟩
theorem Inv.bk (I:Inv X pins σ H s):∀ b o,X.base.get? b=some o->s.heap.get? b=some o:=fun b o e=>(I.bs b o e).1
theorem Inv.mod (I:Inv X pins σ H s):Mod X.K X.mg X.base:=I.ok.mod
theorem Inv.kIn (I:Inv X pins σ H s):X.K.In s.heap:=I.ok.mod.kin.keeps I.bk
theorem Inv.lt (I:Inv X pins σ H s):X.env.locals < s.heap.objs.size:=let ⟨_,hn,_⟩:=I.loc;hn.lt
theorem Inv.sz (I:Inv X pins σ H s):X.s₀.heap.objs.size≤s.heap.objs.size:=AS I.ok.above (CN I.lt)
theorem Inv.nofs (I:Inv X pins σ H s) {a:Addr} (h:s.heap.objs.size≤a):a ∉ X.fs:=fun hb=>by
 obtain ⟨_,o,ho,_⟩:=I.ok.funs.mem hb
 exact absurd (Am (AJ ho) (AS I.sz h)) (Bb _)
theorem Inv.cne (I:Inv X pins σ H s):∀ x c,X.env.cells.lookup x=some c->c≠X.env.locals:=fun x c e z=>by
 obtain ⟨v,o,ho,hd⟩:=I.cell x c e
 obtain ⟨m,⟨o',es,ep,ho',hd',_⟩,_⟩:=I.loc
 rw [z,ho'] at ho;cases ho;rw [hd'] at hd;cases hd
theorem Inv.funs (I:Inv X pins σ H s):s.heap.FunFrames X.base X.outer:=by
 have all:∀ (l:List Env),(∀ b∈frs l,b∈X.fs)->X.s₀.heap.FunFrames X.base l->s.heap.FunFrames X.base l:=by
  intro l
  induction l with
  |nil=>intro _ _;trivial
  |cons env r ih =>
   intro hs hl
   obtain ⟨hk,⟨L,o,hf,hn,ho,hd⟩,hr⟩:=hl
   have hL:L∈X.fs:=hs L (by unfold frs;rw [BH,hf];exact AK)
   obtain ⟨sl,e⟩:=I.base.slot L o ho (I.ok.frf L hL) hL fun z=>I.ok.exfs L z hL
   exact ⟨hk,⟨L,_,hf,hn,e,hd⟩,ih (fun b hb=>hs b (by unfold frs;rw [BH,hf];exact AG _ hb)) hr⟩
 exact all X.outer (fun _ hb=>hb) I.ok.funs
theorem Inv.stack (I:Inv X pins σ H s):s.heap.FunFrames X.base X.stack:=by
 rcases I.ok.stk with e |⟨e,hf⟩
 ·rw [e];exact I.funs
 ·rw [e]
  obtain ⟨m,hn,_⟩:=I.loc
  refine .cons (by rw [I.ok.kind];decide) hf hn ?_ I.funs
  exact Heap.get?_none_of_le (AS I.ok.bsz I.ok.above)
theorem Inv.stkSub (I:Inv X pins σ H s):∀ b∈frs X.stack,b∈X.env.locals::X.fs:=fun b hb=>by
 rcases I.ok.stk with e |⟨e,hf⟩
 ·rw [e] at hb;exact AG _ hb
 ·rw [e] at hb
  unfold frs at hb
  rw [BH,hf] at hb
  exact hb
theorem Inv.stkFree (I:Inv X pins σ H s):∀ b∈frs X.stack,H b=none:=fun b hb=>by
 rcases AH.mp (I.stkSub b hb) with e |hb
 ·rw [e];exact I.free
 ·obtain ⟨_,o,ho,_⟩:=I.ok.funs.mem hb
  exact I.base.free b o ho (I.ok.frf b hb) fun z=>I.ok.exfs b z hb
theorem Inv.step {g':Array GenState} {t':Nat} {d':Drawn} {ch:List Addr} (I:Inv X pins σ H s)
  (hch:∀ b∈ch,(b∈X.ex∨X.s₀.heap.objs.size≤b)∧b≠X.env.locals∧(∀ x c,X.env.cells.lookup x=some c->c≠b) ∧ ∀ p∈X.pn++pins,p.1≠b)
  (keep:∀ b o,b≠X.env.locals->b ∉ X.fs->b ∉ ch->s.heap.get? b=some o->H b=none->h'.get? b=some o)
  (slot:∀ b o,b≠X.env.locals->b∈X.fs->b ∉ ch->s.heap.get? b=some o->H b=none -> ∃ sl,h'.get? b=some { o with slots:=sl }) (free:∀ b o,b ∉ ch->s.heap.get? b=some o->H b=none->H' b=none)
  (there:∀ b o,b ∉ ch->s.heap.get? b=some o -> ∃ o',h'.get? b=some o')
  (tups:∀ b xs,H b=some (.tup xs)->H' b=some (.tup xs)) (frzs:∀ b o u,H b=some (.frz o u)->H' b=some (.frz o u)) (tbls:∀ b ps,H b=some (.tbl ps) -> ∃ more,H' b=some (.tbl (ps++more)))
  (ns:∀ m,s.heap.Ns X.env.locals m->h'.Ns X.env.locals m) (hok:HOk X.prog X.w H' h') (hg:AllBare g') :
  Inv X pins σ H' { s with heap:=h',gens:=g',drawn:=d',toks:=t' }:=by
 have neL:∀ b o,X.s₀.heap.get? b=some o->b≠X.env.locals:=fun b o e=>AT (Am (AJ e) I.ok.above)
 have neC:∀ b o,X.s₀.heap.get? b=some o->b ∉ X.ex->b ∉ ch:=fun b o e hx hb=>by
  rcases (hch b hb).1 with z |z
  ·exact hx z
  ·exact absurd (Am (AJ e) z) (Bb _)
 have cellK:∀ x c,X.env.cells.lookup x=some c -> ∀ v,s.heap.IsCell c v->h'.IsCell c v:=fun x c e v ⟨o,ho,hd⟩=>by
  have nch:c ∉ ch:=fun z=>(hch c z).2.2.1 x c e rfl
  by_cases hc:c∈X.fs
  ·obtain ⟨sl,q⟩:=slot c o (I.cne x c e) hc nch ho (I.freeC x c e)
   exact ⟨_,q,hd⟩
  ·exact ⟨o,keep c o (I.cne x c e) hc nch ho (I.freeC x c e),hd⟩
 refine ⟨I.ok,I.os,hg,⟨fun b o e n hb hx => ?_,fun b o e n hb hx => ?_,fun b o e n hx => ?_,fun b o e hx => ?_,fun b xs e=>tups b xs (I.base.tups b xs e),fun b o xs e=>frzs b o xs (I.base.frzs b o xs e),fun b ps e => ?_⟩,?_,fun x c e => ?_,?_,fun x c e => ?_,fun p hp => ?_,hok,I.len,fun v hv=>(let ⟨ea,oe,u,vs,e1,e2,e3⟩:=I.hnd v hv;⟨ea,oe,u,vs,e1,frzs _ _ _ e2,e3⟩)⟩
 ·exact keep b o (neL b o e) hb (neC b o e hx) (I.base.keep b o e n hb hx) (I.base.free b o e n hx)
 ·obtain ⟨sl,e1⟩:=I.base.slot b o e n hb hx
  obtain ⟨sl',e2⟩:=slot b _ (neL b o e) hb (neC b o e hx) e1 (I.base.free b o e n hx)
  exact ⟨sl',e2⟩
 ·obtain ⟨o',e1⟩:=I.base.there b o e hx
  exact free b o' (neC b o e hx) e1 (I.base.free b o e n hx)
 ·obtain ⟨o',e1⟩:=I.base.there b o e hx
  exact there b o' (neC b o e hx) e1
 ·obtain ⟨m1,e1⟩:=I.base.tbls b ps e
  obtain ⟨m2,e2⟩:=tbls b _ e1
  exact ⟨m1++m2,by rw [e2,Array.append_assoc]⟩
 ·obtain ⟨m,hn,hl⟩:=I.loc
  refine ⟨m,ns m hn,fun i x v e1 e2 e3 => ?_⟩
  obtain ⟨u,r,l⟩:=hl i x v e1 e2 e3
  refine ⟨u,r,?_⟩
  rcases l with l |⟨k,c,e,z⟩
  ·exact .inl l
  ·exact .inr ⟨k,c,e,cellK x c e _ z⟩
 ·obtain ⟨v,z⟩:=I.cell x c e
  exact ⟨v,cellK x c e v z⟩
 ·obtain ⟨m,⟨o,_,_,ho,_⟩,_⟩:=I.loc
  exact free _ o (fun z=>(hch _ z).2.1 rfl) ho I.free
 ·obtain ⟨v,o,ho,hd⟩:=I.cell x c e
  exact free c o (fun z=>(hch c z).2.2.1 x c e rfl) ho (I.freeC x c e)
 ·obtain ⟨e,n,ne,nf,d⟩:=I.pin p hp
  have nch:p.1 ∉ ch:=fun z=>(hch p.1 z).2.2.2 p hp rfl
  exact ⟨keep p.1 p.2 ne nf nch e n,free p.1 p.2 nch e n,ne,nf,d⟩
theorem Inv.un {t':Nat} (I:Inv X pins σ H s) (u:Un X.fs [] H H' s.heap h') (hok:HOk X.prog X.w H' h'):Inv X pins σ H' { s with heap:=h',toks:=t' }:=by
 obtain ⟨m,⟨o,es,ep,ho,r⟩,_⟩:=id I.loc
 obtain ⟨sl,hL⟩:=u.any ho I.free (by simp)
 exact I.step (g':=s.gens) (d':=s.drawn) (ch:=[]) (fun _ z=>nomatch z) (fun b o _ hb _ e n=>u.keep b o e n hb (by simp)) (fun b o _ hb _ e n=>u.slot b o e n hb (by simp)) (fun b o _ e n=>u.free b o e n (by simp)) (fun b o _ e=>u.there b o e (by simp)) u.tups u.frzs u.tbls (fun m' hm=>by
  obtain ⟨o',es',ep',ho',r'⟩:=hm
  rw [ho] at ho';cases ho'
  exact ⟨_,es',ep',hL,r'⟩) hok I.bare
theorem Inv.call {g':Array GenState} {t':Nat} {d':Drawn} {ch:List Addr} (I:Inv X pins σ H s) (u:Un (frs X.stack) ch H H' s.heap h') (hok:HOk X.prog X.w H' h') (hg:AllBare g')
  (hch:∀ b∈ch,(b∈X.ex∨X.s₀.heap.objs.size≤b)∧b≠X.env.locals∧(∀ x c,X.env.cells.lookup x=some c->c≠b) ∧ ∀ p∈X.pn++pins,p.1≠b) :
  Inv X pins σ H' { s with heap:=h',gens:=g',drawn:=d',toks:=t' }:=by
 obtain ⟨m,⟨o,es,ep,ho,r⟩,_⟩:=id I.loc
 obtain ⟨sl,hL⟩:=u.any ho I.free fun z=>(hch _ z).2.1 rfl
 exact I.step (ch:=ch) hch (fun b o hL hb hc e n=>u.keep b o e n (fun z=>(AH.mp (I.stkSub b z)).elim hL hb) hc) (fun b o _ _ hc e n=>u.any e n hc) (fun b o hc e n=>u.free b o e n hc) (fun b o hc e=>u.there b o e hc) u.tups u.frzs u.tbls (fun m' hm=>by
  obtain ⟨o',es',ep',ho',r'⟩:=hm
  rw [ho] at ho';cases ho'
  exact ⟨_,es',ep',hL,r'⟩) hok hg
theorem Inv.turned {t':Nat} {it:Addr} (I:Inv X pins σ H s) (k:∀ b o,b≠it->s.heap.get? b=some o->h'.get? b=some o) (hn:H it=none) (hL:it≠X.env.locals)
  (h1:it∈X.ex∨X.s₀.heap.objs.size≤it) (h2:∀ x c,X.env.cells.lookup x=some c->c≠it) (h3:∀ p∈X.pn++pins,p.1≠it):Inv X pins σ H { s with heap:=h',toks:=t' }:=by
 have nit:∀ b u,H b=some u->b≠it:=fun b u e z=>by rw [z,hn] at e;cases e
 refine I.step (g':=s.gens) (d':=s.drawn) (ch:=[it]) (fun b hb => ?_) (fun b o _ _ hc e _=>k b o (fun z=>hc (by simp [z])) e) (fun b o _ _ hc e _=>⟨o.slots,k b o (fun z=>hc (by simp [z])) e⟩) (fun _ _ _ _ n=>n)
  (fun b o hc e=>⟨o,k b o (fun z=>hc (by simp [z])) e⟩) (fun _ _ e=>e) (fun _ _ _ e=>e) (fun b ps e=>⟨#[],by rw [e];simp⟩) (fun m hm => ?_) (fun b u e => ?_) I.bare
 ·have e:b=it:=by simpa using hb
  subst e
  exact ⟨h1,hL,h2,h3⟩
 ·obtain ⟨o,es,ep,ho,r⟩:=hm
  exact ⟨o,es,ep,k _ o (Ne.symm hL) ho,r⟩
 ·refine (I.hok b u e).stay (fun c v hc q=>k c v ?_ q) (fun _ q=>q) fun _ _ q=>q
  rcases hc with z |z
  ·rw [z];exact nit b u e
  ·exact nit c _ z
theorem Inv.tok (I:Inv X pins σ H s) (t:Nat):Inv X pins σ H { s with toks:=t }:=I.un (h':=s.heap) (t':=t) Un.refl I.hok
theorem Inv.kept {t':Nat} (I:Inv X pins σ H s) (k:∀ b u,s.heap.get? b=some u->h'.get? b=some u):Inv X pins σ H { s with heap:=h',toks:=t' }:=I.un (Un.kept k) (I.hok.kept k)
theorem Inv.laid {a:Addr} {o:HO} {t':Nat} (I:Inv X pins σ H s) (k:∀ b u,s.heap.get? b=some u->h'.get? b=some u) (hp:s.heap.objs.size≤a) (new:ObjOk X.prog X.w (upd H a o) h' a o) :
  Inv X pins σ (upd H a o) { s with heap:=h',toks:=t' }:=I.un (Un.laid k hp (I.hok.fresh hp)) (I.hok.laid k hp new)
theorem Inv.write {x e:Addr} {o:HO} {t':Nat} (I:Inv X pins σ H s) (mu:Mut (H x)) (he:e=x∨H e=some (.own x)) (k:∀ b u,b≠e->s.heap.get? b=some u->h'.get? b=some u) (heo:∃ u,h'.get? e=some u)
  (new:ObjOk X.prog X.w (upd H x o) h' x o):Inv X pins σ (upd H x o) { s with heap:=h',toks:=t' }:=I.un (Un.write mu he k heo) (I.hok.write mu he k heo new)
theorem Inv.pins_of {pins':List (Addr×Obj)} (I:Inv X pins σ H s) (h:∀ p∈pins',s.heap.get? p.1=some p.2∧H p.1=none∧p.1≠X.env.locals∧p.1 ∉ X.fs ∧ ∀ v,p.2.data ≠ .cell v):Inv X pins' σ H s :=
 ⟨I.ok,I.os,I.bare,I.base,I.loc,I.cell,I.free,I.freeC,fun p hp=>(A1.mp hp).elim (fun z=>I.pin p (List.mem_append_left _ z)) (h p),I.hok,I.len,I.hnd⟩
theorem jl {N:List Str} (hN:N.Nodup) {i j:Nat} {x:Str} (a:N[i]? = some x) (b:N[j]? = some x):i=j:=by
 obtain ⟨h1,e1⟩:=Aa.mp a
 obtain ⟨h2,e2⟩:=Aa.mp b
 exact (List.getElem_inj hN).mp (e1.trans e2.symm)
theorem qAs {M:Model} {A:Around} {E:Value->Shared->Prop} {i:Nat} {x:Str} {v:V} {u:Value} {Q:Unit->Shared->Prop} (I:Inv X pins σ H s) (hN:X.N.Nodup) (hi:X.N[i]? = some x) (hx:Loc X.env.scope x) (r:RelV v u)
  (h:∀ s',Inv X pins (σ.set i (some v)) H s'->(∃ a,Heap.SameBut a s.heap s'.heap∧(a=X.env.locals∨X.env.cells.lookup x=some a))->Q () s') (hf:X.fn x=true∨X.env.scope.names.lookup x=some .local:=by first |exact .inl rfl |exact .inr rfl |assumption):wpAny M A (storeName X.env x u) Q E s:=by
 obtain ⟨m,hn,hl⟩:=id I.loc
 have hcls:(X.env.scope.kind == .class || (X.env.scope.kind == .module&&X.env.locals != X.env.globals))=false:=by rw [I.ok.kind];rfl
 have hiσ:i < σ.length:=by rw [I.len];exact (Aa.mp hi).1
 have cne:=I.cne
 have tracked:∀ {a:Addr} {h':Heap},(∃ o,s.heap.get? a=some o∧H a=none)->Heap.SameBut a s.heap h'->HOk X.prog X.w H h':=fun {a h'} ha hs b ob e=>by
  obtain ⟨_,_,hfree⟩:=ha
  refine (I.hok b ob e).stay (fun c w' hc q=>(hs.2 c ?_).trans q) (fun _ q=>q) fun _ _ q=>q
  rintro rfl
  rcases hc with rfl |hc
  ·rw [hfree] at e;cases e
  ·rw [hfree] at hc;cases hc
 rcases hx with hk |hk
 ·refine wpAny_storeName_local hk hn (fun h' hn' hs => ?_) hcls
  obtain ⟨oL,_,_,hoL,_⟩:=id hn
  refine h _ ⟨I.ok,I.os,I.bare,⟨fun b o e n hb hx => ?_,fun b o e n hb hx => ?_,I.base.free,fun b o e hx => ?_,I.base.tups,I.base.frzs,I.base.tbls⟩,⟨_,hn',fun j y v' e1 e2 e3 => ?_⟩,fun y c e => ?_,I.free,I.freeC,fun p hp => ?_,tracked ⟨oL,hoL,I.free⟩ hs,by simpa using I.len,I.hnd⟩ ⟨_,hs,.inl rfl⟩
  ·exact (hs.2 b (AT (Am (AJ e) I.ok.above))).trans (I.base.keep b o e n hb hx)
  ·obtain ⟨sl,e1⟩:=I.base.slot b o e n hb hx
   exact ⟨sl,(hs.2 b (AT (Am (AJ e) I.ok.above))).trans e1⟩
  ·obtain ⟨o',e1⟩:=I.base.there b o e hx
   exact ⟨o',(hs.2 b (AT (Am (AJ e) I.ok.above))).trans e1⟩
  ·by_cases hj:j=i
   ·subst hj
    rw [hi] at e1;cases e1
    rw [Bg hiσ] at e2
    cases e2
    exact ⟨u,r,.inl ⟨hk,by simp⟩⟩
   ·rw [BX (Ne.symm hj)] at e2
    obtain ⟨u',r',q⟩:=hl j y v' e1 e2 e3
    refine ⟨u',r',?_⟩
    rcases q with ⟨k,e⟩ |⟨k,c,e,z⟩
    ·refine .inl ⟨k,?_⟩
     have:y≠x:=fun e=>hj (jl hN e1 (e ▸ hi))
     simp [this,e]
    ·exact .inr ⟨k,c,e,z.sameBut hs (cne y c e)⟩
  ·obtain ⟨w',z⟩:=I.cell y c e
   exact ⟨w',z.sameBut hs (cne y c e)⟩
  ·obtain ⟨e,n,ne,nf,d⟩:=I.pin p hp
   exact ⟨(hs.2 p.1 ne).trans e,n,ne,nf,d⟩
 ·have hfn:X.fn x=true:=by
   rcases hf with z |z
   ·exact z
   ·rw [z] at hk;cases hk
  obtain ⟨c,hc⟩:=I.ok.has x (.inl hk)
  obtain ⟨w',z⟩:=I.cell x c hc
  refine wpAny_storeName_cell I.ok.kind hk hc z (fun h' hc' hs => ?_)
  obtain ⟨oc,hoc,hocd⟩:=id z
  refine h { s with heap:=h' } ⟨I.ok,I.os,I.bare,⟨fun b o e n hb hx => ?_,fun b o e n hb hx => ?_,I.base.free,fun b o e hx => ?_,I.base.tups,I.base.frzs,I.base.tbls⟩,⟨m,hn.sameBut hs (Ne.symm (cne x c hc)),fun j y v' e1 e2 e3 => ?_⟩,fun y c' e => ?_,I.free,I.freeC,fun p hp => ?_,tracked ⟨oc,hoc,I.freeC x c hc⟩ hs,by simpa using I.len,I.hnd⟩ ⟨c,hs,.inr hc⟩
  ·exact (hs.2 b (AT (Am (AJ e) (I.ok.cab x c hfn hc)))).trans (I.base.keep b o e n hb hx)
  ·obtain ⟨sl,e1⟩:=I.base.slot b o e n hb hx
   exact ⟨sl,(hs.2 b (AT (Am (AJ e) (I.ok.cab x c hfn hc)))).trans e1⟩
  ·obtain ⟨o',e1⟩:=I.base.there b o e hx
   exact ⟨o',(hs.2 b (AT (Am (AJ e) (I.ok.cab x c hfn hc)))).trans e1⟩
  ·by_cases hj:j=i
   ·subst hj
    rw [hi] at e1;cases e1
    rw [Bg hiσ] at e2
    cases e2
    exact ⟨u,r,.inr ⟨.inl hk,c,hc,hc'⟩⟩
   ·rw [BX (Ne.symm hj)] at e2
    obtain ⟨u',r',q⟩:=hl j y v' e1 e2 e3
    refine ⟨u',r',?_⟩
    rcases q with q |⟨k,c',e,z'⟩
    ·exact .inl q
    ·refine .inr ⟨k,c',e,z'.sameBut hs ?_⟩
     rintro rfl
     exact hj (jl hN e1 (I.ok.inj _ _ _ e hc ▸ hi))
  ·by_cases hcc:c'=c
   ·subst hcc;exact ⟨_,hc'⟩
   ·obtain ⟨w2,z2⟩:=I.cell y c' e
    exact ⟨w2,z2.sameBut hs hcc⟩
  ·obtain ⟨e,n,ne,nf,d⟩:=I.pin p hp
   refine ⟨(hs.2 p.1 ?_).trans e,n,ne,nf,d⟩
   intro q
   rw [q,hoc] at e
   have q':oc=p.2:=AZ e
   exact d w' (by rw [← q'];exact hocd)
theorem W0 {M:Model} {A:Around} {E:Value->Shared->Prop} {i:Nat} {x:Str} {v:V} {u:Value} {Q:Unit->Shared->Prop} (I:Inv X pins σ H s) (hN:X.N.Nodup) (hi:X.N[i]? = some x) (hx:Loc X.env.scope x) (r:RelV v u)
  (h:∀ s',Inv X pins (σ.set i (some v)) H s'->Q () s') (hf:X.fn x=true∨X.env.scope.names.lookup x=some .local:=by first |exact .inl rfl |exact .inr rfl |assumption):wpAny M A (storeName X.env x u) Q E s :=
 qAs I hN hi hx r (fun s' I' _=>h s' I') hf
end
abbrev XK:=Value->Option Addr->Hp->Prop
abbrev St:=List (Option V)
abbrev VK:=V->Hp->Prop
abbrev TE:=St->Hp->VK->Prop
abbrev TT:=St->Hp->(Bool->Hp->Prop)->Prop
abbrev TA:=St->Hp->(List V->Hp->Prop)->Prop
structure Ends where
 nx:St->Hp->Prop
 rt:VK
 bk:St->Hp->Prop:=fun _ _=>False
 ct:St->Hp->Prop:=fun _ _=>False
abbrev TS:=Ends->St->Hp->Prop
def EP (X:Cx) (pins:List (Addr×Obj)) (σ:St) (Q:VK) (u:Value) (s':Shared):Prop := ∃ v H',Inv X pins σ H' s'∧RelV v u∧Q v H'
def TP (X:Cx) (pins:List (Addr×Obj)) (σ:St) (Q:Bool->Hp->Prop) (b:Bool) (s':Shared):Prop := ∃ H',Inv X pins σ H' s'∧Q b H'
def AP (X:Cx) (pins:List (Addr×Obj)) (σ:St) (Q:List V->Hp->Prop) (us:List Value) (s':Shared):Prop := ∃ vs H',Inv X pins σ H' s'∧Vals vs us∧Q vs H'
def SP (X:Cx) (pins:List (Addr×Obj)) (D:Ends) (f:Flow) (s':Shared):Prop :=
 match f with
 | .next => ∃ σ' H',Inv X pins σ' H' s'∧D.nx σ' H'
 | .brk => ∃ σ' H',Inv X pins σ' H' s'∧D.bk σ' H'
 | .cont => ∃ σ' H',Inv X pins σ' H' s'∧D.ct σ' H'
 | .ret u => ∃ v σ' H',Inv X pins σ' H' s'∧RelV v u∧D.rt v H'
def PE (X:Cx) (e:Expr) (t:TE):Prop :=
 ∀ (pins:List (Addr×Obj)) (s:Shared) (σ:St) (H:Hp) (Q:VK),Inv X pins σ H s->t σ H Q->wpAny (model X.prog X.w) X.A (eval e X.env) (EP X pins σ Q) X.xe s
def PT (X:Cx) (e:Expr) (t:TT):Prop :=
 ∀ (pins:List (Addr×Obj)) (s:Shared) (σ:St) (H:Hp) (Q:Bool->Hp->Prop),Inv X pins σ H s->t σ H Q->wpAny (model X.prog X.w) X.A (isTrue e X.env (eval e X.env)) (TP X pins σ Q) X.xe s
def PW (X:Cx) (e:Expr) (t:TT):Prop :=
 ∀ (whole:Sem Value) (pins:List (Addr×Obj)) (s:Shared) (σ:St) (H:Hp) (Q:Bool->Hp->Prop),Inv X pins σ H s->t σ H Q->wpAny (model X.prog X.w) X.A (isTrue e X.env whole) (TP X pins σ Q) X.xe s
theorem PW.pt {X:Cx} {e:Expr} {t:TT} (h:PW X e t):PT X e t:=h _
def PA (X:Cx) (es:List Expr) (t:TA):Prop :=
 ∀ (pos:Pos) (pins:List (Addr×Obj)) (s:Shared) (σ:St) (H:Hp) (Q:List V->Hp->Prop),Inv X pins σ H s->t σ H Q->wpAny (model X.prog X.w) X.A (spliced (backTo pos (starEach es X.env))) (AP X pins σ Q) X.xe s
def PS (X:Cx) (st:Stmt) (t:TS):Prop :=
 ∀ (pins:List (Addr×Obj)) (s:Shared) (σ:St) (H:Hp) (D:Ends),Inv X pins σ H s->t D σ H->wpAny (model X.prog X.w) X.A (exec st X.env) (SP X pins D) X.xe s
def PSs (X:Cx) (st:List Stmt) (t:TS):Prop :=
 ∀ (pins:List (Addr×Obj)) (s:Shared) (σ:St) (H:Hp) (D:Ends),Inv X pins σ H s->t D σ H->wpAny (model X.prog X.w) X.A (execs st X.env) (SP X pins D) X.xe s
theorem thn {α:Type} {t:Sem α} {Q Q':α->Shared->Prop} {M:Model} {A:Around} {E:Value->Shared->Prop} {s:Shared} (h:wpAny M A t Q E s) (hQ:∀ a s,Q a s->Q' a s):wpAny M A t Q' E s:=BD h hQ fun _ _ x=>x
end L2
namespace L2
open PySem PySem.Spec PyProof.Rows
section
variable {X:Cx}
def qEy (i:Nat):TE:=fun σ H Q => ∃ v,σ[i]? = some (some v)∧Q v H
def tC (v:V):TE:=fun _ H Q=>Q v H
theorem qE3 {i:Nat} {x:Str} {pos:Pos} (hN:X.N[i]? = some x) (hv:Vis X.env.scope x) (hd:(x==("__debug__":Str))=false:=by decide) (hcd:(x==("__classdict__":Str))=false:=by decide):PE X (.Name x pos) (qEy i):=by
 intro pins s σ H Q I h
 obtain ⟨v,e,h⟩:=h
 obtain ⟨m,hn,hl⟩:=I.loc
 obtain ⟨u,r,l⟩:=hl i x v hN e hv
 have fin:EP X pins σ Q u s:=⟨v,H,I,r,h⟩
 rcases l with ⟨hk,hm⟩ |⟨hk,c,hc,hcell⟩
 ·exact wpAny_Name (wpAny_loadName_local I.ok.kind hk hn hm fin) hd
 ·rcases hk with hk |hk
  ·exact wpAny_Name (wpAny_loadName_cell I.ok.kind hk hc hcell fin) hd
  ·exact wpAny_Name (wpAny_loadName_free I.ok.kind hk hc hcell fin hcd) hd
theorem qEZ {i j pos}:PE X (.Constant (.int i) j pos) (tC (.int i)):=fun _ _ _ H _ I h=>wpAny_Constant_int ⟨.int i,H,I.tok _,⟨_,rfl⟩,h⟩
theorem qF1 {b j pos}:PE X (.Constant (.bool b) j pos) (tC (.bl b)):=fun _ _ _ H _ I h=>Constant_bool ⟨.bl b,H,I,rfl,h⟩
theorem qBz {j pos}:PE X (.Constant .none j pos) (tC .non):=fun _ _ _ H _ I h=>Constant_none ⟨.non,H,I,rfl,h⟩
def Gl (X:Cx) (x:Str):Prop:=X.env.kindOf x=some .globalImplicit
theorem qAA {E:Value->Shared->Prop} {pins:List (Addr×Obj)} {s:Shared} {σ:St} {H:Hp} {x:Str} {u:Value} {pos:Pos} {Q:Value->Shared->Prop} (I:Inv X pins σ H s) (hg:Gl X x) (hm:X.mg x=some u) (h:Q u s)
  (hd:(x==("__debug__":Str))=false:=by decide):wpAny (model X.prog X.w) X.A (eval (.Name x pos) X.env) Q E s :=
 Calls.Name_function_global I.ok.kind hg (Calls.loadGlobal_global (by rw [I.ok.glob];exact I.mod.glob.keeps I.bk) hm h) hd
theorem Wm {E:Value->Shared->Prop} {pins:List (Addr×Obj)} {s:Shared} {σ:St} {H:Hp} {x:Str} {u:Value} {pos:Pos} {Q:Value->Shared->Prop} (I:Inv X pins σ H s) (hg:Gl X x) (hm:X.mg x=none) (hv:bootBuiltins x=some u) (h:Q u s)
  (hn:x ≠ "__name__" := by decide) (hd:(x==("__debug__":Str))=false:=by decide):wpAny (model X.prog X.w) X.A (eval (.Name x pos) X.env) Q E s:=by
 obtain ⟨mb,h1,h2⟩:=I.mod.blt
 exact Calls.Name_function_global I.ok.kind hg (Calls.loadGlobal_builtin (by rw [I.ok.glob];exact I.mod.glob.keeps I.bk) hm (by rw [I.ok.blt];exact h1.keeps I.bk) ((h2 x hn).trans hv) h) hd
theorem qDl {x:Str} {v:V} {u:Value} {pos:Pos} (hg:Gl X x) (hm:X.mg x=some u) (r:RelV v u) (hd:(x==("__debug__":Str))=false:=by decide):PE X (.Name x pos) (tC v) :=
 fun _ _ _ H _ I h=>qAA I hg hm ⟨v,H,I,r,h⟩ hd
theorem qDW {x:Str} {v:V} {u:Value} {pos:Pos} (hg:Gl X x) (hm:X.mg x=none) (hv:bootBuiltins x=some u) (r:RelV v u) (hn:x ≠ "__name__" := by decide) (hd:(x==("__debug__":Str))=false:=by decide):PE X (.Name x pos) (tC v) :=
 fun _ _ _ H _ I h=>Wm I hg hm hv ⟨v,H,I,r,h⟩ hn hd
variable {a b:Expr} {ta tb:TE} {pos:Pos}
def PC (X:Cx) (op:CmpOp) (a b:Expr) (t:TE):Prop :=
 ∀ (pins:List (Addr×Obj)) (s:Shared) (σ:St) (H:Hp) (Q:VK),Inv X pins σ H s->t σ H Q ->
  wpAny (model X.prog X.w) X.A (eval a X.env) (fun v s₁=>wpAny (model X.prog X.w) X.A (eval b X.env) (fun u s₂=>wpAny (model X.prog X.w) X.A (compareOp op v u) (EP X pins σ Q) X.xe s₂) X.xe s₁) X.xe s
def tB (t:TE):TT:=fun σ H Q=>t σ H fun x H1 => ∃ c,x = .bl c∧Q c H1
theorem qEV {op:CmpOp} {t:TE} (h:PC X op a b t) (h1:behindInMarks op b=false:=by first |exact nobehind _ (by decide) (by decide) |rfl):PT X (.Compare a [op] [b] pos) (tB t):=by
 intro pins s σ H Q I hw
 refine wpAny_isTrue_Compare1 (thn (h pins s σ H _ I hw) fun v s1 h1=>thn h1 fun u s2 h2=>thn h2 fun c s3 ⟨x,H1,I1,r1,q1⟩ => ?_) h1
 obtain ⟨d,rfl,q⟩:=q1
 cases r1
 exact A6 ⟨H1,I1,q⟩
variable {tA tB':TT} {rest:List Expr}
def tOr (t u:TT):TT:=fun σ H Q=>t σ H fun c H1=>if c=true then Q true H1 else u σ H1 Q
def qG1 (t:TT):TT:=fun σ H Q=>t σ H fun c H1=>Q (!c) H1
theorem qFW (ha:PT X a tA):PW X (.BoolOp .Or [a] pos) tA:=by
 intro wh pins s σ H Q I h
 refine isTrue_or (thn (ha pins s σ H Q I h) fun c s1 e => ?_)
 cases c with
 |false=>exact isTrue_or_nil e
 |true=>exact e
theorem qGW (ha:PT X a tA) (hb:PW X (.BoolOp .Or (b::rest) pos) tB'):PW X (.BoolOp .Or (a::b::rest) pos) (tOr tA tB'):=by
 intro wh pins s σ H Q I h
 refine isTrue_or (thn (ha pins s σ H _ I h) fun c s1 ⟨H1,I1,q1⟩ => ?_)
 cases c with
 |true=>exact ⟨H1,I1,q1⟩
 |false=>exact hb wh pins s1 σ H1 Q I1 q1
theorem qFY (ha:PT X a tA):PT X (.UnaryOp .Not a pos) (qG1 tA):=by
 intro pins s σ H Q I h
 exact isTrue_not (ha pins s σ H (fun c H1=>Q (!c) H1) I h)
def qGA (ta tb:TE):TE:=fun σ H Q=>ta σ H fun x H1 => ∃ c,x = .bl c∧if c=true then tb σ H1 Q else Q (.bl false) H1
def qG4 (ta tb:TE):TE:=fun σ H Q=>ta σ H fun x H1 => ∃ c,x = .bl c∧if c=true then Q (.bl true) H1 else tb σ H1 Q
def qGM (ta:TE):TE:=fun σ H Q=>ta σ H fun x H1 => ∃ c,x = .bl c∧Q (.bl (!c)) H1
theorem qFx {op} {t:TE} (h:PE X a t):PE X (.BoolOp op [a] pos) t:=fun pins s σ H Q I hw=>BoolOp_one (h pins s σ H Q I hw)
theorem qEw (ha:PE X a ta) (hb:PE X (.BoolOp .And (b::rest) pos) tb):PE X (.BoolOp .And (a::b::rest) pos) (qGA ta tb):=by
 intro pins s σ H Q I h
 refine BoolOp_and (thn (ha pins s σ H _ I h) fun v s1 ⟨x,H1,I1,r1,q1⟩ => ?_)
 obtain ⟨c,rfl,q1⟩:=q1
 cases r1
 refine A6 ?_
 cases c with
 |true=>exact hb pins s1 σ H1 Q I1 q1
 |false=>exact ⟨.bl false,H1,I1,rfl,q1⟩
theorem qGB (ha:PE X a ta) (hb:PE X (.BoolOp .Or (b::rest) pos) tb):PE X (.BoolOp .Or (a::b::rest) pos) (qG4 ta tb):=by
 intro pins s σ H Q I h
 refine BoolOp_or (thn (ha pins s σ H _ I h) fun v s1 ⟨x,H1,I1,r1,q1⟩ => ?_)
 obtain ⟨c,rfl,q1⟩:=q1
 cases r1
 refine A6 ?_
 cases c with
 |false=>exact hb pins s1 σ H1 Q I1 q1
 |true=>exact ⟨.bl true,H1,I1,rfl,q1⟩
theorem qFg (ha:PE X a ta):PE X (.UnaryOp .Not a pos) (qGM ta):=by
 intro pins s σ H Q I h
 refine UnaryOp_ (thn (ha pins s σ H _ I h) fun v s1 ⟨x,H1,I1,r1,q1⟩ => ?_)
 obtain ⟨c,rfl,q1⟩:=q1
 cases r1
 exact not_of (A6 ⟨.bl (!c),H1,I1,rfl,q1⟩)
def tIf (t:TT) (ta tb:TE):TE:=fun σ H Q=>t σ H fun c H1=>if c=true then ta σ H1 Q else tb σ H1 Q
theorem qB1 {c:Expr} (hc:PT X c tA) (ha:PE X a ta) (hb:PE X b tb):PE X (.IfExp c a b pos) (tIf tA ta tb):=by
 intro pins s σ H Q I h
 refine wpAny_IfExp (thn (hc pins s σ H _ I h) fun d s1 ⟨H1,I1,q1⟩ => ?_)
 cases d with
 |true=>exact ha pins s1 σ H1 Q I1 q1
 |false=>exact hb pins s1 σ H1 Q I1 q1
end
end L2
namespace L2
open PySem PySem.Spec PyProof.Rows
def SqL (K:W.Frag) (H:Hp) (a:Addr) (xs:List V):Prop :=
 Rd H a (.lst xs) ∨
  ∃ (o:Obj) (its:Array Value) (n:Nat),K.lookup a=some o∧o.cls = .type "list" ∧ o.dict=none∧o.data = .seq its n∧its.size≤sizeLine∧Vals xs its.toList
def SqT (K:W.Frag) (H:Hp) (a:Addr) (xs:List V):Prop :=
 Rd H a (.tup xs) ∨
  ∃ (o:Obj) (its:Array Value) (n:Nat),K.lookup a=some o∧o.cls = .type "tuple" ∧ o.data = .seq its n∧its.size≤sizeLine∧Vals xs its.toList
def qG5:Value->Option V
 | .none=>some .non
 | .bool b=>some (.bl b)
 | .int i _=>some (.int i)
 | .str x _=>some (.str x)
 | .bytes b _=>some (.byt b)
 | .float b _=>some (.flt b)
 | .ref a=>some (.ref a)
 | .type n=>some (.ty n)
 |_=>none
theorem RelV.abs {x:V} {u:Value} (r:RelV x u):qG5 u=some x:=by
 cases x with
 |non=>cases r;rfl
 |bl _=>cases r;rfl
 |int _=>obtain ⟨t,rfl⟩:=r;rfl
 |str _=>obtain ⟨t,rfl⟩:=r;rfl
 |byt _=>obtain ⟨t,rfl⟩:=r;rfl
 |flt _=>obtain ⟨t,rfl⟩:=r;rfl
 |ref _=>cases r;rfl
 |ty _=>cases r;rfl
theorem RelV.inj {x y:V} {u:Value} (r:RelV x u) (q:RelV y u):x=y:=AZ (r.abs.symm.trans q.abs)
theorem Vals.inj:∀ {xs ys:List V} {us:List Value},Vals xs us->Vals ys us->xs=ys
 |_,_,_,.nil,.nil=>rfl
 |_,_,_,.cons r t,.cons r' t'=>by rw [r.inj r',Vals.inj t t']
section
variable {X:Cx} {pins:List (Addr×Obj)} {σ:St} {H:Hp} {s:Shared} {a:Addr} {xs ys:List V}
theorem SqL.of {K:W.Frag} (h:H a=some (.lst xs)):SqL K H a xs := .inl (.inl h)
theorem Inv.list (I:Inv X pins σ H s) (h:SqL X.K H a xs):∃ its:List Value,Vals xs its∧PlainL s.heap a its.toArray∧xs.length≤sizeLine:=by
 rcases h with h |⟨o,its,n,hk,hc,hd,hs,hz,r⟩
 ·obtain ⟨z,its,n,r,e⟩:=h.ok I.hok
  exact ⟨its,r,⟨_,n,e,rfl,rfl,rfl⟩,z⟩
 ·refine ⟨its.toList,r,⟨o,n,I.kIn a o hk,hc,hd,by simpa using hs⟩,?_⟩
  have e:=r.length
  simp only [Ab] at e
  omega
theorem Inv.tuple (I:Inv X pins σ H s) (h:SqT X.K H a xs):∃ its:List Value,Vals xs its∧IsTup s.heap a its.toArray∧xs.length≤sizeLine:=by
 rcases h with h |⟨o,its,n,hk,hc,hs,hz,r⟩
 ·obtain ⟨z,its,r,p,_⟩:=h.ok I.hok
  exact ⟨its,r,p,z⟩
 ·refine ⟨its.toList,r,⟨o,I.kIn a o hk,hc,n,by simpa using hs⟩,?_⟩
  have e:=r.length
  simp only [Ab] at e
  omega
theorem Inv.list_inj (I:Inv X pins σ H s) (h:SqL X.K H a xs) (h':SqL X.K H a ys):xs=ys:=by
 obtain ⟨its,r,⟨o,n,e,_,_,d⟩,_⟩:=I.list h
 obtain ⟨its',r',⟨o',n',e',_,_,d'⟩,_⟩:=I.list h'
 rw [e] at e';cases e'
 rw [d] at d'
 injection d' with d1 _
 have:its=its':=by simpa using congrArg Array.toList d1
 subst this
 exact r.inj r'
theorem Inv.tuple_inj (I:Inv X pins σ H s) (h:SqT X.K H a xs) (h':SqT X.K H a ys):xs=ys:=by
 obtain ⟨its,r,⟨o,e,_,n,d⟩,_⟩:=I.tuple h
 obtain ⟨its',r',⟨o',e',_,n',d'⟩,_⟩:=I.tuple h'
 rw [e] at e';cases e'
 rw [d] at d'
 injection d' with d1 _
 have:its=its':=by simpa using congrArg Array.toList d1
 subst this
 exact r.inj r'
end
abbrev Cx.wish (X:Cx) (E:Value->Shared->Prop):Cx:={ X with xe:=E }
abbrev Cx.nox (X:Cx):Cx:=X.wish fun _ _=>False
theorem Cx.Ok.wish {X:Cx} (ok:X.Ok) (E:Value->Shared->Prop):(X.wish E).Ok :=
 ⟨ok.mod,ok.kind,ok.glob,ok.blt,ok.above,ok.inj,ok.has,ok.cab,ok.hd,ok.frames,ok.stk,ok.exf,ok.bs,ok.bsz,ok.noex,ok.exfs,ok.funs,ok.frf⟩
theorem Cx.Ok.unwish {X:Cx} {E:Value->Shared->Prop} (ok:(X.wish E).Ok):X.Ok :=
 ⟨ok.mod,ok.kind,ok.glob,ok.blt,ok.above,ok.inj,ok.has,ok.cab,ok.hd,ok.frames,ok.stk,ok.exf,ok.bs,ok.bsz,ok.noex,ok.exfs,ok.funs,ok.frf⟩
section
variable {X:Cx} {pins:List (Addr×Obj)} {σ:St} {H:Hp} {s:Shared} {E:Value->Shared->Prop}
theorem Inv.wish (I:Inv X pins σ H s) (E:Value->Shared->Prop):Inv (X.wish E) pins σ H s:=⟨I.ok.wish E,I.os,I.bare,I.base,I.loc,I.cell,I.free,I.freeC,I.pin,I.hok,I.len,I.hnd⟩
theorem Inv.unwish (I:Inv (X.wish E) pins σ H s):Inv X pins σ H s:=⟨I.ok.unwish,I.os,I.bare,I.base,I.loc,I.cell,I.free,I.freeC,I.pin,I.hok,I.len,I.hnd⟩
theorem SP.unwish {D:Ends} {f:Flow} {s':Shared} (h:SP (X.wish E) pins D f s'):SP X pins D f s':=by
 cases f with
 |next=>obtain ⟨σ',H',I,q⟩:=h;exact ⟨σ',H',I.unwish,q⟩
 |brk=>obtain ⟨σ',H',I,q⟩:=h;exact ⟨σ',H',I.unwish,q⟩
 |cont=>obtain ⟨σ',H',I,q⟩:=h;exact ⟨σ',H',I.unwish,q⟩
 |ret u=>obtain ⟨v,σ',H',I,r,q⟩:=h;exact ⟨v,σ',H',I.unwish,r,q⟩
end
section
variable {X:Cx} {st:Stmt} {rest:List Stmt} {t u:TS} {e:Expr} {te:TE} {pos:Pos}
def qGU:TS:=fun D σ H=>D.nx σ H
def qHA (t u:TS):TS:=fun D σ H=>t { D with nx:=u D } σ H
theorem qDQ:PSs X [] qGU:=fun _ _ σ H _ I h=>wpAny_execs_nil ⟨σ,H,I,h⟩
theorem qCl (h1:PS X st t) (h2:PSs X rest u):PSs X (st::rest) (qHA t u):=by
 intro pins s σ H D I h
 refine wpAny_execs_cons (thn (h1 pins s σ H { D with nx:=u D } I h) fun f s1 q => ?_)
 cases f with
 |next =>
  obtain ⟨σ',H',I',q⟩:=q
  exact h2 pins s1 σ' H' D I' q
 |ret v=>exact q
 |brk=>exact q
 |cont=>exact q
theorem qDe (h1:PS X st t):PSs X [st] t:=by
 intro pins s σ H D I h
 refine wpAny_execs_cons (thn (h1 pins s σ H D I h) fun f s1 q => ?_)
 cases f with
 |next=>exact wpAny_execs_nil q
 |ret v=>exact q
 |brk=>exact q
 |cont=>exact q
theorem Inv.quiet {pins:List (Addr×Obj)} {σ:St} {H:Hp} {s:Shared} (I:Inv X pins σ H s):interactive X.env=false:=by simp [interactive,I.ok.kind]
def qF4 (te:TE):TS:=fun D σ H=>te σ H fun _ H1=>D.nx σ H1
theorem Jh (he:PE X e te) (hs:swapsWith e none pos.line X.env=pure false:=by rfl):PS X (.Expr e pos) (qF4 te):=by
 intro pins s σ H D I h
 exact wpAny_Expr_any (thn (he pins s σ H _ I h) fun v s1 ⟨x,H1,I1,r1,q1⟩=>⟨σ,H1,I1,q1⟩) I.quiet hs
def qG0 (te:TE):TS:=fun D σ H=>te σ H D.rt
theorem qCS (he:PE X e te):PS X (.Return (some e) pos) (qG0 te):=by
 intro pins s σ H D I h
 exact wpAny_Return_some (thn (he pins s σ H _ I h) fun v s1 ⟨x,H1,I1,r1,q1⟩=>⟨x,σ,H1,I1,r1,q1⟩)
def qHC (c:TT) (t u:TS):TS:=fun D σ H=>c σ H fun b H1=>if b=true then t D σ H1 else u D σ H1
theorem qGD {c:Expr} {a b:List Stmt} {tc:TT} (hc:PT X c tc) (ha:PSs X a t) (hb:PSs X b u):PS X (.If c a b pos) (qHC tc t u):=by
 intro pins s σ H D I h
 refine wpAny_If (thn (hc pins s σ H _ I h) fun d s1 ⟨H1,I1,q1⟩ => ?_)
 cases d with
 |true=>exact ha pins s1 σ H1 D I1 q1
 |false=>exact hb pins s1 σ H1 D I1 q1
def qEd:TS:=fun _ _ _=>False
theorem qBk:PS X st qEd:=fun _ _ _ _ _ _ h=>h.elim
end
abbrev TG:=V->St->Hp->(St->Hp->Prop)->Prop
abbrev TGs:=List V->St->Hp->(St->Hp->Prop)->Prop
def PG (X:Cx) (target:Expr) (t:TG):Prop :=
 ∀ (pins:List (Addr×Obj)) (s:Shared) (σ:St) (H:Hp) (v:V) (u:Value) (Q:St->Hp->Prop),Inv X pins σ H s->RelV v u->t v σ H Q ->
  wpAny (model X.prog X.w) X.A (assign target X.env u) (fun _ s' => ∃ σ' H',Inv X pins σ' H' s'∧Q σ' H') X.xe s
def PGs (X:Cx) (ts:List Expr) (t:TGs):Prop :=
 ∀ (pins:List (Addr×Obj)) (s:Shared) (σ:St) (H:Hp) (vs:List V) (us:List Value) (Q:St->Hp->Prop),Inv X pins σ H s->Vals vs us->t vs σ H Q ->
  wpAny (model X.prog X.w) X.A (assignInOrder ((assignEach ts X.env).map (·.2)) us) (fun _ s' => ∃ σ' H',Inv X pins σ' H' s'∧Q σ' H') X.xe s
abbrev qFo:=V->V->V->Hp->(Hp->Prop)->Prop
def qGC (X:Cx) (t:qFo):Prop :=
 ∀ (pins:List (Addr×Obj)) (s:Shared) (σ:St) (H:Hp) (o i v:V) (ov iv u:Value) (Q:Hp->Prop),Inv X pins σ H s->RelV o ov->RelV i iv->RelV v u->t o i v H Q ->
  wpAny (model X.prog X.w) X.A (setItem ov iv u) (fun _ s' => ∃ H',Inv X pins σ H' s'∧Q H') X.xe s
section
variable {X:Cx} {pos:Pos}
def qCY (i:Nat):TG:=fun v σ H Q=>Q (σ.set i (some v)) H
theorem qDm {i:Nat} {x:Str} (hN:X.N.Nodup) (hi:X.N[i]? = some x) (hx:Loc X.env.scope x) (hf:X.fn x=true∨X.env.scope.names.lookup x=some .local:=by first |exact .inl rfl |exact .inr rfl |assumption):PG X (.Name x pos) (qCY i):=by
 intro pins s σ H v u Q I r h
 exact wpAny_assign_Name (W0 I hN hi hx r (fun s' I'=>⟨_,H,I',h⟩) hf)
def qHI:TGs:=fun vs σ H Q=>vs=[]∧Q σ H
def qGG (t:TG) (u:TGs):TGs:=fun vs σ H Q => ∃ v r,vs=v::r∧t v σ H fun σ' H'=>u r σ' H' Q
theorem qDa:PGs X [] qHI:=by
 intro pins s σ H vs us Q I r h
 obtain ⟨e,h⟩:=h
 subst e
 cases r
 exact assignInOrder_nil ⟨σ,H,I,h⟩
theorem qB8 {e:Expr} {es:List Expr} {t:TG} {u:TGs} (h1:PG X e t) (h2:PGs X es u)
  (hs:(assignEach (e::es) X.env).map (·.2)=assign e X.env::(assignEach es X.env).map (·.2):=by rfl):PGs X (e::es) (qGG t u):=by
 intro pins s σ H vs us Q I r h
 obtain ⟨v,vr,e1,h⟩:=h
 subst e1
 cases r with
 |cons r rr =>
  rw [hs]
  refine assignInOrder_cons (thn (h1 pins s σ H _ _ _ I r h) fun _ s1 ⟨σ1,H1,I1,q1⟩ => ?_)
  exact h2 pins s1 σ1 H1 _ _ Q I1 rr q1
def qHR (K:W.Frag) (n:Nat) (t:TGs):TG:=fun v σ H Q => ∃ a xs,v = .ref a∧SqT K H a xs∧xs.length=n∧t xs σ H Q
theorem qFv {es:List Expr} {k:Nat} {t:TGs} {n:Nat} (hc:X.calm=true) (h:PGs X es t)
  (hn:(assignEach es X.env).length=n:=by rfl) (hst:(assignEach es X.env).findIdx? (·.1)=none:=by rfl):PG X (.Tuple es k pos) (qHR X.K n t):=by
 intro pins s σ H v u Q I r hw
 obtain ⟨a,xs,e1,hq,hl,hw⟩:=hw
 subst e1
 cases r
 obtain ⟨its,rv,ht,hz⟩:=I.tuple hq
 refine assign_Tuple_tuple (I.ok.hd hc) ht (by simp [hn,← hl,rv.length]) hst fun h' hx => ?_
 have I1:Inv X pins σ H { s with heap:=h' }:=I.kept (t':=s.toks) fun b o e=>hx b o (AT (AJ e)) e
 exact h pins _ σ H xs _ Q I1 (by simpa using rv) hw
def za (to ti:TE) (t:qFo):TG:=fun v σ H Q=>to σ H fun o H1=>ti σ H1 fun i H2=>t o i v H2 fun H3=>Q σ H3
theorem qFX {o i:Expr} {to ti:TE} {t:qFo} (ho:PE X o to) (hi:PE X i ti) (hs:qGC X t)
  (ha:∀ v,assign (.Subscript o i pos) X.env v=(do
   let ov ← holding [v] (eval o X.env)
   let iv ← holding [v,ov] (eval i X.env)
   standAt pos
   holding [v,ov,iv] (setItem ov iv v)
   release [v,ov,iv] []):=by intro _;rfl):PG X (.Subscript o i pos) (za to ti t):=by
 intro pins s σ H v u Q I r h
 rw [ha]
 refine AA (Ai (thn (ho pins s σ H _ I h) fun ov s1 ⟨x,H1,I1,r1,q1⟩ => ?_))
 refine AA (Ai (thn (hi pins s1 σ H1 _ I1 q1) fun iv s2 ⟨y,H2,I2,r2,q2⟩ => ?_))
 refine AA (Bw (AA (Ai (thn (hs pins s2 σ H2 x y v ov iv u _ I2 r1 r2 r q2) fun _ s3 ⟨H3,I3,q3⟩ => ?_))))
 exact wpAny_release ⟨σ,H3,I3,q3⟩
def qFq (te:TE) (g:TG):TS:=fun D σ H=>te σ H fun x H1=>g x σ H1 D.nx
theorem qBc {tg e:Expr} {te:TE} {g:TG} (he:PE X e te) (hg:PG X tg g) (hs:swapsWithSole [tg] e pos.line X.env=pure false:=by rfl) (hw:swappedStores [tg] e X.env=pure none:=by rfl)
  (h1:(assignEach [tg] X.env).map (·.2)=[assign tg X.env]:=by rfl):PS X (.Assign [tg] e pos) (qFq te g):=by
 intro pins s σ H D I h
 refine wpAny_Assign_stores (thn (he pins s σ H _ I h) fun v s1 ⟨x,H1,I1,r1,q1⟩ => ?_) hs hw
 rw [h1]
 exact thn (hg pins s1 σ H1 x v _ I1 r1 q1) fun _ s2 q=>q
theorem qBx {i:Nat} {x:Str} {e:Expr} {te:TE} {pos':Pos} (hN:X.N.Nodup) (hi:X.N[i]? = some x) (hx:Loc X.env.scope x) (he:PE X e te) (hs:swapsWith e (some (.Name x pos')) pos.line X.env=pure false:=by rfl) (hf:X.fn x=true∨X.env.scope.names.lookup x=some .local:=by first |exact .inl rfl |exact .inr rfl |assumption) :
  PS X (.Assign [.Name x pos'] e pos) (qFq te (qCY i)):=by
 intro pins s σ H D I h
 refine wpAny_Assign_Name (thn (he pins s σ H _ I h) fun v s1 ⟨y,H1,I1,r1,q1⟩ => ?_) hs
 exact W0 I1 hN hi hx r1 (fun s2 I2=>⟨_,H1,I2,q1⟩) hf
def qHL (i j:Nat) (ta:TA):TS:=fun D σ H=>ta σ H fun vs H1 => ∃ v w,vs=[v,w]∧D.nx ((σ.set i (some v)).set j (some w)) H1
theorem qFQ {i j:Nat} {x y:Str} {a b:Expr} {ta:TA} {px py pt:Pos} {kt k2 pt2} (hc:X.calm=true) (hN:X.N.Nodup) (hi:X.N[i]? = some x) (hj:X.N[j]? = some y) (hij:i≠j)
  (hx:X.env.scope.names.lookup x=some .local) (hy:X.env.scope.names.lookup y=some .local) (ha:PA X [a,b] ta)
  (hw:swappedStores [.Tuple [.Name x px,.Name y py] kt pt] (.Tuple [a,b] k2 pt2) X.env=pure (some [x,y]))
  (hs:swapsWithSole [.Tuple [.Name x px,.Name y py] kt pt] (.Tuple [a,b] k2 pt2) pos.line X.env=pure false:=by rfl) :
  PS X (.Assign [.Tuple [.Name x px,.Name y py] kt pt] (.Tuple [a,b] k2 pt2) pos) (qHL i j ta):=by
 intro pins s σ H D I h
 rw [exec_Assign_arm]
 refine AA (Bw ?_)
 rw [hs]
 refine AA (AB ?_)
 rw [AQ (by decide)]
 refine AA (Tuple_ (thn (ha _ pins s σ H _ I h) fun us s1 ⟨vs,H1,I1,r1,q1⟩ => ?_))
 obtain ⟨v,w,e1,q1⟩:=q1
 subst e1
 obtain ⟨u1,u2,rfl,rv,rw'⟩:∃ u1 u2,us=[u1,u2]∧RelV v u1∧RelV w u2:=by
  cases r1 with
  |cons p q =>
   cases q with
   |cons p' q' =>
    cases q'
    exact ⟨_,_,rfl,p,p'⟩
 refine BB ?_ (by show 2≤sizeLine;decide)
 have I2:Inv X pins σ H1 { s1 with heap:=s1.heap.push { cls := .type "tuple",data := .seq [u1,u2].toArray } }:=I1.kept (t':=s1.toks) fun b o e=>AC _ e
 rw [hw]
 refine AA (AB ?_)
 show wpAny (model X.prog X.w) X.A (do rule "assign.swapped-stores";let items ← unpackItems (.ref s1.heap.objs.size) 2 none;assignInOrder [fun v=>bindName X.env y v,fun v=>bindName X.env x v] items.reverse;pure Flow.next) _ _ _
 refine AA (Bq (AA (unpackItems_tuple (items := #[u1,u2]) (I.ok.hd hc) (IsTup.new s1.heap _) fun h' hx' => ?_)))
 have I3:=I2.kept (h':=h') (t':=s1.toks) fun b o e=>hx' b o (AT (AJ e)) e
 show wpAny _ _ (assignInOrder [fun v=>bindName X.env y v,fun v=>bindName X.env x v] [u2,u1] >>= fun _=>pure Flow.next) _ _ _
 refine AA (assignInOrder_cons (wpAny_bindName (W0 I3 hN hj (.inl hy) rw' (fun s2 I4 => ?_) (.inr hy))))
 refine assignInOrder_cons (wpAny_bindName (W0 I4 hN hi (.inl hx) rv (fun s3 I5=>assignInOrder_nil (AB ?_)) (.inr hx)))
 rw [List.set_comm _ _ (Ne.symm hij)] at I5
 exact ⟨_,H1,I5,q1⟩
end
structure It where
 go:Nat->Hp->Prop
 yld:Nat->Hp->V->Hp->Prop
 stop:Nat->Hp->Prop
def zu (X:Cx) (pins:List (Addr×Obj)) (H:Hp) (b:Addr):Prop :=
 H b=none∧b≠X.env.locals∧b ∉ X.fs∧(b∈X.ex∨X.s₀.heap.objs.size≤b)∧(∀ x c,X.env.cells.lookup x=some c->c≠b) ∧ ∀ p∈X.pn++pins,p.1≠b
theorem Inv.fpOk {X:Cx} {pins:List (Addr×Obj)} {σ:St} {H H':Hp} {s:Shared} {b:Addr} (I:Inv X pins σ H s) (hb:s.heap.objs.size≤b) (hn:H' b=none):zu X pins H' b:=by
 refine ⟨hn,Nat.ne_of_gt (Am I.lt hb),I.nofs hb,.inr (AS I.sz hb),fun x c e z => ?_,fun p hp z => ?_⟩
 ·obtain ⟨v,q⟩:=I.cell x c e
  exact absurd (Am q.lt (by rw [z];exact hb)) (Bb _)
 ·exact absurd (Am (AJ (I.pin p hp).1) (by rw [z];exact hb)) (Bb _)
theorem Inv.hndH {X:Cx} {pins:List (Addr×Obj)} {σ:St} {H:Hp} {s:Shared} (I:Inv X pins σ H s):EX.Hnd X.A s.heap:=fun v hv=>by
 obtain ⟨ea,oe,u,vs,e1,e2,e3⟩:=I.hnd v hv
 exact ⟨ea,oe,vs,e1,(I.hok _ _ e2).1,e3⟩
theorem Inv.hndNe {X:Cx} {pins:List (Addr×Obj)} {σ:St} {H:Hp} {s:Shared} (I:Inv X pins σ H s) {it:Addr} (hn:H it=none):∀ v,X.A.handled=some v->v ≠ .ref it:=fun v hv z=>by
 obtain ⟨ea,oe,u,vs,e1,e2,e3⟩:=I.hnd v hv
 rw [e1] at z;cases z;rw [hn] at e2;cases e2
structure Turn (P:Program) (w:World) (K:W.Frag) (A:Around) (tg:Expr) (J:It) (fp:List Addr) (it:Addr) (tn:Nat->Heap->Prop):Prop where
 mem:it∈fp
 obj:∀ i h,tn i h -> ∀ b∈fp,∃ o,h.get? b=some o ∧ ∀ v,o.data ≠ .cell v
 keep:∀ i h h',tn i h->(∀ b∈fp,∀ o,h.get? b=some o->h'.get? b=some o)->tn i h'
 item:∀ (X:Cx),X.prog=P->X.w=w->X.K=K->X.A=A -> ∀ (i:Nat) (pins:List (Addr×Obj)) (s:Shared) (σ:St) (H:Hp) (E:Value->Shared->Prop),Inv X pins σ H s->(∀ b∈fp,zu X pins H b)->tn i s.heap->J.go i H ->
  wpAny (model P w) X.A (pyNext (.ref it)) (fun r s1 => ∃ u,r=some u ∧
   wpAny (model P w) X.A (letOwnedTupleGo tg (.ref it) u) (fun _ s2 => ∃ x H',Inv X pins σ H' s2∧RelV x u∧J.yld i H x H'∧tn (i + 1) s2.heap ∧ ∀ b∈fp,H' b=none) E s1) E s
 done:∀ (X:Cx),X.prog=P->X.w=w->X.K=K->X.A=A -> ∀ (i:Nat) (pins:List (Addr×Obj)) (s:Shared) (σ:St) (H:Hp) (E:Value->Shared->Prop),Inv X pins σ H s->(∀ b∈fp,zu X pins H b)->tn i s.heap->J.stop i H ->
  wpAny (model P w) X.A (pyNext (.ref it)) (fun r s1=>r=none∧Inv X pins σ H s1) E s
 self:∀ (A:Around) (i:Nat) (s:Shared) (Q:Value->Shared->Prop) (E:Value->Shared->Prop),tn i s.heap->Q (.ref it) s->wpAny (model P w) A (pyIter (.ref it)) Q E s
abbrev TI:=St->Hp->(It->Hp->Prop)->Prop
def PIE (X:Cx) (pins:List (Addr×Obj)) (σ:St) (tg:Expr) (R:It->Hp->Prop) (itv:Value) (s2:Shared):Prop :=
 ∃ (it:Addr) (fp:List Addr) (tn:Nat->Heap->Prop) (J:It) (H':Hp),itv = .ref it∧Inv X pins σ H' s2∧Turn X.prog X.w X.K X.A tg J fp it tn∧tn 0 s2.heap∧(∀ b∈fp,zu X pins H' b)∧R J H'
def PI (X:Cx) (tg iter:Expr) (wi:TI):Prop :=
 ∀ (pins:List (Addr×Obj)) (s:Shared) (σ:St) (H:Hp) (R:It->Hp->Prop),Inv X pins σ H s->wi σ H R ->
  wpAny (model X.prog X.w) X.A (eval iter X.env) (fun v s1=>wpAny (model X.prog X.w) X.A (pyIter v) (PIE X pins σ tg R) X.xe s1) X.xe s
theorem qBX {M : Model} {A : Around} {E : Value->Shared->Prop} {s : Shared} {tg : Expr} {it : Addr} {u : Value} {o : Obj} {n : String} {vs : Array Value} {Q : Unit->Shared->Prop} (ho : s.heap.get? it=some o) (hc : o.cls = .type n) (hd : o.data = .fields vs)
    (hn : ["enumerate", "zip", "dict_itemiterator", "dict_reverseitemiterator", "odict_iterator", "itertools.zip_longest", "itertools.pairwise"].contains n=false) (hQ : Q () s) : wpAny M A (letOwnedTupleGo tg (.ref it) u) Q E s:=by
  unfold letOwnedTupleGo
  cases tg <;> first
    |exact AB hQ
    |(cases u <;> first
        |exact AB hQ
        | (refine AA (wpAny_load ho ?_)
           rw [hc, hd]
           show wpAny M A (if (["enumerate", "zip", "dict_itemiterator", "dict_reverseitemiterator", "odict_iterator", "itertools.zip_longest", "itertools.pairwise"].contains n&&vs[0]? == some (rawInt _))=true then _ else _) Q E s
           rw [AQ (by intro h; rw [hn, Bool.false_and] at h; cases h)]
           exact AB hQ))
def Itl (K:W.Frag) (a:Addr):It :=
 ⟨fun i H => ∃ xs x,SqL K H a xs∧xs[i]? = some x,fun i H x H'=>H'=H ∧ ∀ xs,SqL K H a xs->xs[i]? = some x,fun i H => ∃ xs,SqL K H a xs∧xs.length≤i⟩
def Itt (K:W.Frag) (a:Addr):It :=
 ⟨fun i H => ∃ xs x,SqT K H a xs∧xs[i]? = some x,fun i H x H'=>H'=H ∧ ∀ xs,SqT K H a xs->xs[i]? = some x,fun i H => ∃ xs,SqT K H a xs∧xs.length≤i⟩
def Itr (lo:Int) (n:Nat):It:=⟨fun i _=>i < n,fun i H x H'=>H'=H∧x = .int (lo + i),fun i _=>n≤i⟩
theorem qA7 {P:Program} {w:World} {K:W.Frag} {A:Around} {tg:Expr} (a it:Addr):Turn P w K A tg (Itl K a) [it] it (fun i h=>h.IsListIter it a i) where
 mem:=by simp
 obj:=fun i h st b hb=>by
  have e:b=it:=by simpa using hb
  subst e
  obtain ⟨o,e,c,d⟩:=st
  exact ⟨o,e,fun v z=>by rw [d] at z;cases z⟩
 keep:=fun i h h' st k=>st.at fun o e=>k it (by simp) o e
 item:=by
  intro X hP hw hK _ i pins s σ H E I hf st hg
  subst hP hw hK
  obtain ⟨xs,x,hq,hx⟩:=hg
  obtain ⟨its,rv,p,hz⟩:=I.list hq
  obtain ⟨u,hu,ru⟩:=rv.get hx
  obtain ⟨f0,f1,f2,f3,f4,f5⟩:=hf it (by simp)
  refine wpAny_pyNext_list_item st p.isList (x:=u) (by simpa using hu) fun h' st' sb => ?_
  have I1:Inv X pins σ H { s with heap:=h' }:=I.turned (t':=s.toks) (fun b o hb e=>(sb.2 b hb).trans e) f0 f1 f3 f4 f5
  obtain ⟨o,e,c,d⟩:=id st'
  exact ⟨u,rfl,qBX (s:={ s with heap:=h' }) e c d (by decide) ⟨x,H,I1,ru,⟨rfl,fun ys hy=>by rw [I.list_inj hy hq];exact hx⟩,st',fun b hb=>(hf b hb).1⟩⟩
 done:=by
  intro X hP hw hK _ i pins s σ H E I hf st hg
  subst hP hw hK
  obtain ⟨xs,hq,hx⟩:=hg
  obtain ⟨its,rv,p,hz⟩:=I.list hq
  obtain ⟨f0,f1,f2,f3,f4,f5⟩:=hf it (by simp)
  have hl:=rv.length
  exact EX.list_end I.hndH st p.isList (by simp;omega) (I.hndNe f0) fun h' eb=>⟨rfl,I.turned (t':=s.toks) (fun b o hb e=>eb b o hb e) f0 f1 f3 f4 f5⟩
 self:=fun _ _ _ _ _ st h=>wpAny_pyIter_listiter st h
theorem JE {P:Program} {w:World} {K:W.Frag} {A:Around} {tg:Expr} (a it:Addr):Turn P w K A tg (Itt K a) [it] it (fun i h=>h.IsTupleIter it a i) where
 mem:=by simp
 obj:=fun i h st b hb=>by
  have e:b=it:=by simpa using hb
  subst e
  obtain ⟨o,e,c,d⟩:=st
  exact ⟨o,e,fun v z=>by rw [d] at z;cases z⟩
 keep:=fun i h h' st k=>st.at fun o e=>k it (by simp) o e
 item:=by
  intro X hP hw hK _ i pins s σ H E I hf st hg
  subst hP hw hK
  obtain ⟨xs,x,hq,hx⟩:=hg
  obtain ⟨its,rv,p,hz⟩:=I.tuple hq
  obtain ⟨u,hu,ru⟩:=rv.get hx
  obtain ⟨f0,f1,f2,f3,f4,f5⟩:=hf it (by simp)
  refine wpAny_pyNext_tuple_item st (show s.heap.IsTuple a its.toArray from p) (x:=u) (by simpa using hu) fun h' st' sb => ?_
  have I1:Inv X pins σ H { s with heap:=h' }:=I.turned (t':=s.toks) (fun b o hb e=>(sb.2 b hb).trans e) f0 f1 f3 f4 f5
  obtain ⟨o,e,c,d⟩:=id st'
  exact ⟨u,rfl,qBX (s:={ s with heap:=h' }) e c d (by decide) ⟨x,H,I1,ru,⟨rfl,fun ys hy=>by rw [I.tuple_inj hy hq];exact hx⟩,st',fun b hb=>(hf b hb).1⟩⟩
 done:=by
  intro X hP hw hK _ i pins s σ H E I hf st hg
  subst hP hw hK
  obtain ⟨xs,hq,hx⟩:=hg
  obtain ⟨its,rv,p,hz⟩:=I.tuple hq
  obtain ⟨f0,f1,f2,f3,f4,f5⟩:=hf it (by simp)
  have hl:=rv.length
  exact EX.tuple_end I.hndH st (show s.heap.IsTuple a its.toArray from p) (by simp;omega) (I.hndNe f0) fun h' eb=>⟨rfl,I.turned (t':=s.toks) (fun b o hb e=>eb b o hb e) f0 f1 f3 f4 f5⟩
 self:=fun _ _ _ _ _ st h=>wpAny_pyIter_tupleiter st h
theorem JI {P:Program} {w:World} {K:W.Frag} {A:Around} {tg:Expr} (it:Addr) (lo:Int) (n:Nat):Turn P w K A tg (Itr lo n) [it] it (fun i h=>IsRangeIter h it (lo + (i:Nat) * 1) ((n:Int) - (i:Nat)) 1) where
 mem:=by simp
 obj:=fun i h st b hb=>by
  have e:b=it:=by simpa using hb
  subst e
  exact ⟨_,st,fun v z=>by
   have z':Data.fields _=Data.cell v:=z
   cases z'⟩
 keep:=fun i h h' st k=>k it (by simp) _ st
 item:=by
  intro X hP hw hK _ i pins s σ H E I hf st hg
  subst hP hw hK
  obtain ⟨f0,f1,f2,f3,f4,f5⟩:=hf it (by simp)
  refine wpAny_pyNext_range_item st (by have:i < n:=hg;omega) fun h' st' sb => ?_
  have I1:Inv X pins σ H { s with heap:=h',toks:=s.toks + 1 }:=I.turned (fun b o hb e=>(sb.2 b hb).trans e) f0 f1 f3 f4 f5
  have st2:IsRangeIter h' it (lo + ((i + 1:Nat):Int) * 1) ((n:Int) - ((i + 1:Nat):Int)) 1:=by
   have q1:lo + (i:Int) * 1 + 1=lo + ((i + 1:Nat):Int) * 1:=by omega
   have q2:(n:Int) - (i:Int) - 1=(n:Int) - ((i + 1:Nat):Int):=by omega
   rw [← q1,← q2];exact st'
  refine ⟨_,rfl,qBX (s:={ s with heap:=h',toks:=s.toks + 1 }) (n := "range_iterator") st2 rfl rfl (by decide) ⟨.int (lo + i),H,I1,⟨s.toks,?_⟩,⟨rfl,rfl⟩,st2,fun b hb=>(hf b hb).1⟩⟩
  rw [Int.mul_one]
 done:=by
  intro X hP hw hK _ i pins s σ H E I hf st hg
  subst hP hw hK
  obtain ⟨f0,f1,f2,f3,f4,f5⟩:=hf it (by simp)
  exact EX.range_end I.hndH st (by have:n≤i:=hg;omega) fun h' eb=>⟨rfl,I.turned (t':=s.toks) (fun b o hb e=>eb b o e) f0 f1 f3 f4 f5⟩
 self:=fun _ _ _ _ _ st h=>wpAny_pyIter_rangeiter st h
end L2
namespace L2
open PySem PySem.Spec PyProof.Rows
section
variable {X:Cx} {tg:Expr}
theorem Yt {pins:List (Addr×Obj)} {σ:St} {H:Hp} {s:Shared} {R:It->Hp->Prop} {E:Value->Shared->Prop} {lo hi:Int} {t u v:Tok} {tk:Nat} (I:Inv X pins σ H s) (h1:-(2 ^ 62)≤lo) (h2:lo < 2 ^ 62) (h3:-(2 ^ 62)≤hi) (h4:hi < 2 ^ 62)
  (q:R (Itr lo (hi - lo).toNat) H):wpAny (model X.prog X.w) X.A (pyIter (.ref s.heap.objs.size)) (PIE X pins σ tg R) E { s with heap:=s.heap.push { cls := .type "range",data := .fields #[.int lo t,.int hi u,.int 1 v] },toks:=tk }:=by
 refine wpAny_pyIter_range (IsRange.new ..) (small_one h1 h2 h3 h4) ?_
 have I1:Inv X pins σ H { s with heap:=s.heap.push { cls := .type "range",data := .fields #[.int lo t,.int hi u,.int 1 v] },toks:=tk }:=I.kept fun b o e=>AC _ e
 refine ⟨(s.heap.push { cls := .type "range",data := .fields #[.int lo t,.int hi u,.int 1 v] }).objs.size,[(s.heap.push { cls := .type "range",data := .fields #[.int lo t,.int hi u,.int 1 v] }).objs.size],_,_,H,rfl,
  I1.kept (t':=tk) fun b o e=>AC _ e,JI _ lo (hi - lo).toNat,?_,fun b hb => ?_,q⟩
 ·have e1:lo + ((0:Nat):Int) * 1=lo:=by simp
  have e2:(((hi - lo).toNat:Nat):Int) - ((0:Nat):Int)=Builtin.Range.rangeSize lo hi 1:=by rw [rangeSize_one];split <;> omega
  show IsRangeIter _ _ (lo + ((0:Nat):Int) * 1) ((((hi - lo).toNat:Nat):Int) - ((0:Nat):Int)) 1
  rw [e1,e2]
  exact AR _ rfl
 ·have e:b=(s.heap.push { cls := .type "range",data := .fields #[.int lo t,.int hi u,.int 1 v] }).objs.size:=by simpa using hb
  subst e
  exact I1.fpOk (AL _) (I1.hok.fresh (AL _))
def qGb (ta:TA):TI:=fun σ H R=>ta σ H fun vs H1 => ∃ j:Int,vs=[.int j] ∧ -(2 ^ 62)≤j∧j < 2 ^ 62∧R (Itr 0 j.toNat) H1
def qGi (ta:TA):TI:=fun σ H R=>ta σ H fun vs H1 => ∃ i j:Int,vs=[.int i,.int j]∧(-(2 ^ 62)≤i∧i < 2 ^ 62 ∧ -(2 ^ 62)≤j∧j < 2 ^ 62)∧R (Itr i (j - i).toNat) H1
theorem qAx {a:Expr} {ta:TA} {p pos:Pos} (hg:Gl X "range") (hm:X.mg "range" = none) (ha:PA X [a] ta) (hs:starEach [a] X.env=[(false,eval a X.env)]:=by rfl):PI X tg (.Call (.Name "range" p) [a] [] pos) (qGb ta):=by
 intro pins s σ H R I h
 refine Call_ (Wm I hg hm boot_range (Bi (thn (ha pos pins s σ H _ I h) fun us s1 ⟨vs,H1,I1,r1,q1⟩ => ?_) hs rfl))
 obtain ⟨j,e,q1,q2,q⟩:=q1
 subst e
 cases r1 with
 |cons r rr =>
  cases rr
  obtain ⟨t,rfl⟩:=r
  exact call_range_1 (Yt I1 (by omega) (by omega) q1 q2 (by simpa using q))
theorem qBD {a b:Expr} {ta:TA} {p pos:Pos} (hg:Gl X "range") (hm:X.mg "range" = none) (ha:PA X [a,b] ta) (hs:starEach [a,b] X.env=[(false,eval a X.env),(false,eval b X.env)]:=by rfl) (hs2:starEach [b] X.env=[(false,eval b X.env)]:=by rfl) :
  PI X tg (.Call (.Name "range" p) [a,b] [] pos) (qGi ta):=by
 intro pins s σ H R I h
 refine Call_ (Wm I hg hm boot_range (Bi (thn (ha pos pins s σ H _ I h) fun us s1 ⟨vs,H1,I1,r1,q1⟩ => ?_) (by rw [hs,hs2]) (by rw [hs2];rfl)))
 obtain ⟨i,j,e,⟨q1,q2,q3,q4⟩,q⟩:=q1
 subst e
 cases r1 with
 |cons r rr =>
  cases rr with
  |cons r' rr =>
   cases rr
   obtain ⟨t,rfl⟩:=r
   obtain ⟨t',rfl⟩:=r'
   exact call_range_2 (Yt I1 q1 q2 q3 q4 q)
def qHD (wi:TI) (g:TG) (tb:TS):TS:=fun D σ H=>wi σ H fun J H1 => ∃ W:Nat->Nat->St->Hp->Prop,(∃ m,W 0 m σ H1) ∧ ∀ i m σ H,W i m σ H ->
 (J.stop i H∧D.nx σ H)∨(J.go i H ∧ ∃ N:St->Hp->Prop,(∀ σ' H',N σ' H' -> ∃ m',m' < m∧W (i + 1) m' σ' H') ∧ ∀ x H',J.yld i H x H'->g x σ H' fun σ2 H2=>tb { D with nx:=N,ct:=N,bk:=D.nx } σ2 H2)
def zZ (fp:List Addr) (h:Heap):List (Addr×Obj):=fp.filterMap fun b=>(h.get? b).map fun o=>(b,o)
theorem Wf {fp:List Addr} {h:Heap} {b:Addr} {o:Obj} (hb:b∈fp) (e:h.get? b=some o):(b,o)∈zZ fp h:=Bj.mpr ⟨b,hb,by rw [e];rfl⟩
theorem qAw {fp:List Addr} {h:Heap} {p:Addr×Obj} (hp:p∈zZ fp h):p.1∈fp∧h.get? p.1=some p.2:=by
 obtain ⟨b,hb,e⟩:=Bj.mp hp
 cases q:h.get? b with
 |none=>rw [q] at e;cases e
 |some o =>
  rw [q] at e
  have e':(b,o)=p:=AZ e
  subst e'
  exact ⟨hb,q⟩
theorem Inv.pinned {pins:List (Addr×Obj)} {σ:St} {H:Hp} {s:Shared} {fp:List Addr} (I:Inv X pins σ H s) (hf:∀ b∈fp,zu X pins H b) (ho:∀ b∈fp,∃ o,s.heap.get? b=some o ∧ ∀ v,o.data ≠ .cell v):Inv X (pins++zZ fp s.heap) σ H s :=
 I.pins_of fun p hp=>(A1.mp hp).elim (fun z=>I.pin p (Ax _ z)) fun z=>by
  obtain ⟨hb,e⟩:=qAw z
  obtain ⟨f0,f1,f2,_⟩:=hf p.1 hb
  obtain ⟨o,e',d⟩:=ho p.1 hb
  rw [e] at e';cases e'
  exact ⟨e,f0,f1,f2,d⟩
theorem Inv.unpinned {pins pl:List (Addr×Obj)} {σ:St} {H:Hp} {s:Shared} (I:Inv X (pins++pl) σ H s):Inv X pins σ H s:=I.pins_of fun p hp=>I.pin p (Ax _ (List.mem_append_left _ hp))
end
end L2
namespace L2
open PySem PySem.Spec PyProof.Rows
abbrev R2:=V->V->Hp->VK->Prop
def OpR (X:Cx) (f:Value->Value->Sem Value) (r:R2):Prop :=
 ∀ (pins:List (Addr×Obj)) (s:Shared) (σ:St) (H:Hp) (x y:V) (v u:Value) (Q:VK),Inv X pins σ H s->RelV x v->RelV y u->r x y H Q ->
  wpAny (model X.prog X.w) X.A (f v u) (EP X pins σ Q) X.xe s
def UnR (X:Cx) (f:Value->Sem Value) (r:V->Hp->VK->Prop):Prop :=
 ∀ (pins:List (Addr×Obj)) (s:Shared) (σ:St) (H:Hp) (x:V) (v:Value) (Q:VK),Inv X pins σ H s->RelV x v->r x H Q ->
  wpAny (model X.prog X.w) X.A (f v) (EP X pins σ Q) X.xe s
def wu (X:Cx) (f:Value) (r:List V->Hp->VK->Prop):Prop :=
 ∀ (pins:List (Addr×Obj)) (s:Shared) (σ:St) (H:Hp) (xs:List V) (us:List Value) (Q:VK),Inv X pins σ H s->Vals xs us->r xs H Q ->
  wpAny (model X.prog X.w) X.A (call f us) (EP X pins σ Q) X.xe s
def qHK (X:Cx) (r:V->Hp->(Bool->Hp->Prop)->Prop):Prop :=
 ∀ (pins:List (Addr×Obj)) (s:Shared) (σ:St) (H:Hp) (x:V) (v:Value) (Q:Bool->Hp->Prop),Inv X pins σ H s->RelV x v->r x H Q ->
  wpAny (model X.prog X.w) X.A (truthy v) (TP X pins σ Q) X.xe s
def tOp (r:R2) (ta tb:TE):TE:=fun σ H Q=>ta σ H fun x H1=>tb σ H1 fun y H2=>r x y H2 Q
def tUn (r:V->Hp->VK->Prop) (ta:TE):TE:=fun σ H Q=>ta σ H fun x H1=>r x H1 Q
def rI (C:Int->Int->Prop) (g:Int->Int->V):R2:=fun x y H Q => ∃ i j,x = .int i∧y = .int j∧C i j∧Q (g i j) H
def rI0 (g:Int->Int->V):R2:=fun x y H Q => ∃ i j,x = .int i∧y = .int j∧Q (g i j) H
def rU (g:Int->V):V->Hp->VK->Prop:=fun x H Q => ∃ i,x = .int i∧Q (g i) H
section
variable {X:Cx} {a b c:Expr} {ta tb tc:TE} {pos:Pos}
theorem qFF (ha:PE X a ta) (hb:PE X b tb) {pins:List (Addr×Obj)} {s:Shared} {σ:St} {H:Hp} {R:V->V->Hp->Prop} (I:Inv X pins σ H s)
  (h:ta σ H fun x H1=>tb σ H1 fun y H2=>R x y H2) {Q:Value->Shared->Prop} {f:Value->Value->Sem Value}
  (hf:∀ v u s2 x y H2,Inv X pins σ H2 s2->RelV x v->RelV y u->R x y H2->wpAny (model X.prog X.w) X.A (f v u) Q X.xe s2) :
  wpAny (model X.prog X.w) X.A (eval a X.env) (fun v s₁=>wpAny (model X.prog X.w) X.A (eval b X.env) (fun u s₂=>wpAny (model X.prog X.w) X.A (f v u) Q X.xe s₂) X.xe s₁) X.xe s:=by
 refine thn (ha pins s σ H _ I h) fun v s1 ⟨x,H1,I1,r1,q1⟩ => ?_
 refine thn (hb pins s1 σ H1 _ I1 q1) fun u s2 ⟨y,H2,I2,r2,q2⟩ => ?_
 exact hf v u s2 x y H2 I2 r1 r2 q2
theorem qGT {op:Operator} {r:R2} (ho:OpR X (binaryOp op) r) (ha:PE X a ta) (hb:PE X b tb):PE X (.BinOp a op b pos) (tOp r ta tb):=by
 intro pins s σ H Q I h
 exact wpAny_BinOp (qFF ha hb I h fun v u s2 x y H2 I2 rx ry q=>ho pins s2 σ H2 x y v u Q I2 rx ry q)
theorem qGq {op:UnaryOp} {r:V->Hp->VK->Prop} (ho:UnR X (unaryOp op) r) (ha:PE X a ta):PE X (.UnaryOp op a pos) (tUn r ta):=by
 intro pins s σ H Q I h
 exact UnaryOp_ (thn (ha pins s σ H _ I h) fun v s1 ⟨x,H1,I1,r1,q1⟩=>ho pins s1 σ H1 x v Q I1 r1 q1)
theorem opI {f:Value->Value->Sem Value} {C:Int->Int->Prop} {g:Int->Int->Int}
  (rule:∀ (i j:Int) (t u:Tok) (s:Shared) (Q:Value->Shared->Prop) (E:Value->Shared->Prop),C i j->Q (.int (g i j) s.toks) { s with toks:=s.toks + 1 }->wpAny (model X.prog X.w) X.A (f (.int i t) (.int j u)) Q E s) :
  OpR X f (rI C fun i j => .int (g i j)):=by
 intro pins s σ H x y v u Q I rx ry h
 obtain ⟨i,j,rfl,rfl,hc,q⟩:=h
 obtain ⟨t,rfl⟩:=rx
 obtain ⟨t',rfl⟩:=ry
 exact rule i j t t' s _ _ hc ⟨.int (g i j),H,I.tok _,⟨_,rfl⟩,q⟩
theorem qF5 {f:Value->Value->Sem Value} {g:Int->Int->Int}
  (rule:∀ (i j:Int) (t u:Tok) (s:Shared) (Q:Value->Shared->Prop) (E:Value->Shared->Prop),Q (.int (g i j) s.toks) { s with toks:=s.toks + 1 }->wpAny (model X.prog X.w) X.A (f (.int i t) (.int j u)) Q E s) :
  OpR X f (rI0 fun i j => .int (g i j)):=by
 intro pins s σ H x y v u Q I rx ry h
 obtain ⟨i,j,rfl,rfl,q⟩:=h
 obtain ⟨t,rfl⟩:=rx
 obtain ⟨t',rfl⟩:=ry
 exact rule i j t t' s _ _ ⟨.int (g i j),H,I.tok _,⟨_,rfl⟩,q⟩
theorem qEq {f:Value->Value->Sem Value} {g:Int->Int->Bool}
  (rule:∀ (i j:Int) (t u:Tok) (s:Shared) (Q:Value->Shared->Prop) (E:Value->Shared->Prop),Q (.bool (g i j)) s->wpAny (model X.prog X.w) X.A (f (.int i t) (.int j u)) Q E s) :
  OpR X f (rI0 fun i j => .bl (g i j)):=by
 intro pins s σ H x y v u Q I rx ry h
 obtain ⟨i,j,rfl,rfl,q⟩:=h
 obtain ⟨t,rfl⟩:=rx
 obtain ⟨t',rfl⟩:=ry
 exact rule i j t t' s _ _ ⟨.bl (g i j),H,I,rfl,q⟩
def qHJ (i j:Int):Prop:=0 < j∧j < 1073741824
def qG2 (i j:Int):Prop:=0≤j∧j≤1000000∧i.natAbs < 2 ^ 64
def CMul (i j:Int):Prop:=(-(2 ^ 64) < i∧i < 2 ^ 64)∨(-(2 ^ 64) < j∧j < 2 ^ 64)
theorem CMul.ok {i j:Int} (h:CMul i j):IntMulOk i j:=by
 rcases h with ⟨h1,h2⟩ |⟨h1,h2⟩
 ·exact .of_left (intBits_le_64 h1 h2)
 ·exact .of_right (intBits_le_64 h1 h2)
theorem qEe:OpR X (binaryOp .Add) (rI0 fun i j => .int (i + j)):=qF5 fun _ _ _ _ _ _ _ q=>add_int q
theorem qE9:OpR X (binaryOp .Sub) (rI0 fun i j => .int (i - j)):=qF5 fun _ _ _ _ _ _ _ q=>sub_int q
theorem qEj:OpR X (binaryOp .Mult) (rI CMul fun i j => .int (i * j)):=opI fun _ _ _ _ _ _ _ hc q=>mul_int q hc.ok
theorem qDu:OpR X (binaryOp .FloorDiv) (rI qHJ fun i j => .int (i / j)):=opI fun i j _ _ _ _ _ hc q=>by
 have h1:(0:Int) < j:=hc.1
 have h2:j < 1073741824:=hc.2
 exact floordiv_int (by omega) (by rw [Int.fdiv_eq_ediv_of_nonneg i (by omega)];exact q) (.inl (PyProof.noPylong_small (by omega)))
theorem qE2:OpR X (binaryOp .Mod) (rI (fun _ j=>0 < j) fun i j => .int (i % j)):=opI fun i j _ _ _ _ _ hc q=>by
 have h1:(0:Int) < j:=hc
 exact mod_int' (by omega) (by rw [Int.fmod_eq_emod_of_nonneg i (by omega)];exact q)
theorem qFI:OpR X (binaryOp .Pow) (rI qG2 fun i j => .int (i ^ j.toNat)):=opI fun _ _ _ _ _ _ _ hc q=>pow_int_small hc.1 hc.2.1 hc.2.2 q
theorem unI {f:Value->Sem Value} {g:Int->Int}
  (rule:∀ (i:Int) (t:Tok) (s:Shared) (Q:Value->Shared->Prop) (E:Value->Shared->Prop),Q (.int (g i) s.toks) { s with toks:=s.toks + 1 }->wpAny (model X.prog X.w) X.A (f (.int i t)) Q E s) :
  UnR X f (rU fun i => .int (g i)):=by
 intro pins s σ H x v Q I rx h
 obtain ⟨i,rfl,q⟩:=h
 obtain ⟨t,rfl⟩:=rx
 exact rule i t s _ _ ⟨.int (g i),H,I.tok _,⟨_,rfl⟩,q⟩
theorem qFl:UnR X (unaryOp .USub) (rU fun i => .int (-i)):=unI fun _ _ _ _ _ q=>neg_int q
theorem qBo {pins:List (Addr×Obj)} {σ:St} {H:Hp} {s:Shared} {Q:VK} {k k':Bool} (I:Inv X pins σ H s) (q:Q (.bl k) H) (e:k=k'):EP X pins σ Q (.bool k') s:=by
 subst e
 exact ⟨.bl k,H,I,rfl,q⟩
theorem qCw:OpR X (compareOp .Lt) (rI0 fun i j => .bl (decide (i < j))):=qEq fun _ _ _ _ _ _ _ q=>lt_int q
theorem WS:OpR X (compareOp .LtE) (rI0 fun i j => .bl (decide (i≤j))):=qEq fun _ _ _ _ _ _ _ q=>le_int q
theorem qCO:OpR X (compareOp .Gt) (rI0 fun i j => .bl (decide (j < i))):=qEq fun _ _ _ _ _ _ _ q=>gt_int q
theorem Z5:OpR X (compareOp .Is) (fun x y H Q=>y = .non∧Q (.bl (decide (x = .non))) H):=by
 intro pins s σ H x y v u Q I rx ry h
 obtain ⟨rfl,q⟩:=h
 cases ry
 refine is_none_gen (qBo I q ?_)
 cases x <;> first
  |(cases rx;rfl)
  |(obtain ⟨t,rfl⟩:=rx;rfl)
theorem qAD:OpR X (compareOp .IsNot) (fun x y H Q=>y = .non∧Q (.bl (!decide (x = .non))) H):=by
 intro pins s σ H x y v u Q I rx ry h
 obtain ⟨rfl,q⟩:=h
 cases ry
 refine isnot_none_gen (qBo I q ?_)
 cases x <;> first
  |(cases rx;rfl)
  |(obtain ⟨t,rfl⟩:=rx;rfl)
theorem QT (b:Expr) {op:CmpOp} (h:op ≠ .In:=by decide) (h2:op ≠ .NotIn:=by decide):behindInMarks op b=false:=by
 have e1:(op==CmpOp.In)=false:=by cases op <;> first |rfl |exact absurd rfl h
 have e2:(op==CmpOp.NotIn)=false:=by cases op <;> first |rfl |exact absurd rfl h2
 cases b <;> simp [behindInMarks,e1,e2]
theorem qDJ {op:CmpOp} {r:R2} (ho:OpR X (compareOp op) r) (ha:PE X a ta) (hb:PE X b tb) (hm:behindInMarks op b=false):PE X (.Compare a [op] [b] pos) (tOp r ta tb):=by
 intro pins s σ H Q I h
 exact wpAny_Compare1 (qFF ha hb I h fun v u s2 x y H2 I2 rx ry q=>ho pins s2 σ H2 x y v u Q I2 rx ry q) hm
def qEL (t:TE):TT:=fun σ H Q=>t σ H fun x H' => ∃ k,x = .bl k∧Q k H'
theorem qD1 {op:CmpOp} {r:R2} (ho:OpR X (compareOp op) r) (ha:PE X a ta) (hb:PE X b tb) (hm:behindInMarks op b=false):PT X (.Compare a [op] [b] pos) (qEL (tOp r ta tb)):=by
 intro pins s σ H Q I h
 refine wpAny_isTrue_Compare1 (thn (ha pins s σ H _ I h) fun v s1 ⟨x,H1,I1,r1,q1⟩=>thn (hb pins s1 σ H1 _ I1 q1) fun u s2 ⟨y,H2,I2,r2,q2⟩ =>
  thn (ho pins s2 σ H2 x y v u _ I2 r1 r2 q2) fun c s3 ⟨z,H3,I3,r3,k,e,q3⟩ => ?_) hm
 subst e
 cases r3
 exact A6 ⟨H3,I3,q3⟩
def qBh (r r':R2) (ta tb tc:TE):TE:=fun σ H Q=>ta σ H fun x H1=>tb σ H1 fun y H2=>r x y H2 fun z H3 => ∃ k,z = .bl k ∧
 (if k=true then tc σ H3 fun w' H4=>r' y w' H4 Q else Q (.bl false) H3)
theorem qBW {op op':CmpOp} {r r':R2} (ho:OpR X (compareOp op) r) (ho':OpR X (compareOp op') r') (ha:PE X a ta) (hb:PE X b tb) (hc:PE X c tc)
  (hm:lastMarks [op,op'] [b,c]=false:=by with_unfolding_all rfl):PE X (.Compare a [op,op'] [b,c] pos) (qBh r r' ta tb tc):=by
 intro pins s σ H Q I h
 refine Compare_chain (thn (ha pins s σ H _ I h) fun v s1 ⟨x,H1,I1,r1,q1⟩=>chain_link (thn (hb pins s1 σ H1 _ I1 q1) fun u s2 ⟨y,H2,I2,r2,q2⟩ =>
  thn (ho pins s2 σ H2 x y v u _ I2 r1 r2 q2) fun d s3 ⟨z,H3,I3,r3,k,e,q3⟩ => ?_)) hm
 subst e
 cases r3
 refine A6 ?_
 cases k with
 |false=>exact ite_ff ⟨.bl false,H3,I3,rfl,q3⟩
 |true=>exact ite_tt (chain_last (thn (hc pins s3 σ H3 _ I3 q3) fun w' s4 ⟨z',H4,I4,r4,q4⟩=>ho' pins s4 σ H4 y z' u w' Q I4 r2 r4 q4))
theorem qBU {op op':CmpOp} {r r':R2} (ho:OpR X (compareOp op) r) (ho':OpR X (compareOp op') r') (ha:PE X a ta) (hb:PE X b tb) (hc:PE X c tc)
  (hm:lastMarks [op,op'] [b,c]=false:=by with_unfolding_all rfl):PT X (.Compare a [op,op'] [b,c] pos) (qEL (qBh r r' ta tb tc)):=by
 intro pins s σ H Q I h
 refine isTrue_chain (thn (ha pins s σ H _ I h) fun v s1 ⟨x,H1,I1,r1,q1⟩=>test_link (thn (hb pins s1 σ H1 _ I1 q1) fun u s2 ⟨y,H2,I2,r2,q2⟩ =>
  thn (ho pins s2 σ H2 x y v u _ I2 r1 r2 q2) fun d s3 ⟨z,H3,I3,r3,k,e,q3⟩ => ?_)) hm
 subst e
 cases r3
 refine A6 ?_
 cases k with
 |false =>
  obtain ⟨k',e',q'⟩:=q3
  cases e'
  exact ite_ff ⟨H3,I3,q'⟩
 |true =>
  refine ite_tt (test_last (thn (hc pins s3 σ H3 _ I3 q3) fun w' s4 ⟨z',H4,I4,r4,q4⟩=>thn (ho' pins s4 σ H4 y z' u w' _ I4 r2 r4 q4) fun d' s5 ⟨z2,H5,I5,r5,k2,e2,q5⟩ => ?_))
  subst e2
  cases r5
  exact A6 ⟨H5,I5,q5⟩
def qC5 (K:W.Frag) (x:V) (H:Hp) (k:Bool):Prop :=
 match x with
 | .non=>k=false
 | .bl b=>k=b
 | .int i=>k=(i != 0)
 | .str y=>y.length≤sizeLine∧k=((y.length:Int) != 0)
 | .byt y=>y.size≤sizeLine∧k=((y.size:Int) != 0)
 | .ref p=>(∃ xs,SqL K H p xs∧k = !xs.isEmpty)∨(∃ xs,SqT K H p xs∧k = !xs.isEmpty) ∨ ∃ kvs,H p=some (.dK kvs)∧k = !kvs.isEmpty
 |_=>False
theorem JJ {κ:Type} {kvs:List (κ×V)} {vs:List (κ×Value)} (r:KV kvs vs):(!vs.isEmpty) = !kvs.isEmpty:=by
 cases r <;> rfl
theorem Zw {xs:List V} {its:List Value} (r:Vals xs its):(!its.toArray.isEmpty) = !xs.isEmpty:=by
 cases r <;> simp
theorem ZB:(sizeLine:Nat) < 2 ^ 63:=by rw [Br];decide
theorem qEQ:qHK X (fun x H Q => ∃ k,qC5 X.K x H k∧Q k H):=by
 intro pins s σ H x v Q I rx h
 obtain ⟨k,e,q⟩:=h
 have hl:=ZB
 have hs:sizeLine=16777216:=Br
 cases x with
 |non =>
  cases rx
  have e':k=false:=e
  subst e'
  exact truthy_none ⟨H,I,q⟩
 |bl b =>
  cases rx
  have e':k=b:=e
  subst e'
  exact A6 ⟨H,I,q⟩
 |int i =>
  obtain ⟨t,rfl⟩:=rx
  have e':k=(i != 0):=e
  subst e'
  exact PySem.P.truthy_int ⟨H,I,q⟩
 |str y =>
  obtain ⟨t,rfl⟩:=rx
  obtain ⟨hy,e'⟩:y.length≤sizeLine∧k=((y.length:Int) != 0):=e
  subst e'
  exact PySem.P.truthy_str (by omega) ⟨H,I.tok _,q⟩
 |byt y =>
  obtain ⟨t,rfl⟩:=rx
  obtain ⟨hy,e'⟩:y.size≤sizeLine∧k=((y.size:Int) != 0):=e
  subst e'
  exact W.truthy_bytes (by omega) ⟨H,I.tok _,q⟩
 |ref p =>
  cases rx
  have e':(∃ xs,SqL X.K H p xs∧k = !xs.isEmpty)∨(∃ xs,SqT X.K H p xs∧k = !xs.isEmpty) ∨ ∃ kvs,H p=some (.dK kvs)∧k = !kvs.isEmpty:=e
  rcases e' with ⟨xs,hx,e'⟩ |⟨xs,hx,e'⟩ |⟨kvs,hx,e'⟩
  ·subst e'
   obtain ⟨its,r,pl,hz⟩:=I.list hx
   have hlen:=r.length
   exact wpAny_truthy_list pl.isList (by simp only [AM];omega) ⟨H,I.tok _,by rw [Zw r];exact q⟩
  ·subst e'
   obtain ⟨its,r,pl,hz⟩:=I.tuple hx
   have hlen:=r.length
   exact truthy_tuple pl (by simp only [AM];omega) ⟨H,I.tok _,by rw [Zw r];exact q⟩
  ·subst e'
   obtain ⟨hz,hS,vs,r,m⟩:kvs.length≤sizeLine∧(p==sysModules)=false ∧ ∃ vs,KV kvs vs∧s.heap.DictOf (Qs X.prog X.w) p vs:=I.hok p _ hx
   have hlen:kvs.length=vs.length:=Paired.length r
   exact wpAny_truthy_dict hS m (by omega) ⟨H,I.tok _,by rw [JJ r];exact q⟩
 |_=>exact (show False from e).elim
theorem qCA (ha:PE X a ta) (he:∀ whole,isTrue a X.env whole=(do let v ← whole;standAt a.pos;holding [v] (truthy v))) :
  PT X a (fun σ H Q=>ta σ H fun x H' => ∃ k,qC5 X.K x H' k∧Q k H'):=by
 intro pins s σ H Q I h
 exact isTrue_plain (thn (ha pins s σ H _ I h) fun v s1 ⟨x,H1,I1,r1,q1⟩=>qEQ pins s1 σ H1 x v Q I1 r1 q1) (he _)
theorem ZR {x:V} {us:List Value} (r:Vals [x] us):∃ u,us=[u]∧RelV x u:=by
 cases r with
 |cons r1 r2=>cases r2;exact ⟨_,rfl,r1⟩
theorem qCh {x y:V} {us:List Value} (r:Vals [x,y] us):∃ u w',us=[u,w']∧RelV x u∧RelV y w':=by
 cases r with
 |cons r1 r2 =>
  cases r2 with
  |cons r3 r4=>cases r4;exact ⟨_,_,rfl,r1,r3⟩
theorem qA4 (hc:X.calm=true):wu X (.builtin "max") (fun xs H Q => ∃ i j,xs=[.int i,.int j]∧Q (.int (if j > i then j else i)) H):=by
 intro pins s σ H xs us Q I r h
 obtain ⟨i,j,rfl,q⟩:=h
 obtain ⟨u,w',rfl,⟨t,rfl⟩,⟨t',rfl⟩⟩:=qCh r
 refine max_two_ints (I.ok.hd hc) fun h' tk k=>⟨_,H,I.kept k,?_,q⟩
 by_cases hj:j > i
 ·rw [AI hj,AI hj];exact ⟨_,rfl⟩
 ·rw [AQ hj,AQ hj];exact ⟨_,rfl⟩
theorem qAY (hc:X.calm=true):wu X (.builtin "min") (fun xs H Q => ∃ i j,xs=[.int i,.int j]∧Q (.int (if j < i then j else i)) H):=by
 intro pins s σ H xs us Q I r h
 obtain ⟨i,j,rfl,q⟩:=h
 obtain ⟨u,w',rfl,⟨t,rfl⟩,⟨t',rfl⟩⟩:=qCh r
 refine min_two_ints (I.ok.hd hc) fun h' tk k=>⟨_,H,I.kept k,?_,q⟩
 by_cases hj:j < i
 ·rw [AI hj,AI hj];exact ⟨_,rfl⟩
 ·rw [AQ hj,AQ hj];exact ⟨_,rfl⟩
end
end L2
namespace L2
open PySem PySem.Spec PyProof.Rows
theorem RelO.some_of {v:V} {o:Option Value} (r:RelO (some v) o):∃ u,o=some u∧RelV v u:=by
 cases o with
 |none=>exact (show False from r).elim
 |some u=>exact ⟨u,rfl,r⟩
end L2
namespace L2
open PySem PySem.Spec PyProof.Rows
structure Room (k:Nat) (A:Around):Prop where
 hd:1 < k->A.handled=none
 dp:A.depth + 3 * k + 5 < recursionLimit
 un:A.units + 16 * k + 200 < cLine
 gd:A.guards=some []
theorem Room.mono {j k:Nat} {A:Around} (r:Room k A) (h:j≤k):Room j A:=⟨fun z=>r.hd (by omega),by have:=r.dp;omega,by have:=r.un;omega,r.gd⟩
theorem Room.deeper {k:Nat} {A:Around} (r:Room (k + 1) A) (env:Env):Room k (A.deeper env) :=
 ⟨fun z=>r.hd (by omega),by have:=r.dp;show A.depth + 1 + 3 * k + 5 < _;omega,by have:=r.un;show A.units + 3 + 16 * k + 200 < _;omega,r.gd⟩
theorem Room.depth {k:Nat} {A:Around} (r:Room k A):A.depth < recursionLimit:=by have:=r.dp;omega
theorem Room.units {k:Nat} {A:Around} (r:Room k A):A.units + 64 < cLine:=by have:=r.un;omega
def qG7:TA:=fun _ H Q=>Q [] H
def qGn (ta:TE) (tr:TA):TA:=fun σ H Q=>ta σ H fun x H1=>tr σ H1 fun xs H2=>Q (x::xs) H2
section
variable {X:Cx} {e:Expr} {es:List Expr} {te:TE} {t:TA} {pos:Pos}
theorem JZ:PA X [] qG7:=fun _ _ _ _ H Q I h=>B3 ⟨[],H,I,.nil,h⟩
theorem YV (ha:PE X e te) (hr:PA X es t) (hs:starEach (e::es) X.env=(false,eval e X.env)::starEach es X.env:=by rfl):PA X (e::es) (qGn te t):=by
 intro pos pins s σ H Q I h
 rw [hs]
 show wpAny _ _ (spliced ((false,eval e X.env)::backTo pos (starEach es X.env))) _ _ s
 refine By (thn (ha pins s σ H _ I h) fun u s1 ⟨x,H1,I1,r1,q1⟩ => ?_)
 exact thn (hr pos pins s1 σ H1 _ I1 q1) fun us s2 ⟨xs,H2,I2,r2,q2⟩=>⟨x::xs,H2,I2,.cons r1 r2,q2⟩
def qHG (t:TA):TE:=fun σ H Q=>t σ H fun xs H1=>xs.length≤sizeLine ∧ ∀ p,H1 p=none->Q (.ref p) (upd H1 p (.tup xs))
def qHM (t:TA):TE:=fun σ H Q=>t σ H fun xs H1=>xs.length≤sizeLine ∧ ∀ p,H1 p=none->Q (.ref p) (upd H1 p (.lst xs))
theorem qE0 {x1} (h:PA X es t):PE X (.Tuple es x1 pos) (qHG t):=by
 intro pins s σ H Q I hq
 refine wpAny_Tuple_spliced (thn (h pos pins s σ H _ I hq) fun us s1 ⟨xs,H1,I1,r,z,q⟩=>⟨by rw [← r.length];exact z,?_⟩)
 have hf:H1 s1.heap.objs.size=none:=I1.hok.fresh (AL _)
 refine ⟨.ref s1.heap.objs.size,upd H1 s1.heap.objs.size (.tup xs),I1.laid (t':=s1.toks) (fun b u e=>AC _ e) (AL _) ?_,rfl,q _ hf⟩
 exact ⟨z,us,r,⟨_,AR _ rfl,rfl,_,rfl⟩,_,AR _ rfl,rfl⟩
theorem qFh (h:PA X es t):PE X (.List es pos) (qHM t):=by
 intro pins s σ H Q I hq
 refine wpAny_List_spliced (thn (h pos pins s σ H _ I hq) fun us s1 ⟨xs,H1,I1,r,z,q⟩=>⟨by rw [← r.length];exact z,?_⟩)
 have hf:H1 s1.heap.objs.size=none:=I1.hok.fresh (AL _)
 refine ⟨.ref s1.heap.objs.size,upd H1 s1.heap.objs.size (.lst xs),I1.laid (t':=s1.toks) (fun b u e=>AC _ e) (AL _) ?_,rfl,q _ hf⟩
 exact ⟨z,us,0,r,AR _ rfl⟩
end
abbrev Sp:=List V->Hp->VK->XK->Prop
abbrev CXT:=List Env->Hp->Shared->XK->Value->Shared->Prop
structure Env0 (P:Program) (w:World) (K:W.Frag) (mg:Str->Option Value) (base:Heap) (A:Around) (outer:List Env) (s:Shared) (H:Hp):Prop where
 frames:A.frames=some outer
 mod:Mod K mg base
 bs:∀ b o,base.get? b=some o->s.heap.get? b=some o∧H b=none
 bsz:base.objs.size≤s.heap.objs.size
 funs:s.heap.FunFrames base outer
 frf:∀ b∈frs outer,H b=none
 hok:HOk P w H s.heap
 bare:AllBare s.gens
 hnd:HndH A H
def CE (outer:List Env) (P:Program) (w:World) (H:Hp) (s:Shared) (Q:VK) (u:Value) (s':Shared):Prop :=
 ∃ v H',s'.os=s.os∧AllBare s'.gens∧Un (frs outer) [] H H' s.heap s'.heap∧HOk P w H' s'.heap∧RelV v u∧Q v H'
def CR (CX:CXT) (outer:List Env) (P:Program) (w:World) (H:Hp) (s:Shared) (Q:VK) (E:XK) (r:Result) (s':Shared):Prop :=
 match r with
 | .ok (.ret u)=>CE outer P w H s Q u s'
 | .ok _=>False
 | .error e=>CX outer H s E e s'
structure FnOk (P:Program) (w:World) (K:W.Frag) (mg:Str->Option Value) (base:Heap) (CX:CXT) (k:Nat) (f:Addr) (fd:FuncData) (ps:List Str) (sp:Sp):Prop where
 len:∀ vs H Q E,sp vs H Q E->vs.length=ps.length
 run:∀ (A:Around) (outer:List Env) (s:Shared) (H:Hp) (args:Args) (us:List Value) (vs:List V) (Q:VK) (E:XK),Room k A->Env0 P w K mg base A outer s H->BindsTo s fd args (ps.zip us)->Vals vs us->sp vs H Q E ->
  codeAny (model P w) A (.call (.ref f) args) (CR CX outer P w H s Q E) s
section
variable {X:Cx} {pins:List (Addr×Obj)} {σ:St} {H:Hp} {s s':Shared}
theorem Inv.env0 (I:Inv X pins σ H s):Env0 X.prog X.w X.K X.mg X.base X.A X.stack s H :=
 ⟨I.ok.frames,I.ok.mod,I.bs,AS I.ok.bsz I.sz,I.stack,I.stkFree,I.hok,I.bare,I.hnd⟩
theorem Inv.after {Q:VK} {u:Value} (I:Inv X pins σ H s) (h:CE X.stack X.prog X.w H s Q u s'):EP X pins σ Q u s':=by
 obtain ⟨v,H',os,bare,un,hok,r,q⟩:=h
 obtain ⟨hh,g,d,t,os'⟩:=s'
 obtain rfl:os'=s.os:=os
 exact ⟨v,H',I.call (h':=hh) (g':=g) (d':=d) (t':=t) (ch:=[]) un hok bare (fun b z=>absurd z (by simp)),r,q⟩
end
def qGp (sp:Sp) (dvs:List V) (E:XK) (t:TA):TE:=fun σ H Q=>t σ H fun vs H1=>sp (vs++dvs) H1 Q E
def Binds (K:W.Frag) (fd:FuncData) (ps:List Str) (ds:List Value):Prop :=
 ∀ (s:Shared) (us:List Value),K.In s.heap->(us++ds).length=ps.length->BindsTo s fd ⟨us,[]⟩ (ps.zip (us++ds))
theorem Binds.all {K:W.Frag} {fd:FuncData} {ps:List Str} (h:∀ us:List Value,us.length=ps.length->bindArgs fd ⟨us,[]⟩=pure (ps.zip us)):Binds K fd ps []:=fun s us _ hl=>by
 rw [Bl] at hl ⊢
 exact .of_eq (h us hl)
def z8 (CX:CXT) (X:Cx) (E:XK):Prop := ∀ (pins:List (Addr×Obj)) (σ:St) (H:Hp) (s:Shared) (e:Value) (s':Shared),Inv X pins σ H s->CX X.stack H s E e s'->X.xe e s'
section
variable {X:Cx} {CX:CXT} {k:Nat} {f C:Addr} {fd:FuncData} {ps:List Str} {sp:Sp} {dvs:List V} {ds:List Value} {E:XK} {x m:Str} {p pos apos:Pos} {e o:Expr} {es:List Expr} {ta:TE} {t:TA}
theorem qEt {pins:List (Addr×Obj)} {σ:St} {H:Hp} {s:Shared} {Q:VK} {us:List Value} {vs:List V} (F:FnOk X.prog X.w X.K X.mg X.base CX k f fd ps sp) (hr:Room k X.A) (hb:Binds X.K fd ps ds) (hd:Vals dvs ds) (hx:z8 CX X E)
  (I:Inv X pins σ H s) (r:Vals vs us) (h:sp (vs++dvs) H Q E):wpAny (model X.prog X.w) X.A (call (.ref f) us) (EP X pins σ Q) X.xe s:=by
 have r2:Vals (vs++dvs) (us++ds):=r.append hd
 have hl:(us++ds).length=ps.length:=by rw [← r2.length];exact F.len _ _ _ _ h
 refine CQ (codeAny_mono (F.run X.A X.stack s H ⟨us,[]⟩ (us++ds) (vs++dvs) Q E hr I.env0 (hb s us I.kIn hl) r2 h) fun r s' hq => ?_)
 cases r with
 |error e=>exact hx pins σ H s e s' I hq
 |ok fl =>
  cases fl with
  |ret u=>exact I.after hq
  |next=>exact False.elim hq
  |brk=>exact False.elim hq
  |cont=>exact False.elim hq
theorem qDY (F:FnOk X.prog X.w X.K X.mg X.base CX k f fd ps sp) (hr:Room k X.A) (hg:Gl X x) (hm:X.mg x=some (.ref f)) (hk:W.keepIn X.K (.ref f)=true) (hb:Binds X.K fd ps ds) (hd:Vals dvs ds) (hx:z8 CX X E)
  (ha:PA X (e::es) t) (hdb:(x==("__debug__":Str))=false:=by decide) (he:starEach (e::es) X.env=(false,eval e X.env)::starEach es X.env:=by rfl) (hpl:(backTo pos (starEach es X.env)).any (·.1)=false:=by rfl) :
  PE X (.Call (.Name x p) (e::es) [] pos) (qGp sp dvs E t):=by
 intro pins s σ H Q I h
 refine BQ (qAA I hg hm ?_ hdb)
 refine W.callWith_K (h₀:=X.base) I.ok.mod.kin hk (thn (ha pos pins s σ H _ I h) fun us s1 ⟨vs,H1,I1,r,q⟩=>⟨I1.kIn,?_⟩) he hpl
 exact qEt F hr hb hd hx I1 r q
end
structure FnScope (N P:List Str) (sc:Scope):Prop where
 kind:sc.kind = .function
 co:sc.isCoroutine=false
 gen:sc.isGenerator=false
 nd:N.Nodup
 pre:N.take P.length=P
 par:∀ x∈P,sc.names.lookup x=some .local∨sc.names.lookup x=some .cell
 nofree:∀ y∈sc.names,y.2 ≠ .free
theorem yt {kindOf:Str->Option NameKind} {x:Str}:∀ {binds:List (Str×Value)} {m:Str->Option Value},(∀ v,(x,v) ∉ binds)->bindL kindOf binds m x=m x
 |[],_,_=>rfl
 |(n,v)::r,m,h=>by
  unfold bindL
  rw [yt fun w hw=>h w (AG _ hw)]
  split
  ·have:x≠n:=by rintro rfl;exact h v AK
   simp [this]
  ·rfl
theorem yx {kindOf:Str->Option NameKind} {x:Str}:∀ {binds:List (Str×Value)} {m:Str->Option Value},(∀ v,(x,v) ∉ binds)->bindC kindOf binds m x=m x
 |[],_,_=>rfl
 |(n,v)::r,m,h=>by
  unfold bindC
  rw [yx fun w hw=>h w (AG _ hw)]
  split
  ·rfl
  ·have:x≠n:=by rintro rfl;exact h v AK
   simp [this]
theorem ya {kindOf:Str->Option NameKind} {x:Str} {v:Value}:∀ {P:List Str} {vs:List Value} {i:Nat} {m:Str->Option Value},P.Nodup->P[i]? = some x->vs[i]? = some v->kindOf x=some .local ->
  bindL kindOf (P.zip vs) m x=some v
 |[],_,_,_,_,h,_,_=>by simp at h
 |_::_,[],_,_,_,_,h,_=>by simp at h
 |p::P,w::vs,0,m,nd,h1,h2,hk=>by
  simp at h1 h2;subst h1;subst h2
  show bindL kindOf ((p,w)::P.zip vs) m p=_
  unfold bindL
  rw [yt fun v hv=>(CJ.mp nd).1 (List.of_mem_zip hv).1,AI hk]
  simp
 |p::P,w::vs,i + 1,m,nd,h1,h2,hk=>by
  show bindL kindOf ((p,w)::P.zip vs) m x=_
  unfold bindL
  exact ya (i:=i) (CJ.mp nd).2 (by simpa using h1) (by simpa using h2) hk
theorem yZ {kindOf:Str->Option NameKind} {x:Str} {v:Value}:∀ {P:List Str} {vs:List Value} {i:Nat} {m:Str->Option Value},P.Nodup->P[i]? = some x->vs[i]? = some v->kindOf x≠some .local ->
  bindC kindOf (P.zip vs) m x=some v
 |[],_,_,_,_,h,_,_=>by simp at h
 |_::_,[],_,_,_,_,h,_=>by simp at h
 |p::P,w::vs,0,m,nd,h1,h2,hk=>by
  simp at h1 h2;subst h1;subst h2
  show bindC kindOf ((p,w)::P.zip vs) m p=_
  unfold bindC
  rw [yx fun v hv=>(CJ.mp nd).1 (List.of_mem_zip hv).1,AQ hk]
  simp
 |p::P,w::vs,i + 1,m,nd,h1,h2,hk=>by
  show bindC kindOf ((p,w)::P.zip vs) m x=_
  unfold bindC
  exact yZ (i:=i) (CJ.mp nd).2 (by simpa using h1) (by simpa using h2) hk
def start (N:List Str) (vs:List V):St:=vs.map some++List.replicate (N.length - vs.length) none
def Wd (CX:CXT) (P:Program) (w:World) (K:W.Frag) (mg:Str->Option Value) (base:Heap) (N:List Str) (qual:Str) (scope:Scope) (f:Addr) (cd:Value) (A:Around) (outer:List Env) (s:Shared) (H:Hp) (E:XK):Cx where
 prog:=P
 w:=w
 K:=K
 mg:=mg
 base:=base
 A:=A.deeper (envOfC qual scope s.heap.objs.size f cd)
 N:=N
 s₀:=s
 H₀:=H
 env:=envOfC qual scope s.heap.objs.size f cd
 outer:=outer
 stack:=envOfC qual scope s.heap.objs.size f cd::outer
 ex:=[]
 calm:=A.handled.isNone
 fn:=fun _=>true
 pn:=[]
 xe:=fun e s'=>wpAny (model P w) (A.deeper (envOfC qual scope s.heap.objs.size f cd)) (leaving (envOfC qual scope s.heap.objs.size f cd) e) (fun _ s''=>CX outer H s E e s'') (fun e' s''=>CX outer H s E e' s'') s'
theorem Ys {sc:Scope} {n:Nat} {x:Str} (h:sc.names.lookup x=some .cell):∃ c,(cellsFrom n sc.names []).lookup x=some c:=by
 have q:=W.cellsFrom_some sc.names n [] (.inl h)
 exact Option.isSome_iff_exists.mp q
theorem qAl {CX:CXT} {P:Program} {w:World} {K:W.Frag} {mg:Str->Option Value} {base:Heap} {N ps:List Str} {qual:Str} {scope:Scope} {f:Addr} {cd:Value} {A:Around} {outer:List Env} {s s1:Shared} {H:Hp} {E:XK} {us:List Value} {vs:List V}
  (S:FnScope N ps scope) (e0:Env0 P w K mg base A outer s H) (hl:vs.length=ps.length) (r:Vals vs us)
  (x:InCallC s s.heap.objs.size (bindL (envOfC qual scope s.heap.objs.size f cd).kindOf (ps.zip us) fun _=>none) (cellsFrom (s.heap.objs.size + 1) scope.names []) (bindC (envOfC qual scope s.heap.objs.size f cd).kindOf (ps.zip us) fun _=>none) s1) :
  Inv (Wd CX P w K mg base N qual scope f cd A outer s H E) [] (start N vs) H s1:=by
 have hpl:ps.length≤N.length:=by have:=congrArg List.length S.pre;rw [List.length_take] at this;omega
 obtain ⟨h1,tk,rfl,hk⟩:=x.done
 have noA:∀ b:Addr,b ∉ (Wd CX P w K mg base N qual scope f cd A outer s H E).ex:=fun b z=>absurd (show b∈([]:List Addr) from z) (by simp)
 refine ⟨⟨e0.mod,S.kind,rfl,rfl,AL _,fun y z c h1 h2 => ?_,fun y hy => ?_,fun y c _ h => ?_,fun z=>Option.isNone_iff_eq_none.mp z,Around.frames_deeper e0.frames,.inr ⟨rfl,rfl⟩,fun b z=>absurd z (noA b),e0.bs,e0.bsz,fun b _ _=>noA b,fun b z=>absurd z (noA b),e0.funs,e0.frf⟩,
  rfl,e0.bare,Un.kept hk,⟨_,x.toInCall.ns,fun i y v h1 h2 h3 => ?_⟩,fun y c h=>⟨_,x.cell y c h⟩,e0.hok.fresh (AL _),fun y c h => ?_,fun p hp=>absurd (show p∈([]:List (Addr×Obj)) from hp) (by simp),e0.hok.kept hk,?_,e0.hnd⟩
 ·exact name_of_addr x.apart (BI h1) (BI h2)
 ·have hy:scope.names.lookup y=some .cell∨scope.names.lookup y=some .free:=hy
  rcases hy with hy |hy
  ·exact Ys hy
  ·exact absurd rfl (S.nofree _ (BI hy))
 ·exact CN (x.above y c (BI h))
 ·have hi:i < vs.length:=by
   unfold start at h2
   by_cases hi:i < vs.length
   ·exact hi
   ·rw [Az (by simpa using hi)] at h2
    rw [Bu] at h2
    split at h2 <;> cases h2
  have ha:vs[i]? = some v:=by
   unfold start at h2
   rw [Ac (by simpa using hi),Ah] at h2
   cases e:vs[i]? with
   |none=>rw [e] at h2;cases h2
   |some a=>rw [e] at h2;cases h2;rfl
  obtain ⟨u,hu,rv⟩:=r.get ha
  have hp:ps[i]? = some y:=by
   rw [← S.pre,List.getElem?_take_of_lt (by omega)];exact h1
  have ndP:ps.Nodup:=by rw [← S.pre];exact S.nd.sublist (List.take_sublist _ _)
  refine ⟨u,rv,?_⟩
  rcases S.par y (BE hp) with k |k
  ·exact .inl ⟨k,ya ndP hp hu k⟩
  ·obtain ⟨c,e⟩:=Ys (n:=s.heap.objs.size + 1) k
   refine .inr ⟨.inl k,c,e,?_⟩
   have q:=x.cell y c e
   rw [yZ ndP hp hu (by show scope.names.lookup y≠_;rw [k];decide)] at q
   exact q
 ·exact e0.hok.fresh (CN (x.above y c (BI h)))
 ·unfold start
  show _=N.length
  rw [Af,AE,List.length_replicate]
  omega
theorem qGj {CX:CXT} {P:Program} {w:World} {K:W.Frag} {mg:Str->Option Value} {base:Heap} {k:Nat} {f:Addr} {name qual:Str} {params:Arguments} {body:List Stmt} {scope:Scope} {dV kV doc pm cdv ct oc:Value} {an od:Option Addr}
  {osl:Array (Option Value)} {N ps:List Str} {sp:Sp} (lk:K.lookup f=some ⟨oc,od,.func (W.fnOf name qual params body scope dV kV doc pm an cdv ct),osl⟩) (hcd:W.codeIn K cdv qual=true) (S:FnScope N ps scope)
  (len:∀ vs H Q E,sp vs H Q E->vs.length=ps.length)
  (hbody:∀ (A:Around) (outer:List Env) (s:Shared) (H:Hp) (vs:List V) (Q:VK) (E:XK),Room k (A.deeper (envOfC qual scope s.heap.objs.size f cdv))->(0 < k->A.handled=none)->sp vs H Q E ->
   ∃ t,PSs (Wd CX P w K mg base N qual scope f cdv A outer s H E) body t∧t { nx:=fun _ H'=>Q .non H',rt:=Q } (start N vs) H) :
  FnOk P w K mg base CX (k + 1) f (W.fnOf name qual params body scope dV kV doc pm an cdv ct) ps sp:=by
 refine ⟨len,fun A outer s H args us vs Q E hr e0 hb r hsp => ?_⟩
 have hl:=len _ _ _ _ hsp
 have KX:K.In s.heap:=e0.mod.kin.keeps fun b o e=>(e0.bs b o e).1
 have lim:s.heap.NoLimit:=e0.mod.nolimit.keeps fun b o e=>(e0.bs b o e).1
 have hkind:∀ y∈ps.zip us,scope.names.lookup y.1=some .local∨(scope.names.lookup y.1=some .cell∧((cellsFrom (s.heap.objs.size + 1) scope.names []).lookup y.1).isSome=true):=fun ⟨n,v⟩ hy=>by
  rcases S.par n (List.of_mem_zip hy).1 with q |q
  ·exact .inl q
  ·exact .inr ⟨q,W.cellsFrom_some _ _ _ (.inl q)⟩
 refine codeAny_call_function hr.depth (KX _ _ lk) rfl S.co S.gen rfl (W.codeRec_of KX hcd) (hb _ _ _ _ ?_)
 refine wpAny_newFunctionEnv_cells S.kind hkind fun env he s1 x => ?_
 subst he
 refine ⟨lim.keeps x.toInCall.keep,codeAny_func ?_⟩
 obtain ⟨t,ht,hq⟩:=hbody A outer s H vs Q E (hr.deeper _) (fun z=>hr.hd (by omega)) hsp
 have I:Inv (Wd CX P w K mg base N qual scope f cdv A outer s H E) [] (start N vs) H s1:=qAl S e0 hl r x
 refine BD (ht [] s1 (start N vs) H _ I hq) (fun fl s' hs => ?_) fun e s' hs=>hs
 have fin:∀ {σ':St} {H':Hp} {v:V} {u:Value},Inv (Wd CX P w K mg base N qual scope f cdv A outer s H E) [] σ' H' s'->RelV v u->Q v H'->CE outer P w H s Q u s' :=
  fun {σ' H' v u} J rv q=>⟨v,H',J.os,J.bare,J.base,J.hok,rv,q⟩
 cases fl with
 |ret u =>
  obtain ⟨v,σ',H',J,rv,q⟩:=hs
  exact fin J rv q
 |next =>
  obtain ⟨σ',H',J,q⟩:=hs
  exact fin (v:=V.non) (u:=Value.none) J rfl q
 |brk =>
  obtain ⟨_,_,_,q⟩:=hs
  exact False.elim q
 |cont =>
  obtain ⟨_,_,_,q⟩:=hs
  exact False.elim q
end L2
namespace L2
open PySem PySem.Spec PyProof.Rows
section
variable {X:Cx} {x:Str} {p pos:Pos} {e:Expr} {es:List Expr} {t:TA} {id T:String} {r:List V->Hp->VK->Prop}
def tCB (r:List V->Hp->VK->Prop) (t:TA):TE:=fun σ H Q=>t σ H fun vs H1=>r vs H1 Q
theorem qCt (hc:wu X (.builtin id) r) (hg:Gl X x) (hm:X.mg x=none) (hv:bootBuiltins x=some (.builtin id)) (ha:PA X (e::es) t) (hn:x ≠ "__name__" := by decide) (hdb:(x==("__debug__":Str))=false:=by decide)
  (he:starEach (e::es) X.env=(false,eval e X.env)::starEach es X.env:=by rfl) (hpl:(backTo pos (starEach es X.env)).any (·.1)=false:=by rfl):PE X (.Call (.Name x p) (e::es) [] pos) (tCB r t):=by
 intro pins s σ H Q I h
 refine BQ (Wm I hg hm hv ?_ hn hdb)
 exact PyProof.Rows.callWith_builtin1 (thn (ha pos pins s σ H _ I h) fun us s1 ⟨vs,H1,I1,r1,q1⟩=>hc pins s1 σ H1 vs us Q I1 r1 q1) he hpl
theorem ye (hc:wu X (.type T) r) (hg:Gl X x) (hm:X.mg x=none) (hv:bootBuiltins x=some (.type T)) (ha:PA X (e::es) t) (hn:x ≠ "__name__" := by decide) (hdb:(x==("__debug__":Str))=false:=by decide)
  (he:starEach (e::es) X.env=(false,eval e X.env)::starEach es X.env:=by rfl) (hpl:(backTo pos (starEach es X.env)).any (·.1)=false:=by rfl):PE X (.Call (.Name x p) (e::es) [] pos) (tCB r t):=by
 intro pins s σ H Q I h
 refine BQ (Wm I hg hm hv ?_ hn hdb)
 exact Bi (thn (ha pos pins s σ H _ I h) fun us s1 ⟨vs,H1,I1,r1,q1⟩=>hc pins s1 σ H1 vs us Q I1 r1 q1) he hpl
end
end L2
namespace HT
open PySem PyProof.Rows
theorem rcLt_int (A:Around) (s:Shared) (a:Int) (t:Tok) (c:Int) (u:Tok) (prog:Program) (w:World) (E:Value->Shared->Prop) (Q:Value->Shared->Prop) (h:Q (.bool (decide (a < c))) s) :
  wpAny (model prog w) A (richCompare .Lt (.int a t) (.int c u)) Q E s :=
 (PyProof.Rows.lt_int h:wpAny (model prog w) A (compareOp .Lt (.int a t) (.int c u)) Q E s)
section
variable {prog:Program} {w:World} {A:Around} {E:Value->Shared->Prop} {s:Shared}
theorem cat_tup {t b:Addr} {vs ws:List Value} {Q:Value->Shared->Prop} (ht:IsTup s.heap t vs.toArray) (hb:IsTup s.heap b ws.toArray) (hv:vs≠[])
  (h1:ws=[]->Q (.ref t) s) (h2:ws≠[]->Q (.ref s.heap.objs.size) { s with heap:=s.heap.push { cls := .type "tuple",data := .seq (vs++ws).toArray } })
  (hsz:vs.length + ws.length≤sizeLine):wpAny (model prog w) A (binaryOp .Add (.ref t) (.ref b)) Q E s:=by
 obtain ⟨⟨cls,dd,data,sl⟩,ho,hc,n,hd⟩:=id ht
 obtain ⟨⟨cls2,dd2,data2,sl2⟩,ho2,hc2,n2,hd2⟩:=id hb
 simp only at hc hd hc2 hd2
 subst hc hd hc2 hd2
 have e:vs.toArray++ws.toArray=(vs++ws).toArray:=by simp
 by_cases hw:ws=[]
 ·exact concat_meets ⟨_,ho,rfl⟩ ⟨_,ho2,rfl⟩ noFill_tuple_add seq_tuple_add PySem.F.slot_tuple_add PySem.F.entry_tuple_add (PySem.F.args_tuple_add_2 _ _)
   (tuple_addW1 t b vs.toArray ws.toArray n n2 dd dd2 sl sl2 (by simpa using hv) (by simp [hw])) ⟨ho,ho2,h1 hw⟩
 ·refine concat_meets ⟨_,ho,rfl⟩ ⟨_,ho2,rfl⟩ noFill_tuple_add seq_tuple_add PySem.F.slot_tuple_add PySem.F.entry_tuple_add (PySem.F.args_tuple_add_2 _ _)
   (tuple_addW2 t b vs.toArray ws.toArray n n2 dd dd2 sl sl2 (by simpa using hv) (by simpa using hw) (by rw [AM,AM];exact hsz)) ⟨ho,ho2,?_⟩
  rw [e]
  exact h2 hw
def sIx (n d:Nat):Option Int->Nat
 |none=>d
 |some v=>if v < 0 then (v + (n:Int)).toNat else min v.toNat n
theorem sIx_nat (n d k:Nat):sIx n d (some (k:Int))=min k n:=by
 show (if (k:Int) < 0 then ((k:Int) + (n:Int)).toNat else min (k:Int).toNat n)=min k n
 rw [AQ (by omega),Av]
theorem qET (n d:Nat) (hd:d≤n) (o:Option Int):sIx n d o≤n:=by
 cases o with
 |none=>exact hd
 |some v =>
  show (if v < 0 then (v + (n:Int)).toNat else min v.toNat n)≤n
  by_cases hv:v < 0
  ·rw [AI hv];omega
  ·rw [AQ hv];exact Nat.min_le_right _ _
theorem J7 (v:Int) (n d:Nat):(if v < 0 then max (v + (n:Int)) 0 else min v (n:Int))=((sIx n d (some v):Nat):Int):=by
 show (if v < 0 then max (v + (n:Int)) 0 else min v (n:Int))=(((if v < 0 then (v + (n:Int)).toNat else min v.toNat n):Nat):Int)
 by_cases hv:v < 0
 ·simp only [AI hv];omega
 ·simp only [AQ hv];omega
theorem j0 (lo hi:Option Int) (n:Nat):Builtin.Slice.sliceAdjust lo hi 1 (n:Int)=(((sIx n 0 lo:Nat):Int),((sIx n n hi:Nat):Int)):=by
 have h1:¬ ((1:Int) < 0):=by omega
 unfold Builtin.Slice.sliceAdjust
 simp only [h1,if_false]
 refine Prod.ext ?_ ?_
 ·cases lo with
  |none=>rfl
  |some v=>exact J7 v n 0
 ·cases hi with
  |none=>rfl
  |some v=>exact J7 v n n
theorem jz (i j:Nat):Builtin.Slice.slicePlaces (i:Int) (j:Int) 1=j - i:=by
 unfold Builtin.Slice.slicePlaces
 have h1:(1:Int) > 0:=by omega
 simp only [h1,if_true,Int.ediv_one]
 split <;> omega
theorem Zy {v:Value} {o:Option Int} {Q:Option Int->Shared->Prop} (p:IsPart v o) (h:Q o s):wpAny (model prog w) A (Builtin.Slice.slicePartIndex v) Q E s:=by
 cases p with
 |none=>exact slicePart_none h
 |int i t=>exact slicePart_int h
theorem sliceApplied_gen {sl:Addr} {vl vu:Value} {lo hi:Option Int} {n:Nat} {Q:Int×Int×Nat->Shared->Prop} (hs:s.heap.IsSliceOf sl vl vu .none) (pl:IsPart vl lo) (pu:IsPart vu hi)
  (h:Q (((sIx n 0 lo:Nat):Int),1,sIx n n hi - sIx n 0 lo) s):wpAny (model prog w) A (Builtin.Slice.sliceApplied (.ref sl) (pure (n:Int))) Q E s:=by
 obtain ⟨os,hos,hcs,hds⟩:=id hs
 unfold Builtin.Slice.sliceApplied Builtin.Slice.sliceFields
 refine AA (AA (BA hos hds (x:=vl) rfl (AA (BA hos hds (x:=vu) rfl (AA (BA hos hds (x := .none) rfl (AB ?_)))))))
 refine AA (slicePart_none ?_)
 show wpAny _ _ (if ((1:Int)==0)=true then _ else _) _ _ s
 rw [AQ (by decide)]
 refine AA (Zy pl (AA (Zy pu (AA (AB ?_)))))
 show wpAny _ _ (match Builtin.Slice.sliceAdjust lo hi 1 (n:Int) with |(lo,hi)=>pure (lo,(1:Int),Builtin.Slice.slicePlaces lo hi 1)) _ _ s
 rw [j0 lo hi n]
 show wpAny _ _ (pure (((sIx n 0 lo:Nat):Int),(1:Int),Builtin.Slice.slicePlaces ((sIx n 0 lo:Nat):Int) ((sIx n n hi:Nat):Int) 1)) _ _ s
 rw [jz]
 exact AB h
theorem qBb (xs:Array Value) (i k:Nat):((List.range k).filterMap fun (m:Nat)=>xs[((i:Int) + (m:Int) * 1).toNat]?).toArray=((xs.toList.drop i).take k).toArray:=by
 have e:(fun (m:Nat)=>xs[((i:Int) + (m:Int) * 1).toNat]?)=fun m=>xs[i + m]? := by
  funext m
  have:((i:Int) + (m:Int) * 1).toNat=i + m:=by omega
  rw [this]
 rw [e]
 have:=pick_run xs i k
 rw [List.filterMap_map] at this
 have e2:((fun x=>xs[x]?) ∘ fun x=>i + x)=fun m=>xs[i + m]? := rfl
 rw [e2] at this
 rw [this]
theorem getItem_tuple_cut {t sl:Addr} {items:Array Value} {vl vu:Value} {lo hi:Option Int} {Q:Value->Shared->Prop} (ht:IsTup s.heap t items) (hs:s.heap.IsSliceOf sl vl vu .none) (pl:IsPart vl lo) (pu:IsPart vu hi)
  (hw:¬ (sIx items.size 0 lo=0∧sIx items.size items.size hi=items.size))
  (h:Q (.ref s.heap.objs.size) { s with heap:=s.heap.push { cls := .type "tuple",data := .seq ((items.toList.drop (sIx items.size 0 lo)).take (sIx items.size items.size hi - sIx items.size 0 lo)).toArray } })
  (hsz:items.size≤sizeLine):wpAny (model prog w) A (getItem (.ref t) (.ref sl)) Q E s:=by
 have htake:sizeOk (.seq ((items.toList.drop (sIx items.size 0 lo)).take (sIx items.size items.size hi - sIx items.size 0 lo)).toArray):=by
  show ((items.toList.drop (sIx items.size 0 lo)).take (sIx items.size items.size hi - sIx items.size 0 lo)).toArray.size≤sizeLine
  rw [AM,List.length_take,List.length_drop,Ab]
  omega
 have hj:sIx items.size items.size hi≤items.size:=qET _ _ (AL _) hi
 obtain ⟨os,hos,hcs,hds⟩:=id hs
 have hTs:s.TypeIs (.ref sl) "slice" := ⟨os,hos,hcs⟩
 unfold getItem
 try with_reducible refine Ai ?_
 first |refine AA (AB ?_) |skip
 refine AA (wpAny_sequenceKey ht.typeIs (by decide) ?_)
 refine AA (A8 (name:=Str.ofString "__getitem__") ht.typeIs BW
  (A9 BW ht.typeIs entry_tuple_getitem ?_ (args_tuple_getitem _ _)))
 show wpAny _ _ (Builtin.Tuple.tupleItemsOf (.ref t) >>= _) _ _ s
 refine AA (tupleItemsOf_ ht ?_)
 refine AA (BY hTs ?_)
 rw [AI (by decide)]
 refine AA (sliceApplied_gen hs pl pu ?_)
 have hno:¬ ((((sIx items.size 0 lo:Nat):Int)==0&&(1:Int)==1&&(sIx items.size items.size hi - sIx items.size 0 lo)==items.size)=true):=by
  intro q
  rw [Ar,Ar] at q
  have q1:((sIx items.size 0 lo:Nat):Int)=0:=eq_of_beq q.1.1
  have q2:sIx items.size items.size hi - sIx items.size 0 lo=items.size:=eq_of_beq q.2
  exact hw ⟨by omega,by omega⟩
 show wpAny _ _ (if (((sIx items.size 0 lo:Nat):Int)==0&&(1:Int)==1&&(sIx items.size items.size hi - sIx items.size 0 lo)==items.size)=true then _ else _) _ _ s
 rw [AQ hno,qBb]
 first
  |exact AA (m:=Builtin.Tuple.tupleExact _) (BB (AB ⟨_,rfl,AB h⟩) htake)
  |exact AA (m:=Builtin.Tuple.tupleExact _) (BB (AA (AB (AB ⟨_,rfl,AB h⟩))) htake)
  |exact AA (AA (m:=Builtin.Tuple.tupleExact _) (BB (AB (AB ⟨_,rfl,AB h⟩)) htake))
  |exact AA (AA (m:=Builtin.Tuple.tupleExact _) (BB (AB ⟨_,rfl,AB h⟩) htake))
end
end HT
namespace L2
open PySem PySem.Spec PyProof.Rows
abbrev TO:=St->Hp->(Option Int->Hp->Prop)->Prop
def PO (X:Cx) (e:Option Expr) (t:TO):Prop :=
 ∀ (pins:List (Addr×Obj)) (s:Shared) (σ:St) (H:Hp) (Q:Option Int->Hp->Prop),Inv X pins σ H s->t σ H Q ->
  wpAny (model X.prog X.w) X.A (evalPart e X.env) (fun u s' => ∃ o H',Inv X pins σ H' s'∧IsPart u o∧Q o H') X.xe s
def qGc (t:TE):TO:=fun σ H Q=>t σ H fun x H1 => ∃ i,x = .int i∧Q (some i) H1
theorem JK {ns:List Int}:∀ {us:List Value},Vals (ns.map V.int) us->IntsAre us ns:=by
 induction ns with
 |nil=>intro us r;rw [B9] at r;cases r;exact .nil
 |cons n ns ih =>
  intro us r
  rw [AN] at r
  cases r with
  |cons r1 r2 =>
   obtain ⟨t,e⟩:=r1
   subst e
   exact .cons n t (ih r2)
section
variable {X:Cx} {e:Expr} {te:TE} {lo hi:Option Expr} {tl th:TO} {pos p2:Pos}
theorem qDZ (h:PE X e te):PO X (some e) (qGc te):=by
 intro pins s σ H Q I hw
 rw [evalPart_some]
 refine thn (h pins s σ H _ I hw) fun u s1 ⟨x,H1,I1,r1,q1⟩ => ?_
 obtain ⟨i,rfl,q⟩:=q1
 obtain ⟨t,rfl⟩:=r1
 exact ⟨some i,H1,I1,.int i t,q⟩
def SlR (X:Cx) (r:V->Option Int->Option Int->Hp->VK->Prop):Prop :=
 ∀ (pins:List (Addr×Obj)) (s:Shared) (σ:St) (H:Hp) (x:V) (v vl vu:Value) (lo hi:Option Int) (sl:Addr) (Q:VK),Inv X pins σ H s->RelV x v->s.heap.IsSliceOf sl vl vu .none->IsPart vl lo->IsPart vu hi->r x lo hi H Q ->
  ∃ T id,typeLookup (.type T) "__getitem__" = pure (some (.builtin id))∧s.TypeIs v T∧wpAny (model X.prog X.w) X.A (getItem v (.ref sl)) (EP X pins σ Q) X.xe s
theorem SlR.or {r r':V->Option Int->Option Int->Hp->VK->Prop} (h:SlR X r) (h':SlR X r'):SlR X (fun x lo hi H Q=>r x lo hi H Q∨r' x lo hi H Q):=by
 intro pins s σ H x v vl vu lo hi sl Q I rx hs pl pu q
 rcases q with q |q
 ·exact h pins s σ H x v vl vu lo hi sl Q I rx hs pl pu q
 ·exact h' pins s σ H x v vl vu lo hi sl Q I rx hs pl pu q
def tSl (r:V->Option Int->Option Int->Hp->VK->Prop) (te:TE) (tl th:TO):TE:=fun σ H Q=>te σ H fun x H1=>tl σ H1 fun l H2=>th σ H2 fun u H3=>r x l u H3 Q
theorem qCT {r:V->Option Int->Option Int->Hp->VK->Prop} (hr:SlR X r) (he:PE X e te) (hl:PO X lo tl) (hu:PO X hi th):PE X (.Subscript e (.Slice lo hi none p2) pos) (tSl r te tl th):=by
 intro pins s σ H Q I h
 refine Subscript_ (thn (he pins s σ H _ I h) fun v s1 ⟨x,H1,I1,r1,q1⟩ => ?_)
 refine wpAny_Slice (thn (hl pins s1 σ H1 _ I1 q1) fun vl s2 ⟨l,H2,I2,pl,q2⟩=>thn (hu pins s2 σ H2 _ I2 q2) fun vu s3 ⟨u,H3,I3,pu,q3⟩ => ?_)
 rw [evalPart_none]
 refine AB ?_
 have I4:Inv X pins σ H3 { s3 with heap:=s3.heap.push { cls := .type "slice",data := .fields #[vl,vu,.none] } }:=I3.kept (t':=s3.toks) fun b ob q=>AC _ q
 obtain ⟨T,id,hT,ht,hg⟩:=hr pins { s3 with heap:=s3.heap.push { cls := .type "slice",data := .fields #[vl,vu,.none] } } σ H3 x v vl vu l u s3.heap.objs.size Q I4 r1 (Heap.IsSliceOf.new ..) pl pu q3
 show wpAny (model X.prog X.w) X.A (subscriptTail e (.Slice lo hi none p2) v (.ref s3.heap.objs.size)) (EP X pins σ Q) X.xe { s3 with heap:=s3.heap.push { cls := .type "slice",data := .fields #[vl,vu,.none] } }
 exact tail_any (ops:=[.ref s3.heap.objs.size,v]) ht hT hg (by with_unfolding_all rfl)
def qAn (xs:List V) (lo hi:Option Int):List V:=(xs.drop (HT.sIx xs.length 0 lo)).take (HT.sIx xs.length xs.length hi - HT.sIx xs.length 0 lo)
theorem Yy (xs:List V) (lo hi:Option Int):(qAn xs lo hi).length≤xs.length:=by
 unfold qAn
 rw [List.length_take,List.length_drop]
 omega
def qHB (K:W.Frag):V->Option Int->Option Int->Hp->VK->Prop:=fun x lo hi H Q => ∃ a xs,x = .ref a∧SqT K H a xs ∧
 ¬ (HT.sIx xs.length 0 lo=0∧HT.sIx xs.length xs.length hi=xs.length) ∧ ∀ p,H p=none->Q (.ref p) (upd H p (.tup (qAn xs lo hi)))
theorem sl_tup:SlR X (qHB X.K):=by
 intro pins s σ H x v vl vu lo hi sl Q I rx hs pl pu h
 obtain ⟨a,xs,rfl,hx,hw,q⟩:=h
 cases rx
 obtain ⟨its,r,ht,hz⟩:=I.tuple hx
 have hlen:its.toArray.size=xs.length:=by rw [AM];exact r.length.symm
 refine ⟨"tuple",_,PyProof.Rows.slot_tuple_getitem.lookup,ht.typeIs,?_⟩
 refine HT.getItem_tuple_cut ht hs pl pu (by rw [hlen];exact hw) ?_ (by rw [hlen];exact hz)
 rw [hlen]
 refine ⟨.ref s.heap.objs.size,_,I.laid (t':=s.toks) (o := .tup (qAn xs lo hi)) (fun b ob q=>AC _ q) (AL _) ?_,rfl,q _ (I.hok.fresh (AL _))⟩
 exact ⟨AS (Yy xs lo hi) hz,_,(r.drop (HT.sIx xs.length 0 lo)).take (HT.sIx xs.length xs.length hi - HT.sIx xs.length 0 lo),IsTup.new _ _,_,AR _ rfl,rfl⟩
def qGP (K:W.Frag):R2:=fun x y H Q => ∃ a b xs ys,x = .ref a∧y = .ref b∧SqT K H a xs∧SqT K H b ys∧xs≠[]∧xs.length + ys.length≤sizeLine ∧
 (ys=[]->Q (.ref a) H)∧(ys≠[] -> ∀ p,H p=none->Q (.ref p) (upd H p (.tup (xs++ys))))
theorem Vals.nil_iff {xs:List V} {us:List Value} (r:Vals xs us):us=[] ↔ xs=[]:=by
 cases r with
 |nil=>simp
 |cons _ _=>simp
theorem qDR:OpR X (binaryOp .Add) (qGP X.K):=by
 intro pins s σ H x y v u Q I rx ry h
 obtain ⟨a,b,xs,ys,rfl,rfl,ha,hb,hx,hz,q1,q2⟩:=h
 cases rx
 cases ry
 obtain ⟨its,r1,p1,_⟩:=I.tuple ha
 obtain ⟨its2,r2,p2,_⟩:=I.tuple hb
 refine HT.cat_tup p1 p2 (fun z=>hx (r1.nil_iff.mp z)) (fun z=>⟨.ref a,H,I,rfl,q1 (r2.nil_iff.mp z)⟩) (fun z => ?_) (by rw [← r1.length,← r2.length];exact hz)
 refine ⟨.ref s.heap.objs.size,_,I.laid (t':=s.toks) (o := .tup (xs++ys)) (fun b ob q=>AC _ q) (AL _) ?_,rfl,q2 (fun w=>z (r2.nil_iff.mpr w)) _ (I.hok.fresh (AL _))⟩
 exact ⟨by rw [Af];exact hz,_,r1.append r2,IsTup.new _ _,_,AR _ rfl,rfl⟩
end
end L2
namespace L2
open PySem PySem.Spec PyProof.Rows
def ixN (n:Nat) (i:Int):Option Nat:=if 0≤i then (if i < n then some i.toNat else none) else if -(n:Int)≤i then some (i + n).toNat else none
def atI {α:Type} (xs:List α) (i:Int):Option α:=(ixN xs.length i).bind fun j=>xs[j]?
theorem Jo {n:Nat} {i:Int} {j:Nat} (h:ixN n i=some j):seqIndex? i n=some j∧j < n ∧ -(n:Int)≤i∧i < n:=by
 unfold ixN at h
 by_cases h0:0≤i
 ·rw [AI h0] at h
  by_cases h1:i < n
  ·rw [AI h1] at h
   have e:i.toNat=j:=AZ h
   exact ⟨by rw [seqIndex_of h0 h1,e],by omega,by omega,h1⟩
  ·rw [AQ h1] at h;cases h
 ·rw [AQ h0] at h
  by_cases h1:-(n:Int)≤i
  ·rw [AI h1] at h
   have e:(i + n).toNat=j:=AZ h
   exact ⟨by rw [seqIndex_neg (by omega) h1,e],by omega,h1,by omega⟩
  ·rw [AQ h1] at h;cases h
theorem YC {α:Type} {xs:List α} {i:Int} {v:α} (h:atI xs i=some v):∃ j,seqIndex? i xs.length=some j∧xs[j]? = some v∧j < xs.length ∧ -(xs.length:Int)≤i∧i < xs.length:=by
 unfold atI at h
 cases e:ixN xs.length i with
 |none=>rw [e] at h;cases h
 |some j =>
  rw [e] at h
  obtain ⟨h1,h2,h3,h4⟩:=Jo e
  exact ⟨j,h1,h,h2,h3,h4⟩
def qAH (b:Expr):Prop := ∀ o i,subscripted b false o i=operate [o,i] (getItem o i)
def IxR (X:Cx) (r:R2):Prop :=
 ∀ (value slice:Expr) (pins:List (Addr×Obj)) (s:Shared) (σ:St) (H:Hp) (x y:V) (v u:Value) (Q:VK),Inv X pins σ H s->RelV x v->RelV y u->r x y H Q ->
  subscripted slice false v u=operate [v,u] (getItem v u)->wpAny (model X.prog X.w) X.A (subscriptTail value slice v u) (EP X pins σ Q) X.xe s
def MtR (X:Cx) (id:String) (r:V->List V->Hp->VK->Prop):Prop :=
 ∀ (pins:List (Addr×Obj)) (s:Shared) (σ:St) (H:Hp) (x:V) (xs:List V) (v:Value) (us:List Value) (Q:VK),Inv X pins σ H s->RelV x v->Vals xs us->r x xs H Q ->
  wpAny (model X.prog X.w) X.A (call (.builtin id) (v::us)) (EP X pins σ Q) X.xe s
section
variable {X:Cx} {a b:Expr} {ta tb:TE} {pos:Pos}
theorem IxR.or {r r':R2} (h:IxR X r) (h':IxR X r'):IxR X (fun x y H Q=>r x y H Q∨r' x y H Q):=by
 intro value slice pins s σ H x y v u Q I rx ry q hs
 rcases q with q |q
 ·exact h value slice pins s σ H x y v u Q I rx ry q hs
 ·exact h' value slice pins s σ H x y v u Q I rx ry q hs
theorem qF2 {r:R2} (hr:IxR X r) (ha:PE X a ta) (hb:PE X b tb) (hs:qAH b):PE X (.Subscript a b pos) (tOp r ta tb):=by
 intro pins s σ H Q I h
 exact Subscript_ (qFF ha hb I h fun v u s2 x y H2 I2 rx ry q=>hr a b pins s2 σ H2 x y v u Q I2 rx ry q (hs _ _))
def qGt (K:W.Frag):R2:=fun x y H Q => ∃ p xs i v,x = .ref p∧y = .int i∧SqL K H p xs∧atI xs i=some v∧Q v H
def qGk (K:W.Frag):R2:=fun x y H Q => ∃ p xs i v,x = .ref p∧y = .int i∧SqT K H p xs∧atI xs i=some v∧Q v H
def qGX:R2:=fun x y H Q => ∃ z i c,x = .str z∧y = .int i∧z.length≤sizeLine∧atI z.cps.toList i=some c∧Q (.str ⟨#[c]⟩) H
theorem ix_list:IxR X (qGt X.K):=by
 intro value slice pins s σ H x y v u Q I rx ry h hs
 obtain ⟨p,xs,i,z,rfl,rfl,hq,he,q⟩:=h
 cases rx
 obtain ⟨t,rfl⟩:=ry
 obtain ⟨its,r,pl,hz⟩:=I.list hq
 obtain ⟨j,h1,h2,h3,h4,h5⟩:=YC he
 obtain ⟨w,ew,rw'⟩:=r.get h2
 have hl:=r.length
 have hn:=ZB
 have fin:EP X pins σ Q w s:=⟨z,H,I,rw',q⟩
 by_cases h0:0≤i
 ·have hj:i.toNat=j:=by
   rw [seqIndex_of h0 h5] at h1
   exact AZ h1
  exact item_listR pl.isList h0 (by omega) (by rw [hj];simpa using ew) fin hs
 ·have hj:(i + (its.toArray.size:Int)).toNat=j:=by
   rw [seqIndex_neg (by omega) h4] at h1
   rw [AM,← hl]
   exact AZ h1
  exact subscriptTail_builtinR (x:=w) pl.isList.typeIs slot_list_getitem.lookup
   (wpAny_getItem_list_neg (Q:=fun r s'=>r=w∧EP X pins σ Q r s') pl.isList (by omega) (by rw [AM] <;> omega) (by omega) (by rw [hj];simpa using ew) ⟨rfl,fin⟩) hs
theorem ix_tup:IxR X (qGk X.K):=by
 intro value slice pins s σ H x y v u Q I rx ry h hs
 obtain ⟨p,xs,i,z,rfl,rfl,hq,he,q⟩:=h
 cases rx
 obtain ⟨t,rfl⟩:=ry
 obtain ⟨its,r,pl,hz⟩:=I.tuple hq
 obtain ⟨j,h1,h2,h3,h4,h5⟩:=YC he
 obtain ⟨w,ew,rw'⟩:=r.get h2
 have hl:=r.length
 have hn:=ZB
 have fin:EP X pins σ Q w s:=⟨z,H,I,rw',q⟩
 exact subscriptTail_builtinR (x:=w) pl.typeIs slot_tuple_getitem.lookup
  (getItem_tuple (j:=j) (Q:=fun r s'=>r=w∧EP X pins σ Q r s') pl (by omega) (by omega) (by rw [AM,← hl];exact h1) (by simpa using ew) ⟨rfl,fin⟩) hs
theorem qEm:IxR X qGX:=by
 intro value slice pins s σ H x y v u Q I rx ry h hs
 obtain ⟨z,i,c,rfl,rfl,hz,he,q⟩:=h
 obtain ⟨t,rfl⟩:=rx
 obtain ⟨t',rfl⟩:=ry
 obtain ⟨j,h1,h2,h3,h4,h5⟩:=YC he
 have hl:z.cps.toList.length=z.length:=by simp [Str.length]
 rw [hl] at h1 h4 h5
 have hn:=ZB
 exact tail_any (typeIs_str s z t) slot_str_getitem.lookup (getItem_str (c:=c) (by
  have e1:decide (i < -(2 ^ 63:Int))=false:=AY (by omega)
  have e2:decide (i ≥ 2 ^ 63)=false:=AY (by omega)
  rw [e1,e2,Bool.or_false]) (by rw [h1];simpa using h2) ⟨.str ⟨#[c]⟩,H,I.tok _,⟨_,rfl⟩,q⟩) hs
def rIx (K:W.Frag):R2:=fun x y H Q=>qGt K x y H Q∨qGk K x y H Q∨qGX x y H Q
theorem qEh:IxR X (rIx X.K):=ix_list.or (ix_tup.or qEm)
theorem JG (its:List Value) (n j:Nat) (u:Value):Obj.mapSeq (·.setIfInBounds j u) { cls := .type "list",data := .seq its.toArray n }={ cls := .type "list",data := .seq (its.set j u).toArray n }:=by
 simp [Obj.mapSeq]
theorem Inv.lst {pins:List (Addr×Obj)} {σ:St} {H:Hp} {s:Shared} {p:Addr} {xs:List V} (I:Inv X pins σ H s) (h:H p=some (.lst xs)) :
  ∃ (its:List Value) (n:Nat),Vals xs its∧s.heap.get? p=some { cls := .type "list",data := .seq its.toArray n }∧xs.length≤sizeLine:=by
 obtain ⟨z,its,n,r,e⟩:=I.hok p _ h
 exact ⟨its,n,r,e,z⟩
theorem Inv.lstUpd {pins:List (Addr×Obj)} {σ:St} {H:Hp} {s:Shared} {p:Addr} {xs ys:List V} {its its':List Value} {n n':Nat} {f:Obj->Obj} (I:Inv X pins σ H s) (h:H p=some (.lst xs))
  (ho:s.heap.get? p=some { cls := .type "list",data := .seq its.toArray n }) (hf:f { cls := .type "list",data := .seq its.toArray n }={ cls := .type "list",data := .seq its'.toArray n' }) (r:Vals ys its') (hz:ys.length≤sizeLine) (t:Nat) :
  Inv X pins σ (upd H p (.lst ys)) { s with heap:=s.heap.update p f,toks:=t }:=by
 have e:(s.heap.update p f).get? p=some { cls := .type "list",data := .seq its'.toArray n' }:=by
  rw [Ap f ho (by rw [hf] <;> rfl),hf]
 refine I.write (x:=p) (e:=p) (by rw [h];trivial) (.inl rfl) (fun b u hb q=>(AU _ _ (Ne.symm hb)).trans q) ⟨_,e⟩ ?_
 exact ⟨hz,its',n',r,e⟩
def qEP:V->V->V->Hp->(Hp->Prop)->Prop:=fun o i v H Q => ∃ p xs k j,o = .ref p∧i = .int k∧H p=some (.lst xs)∧ixN xs.length k=some j∧Q (upd H p (.lst (xs.set j v)))
theorem qCB:qGC X qEP:=by
 intro pins s σ H o i v ov iv u Q I ro ri rv h
 obtain ⟨p,xs,k,j,rfl,rfl,hp,hj,q⟩:=h
 cases ro
 obtain ⟨t,rfl⟩:=ri
 obtain ⟨its,n,r,ho,hz⟩:=I.lst hp
 obtain ⟨h1,h2,h3,h4⟩:=Jo hj
 have hl:=r.length
 have hn:=ZB
 have I':Inv X pins σ (upd H p (.lst (xs.set j v))) { s with heap:=s.heap.update p (Obj.mapSeq (·.setIfInBounds j u)) } :=
  I.lstUpd hp ho (JG its n j u) (r.set rv j) (by rw [List.length_set];exact hz) s.toks
 by_cases h0:0≤k
 ·have hk:k.toNat=j:=by
   rw [seqIndex_of h0 h4] at h1
   exact AZ h1
  exact W.ki_setAt ho h0 (by omega) (by rw [AM,← hl];exact h4) (by rw [hk];exact ⟨_,I',q⟩)
 ·have hk:(k + (its.toArray.size:Int)).toNat=j:=by
   rw [seqIndex_neg (by omega) h3] at h1
   rw [AM,← hl]
   exact AZ h1
  exact W.ki_setBack ho (by omega) (by rw [AM,← hl];exact h3) (by omega) (by rw [hk];exact ⟨_,I',q⟩)
theorem YM:wu X (.builtin "len") (fun xs H Q => ∃ p ys,xs=[.ref p]∧(SqL X.K H p ys∨SqT X.K H p ys)∧Q (.int ys.length) H):=by
 intro pins s σ H xs us Q I r h
 obtain ⟨p,ys,rfl,hq,q⟩:=h
 obtain ⟨u,rfl,rx⟩:=ZR r
 cases rx
 have hn:=ZB
 rcases hq with hq |hq
 ·obtain ⟨its,r',pl,hz⟩:=I.list hq
  have hlen:=r'.length
  exact Calls.call_len_list pl.isList (by simp only [AM] <;> omega) ⟨.int ys.length,H,I.tok _,⟨s.toks + 1,by rw [AM,hlen]⟩,q⟩
 ·obtain ⟨its,r',pl,hz⟩:=I.tuple hq
  have hlen:=r'.length
  exact len_tuple pl (by simp only [AM] <;> omega) ⟨.int ys.length,H,I.tok _,⟨s.toks + 1,by rw [AM,hlen]⟩,q⟩
theorem yR:wu X (.type "tuple") (fun xs H Q => ∃ p ys,xs=[.ref p]∧((SqL X.K H p ys ∧ ∀ l,H l=none->Q (.ref l) (upd H l (.tup ys)))∨(SqT X.K H p ys∧Q (.ref p) H))):=by
 intro pins s σ H xs us Q I r h
 obtain ⟨p,ys,rfl,h⟩:=h
 obtain ⟨u,rfl,rx⟩:=ZR r
 cases rx
 rcases h with ⟨hq,q⟩ |⟨hq,q⟩
 ·obtain ⟨its,r',pl,hz⟩:=I.list hq
  have hlen:=r'.length
  refine call_tuple_list pl.isList (fun h' kp => ?_) (by simp only [AM] <;> omega)
  have I1:Inv X pins σ H { s with heap:=h' }:=I.kept (t':=s.toks) kp
  have I2:Inv X pins σ (upd H h'.objs.size (.tup ys)) { s with heap:=h'.push { cls := .type "tuple",data := .seq its.toArray } } :=
   I1.laid (t':=s.toks) (fun b o e=>AC _ e) (AL _) (show ObjOk X.prog X.w _ _ _ (.tup ys) from ⟨hz,its,r',IsTup.new _ _,_,AR _ rfl,rfl⟩)
  exact ⟨.ref h'.objs.size,_,I2,rfl,q _ (I1.hok.fresh (AL _))⟩
 ·obtain ⟨its,r',pl,hz⟩:=I.tuple hq
  exact call_tuple_same pl ⟨.ref p,H,I,rfl,q⟩
def tyV (K:W.Frag) (T:String) (x:V) (H:Hp):Prop:=match x with
 | .str _=>T = "str"
 | .int _=>T = "int"
 | .ref p=>(T = "list" ∧ ∃ xs,SqL K H p xs)∨(T = "tuple" ∧ ∃ o,K.lookup p=some o∧o.cls = .type "tuple" ∧ o.dict=none) ∨
   (T = "dict" ∧ ((∃ kvs,H p=some (.dK kvs)) ∨ ∃ kvs,H p=some (.dT kvs)))∨(T = "set" ∧ ∃ S n,H p=some (.set S n))
 |_=>False
theorem qEb {pins:List (Addr×Obj)} {σ:St} {H:Hp} {s:Shared} {T:String} {x:V} {v:Value} (I:Inv X pins σ H s) (r:RelV x v) (ty:tyV X.K T x H) :
  s.TypeIs v T ∧ ∀ a,v = .ref a -> ∃ ob,s.heap.get? a=some ob∧ob.dict=none:=by
 cases x with
 |str z =>
  obtain ⟨t,rfl⟩:=r
  cases (show T = "str" from ty)
  exact ⟨typeIs_str s z t,fun _ e=>nomatch e⟩
 |int i =>
  obtain ⟨t,rfl⟩:=r
  cases (show T = "int" from ty)
  exact ⟨typeIs_int s i t,fun _ e=>nomatch e⟩
 |ref p =>
  cases r
  rcases ty with ⟨rfl,xs,hq⟩ |⟨rfl,o,hk,hc,hd⟩ |⟨rfl,hk⟩ |⟨rfl,S,n,hk⟩
  ·obtain ⟨its,_,pl,_⟩:=I.list hq
   refine ⟨pl.isList.typeIs,fun a e => ?_⟩
   cases e
   obtain ⟨o,n,e,c,hd,_⟩:=pl
   exact ⟨o,e,hd⟩
  ·refine ⟨⟨o,I.kIn p o hk,hc⟩,fun a e => ?_⟩
   cases e
   exact ⟨o,I.kIn _ o hk,hd⟩
  ·have z:∃ o,s.heap.get? p=some o∧o.ExactDict:=by
    rcases hk with ⟨kvs,hk⟩ |⟨kvs,hk⟩
    ·obtain ⟨_,_,_,_,o,_,_,e,ex,_⟩:=I.hok p _ hk
     exact ⟨o,e,ex⟩
    ·obtain ⟨_,_,_,_,o,_,_,e,ex,_⟩:=I.hok p _ hk
     exact ⟨o,e,ex⟩
   obtain ⟨o,e,ex⟩:=z
   refine ⟨⟨o,e,ex.1⟩,fun a e2 => ?_⟩
   cases e2
   exact ⟨o,e,ex.2.1⟩
  ·obtain ⟨o,_,_,_,e,ex,_⟩:=I.hok p _ hk
   refine ⟨⟨o,e,ex.1⟩,fun a e2 => ?_⟩
   cases e2
   exact ⟨o,e,ex.2.1⟩
 |_=>exact False.elim ty
def tBM (K:W.Frag) (T:String) (r:V->List V->Hp->VK->Prop) (to:TE) (t:TA):TE:=fun σ H Q=>to σ H fun x H1=>tyV K T x H1∧t σ H1 fun xs H2=>r x xs H2 Q
variable {o e:Expr} {es:List Expr} {to:TE} {t:TA} {name:Str} {apos cpos:Pos} {T id:String} {r:V->List V->Hp->VK->Prop}
theorem qGO (pa:PlainAttrs T) (slot:Slot T name id) (hty:typeOf (.builtin id)=pure (.type "method_descriptor")) (hm:MtR X id r) (ho:PE X o to) (ha:PA X (e::es) t)
  (hbase:attributeBase o name X.env (eval o X.env)=eval o X.env:=by rfl)
  (hfew:((backTo cpos (starEach (e::es) X.env)).all (fun x => !x.1)&&(backToKw cpos (keywordEach [] X.env)).all (fun x=>x.1.isSome)
   && decide ((e::es).length + ([]:List Keyword).length + (if ([]:List Keyword).isEmpty then 0 else 1) < 30))=true:=by rfl)
  (hline:(apos.endLine==cpos.line)=true:=by rfl) (hs:starEach (e::es) X.env=(false,eval e X.env)::starEach es X.env:=by rfl) (hplain:(backTo cpos (starEach es X.env)).any (·.1)=false:=by rfl) :
  PE X (.Call (.Attribute o name apos) (e::es) [] cpos) (tBM X.K T r to t):=by
 intro pins s σ H Q I h
 refine wpAny_Call_method_late hbase hfew hline rfl (thn (ho pins s σ H _ I h) fun v s1 ⟨x,H1,I1,r1,ty,q1⟩ => ?_)
 obtain ⟨h1,h2⟩:=qEb I1 r1 ty
 refine ⟨T,id,pa,slot,hty,h1,h2,?_⟩
 have hA:=ha cpos pins s1 σ H1 _ I1 q1
 rw [hs] at hA ⊢
 refine Calls.callWith_builtin (by show (false || (backTo cpos (starEach es X.env)).any (·.1))=false;rw [hplain] <;> rfl) (Calls.evalArgs_plain ?_)
 exact thn hA fun us s2 ⟨vs,H2,I2,r2,q2⟩=>hm pins s2 σ H2 x vs v us Q I2 r1 r2 q2
end
end L2
namespace L2
open PySem PySem.Spec PyProof.Rows
def MtM (X:Cx) (id:String) (r:V->List V->Hp->VK->Prop):Prop :=
 ∀ (pins:List (Addr×Obj)) (s:Shared) (σ:St) (H:Hp) (x:V) (xs:List V) (v:Value) (us:List Value) (Q:VK),Inv X pins σ H s->RelV x v->Vals xs us->r x xs H Q ->
  wpAny (model X.prog X.w) X.A (call (.builtin id) (v::us)) (EP X pins σ Q) X.xe s
theorem Vals.one:∀ {x:V} {us:List Value},Vals [x] us -> ∃ u,us=[u]∧RelV x u
 |_,_,.cons r .nil=>⟨_,rfl,r⟩
section
variable {X:Cx} {pins:List (Addr×Obj)} {σ:St} {H:Hp} {s:Shared} {l b:Addr} {xs ys zs:List V}
theorem Inv.lset {its its':List Value} {n:Nat} {f:Array Value->Array Value} {t':Nat} (I:Inv X pins σ H s) (hH:H l=some (.lst xs))
  (e:s.heap.get? l=some { cls := .type "list",data := .seq its.toArray n }) (hf:f its.toArray=its'.toArray) (hv:Vals ys its') (hz:ys.length≤sizeLine) :
  Inv X pins σ (upd H l (.lst ys)) { s with heap:=s.heap.update l (Obj.mapSeq f),toks:=t' }:=by
 have q:=PySem.IsL.update e f
 rw [hf] at q
 refine I.write (x:=l) (e:=l) (by rw [hH];exact trivial) (.inl rfl) (fun b' u hb hu=>(AU s.heap (Obj.mapSeq f) (Ne.symm hb)).trans hu) ⟨_,q⟩ ?_
 exact ⟨hz,its',_,hv,q⟩
theorem Inv.lstM (I:Inv X pins σ H s) (hH:H l=some (.lst xs)):xs.length≤sizeLine ∧ ∃ (its:List Value) (n:Nat),Vals xs its∧xs.length=its.length∧s.heap.get? l=some { cls := .type "list",data := .seq its.toArray n }:=by
 obtain ⟨z,its,n,r,e⟩:=I.hok l _ hH
 exact ⟨z,its,n,r,r.length,e⟩
end
section
variable {X:Cx}
def qDG:V->List V->Hp->VK->Prop:=fun x vs H Q => ∃ l xs y,x = .ref l∧vs=[y]∧H l=some (.lst xs)∧xs.length < sizeLine∧Q .non (upd H l (.lst (xs++[y])))
theorem yw:MtM X "list.append" qDG:=by
 intro pins s σ H x vs v us Q I rx rv h
 obtain ⟨l,xs,y,rfl,rfl,hH,hz,q⟩:=h
 cases rx
 obtain ⟨u,rfl,ru⟩:=rv.one
 obtain ⟨z,its,n,r,hl,e⟩:=I.lstM hH
 refine call_meets F.slot_list_append ⟨_,e,rfl⟩ F.entry_list_append (F.args_list_append_2 _ _) (PySem.list_append l its.toArray n u (by rw [AM];omega)) ⟨e,?_⟩
 refine ⟨.non,_,I.lset (its':=its++[u]) hH e (by simp) (r.append (.cons ru .nil)) ?_,rfl,q⟩
 rw [Af,CA]
 omega
end
end L2
namespace Att
open PySem PySem.W PySem.Calls PyProof.Rows
theorem ZY {P:Params} {h:Heap}:∀ (ns:List Int) (vs:List Value),WellAll P h vs (ns.map WData.int)->IntsAre vs ns:=by
 intro ns
 induction ns with
 |nil =>
  intro vs w
  rw [B9] at w
  cases w
  exact .nil
 |cons n ns ih =>
  intro vs w
  rw [AN] at w
  cases w with
  |cons a b =>
   cases a
   exact .cons _ _ (ih _ b)
theorem qBC {l:OpenLaw} {n:Nat} (hn:l.most=some n) {P:Params} {h:Heap} {args:List WData} {vals:List Value}
  (hpre:l.row.toRowW.claim.pre args=true) (hwl:WellAll P h vals args) :
  ∃ a vs ns,vals=[Value.ref a]∧args=[WData.list (ns.map WData.int)]∧h.get? a=some { cls := .type "list",data := .seq vs.toArray }∧IntsAre vs ns∧ns.length≤n:=by
 have hsh:WShape.hasAll [] args [.list .int]=true:=(pre_splitW hpre).1
 have hc:l.pre.holds [] { args:=args }=true:=(pre_splitW hpre).2
 obtain ⟨d,r,rfl,h1,h2⟩:=hasAllW_cons hsh
 obtain rfl:=hasAllW_nil h2
 obtain ⟨xs,rfl,h3⟩:=hasW_list h1
 obtain ⟨ns,rfl⟩:=items_int h3
 have hlen:ns.length≤n:=by
  unfold OpenLaw.pre at hc
  have h4:(WTm.not (.lt (.lit (.int (n:Int))) (.len (.arg 0)))).holds [] { args:=[.list (ns.map .int)] }=true:=by
   have h4:=(holds_andW hc).1
   rw [hn] at h4
   exact h4
  have h5:=condW_of h4 (w_not (w_lt w_lit (w_len_list (w_arg rfl))))
  rw [AE] at h5
  refine Nat.le_of_not_lt fun q => ?_
  have q':(n:Int) < ((ns.length:Nat):Int):=by omega
  first
   |(rw [AV q'] at h5;exact absurd h5 (by decide))
   |(simp at h5;omega)
 cases hwl with
 |cons w1 w2 =>
  cases w2
  cases w1 with
  |list ho hall=>exact ⟨_,_,ns,rfl,rfl,ho,ZY ns _ hall,hlen⟩
theorem qAi (l:OpenLaw) (args:List WData):l.row.toRowW.claim.post args (.bool true) args=true :=
 postW_of (r:=l.row.toRowW) (X:=(true==true))
  (show WShape.has [] (.bool true) .bool=true by first |rfl |decide |simp [WShape.has,WShape.arms,WShape.armsAll])
  (show (WTm.eq .res (.lit (.bool true))).value [] { args:=args,res:=some (.bool true),after:=args }=some (.bool (true==true)) from w_eq_bool (w_res rfl) w_lit) rfl
end Att
namespace L2
open PySem PySem.Spec PyProof.Rows
theorem yy:∀ {vs:List Value} {ns:List Int},IntsAre vs ns->Vals (ns.map V.int) vs
 |_,_,.nil => .nil
 |_,_,.cons n t h => .cons ⟨t,rfl⟩ (yy h)
def qE1 (H:Hp):Prop := ∀ b,H b=none ∨ ∃ o xs,H b=some (.frz o (.lst xs))
theorem qBa {P:Program} {w:World} {K:W.Frag} {mg mb:Str->Option Value} {CX:CXT} {k:Nat} {fa a:Addr} {fd:FuncData} {x:Str} {sp:Sp} {s₁:Shared} {vs:List Value} {ns:List Int}
  (KX:K.In s₁.heap) (hns:s₁.heap.Ns mainGlobals mg) (hb:s₁.heap.Ns builtinsNs mb) (hbb:∀ x:Str,x ≠ "__name__" -> mb x=bootBuiltins x) (hlim:s₁.heap.NoLimit) (hg:s₁.gens = #[])
  (ha:s₁.heap.get? a=some { cls := .type "list",data := .seq vs.toArray }) (hi:IntsAre vs ns) (hl:ns.length≤sizeLine) (hr:Room k callerA)
  (F:∀ base:Heap,K.In base->base.Ns mainGlobals mg->FnOk P w K mg base CX k fa fd [x] sp) (hbind:∀ (s:Shared) (u:Value),BindsTo s fd ⟨[u],[]⟩ [(x,u)])
  (hsp:∀ H:Hp,qE1 H->SqL K H a (ns.map V.int)->sp [.ref a] H (fun v _=>v = .bl true) fun _ _ _=>False)
  (hCX:∀ H e s',CX [] H s₁ (fun _ _ _=>False) e s'->False) :
  codeAny (model P w) callerA (.call (.ref fa) ⟨[.ref a],[]⟩) (fun r s'=>r = .ok (.ret (.bool true))∧OldK s₁.heap s'.heap∧s'.os=s₁.os∧AllBare s'.gens) s₁:=by
 have rv:=yy hi
 have lenV:=hi.length
 -- from an abstract heap in which nothing but the script may be tracked
 have core:∀ H:Hp,qE1 H->SqL K H a (ns.map V.int)->HOk P w H s₁.heap->(∀ b,H b≠none->b=a)->(H a≠none->K.lookup a=none) ->
   codeAny (model P w) callerA (.call (.ref fa) ⟨[.ref a],[]⟩) (fun r s'=>r = .ok (.ret (.bool true))∧OldK s₁.heap s'.heap∧s'.os=s₁.os∧AllBare s'.gens) s₁:=by
  intro H hO hS hok hA hK
  have base_of:∀ {b:Addr} {o:Obj},s₁.heap.get? b=some o->H b=none->(YT s₁.heap H).get? b=some o:=fun e n=>qCu e n
  have noA:∀ {b:Addr} {o:Obj} {es:Array DictEntry} {ep:Nat},s₁.heap.get? b=some o->o.data = .dict es ep->H b=none:=fun {b o es ep} e d=>by
   cases q:H b with
   |none=>rfl
   |some u =>
    have e':b=a:=hA b (by rw [q];simp)
    subst e'
    rw [ha] at e;cases e
    have d':Data.seq vs.toArray _=Data.dict es ep:=d
    cases d'
  have nsK:∀ {b:Addr} {m:Str->Option Value},s₁.heap.Ns b m->(YT s₁.heap H).Ns b m:=fun {b m} ⟨o,es,ep,e,d,r⟩=>⟨o,es,ep,base_of e (noA e d),d,r⟩
  have hKb:K.In (YT s₁.heap H):=fun b o e=>base_of (KX b o e) (by
   cases q:H b with
   |none=>rfl
   |some u =>
    have e':b=a:=hA b (by rw [q];simp)
    subst e'
    rw [hK (by rw [q];simp)] at e;cases e)
  have hM:Mod K mg (YT s₁.heap H):=⟨hKb,nsK hns,⟨mb,nsK hb,hbb⟩,let ⟨mc,h1,h2⟩:=hlim;⟨mc,nsK h1,h2⟩⟩
  have e0:Env0 P w K mg (YT s₁.heap H) callerA [] s₁ H:=⟨rfl,hM,fun b o e=>qDr e,Nat.le_of_eq (qA5 _ _),trivial,fun b hb=>absurd (show b∈([]:List Addr) from hb) (by simp),hok,.of_eq hg,HndH.none rfl⟩
  refine codeAny_mono ((F _ hKb (nsK hns)).run callerA [] s₁ H ⟨[.ref a],[]⟩ [.ref a] [.ref a] _ _ hr e0 (hbind s₁ (.ref a)) (.cons rfl .nil) (hsp H hO hS)) fun r s' h => ?_
  cases r with
  |error e=>exact (hCX H e s' h).elim
  |ok fl =>
   cases fl with
   |next=>exact False.elim h
   |brk=>exact False.elim h
   |cont=>exact False.elim h
   |ret u =>
    obtain ⟨v,H',os,bare,un,hok',r',q⟩:=h
    have q':v = .bl true:=q
    subst q'
    obtain rfl:u=Value.bool true:=r'
    refine ⟨rfl,OldK.of_keep fun b o e => ?_,os,bare⟩
    cases q:H b with
    |none=>exact un.keep b o e q (by intro z;exact absurd (show b∈([]:List Addr) from z) (by simp)) (by simp)
    |some u =>
     rcases hO b with z |⟨ob,xs,z⟩
     ·rw [q] at z;cases z
     ·have z2:=un.frzs b ob _ z
      obtain ⟨e1,_⟩:=hok b _ z
      obtain ⟨e2,_⟩:=hok' b _ z2
      rw [e] at e1;cases e1
      exact e2
 cases hk:K.lookup a with
 |some o =>
  -- the script is one of the module's own objects
  have e:=KX a o hk
  rw [ha] at e
  cases e
  refine core (fun _=>none) (fun _ => .inl rfl) (.inr ⟨_,vs.toArray,_,hk,rfl,rfl,rfl,by rw [AM,lenV];exact hl,by simpa using rv⟩) (fun b u z=>by have z':(none:Option HO)=some u:=z;cases z') (fun b z=>absurd rfl z) fun z=>absurd rfl z
 |none =>
  refine core (fun b=>if b=a then some (.frz { cls := .type "list",data := .seq vs.toArray } (.lst (ns.map V.int))) else none) (fun b => ?_) (.inl (.inr ⟨{ cls := .type "list",data := .seq vs.toArray },AI rfl⟩)) (fun b u z => ?_) (fun b z => ?_) fun _=>hk
  ·by_cases hb:b=a
   ·exact .inr ⟨_,_,AI hb⟩
   ·exact .inl (AQ hb)
  ·by_cases hb:b=a
   ·have z':=(AI hb).symm.trans z
    cases z'
    subst hb
    exact ⟨ha,by rw [AE];exact hl,vs,_,rv,ha⟩
   ·have z':=(AQ hb).symm.trans z
    cases z'
  ·by_cases hb:b=a
   ·exact hb
   ·exact absurd (AQ hb) z
end L2
namespace L2
open PySem PySem.Spec PyProof.Rows
end L2
namespace L2
open PySem PySem.Spec PyProof.Rows
def qg (s:Stmt):Arguments:=match s with
 | .FunctionDef _ a _ _ _ _ _ _ _ _=>a
 |_=>{ posonlyargs:=[],args:=[],vararg:=none,kwonlyargs:=[],kw_defaults:=[],kwarg:=none,defaults:=[] }
def qd (s:Stmt):List Stmt:=match s with
 | .FunctionDef _ _ b _ _ _ _ _ _ _=>b
 |_=>[]
def qI (s:Stmt):Scope:=match s with
 | .FunctionDef _ _ _ _ _ _ sc _ _ _=>sc
 |_=>{ kind := .function,names:=[],isGenerator:=false,isCoroutine:=false }
abbrev E0:XK:=fun _ _ _=>False
structure Fun (K:W.Frag) (x qual:Str) (st:Stmt) (f:Addr) (fd:FuncData):Prop where
 ex:∃ (oc:Value) (od:Option Addr) (kV doc pm:Value) (an:Option Addr) (cdv ct:Value) (osl:Array (Option Value)),
  fd=W.fnOf x qual (qg st) (qd st) (qI st) .none kV doc pm an cdv ct∧K.lookup f=some ⟨oc,od,.func fd,osl⟩∧W.codeIn K cdv qual=true
 kp:W.keepIn K (.ref f)=true
section
variable {P:Program} {w:World} {K:W.Frag} {mg:Str->Option Value} {base:Heap}
theorem Fun.binds {x qual:Str} {st:Stmt} {f:Addr} {fd:FuncData} {ps:List Str} (F:Fun K x qual st f fd)
  (h:∀ (kV doc pm:Value) (an:Option Addr) (cdv ct:Value) (us:List Value),us.length=ps.length->bindArgs (W.fnOf x qual (qg st) (qd st) (qI st) .none kV doc pm an cdv ct) ⟨us,[]⟩=pure (ps.zip us)):Binds K fd ps []:=by
 obtain ⟨oc,od,kV,doc,pm,an,cdv,ct,osl,rfl,lk,hcd⟩:=F.ex
 exact .all (h kV doc pm an cdv ct)
theorem QI {x qual:Str} {st:Stmt} {f:Addr} {oc:Value} {od an:Option Addr} {osl:Array (Option Value)} {kV doc pm cdv ct:Value} (l:K.lookup f=some ⟨oc,od,.func (W.fnOf x qual (qg st) (qd st) (qI st) .none kV doc pm an cdv ct),osl⟩)
  (c:W.codeIn K cdv qual=true) (k:W.keepIn K (.ref f)=true):Fun K x qual st f (W.fnOf x qual (qg st) (qd st) (qI st) .none kV doc pm an cdv ct):=⟨⟨oc,od,kV,doc,pm,an,cdv,ct,osl,rfl,l,c⟩,k⟩
end
section
variable {X:Cx}
theorem pv (i:Nat) {x:Str} {pos:Pos} (hN:X.N[i]? = some x:=by rfl) (hv:Vis X.env.scope x:=by first |exact Or.inl rfl |exact Or.inr (Or.inl rfl) |exact Or.inr (Or.inr rfl)) (hd:(x==("__debug__":Str))=false:=by decide)
  (hcd:(x==("__classdict__":Str))=false:=by decide):PE X (.Name x pos) (qEy i):=qE3 hN hv hd hcd
end
theorem jw {A B:Prop} (h:B):if false=true then A else B:=by
 rw [AQ Bx]
 exact h
theorem JU {A B:Prop} (h:A):if true=true then A else B:=by
 rw [AI rfl]
 exact h
def Same (H H':Hp):Prop := ∀ b o,H b=some o->H' b=some o
theorem Same.refl (H:Hp):Same H H:=fun _ _ h=>h
end L2
end
section
namespace L2
open PySem PySem.Spec PyProof.Rows
section
variable {κ:Type} [DecidableEq κ]
def zg (kvs:List (κ×V)) (k:κ):Option V:=(kvs.find? fun kv=>decide (kv.1=k)).map (·.2)
theorem Y0 {p:κ×V} {r:List (κ×V)} {k:κ} (e:p.1=k):zg (p::r) k=some p.2:=by simp [zg,A4,e]
theorem jP {p:κ×V} {r:List (κ×V)} {k:κ} (e:¬ p.1=k):zg (p::r) k=zg r k:=by simp [zg,A4,e]
theorem RelO.isSome_eq {o:Option V} {u:Option Value} (r:RelO o u):o.isSome=u.isSome:=by
 cases o with
 |none=>cases u with
  |none=>rfl
  |some _=>exact (show False from r).elim
 |some _=>cases u with
  |none=>exact (show False from r).elim
  |some _=>rfl
theorem KV.val {kvs:List (κ×V)} {vs:List (κ×Value)} (r:KV kvs vs) (k:κ):RelO (zg kvs k) (valueAt vs k):=by
 unfold KV at r
 induction r with
 |nil=>exact True.intro
 | @cons p q ps qs h t ih =>
  obtain ⟨h1,h2⟩:=h
  by_cases e:p.1=k
  ·have e':q.1=k:=h1.symm.trans e
   have b:valueAt (q::qs) k=some q.2:=by simp [valueAt,A4,e']
   rw [Y0 e,b];exact h2
  ·have e':¬ q.1=k:=fun z=>e (h1.trans z)
   have b:valueAt (q::qs) k=valueAt qs k:=by simp [valueAt,A4,e']
   rw [jP e,b];exact ih
theorem KV.length {kvs:List (κ×V)} {vs:List (κ×Value)} (r:KV kvs vs):kvs.length=vs.length:=Paired.length r
end
theorem Ju {P:Program} {w:World} {k:Key} {u:Value} (r:RelV (kV k) u):(Qs P w).is k u=true:=by
 cases k with
 |inl i=>obtain ⟨t,e⟩:=(show ∃ t,u=Value.int i t from r);subst e;exact ja P w i t
 |inr x=>obtain ⟨t,e⟩:=(show ∃ t,u=Value.str x t from r);subst e;exact jc P w x t
theorem yv {P:Program} {w:World}:∀ {ks:List Key} {us:List Value},Vals (ks.map kV) us->ItemsAre (Qs P w) ks us
 |[],_,r=>by rw [B9] at r;cases r;exact .nil
 |k::ks,_,r=>by
  rw [AN] at r
  cases r with
  |cons h t=>exact .cons (Ju h) (yv t)
abbrev KT (H:Hp):List (List Key×V)->List (List Key×Addr×Value)->Prop:=Paired fun p q=>p.1=q.1∧H q.2.1=some (.tup (p.1.map kV))∧RelV p.2 q.2.2
theorem KT.val {H:Hp} {kvs:List (List Key×V)} {xs:List (List Key×Addr×Value)} (r:KT H kvs xs) (k:List Key):RelO (zg kvs k) ((atKey xs k).map (·.2)):=by
 induction r with
 |nil=>exact True.intro
 | @cons p q ps qs h t ih =>
  obtain ⟨h1,_,h2⟩:=h
  by_cases e:p.1=k
  ·have e':q.1=k:=h1.symm.trans e
   have b:atKey (q::qs) k=some q.2:=by simp [atKey,A4,e']
   rw [Y0 e,b];exact h2
  ·have e':¬ q.1=k:=fun z=>e (h1.trans z)
   have b:atKey (q::qs) k=atKey qs k:=by simp [atKey,A4,e']
   rw [jP e,b];exact ih
section
variable {P:Program} {w:World} {H:Hp} {h:Heap} {a:Addr}
theorem qEB {u:HO} (ok:HOk P w H h) (e:Rd H a u):ObjOk P w H h a u:=e.ok ok
theorem qCX {kvs:List (Key×V)} (ok:HOk P w H h) (e:Rd H a (.dK kvs)):kvs.length≤sizeLine∧(a==sysModules)=false ∧ ∃ vs,KV kvs vs∧h.DictOf (Qs P w) a vs :=
 show ObjOk P w H h a (.dK kvs) from qEB ok e
theorem JX {ks:List Key} (ok:HOk P w H h) (e:H a=some (.tup (ks.map kV))):(tupleKind (Qs P w)).is h ks a:=by
 obtain ⟨_,its,r,⟨o,h1,h2,n,h3⟩,_⟩:=(show ObjOk P w H h a (.tup (ks.map kV)) from ok a _ e)
 exact ⟨o,its.toArray,n,h1,h2,h3,by simpa using yv r⟩
theorem qCN {kvs:List (List Key×V)} (ok:HOk P w H h) (e:Rd H a (.dT kvs)):kvs.length≤sizeLine∧(a==sysModules)=false ∧
  ∃ xs,KT H kvs xs∧h.DictOfH (tupleKind (Qs P w)) a xs:=by
 obtain ⟨z,y,xs,r,o,es,ep,h1,h2,h3,h4,h5⟩:=(show ObjOk P w H h a (.dT kvs) from qEB ok e)
 refine ⟨z,y,xs,r,o,es,ep,h1,h2,h3,h4,fun x hx => ?_,h5⟩
 have all:∀ {l:List (List Key×V)} {m:List (List Key×Addr×Value)},KT H l m -> ∀ x∈m,(tupleKind (Qs P w)).is h x.1 x.2.1:=by
  intro l m q
  induction q with
  |nil=>intro x hx;exact nomatch hx
  | @cons p q ps qs hq t ih =>
   intro x hx
   rcases AH.mp hx with e |hx
   ·subst e
    exact JX ok (by rw [← hq.1];exact hq.2.1)
   ·exact ih x hx
 exact all r x hx
end
def qAS (H:Hp) (a:Addr) (y:V) (r:Option V):Prop :=
 (∃ kvs k,Rd H a (.dK kvs)∧y=kV k∧r=zg kvs k) ∨ ∃ kvs k b,Rd H a (.dT kvs)∧y = .ref b∧H b=some (.tup (k.map kV))∧r=zg kvs k
section
variable {X:Cx} {pins:List (Addr×Obj)} {σ:St} {H:Hp} {s:Shared} {a:Addr} {y v:V} {u r:Value} {o:Option V} {A:Around} {E:Value->Shared->Prop}
theorem Inv.big (I:Inv X pins σ H s):sysModules < s.heap.objs.size:=by
 have h:mainGlobals < s.heap.objs.size:=(I.mod.glob.keeps I.bk).lt
 exact B7 (by decide) h
theorem qAQ {Q:Value->Shared->Prop} (hu:A.units + 1 < cLine) (I:Inv X pins σ H s) (g:qAS H a y (some v)) (ry:RelV y u) (h:∀ w' s',Inv X pins σ H s'->RelV v w'->Q w' s') :
  wpAny (model X.prog X.w) A (getItem (.ref a) u) Q E s:=by
 rcases g with ⟨kvs,k,e,ey,l⟩ |⟨kvs,k,b,e,ey,eb,l⟩
 ·subst ey
  obtain ⟨z,hd,vs,rel,dd⟩:=qCX I.hok e
  obtain ⟨w',hw,rw'⟩:=RelO.some_of (v:=v) (o:=valueAt vs k) (by rw [l];exact rel.val k)
  exact wpAny_getItem_of (Ju ry) dd.mapOf hw (h w' _ (I.tok _) rw')
 ·subst ey
  cases (show u=Value.ref b from ry)
  obtain ⟨z,hd,xs,rel,dd⟩:=qCN I.hok e
  obtain ⟨w',hw,rw'⟩:=RelO.some_of (v:=v) (o:=(atKey xs k).map (·.2)) (by rw [l];exact rel.val k)
  obtain ⟨p,hp,hp2⟩:=Option.map_eq_some_iff.mp hw
  refine wpAny_getItem_heap (tupleKind_room_in1 hu) (JX I.hok eb) dd hp ?_
  rw [hp2]
  exact h w' _ (I.tok _) rw'
theorem qDL {Q:Value->Shared->Prop} (hu:A.units + 1 < cLine) (I:Inv X pins σ H s) (g:qAS H a y o) (ry:RelV y u) (h:∀ s',Inv X pins σ H s'->Q (.bool (!o.isSome)) s') :
  wpAny (model X.prog X.w) A (compareOp .NotIn u (.ref a)) Q E s:=by
 rcases g with ⟨kvs,k,e,ey,l⟩ |⟨kvs,k,b,e,ey,eb,l⟩
 ·subst ey
  obtain ⟨z,hd,vs,rel,dd⟩:=qCX I.hok e
  refine wpAny_notIn_of (Ju ry) hd dd.mapOf ?_
  rw [← (rel.val k).isSome_eq,← l]
  exact h _ (I.tok _)
 ·subst ey
  cases (show u=Value.ref b from ry)
  obtain ⟨z,hd,xs,rel,dd⟩:=qCN I.hok e
  refine wpAny_notIn_heap (tupleKind_room_in1 hu) (JX I.hok eb) hd dd ?_
  have q:=(rel.val k).isSome_eq
  rw [Option.isSome_map] at q
  rw [← q,← l]
  exact h _ (I.tok _)
end
def qE7 (i:Expr):Prop := ∀ ov iv,subscripted i false ov iv=operate [ov,iv] (getItem ov iv)
theorem qDn {prog:Program} {w:World} {A:Around} {E:Value->Shared->Prop} {s:Shared} {env:Env} {value slice:Expr} {pos:Pos} {T id:String} {Q:Value->Shared->Prop}
  (hl:typeLookup (.type T) "__getitem__" = pure (some (.builtin id))) (hs:qE7 slice)
  (h:wpAny (model prog w) A (eval value env) (fun o s₁=>wpAny (model prog w) A (eval slice env) (fun i s₂=>s₂.TypeIs o T∧wpAny (model prog w) A (getItem o i) Q E s₂) E s₁) E s) :
  wpAny (model prog w) A (eval (.Subscript value slice pos) env) Q E s:=by
 refine Subscript_ (BD h (fun o s₁ h₁=>BD h₁ (fun i s₂ h₂ => ?_) fun _ _ x=>x) fun _ _ x=>x)
 obtain ⟨hT,h₂⟩:=h₂
 unfold subscriptTail
 refine AA ?_
 rw [getitemInPython_of_ne hT.not_modules]
 refine AA (wpAny_specialOf hT hl ?_)
 have fin:wpAny (model prog w) A (subscripted slice false o i) (fun r s₃=>wpAny (model prog w) A (letTemporaryGo value o r >>= fun _=>pure r) Q E s₃) E s₂:=by
  rw [hs o i]
  exact wpAny_operating (BD h₂ (fun r s₃ h₃=>AA (wpAny_letTemporaryGo (AB h₃))) fun _ _ x=>x)
 first
  |exact AB (AA fin)
  |exact AA (AB (AA fin))
  |exact AA fin
theorem jo {X:Cx} {pins:List (Addr×Obj)} {σ:St} {H:Hp} {s:Shared} {a:Addr} {y:V} {o:Option V} (I:Inv X pins σ H s) (g:qAS H a y o):s.TypeIs (.ref a) "dict" := by
 rcases g with ⟨kvs,k,e,_,_⟩ |⟨kvs,k,b,e,_,_,_⟩
 ·obtain ⟨_,_,vs,_,dd⟩:=qCX I.hok e
  exact dd.typeIs
 ·obtain ⟨_,_,xs,_,dd⟩:=qCN I.hok e
  exact dd.typeIs
def qGN (td ty:TE):TE:=fun σ H Q=>td σ H fun x H1=>ty σ H1 fun y H2 => ∃ a v,x = .ref a∧qAS H2 a y (some v)∧Q v H2
def qDM (ty td:TE):TE:=fun σ H Q=>ty σ H fun y H1=>td σ H1 fun x H2 => ∃ a o,x = .ref a∧qAS H2 a y o∧Q (.bl (!o.isSome)) H2
section
variable {X:Cx} {o i e value:Expr} {pos pos' tpos:Pos} {td ty tv:TE}
theorem qC7 (hu:X.A.units + 1 < cLine) (ho:PE X o td) (hi:PE X i ty) (hs:qE7 i):PE X (.Subscript o i pos) (qGN td ty):=by
 intro pins s σ H Q I h
 refine qDn PySem.F.slot_dict_getitem.lookup hs (thn (ho pins s σ H _ I h) fun u s1 ⟨x,H1,I1,rx,q1⟩=>thn (hi pins s1 σ H1 _ I1 q1) fun iv s2 ⟨y,H2,I2,ry,a,v,ex,g,q2⟩ => ?_)
 subst ex
 obtain rfl:u=Value.ref a:=rx
 exact ⟨jo I2 g,qAQ hu I2 g ry fun w' s3 I3 rw'=>⟨v,H2,I3,rw',q2⟩⟩
theorem qBE (hu:X.A.units + 1 < cLine) (hi:PE X i ty) (ho:PE X o td):PC X .NotIn i o (qDM ty td):=by
 intro pins s σ H Q I h
 refine thn (hi pins s σ H _ I h) fun iv s1 ⟨y,H1,I1,ry,q1⟩=>thn (ho pins s1 σ H1 _ I1 q1) fun u s2 ⟨x,H2,I2,rx,a,ov,ex,g,q2⟩ => ?_
 subst ex
 obtain rfl:u=Value.ref a:=rx
 exact qDL hu I2 g ry fun s3 I3=>⟨.bl (!ov.isSome),H2,I3,rfl,q2⟩
end
theorem qB5 {P:Program} {w:World} {H:Hp} (h:Heap) (hb:sysModules < h.objs.size):ObjOk P w H (h.push { cls := .type "dict",data := .dict #[] }) h.objs.size (.dK []) :=
 ⟨BJ _,Bc.mpr (Ne.symm (AT hb)),[],.nil,Heap.DictOf.new h⟩
end L2
namespace L2
open PySem PySem.Spec PyProof.Rows
end L2
end
section
namespace EX
open PySem PySem.Spec PyProof.Rows
def Trc (h B:Heap) (e:Addr) (cls:Value) (dd:Option Addr) (fl:Value):Prop :=
 ∃ oe vs T oT ts,h.get? e=some oe∧oe.cls=cls∧oe.dict=dd∧oe.data = .fields vs∧vs[1]? = some (Value.ref T)∧vs[2]? = some Value.none∧B.get? T=none∧T≠e∧h.get? T=some oT∧oT.data = .fields ts∧ts[3]? = some fl
def Fly (B:Heap) (l:List Env) (e:Addr) (cls:Value) (dd:Option Addr) (fl:Value) (h:Heap):Prop:=B.StaysIn h∧B.get? e=none∧h.FunFrames B l∧Trc h B e cls dd fl
theorem Fly.tail {B h:Heap} {env:Env} {l:List Env} {e:Addr} {cls fl:Value} {dd:Option Addr} (x:Fly B (env::l) e cls dd fl h):Fly B l e cls dd fl h:=⟨x.1,x.2.1,x.2.2.1.2.2,x.2.2.2⟩
section
variable {M:Model} {A:Around} {E:Value->Shared->Prop} {s:Shared} {B:Heap} {env:Env} {outer:List Env} {L e:Addr} {cls:Value} {dd:Option Addr} {Q:Unit->Shared->Prop}
theorem qCL {oe:Obj} {vs:Array Value} {head:Value} {nx:Bool} (f1:A.frames=some (env::outer)) (f2:s.heap.FunFrames B (env::outer)) (f3:env.frame=some L) (k1:B.StaysIn s.heap) (k2:B.get? e=none)
  (g1:s.heap.get? e=some oe) (g2:oe.data = .fields vs) (g3:1 < vs.size) (g4:vs[2]? = some Value.none) (h:∀ h',Fly B (env::outer) e oe.cls oe.dict (rawInt L) h'->s.heap.UpToSlots h'->Q () { s with heap:=h' }) :
  wpAny M A (do let a ← frameOf env;let pl ← entryPlaceOf L nx;let b ← EntryCells.newEntry head a .none (rawInt L) .none pl;setField (.ref e) 1 b) Q E s:=by
 have nfr:e ∉ (env::outer).filterMap (·.frame):=fun hm=>by
  obtain ⟨_,o,ho,hnf⟩:=f2.mem hm
  rw [g1] at ho;cases ho;exact hnf vs g2
 refine AA (wpAny_frameOf_fun f1 f2 f3 fun h1 so=>AA (wpAny_entryPlaceOf fun pl hpl => ?_))
 unfold EntryCells.newEntry newFields
 refine AA (BB ?_ (hpl.sizeOk5 _ _ _ _ _))
 generalize hts:([head,Value.ref L,.none,rawInt L,.none]++(if pl.isEmpty then List.replicate 6 Value.none else pl)).toArray=ts
 have ht3:ts[3]? = some (rawInt L):=by rw [← hts];first |(simp;done) |(rcases hpl with rfl |⟨_,_,_,_,_,_,_,rfl⟩ <;> simp)
 have a1:h1.get? e=some oe:=(so.2.1 e nfr).trans g1
 have kb:B.StaysIn h1:=fun b o q=>(so.2.1 b fun hm=>by rw [(f2.mem hm).1] at q;cases q).trans (k1 b o q)
 have a2:=AC (h:=h1) { cls := .type "traceback",dict:=none,data := .fields ts } a1
 refine BP a2 g2 g3 (h _ ?_ ?_)
 ·have ne1:h1.objs.size≠e:=Nat.ne_of_gt (AJ a1)
  have d3:=A3 g2 (·.setIfInBounds 1 (Value.ref h1.objs.size))
  have a3:=Ap (Obj.mapFields (·.setIfInBounds 1 (Value.ref h1.objs.size))) a2 (Bk d3)
  have a4:=(AU (h1.push { cls := .type "traceback",dict:=none,data := .fields ts }) (Obj.mapFields (·.setIfInBounds 1 (Value.ref h1.objs.size))) (Ne.symm ne1)).trans (AR h1 rfl)
  have kp:∀ b o,b≠e->h1.get? b=some o->((h1.push { cls := .type "traceback",dict:=none,data := .fields ts }).update e (Obj.mapFields (·.setIfInBounds 1 (Value.ref h1.objs.size)))).get? b=some o:=fun b o hb q =>
   (AU _ _ (Ne.symm hb)).trans (AC _ q)
  refine ⟨fun b o q=>kp b o (fun z=>by rw [z,k2] at q;cases q) (kb b o q),k2,f2.of_keeps fun b o q nf => ?_,_,_,h1.objs.size,_,ts,a3,Obj.cls_mapFields _ _,?_,d3,?_,?_,kb.fresh,ne1,a4,rfl,ht3⟩
  ·obtain ⟨sl,q2⟩:=so.2.2 b o q
   exact ⟨_,kp b _ (fun z=>by rw [z,g1] at q;cases q;exact nf vs g2) q2,rfl⟩
  ·obtain ⟨c,d,dt,sl⟩:=oe
   have g2:dt = .fields vs:=g2
   subst g2;rfl
  ·simp [g3]
  ·rw [Array.getElem?_setIfInBounds_ne (by decide)];exact g4
 ·intro b o q nf
  have hb:b≠e:=fun z=>by rw [z,g1] at q;cases q;exact nf vs g2
  obtain ⟨sl,q2⟩:=so.2.2 b o q
  exact ⟨sl,(AU _ _ (Ne.symm hb)).trans (AC _ q2)⟩
theorem qAZ (f1:A.frames=some (env::outer)) (f3:env.frame=some L) (x:Fly B (env::outer) e cls dd .none s.heap) (h:∀ h',Fly B (env::outer) e cls dd (rawInt L) h'->s.heap.UpToSlots h'->Q () { s with heap:=h' }) :
  wpAny M A (noteFrame (.ref e) env) Q E s:=by
 obtain ⟨k1,k2,f2,oe,vs,T,oT,ts,g1,rfl,rfl,g2,g3,g4,t1,t2,t3,t4,t5⟩:=x
 unfold noteFrame
 simp only [f3]
 refine AA (BA g1 g2 g3 ?_)
 rw [AI (show (Value.ref T != Value.none)=true by simp)]
 refine AA (BA t3 t4 t5 ?_)
 rw [AQ (show ¬ ((Value.none==rawInt L)=true) by simp [rawInt])]
 refine AA (BP t3 t4 (Bo.mp t5).1 ?_)
 have ot:∀ b,b≠T->(s.heap.update T (Obj.mapFields (·.setIfInBounds 3 Value.none))).get? b=s.heap.get? b:=fun b hb=>AU _ _ (Ne.symm hb)
 have nr:∀ b o,s.heap.get? b=some o->(∀ us,o.data ≠ .fields us)->b≠T:=fun b o q nf z=>by rw [z,t3] at q;cases q;exact nf ts t4
 refine qCL f1 (f2.of_keeps fun b o q nf=>⟨o,(ot b (nr b o q nf)).trans q,rfl⟩) f3 (fun b o q=>(ot b fun z=>by rw [z,t1] at q;cases q).trans (k1 b o q)) k2 ((ot e (Ne.symm t2)).trans g1) g2 (Bo.mp g3).1 g4 fun h' x u=>h h' x fun b o q nf => ?_
 exact u b o ((ot b (nr b o q nf)).trans q) nf
theorem qGH {l:List Env} {fl:Value} (x:Fly B l e cls dd fl s.heap) (h:∀ h',Fly B l e cls dd .none h'->s.heap.UpToSlots h'->Q () { s with heap:=h' }):wpAny M A (setFlight (.ref e) none) Q E s:=by
 obtain ⟨k1,k2,f2,oe,vs,T,oT,ts,g1,g0,g00,g2,g3,g4,t1,t2,t3,t4,t5⟩:=x
 have t6:3 < ts.size:=(Bo.mp t5).1
 have ot:∀ b,b≠T->(s.heap.update T (Obj.mapFields (·.setIfInBounds 3 ((none:Option Addr).elim Value.none fun f=>rawInt f)))).get? b=s.heap.get? b:=fun b hb=>AU _ _ (Ne.symm hb)
 have nr:∀ b o,s.heap.get? b=some o->(∀ us,o.data ≠ .fields us)->b≠T:=fun b o q nf z=>by rw [z,t3] at q;cases q;exact nf ts t4
 unfold setFlight
 refine AA (BA g1 g2 g3 ?_)
 rw [AI (show (Value.ref T != Value.none)=true by simp)]
 refine BP t3 t4 t6 (h _ ⟨fun b o q=>(ot b fun z=>by rw [z,t1] at q;cases q).trans (k1 b o q),k2,f2.of_keeps fun b o q nf=>⟨o,(ot b (nr b o q nf)).trans q,rfl⟩,?_⟩ fun b o q nf=>⟨o.slots,(ot b (nr b o q nf)).trans q⟩)
 exact ⟨oe,vs,T,_,_,(ot e (Ne.symm t2)).trans g1,g0,g00,g2,g3,g4,t1,t2,Ap _ t3 (Bk (A3 t4 _)),A3 t4 _,by simp [t6]⟩
theorem jH (f1:A.frames=some (env::outer)) (f3:env.frame=some L) (x:Fly B (env::outer) e cls dd .none s.heap) (h:∀ h',Fly B outer e cls dd .none h'->s.heap.UpToSlots h'->Q () { s with heap:=h' }) :
  wpAny M A (leaving env (.ref e)) Q E s:=by
 unfold leaving
 exact AA (qAZ f1 f3 x fun h1 x1 u1=>qGH x1 fun h2 x2 u2=>h h2 x2.tail (u1.trans u2))
end
end EX
end
section
namespace EX
open PySem PySem.Spec PyProof.Rows L2
structure UnB (fs:List Addr) (H H1:Hp) (h B:Heap):Prop where
 keep:∀ b o,h.get? b=some o->H b=none->b ∉ fs->B.get? b=some o
 free:∀ b o,h.get? b=some o->H b=none->H1 b=none
 there:∀ b o,h.get? b=some o->b ∉ fs -> ∃ o',B.get? b=some o'
 tups:∀ b xs,H b=some (.tup xs)->H1 b=some (.tup xs)
 frzs:∀ b o u,H b=some (.frz o u)->H1 b=some (.frz o u)
 tbls:∀ b ps,H b=some (.tbl ps) -> ∃ more,H1 b=some (.tbl (ps++more))
def CXF (P:Program) (w:World):CXT:=fun outer H s E e s' =>
 ∃ ea cls dd B H1,e=Value.ref ea∧Fly B outer ea cls dd .none s'.heap∧HOk P w H1 B∧s'.os=s.os∧AllBare s'.gens∧UnB (frs outer) H H1 s.heap B ∧
  (∀ b∈frs outer,∀ o,s.heap.get? b=some o -> ∃ sl,s'.heap.get? b=some { o with slots:=sl })∧E cls dd H1
theorem qBp {env:Env} {outer:List Env} {L:Addr} (h:env.frame=some L):frs (env::outer)=L::frs outer:=by
 unfold frs;rw [BH,h]
section
variable {P:Program} {w:World} {K:W.Frag} {mg:Str->Option Value} {base:Heap} {N:List Str} {qual:Str} {scope:Scope} {f:Addr} {cd:Value} {A:Around} {outer:List Env} {s₀:Shared} {H₀:Hp} {E:XK}
theorem qT:z8 (CXF P w) (Wd (CXF P w) P w K mg base N qual scope f cd A outer s₀ H₀ E) E:=by
 intro pins σ H s e s' I c
 obtain ⟨ea,cls,dd,B,H1,rfl,fl,hok,os,bare,un,sl,q⟩:=c
 have hfr:(envOfC qual scope s₀.heap.objs.size f cd).frame=some s₀.heap.objs.size:=rfl
 have ef:frs (Wd (CXF P w) P w K mg base N qual scope f cd A outer s₀ H₀ E).stack=s₀.heap.objs.size::frs outer:=qBp hfr
 have Ib:Un (frs outer) [] H₀ H s₀.heap s.heap:=I.base
 have ne:∀ b o,s₀.heap.get? b=some o->b≠s₀.heap.objs.size:=fun b o e=>AT (AJ e)
 refine jH I.ok.frames hfr fl fun h' x u=>⟨ea,cls,dd,B,H1,rfl,x,hok,os.trans I.os,bare,?_,fun b hb o e => ?_,q⟩
 ·refine ⟨fun b o e n hb => ?_,fun b o e n => ?_,fun b o e hb => ?_,fun b xs e=>un.tups b xs (Ib.tups b xs e),fun b o u e=>un.frzs b o u (Ib.frzs b o u e),fun b ps e => ?_⟩
  ·exact un.keep b o (Ib.keep b o e n hb (by simp)) (Ib.free b o e n (by simp)) (by rw [ef];intro z;exact (AH.mp z).elim (ne b o e) hb)
  ·obtain ⟨o',e'⟩:=Ib.there b o e (by simp)
   exact un.free b o' e' (Ib.free b o e n (by simp))
  ·obtain ⟨o',e'⟩:=Ib.there b o e (by simp)
   exact un.there b o' e' (by rw [ef];intro z;exact (AH.mp z).elim (ne b o e) hb)
  ·obtain ⟨m1,e1⟩:=Ib.tbls b ps e
   obtain ⟨m2,e2⟩:=un.tbls b _ e1
   exact ⟨m1++m2,by rw [e2,Array.append_assoc]⟩
 ·obtain ⟨sl1,e1⟩:=Ib.slot b o e (I.ok.frf b hb) hb (by simp)
  obtain ⟨sl2,e2⟩:=sl b (by rw [ef];exact AG _ hb) _ e1
  have nf:∀ vs,o.data ≠ .fields vs:=by
   obtain ⟨_,o2,ho2,nf⟩:=I.ok.funs.mem hb
   have e:(Wd (CXF P w) P w K mg base N qual scope f cd A outer s₀ H₀ E).s₀.heap.get? b=some o:=e
   rw [e] at ho2;cases ho2;exact nf
  obtain ⟨sl3,e3⟩:=u b _ e2 nf
  exact ⟨sl3,e3⟩
end
section
variable {prog:Program} {w:World} {A:Around} {E:Value->Shared->Prop} {s:Shared} {K:W.Frag} {x D:Addr} {ox:Obj} {od:Option Obj}
structure ExcK (K:W.Frag) (D:Addr):Prop where
 ga:W.findIn K (.ref D) "__getattribute__" = some (some (.builtin "BaseException.__getattribute__"))
 gn:W.findIn K (.ref D) "__getattr__" = some none
 fo:∀ od,W.findObj K D od "__class__" = some (.bind (.builtin "getset_descriptor.__get__") (.builtin "object.__class__"))
 mo:W.mroIn K D (.type "object")=some true
 mb:W.mroIn K D (.type "BaseException")=some true
theorem qAz {Q:Option Value->Shared->Prop} (C:ExcK K D) (X:K.In s.heap) (I:W.InstAt s.heap x ox D od) (h:Q (some (.ref D)) { s with toks:=s.toks + 1 }):wpAny (model prog w) A (getAttr? (.ref x) "__class__") Q E s:=by
 obtain ⟨hh,g,d,t,os⟩:=s
 have L0:=I.type (M:=model prog w)
 have L1:=W.looks_findIn (M:=model prog w) X C.ga
 have L2:=W.looks_findIn (M:=model prog w) X C.gn
 have L3:=W.looks_find (M:=model prog w) X I (C.fo od)
 have L4:=W.looks_mroIn (M:=model prog w) X C.mb
 have LI:W.Looks (model prog w) hh (isInstance (.ref x) (.type "BaseException")) true:=L0.andThen L4
 have f3:=F.attr_ValueError.ga.bind (.ref x)
 unfold getAttr? getAttrBy? getAttrBy
 refine AA (wpAny_mkText (AA (Bv (Ai (AA (L0.at (AA (L1.at ?_))))))))
 show wpAny _ _ (getAttrByItsOwn _ _ _ _ _ _) _ _ _
 unfold getAttrByItsOwn
 refine AA (L2.at (AA (Bv (Ai ?_))))
 show wpAny _ _ (boundAndCalled _ _ _) _ _ _
 unfold boundAndCalled
 refine AA (Al f3 ?_)
 refine CQ (CB F.attr_ValueError.ga.plain F.entry_bexc_ga ?_)
 have hk:builtinKind "BaseException.__getattribute__" = some .slot:=by decide +kernel
 have hsp:splitId "BaseException.__getattribute__" = some ("BaseException","__getattribute__"):=by decide +kernel
 have ha:=F.args_bexc_ga (.ref x) (.str "__class__" t)
 simp only [checkBuiltinCall,hk,hsp]
 refine AA (LI.at ?_)
 rw [AQ (show ¬ ((!true)=true) by decide)]
 refine Al (a:=()) ha ?_
 show wpAny _ A.in1 (Builtin.«object.__getattribute__» ⟨[.ref x,.str "__class__" t],[]⟩) _ _ _
 unfold Builtin.«object.__getattribute__»
 refine AA (AB ?_)
 refine AA (AB ?_)
 refine AA (L0.at (AA (L3.at ?_)))
 show wpAny _ A.in1 (holding [Value.builtin "object.__class__"] (call (.builtin "getset_descriptor.__get__") [.builtin "object.__class__",.ref x,.ref D]) >>= ret) _ _ _
 refine AA (Ai (CQ (W.class_get X I C.mo ?_)))
 exact AB (AB (AB h))
end
section
variable {X:Cx} {pins:List (Addr×Obj)} {σ:L2.St} {H:Hp} {s:Shared} {xe:Value->Shared->Prop}
theorem got {P:Program} {w:World} {H:Hp} {h:Heap} {a:Addr} {o:HO} (x:ObjOk P w H h a o):∃ u,h.get? a=some u:=by
 cases o with
 |lst xs=>obtain ⟨_,_,_,_,e⟩:=x;exact ⟨_,e⟩
 |tup xs=>obtain ⟨_,_,_,⟨o,e,_⟩,_⟩:=x;exact ⟨_,e⟩
 |dK kvs=>obtain ⟨_,_,_,_,o,_,_,e,_⟩:=x;exact ⟨_,e⟩
 |dT kvs=>obtain ⟨_,_,_,_,o,_,_,e,_⟩:=x;exact ⟨_,e⟩
 |set S n=>obtain ⟨o,_,_,_,e,_⟩:=x;exact ⟨_,e⟩
 |ins C dx fs=>obtain ⟨_,_,_,e,_⟩:=x;exact ⟨_,e⟩
 |own y=>exact x
 |xd fs=>obtain ⟨_,⟨_,_,_,e,_⟩,_⟩:=x;exact ⟨_,e⟩
 |rng lo hi=>obtain ⟨_,_,_,e⟩:=x;exact ⟨_,e⟩
 |frz ob u=>obtain ⟨e,_⟩:=x;exact ⟨_,e⟩
 |tbl ps=>exact ⟨_,x⟩
 |met f y=>exact ⟨_,x⟩
 |ext φ=>obtain ⟨_,e,_⟩:=x;exact e
end
def zP (A:Around):List Addr:=match A.handled with
 |some (.ref ea)=>[ea]
 |_=>[]
theorem Hnd.frame {A:Around} {h h':Heap} (x:Hnd A h) (k:∀ b∈zP A,∀ o,h.get? b=some o->h'.get? b=some o):Hnd A h':=fun v hv=>by
 obtain ⟨ea,oe,vs,e1,e2,e3⟩:=x v hv
 subst e1
 exact ⟨ea,oe,vs,rfl,k ea (by unfold zP;rw [hv];simp) oe e2,e3⟩
theorem qEF {A:Around} {I:Addr} (hI:∀ ea∈zP A,ea≠I):∀ v,A.handled=some v->v ≠ .ref I:=fun v hv z=>by
 subst z
 exact hI I (by unfold zP;rw [hv];simp) rfl
theorem ju {prog:Program} {w:World} {A:Around} (I ax:Addr) (hne:ax≠I) (items:Array Value) (hI:∀ ea∈zP A,ea≠I) :
  Walks prog w A I (I::ax::zP A) [I] items.size (fun i v=>items[i]? = some v) (fun i h=>(h.IsListIter I ax i∧h.IsList ax items)∧Hnd A h) where
 sub:=fun b hb=>by simp at hb;simp [hb]
 frame:=fun _ _ _ st hk=>⟨⟨st.1.1.at fun o e=>hk I (by simp) o e,st.1.2.at fun o e=>hk ax (by simp) o e⟩,st.2.frame fun b hb o e=>hk b (by simp [hb]) o e⟩
 item:=fun i s Q E hi st hQ=>wpAny_pyNext_list_item st.1.1 st.1.2 (x:=items[i]) (by simp [hi]) fun h' z1 z2 =>
  hQ _ h' s.toks (by simp [hi]) ⟨⟨z1,st.1.2.extBut z2.extBut hne⟩,st.2.frame fun b hb o e=>(z2.2 b (hI b hb)).trans e⟩ fun b o hb e=>z2.extBut b o (fun h=>hb (by simp [h])) e
 done:=fun s Q E st hQ=>list_end st.2 st.1.1 st.1.2 (by simp) (qEF hI) fun h' z=>hQ h' s.toks fun b o hb e=>z b o (fun h=>hb (by simp [h])) e
 self:=fun _ _ _ _ st hQ=>wpAny_pyIter_listiter st.1.1 hQ
theorem jh {prog:Program} {w:World} {A:Around} (I ax:Addr) (hne:ax≠I) (items:Array Value) (hI:∀ ea∈zP A,ea≠I) :
  Walks prog w A I (I::ax::zP A) [I] items.size (fun i v=>items[i]? = some v) (fun i h=>(h.IsTupleIter I ax i∧h.IsTuple ax items)∧Hnd A h) where
 sub:=fun b hb=>by simp at hb;simp [hb]
 frame:=fun _ _ _ st hk=>⟨⟨st.1.1.at fun o e=>hk I (by simp) o e,st.1.2.at fun o e=>hk ax (by simp) o e⟩,st.2.frame fun b hb o e=>hk b (by simp [hb]) o e⟩
 item:=fun i s Q E hi st hQ=>wpAny_pyNext_tuple_item st.1.1 st.1.2 (x:=items[i]) (by simp [hi]) fun h' z1 z2 =>
  hQ _ h' s.toks (by simp [hi]) ⟨⟨z1,st.1.2.extBut z2.extBut hne⟩,st.2.frame fun b hb o e=>(z2.2 b (hI b hb)).trans e⟩ fun b o hb e=>z2.extBut b o (fun h=>hb (by simp [h])) e
 done:=fun s Q E st hQ=>tuple_end st.2 st.1.1 st.1.2 (by simp) (qEF hI) fun h' z=>hQ h' s.toks fun b o hb e=>z b o (fun h=>hb (by simp [h])) e
 self:=fun _ _ _ _ st hQ=>wpAny_pyIter_tupleiter st.1.1 hQ
section
variable {X:Cx} {pins:List (Addr×Obj)} {σ:L2.St} {H:Hp} {s:Shared}
theorem qEO (I:L2.Inv X pins σ H s):∀ ea∈zP X.A,ea≠s.heap.objs.size:=fun ea hea=>by
 have hd:X.A.handled=some (.ref ea):=by
  unfold zP at hea
  split at hea
  ·rename_i a ha;rw [AW.mp hea];exact ha
  ·cases hea
 obtain ⟨a,oe,vs,e1,e2,_⟩:=I.hndH _ hd
 cases e1
 exact AT (AJ e2)
theorem zE (I:L2.Inv X pins σ H s) {p:Addr} {its:List Value} (pl:PlainL s.heap p its.toArray) {E:Value->Shared->Prop} {Q:Value->Shared->Prop}
  (h:Walks X.prog X.w X.A.in1 s.heap.objs.size (s.heap.objs.size::p::zP X.A) [s.heap.objs.size] its.toArray.size (fun i v=>its.toArray[i]? = some v) (fun i h=>(h.IsListIter s.heap.objs.size p i∧h.IsList p its.toArray)∧Hnd X.A.in1 h) ->
   ((s.heap.push { cls := .type "list_iterator",data := .fields #[.ref p,.int 0 0] }).IsListIter s.heap.objs.size p 0∧(s.heap.push { cls := .type "list_iterator",data := .fields #[.ref p,.int 0 0] }).IsList p its.toArray)∧Hnd X.A.in1 (s.heap.push { cls := .type "list_iterator",data := .fields #[.ref p,.int 0 0] }) ->
   (∀ b∈s.heap.objs.size::p::zP X.A,b < (s.heap.push { cls := .type "list_iterator",data := .fields #[.ref p,.int 0 0] }).objs.size) ->
   (∀ h':Heap,(∀ b o,b ∉ [s.heap.objs.size]->(s.heap.push { cls := .type "list_iterator",data := .fields #[.ref p,.int 0 0] }).get? b=some o->h'.get? b=some o) -> ∀ b o,s.heap.get? b=some o->h'.get? b=some o) ->
   Q (.ref s.heap.objs.size) { s with heap:=s.heap.push { cls := .type "list_iterator",data := .fields #[.ref p,.int 0 0] } }) :
  wpAny (model X.prog X.w) X.A.in1 (pyIter (.ref p)) Q E s:=by
 obtain ⟨ob,po,_⟩:=id pl.isList
 have hlt:p < s.heap.objs.size:=AJ po
 refine wpAny_pyIter_list pl.isList (h (ju _ p (AT hlt) _ (qEO I)) ⟨⟨⟨_,AR _ rfl,rfl,rfl⟩,pl.isList.at fun o e=>AC _ e⟩,?_⟩ (fun b hb => ?_) fun h' k b o e => ?_)
 ·exact Hnd.frame (show Hnd X.A.in1 s.heap from I.hndH) fun b _ o e=>AC _ e
 ·rw [BR]
  rcases AH.mp hb with rfl |hb
  ·exact CC _
  ·rcases AH.mp hb with rfl |hb
   ·exact At hlt
   ·have hd:X.A.handled=some (.ref b):=by
     unfold zP at hb
     split at hb
     ·rename_i a ha;rw [AW.mp hb];exact ha
     ·cases hb
    obtain ⟨a,oe,vs,e1,e2,_⟩:=I.hndH _ hd
    cases e1
    exact At (AJ e2)
 ·exact k b o (by simp;exact AT (AJ e)) (AC _ e)
theorem YE:∀ {bs:List Bool} {us:List Value},Vals (bs.map V.bl) us->us=bs.map Value.bool
 |[],_,.nil=>rfl
 |b::bs,_,.cons r t=>by rw [show _=Value.bool b from r,YE t];rfl
theorem zC:∀ {ns:List Int} {us:List Value} {i:Nat} {v:Value},Vals (ns.map V.int) us->us[i]? = some v -> ∃ t,v=Value.int (ns.getD i 0) t
 |[],_,_,_,.nil,e=>by simp at e
 |n::ns,_,0,_,.cons r t,e=>by simp at e;subst e;exact r
 |n::ns,_,i + 1,v,.cons r t,e=>by simpa using zC (i:=i) t (by simpa using e)
theorem jq {prog:Program} {w:World} {A:Around} {bs:List Bool}:TruthOf prog w A (fun i v=>(bs.map Value.bool).toArray[i]? = some v) (fun i=>bs.getD i false):=fun i v s Q E hP hQ=>by
 have hP:(bs.map Value.bool).toArray[i]? = some v:=hP
 rw [List.getElem?_toArray,Ah] at hP
 cases e:bs[i]? with
 |none=>rw [e] at hP;cases hP
 |some b =>
  rw [e] at hP;cases hP
  have hQ:Q (bs.getD i false) s:=hQ
  rw [AF,e] at hQ
  exact AB hQ
theorem qA6 (bs:List Bool):(List.range bs.length).all (fun i=>bs.getD i false)=bs.all id:=by
 induction bs with
 |nil=>rfl
 |cons b bs ih =>
  rw [AO,Bh,List.all_cons,List.all_map,List.all_cons]
  have:(((fun i=>(b::bs).getD i false) ∘ Nat.succ))=fun i=>bs.getD i false:=by funext i;simp
  rw [this,ih];simp
theorem qBA (bs:List Bool):(List.range bs.length).any (fun i=>bs.getD i false)=bs.any id:=by
 induction bs with
 |nil=>rfl
 |cons b bs ih =>
  rw [AO,Bh,List.any_cons,List.any_map,List.any_cons]
  have:(((fun i=>(b::bs).getD i false) ∘ Nat.succ))=fun i=>bs.getD i false:=by funext i;simp
  rw [this,ih];simp
theorem qAV:wu X (.builtin "all") (fun xs H Q => ∃ (p:Addr) (bs:List Bool),xs=[.ref p]∧SqL X.K H p (bs.map V.bl)∧Q (.bl (bs.all id)) H):=by
 intro pins s σ H xs us Q I r h
 obtain ⟨p,bs,rfl,hq,q⟩:=h
 obtain ⟨u,rfl,rx⟩:=ZR r
 cases rx
 obtain ⟨its,r',pl,hz⟩:=I.list hq
 have e:=YE r'
 subst e
 refine call_all_walk (zE I pl fun W st fp k=>⟨_,_,_,_,_,_,_,rfl,W,st,jq,fun h' tk hk => ?_⟩)
 rw [show (bs.map Value.bool).toArray.size=bs.length by simp,qA6]
 exact ⟨.bl _,H,I.kept (k h' hk),rfl,q⟩
theorem qAX:wu X (.builtin "any") (fun xs H Q => ∃ (p:Addr) (bs:List Bool),xs=[.ref p]∧SqL X.K H p (bs.map V.bl)∧Q (.bl (bs.any id)) H):=by
 intro pins s σ H xs us Q I r h
 obtain ⟨p,bs,rfl,hq,q⟩:=h
 obtain ⟨u,rfl,rx⟩:=ZR r
 cases rx
 obtain ⟨its,r',pl,hz⟩:=I.list hq
 have e:=YE r'
 subst e
 refine call_any_walk (zE I pl fun W st fp k=>⟨_,_,_,_,_,_,_,rfl,W,st,jq,fun h' tk hk => ?_⟩)
 rw [show (bs.map Value.bool).toArray.size=bs.length by simp,qBA]
 exact ⟨.bl _,H,I.kept (k h' hk),rfl,q⟩
theorem W8 (ns:List Int):∀ k,k≤ns.length->preSum (fun i=>ns.getD i 0) k=(ns.take k).sum
 |0,_=>by simp [preSum]
 |k + 1,h=>by
  have hk:k < ns.length:=h
  rw [preSum,W8 ns k (CN hk),BN hk,List.sum_append]
  simp [AF,hk]
theorem qAk:wu X (.builtin "sum") (fun xs H Q => ∃ (p:Addr) (ns:List Int),xs=[.ref p]∧SqL X.K H p (ns.map V.int)∧Q (.int ns.sum) H):=by
 intro pins s σ H xs us Q I r h
 obtain ⟨p,ns,rfl,hq,q⟩:=h
 obtain ⟨u,rfl,rx⟩:=ZR r
 cases rx
 obtain ⟨its,r',pl,hz⟩:=I.list hq
 have hl:=r'.length
 refine call_sum_walkAnyS (zE I pl fun W st fp k=>⟨_,_,_,_,_,_,_,fun i=>ns.getD i 0,rfl,W.toS,st,fp,fun i v hv=>zC r' (by simpa using hv),fun s' t' m => ?_⟩)
 have hsz:its.toArray.size=ns.length:=by rw [AM,← hl,AE]
 rw [hsz,W8 ns _ (AL _),CD]
 obtain ⟨hh,g,d,t,o⟩:=s'
 have g1:g=s.gens:=m.gens
 have d1:d=s.drawn:=m.drawn
 have o1:o=s.os:=m.os
 subst g1;subst d1;subst o1
 exact ⟨.int _,H,I.kept (k hh fun b o hb e=>m.heap b o hb e),⟨t',rfl⟩,q⟩
end
theorem qCG {K:W.Frag} {x D:Addr} (C:ExcK K D):W.KitX K (.ref x) (.ref D) (fun h => ∃ ox od,W.InstAt h x ox D od):=by
 obtain ⟨cd,hcd,_⟩:=Option.bind_eq_some_iff.mp (C.fo none)
 unfold W.clsIn at hcd
 split at hcd
 ·rename_i c' d' cd' sl' ho
  refine ⟨fun _ _ _ ⟨ox,od,I⟩=>I.type,fun M h X p => ?_,fun h tp dd its n sl X htp => ?_,fun {prog w A E Q s} X ⟨ox,od,I⟩ k=>qAz C X I k⟩
  ·intro A' Q' E' s' k q
   unfold isType loadHead
   exact AA (wpAny_loadPart (k _ _ (X _ _ ho)) (AB q))
  ·refine Bool.eq_false_iff.mpr fun q => ?_
   have e:D=tp:=Value.ref.inj (beq_iff_eq.mp q)
   subst e
   have z:=(X _ _ ho).symm.trans htp
   cases z
 ·cases hcd
end EX
end
section
namespace EV
open PySem PySem.Spec PyProof.Rows L2
inductive PV where
 |non |bl (b:Bool) |int (i:Int) |str (x:Str) |tup (l:List PV) |lst (l:List PV) |ref (i:Nat) |dct |ty (n:String) |fn (a:Addr) |exc (c:Addr) (fs:List (Str×Int))
inductive SO where
 |l (xs:List PV)
 |d (kvs:List (List L2.Key×PV))
 |z (kvs:List (List L2.Key×PV))
 |k (kvs:List (L2.Key×PV))
 |y (kvs:List (L2.Key×PV))
 |o (C:Addr) (fs:List (Str×PV))
abbrev qB:=List SO
structure Exc where
 cls:Addr
 fs:List (Str×Int)
inductive Rs (α:Type) where
 |ok (a:α) (st:qB) |ex (x:Exc) (st:qB) |no
def Rs.bind {α β:Type} (r:Rs α) (k:α->qB->Rs β):Rs β:=match r with
 | .ok a st=>k a st
 | .ex x st => .ex x st
 | .no => .no
abbrev qo:=List (Option PV)
abbrev FE:=qo->qB->Rs PV
abbrev FA:=qo->qB->Rs (List PV)
abbrev FT:=qo->qB->Rs Bool
inductive RS where
 |nx (e:qo) (st:qB) |rt (v:PV) (st:qB) |bk (e:qo) (st:qB) |ct (e:qo) (st:qB) |ex (x:Exc) (st:qB) |no
abbrev FS:=qo->qB->RS
structure Bz where
 b:List Addr
 z:List Addr
def Bz.out (b:Bz) (a:Addr):Prop:=a ∉ b.b∧a ∉ b.z
def KL (K:W.Frag) (a:Addr) (xs:List V):Prop :=
 ∃ (o:Obj) (its:Array Value) (n:Nat),K.lookup a=some o∧o.cls = .type "list" ∧ o.dict=none∧o.data = .seq its n∧its.size≤sizeLine∧Vals xs its.toList
def KT0 (K:W.Frag) (a:Addr) (xs:List V):Prop :=
 ∃ (o:Obj) (its:Array Value) (n:Nat),K.lookup a=some o∧o.cls = .type "tuple" ∧ o.data = .seq its n∧its.size≤sizeLine∧Vals xs its.toList
def KT (K:W.Frag) (a:Addr) (xs:List V):Prop:=KT0 K a xs∧False
def LA (K:W.Frag) (H:Hp) (b:Bz) (a:Addr) (xs:List V):Prop:=(Rd H a (.lst xs)∧b.out a)∨KL K a xs
def TA' (K:W.Frag) (H:Hp) (b:Bz) (a:Addr) (xs:List V):Prop:=(H a=some (.tup xs)∧b.out a)∨KT K a xs
mutual
def RV (K:W.Frag) (H:Hp) (b:Bz):PV->V->Prop
 | .non,v=>v = .non
 | .bl x,v=>v = .bl x
 | .int i,v=>v = .int i
 | .str x,v=>v = .str x
 | .tup l,v => ∃ a xs,v = .ref a∧TA' K H b a xs∧RVs K H b l xs
 | .lst l,v => ∃ a xs,v = .ref a∧LA K H b a xs∧RVs K H b l xs
 | .ref i,v => ∃ a,v = .ref a∧b.b[i]? = some a
 | .dct,v => ∃ a,v = .ref a∧H a=some (.dK [])∧b.out a
 | .ty n,v=>v = .ty n
 | .fn a,v=>v = .ref a
 | .exc c fs,v => ∃ a o u,v = .ref a∧H a=some (.frz o u)∧b.out a∧o.cls = .ref c∧(∃ vs,o.data = .fields vs)∧((fs=[]∧o.dict=none) ∨ ∃ d,o.dict=some d∧H d=some (.xd (fs.map fun p=>(p.1,V.int p.2)))∧b.out d)
def RVs (K:W.Frag) (H:Hp) (b:Bz):List PV->List V->Prop
 |[],xs=>xs=[]
 |p::ps,xs => ∃ x r,xs=x::r∧RV K H b p x∧RVs K H b ps r
end
def SOk (K:W.Frag) (H:Hp) (b:Bz):SO->HO->Prop
 | .l xs,o => ∃ vs,o = .lst vs∧RVs K H b xs vs
 | .d kvs,o => ∃ vs,o = .dT vs∧kvs.map (·.1)=vs.map (·.1)∧RVs K H b (kvs.map (·.2)) (vs.map (·.2))
 | .z kvs,o => ∃ od vs,o = .frz od (.dT vs)∧kvs.map (·.1)=vs.map (·.1)∧RVs K H b (kvs.map (·.2)) (vs.map (·.2))
 | .k kvs,o => ∃ vs,o = .dK vs∧kvs.map (·.1)=vs.map (·.1)∧RVs K H b (kvs.map (·.2)) (vs.map (·.2))
 | .y kvs,o => ∃ od vs,o = .frz od (.dK vs)∧kvs.map (·.1)=vs.map (·.1)∧RVs K H b (kvs.map (·.2)) (vs.map (·.2))
 | .o C fs,o => ∃ dx vs,o = .ins C dx vs∧fs.map (·.1)=vs.map (·.1)∧RVs K H b (fs.map (·.2)) (vs.map (·.2))
structure SR (K:W.Frag) (H:Hp) (b:Bz) (st:qB):Prop where
 len:b.b.length=st.length
 nd:b.b.Nodup
 at_:∀ (i:Nat) (x:SO),st[i]? = some x -> ∃ a o,b.b[i]? = some a∧H a=some o∧SOk K H b x o
 zo:∀ a∈b.z,∃ xs,H a=some (.lst xs)
 zb:∀ a∈b.z,a ∉ b.b
structure WE (H:Hp) (b:Bz) (H':Hp) (b':Bz):Prop where
 more:∃ n,b'.b=b.b++n ∧ ∀ a∈n,H a=none
 zm:∃ y,b'.z=y++b.z ∧ ∀ a∈y,H a=none
 keep:∀ a o,H a=some o->b.out a->H' a=some o
 dom:∀ a o,H a=some o -> ∃ o',H' a=some o'
theorem WE.refl (H:Hp) (b:Bz):WE H b H b:=⟨⟨[],by simp,by simp⟩,⟨[],rfl,by simp⟩,fun _ _ h _=>h,fun _ o h=>⟨o,h⟩⟩
theorem WE.none_of {H H':Hp} {b b':Bz} (e:WE H b H' b') {a:Addr} (h:H' a=none):H a=none:=by
 cases q:H a with
 |none=>rfl
 |some o=>obtain ⟨o',e'⟩:=e.dom a o q;rw [h] at e';cases e'
theorem WE.not_in {H H':Hp} {b b':Bz} (e:WE H b H' b') {a:Addr} {o:HO} (h:H a=some o) (hn:b.out a):b'.out a:=by
 obtain ⟨n,hb,hh⟩:=e.more
 obtain ⟨y,hz,hy⟩:=e.zm
 refine ⟨fun hm => ?_,fun hm => ?_⟩
 ·rw [hb] at hm
  rcases A1.mp hm with hm |hm
  ·exact hn.1 hm
  ·rw [hh a hm] at h;cases h
 ·rw [hz] at hm
  rcases A1.mp hm with hm |hm
  ·rw [hy a hm] at h;cases h
  ·exact hn.2 hm
theorem WE.trans {H H1 H2:Hp} {b b1 b2:Bz} (e:WE H b H1 b1) (f:WE H1 b1 H2 b2):WE H b H2 b2:=by
 obtain ⟨n,hn,hh⟩:=e.more
 obtain ⟨m,hm,hk⟩:=f.more
 obtain ⟨y,hz,hy⟩:=e.zm
 obtain ⟨x,hx,hw⟩:=f.zm
 refine ⟨⟨n++m,by rw [hm,hn,Ba],fun a ha => ?_⟩,⟨x++y,by rw [hx,hz,Ba],fun a ha => ?_⟩,fun a o h hb=>f.keep a o (e.keep a o h hb) (e.not_in h hb),fun a o h => ?_⟩
 ·rcases A1.mp ha with ha |ha
  ·exact hh a ha
  ·exact e.none_of (hk a ha)
 ·rcases A1.mp ha with ha |ha
  ·exact e.none_of (hw a ha)
  ·exact hy a ha
 ·obtain ⟨o',h'⟩:=e.dom a o h
  exact f.dom a o' h'
theorem WE.ix {H H':Hp} {b b':Bz} (e:WE H b H' b') {i:Nat} {a:Addr} (h:b.b[i]? = some a):b'.b[i]? = some a:=by
 obtain ⟨n,hb,_⟩:=e.more
 have hi:i < b.b.length:=(Aa.mp h).1
 rw [hb,Ac hi];exact h
theorem WE.new {H:Hp} {b:Bz} {p:Addr} {o:HO} (h:H p=none):WE H b (upd H p o) b :=
 ⟨⟨[],by simp,by simp⟩,⟨[],rfl,by simp⟩,fun a u e _=>by rw [qQ (qL e h)];exact e,fun a u e=>⟨u,by rw [qQ (qL e h)];exact e⟩⟩
theorem WE.hide {H:Hp} {b:Bz} {p:Addr} {o:HO} (h:H p=none):WE H b (upd H p o) ⟨b.b,p::b.z⟩ :=
 ⟨⟨[],by simp,by simp⟩,⟨[p],rfl,fun a ha=>by rw [AW.mp ha];exact h⟩,fun a u e _=>by rw [qQ (qL e h)];exact e,fun a u e=>⟨u,by rw [qQ (qL e h)];exact e⟩⟩
theorem WE.wr {H:Hp} {b:Bz} {p:Addr} {o:HO} (h:p∈b.b∨p∈b.z):WE H b (upd H p o) b :=
 ⟨⟨[],by simp,by simp⟩,⟨[],rfl,by simp⟩,fun a u e hb=>by rw [qQ (fun z=>h.elim (fun q=>hb.1 (by rw [z];exact q)) fun q=>hb.2 (by rw [z];exact q))];exact e,fun a u e=>by
  by_cases hz:a=p
  ·exact ⟨o,by rw [hz];exact Qa⟩
  ·exact ⟨u,by rw [qQ hz];exact e⟩⟩
theorem Rd.some_of {H:Hp} {a:Addr} {u:HO} (h:Rd H a u):∃ o,H a=some o:=h.elim (fun h=>⟨_,h⟩) fun ⟨_,h⟩=>⟨_,h⟩
theorem Rd.wext {H H':Hp} {b b':Bz} {a:Addr} {u:HO} (e:WE H b H' b') (h:Rd H a u∧b.out a):Rd H' a u∧b'.out a:=by
 obtain ⟨o,ho⟩:=Rd.some_of h.1
 refine ⟨?_,e.not_in ho h.2⟩
 rcases h.1 with q |⟨o',q⟩
 ·exact .inl (e.keep _ _ q h.2)
 ·exact .inr ⟨o',e.keep _ _ q h.2⟩
theorem LA.wext {K:W.Frag} {H H':Hp} {b b':Bz} {a:Addr} {xs:List V} (e:WE H b H' b') (h:LA K H b a xs):LA K H' b' a xs:=h.elim (fun h => .inl (Rd.wext e h)) .inr
theorem TA'.wext {K:W.Frag} {H H':Hp} {b b':Bz} {a:Addr} {xs:List V} (e:WE H b H' b') (h:TA' K H b a xs):TA' K H' b' a xs:=h.elim (fun h => .inl ⟨e.keep _ _ h.1 h.2,e.not_in h.1 h.2⟩) .inr
theorem LA.sq {K:W.Frag} {H:Hp} {b:Bz} {a:Addr} {xs:List V} (h:LA K H b a xs):SqL K H a xs:=h.elim (fun h => .inl h.1) .inr
theorem TA'.sq {K:W.Frag} {H:Hp} {b:Bz} {a:Addr} {xs:List V} (h:TA' K H b a xs):SqT K H a xs:=h.elim (fun h => .inl (.inl h.1)) fun h => .inr h.1
mutual
theorem RV.wext {K:W.Frag} {H H':Hp} {b b':Bz} (e:WE H b H' b'):∀ (p:PV) {v:V},RV K H b p v->RV K H' b' p v
 | .non,_,h=>by unfold RV at h ⊢;exact h
 | .bl _,_,h=>by unfold RV at h ⊢;exact h
 | .int _,_,h=>by unfold RV at h ⊢;exact h
 | .str _,_,h=>by unfold RV at h ⊢;exact h
 | .tup l,_,h=>by
  unfold RV at h ⊢
  obtain ⟨a,xs,h1,h2,h3⟩:=h
  exact ⟨a,xs,h1,h2.wext e,RVs.wext e l h3⟩
 | .lst l,_,h=>by
  unfold RV at h ⊢
  obtain ⟨a,xs,h1,h2,h3⟩:=h
  exact ⟨a,xs,h1,h2.wext e,RVs.wext e l h3⟩
 | .ref i,_,h=>by
  unfold RV at h ⊢
  obtain ⟨a,h1,h2⟩:=h
  exact ⟨a,h1,e.ix h2⟩
 | .ty _,_,h=>by unfold RV at h ⊢;exact h
 | .fn _,_,h=>by unfold RV at h ⊢;exact h
 | .exc _ _,_,h=>by
  unfold RV at h ⊢
  obtain ⟨a,o,u,h1,h2,h3,h4,h6,h5⟩:=h
  exact ⟨a,o,u,h1,e.keep _ _ h2 h3,e.not_in h2 h3,h4,h6,h5.imp id fun ⟨d,q1,q2,q3⟩=>⟨d,q1,e.keep _ _ q2 q3,e.not_in q2 q3⟩⟩
 | .dct,_,h=>by
  unfold RV at h ⊢
  obtain ⟨a,h1,h2,h3⟩:=h
  exact ⟨a,h1,e.keep _ _ h2 h3,e.not_in h2 h3⟩
theorem RVs.wext {K:W.Frag} {H H':Hp} {b b':Bz} (e:WE H b H' b'):∀ (l:List PV) {xs:List V},RVs K H b l xs->RVs K H' b' l xs
 |[],_,h=>by unfold RVs at h ⊢;exact h
 |p::ps,_,h=>by
  unfold RVs at h ⊢
  obtain ⟨x,r,h1,h2,h3⟩:=h
  exact ⟨x,r,h1,RV.wext e p h2,RVs.wext e ps h3⟩
end
structure Ext (H:Hp) (b:Bz) (H':Hp) (b':Bz):Prop extends WE H b H' b' where
 same:b'.z=b.z
 hid:∀ a o,a∈b.z->H a=some o->H' a=some o
 fz:∀ a o u,H a=some (.frz o u)->H' a=some (.frz o u)
theorem Ext.refl (H:Hp) (b:Bz):Ext H b H b:=⟨WE.refl H b,rfl,fun _ _ _ h=>h,fun _ _ _ h=>h⟩
theorem Ext.none_of {H H':Hp} {b b':Bz} (e:Ext H b H' b') {a:Addr} (h:H' a=none):H a=none:=e.toWE.none_of h
theorem Ext.trans {H H1 H2:Hp} {b b1 b2:Bz} (e:Ext H b H1 b1) (f:Ext H1 b1 H2 b2):Ext H b H2 b2:=⟨e.toWE.trans f.toWE,f.same.trans e.same,fun a o ha h=>f.hid a o (by rw [e.same];exact ha) (e.hid a o ha h),fun a o u h=>f.fz a o u (e.fz a o u h)⟩
theorem Ext.ix {H H':Hp} {b b':Bz} (e:Ext H b H' b') {i:Nat} {a:Addr} (h:b.b[i]? = some a):b'.b[i]? = some a:=e.toWE.ix h
theorem Ext.new {H:Hp} {b:Bz} {p:Addr} {o:HO} (h:H p=none):Ext H b (upd H p o) b:=⟨WE.new h,rfl,fun a u _ e=>by rw [qQ (qL e h)];exact e,fun a u _ e=>by rw [qQ (qL e h)];exact e⟩
theorem Ext.wr {H:Hp} {b:Bz} {p:Addr} {o:HO} (h:p∈b.b) (hz:∀ a∈b.z,a ∉ b.b) (hf:∀ o u,H p≠some (.frz o u)):Ext H b (upd H p o) b:=⟨WE.wr (.inl h),rfl,fun a u ha e=>by rw [qQ (fun z=>hz a ha (by rw [z];exact h))];exact e,fun a u v e=>by rw [qQ (fun z=>hf u v (by rw [← z];exact e))];exact e⟩
theorem nfz {H:Hp} {p:Addr} {u:HO} (h:H p=some u) (hu:∀ o v,u ≠ .frz o v):∀ o v,H p≠some (.frz o v):=fun o v z=>by rw [h] at z;cases z;exact hu _ _ rfl
theorem qFR {H:Hp} {p:Addr} {xs:List V} (h:H p=some (.lst xs)):∀ o v,H p≠some (.frz o v):=nfz h fun _ _ z=>nomatch z
theorem Ext.of_same {H H':Hp} {b:Bz} (h:Same H H'):Ext H b H' b:=⟨⟨⟨[],by simp,by simp⟩,⟨[],rfl,by simp⟩,fun a o e _=>h a o e,fun a o e=>⟨o,h a o e⟩⟩,rfl,fun a o _ e=>h a o e,fun a o u e=>h a _ e⟩
theorem RV.ext {K:W.Frag} {H H':Hp} {b b':Bz} (e:Ext H b H' b') (p:PV) {v:V} (h:RV K H b p v):RV K H' b' p v:=RV.wext e.toWE p h
theorem RVs.ext {K:W.Frag} {H H':Hp} {b b':Bz} (e:Ext H b H' b') (l:List PV) {xs:List V} (h:RVs K H b l xs):RVs K H' b' l xs:=RVs.wext e.toWE l h
theorem RVs.length {K:W.Frag} {H:Hp} {b:Bz}:∀ {l:List PV} {xs:List V},RVs K H b l xs->l.length=xs.length
 |[],_,h=>by unfold RVs at h;rw [h];rfl
 |p::ps,_,h=>by
  unfold RVs at h
  obtain ⟨x,r,rfl,_,h3⟩:=h
  rw [AO,AO,RVs.length h3]
theorem RVs.nil {K:W.Frag} {H:Hp} {b:Bz}:RVs K H b [] []:=by unfold RVs;rfl
theorem RVs.cons {K:W.Frag} {H:Hp} {b:Bz} {p:PV} {ps:List PV} {x:V} {r:List V} (h:RV K H b p x) (t:RVs K H b ps r):RVs K H b (p::ps) (x::r):=by
 unfold RVs;exact ⟨x,r,rfl,h,t⟩
theorem RVs.get {K:W.Frag} {H:Hp} {b:Bz}:∀ {l:List PV} {xs:List V} {i:Nat} {p:PV},RVs K H b l xs->l[i]? = some p -> ∃ x,xs[i]? = some x∧RV K H b p x
 |[],_,_,_,_,h=>by simp at h
 |q::ps,_,0,p,r,h=>by
  unfold RVs at r
  obtain ⟨x,t,rfl,h2,h3⟩:=r
  simp at h;subst h
  exact ⟨x,rfl,h2⟩
 |q::ps,_,i + 1,p,r,h=>by
  unfold RVs at r
  obtain ⟨x,t,rfl,h2,h3⟩:=r
  obtain ⟨y,e,hy⟩:=RVs.get (i:=i) h3 (by simpa using h)
  exact ⟨y,by simpa using e,hy⟩
theorem RVs.append {K:W.Frag} {H:Hp} {b:Bz}:∀ {l m:List PV} {xs ys:List V},RVs K H b l xs->RVs K H b m ys->RVs K H b (l++m) (xs++ys)
 |[],_,_,_,h,g=>by unfold RVs at h;subst h;exact g
 |p::ps,_,_,_,h,g=>by
  unfold RVs at h
  obtain ⟨x,r,rfl,h2,h3⟩:=h
  exact RVs.cons h2 (RVs.append h3 g)
theorem RVs.take {K:W.Frag} {H:Hp} {b:Bz}:∀ {l:List PV} {xs:List V} (n:Nat),RVs K H b l xs->RVs K H b (l.take n) (xs.take n)
 |_,_,0,_=>RVs.nil
 |[],_,_ + 1,h=>by unfold RVs at h;subst h;exact RVs.nil
 |p::ps,_,n + 1,h=>by
  unfold RVs at h
  obtain ⟨x,r,rfl,h2,h3⟩:=h
  exact RVs.cons h2 (RVs.take n h3)
theorem RVs.drop {K:W.Frag} {H:Hp} {b:Bz}:∀ {l:List PV} {xs:List V} (n:Nat),RVs K H b l xs->RVs K H b (l.drop n) (xs.drop n)
 |_,_,0,h=>h
 |[],_,_ + 1,h=>by unfold RVs at h;subst h;exact RVs.nil
 |p::ps,_,n + 1,h=>by
  unfold RVs at h
  obtain ⟨x,r,rfl,h2,h3⟩:=h
  exact RVs.drop n h3
theorem RVs.set {K:W.Frag} {H:Hp} {b:Bz} {p:PV} {x:V} (hp:RV K H b p x):∀ {l:List PV} {xs:List V} (n:Nat),RVs K H b l xs->RVs K H b (l.set n p) (xs.set n x)
 |[],_,_,h=>by unfold RVs at h;subst h;exact RVs.nil
 |q::ps,_,0,h=>by
  unfold RVs at h
  obtain ⟨y,r,rfl,h2,h3⟩:=h
  exact RVs.cons hp h3
 |q::ps,_,n + 1,h=>by
  unfold RVs at h
  obtain ⟨y,r,rfl,h2,h3⟩:=h
  exact RVs.cons h2 (RVs.set hp n h3)
theorem SOk.wext {K:W.Frag} {H H':Hp} {b b':Bz} (e:WE H b H' b'):∀ {x:SO} {o:HO},SOk K H b x o->SOk K H' b' x o
 | .l xs,_,⟨vs,h,r⟩=>⟨vs,h,RVs.wext e xs r⟩
 | .d kvs,_,⟨vs,h,q,r⟩=>⟨vs,h,q,RVs.wext e _ r⟩
 | .z kvs,_,⟨od,vs,h,q,r⟩=>⟨od,vs,h,q,RVs.wext e _ r⟩
 | .k kvs,_,⟨vs,h,q,r⟩=>⟨vs,h,q,RVs.wext e _ r⟩
 | .y kvs,_,⟨od,vs,h,q,r⟩=>⟨od,vs,h,q,RVs.wext e _ r⟩
 | .o C fs,_,⟨dx,vs,h,q,r⟩=>⟨dx,vs,h,q,RVs.wext e _ r⟩
theorem SOk.ext {K:W.Frag} {H H':Hp} {b b':Bz} (e:Ext H b H' b') {x:SO} {o:HO} (h:SOk K H b x o):SOk K H' b' x o:=h.wext e.toWE
theorem SR.mem {K:W.Frag} {H:Hp} {b:Bz} {st:qB} (S:SR K H b st) {a:Addr} (h:a∈b.b):∃ o,H a=some o:=by
 obtain ⟨i,hi⟩:=List.getElem?_of_mem h
 have hl:i < b.b.length:=(Aa.mp hi).1
 have hs:st[i]? = some (st[i]'(by rw [← S.len];exact hl)):=AD _
 obtain ⟨a',o,h1,h2,_⟩:=S.at_ i _ hs
 rw [hi] at h1;cases h1
 exact ⟨o,h2⟩
theorem SR.new_notin {K:W.Frag} {H:Hp} {b:Bz} {st:qB} (S:SR K H b st) {p:Addr} (h:H p=none):b.out p :=
 ⟨fun hm=>(by obtain ⟨o,e⟩:=S.mem hm;rw [h] at e;cases e),fun hm=>(by obtain ⟨o,e⟩:=S.zo p hm;rw [h] at e;cases e)⟩
theorem SR.new {K:W.Frag} {H:Hp} {b:Bz} {st:qB} (S:SR K H b st) {p:Addr} {o:HO} (h:H p=none):SR K (upd H p o) b st :=
 ⟨S.len,S.nd,fun i x hx=>by
  obtain ⟨a,u,h1,h2,h3⟩:=S.at_ i x hx
  exact ⟨a,u,h1,by rw [qQ (qL h2 h)];exact h2,h3.ext (Ext.new h)⟩,fun a ha=>by
  obtain ⟨u,e⟩:=S.zo a ha
  exact ⟨u,by rw [qQ (qL e h)];exact e⟩,S.zb⟩
theorem qGR {b:List Addr} (nd:b.Nodup) {i j:Nat} {x:Addr} (h1:b[i]? = some x) (h2:b[j]? = some x):i=j:=by
 obtain ⟨hi,e1⟩:=Aa.mp h1
 obtain ⟨hj,e2⟩:=Aa.mp h2
 exact (List.getElem_inj nd).mp (e1.trans e2.symm)
theorem SR.wr {K:W.Frag} {H:Hp} {b:Bz} {st:qB} (S:SR K H b st) {i:Nat} {p:Addr} {x:SO} {o:HO} (hp:b.b[i]? = some p) (hx:SOk K (upd H p o) b x o):SR K (upd H p o) b (st.set i x):=by
 have hm:p∈b.b:=BE hp
 refine ⟨by simp [S.len],S.nd,fun j y hy => ?_,fun a ha => ?_,S.zb⟩
 ·have hl:i < b.b.length:=(Aa.mp hp).1
  by_cases hj:j=i
  ·subst hj
   rw [Bg (by rw [← S.len];exact hl)] at hy
   cases hy
   exact ⟨p,o,hp,Qa,hx⟩
  ·rw [BX (Ne.symm hj)] at hy
   obtain ⟨a,u,h1,h2,h3⟩:=S.at_ j y hy
   have hne:a≠p:=fun z=>hj (by subst z;exact qGR S.nd h1 hp)
   exact ⟨a,u,h1,by rw [qQ hne];exact h2,h3.wext (WE.wr (.inl hm))⟩
 ·obtain ⟨u,e⟩:=S.zo a ha
  have hz:a≠p:=fun z=>S.zb a ha (by rw [z];exact hm)
  exact ⟨u,by rw [qQ hz];exact e⟩
theorem SR.wrz {K:W.Frag} {H:Hp} {b:Bz} {st:qB} (S:SR K H b st) {p:Addr} {ys:List V} (hp:p∈b.z):SR K (upd H p (.lst ys)) b st:=by
 refine ⟨S.len,S.nd,fun j y hy => ?_,fun a ha => ?_,S.zb⟩
 ·obtain ⟨a,u,h1,h2,h3⟩:=S.at_ j y hy
  have hne:a≠p:=fun z=>by subst z;exact S.zb a hp (BE h1)
  exact ⟨a,u,h1,by rw [qQ hne];exact h2,h3.wext (WE.wr (.inr hp))⟩
 ·obtain ⟨u,e⟩:=S.zo a ha
  by_cases hz:a=p
  ·exact ⟨ys,by rw [hz];exact Qa⟩
  ·exact ⟨u,by rw [qQ hz];exact e⟩
structure Sh (b b':Bz):Prop where
 ix:∀ (i:Nat) (a:Addr),b.b[i]? = some a->b'.b[i]? = some a
 out:∀ a,b.out a->b'.out a
mutual
theorem RV.sh {K:W.Frag} {H:Hp} {b b':Bz} (e:Sh b b'):∀ (p:PV) {v:V},RV K H b p v->RV K H b' p v
 | .non,_,h=>by unfold RV at h ⊢;exact h
 | .bl _,_,h=>by unfold RV at h ⊢;exact h
 | .int _,_,h=>by unfold RV at h ⊢;exact h
 | .str _,_,h=>by unfold RV at h ⊢;exact h
 | .tup l,_,h=>by
  unfold RV at h ⊢
  obtain ⟨a,xs,h1,h2,h3⟩:=h
  exact ⟨a,xs,h1,h2.elim (fun q => .inl ⟨q.1,e.out a q.2⟩) .inr,RVs.sh e l h3⟩
 | .lst l,_,h=>by
  unfold RV at h ⊢
  obtain ⟨a,xs,h1,h2,h3⟩:=h
  exact ⟨a,xs,h1,h2.elim (fun q => .inl ⟨q.1,e.out a q.2⟩) .inr,RVs.sh e l h3⟩
 | .ref i,_,h=>by
  unfold RV at h ⊢
  obtain ⟨a,h1,h2⟩:=h
  exact ⟨a,h1,e.ix i a h2⟩
 | .ty _,_,h=>by unfold RV at h ⊢;exact h
 | .fn _,_,h=>by unfold RV at h ⊢;exact h
 | .exc _ _,_,h=>by
  unfold RV at h ⊢
  obtain ⟨a,o,u,h1,h2,h3,h4,h6,h5⟩:=h
  exact ⟨a,o,u,h1,h2,e.out a h3,h4,h6,h5.imp id fun ⟨d,q1,q2,q3⟩=>⟨d,q1,q2,e.out d q3⟩⟩
 | .dct,_,h=>by
  unfold RV at h ⊢
  obtain ⟨a,h1,h2,h3⟩:=h
  exact ⟨a,h1,h2,e.out a h3⟩
theorem RVs.sh {K:W.Frag} {H:Hp} {b b':Bz} (e:Sh b b'):∀ (l:List PV) {xs:List V},RVs K H b l xs->RVs K H b' l xs
 |[],_,h=>by unfold RVs at h ⊢;exact h
 |p::ps,_,h=>by
  unfold RVs at h ⊢
  obtain ⟨x,r,h1,h2,h3⟩:=h
  exact ⟨x,r,h1,RV.sh e p h2,RVs.sh e ps h3⟩
end
theorem SOk.sh {K:W.Frag} {H:Hp} {b b':Bz} (e:Sh b b'):∀ {x:SO} {o:HO},SOk K H b x o->SOk K H b' x o
 | .l xs,_,⟨vs,h,r⟩=>⟨vs,h,RVs.sh e xs r⟩
 | .d kvs,_,⟨vs,h,q,r⟩=>⟨vs,h,q,RVs.sh e _ r⟩
 | .z kvs,_,⟨od,vs,h,q,r⟩=>⟨od,vs,h,q,RVs.sh e _ r⟩
 | .k kvs,_,⟨vs,h,q,r⟩=>⟨vs,h,q,RVs.sh e _ r⟩
 | .y kvs,_,⟨od,vs,h,q,r⟩=>⟨od,vs,h,q,RVs.sh e _ r⟩
 | .o C fs,_,⟨dx,vs,h,q,r⟩=>⟨dx,vs,h,q,RVs.sh e _ r⟩
theorem Sh.bare {b:List Addr} {p:Addr} {z:List Addr}:Sh ⟨b,p::z⟩ ⟨b,z⟩:=⟨fun _ _ h=>h,fun a h=>⟨h.1,fun q=>h.2 (AG _ q)⟩⟩
theorem Sh.slot {b:List Addr} {p:Addr} {z:List Addr}:Sh ⟨b,p::z⟩ ⟨b++[p],z⟩:=⟨fun i a h=>by
  rw [Ac (Aa.mp h).1];exact h,fun a h=>⟨fun q=>(A1.mp q).elim h.1 fun q=>h.2 (by rw [AW.mp q];exact AK),fun q=>h.2 (AG _ q)⟩⟩
theorem RV.hide {K:W.Frag} {H:Hp} {b z:List Addr} {p:Addr} {o:HO} (hp:H p=none) (q:PV) {v:V} (h:RV K H ⟨b,z⟩ q v):RV K (upd H p o) ⟨b,p::z⟩ q v:=hd q h
where
 outp {a:Addr} {u:HO} (e:H a=some u) (h:Bz.out ⟨b,z⟩ a):Bz.out ⟨b,p::z⟩ a:=⟨h.1,fun q=>(AH.mp q).elim (fun q=>by subst q;rw [hp] at e;cases e) h.2⟩
 rdd {a:Addr} {u:HO} (h:Rd H a u∧Bz.out ⟨b,z⟩ a):Rd (upd H p o) a u∧Bz.out ⟨b,p::z⟩ a:=by
  obtain ⟨w,hw⟩:=Rd.some_of h.1
  refine ⟨?_,outp hw h.2⟩
  rcases h.1 with q |⟨o',q⟩
  ·exact .inl (by rw [qQ (qL q hp)];exact q)
  ·exact .inr ⟨o',by rw [qQ (qL q hp)];exact q⟩
 hd:∀ (q:PV) {v:V},RV K H ⟨b,z⟩ q v->RV K (upd H p o) ⟨b,p::z⟩ q v
 | .non,_,h=>by unfold RV at h ⊢;exact h
 | .bl _,_,h=>by unfold RV at h ⊢;exact h
 | .int _,_,h=>by unfold RV at h ⊢;exact h
 | .str _,_,h=>by unfold RV at h ⊢;exact h
 | .tup l,_,h=>by
  unfold RV at h ⊢
  obtain ⟨a,xs,h1,h2,h3⟩:=h
  exact ⟨a,xs,h1,h2.elim (fun q => .inl ⟨by rw [qQ (qL q.1 hp)];exact q.1,outp q.1 q.2⟩) .inr,hds l h3⟩
 | .lst l,_,h=>by
  unfold RV at h ⊢
  obtain ⟨a,xs,h1,h2,h3⟩:=h
  exact ⟨a,xs,h1,h2.elim (fun q => .inl (rdd q)) .inr,hds l h3⟩
 | .ref i,_,h=>by
  unfold RV at h ⊢
  exact h
 | .ty _,_,h=>by unfold RV at h ⊢;exact h
 | .fn _,_,h=>by unfold RV at h ⊢;exact h
 | .exc _ _,_,h=>by
  unfold RV at h ⊢
  obtain ⟨a,o',u,h1,h2,h3,h4,h6,h5⟩:=h
  exact ⟨a,o',u,h1,by rw [qQ (qL h2 hp)];exact h2,outp h2 h3,h4,h6,h5.imp id fun ⟨d,q1,q2,q3⟩=>⟨d,q1,by rw [qQ (qL q2 hp)];exact q2,outp q2 q3⟩⟩
 | .dct,_,h=>by
  unfold RV at h ⊢
  obtain ⟨a,h1,h2,h3⟩:=h
  exact ⟨a,h1,by rw [qQ (qL h2 hp)];exact h2,outp h2 h3⟩
 hds:∀ (l:List PV) {xs:List V},RVs K H ⟨b,z⟩ l xs->RVs K (upd H p o) ⟨b,p::z⟩ l xs
 |[],_,h=>by unfold RVs at h ⊢;exact h
 |q::ps,_,h=>by
  unfold RVs at h ⊢
  obtain ⟨x,r,h1,h2,h3⟩:=h
  exact ⟨x,r,h1,hd q h2,hds ps h3⟩
theorem SR.hide {K:W.Frag} {H:Hp} {b z:List Addr} {st:qB} (S:SR K H ⟨b,z⟩ st) {p:Addr} {ys:List V} (hp:H p=none):SR K (upd H p (.lst ys)) ⟨b,p::z⟩ st:=by
 have hn:=S.new_notin hp
 refine ⟨S.len,S.nd,fun i x hx => ?_,fun a ha => ?_,fun a ha => ?_⟩
 ·obtain ⟨a,u,h1,h2,h3⟩:=S.at_ i x hx
  refine ⟨a,u,h1,by rw [qQ (qL h2 hp)];exact h2,?_⟩
  cases x with
  |l xs =>
   obtain ⟨vs,e1,e2⟩:=h3
   exact ⟨vs,e1,RV.hide.hds hp xs e2⟩
  |d kvs =>
   obtain ⟨vs,e1,e2,e3⟩:=h3
   exact ⟨vs,e1,e2,RV.hide.hds hp _ e3⟩
  |z kvs =>
   obtain ⟨od,vs,e1,e2,e3⟩:=h3
   exact ⟨od,vs,e1,e2,RV.hide.hds hp _ e3⟩
  |k kvs =>
   obtain ⟨vs,e1,e2,e3⟩:=h3
   exact ⟨vs,e1,e2,RV.hide.hds hp _ e3⟩
  |y kvs =>
   obtain ⟨od,vs,e1,e2,e3⟩:=h3
   exact ⟨od,vs,e1,e2,RV.hide.hds hp _ e3⟩
  |o C fs =>
   obtain ⟨dx,vs,e1,e2,e3⟩:=h3
   exact ⟨dx,vs,e1,e2,RV.hide.hds hp _ e3⟩
 ·rcases AH.mp ha with rfl |ha
  ·exact ⟨ys,Qa⟩
  ·obtain ⟨u,e⟩:=S.zo a ha
   exact ⟨u,by rw [qQ (qL e hp)];exact e⟩
 ·rcases AH.mp ha with rfl |ha
  ·exact hn.1
  ·exact S.zb a ha
theorem SR.bare {K:W.Frag} {H:Hp} {b z:List Addr} {st:qB} {p:Addr} (S:SR K H ⟨b,p::z⟩ st):SR K H ⟨b,z⟩ st :=
 ⟨S.len,S.nd,fun i x hx=>by
  obtain ⟨a,u,h1,h2,h3⟩:=S.at_ i x hx
  exact ⟨a,u,h1,h2,h3.sh Sh.bare⟩,fun a ha=>S.zo a (AG _ ha),fun a ha=>S.zb a (AG _ ha)⟩
theorem SR.slot {K:W.Frag} {H:Hp} {b z:List Addr} {st:qB} {p:Addr} {x:SO} {o:HO} (S:SR K H ⟨b,p::z⟩ st) (hz:p ∉ z) (ho:H p=some o) (hx:SOk K H ⟨b,p::z⟩ x o):SR K H ⟨b++[p],z⟩ (st++[x]):=by
 have hp:p ∉ b:=S.zb p AK
 refine ⟨by simp [show b.length=st.length from S.len],?_,fun i y hy => ?_,fun a ha=>S.zo a (AG _ ha),fun a ha hm => ?_⟩
 ·exact B4.mpr ⟨S.nd,by simp,fun a ha c hc=>by rw [AW.mp hc];intro z;subst z;exact hp ha⟩
 ·by_cases hi:i < st.length
  ·rw [Ac hi] at hy
   obtain ⟨a,u,h1,h2,h3⟩:=S.at_ i y hy
   exact ⟨a,u,Sh.slot.ix i a h1,h2,h3.sh Sh.slot⟩
  ·have hi':i=st.length:=by
    have:=(Aa.mp hy).1
    rw [Af,CA] at this;omega
   subst hi'
   have e1:(st++[x])[st.length]? = some x:=by simp
   rw [e1] at hy;cases hy
   have hl:b.length=st.length:=S.len
   exact ⟨p,o,by show (b++[p])[st.length]? = some p;rw [← hl];simp,ho,hx.sh Sh.slot⟩
 ·rcases A1.mp hm with q |q
  ·exact S.zb a (AG _ ha) q
  ·rw [AW.mp q] at ha;exact hz ha
def REnv (K:W.Frag) (H:Hp) (b:Bz) (r:qo) (s:L2.St):Prop:=r.length=s.length ∧ ∀ (i:Nat) (p:PV),r[i]? = some (some p) -> ∃ v,s[i]? = some (some v)∧RV K H b p v
theorem REnv.wext {K:W.Frag} {H H':Hp} {b b':Bz} {r:qo} {s:L2.St} (h:REnv K H b r s) (e:WE H b H' b'):REnv K H' b' r s:=⟨h.1,fun i p q=>by
 obtain ⟨v,h1,h2⟩:=h.2 i p q
 exact ⟨v,h1,RV.wext e p h2⟩⟩
theorem REnv.ext {K:W.Frag} {H H':Hp} {b b':Bz} {r:qo} {s:L2.St} (h:REnv K H b r s) (e:Ext H b H' b'):REnv K H' b' r s:=⟨h.1,fun i p q=>by
 obtain ⟨v,h1,h2⟩:=h.2 i p q
 exact ⟨v,h1,RV.ext e p h2⟩⟩
theorem REnv.set {K:W.Frag} {H:Hp} {b:Bz} {r:qo} {s:L2.St} {p:PV} {v:V} (h:REnv K H b r s) (hv:RV K H b p v) (i:Nat):REnv K H b (r.set i (some p)) (s.set i (some v)):=by
 refine ⟨by simp [h.1],fun j q hq => ?_⟩
 by_cases hj:i=j
 ·subst hj
  have hl:i < r.length:=by
   have:=(Aa.mp hq).1
   simpa using this
  rw [Bg hl] at hq
  cases hq
  exact ⟨v,by rw [Bg (by rw [← h.1];exact hl)],hv⟩
 ·rw [BX hj] at hq
  obtain ⟨w,h1,h2⟩:=h.2 j q hq
  exact ⟨w,by rw [BX hj];exact h1,h2⟩
def RX (K:W.Frag) (H:Hp) (b:Bz) (x:Exc) (c:Value) (d:Option Addr):Prop :=
 c = .ref x.cls∧((x.fs=[]∧d=none) ∨ ∃ a,d=some a∧H a=some (.xd (x.fs.map fun p=>(p.1,V.int p.2)))∧b.out a)
def XP (K:W.Frag) (E:XK) (H:Hp) (b:Bz) (x:Exc) (st:qB):Prop := ∀ c d H' b',Ext H b H' b'->SR K H' b' st->RX K H' b' x c d->E c d H'
theorem XP.ext {K:W.Frag} {E:XK} {H H1:Hp} {b b1:Bz} {x:Exc} {st:qB} (h:XP K E H b x st) (e:Ext H b H1 b1):XP K E H1 b1 x st:=fun c d H' b' e' S r=>h c d H' b' (e.trans e') S r
def PostE (K:W.Frag) (E:XK) (H:Hp) (b:Bz) (r:Rs PV) (Q:VK):Prop:=match r with
 | .ok p st => ∀ v H' b',Ext H b H' b'->SR K H' b' st->RV K H' b' p v->Q v H'
 | .ex x st=>XP K E H b x st
 | .no=>False
def PostA (K:W.Frag) (E:XK) (H:Hp) (b:Bz) (r:Rs (List PV)) (Q:List V->Hp->Prop):Prop:=match r with
 | .ok ps st => ∀ vs H' b',Ext H b H' b'->SR K H' b' st->RVs K H' b' ps vs->Q vs H'
 | .ex x st=>XP K E H b x st
 | .no=>False
def PostT (K:W.Frag) (E:XK) (H:Hp) (b:Bz) (r:Rs Bool) (Q:Bool->Hp->Prop):Prop:=match r with
 | .ok k st => ∀ H' b',Ext H b H' b'->SR K H' b' st->Q k H'
 | .ex x st=>XP K E H b x st
 | .no=>False
def PostS (K:W.Frag) (E:XK) (H:Hp) (b:Bz) (r:RS) (D:Ends):Prop:=match r with
 | .nx e st => ∀ s H' b',Ext H b H' b'->SR K H' b' st->REnv K H' b' e s->D.nx s H'
 | .bk e st => ∀ s H' b',Ext H b H' b'->SR K H' b' st->REnv K H' b' e s->D.bk s H'
 | .ct e st => ∀ s H' b',Ext H b H' b'->SR K H' b' st->REnv K H' b' e s->D.ct s H'
 | .rt p st => ∀ v H' b',Ext H b H' b'->SR K H' b' st->RV K H' b' p v->D.rt v H'
 | .ex x st=>XP K E H b x st
 | .no=>False
theorem PostE.ext {K:W.Frag} {E:XK} {H H1:Hp} {b b1:Bz} {r:Rs PV} {Q:VK} (h:PostE K E H b r Q) (e:Ext H b H1 b1):PostE K E H1 b1 r Q:=by
 cases r with
 |ok p st=>exact fun v H' b' e'=>h v H' b' (e.trans e')
 |ex x st=>exact XP.ext h e
 |no=>exact h
theorem PostA.ext {K:W.Frag} {E:XK} {H H1:Hp} {b b1:Bz} {r:Rs (List PV)} {Q:List V->Hp->Prop} (h:PostA K E H b r Q) (e:Ext H b H1 b1):PostA K E H1 b1 r Q:=by
 cases r with
 |ok p st=>exact fun v H' b' e'=>h v H' b' (e.trans e')
 |ex x st=>exact XP.ext h e
 |no=>exact h
theorem PostT.ext {K:W.Frag} {E:XK} {H H1:Hp} {b b1:Bz} {r:Rs Bool} {Q:Bool->Hp->Prop} (h:PostT K E H b r Q) (e:Ext H b H1 b1):PostT K E H1 b1 r Q:=by
 cases r with
 |ok p st=>exact fun H' b' e'=>h H' b' (e.trans e')
 |ex x st=>exact XP.ext h e
 |no=>exact h
theorem PostS.ext {K:W.Frag} {E:XK} {H H1:Hp} {b b1:Bz} {r:RS} {D:Ends} (h:PostS K E H b r D) (e:Ext H b H1 b1):PostS K E H1 b1 r D:=by
 cases r with
 |nx p st=>exact fun v H' b' e'=>h v H' b' (e.trans e')
 |bk p st=>exact fun v H' b' e'=>h v H' b' (e.trans e')
 |ct p st=>exact fun v H' b' e'=>h v H' b' (e.trans e')
 |rt p st=>exact fun v H' b' e'=>h v H' b' (e.trans e')
 |ex x st=>exact XP.ext h e
 |no=>exact h
def rd (K:W.Frag) (E:XK) (f:FE):TE:=fun s H Q => ∃ b r st,SR K H b st∧REnv K H b r s∧PostE K E H b (f r st) Q
def rdA (K:W.Frag) (E:XK) (f:FA):L2.TA:=fun s H Q => ∃ b r st,SR K H b st∧REnv K H b r s∧PostA K E H b (f r st) Q
def rdT (K:W.Frag) (E:XK) (f:FT):TT:=fun s H Q => ∃ b r st,SR K H b st∧REnv K H b r s∧PostT K E H b (f r st) Q
def rdS (K:W.Frag) (E:XK) (f:FS):TS:=fun D s H => ∃ b r st,SR K H b st∧REnv K H b r s∧PostS K E H b (f r st) D
abbrev VE (X:Cx) (E:XK) (e:Expr) (f:FE):Prop:=PE X e (rd X.K E f)
abbrev VA (X:Cx) (E:XK) (e:List Expr) (f:FA):Prop:=PA X e (rdA X.K E f)
abbrev VT (X:Cx) (E:XK) (e:Expr) (f:FT):Prop:=PT X e (rdT X.K E f)
abbrev VS (X:Cx) (E:XK) (e:Stmt) (f:FS):Prop:=PS X e (rdS X.K E f)
abbrev VSs (X:Cx) (E:XK) (e:List Stmt) (f:FS):Prop:=PSs X e (rdS X.K E f)
theorem PE.imp {X:Cx} {e:Expr} {t t':TE} (h:PE X e t) (i:∀ s H Q,t' s H Q->t s H Q):PE X e t':=fun pins s σ H Q I q=>h pins s σ H Q I (i _ _ _ q)
theorem PT.imp {X:Cx} {e:Expr} {t t':TT} (h:PT X e t) (i:∀ s H Q,t' s H Q->t s H Q):PT X e t':=fun pins s σ H Q I q=>h pins s σ H Q I (i _ _ _ q)
theorem PA.imp {X:Cx} {e:List Expr} {t t':L2.TA} (h:PA X e t) (i:∀ s H Q,t' s H Q->t s H Q):PA X e t':=fun pos pins s σ H Q I q=>h pos pins s σ H Q I (i _ _ _ q)
theorem PS.imp {X:Cx} {e:Stmt} {t t':TS} (h:PS X e t) (i:∀ D s H,t' D s H->t D s H):PS X e t':=fun pins s σ H D I q=>h pins s σ H D I (i _ _ _ q)
theorem PSs.imp {X:Cx} {e:List Stmt} {t t':TS} (h:PSs X e t) (i:∀ D s H,t' D s H->t D s H):PSs X e t':=fun pins s σ H D I q=>h pins s σ H D I (i _ _ _ q)
theorem PostE.bind {K:W.Frag} {E:XK} {H:Hp} {b:Bz} {r:Rs PV} {k:PV->qB->Rs PV} {Q R:VK} (P:PostE K E H b (r.bind k) Q)
  (h:∀ p st v H1 b1,Ext H b H1 b1->SR K H1 b1 st->RV K H1 b1 p v->PostE K E H1 b1 (k p st) Q->R v H1):PostE K E H b r R:=by
 cases r with
 |ok p st=>exact fun v H1 b1 e S r=>h p st v H1 b1 e S r (PostE.ext (show PostE K E H b (k p st) Q from P) e)
 |ex x st=>exact P
 |no=>exact P
theorem PostE.bindT {K:W.Frag} {E:XK} {H:Hp} {b:Bz} {r:Rs PV} {k:PV->qB->Rs Bool} {Q:Bool->Hp->Prop} {R:VK} (P:PostT K E H b (r.bind k) Q)
  (h:∀ p st v H1 b1,Ext H b H1 b1->SR K H1 b1 st->RV K H1 b1 p v->PostT K E H1 b1 (k p st) Q->R v H1):PostE K E H b r R:=by
 cases r with
 |ok p st=>exact fun v H1 b1 e S r=>h p st v H1 b1 e S r (PostT.ext (show PostT K E H b (k p st) Q from P) e)
 |ex x st=>exact P
 |no=>exact P
theorem PostT.bind {K:W.Frag} {E:XK} {H:Hp} {b:Bz} {r:Rs Bool} {k:Bool->qB->Rs PV} {Q:VK} {R:Bool->Hp->Prop} (P:PostE K E H b (r.bind k) Q)
  (h:∀ p st H1 b1,Ext H b H1 b1->SR K H1 b1 st->PostE K E H1 b1 (k p st) Q->R p H1):PostT K E H b r R:=by
 cases r with
 |ok p st=>exact fun H1 b1 e S=>h p st H1 b1 e S (PostE.ext (show PostE K E H b (k p st) Q from P) e)
 |ex x st=>exact P
 |no=>exact P
theorem PostT.bindT {K:W.Frag} {E:XK} {H:Hp} {b:Bz} {r:Rs Bool} {k:Bool->qB->Rs Bool} {Q R:Bool->Hp->Prop} (P:PostT K E H b (r.bind k) Q)
  (h:∀ p st H1 b1,Ext H b H1 b1->SR K H1 b1 st->PostT K E H1 b1 (k p st) Q->R p H1):PostT K E H b r R:=by
 cases r with
 |ok p st=>exact fun H1 b1 e S=>h p st H1 b1 e S (PostT.ext (show PostT K E H b (k p st) Q from P) e)
 |ex x st=>exact P
 |no=>exact P
theorem PostA.bind {K:W.Frag} {E:XK} {H:Hp} {b:Bz} {r:Rs (List PV)} {k:List PV->qB->Rs PV} {Q:VK} {R:List V->Hp->Prop} (P:PostE K E H b (r.bind k) Q)
  (h:∀ p st v H1 b1,Ext H b H1 b1->SR K H1 b1 st->RVs K H1 b1 p v->PostE K E H1 b1 (k p st) Q->R v H1):PostA K E H b r R:=by
 cases r with
 |ok p st=>exact fun v H1 b1 e S r=>h p st v H1 b1 e S r (PostE.ext (show PostE K E H b (k p st) Q from P) e)
 |ex x st=>exact P
 |no=>exact P
theorem PostE.bindA {K:W.Frag} {E:XK} {H:Hp} {b:Bz} {r:Rs PV} {k:PV->qB->Rs (List PV)} {Q:List V->Hp->Prop} {R:VK} (P:PostA K E H b (r.bind k) Q)
  (h:∀ p st v H1 b1,Ext H b H1 b1->SR K H1 b1 st->RV K H1 b1 p v->PostA K E H1 b1 (k p st) Q->R v H1):PostE K E H b r R:=by
 cases r with
 |ok p st=>exact fun v H1 b1 e S r=>h p st v H1 b1 e S r (PostA.ext (show PostA K E H b (k p st) Q from P) e)
 |ex x st=>exact P
 |no=>exact P
theorem PostA.bindA {K:W.Frag} {E:XK} {H:Hp} {b:Bz} {r:Rs (List PV)} {k:List PV->qB->Rs (List PV)} {Q R:List V->Hp->Prop} (P:PostA K E H b (r.bind k) Q)
  (h:∀ p st v H1 b1,Ext H b H1 b1->SR K H1 b1 st->RVs K H1 b1 p v->PostA K E H1 b1 (k p st) Q->R v H1):PostA K E H b r R:=by
 cases r with
 |ok p st=>exact fun v H1 b1 e S r=>h p st v H1 b1 e S r (PostA.ext (show PostA K E H b (k p st) Q from P) e)
 |ex x st=>exact P
 |no=>exact P
def Rs.bindS {α:Type} (r:Rs α) (k:α->qB->RS):RS:=match r with
 | .ok a st=>k a st
 | .ex x st => .ex x st
 | .no => .no
theorem PostE.bindS {K:W.Frag} {E:XK} {H:Hp} {b:Bz} {r:Rs PV} {k:PV->qB->RS} {D:Ends} {R:VK} (P:PostS K E H b (r.bindS k) D)
  (h:∀ p st v H1 b1,Ext H b H1 b1->SR K H1 b1 st->RV K H1 b1 p v->PostS K E H1 b1 (k p st) D->R v H1):PostE K E H b r R:=by
 cases r with
 |ok p st=>exact fun v H1 b1 e S r=>h p st v H1 b1 e S r (PostS.ext (show PostS K E H b (k p st) D from P) e)
 |ex x st=>exact P
 |no=>exact P
theorem PostT.bindS {K:W.Frag} {E:XK} {H:Hp} {b:Bz} {r:Rs Bool} {k:Bool->qB->RS} {D:Ends} {R:Bool->Hp->Prop} (P:PostS K E H b (r.bindS k) D)
  (h:∀ p st H1 b1,Ext H b H1 b1->SR K H1 b1 st->PostS K E H1 b1 (k p st) D->R p H1):PostT K E H b r R:=by
 cases r with
 |ok p st=>exact fun H1 b1 e S=>h p st H1 b1 e S (PostS.ext (show PostS K E H b (k p st) D from P) e)
 |ex x st=>exact P
 |no=>exact P
theorem PostA.bindS {K:W.Frag} {E:XK} {H:Hp} {b:Bz} {r:Rs (List PV)} {k:List PV->qB->RS} {D:Ends} {R:List V->Hp->Prop} (P:PostS K E H b (r.bindS k) D)
  (h:∀ p st v H1 b1,Ext H b H1 b1->SR K H1 b1 st->RVs K H1 b1 p v->PostS K E H1 b1 (k p st) D->R v H1):PostA K E H b r R:=by
 cases r with
 |ok p st=>exact fun v H1 b1 e S r=>h p st v H1 b1 e S r (PostS.ext (show PostS K E H b (k p st) D from P) e)
 |ex x st=>exact P
 |no=>exact P
def asL (st:qB):PV->Option (List PV)
 | .lst l=>some l
 | .ref i=>match st[i]? with
  |some (.l xs)=>some xs
  |_=>none
 |_=>none
def asT:PV->Option (List PV)
 | .tup l=>some l
 |_=>none
def zj (st:qB) (p:PV):Option (List PV):=match p with
 | .tup l=>some l
 |p=>asL st p
section
variable {K:W.Frag} {H:Hp} {b:Bz} {st:qB} {p:PV} {v:V} {l:List PV}
theorem Q7 (S:SR K H b st) (r:RV K H b p v) (h:asL st p=some l):∃ a xs,v = .ref a∧SqL K H a xs∧RVs K H b l xs:=by
 cases p with
 |lst m =>
  unfold RV at r
  obtain ⟨a,xs,h1,h2,h3⟩:=r
  have e:m=l:=AZ h
  subst e
  exact ⟨a,xs,h1,h2.sq,h3⟩
 |ref i =>
  unfold RV at r
  obtain ⟨a,h1,h2⟩:=r
  unfold asL at h
  dsimp only at h
  cases q:st[i]? with
  |none=>rw [q] at h;cases h
  |some o =>
   cases o with
   |l ys =>
    rw [q] at h
    have e:ys=l:=AZ h
    subst e
    obtain ⟨a',o,e1,e2,vs,e3,e4⟩:=S.at_ i _ q
    rw [h2] at e1;cases e1
    subst e3
    exact ⟨a,vs,h1,SqL.of e2,e4⟩
   |d ys=>rw [q] at h;cases h
   |z ys=>rw [q] at h;cases h
   |k ys=>rw [q] at h;cases h
   |y ys=>rw [q] at h;cases h
   |o C ys=>rw [q] at h;cases h
 |_=>cases h
theorem YY (S:SR K H b st) (r:RV K H b p v) (h:zj st p=some l):∃ a xs,v = .ref a∧(SqL K H a xs∨SqT K H a xs)∧RVs K H b l xs:=by
 cases p with
 |tup m =>
  unfold RV at r
  obtain ⟨a,xs,h1,h2,h3⟩:=r
  have e:m=l:=AZ h
  subst e
  exact ⟨a,xs,h1,.inr h2.sq,h3⟩
 |lst m =>
  obtain ⟨a,xs,h1,h2,h3⟩:=Q7 S r h
  exact ⟨a,xs,h1,.inl h2,h3⟩
 |ref i =>
  obtain ⟨a,xs,h1,h2,h3⟩:=Q7 S r h
  exact ⟨a,xs,h1,.inl h2,h3⟩
 |_=>cases h
end
abbrev FL:=qo->qB->Rs (List PV)
def PostN (K:W.Frag) (E:XK) (H:Hp) (b:Bz) (r:Rs (List PV)) (Q:VK):Prop:=match r with
 | .ok l st => ∀ p xs H' b',Ext H b H' b'->H p=none->H' p=some (.lst xs)->p ∉ b'.z->SR K H' ⟨b'.b,p::b'.z⟩ st->RVs K H' ⟨b'.b,p::b'.z⟩ l xs->Q (.ref p) H'
 | .ex x st=>XP K E H b x st
 | .no=>False
def rdN (K:W.Frag) (E:XK) (f:FL):TE:=fun s H Q => ∃ b r st,SR K H b st∧REnv K H b r s∧PostN K E H b (f r st) Q
abbrev VN (X:Cx) (E:XK) (e:Expr) (f:FL):Prop:=PE X e (rdN X.K E f)
def vFz (f:FL):FE:=fun r st=>(f r st).bind fun l s => .ok (.lst l) s
theorem PostN.of {K:W.Frag} {E:XK} {H:Hp} {b:Bz} {r:Rs (List PV)} {Q:VK} (P:PostE K E H b (r.bind fun l s => .ok (.lst l) s) Q):PostN K E H b r Q:=by
 cases r with
 |ok l st=>exact fun p xs H' b' e hn hp hz S r=>P _ H' b' e S.bare (by unfold RV;exact ⟨p,xs,rfl,.inl ⟨.inl hp,S.zb p AK,hz⟩,RVs.sh Sh.bare l r⟩)
 |ex x st=>exact P
 |no=>exact P
theorem PostN.ext {K:W.Frag} {E:XK} {H H1:Hp} {b b1:Bz} {r:Rs (List PV)} {Q:VK} (h:PostN K E H b r Q) (e:Ext H b H1 b1):PostN K E H1 b1 r Q:=by
 cases r with
 |ok p st=>exact fun p xs H' b' e' hn=>h p xs H' b' (e.trans e') (e.none_of hn)
 |ex x st=>exact XP.ext h e
 |no=>exact h
theorem PostN.lay {K:W.Frag} {E:XK} {H:Hp} {b:Bz} {st:qB} {l:List PV} {xs:List V} {Q:VK} (P:PostN K E H b (.ok l st) Q) (S:SR K H b st) (r:RVs K H b l xs) {p:Addr} (h:H p=none):Q (.ref p) (upd H p (.lst xs)) :=
 P p xs _ b (Ext.new h) h Qa (S.new_notin h).2 (SR.hide S h) (RV.hide.hds h l r)
theorem PostE.layT {K:W.Frag} {E:XK} {H:Hp} {b:Bz} {st:qB} {l:List PV} {xs:List V} {Q:VK} (P:PostE K E H b (.ok (.tup l) st) Q) (S:SR K H b st) (r:RVs K H b l xs) {p:Addr} (h:H p=none):Q (.ref p) (upd H p (.tup xs)) :=
 P _ _ b (Ext.new h) (S.new h) (by unfold RV;exact ⟨p,xs,rfl,.inl ⟨Qa,S.new_notin h⟩,RVs.ext (Ext.new h) l r⟩)
theorem PostE.here {K:W.Frag} {E:XK} {H:Hp} {b:Bz} {st:qB} {p:PV} {v:V} {Q:VK} (P:PostE K E H b (.ok p st) Q) (S:SR K H b st) (r:RV K H b p v):Q v H:=P v H b (Ext.refl H b) S r
section
variable {X:Cx} {E:XK} {e a c d:Expr} {es:List Expr} {f fa fb fc:FE} {pos:Pos}
theorem wH {f:FL} (h:VN X E e f):VE X E e (vFz f):=PE.imp h fun s H Q ⟨b,r,st,S,R,P⟩=>⟨b,r,st,S,R,PostN.of P⟩
def vC (p:PV):FE:=fun _ st => .ok p st
def qC (i:Nat):FE:=fun r st=>match r[i]? with
 |some (some p) => .ok p st
 |_ => .no
theorem qB2 {p:PV} {v:V} (h:PE X e (tC v)) (hv:∀ H b,RV X.K H b p v):VE X E e (vC p):=PE.imp h fun s H Q ⟨b,r,st,S,R,P⟩=>PostE.here P S (hv H b)
theorem qM {i:Int} {j pos}:VE X E (.Constant (.int i) j pos) (vC (.int i)):=qB2 qEZ fun _ _=>by unfold RV;rfl
theorem zQ {i:Bool} {j pos}:VE X E (.Constant (.bool i) j pos) (vC (.bl i)):=qB2 qF1 fun _ _=>by unfold RV;rfl
theorem Q6 {j pos}:VE X E (.Constant .none j pos) (vC .non):=qB2 qBz fun _ _=>by unfold RV;rfl
theorem Zf {x:Str} {i:Int} {t:Tok} {pos:Pos} (hg:Gl X x) (hm:X.mg x=some (.int i t)) (hd:(x==("__debug__":Str))=false:=by decide):VE X E (.Name x pos) (vC (.int i)) :=
 qB2 (qDl (v := .int i) hg hm ⟨t,rfl⟩ hd) fun _ _=>by unfold RV;rfl
theorem qGK {i:Nat} (h:PE X e (qEy i)):VE X E e (qC i):=PE.imp h fun s H Q ⟨b,r,st,S,R,P⟩=>by
 unfold qC at P
 cases q:r[i]? with
 |none=>rw [q] at P;exact False.elim P
 |some o =>
  cases o with
  |none=>rw [q] at P;exact False.elim P
  |some p =>
   rw [q] at P
   obtain ⟨v,h1,h2⟩:=R.2 i p q
   exact ⟨v,h1,PostE.here P S h2⟩
def qJ (g:PV->PV->qB->Rs PV) (fa fb:FE):FE:=fun r st=>(fa r st).bind fun p s1=>(fb r s1).bind fun q s2=>g p q s2
def OpG (X:Cx) (E:XK) (t:R2) (g:PV->PV->qB->Rs PV):Prop :=
 ∀ (H:Hp) (b:Bz) (st:qB) (p q:PV) (u v:V) (Q:VK),SR X.K H b st->RV X.K H b p u->RV X.K H b q v->PostE X.K E H b (g p q st) Q->t u v H Q
theorem YB {t:R2} {g:PV->PV->qB->Rs PV} (hg:OpG X E t g):∀ s H Q,rd X.K E (qJ g fa fb) s H Q->tOp t (rd X.K E fa) (rd X.K E fb) s H Q:=fun s H Q ⟨b,r,st,S,R,P⟩ =>
 ⟨b,r,st,S,R,PostE.bind P fun p s1 u H1 b1 e1 S1 r1 P1=>⟨b1,r,s1,S1,R.ext e1,PostE.bind P1 fun q s2 v H2 b2 e2 S2 r2 P2=>hg H2 b2 s2 p q u v Q S2 (RV.ext e2 p r1) r2 P2⟩⟩
theorem ZS {op:Operator} {t:R2} {g:PV->PV->qB->Rs PV} (ho:OpR X (binaryOp op) t) (hg:OpG X E t g) (ha:VE X E a fa) (hb:VE X E c fb):VE X E (.BinOp a op c pos) (qJ g fa fb):=PE.imp (qGT ho ha hb) (YB hg)
theorem yJ {op:CmpOp} {t:R2} {g:PV->PV->qB->Rs PV} (ho:OpR X (compareOp op) t) (hg:OpG X E t g) (ha:VE X E a fa) (hb:VE X E c fb) (hm:behindInMarks op c=false:=by first |exact QT _ |with_unfolding_all rfl):VE X E (.Compare a [op] [c] pos) (qJ g fa fb):=PE.imp (qDJ ho ha hb hm) (YB hg)
def gI (g:Int->Int->Option PV):PV->PV->qB->Rs PV:=fun p q st=>match p,q with
 | .int i,.int j=>match g i j with
  |some z => .ok z st
  |none => .no
 |_,_ => .no
theorem qBQ {C:Int->Int->Prop} {h:Int->Int->V} {g:Int->Int->Option PV} (hg:∀ i j z,g i j=some z->C i j ∧ ∀ H b,RV X.K H b z (h i j)):OpG X E (rI C h) (gI g):=by
 intro H b st p q u v Q S rp rq P
 unfold gI at P
 split at P
 ·rename_i i j
  unfold RV at rp rq
  split at P
  ·rename_i z e
   obtain ⟨c,r⟩:=hg i j z e
   exact ⟨i,j,rp,rq,c,PostE.here P S (r H b)⟩
  ·exact P.elim
 ·exact P.elim
theorem jn {h:Int->Int->V} {g:Int->Int->PV} (hg:∀ i j H b,RV X.K H b (g i j) (h i j)):OpG X E (rI0 h) (gI fun i j=>some (g i j)):=by
 intro H b st p q u v Q S rp rq P
 unfold gI at P
 split at P
 ·rename_i i j
  unfold RV at rp rq
  exact ⟨i,j,rp,rq,PostE.here P S (hg i j H b)⟩
 ·exact P.elim
theorem Qk {K:W.Frag} {H:Hp} {b:Bz} {i:Int}:RV K H b (.int i) (.int i):=by unfold RV;rfl
theorem wY {K:W.Frag} {H:Hp} {b:Bz} {i:Bool}:RV K H b (.bl i) (.bl i):=by unfold RV;rfl
def za:=gI fun i j=>some (.int (i - j))
def W3:=gI fun i j=>if (-(2 ^ 64) < i∧i < 2 ^ 64)∨(-(2 ^ 64) < j∧j < 2 ^ 64) then some (.int (i * j)) else none
def qDd:=gI fun i j=>if 0 < j∧j < 1073741824 then some (.int (i / j)) else none
def Yi:=gI fun i j=>if 0 < j then some (.int (i % j)) else none
def qGf:=gI fun i j=>if 0≤j∧j≤1000000∧i.natAbs < 2 ^ 64 then some (.int (i ^ j.toNat)) else none
theorem ZI (ha:VE X E a fa) (hb:VE X E c fb):VE X E (.BinOp a .Sub c pos) (qJ za fa fb):=ZS qE9 (jn fun _ _ _ _=>Qk) ha hb
theorem ZH (ha:VE X E a fa) (hb:VE X E c fb):VE X E (.BinOp a .Mult c pos) (qJ W3 fa fb):=ZS qEj (qBQ fun i j z e=>by
 split at e
 ·rename_i h;cases e;exact ⟨h,fun _ _=>Qk⟩
 ·cases e) ha hb
theorem qFT (ha:VE X E a fa) (hb:VE X E c fb):VE X E (.BinOp a .FloorDiv c pos) (qJ qDd fa fb):=ZS qDu (qBQ fun i j z e=>by
 split at e
 ·rename_i h;cases e;exact ⟨h,fun _ _=>Qk⟩
 ·cases e) ha hb
theorem Yf (ha:VE X E a fa) (hb:VE X E c fb):VE X E (.BinOp a .Mod c pos) (qJ Yi fa fb):=ZS qE2 (qBQ fun i j z e=>by
 split at e
 ·rename_i h;cases e;exact ⟨h,fun _ _=>Qk⟩
 ·cases e) ha hb
theorem qFL (ha:VE X E a fa) (hb:VE X E c fb):VE X E (.BinOp a .Pow c pos) (qJ qGf fa fb):=ZS qFI (qBQ fun i j z e=>by
 split at e
 ·rename_i h;cases e;exact ⟨h,fun _ _=>Qk⟩
 ·cases e) ha hb
def QN:=gI fun i j=>some (.int (i + j))
theorem QO (ha:VE X E a fa) (hb:VE X E c fb):VE X E (.BinOp a .Add c pos) (qJ QN fa fb):=ZS qEe (jn fun _ _ _ _=>Qk) ha hb
def gLt:=gI fun i j=>some (.bl (decide (i < j)))
def gLe:=gI fun i j=>some (.bl (decide (i≤j)))
def gGt:=gI fun i j=>some (.bl (decide (j < i)))
theorem qBi:OpG X E (rI0 fun i j => .bl (decide (i < j))) gLt:=jn fun _ _ _ _=>wY
theorem WU:OpG X E (rI0 fun i j => .bl (decide (i≤j))) gLe:=jn fun _ _ _ _=>wY
theorem qCg:OpG X E (rI0 fun i j => .bl (decide (j < i))) gGt:=jn fun _ _ _ _=>wY
theorem qGQ (ha:VE X E a fa) (hb:VE X E c fb):VE X E (.Compare a [.Lt] [c] pos) (qJ gLt fa fb):=yJ qCw qBi ha hb
theorem qEM (ha:VE X E a fa) (hb:VE X E c fb):VE X E (.Compare a [.LtE] [c] pos) (qJ gLe fa fb):=yJ WS WU ha hb
theorem qGh (ha:VE X E a fa) (hb:VE X E c fb):VE X E (.Compare a [.Gt] [c] pos) (qJ gGt fa fb):=yJ qCO qCg ha hb
def wI (g g':PV->PV->qB->Rs PV) (fa fb fc:FE):FE:=fun r st=>(fa r st).bind fun p s1=>(fb r s1).bind fun q s2=>(g p q s2).bind fun z s3=>match z with
 | .bl true=>(fc r s3).bind fun w s4=>g' q w s4
 | .bl false => .ok (.bl false) s3
 |_ => .no
theorem zc {op op':CmpOp} {t t':R2} {g g':PV->PV->qB->Rs PV} (ho:OpR X (compareOp op) t) (ho':OpR X (compareOp op') t') (hg:OpG X E t g) (hg':OpG X E t' g') (ha:VE X E a fa) (hb:VE X E c fb) (hc:VE X E d fc)
  (hm:lastMarks [op,op'] [c,d]=false:=by with_unfolding_all rfl):VE X E (.Compare a [op,op'] [c,d] pos) (wI g g' fa fb fc):=by
 refine PE.imp (qBW ho ho' ha hb hc hm) fun s H Q ⟨b,r,st,S,R,P⟩ => ?_
 refine ⟨b,r,st,S,R,PostE.bind P fun p s1 u H1 b1 e1 S1 r1 P1=>⟨b1,r,s1,S1,R.ext e1,PostE.bind P1 fun q s2 v H2 b2 e2 S2 r2 P2 => ?_⟩⟩
 refine hg H2 b2 s2 p q u v _ S2 (RV.ext e2 p r1) r2 (PostE.bind P2 fun z s3 zv H3 b3 e3 S3 r3 P3 => ?_)
 split at P3
 ·unfold RV at r3
  refine ⟨true,r3,JU ⟨b3,r,s3,S3,((R.ext e1).ext e2).ext e3,PostE.bind P3 fun w s4 wv H4 b4 e4 S4 r4 P4 => ?_⟩⟩
  exact hg' H4 b4 s4 q w v wv Q S4 (RV.ext e4 q (RV.ext e3 q r2)) r4 P4
 ·unfold RV at r3
  exact ⟨false,r3,jw (PostE.here P3 S3 wY)⟩
 ·exact P3.elim
def qB7 (st:qB):PV->Option Bool
 | .non=>some false
 | .bl x=>some x
 | .int i=>some (i != 0)
 | .tup l=>some (!l.isEmpty)
 | .lst l=>some (!l.isEmpty)
 | .ref i=>(asL st (.ref i)).map fun l => !l.isEmpty
 |_=>none
theorem qCJ {K:W.Frag} {H:Hp} {b:Bz} {st:qB} {p:PV} {v:V} {k:Bool} (S:SR K H b st) (r:RV K H b p v) (h:qB7 st p=some k):qC5 K v H k:=by
 have emp:∀ {l:List PV} {xs:List V},RVs K H b l xs->(!l.isEmpty) = !xs.isEmpty:=fun {l xs} q=>by
  have:=q.length
  cases l <;> cases xs <;> first |rfl |(simp at this)
 cases p with
 |non=>unfold RV at r;subst r;exact (AZ h).symm
 |bl x=>unfold RV at r;subst r;exact (AZ h).symm
 |int x=>unfold RV at r;subst r;exact (AZ h).symm
 |tup l =>
  unfold RV at r
  obtain ⟨a,xs,rfl,h2,h3⟩:=r
  exact .inr (.inl ⟨xs,h2.sq,by rw [← emp h3];exact (AZ h).symm⟩)
 |lst l =>
  obtain ⟨a,xs,rfl,h2,h3⟩:=Q7 S r rfl
  exact .inl ⟨xs,h2,by rw [← emp h3];exact (AZ h).symm⟩
 |ref i =>
  unfold qB7 at h
  dsimp only at h
  cases q:asL st (.ref i) with
  |none=>rw [q] at h;cases h
  |some l =>
   rw [q] at h
   obtain ⟨a,xs,rfl,h2,h3⟩:=Q7 S r q
   exact .inl ⟨xs,h2,by rw [← emp h3];exact (AZ h).symm⟩
 |_=>cases h
def QV (f:FE):FT:=fun r st=>(f r st).bind fun p s=>match qB7 s p with
 |some k => .ok k s
 |none => .no
theorem qBK {R:Bool->Hp->Prop} {s:L2.St} {H:Hp} (h:rdT X.K E (QV f) s H R):rd X.K E f s H fun x H' => ∃ k,qC5 X.K x H' k∧R k H':=by
 obtain ⟨b,r,st,S,RE,P⟩:=h
 refine ⟨b,r,st,S,RE,PostE.bindT P fun p s1 u H1 b1 e1 S1 r1 P1 => ?_⟩
 split at P1
 ·rename_i k e;exact ⟨k,qCJ S1 r1 e,P1 H1 b1 (Ext.refl _ _) S1⟩
 ·exact P1.elim
theorem Wc (h:VE X E e f) (he:∀ whole,isTrue e X.env whole=(do let v ← whole;standAt e.pos;holding [v] (truthy v)):=by intro _;rfl):VT X E e (QV f):=PT.imp (qCA h he) fun s H Q q=>qBK q
def vTB (f:FE):FT:=fun r st=>(f r st).bind fun p s=>match p with
 | .bl k => .ok k s
 |_ => .no
theorem qBl {R:Bool->Hp->Prop} {s:L2.St} {H:Hp} (h:rdT X.K E (vTB f) s H R):rd X.K E f s H fun x H' => ∃ k,x = .bl k∧R k H':=by
 obtain ⟨b,r,st,S,RE,P⟩:=h
 refine ⟨b,r,st,S,RE,PostE.bindT P fun p s1 u H1 b1 e1 S1 r1 P1 => ?_⟩
 split at P1
 ·rename_i k;unfold RV at r1;exact ⟨k,r1,P1 H1 b1 (Ext.refl _ _) S1⟩
 ·exact P1.elim
theorem Qe {op:CmpOp} {t:R2} {g:PV->PV->qB->Rs PV} (ho:OpR X (compareOp op) t) (hg:OpG X E t g) (ha:VE X E a fa) (hb:VE X E c fb) (hm:behindInMarks op c=false:=by first |exact QT _ |with_unfolding_all rfl):VT X E (.Compare a [op] [c] pos) (vTB (qJ g fa fb)) :=
 PT.imp (qD1 ho ha hb hm) fun s H Q q=>YB hg s H _ (qBl q)
theorem qCa {op op':CmpOp} {t t':R2} {g g':PV->PV->qB->Rs PV} (ho:OpR X (compareOp op) t) (ho':OpR X (compareOp op') t') (hg:OpG X E t g) (hg':OpG X E t' g') (ha:VE X E a fa) (hb:VE X E c fb) (hc:VE X E d fc)
  (hm:lastMarks [op,op'] [c,d]=false:=by with_unfolding_all rfl):VT X E (.Compare a [op,op'] [c,d] pos) (vTB (wI g g' fa fb fc)):=by
 refine PT.imp (qBU ho ho' ha hb hc hm) fun s H Q q => ?_
 obtain ⟨b,r,st,S,R,P⟩:=qBl q
 refine ⟨b,r,st,S,R,PostE.bind P fun p s1 u H1 b1 e1 S1 r1 P1=>⟨b1,r,s1,S1,R.ext e1,PostE.bind P1 fun q s2 v H2 b2 e2 S2 r2 P2 => ?_⟩⟩
 refine hg H2 b2 s2 p q u v _ S2 (RV.ext e2 p r1) r2 (PostE.bind P2 fun z s3 zv H3 b3 e3 S3 r3 P3 => ?_)
 split at P3
 ·unfold RV at r3
  refine ⟨true,r3,JU ⟨b3,r,s3,S3,((R.ext e1).ext e2).ext e3,PostE.bind P3 fun w s4 wv H4 b4 e4 S4 r4 P4 => ?_⟩⟩
  exact hg' H4 b4 s4 q w v wv _ S4 (RV.ext e4 q (RV.ext e3 q r2)) r4 P4
 ·unfold RV at r3
  exact ⟨false,r3,jw (PostE.here P3 S3 wY)⟩
 ·exact P3.elim
def wU (f:FT):FT:=fun r st=>(f r st).bind fun k s => .ok (!k) s
theorem Wn {f:FT} (h:VT X E a f):VT X E (.UnaryOp .Not a pos) (wU f):=PT.imp (qFY h) fun s H Q ⟨b,r,st,S,R,P⟩=>⟨b,r,st,S,R,PostT.bindT P fun k s1 H1 b1 e1 S1 P1=>P1 H1 b1 (Ext.refl _ _) S1⟩
abbrev VW (X:Cx) (E:XK) (e:Expr) (f:FT):Prop:=PW X e (rdT X.K E f)
theorem PW.imp {X:Cx} {e:Expr} {t t':TT} (h:PW X e t) (i:∀ s H Q,t' s H Q->t s H Q):PW X e t':=fun w pins s σ H Q I q=>h w pins s σ H Q I (i _ _ _ q)
def Za (f g:FT):FT:=fun r st=>(f r st).bind fun k s=>if k=true then .ok true s else g r s
theorem Z9 {f:FT} (h:VT X E a f):VW X E (.BoolOp .Or [a] pos) f:=qFW h
theorem Zp {f g:FT} {rest:List Expr} (h:VT X E a f) (h2:VW X E (.BoolOp .Or (c::rest) pos) g):VW X E (.BoolOp .Or (a::c::rest) pos) (Za f g):=PW.imp (qGW h h2) fun s H Q ⟨b,r,st,S,R,P⟩ =>
 ⟨b,r,st,S,R,PostT.bindT P fun k s1 H1 b1 e1 S1 P1=>by
  cases k with
  |true=>exact JU (P1 H1 b1 (Ext.refl _ _) S1)
  |false=>exact jw ⟨b1,r,s1,S1,R.ext e1,P1⟩⟩
theorem qCZ {f:FT} (h:VW X E e f):VT X E e f:=h.pt
def qGS (f:FE):FE:=fun r st=>(f r st).bind fun p s=>match p with
 | .bl k => .ok (.bl (!k)) s
 |_ => .no
theorem qEg (h:VE X E a fa):VE X E (.UnaryOp .Not a pos) (qGS fa):=PE.imp (qFg h) fun s H Q ⟨b,r,st,S,R,P⟩ =>
 ⟨b,r,st,S,R,PostE.bind P fun p s1 u H1 b1 e1 S1 r1 P1=>by
  split at P1
  ·rename_i k;unfold RV at r1;exact ⟨k,r1,PostE.here P1 S1 wY⟩
  ·exact P1.elim⟩
def Zu (f g:FE):FE:=fun r st=>(f r st).bind fun p s=>match p with
 | .bl true=>g r s
 | .bl false => .ok (.bl false) s
 |_ => .no
def vOr (f g:FE):FE:=fun r st=>(f r st).bind fun p s=>match p with
 | .bl true => .ok (.bl true) s
 | .bl false=>g r s
 |_ => .no
theorem ZA {op} (h:VE X E a fa):VE X E (.BoolOp op [a] pos) fa:=qFx h
theorem ZC {rest:List Expr} (h:VE X E a fa) (h2:VE X E (.BoolOp .And (c::rest) pos) fb):VE X E (.BoolOp .And (a::c::rest) pos) (Zu fa fb):=PE.imp (qEw h h2) fun s H Q ⟨b,r,st,S,R,P⟩ =>
 ⟨b,r,st,S,R,PostE.bind P fun p s1 u H1 b1 e1 S1 r1 P1=>by
  split at P1
  ·unfold RV at r1;exact ⟨true,r1,JU ⟨b1,r,s1,S1,R.ext e1,P1⟩⟩
  ·unfold RV at r1;exact ⟨false,r1,jw (PostE.here P1 S1 wY)⟩
  ·exact P1.elim⟩
theorem qEE {rest:List Expr} (h:VE X E a fa) (h2:VE X E (.BoolOp .Or (c::rest) pos) fb):VE X E (.BoolOp .Or (a::c::rest) pos) (vOr fa fb):=PE.imp (qGB h h2) fun s H Q ⟨b,r,st,S,R,P⟩ =>
 ⟨b,r,st,S,R,PostE.bind P fun p s1 u H1 b1 e1 S1 r1 P1=>by
  split at P1
  ·unfold RV at r1;exact ⟨true,r1,JU (PostE.here P1 S1 wY)⟩
  ·unfold RV at r1;exact ⟨false,r1,jw ⟨b1,r,s1,S1,R.ext e1,P1⟩⟩
  ·exact P1.elim⟩
def vIf (t:FT) (f g:FE):FE:=fun r st=>(t r st).bind fun k s=>if k=true then f r s else g r s
theorem qGJ {t:FT} (hc:VT X E e t) (ha:VE X E a fa) (hb:VE X E c fb):VE X E (.IfExp e a c pos) (vIf t fa fb):=PE.imp (qB1 hc ha hb) fun s H Q ⟨b,r,st,S,R,P⟩ =>
 ⟨b,r,st,S,R,PostT.bind P fun k s1 H1 b1 e1 S1 P1=>by
  cases k with
  |true=>exact JU ⟨b1,r,s1,S1,R.ext e1,P1⟩
  |false=>exact jw ⟨b1,r,s1,S1,R.ext e1,P1⟩⟩
def qD:FA:=fun _ st => .ok [] st
def qA (f:FE) (g:FA):FA:=fun r st=>(f r st).bind fun p s=>(g r s).bind fun ps s' => .ok (p::ps) s'
theorem qF:VA X E [] qD:=PA.imp JZ fun s H Q ⟨b,r,st,S,R,P⟩=>P [] H b (Ext.refl _ _) S RVs.nil
theorem QY {f:FE} {g:FA} (h:VE X E e f) (h2:VA X E es g) (hs:starEach (e::es) X.env=(false,eval e X.env)::starEach es X.env:=by rfl):VA X E (e::es) (qA f g):=PA.imp (YV h h2 hs) fun s H Q ⟨b,r,st,S,R,P⟩ =>
 ⟨b,r,st,S,R,PostE.bindA P fun p s1 u H1 b1 e1 S1 r1 P1=>⟨b1,r,s1,S1,R.ext e1,PostA.bindA P1 fun ps s2 us H2 b2 e2 S2 r2 P2=>P2 (u::us) H2 b2 (Ext.refl _ _) S2 (RVs.cons (RV.ext e2 p r1) r2)⟩⟩
def w9 (g:FA):FE:=fun r st=>(g r st).bind fun ps s=>if ps.length≤sizeLine then .ok (.tup ps) s else .no
theorem Wx {g:FA} {x1} (h:VA X E es g):VE X E (.Tuple es x1 pos) (w9 g):=PE.imp (qE0 h) fun s H Q ⟨b,r,st,S,R,P⟩ =>
 ⟨b,r,st,S,R,PostA.bind P fun ps s1 us H1 b1 e1 S1 r1 P1=>by
  split at P1
  ·rename_i hl;exact ⟨by rw [← r1.length];exact hl,fun p hp=>PostE.layT P1 S1 r1 hp⟩
  ·exact P1.elim⟩
def ZD (g:FA):FL:=fun r st=>(g r st).bind fun ps s=>if ps.length≤sizeLine then .ok ps s else .no
theorem PostA.bindN {K:W.Frag} {E:XK} {H:Hp} {b:Bz} {r:Rs (List PV)} {k:List PV->qB->Rs (List PV)} {Q:VK} {R:List V->Hp->Prop} (P:PostN K E H b (r.bind k) Q)
  (h:∀ p st v H1 b1,Ext H b H1 b1->SR K H1 b1 st->RVs K H1 b1 p v->PostN K E H1 b1 (k p st) Q->R v H1):PostA K E H b r R:=by
 cases r with
 |ok p st=>exact fun v H1 b1 e S r=>h p st v H1 b1 e S r (PostN.ext (show PostN K E H b (k p st) Q from P) e)
 |ex x st=>exact P
 |no=>exact P
theorem zU {g:FA} (h:VA X E es g):VN X E (.List es pos) (ZD g):=PE.imp (qFh h) fun s H Q ⟨b,r,st,S,R,P⟩ =>
 ⟨b,r,st,S,R,PostA.bindN P fun ps s1 us H1 b1 e1 S1 r1 P1=>by
  split at P1
  ·rename_i hl;exact ⟨by rw [← r1.length];exact hl,fun p hp=>PostN.lay P1 S1 r1 hp⟩
  ·exact P1.elim⟩
theorem qDk {K:W.Frag} {H:Hp} {b:Bz} {l:List PV} {xs:List V} {i:Int} {p:PV} (r:RVs K H b l xs) (h:atI l i=some p):∃ x,atI xs i=some x∧RV K H b p x:=by
 unfold atI at h ⊢
 rw [← r.length]
 cases q:ixN l.length i with
 |none=>rw [q] at h;cases h
 |some j=>rw [q] at h;exact r.get h
def gIx:PV->PV->qB->Rs PV:=fun p q st=>match q with
 | .int i=>match zj st p with
  |some l=>match atI l i with
   |some z => .ok z st
   |none => .no
  |none => .no
 |_ => .no
theorem q8 (ha:VE X E a fa) (hb:VE X E c fb) (hs:qAH c:=by exact fun _ _=>rfl):VE X E (.Subscript a c pos) (qJ gIx fa fb):=PE.imp (qF2 qEh ha hb hs) (YB fun H b st p q u v Q S rp rq P=>by
 unfold gIx at P
 split at P
 ·rename_i i
  unfold RV at rq
  split at P
  ·rename_i l e
   split at P
   ·rename_i z ez
    obtain ⟨x1,xs,h1,h2,h3⟩:=YY S rp e
    obtain ⟨x,h4,h5⟩:=qDk h3 ez
    rcases h2 with h2 |h2
    ·exact .inl ⟨x1,xs,i,x,h1,rq,h2,h4,PostE.here P S h5⟩
    ·exact .inr (.inl ⟨x1,xs,i,x,h1,rq,h2,h4,PostE.here P S h5⟩)
   ·exact P.elim
  ·exact P.elim
 ·exact P.elim)
def qH (g:List PV->qB->Rs PV) (t:FA):FE:=fun r st=>(t r st).bind fun ps s=>g ps s
def spG (K:W.Frag) (n:Nat) (g:List PV->qB->Rs PV):Sp:=fun vs H Q E=>vs.length=n ∧ ∃ b ps st,SR K H b st∧RVs K H b ps vs∧PostE K E H b (g ps st) Q
def qFN (X:Cx) (E:XK) (x:Str) (g:List PV->qB->Rs PV):Prop := ∀ (p pos:Pos) (e:Expr) (es:List Expr) (t:FA),VA X E (e::es) t->starEach (e::es) X.env=(false,eval e X.env)::starEach es X.env->(backTo pos (starEach es X.env)).any (·.1)=false->VE X E (.Call (.Name x p) (e::es) [] pos) (qH g t)
theorem qS {x:Str} {g:List PV->qB->Rs PV} {t:FA} {p:Pos} (hc:qFN X E x g) (ha:VA X E (e::es) t) (he:starEach (e::es) X.env=(false,eval e X.env)::starEach es X.env:=by rfl) (hpl:(backTo pos (starEach es X.env)).any (·.1)=false:=by rfl):VE X E (.Call (.Name x p) (e::es) [] pos) (qH g t):=hc p pos e es t ha he hpl
theorem qHN {CX:CXT} {k n:Nat} {fa:Addr} {fd:FuncData} {ps:List Str} {x:Str} {g:List PV->qB->Rs PV} (F:FnOk X.prog X.w X.K X.mg X.base CX k fa fd ps (spG X.K ps.length g)) (hr:Room k X.A) (hg:Gl X x) (hm:X.mg x=some (.ref fa)) (hk:W.keepIn X.K (.ref fa)=true)
  (hb:Binds X.K fd ps []) (hx:z8 CX X E) (hlen:∀ l st,g l st ≠ .no->l.length=ps.length) (hdb:(x==("__debug__":Str))=false:=by decide):qFN X E x g:=fun p pos e es t ha he hpl =>
 PE.imp (qDY F hr hg hm hk hb .nil hx ha hdb he hpl) fun s H Q ⟨b,r,st,S,R,P⟩=>⟨b,r,st,S,R,PostA.bind P fun l s1 us H1 b1 e1 S1 r1 P1=>by
  have hne:g l s1 ≠ .no:=fun z=>by rw [z] at P1;exact P1
  rw [Bl]
  exact ⟨by rw [← r1.length];exact hlen l s1 hne,b1,l,s1,S1,r1,P1⟩⟩
def zi (X:Cx) (E:XK) (t:List V->Hp->VK->Prop) (g:List PV->qB->Rs PV):Prop :=
 ∀ (H:Hp) (b:Bz) (st:qB) (ps:List PV) (vs:List V) (Q:VK),SR X.K H b st->RVs X.K H b ps vs->PostE X.K E H b (g ps st) Q->t vs H Q
theorem Q9 {x:Str} {id:String} {t:List V->Hp->VK->Prop} {g:List PV->qB->Rs PV} {ta:FA} {p:Pos} (hc:wu X (.builtin id) t) (hG:zi X E t g) (hg:Gl X x) (hm:X.mg x=none) (hv:bootBuiltins x=some (.builtin id)) (ha:VA X E (e::es) ta) (hn:x ≠ "__name__" := by decide) (hdb:(x==("__debug__":Str))=false:=by decide)
  (he:starEach (e::es) X.env=(false,eval e X.env)::starEach es X.env:=by rfl) (hpl:(backTo pos (starEach es X.env)).any (·.1)=false:=by rfl):VE X E (.Call (.Name x p) (e::es) [] pos) (qH g ta) :=
 PE.imp (qCt hc hg hm hv ha hn hdb he hpl) fun s H Q ⟨b,r,st,S,R,P⟩=>⟨b,r,st,S,R,PostA.bind P fun l s1 us H1 b1 e1 S1 r1 P1=>hG H1 b1 s1 l us Q S1 r1 P1⟩
theorem qA1 {x:Str} {T:String} {t:List V->Hp->VK->Prop} {g:List PV->qB->Rs PV} {ta:FA} {p:Pos} (hc:wu X (.type T) t) (hG:zi X E t g) (hg:Gl X x) (hm:X.mg x=none) (hv:bootBuiltins x=some (.type T)) (ha:VA X E (e::es) ta) (hn:x ≠ "__name__" := by decide) (hdb:(x==("__debug__":Str))=false:=by decide)
  (he:starEach (e::es) X.env=(false,eval e X.env)::starEach es X.env:=by rfl) (hpl:(backTo pos (starEach es X.env)).any (·.1)=false:=by rfl):VE X E (.Call (.Name x p) (e::es) [] pos) (qH g ta) :=
 PE.imp (ye hc hg hm hv ha hn hdb he hpl) fun s H Q ⟨b,r,st,S,R,P⟩=>⟨b,r,st,S,R,PostA.bind P fun l s1 us H1 b1 e1 S1 r1 P1=>hG H1 b1 s1 l us Q S1 r1 P1⟩
theorem RVs.one {K:W.Frag} {H:Hp} {b:Bz} {p:PV} {vs:List V} (h:RVs K H b [p] vs):∃ v,vs=[v]∧RV K H b p v:=by
 unfold RVs at h
 obtain ⟨x,r,rfl,h2,h3⟩:=h
 unfold RVs at h3;subst h3
 exact ⟨x,rfl,h2⟩
theorem RVs.two {K:W.Frag} {H:Hp} {b:Bz} {p q:PV} {vs:List V} (h:RVs K H b [p,q] vs):∃ v w,vs=[v,w]∧RV K H b p v∧RV K H b q w:=by
 unfold RVs at h
 obtain ⟨x,r,rfl,h2,h3⟩:=h
 obtain ⟨y,rfl,h4⟩:=RVs.one h3
 exact ⟨x,y,rfl,h2,h4⟩
def WA:List PV->qB->Rs PV:=fun ps st=>match ps with
 |[p]=>match zj st p with
  |some l => .ok (.int l.length) st
  |none => .no
 |_ => .no
theorem qE8:zi X E (fun xs H Q => ∃ p ys,xs=[.ref p]∧(SqL X.K H p ys∨SqT X.K H p ys)∧Q (.int ys.length) H) WA:=by
 intro H b st ps vs Q S r P
 unfold WA at P
 split at P
 ·rename_i p
  obtain ⟨v,rfl,r1⟩:=RVs.one r
  split at P
  ·rename_i l e
   obtain ⟨a,xs,rfl,h2,h3⟩:=YY S r1 e
   refine ⟨a,xs,rfl,h2,?_⟩
   rw [← h3.length]
   exact PostE.here P S Qk
  ·exact P.elim
 ·exact P.elim
def Wl:List PV->qB->Rs PV:=fun ps st=>match ps with
 |[p]=>match zj st p with
  |some l => .ok (.tup l) st
  |none => .no
 |_ => .no
theorem qCp:zi X E (fun xs H Q => ∃ p ys,xs=[.ref p]∧((SqL X.K H p ys ∧ ∀ l,H l=none->Q (.ref l) (upd H l (.tup ys)))∨(SqT X.K H p ys∧Q (.ref p) H))) Wl:=by
 intro H b st ps vs Q S r P
 unfold Wl at P
 split at P
 ·rename_i p
  obtain ⟨v,rfl,r1⟩:=RVs.one r
  split at P
  ·rename_i l e
   cases p with
   |tup m =>
    have e':m=l:=AZ e
    subst e'
    have r0:=r1
    unfold RV at r1
    obtain ⟨a,xs,rfl,h2,h3⟩:=r1
    exact ⟨a,xs,rfl,.inr ⟨h2.sq,PostE.here P S r0⟩⟩
   |lst m =>
    obtain ⟨a,xs,rfl,h2,h3⟩:=Q7 S r1 e
    exact ⟨a,xs,rfl,.inl ⟨h2,fun p hp=>PostE.layT P S h3 hp⟩⟩
   |ref i =>
    obtain ⟨a,xs,rfl,h2,h3⟩:=Q7 S r1 e
    exact ⟨a,xs,rfl,.inl ⟨h2,fun p hp=>PostE.layT P S h3 hp⟩⟩
   |_=>cases e
  ·exact P.elim
 ·exact P.elim
def qCf:List PV->qB->Rs PV:=fun ps st=>match ps with
 |[.int i,.int j] => .ok (.int (if j > i then j else i)) st
 |_ => .no
def qB4:List PV->qB->Rs PV:=fun ps st=>match ps with
 |[.int i,.int j] => .ok (.int (if j < i then j else i)) st
 |_ => .no
theorem qFJ:zi X E (fun xs H Q => ∃ i j,xs=[.int i,.int j]∧Q (.int (if j > i then j else i)) H) qCf:=by
 intro H b st ps vs Q S r P
 unfold qCf at P
 split at P
 ·obtain ⟨v,w,rfl,r1,r2⟩:=RVs.two r
  unfold RV at r1 r2;subst r1;subst r2
  exact ⟨_,_,rfl,PostE.here P S Qk⟩
 ·exact P.elim
theorem qEs:zi X E (fun xs H Q => ∃ i j,xs=[.int i,.int j]∧Q (.int (if j < i then j else i)) H) qB4:=by
 intro H b st ps vs Q S r P
 unfold qB4 at P
 split at P
 ·obtain ⟨v,w,rfl,r1,r2⟩:=RVs.two r
  unfold RV at r1 r2;subst r1;subst r2
  exact ⟨_,_,rfl,PostE.here P S Qk⟩
 ·exact P.elim
end
def Q8:FS:=fun r st => .nx r st
def qV (F G:FS):FS:=fun r st=>match F r st with
 | .nx r' st'=>G r' st'
 |o=>o
section
variable {X:Cx} {E:XK} {e a c d:Expr} {es:List Expr} {f fa fb fc:FE} {pos:Pos} {F G:FS} {s1:Stmt} {ss:List Stmt}
theorem QP:VSs X E [] Q8:=PSs.imp qDQ fun D s H ⟨b,r,st,S,R,P⟩=>P s H b (Ext.refl _ _) S R
theorem PostS.seq {K:W.Frag} {E:XK} {H:Hp} {b:Bz} {o:RS} {G:FS} {D:Ends} (P:PostS K E H b (match o with | .nx r' st'=>G r' st' |o=>o) D):PostS K E H b o { D with nx:=rdS K E G D }:=by
 cases o with
 |nx r st=>exact fun s H' b' e S R=>⟨b',r,st,S,R,PostS.ext (show PostS K E H b (G r st) D from P) e⟩
 |rt p st=>exact P
 |bk p st=>exact P
 |ct p st=>exact P
 |ex x st=>exact P
 |no=>exact P
theorem qN (h1:VS X E s1 F) (h2:VSs X E ss G):VSs X E (s1::ss) (qV F G):=PSs.imp (qCl h1 h2) fun D s H ⟨b,r,st,S,R,P⟩=>⟨b,r,st,S,R,PostS.seq P⟩
theorem qU (h1:VS X E s1 F):VSs X E [s1] F:=qDe h1
def wp (f:FE):FS:=fun r st=>(f r st).bindS fun _ s => .nx r s
theorem zq (h:VE X E e f) (hs:swapsWith e none pos.line X.env=pure false:=by rfl):VS X E (.Expr e pos) (wp f):=PS.imp (Jh h hs) fun D s H ⟨b,r,st,S,R,P⟩ =>
 ⟨b,r,st,S,R,PostE.bindS P fun p s1 u H1 b1 e1 S1 r1 P1=>P1 s H1 b1 (Ext.refl _ _) S1 (R.ext e1)⟩
def qr (f:FE):FS:=fun r st=>(f r st).bindS fun p s => .rt p s
theorem qj (h:VE X E e f):VS X E (.Return (some e) pos) (qr f):=PS.imp (qCS h) fun D s H ⟨b,r,st,S,R,P⟩ =>
 ⟨b,r,st,S,R,PostE.bindS P fun p s1 u H1 b1 e1 S1 r1 P1=>P1 u H1 b1 (Ext.refl _ _) S1 r1⟩
def Zs (f:FL):FS:=fun r st=>(f r st).bindS fun l s => .rt (.ref s.length) (s++[.l l])
def wX (t:FT) (F G:FS):FS:=fun r st=>(t r st).bindS fun k s=>if k=true then F r s else G r s
theorem wa {t:FT} {bs cs:List Stmt} (hc:VT X E e t) (ha:VSs X E bs F) (hb:VSs X E cs G):VS X E (.If e bs cs pos) (wX t F G):=PS.imp (qGD hc ha hb) fun D s H ⟨b,r,st,S,R,P⟩ =>
 ⟨b,r,st,S,R,PostT.bindS P fun k s1 H1 b1 e1 S1 P1=>by
  cases k with
  |true=>exact JU ⟨b1,r,s1,S1,R.ext e1,P1⟩
  |false=>exact jw ⟨b1,r,s1,S1,R.ext e1,P1⟩⟩
def qp (i:Nat) (f:FE):FS:=fun r st=>(f r st).bindS fun p s => .nx (r.set i (some p)) s
theorem QM (i:Nat) {x:Str} {p':Pos} (hN:X.N.Nodup) (h:VE X E e f) (hi:X.N[i]? = some x:=by rfl) (hx:Loc X.env.scope x:=by first |exact Or.inl rfl |exact Or.inr rfl) (hs:swapsWith e (some (.Name x p')) pos.line X.env=pure false:=by rfl) (hf:X.fn x=true∨X.env.scope.names.lookup x=some .local:=by first |exact .inl rfl |exact .inr rfl |assumption) :
  VS X E (.Assign [.Name x p'] e pos) (qp i f):=PS.imp (qBx hN hi hx h hs hf) fun D s H ⟨b,r,st,S,R,P⟩ =>
 ⟨b,r,st,S,R,PostE.bindS P fun p s1 u H1 b1 e1 S1 r1 P1=>P1 _ H1 b1 (Ext.refl _ _) S1 ((R.ext e1).set r1 i)⟩
def ZN (i:Nat) (f:FL):FS:=fun r st=>(f r st).bindS fun l s => .nx (r.set i (some (.ref s.length))) (s++[.l l])
theorem Ext.adopt {H H':Hp} {b b':Bz} {p:Addr} (e:Ext H b H' b') (hn:H p=none):Ext H b H' ⟨b'.b++[p],b'.z⟩:=by
 obtain ⟨n,hb,hh⟩:=e.more
 refine ⟨⟨⟨n++[p],by rw [hb,Ba],fun a ha => ?_⟩,e.zm,e.keep,e.dom⟩,e.same,e.hid,e.fz⟩
 rcases A1.mp ha with ha |ha
 ·exact hh a ha
 ·rw [AW.mp ha];exact hn
theorem PostN.bindS {K:W.Frag} {E:XK} {H:Hp} {b:Bz} {r:Rs (List PV)} {k:PV->qB->RS} {D:Ends} {R:VK} (P:PostS K E H b (r.bindS fun l s=>k (.ref s.length) (s++[.l l])) D)
  (h:∀ q st v H1 b1,Ext H b H1 b1->SR K H1 b1 st->RV K H1 b1 q v->PostS K E H1 b1 (k q st) D->R v H1):PostN K E H b r R:=by
 cases r with
 |ok l st =>
  intro p xs H' b' e hn hp hz S rs
  have e':=e.adopt hn
  have hl:b'.b.length=st.length:=S.len
  refine h (.ref st.length) (st++[.l l]) (.ref p) H' ⟨b'.b++[p],b'.z⟩ e' (S.slot (x := .l l) hz hp ⟨xs,rfl,rs⟩) ?_ (PostS.ext (show PostS K E H b (k (.ref st.length) (st++[.l l])) D from P) e')
  unfold RV
  exact ⟨p,rfl,by show (b'.b++[p])[st.length]? = some p;rw [← hl];simp⟩
 |ex x st=>exact P
 |no=>exact P
theorem Js (i:Nat) {f:FL} {x:Str} {p':Pos} (hN:X.N.Nodup) (h:VN X E e f) (hi:X.N[i]? = some x:=by rfl) (hx:Loc X.env.scope x:=by first |exact Or.inl rfl |exact Or.inr rfl) (hs:swapsWith e (some (.Name x p')) pos.line X.env=pure false:=by rfl) (hf:X.fn x=true∨X.env.scope.names.lookup x=some .local:=by first |exact .inl rfl |exact .inr rfl |assumption) :
  VS X E (.Assign [.Name x p'] e pos) (ZN i f):=PS.imp (qBx hN hi hx h hs hf) fun D s H ⟨b,r,st,S,R,P⟩ =>
 ⟨b,r,st,S,R,PostN.bindS (k:=fun q s => .nx (r.set i (some q)) s) P fun p s1 u H1 b1 e1 S1 r1 P1=>P1 _ H1 b1 (Ext.refl _ _) S1 ((R.ext e1).set r1 i)⟩
theorem qAO {f:FL} (h:VN X E e f):VS X E (.Return (some e) pos) (Zs f):=PS.imp (qCS h) fun D s H ⟨b,r,st,S,R,P⟩ =>
 ⟨b,r,st,S,R,PostN.bindS (k:=fun q s => .rt q s) P fun p s1 u H1 b1 e1 S1 r1 P1=>P1 u H1 b1 (Ext.refl _ _) S1 r1⟩
abbrev FG:=PV->qo->Option qo
abbrev FGs:=List PV->qo->Option qo
def rdG (K:W.Frag) (g:FG):TG:=fun v s H Q => ∃ b r p st,SR K H b st∧REnv K H b r s∧RV K H b p v ∧ ∃ r',g p r=some r' ∧ ∀ s',REnv K H b r' s'->Q s' H
def qHO (K:W.Frag) (g:FGs):TGs:=fun v s H Q => ∃ b r p st,SR K H b st∧REnv K H b r s∧RVs K H b p v ∧ ∃ r',g p r=some r' ∧ ∀ s',REnv K H b r' s'->Q s' H
abbrev VG (X:Cx) (e:Expr) (g:FG):Prop:=PG X e (rdG X.K g)
abbrev VGs (X:Cx) (e:List Expr) (g:FGs):Prop:=PGs X e (qHO X.K g)
theorem PG.imp {X:Cx} {e:Expr} {t t':TG} (h:PG X e t) (i:∀ v s H Q,t' v s H Q->t v s H Q):PG X e t':=fun pins s σ H v u Q I r q=>h pins s σ H v u Q I r (i _ _ _ _ q)
theorem PGs.imp {X:Cx} {e:List Expr} {t t':TGs} (h:PGs X e t) (i:∀ v s H Q,t' v s H Q->t v s H Q):PGs X e t':=fun pins s σ H v u Q I r q=>h pins s σ H v u Q I r (i _ _ _ _ q)
def wV (i:Nat):FG:=fun p r=>some (r.set i (some p))
theorem wj (i:Nat) {x:Str} (hN:X.N.Nodup) (hi:X.N[i]? = some x:=by rfl) (hx:Loc X.env.scope x:=by first |exact Or.inl rfl |exact Or.inr rfl) (hf:X.fn x=true∨X.env.scope.names.lookup x=some .local:=by first |exact .inl rfl |exact .inr rfl |assumption):VG X (.Name x pos) (wV i) :=
 PG.imp (qDm hN hi hx hf) fun v s H Q ⟨b,r,p,st,S,R,rv,r',e,q⟩=>q _ (by cases e;exact R.set rv i)
def w5:FGs:=fun l r=>match l with
 |[]=>some r
 |_=>none
def qe (g:FG) (gs:FGs):FGs:=fun l r=>match l with
 |p::ps=>match g p r with
  |some r'=>gs ps r'
  |none=>none
 |[]=>none
theorem WK:VGs X [] w5:=PGs.imp qDa fun v s H Q ⟨b,r,p,st,S,R,rv,r',e,q⟩=>by
 cases p with
 |nil=>unfold RVs at rv;subst rv;cases e;exact ⟨rfl,q s R⟩
 |cons _ _=>cases e
theorem qz {g:FG} {gs:FGs} (h1:VG X e g) (h2:VGs X es gs) (hs:(assignEach (e::es) X.env).map (·.2)=assign e X.env::(assignEach es X.env).map (·.2):=by rfl):VGs X (e::es) (qe g gs) :=
 PGs.imp (qB8 h1 h2 hs) fun v s H Q ⟨b,r,p,st,S,R,rv,r',e,q⟩=>by
  cases p with
  |nil=>cases e
  |cons p ps =>
   unfold RVs at rv
   obtain ⟨x,xr,rfl,h3,h4⟩:=rv
   unfold qe at e
   dsimp only at e
   cases e2:g p r with
   |none=>rw [e2] at e;cases e
   |some r2 =>
    rw [e2] at e
    exact ⟨x,xr,rfl,b,r,p,st,S,R,h3,r2,e2,fun s' R'=>⟨b,r2,ps,st,S,R',h4,r',e,q⟩⟩
def wk (n:Nat) (gs:FGs):FG:=fun p r=>match p with
 | .tup l=>if l.length=n then gs l r else none
 |_=>none
theorem W9 {k:Nat} {n:Nat} {gs:FGs} (hc:X.calm=true) (h:VGs X es gs) (hn:(assignEach es X.env).length=n:=by rfl) (hst:(assignEach es X.env).findIdx? (·.1)=none:=by rfl):VG X (.Tuple es k pos) (wk n gs) :=
 PG.imp (qFv hc h hn hst) fun v s H Q ⟨b,r,p,st,S,R,rv,r',e,q⟩=>by
  unfold wk at e
  split at e
  ·rename_i l
   split at e
   ·rename_i hl
    unfold RV at rv
    obtain ⟨a,xs,rfl,h2,h3⟩:=rv
    exact ⟨a,xs,rfl,h2.sq,by rw [← h3.length];exact hl,b,r,l,st,S,R,h3,r',e,q⟩
   ·cases e
  ·cases e
def Jz (f:FE) (g:FG):FS:=fun r st=>(f r st).bindS fun p s=>match g p r with
 |some r' => .nx r' s
 |none => .no
theorem qEv {g:FG} (h:VE X E e f) (hg:VG X d g) (hs:swapsWithSole [d] e pos.line X.env=pure false:=by rfl) (hw:swappedStores [d] e X.env=pure none:=by rfl)
  (h1:(assignEach [d] X.env).map (·.2)=[assign d X.env]:=by rfl):VS X E (.Assign [d] e pos) (Jz f g):=PS.imp (qBc h hg hs hw h1) fun D s H ⟨b,r,st,S,R,P⟩ =>
 ⟨b,r,st,S,R,PostE.bindS P fun p s1 u H1 b1 e1 S1 r1 P1=>by
  cases e2:g p r with
  |none=>rw [e2] at P1;exact P1.elim
  |some r'=>rw [e2] at P1;exact ⟨b1,r,p,s1,S1,R.ext e1,r1,r',e2,fun s' R'=>P1 s' H1 b1 (Ext.refl _ _) S1 R'⟩⟩
def Jn (i j:Nat) (t:FA):FS:=fun r st=>(t r st).bindS fun l s=>match l with
 |[p,q] => .nx ((r.set i (some p)).set j (some q)) s
 |_ => .no
theorem qFU (i j:Nat) {x y:Str} {t:FA} {px py pt:Pos} {kt k2 pt2} (hc:X.calm=true) (hN:X.N.Nodup) (ha:VA X E [a,c] t) (hw:swappedStores [.Tuple [.Name x px,.Name y py] kt pt] (.Tuple [a,c] k2 pt2) X.env=pure (some [x,y]):=by rfl)
  (hi:X.N[i]? = some x:=by rfl) (hj:X.N[j]? = some y:=by rfl) (hij:i≠j:=by decide) (hx:X.env.scope.names.lookup x=some .local:=by rfl) (hy:X.env.scope.names.lookup y=some .local:=by rfl)
  (hs:swapsWithSole [.Tuple [.Name x px,.Name y py] kt pt] (.Tuple [a,c] k2 pt2) pos.line X.env=pure false:=by rfl):VS X E (.Assign [.Tuple [.Name x px,.Name y py] kt pt] (.Tuple [a,c] k2 pt2) pos) (Jn i j t) :=
 PS.imp (qFQ hc hN hi hj hij hx hy ha hw hs) fun D s H ⟨b,r,st,S,R,P⟩=>⟨b,r,st,S,R,PostA.bindS P fun l s1 us H1 b1 e1 S1 r1 P1=>by
  split at P1
  ·obtain ⟨u,v,rfl,h1,h2⟩:=RVs.two r1
   exact ⟨u,v,rfl,P1 _ H1 b1 (Ext.refl _ _) S1 (((R.ext e1).set h1 i).set h2 j)⟩
  ·exact P1.elim⟩
def yk (st:qB) (o i v:PV):Option qB:=match o,i with
 | .ref n,.int k=>match st[n]? with
  |some (.l xs)=>match ixN xs.length k with
   |some j=>some (st.set n (.l (xs.set j v)))
   |none=>none
  |_=>none
 |_,_=>none
def qB6 (fo fi f:FE):FS:=fun r st=>(f r st).bindS fun p s1=>(fo r s1).bindS fun o s2=>(fi r s2).bindS fun i s3=>match yk s3 o i p with
 |some s4 => .nx r s4
 |none => .no
theorem qB3 {K:W.Frag} {H:Hp} {b:Bz} {st st':qB} {o i p:PV} {ov iv v:V} {Q:Hp->Prop} (S:SR K H b st) (ro:RV K H b o ov) (ri:RV K H b i iv) (rp:RV K H b p v) (e:yk st o i p=some st')
  (q:∀ H' b',Ext H b H' b'->SR K H' b' st'->Q H'):qEP ov iv v H Q:=by
 unfold yk at e
 split at e
 ·rename_i n k
  split at e
  ·rename_i xs e1
   split at e
   ·rename_i j e2
    cases e
    unfold RV at ro ri
    obtain ⟨a,rfl,ha⟩:=ro
    obtain ⟨a',o',h1,h2,vs,rfl,h4⟩:=S.at_ n _ e1
    rw [ha] at h1;cases h1
    have hm:a∈b.b:=BE ha
    refine ⟨a,vs,k,j,rfl,ri,h2,by rw [← h4.length];exact e2,q _ b (Ext.wr hm S.zb (qFR h2)) (S.wr (x := .l (xs.set j p)) ha ⟨_,rfl,?_⟩)⟩
    have ew:Ext H b (upd H a (.lst (vs.set j v))) b:=Ext.wr hm S.zb (qFR h2)
    exact RVs.set (RV.ext ew p rp) j (RVs.ext ew xs h4)
   ·cases e
  ·cases e
 ·cases e
theorem qFb {fo fi:FE} {o i:Expr} {tpos:Pos} (ho:VE X E o fo) (hi:VE X E i fi) (h:VE X E e f)
  (hs:swapsWithSole [.Subscript o i tpos] e pos.line X.env=pure false:=by rfl) (hw:swappedStores [.Subscript o i tpos] e X.env=pure none:=by rfl) (h1:(assignEach [.Subscript o i tpos] X.env).map (·.2)=[assign (.Subscript o i tpos) X.env]:=by rfl)
  (ha:∀ v,assign (.Subscript o i tpos) X.env v=(do
   let ov ← holding [v] (eval o X.env)
   let iv ← holding [v,ov] (eval i X.env)
   standAt tpos
   holding [v,ov,iv] (setItem ov iv v)
   release [v,ov,iv] []):=by intro _;rfl):VS X E (.Assign [.Subscript o i tpos] e pos) (qB6 fo fi f) :=
 PS.imp (qBc h (qFX ho hi qCB ha) hs hw h1) fun D s H ⟨b,r,st,S,R,P⟩=>⟨b,r,st,S,R,PostE.bindS P fun p s1 u H1 b1 e1 S1 r1 P1 =>
  ⟨b1,r,s1,S1,R.ext e1,PostE.bindS P1 fun o s2 ou H2 b2 e2 S2 r2 P2=>⟨b2,r,s2,S2,(R.ext e1).ext e2,PostE.bindS P2 fun i s3 iu H3 b3 e3 S3 r3 P3=>by
   split at P3
   ·rename_i s4 e4
    exact qB3 S3 (RV.ext e3 o r2) r3 (RV.ext e3 p (RV.ext e2 p r1)) e4 fun H' b' e' S'=>P3 s H' b' e' S' ((((R.ext e1).ext e2).ext e3).ext e')
   ·exact P3.elim⟩⟩⟩
structure ItP where
 l:List PV
 G:qB->Prop
def Fz (H H':Hp):Prop := ∀ a o u,H a=some (.frz o u)->H' a=some (.frz o u)
def Zb (K:W.Frag) (H0:Hp) (b0:Bz) (J:It) (w:ItP):Prop := ∀ H1 b1 st1,WE H0 b0 H1 b1->Fz H0 H1->SR K H1 b1 st1->w.G st1 ->
 (∀ (i:Nat) (p:PV),w.l[i]? = some p->J.go i H1 ∧ ∀ x H2,J.yld i H1 x H2->Same H1 H2∧SR K H2 b1 st1∧RV K H2 b1 p x) ∧ ∀ i,w.l.length≤i->J.stop i H1
def PostI (K:W.Frag) (E:XK) (H:Hp) (b:Bz) (r:Rs ItP) (R:It->Hp->Prop):Prop:=match r with
 | .ok w st => ∀ J H' b',Ext H b H' b'->SR K H' b' st->Zb K H' b' J w->R J H'
 | .ex x st=>XP K E H b x st
 | .no=>False
abbrev FI:=qo->qB->Rs ItP
def rdI (K:W.Frag) (E:XK) (f:FI):TI:=fun s H R => ∃ b r st,SR K H b st∧REnv K H b r s∧PostI K E H b (f r st) R
abbrev VI (X:Cx) (E:XK) (tg e:Expr) (f:FI):Prop:=PI X tg e (rdI X.K E f)
theorem PostI.ext {K:W.Frag} {E:XK} {H H1:Hp} {b b1:Bz} {r:Rs ItP} {R:It->Hp->Prop} (h:PostI K E H b r R) (e:Ext H b H1 b1):PostI K E H1 b1 r R:=by
 cases r with
 |ok p st=>exact fun J H' b' e'=>h J H' b' (e.trans e')
 |ex x st=>exact XP.ext h e
 |no=>exact h
theorem PostE.bindI {K:W.Frag} {E:XK} {H:Hp} {b:Bz} {r:Rs PV} {k:PV->qB->Rs ItP} {Q:It->Hp->Prop} {R:VK} (P:PostI K E H b (r.bind k) Q)
  (h:∀ p st v H1 b1,Ext H b H1 b1->SR K H1 b1 st->RV K H1 b1 p v->PostI K E H1 b1 (k p st) Q->R v H1):PostE K E H b r R:=by
 cases r with
 |ok p st=>exact fun v H1 b1 e S r=>h p st v H1 b1 e S r (PostI.ext (show PostI K E H b (k p st) Q from P) e)
 |ex x st=>exact P
 |no=>exact P
theorem PostA.bindI {K:W.Frag} {E:XK} {H:Hp} {b:Bz} {r:Rs (List PV)} {k:List PV->qB->Rs ItP} {Q:It->Hp->Prop} {R:List V->Hp->Prop} (P:PostI K E H b (r.bind k) Q)
  (h:∀ p st v H1 b1,Ext H b H1 b1->SR K H1 b1 st->RVs K H1 b1 p v->PostI K E H1 b1 (k p st) Q->R v H1):PostA K E H b r R:=by
 cases r with
 |ok p st=>exact fun v H1 b1 e S r=>h p st v H1 b1 e S r (PostI.ext (show PostI K E H b (k p st) Q from P) e)
 |ex x st=>exact P
 |no=>exact P
def qDE (p:PV) (st:qB):Rs ItP:=match p with
 | .ref i=>match asL st (.ref i) with
  |some l => .ok ⟨l,fun s=>s[i]? = some (.l l)⟩ st
  |none => .no
 |p=>match zj st p with
  |some l => .ok ⟨l,fun _=>True⟩ st
  |none => .no
def qq (f:FE):FI:=fun r st=>(f r st).bind qDE
theorem qEz {l tg:Expr} {tl:TE} (hl:PE X l tl):PI X tg l (fun σ H R=>tl σ H fun x H1 => ∃ a,x = .ref a∧(((∃ xs,SqL X.K H1 a xs)∧R (Itl X.K a) H1)∨((∃ xs,SqT X.K H1 a xs)∧R (Itt X.K a) H1))):=by
 intro pins s σ H R I h
 refine thn (hl pins s σ H _ I h) fun v s1 ⟨x,H1,I1,r1,q1⟩ => ?_
 obtain ⟨a,e,q⟩:=q1
 subst e
 cases r1
 rcases q with ⟨⟨xs,hq⟩,q⟩ |⟨⟨xs,hq⟩,q⟩
 ·obtain ⟨its,rv,p,hz⟩:=I1.list hq
  refine wpAny_pyIter_list p.isList ?_
  refine ⟨s1.heap.objs.size,[s1.heap.objs.size],_,_,H1,rfl,I1.kept (t':=s1.toks) fun b o e=>AC _ e,qA7 a _,⟨_,AR _ rfl,rfl,rfl⟩,fun b hb => ?_,q⟩
  have e:b=s1.heap.objs.size:=by simpa using hb
  subst e
  exact I1.fpOk (AL _) (I1.hok.fresh (AL _))
 ·obtain ⟨its,rv,p,hz⟩:=I1.tuple hq
  refine wpAny_pyIter_tuple (show s1.heap.IsTuple a its.toArray from p) ?_
  refine ⟨s1.heap.objs.size,[s1.heap.objs.size],_,_,H1,rfl,I1.kept (t':=s1.toks) fun b o e=>AC _ e,JE a _,⟨_,AR _ rfl,rfl,rfl⟩,fun b hb => ?_,q⟩
  have e:b=s1.heap.objs.size:=by simpa using hb
  subst e
  exact I1.fpOk (AL _) (I1.hok.fresh (AL _))
theorem yb {K:W.Frag} {H0:Hp} {b0:Bz} {a:Addr} {l:List PV} {G:qB->Prop}
  (h:∀ H1 b1 st1,WE H0 b0 H1 b1->SR K H1 b1 st1->G st1 -> ∃ xs,SqL K H1 a xs∧RVs K H1 b1 l xs):Zb K H0 b0 (Itl K a) ⟨l,G⟩:=by
 intro H1 b1 st1 e _ S g
 obtain ⟨xs,hq,r⟩:=h H1 b1 st1 e S g
 refine ⟨fun i p hp => ?_,fun i hi=>⟨xs,hq,by rw [← r.length];exact hi⟩⟩
 obtain ⟨x,hx,rx⟩:=r.get hp
 exact ⟨⟨xs,x,hq,hx⟩,fun y H2 ⟨e2,hy⟩=>by
  subst e2
  have:=hy xs hq
  rw [hx] at this;cases this
  exact ⟨Same.refl _,S,rx⟩⟩
theorem qCr {K:W.Frag} {H0:Hp} {b0:Bz} {a:Addr} {l:List PV} {G:qB->Prop}
  (h:∀ H1 b1 st1,WE H0 b0 H1 b1->SR K H1 b1 st1->G st1 -> ∃ xs,SqT K H1 a xs∧RVs K H1 b1 l xs):Zb K H0 b0 (Itt K a) ⟨l,G⟩:=by
 intro H1 b1 st1 e _ S g
 obtain ⟨xs,hq,r⟩:=h H1 b1 st1 e S g
 refine ⟨fun i p hp => ?_,fun i hi=>⟨xs,hq,by rw [← r.length];exact hi⟩⟩
 obtain ⟨x,hx,rx⟩:=r.get hp
 exact ⟨⟨xs,x,hq,hx⟩,fun y H2 ⟨e2,hy⟩=>by
  subst e2
  have:=hy xs hq
  rw [hx] at this;cases this
  exact ⟨Same.refl _,S,rx⟩⟩
theorem wK {tg:Expr} (h:VE X E e f):VI X E tg e (qq f):=fun pins s σ H R I q=>qEz h pins s σ H R I (by
 obtain ⟨b,r,st,S,RE,P⟩:=q
 refine ⟨b,r,st,S,RE,PostE.bindI P fun p s1 u H1 b1 e1 S1 r1 P1 => ?_⟩
 unfold qDE at P1
 split at P1
 ·rename_i i
  split at P1
  ·rename_i l el
   have r0:=r1
   unfold RV at r1
   obtain ⟨a,rfl,ha⟩:=r1
   obtain ⟨a',xs,e2,hq,hr⟩:=Q7 S1 r0 el
   cases e2
   refine ⟨a,rfl,.inl ⟨⟨xs,hq⟩,P1 _ H1 b1 (Ext.refl _ _) S1 (yb fun H2 b2 st2 e2 S2 g2 => ?_)⟩⟩
   obtain ⟨a'',o,k1,k2,vs,rfl,k4⟩:=S2.at_ i _ g2
   rw [e2.ix ha] at k1;cases k1
   exact ⟨vs,SqL.of k2,k4⟩
  ·exact P1.elim
 ·split at P1
  ·rename_i l el
   cases p with
   |tup m =>
    have em:m=l:=AZ el
    subst em
    unfold RV at r1
    obtain ⟨a,xs,rfl,h2,h3⟩:=r1
    exact ⟨a,rfl,.inr ⟨⟨xs,h2.sq⟩,P1 _ H1 b1 (Ext.refl _ _) S1 (qCr fun H2 b2 st2 e2 S2 _=>⟨xs,(h2.wext e2).sq,RVs.wext e2 m h3⟩)⟩⟩
   |lst m =>
    have em:m=l:=AZ el
    subst em
    unfold RV at r1
    obtain ⟨a,xs,rfl,h2,h3⟩:=r1
    exact ⟨a,rfl,.inl ⟨⟨xs,h2.sq⟩,P1 _ H1 b1 (Ext.refl _ _) S1 (yb fun H2 b2 st2 e2 S2 _=>⟨xs,(h2.wext e2).sq,RVs.wext e2 m h3⟩)⟩⟩
   |ref i=>rename_i hx;exact (hx i rfl).elim
   |_=>cases el
  ·exact P1.elim)
def Z7 (lo hi:Int):List PV:=(List.range (hi - lo).toNat).map fun (i:Nat)=>PV.int (lo + (i:Int))
def zy (l:List PV) (st:qB):Rs ItP:=match l with
 |[.int j]=>if -(2 ^ 62)≤j∧j < 2 ^ 62 then .ok ⟨Z7 0 j,fun _=>True⟩ st else .no
 |_ => .no
def y6 (l:List PV) (st:qB):Rs ItP:=match l with
 |[.int i,.int j]=>if -(2 ^ 62)≤i∧i < 2 ^ 62 ∧ -(2 ^ 62)≤j∧j < 2 ^ 62 then .ok ⟨Z7 i j,fun _=>True⟩ st else .no
 |_ => .no
theorem ji {K:W.Frag} {H0:Hp} {b0:Bz} {lo hi:Int}:Zb K H0 b0 (Itr lo (hi - lo).toNat) ⟨Z7 lo hi,fun _=>True⟩:=by
 intro H1 b1 st1 e _ S g
 have hl:(Z7 lo hi).length=(hi - lo).toNat:=by simp [Z7]
 refine ⟨fun i p hp => ?_,fun i hi'=>by rw [show (ItP.mk (Z7 lo hi) fun _=>True).l.length=(hi - lo).toNat from hl] at hi';exact hi'⟩
 have hi':i < (hi - lo).toNat:=by
  have:=(Aa.mp hp).1
  rw [← hl];exact this
 unfold Z7 at hp
 dsimp only at hp
 rw [Ah,List.getElem?_range hi'] at hp
 cases hp
 exact ⟨hi',fun x H2 ⟨e1,e2⟩=>by subst e1;subst e2;exact ⟨Same.refl _,S,Qk⟩⟩
def wb (t:FA):FI:=fun r st=>(t r st).bind zy
def zT (t:FA):FI:=fun r st=>(t r st).bind y6
theorem wL {tg:Expr} {t:FA} {p:Pos} (hg:Gl X "range") (hm:X.mg "range" = none) (ha:VA X E [a] t) (hs:starEach [a] X.env=[(false,eval a X.env)]:=by rfl):VI X E tg (.Call (.Name "range" p) [a] [] pos) (wb t):=fun pins s σ H R I q=>qAx hg hm ha hs pins s σ H R I (by
 obtain ⟨b,r,st,S,RE,P⟩:=q
 refine ⟨b,r,st,S,RE,PostA.bindI P fun l s1 us H1 b1 e1 S1 r1 P1 => ?_⟩
 unfold zy at P1
 split at P1
 ·obtain ⟨u,rfl,h1⟩:=RVs.one r1
  unfold RV at h1;subst h1
  split at P1
  ·rename_i j hj
   refine ⟨j,rfl,hj.1,hj.2,?_⟩
   have:=P1 (Itr 0 (j - 0).toNat) H1 b1 (Ext.refl _ _) S1 ji
   rw [Int.sub_zero] at this
   exact this
  ·exact P1.elim
 ·exact P1.elim)
theorem zL {tg:Expr} {t:FA} {p:Pos} (hg:Gl X "range") (hm:X.mg "range" = none) (ha:VA X E [a,c] t) (hs:starEach [a,c] X.env=[(false,eval a X.env),(false,eval c X.env)]:=by rfl) (hs2:starEach [c] X.env=[(false,eval c X.env)]:=by rfl):VI X E tg (.Call (.Name "range" p) [a,c] [] pos) (zT t):=fun pins s σ H R I q=>qBD hg hm ha hs hs2 pins s σ H R I (by
 obtain ⟨b,r,st,S,RE,P⟩:=q
 refine ⟨b,r,st,S,RE,PostA.bindI P fun l s1 us H1 b1 e1 S1 r1 P1 => ?_⟩
 unfold y6 at P1
 split at P1
 ·obtain ⟨u,v,rfl,h1,h2⟩:=RVs.two r1
  unfold RV at h1 h2;subst h1;subst h2
  split at P1
  ·rename_i i j hj
   exact ⟨i,j,rfl,hj,P1 _ H1 b1 (Ext.refl _ _) S1 ji⟩
  ·exact P1.elim
 ·exact P1.elim)
theorem PSs.unbare {X:Cx} {st:List Stmt} {t:TS} (h:PSs X.nox st t) {pins:List (Addr×Obj)} {s:Shared} {σ:L2.St} {H:Hp} {D:Ends} {E:Value->Shared->Prop} (I:L2.Inv X pins σ H s) (q:t D σ H):wpAny (model X.prog X.w) X.A (execs st X.env) (SP X pins D) E s :=
 wpAny_noRaise (thn (h pins s σ H D (I.wish _) q) fun f s' hs=>hs.unwish)
theorem PG.unbare {X:Cx} {tg:Expr} {t:TG} (h:PG X.nox tg t) {pins:List (Addr×Obj)} {s:Shared} {σ:L2.St} {H:Hp} {v:V} {u:Value} {Q:L2.St->Hp->Prop} {E:Value->Shared->Prop} (I:L2.Inv X pins σ H s) (r:RelV v u) (q:t v σ H Q):wpAny (model X.prog X.w) X.A (assign tg X.env u) (fun _ s' => ∃ σ' H',L2.Inv X pins σ' H' s'∧Q σ' H') E s :=
 wpAny_noRaise (thn (h pins s σ H v u Q (I.wish _) r q) fun f s' ⟨σ',H',I',q'⟩=>⟨σ',H',I'.unwish,q'⟩)
theorem qDx {tg iter:Expr} {body:List Stmt} {wi:TI} {g:TG} {tb:TS} {pos:Pos} (hi:PI X tg iter wi) (hg:PG X.nox tg g) (hb:PSs X.nox body tb)
  (hs:∀ x,foldedSetIterable iter X.env x=pure x:=by intro _;rfl):PS X (.For tg iter body [] pos) (qHD wi g tb):=by
 intro pins s σ H D I h
 refine wpAny_For (thn (hi pins s σ H _ I h) fun v s1 h1=>thn h1 fun itv s2 h2 => ?_) hs
 obtain ⟨it,fp,tn,J,H2,e,I2,T,st2,f2,W,⟨m0,w0⟩,turn⟩:=h2
 subst e
 have stat:∀ {H':Hp},(∀ b∈fp,H' b=none) -> ∀ b∈fp,zu X pins H' b:=fun hn b hb=>⟨hn b hb,(f2 b hb).2⟩
 refine codeAny_forLoop_any (fun n s' => ∃ i σ' H',L2.Inv X pins σ' H' s'∧tn i s'.heap∧(∀ b∈fp,H' b=none)∧W i n σ' H') ?_ m0 ⟨0,σ,H2,I2,st2,fun b hb=>(f2 b hb).1,w0⟩
 rintro n s3 ⟨i,σ3,H3,I3,st3,fr3,w3⟩
 rcases turn i n σ3 H3 w3 with ⟨stop,qn⟩ |⟨go,N,hN,step⟩
 ·refine thn (T.done X rfl rfl rfl rfl i pins s3 σ3 H3 _ I3 (stat fr3) st3 stop) fun r s4 ⟨hr,I4⟩ => ?_
  subst hr
  exact wpAny_execs_nil ⟨σ3,H3,I4,qn⟩
 ·refine thn (T.item X rfl rfl rfl rfl i pins s3 σ3 H3 _ I3 (stat fr3) st3 go) fun r s4 ⟨u,hr,h4⟩ => ?_
  subst hr
  refine thn h4 fun _ s5 ⟨x,H5,I5,r5,y5,st5,fr5⟩ => ?_
  have I5':=I5.pinned (stat fr5) (T.obj _ _ st5)
  refine thn (PG.unbare hg I5' r5 (step x H5 y5)) fun _ s6 ⟨σ6,H6,I6,q6⟩ => ?_
  refine thn (PSs.unbare hb I6 q6) fun f s7 q7 => ?_
  have again:∀ {σ7:L2.St} {H7:Hp},L2.Inv X (pins++zZ fp s5.heap) σ7 H7 s7->N σ7 H7 -> ∃ m,m < n ∧ ∃ i σ' H',L2.Inv X pins σ' H' s7∧tn i s7.heap∧(∀ b∈fp,H' b=none)∧W i m σ' H':=fun {σ7 H7} I7 n7=>by
   obtain ⟨m',hm,w7⟩:=hN σ7 H7 n7
   refine ⟨m',hm,i + 1,σ7,H7,I7.unpinned,T.keep _ _ _ st5 fun b hb o e=>(I7.pin (b,o) (Ax _ (Ax _ (Wf hb e)))).1,fun b hb => ?_,w7⟩
   obtain ⟨o,e,d⟩:=T.obj _ _ st5 b hb
   exact (I7.pin (b,o) (Ax _ (Ax _ (Wf hb e)))).2.1
  cases f with
  |next=>obtain ⟨σ7,H7,I7,n7⟩:=q7;exact again I7 n7
  |cont=>obtain ⟨σ7,H7,I7,n7⟩:=q7;exact again I7 n7
  |brk=>obtain ⟨σ7,H7,I7,q7⟩:=q7;exact ⟨σ7,H7,I7.unpinned,q7⟩
  |ret v=>obtain ⟨x7,σ7,H7,I7,r7,q7⟩:=q7;exact ⟨x7,σ7,H7,I7.unpinned,r7,q7⟩
open Classical in
noncomputable def Qg (G:qB->Prop) (g:FG) (F:FS):List PV->qo->qB->RS
 |[],r,st=>if G st then .nx r st else .no
 |p::ps,r,st=>if G st then
   match g p r with
   |none => .no
   |some r1=>match F r1 st with
    | .nx r2 s2=>Qg G g F ps r2 s2
    | .ct r2 s2=>Qg G g F ps r2 s2
    | .bk r2 s2 => .nx r2 s2
    | .rt v s2 => .rt v s2
    | .ex _ _ => .no
    | .no => .no
  else .no
noncomputable def zS (fi:FI) (g:FG) (F:FS):FS:=fun r st=>(fi r st).bindS fun w s=>Qg w.G g F w.l r s
theorem PostI.bindS {K:W.Frag} {E:XK} {H:Hp} {b:Bz} {r:Rs ItP} {k:ItP->qB->RS} {D:Ends} {R:It->Hp->Prop} (P:PostS K E H b (r.bindS k) D)
  (h:∀ w st J H1 b1,Ext H b H1 b1->SR K H1 b1 st->Zb K H1 b1 J w->PostS K E H1 b1 (k w st) D->R J H1):PostI K E H b r R:=by
 cases r with
 |ok p st=>exact fun J H1 b1 e S r=>h p st J H1 b1 e S r (PostS.ext (show PostS K E H b (k p st) D from P) e)
 |ex x st=>exact P
 |no=>exact P
theorem yA {tg iter:Expr} {body:List Stmt} {fi:FI} {g:FG} (hi:VI X E tg iter fi) (hg:VG X.nox tg g) (hb:VSs X.nox E0 body F) (hs:∀ x,foldedSetIterable iter X.env x=pure x:=by intro _;rfl):VS X E (.For tg iter body [] pos) (zS fi g F):=by
 refine PS.imp (qDx hi hg hb hs) fun D s H ⟨b,r,st,S,R,P⟩ => ?_
 refine ⟨b,r,st,S,R,PostI.bindS P fun w st1 J H1 b1 e1 S1 it P1 => ?_⟩
 refine ⟨fun i m σ' H' => ∃ b2 r2 st2,Ext H1 b1 H' b2∧SR X.K H' b2 st2∧REnv X.K H' b2 r2 σ'∧m=w.l.length + 1 - i∧i≤w.l.length∧PostS X.K E H' b2 (Qg w.G g F (w.l.drop i) r2 st2) D,⟨w.l.length + 1,b1,r,st1,Ext.refl _ _,S1,R.ext e1,by omega,BJ _,by simpa using P1⟩,?_⟩
 rintro i m σ' H' ⟨b2,r2,st2,e2,S2,R2,hm,hi',P2⟩
 by_cases hlt:i < w.l.length
 ·have hd:w.l.drop i=w.l[i]::w.l.drop (i + 1):=List.drop_eq_getElem_cons hlt
  rw [hd] at P2
  unfold Qg at P2
  by_cases hG:w.G st2
  ·rw [AI hG] at P2
   obtain ⟨h1,h2⟩:=it H' b2 st2 e2.toWE e2.fz S2 hG
   obtain ⟨go,yl⟩:=h1 i w.l[i] (AD hlt)
   refine .inr ⟨go,fun σ3 H3 => ∃ b3 r3 st3,Ext H1 b1 H3 b3∧SR X.K H3 b3 st3∧REnv X.K H3 b3 r3 σ3∧PostS X.K E H3 b3 (Qg w.G g F (w.l.drop (i + 1)) r3 st3) D,?_,?_⟩
   ·rintro σ3 H3 ⟨b3,r3,st3,k1,k2,k3,k4⟩
    exact ⟨w.l.length + 1 - (i + 1),by omega,b3,r3,st3,k1,k2,k3,rfl,hlt,k4⟩
   ·intro x H3 hx
    obtain ⟨e3',S3,r3⟩:=yl x H3 hx
    have e3:Ext H' b2 H3 b2:=Ext.of_same e3'
    cases eg:g w.l[i] r2 with
    |none=>rw [eg] at P2;exact P2.elim
    |some r4 =>
     rw [eg] at P2
     refine ⟨b2,r2,w.l[i],st2,S3,R2.ext e3,r3,r4,eg,fun s4 R4=>⟨b2,r4,st2,S3,R4,?_⟩⟩
     have P3:=PostS.ext P2 e3
     dsimp only at P3
     have e13:=e2.trans e3
     cases eF:F r4 st2 with
     |nx r5 s5=>rw [eF] at P3;exact fun s6 H6 b6 e6 S6 R6=>⟨b6,r5,s5,e13.trans e6,S6,R6,PostS.ext P3 e6⟩
     |ct r5 s5=>rw [eF] at P3;exact fun s6 H6 b6 e6 S6 R6=>⟨b6,r5,s5,e13.trans e6,S6,R6,PostS.ext P3 e6⟩
     |bk r5 s5=>rw [eF] at P3;exact P3
     |rt v s5=>rw [eF] at P3;exact P3
     |ex x s5=>rw [eF] at P3;exact P3.elim
     |no=>rw [eF] at P3;exact P3.elim
  ·rw [AQ hG] at P2;exact P2.elim
 ·have hl:i=w.l.length:=by omega
  subst hl
  rw [List.drop_length] at P2
  unfold Qg at P2
  by_cases hG:w.G st2
  ·rw [AI hG] at P2
   obtain ⟨h1,h2⟩:=it H' b2 st2 e2.toWE e2.fz S2 hG
   exact .inl ⟨h2 _ (AL _),P2 σ' H' b2 (Ext.refl _ _) S2 R2⟩
  ·rw [AQ hG] at P2;exact P2.elim
end
theorem q9 {x n:Str} {a c:Addr} {r:List (Str×Addr)} (h:List.lookup x ((n,a)::r)=some c):(x=n∧a=c)∨(x≠n∧List.lookup x r=some c):=by
 rw [As] at h
 cases hb:x==n with
 |true=>rw [hb] at h;exact .inl ⟨beq_iff_eq.mp hb,AZ h⟩
 |false=>rw [hb] at h;exact .inr ⟨fun z=>(by rw [beq_iff_eq.mpr z] at hb;cases hb),h⟩
theorem Qb {x:Str} {c:Addr}:∀ {names:List (Str×NameKind)} {n:Nat} {acc:List (Str×Addr)},(cellsFrom n names acc).lookup x=some c->(n≤c∧(x,NameKind.cell)∈names)∨acc.lookup x=some c
 |[],_,_,h => .inr h
 |(nm,k)::r,n,acc,h=>by
  unfold cellsFrom at h
  split at h
  ·rename_i hk
   have hk':k = .cell:=by simpa using hk
   rcases Qb h with ⟨h1,h2⟩ |h1
   ·exact .inl ⟨Nat.le_of_succ_le h1,AG _ h2⟩
   ·rcases q9 h1 with ⟨e1,e2⟩ |⟨_,e2⟩
    ·exact .inl ⟨Nat.le_of_eq e2,by rw [e1,hk'];exact AK⟩
    ·exact .inr e2
  ·rcases Qb h with ⟨h1,h2⟩ |h1
   ·exact .inl ⟨h1,AG _ h2⟩
   ·exact .inr h1
theorem WP {x:Str} {c:Addr} {n0:Nat}:∀ {names:List (Str×NameKind)} {n:Nat} {acc:List (Str×Addr)},n0≤n->((∃ a,acc.lookup x=some a∧n0≤a)∨(x,NameKind.cell)∈names)->(cellsFrom n names acc).lookup x=some c->n0≤c
 |[],_,acc,_,h,e=>by
  rcases h with ⟨a,h1,h2⟩ |h
  ·have:acc.lookup x=some c:=e
   rw [h1] at this;cases this;exact h2
  ·exact absurd h (by simp)
 |(nm,k)::r,n,acc,hn,h,e=>by
  unfold cellsFrom at e
  split at e
  ·rename_i hk
   refine WP (n:=n + 1) (Nat.le_succ_of_le hn) ?_ e
   by_cases hx:x=nm
   ·exact .inl ⟨n,by rw [As,hx,An],hn⟩
   ·rcases h with ⟨a,h1,h2⟩ |h
    ·exact .inl ⟨a,by rw [As,Bm hx];exact h1,h2⟩
    ·rcases AH.mp h with q |q
     ·exact absurd (CI q).1 hx
     ·exact .inr q
  ·rename_i hk
   refine WP hn ?_ e
   rcases h with h |h
   ·exact .inl h
   ·rcases AH.mp h with q |q
    ·exact absurd (by rw [← (CI q).2];rfl) hk
    ·exact .inr q
theorem WQ {x y:Str} {c:Addr}:∀ {names:List (Str×NameKind)} {n:Nat} {acc:List (Str×Addr)},(∀ z a,acc.lookup z=some a->a < n)->(cellsFrom n names acc).lookup x=some c->(cellsFrom n names acc).lookup y=some c ->
  x=y∨(acc.lookup x=some c∧acc.lookup y=some c)
 |[],_,_,_,h1,h2 => .inr ⟨h1,h2⟩
 |(nm,k)::r,n,acc,hb,h1,h2=>by
  unfold cellsFrom at h1 h2
  split at h1
  ·rename_i hk
   rw [AI hk] at h2
   have hb':∀ z a,List.lookup z ((nm,n)::acc)=some a->a < n + 1:=fun z a h=>by
    rcases q9 h with ⟨_,e⟩ |⟨_,e⟩
    ·rw [← e];exact CC _
    ·exact At (hb z a e)
   rcases WQ hb' h1 h2 with e |⟨e1,e2⟩
   ·exact .inl e
   ·rcases q9 e1 with ⟨p1,p2⟩ |⟨p1,p2⟩ <;> rcases q9 e2 with ⟨q1,q2⟩ |⟨q1,q2⟩
    ·exact .inl (p1.trans q1.symm)
    ·exact absurd (hb y c q2) (by rw [← p2];exact Bb _)
    ·exact absurd (hb x c p2) (by rw [← q2];exact Bb _)
    ·exact .inr ⟨p2,q2⟩
  ·rename_i hk
   rw [AQ hk] at h2
   exact WQ hb h1 h2
theorem wR {x:Str}:∀ {names:List (Str×NameKind)} {n:Nat} {acc:List (Str×Addr)},((∃ a,acc.lookup x=some a)∨(x,NameKind.cell)∈names) -> ∃ c,(cellsFrom n names acc).lookup x=some c
 |[],_,_,h=>h.elim (fun h=>h) fun h=>absurd h (by simp)
 |(nm,k)::r,n,acc,h=>by
  unfold cellsFrom
  split
  ·rename_i hk
   refine wR ?_
   by_cases hx:x=nm
   ·exact .inl ⟨n,by rw [As,hx,An]⟩
   ·rcases h with ⟨a,h1⟩ |h
    ·exact .inl ⟨a,by rw [As,Bm hx];exact h1⟩
    ·rcases AH.mp h with q |q
     ·exact absurd (CI q).1 hx
     ·exact .inr q
  ·rename_i hk
   refine wR ?_
   rcases h with h |h
   ·exact .inl h
   ·rcases AH.mp h with q |q
    ·exact absurd (by rw [← (CI q).2];rfl) hk
    ·exact .inr q
theorem wz {x:Str} {c:Addr}:∀ {names:List (Str×NameKind)} {h:Heap} {acc:List (Str×Addr)},(cellsFrom h.objs.size names acc).lookup x=some c->(∃ o,acc.lookup x=some c∧o=())∨(pushCells h names).IsCell c none
 |[],_,_,e => .inl ⟨(),e,rfl⟩
 |(nm,k)::r,h,acc,e=>by
  unfold cellsFrom at e
  unfold pushCells
  split at e
  ·rename_i hk
   rw [AI hk]
   have e':(cellsFrom (h.push { cls := .type "cell",data := .cell none }).objs.size r ((nm,h.objs.size)::acc)).lookup x=some c:=by rw [BR];exact e
   rcases wz e' with ⟨_,q,_⟩ |q
   ·rcases q9 q with ⟨_,e2⟩ |⟨_,e2⟩
    ·subst e2
     exact .inr ⟨_,CK _ _ _ _ (AR _ rfl),rfl⟩
    ·exact .inl ⟨(),e2,rfl⟩
   ·exact .inr q
  ·rename_i hk
   rw [AQ hk]
   exact wz e
def clF (env:Env):List (Str×NameKind)->List (Str×Addr)->List (Str×Addr)
 |[],acc=>acc
 |(n,k)::r,acc=>if k == .free then clF env r ((n,(env.cells.lookup n).getD 0)::acc) else clF env r acc
theorem qCK {env:Env} (f:Str×NameKind->List (Str×Addr)->Sem (ForInStep (List (Str×Addr))))
  (hf:∀ n k acc,f (n,k) acc=if k == .free then (do let a ← cellOf env n;pure (.yield ((n,a)::acc))) else pure (.yield acc)) :
  ∀ (names:List (Str×NameKind)) (acc:List (Str×Addr)),(∀ x∈names,x.2 = .free -> ∃ c,env.cells.lookup x.1=some c)->forIn names acc f=(pure (clF env names acc):Sem _)
 |[],acc,_=>by rw [List.forIn_nil];rfl
 |(n,k)::r,acc,h=>by
  rw [List.forIn_cons,hf]
  unfold clF
  have ih:=fun a=>qCK f hf r a fun x hx=>h x (AG _ hx)
  split
  ·rename_i hk
   have hk':k = .free:=by simpa using hk
   obtain ⟨c,e⟩:=h (n,k) AK hk'
   have ec:cellOf env n=pure c:=by unfold cellOf;rw [show env.cells.lookup n=some c from e]
   rw [ec]
   simp only [pure_bind]
   rw [ih,show env.cells.lookup n=some c from e];rfl
  ·simp only [pure_bind]
   exact ih acc
theorem Zn {scope:Scope} {env:Env} (h:∀ x∈scope.names,x.2 = .free -> ∃ c,env.cells.lookup x.1=some c):closureFor scope env=pure (clF env scope.names []):=by
 unfold closureFor
 dsimp only
 rw [qCK _ (fun n k acc=>by cases hk:k==NameKind.free <;> simp [hk]) _ _ h]
 rfl
theorem yC {env:Env} {x:Str} {c:Addr}:∀ {names:List (Str×NameKind)} {acc:List (Str×Addr)},(∀ y∈names,y.2 = .free -> ∃ c,env.cells.lookup y.1=some c)->(clF env names acc).lookup x=some c->env.cells.lookup x=some c∨acc.lookup x=some c
 |[],_,_,e => .inr e
 |(n,k)::r,acc,h,e=>by
  unfold clF at e
  have h':=fun y hy=>h y (AG _ hy)
  split at e
  ·rename_i hk
   have hk':k = .free:=by simpa using hk
   obtain ⟨a,ea⟩:=h (n,k) AK hk'
   rcases yC h' e with q |q
   ·exact .inl q
   ·rcases q9 q with ⟨e1,e2⟩ |⟨_,e2⟩
    ·rw [show env.cells.lookup n=some a from ea] at e2
     exact .inl (by rw [e1,show env.cells.lookup n=some a from ea];exact congrArg some e2)
    ·exact .inr e2
  ·exact yC h' e
theorem Zi {env:Env} {x:Str}:∀ {names:List (Str×NameKind)} {acc:List (Str×Addr)},((x,NameKind.free)∈names ∨ ∃ a,acc.lookup x=some a) -> ∃ c,(clF env names acc).lookup x=some c
 |[],_,h=>h.elim (fun h=>absurd h (by simp)) fun h=>h
 |(n,k)::r,acc,h=>by
  unfold clF
  split
  ·refine Zi ?_
   by_cases hx:x=n
   ·exact .inr ⟨_,by rw [As,hx,An]⟩
   ·rcases h with h |⟨a,h⟩
    ·rcases AH.mp h with q |q
     ·exact absurd (CI q).1 hx
     ·exact .inl q
    ·exact .inr ⟨a,by rw [As,Bm hx];exact h⟩
  ·rename_i hk
   refine Zi ?_
   rcases h with h |h
   ·rcases AH.mp h with q |q
    ·exact absurd (by rw [← (CI q).2];rfl) hk
    ·exact .inl q
   ·exact .inr h
def qHQ (X:Cx) (scope:Scope) (C:Addr):Env :=
 { scope:=relabel scope X.env,locals:=C,globals:=X.env.globals,cells:=cellsFrom (C + 1) scope.names (clF X.env scope.names []),qual:=X.env.qual,func:=none,code:=X.env.code,frame:=X.env.frame,builtins:=X.env.builtins }
def cCx (X:Cx) (scope:Scope) (N:List Str) (s:Shared) (H:Hp) (fp:List Addr) (pn:List (Addr×Obj)):Cx where
 prog:=X.prog
 w:=X.w
 K:=X.K
 mg:=X.mg
 base:=X.base
 A:=X.A
 N:=N
 s₀:=s
 H₀:=H
 env:=qHQ X scope s.heap.objs.size
 outer:=X.stack
 stack:=X.stack
 ex:=fp
 fn:=fun x=>scope.names.lookup x==some .cell
 calm:=X.calm
 pn:=pn
 xe:=fun _ _=>False
structure CSc (X:Cx) (scope:Scope) (capN locN:List Str) (caps:List Nat):Prop where
 kind:scope.kind = .function
 nd:(scope.names.map (·.1)).Nodup
 fr:∀ x∈scope.names,x.2 = .free->(X.env.kindOf x.1=some .cell∨X.env.kindOf x.1=some .free)
 len:capN.length=caps.length
 cap:∀ (i:Nat) (x:Str) (j:Nat),capN[i]? = some x->caps[i]? = some j->X.N[j]? = some x∧(x,NameKind.free)∈scope.names
theorem w6 {x:Str} {k:NameKind}:∀ {names:List (Str×NameKind)},(names.map (·.1)).Nodup->(x,k)∈names->names.lookup x=some k
 |(n,k')::r,nd,h=>by
  rw [AN,CJ] at nd
  rw [As]
  rcases AH.mp h with q |q
  ·obtain ⟨rfl,rfl⟩:=CI q
   rw [An]
  ·have hne:x≠n:=fun z=>nd.1 (by rw [← z];exact AX.mpr ⟨(x,k),q,rfl⟩)
   rw [Bm hne]
   exact w6 nd.2 q
theorem wG {env:Env} {x:Str}:∀ {names:List (Str×NameKind)},
  (names.map fun (n,k)=>if (k==NameKind.free&&env.scope.kind == .function&&env.kindOf n==some .cell) then (n,NameKind.cell) else (n,k)).lookup x=(names.lookup x).map fun k=>if (k==NameKind.free&&env.scope.kind == .function&&env.kindOf x==some .cell) then NameKind.cell else k
 |[]=>rfl
 |(n,k)::r=>by
  rw [AN,As]
  show List.lookup x ((if (k==NameKind.free&&env.scope.kind == .function&&env.kindOf n==some .cell)=true then (n,NameKind.cell) else (n,k))::_)=_
  cases hx:x==n with
  |true =>
   have hx':x=n:=beq_iff_eq.mp hx
   subst hx'
   by_cases hc:(k==NameKind.free&&env.scope.kind == .function&&env.kindOf x==some .cell)=true
   ·rw [AI hc]
    simp only [As,An,Option.map_some]
    rw [AI hc]
   ·rw [AQ hc]
    simp only [As,An,Option.map_some]
    rw [AQ hc]
  |false =>
   by_cases hc:(k==NameKind.free&&env.scope.kind == .function&&env.kindOf n==some .cell)=true
   ·rw [AI hc]
    simp only [As,hx]
    exact wG
   ·rw [AQ hc]
    simp only [As,hx]
    exact wG
theorem Zm {X:Cx} {scope:Scope} {capN locN:List Str} {caps:List Nat} (cs:CSc X scope capN locN caps) {pins:List (Addr×Obj)} {σ:L2.St} {H:Hp} {s s4:Shared} {fp:List Addr} (I:L2.Inv X pins σ H s) (hf:∀ b∈fp,zu X pins H b) (hlt:∀ b∈fp,b < s.heap.objs.size)
  (h4:s4={ s with heap:=pushCells (s.heap.push { cls := .type "dict",data := .dict #[] }) scope.names }) :
  L2.Inv (cCx X scope (capN++locN) s H fp (X.pn++pins)) [] ((caps.map fun j=>(σ[j]?).join)++List.replicate locN.length none) H s4:=by
 have hfree:∀ x∈scope.names,x.2 = .free -> ∃ c,X.env.cells.lookup x.1=some c:=fun x hx hk=>I.ok.has x.1 (cs.fr x hx hk)
 have keep:∀ b o,s.heap.get? b=some o->s4.heap.get? b=some o:=fun b o e=>by subst h4;exact CK _ _ _ _ (AC _ e)
 have clook:∀ x c,(clF X.env scope.names []).lookup x=some c->X.env.cells.lookup x=some c:=fun x c e=>(yC hfree e).elim (fun q=>q) fun q=>by cases q
 have clt:∀ x c,(clF X.env scope.names []).lookup x=some c->c < s.heap.objs.size:=fun x c e=>by
  obtain ⟨v,q⟩:=I.cell x c (clook x c e)
  exact q.lt
 have cases':∀ x c,(cellsFrom (s.heap.objs.size + 1) scope.names (clF X.env scope.names [])).lookup x=some c->(s.heap.objs.size + 1≤c)∨(c < s.heap.objs.size∧X.env.cells.lookup x=some c):=fun x c e=>by
  rcases Qb e with ⟨q,_⟩ |q
  ·exact .inl q
  ·exact .inr ⟨clt x c q,clook x c q⟩
 have isfree:∀ x,(X.env.kindOf x=some .cell∨X.env.kindOf x=some .free)->True:=fun _ _=>trivial
 refine ⟨⟨I.ok.mod,cs.kind,I.ok.glob,I.ok.blt,AL _,fun x y c h1 h2 => ?_,fun x hx => ?_,fun x c hx e => ?_,I.ok.hd,I.ok.frames,.inl rfl,fun b hb=>⟨AT (hlt b hb),fun x c e => ?_⟩,fun b o e=>I.bs b o e,AS I.ok.bsz I.sz,fun b o e hb => ?_,fun b hb hm => ?_,I.stack,I.stkFree⟩,
  by subst h4;rfl,by subst h4;exact I.bare,Un.kept keep,?_,fun x c e => ?_,I.hok.fresh (AL _),fun x c e => ?_,fun p hp => ?_,I.hok.kept keep,?_,I.hnd⟩
 ·rcases WQ (fun z a e=>At (clt z a e)) h1 h2 with e |⟨e1,e2⟩
  ·exact e
  ·exact I.ok.inj x y c (clook x c e1) (clook y c e2)
 ·refine wR ?_
  have hx':(relabel scope X.env).names.lookup x=some .cell∨(relabel scope X.env).names.lookup x=some .free:=hx
  have e:(relabel scope X.env).names.lookup x=(scope.names.lookup x).map fun k=>if (k==NameKind.free&&X.env.scope.kind == .function&&X.env.kindOf x==some .cell) then NameKind.cell else k:=wG
  rw [e] at hx'
  cases q:scope.names.lookup x with
  |none=>rw [q] at hx';rcases hx' with z |z <;> cases z
  |some k =>
   rw [q] at hx'
   have hm:=BI q
   by_cases hk:k = .free
   ·subst hk
    exact .inl (Zi (.inl hm))
   ·have hkf:(k==NameKind.free)=false:=by simpa using hk
    simp only [Option.map_some,hkf,Bool.false_and,CP,if_false] at hx'
    rcases hx' with z |z
    ·cases z;exact .inr hm
    ·cases z;exact absurd rfl hk
 ·have hx':scope.names.lookup x=some .cell:=by simpa [cCx] using hx
  exact Nat.le_of_succ_le (WP (n0:=s.heap.objs.size + 1) (AL _) (.inr (BI hx')) e)
 ·rcases cases' x c e with q |⟨q,q'⟩
  ·exact fun z=>by rw [z] at q;exact absurd (hlt b hb) (Nat.not_lt.mpr (Nat.le_of_succ_le q))
  ·exact (hf b hb).2.2.2.2.1 x c q'
 ·obtain ⟨_,_,_,h3,_⟩:=hf b hb
  rcases h3 with q |q
  ·exact I.ok.noex b o e q
  ·exact absurd (AJ e) (Nat.not_lt.mpr (AS I.ok.bsz q))
 ·obtain ⟨_,h1,h2,_⟩:=hf b hb
  exact (AH.mp (I.stkSub b hm)).elim h1 h2
 ·refine ⟨fun _=>none,?_,fun i x v e1 e2 e3 => ?_⟩
  ·subst h4
   exact (Heap.Ns.new s.heap (.type "dict")).keeps (CK _ _)
  ·have hi:i < caps.length:=by
    by_cases hi:i < caps.length
    ·exact hi
    ·rw [Az (by simpa using hi),Bu] at e2
     split at e2 <;> cases e2
   rw [Ac (by simpa using hi),Ah] at e2
   have e1':(capN++locN)[i]? = some x:=e1
   rw [Ac (by rw [cs.len];exact hi)] at e1'
   cases ej:caps[i]? with
   |none=>rw [ej] at e2;cases e2
   |some j =>
    rw [ej] at e2
    obtain ⟨k1,k2⟩:=cs.cap i x j e1' ej
    have e2':σ[j]? = some (some v):=by
     have e2'':(σ[j]?).join=some v:=AZ e2
     cases q:σ[j]? with
     |none=>rw [q] at e2'';cases e2''
     |some o=>rw [q] at e2'';exact congrArg some e2''
    have hk:=cs.fr _ k2 rfl
    obtain ⟨m,hn,hl⟩:=I.loc
    obtain ⟨u,ru,lu⟩:=hl j x v k1 e2' (hk.elim (fun z => .inr (.inl z)) fun z => .inr (.inr z))
    refine ⟨u,ru,.inr ?_⟩
    have hc:∃ c,X.env.cells.lookup x=some c∧s.heap.IsCell c (some u):=by
     rcases lu with ⟨z,_⟩ |⟨_,z⟩
     ·rcases hk with y |y <;> · rw [z] at y;cases y
     ·exact z
    obtain ⟨c,c1,c2⟩:=hc
    obtain ⟨c',e'⟩:=Zi (env:=X.env) (acc:=[]) (.inl k2)
    have e2:=clook x c' e'
    rw [c1] at e2;cases e2
    have hlk:scope.names.lookup x=some .free:=w6 cs.nd k2
    refine ⟨?_,c,?_,c2.keeps keep⟩
    ·show (relabel scope X.env).names.lookup x=some .cell∨(relabel scope X.env).names.lookup x=some .free
     have e:(relabel scope X.env).names.lookup x=(scope.names.lookup x).map fun k=>if (k==NameKind.free&&X.env.scope.kind == .function&&X.env.kindOf x==some .cell) then NameKind.cell else k:=wG
     rw [e,hlk]
     simp only [Option.map_some]
     split
     ·exact .inl rfl
     ·exact .inr rfl
    ·obtain ⟨d,hd⟩:=wR (names:=scope.names) (n:=s.heap.objs.size + 1) (acc:=clF X.env scope.names []) (x:=x) (.inl ⟨c,e'⟩)
     rcases Qb hd with ⟨q,q'⟩ |q
     ·have:=w6 cs.nd q'
      rw [hlk] at this;cases this
     ·rw [e'] at q;cases q;exact hd
 ·rcases Qb e with ⟨q,_⟩ |q
  ·have e':(cellsFrom (s.heap.push { cls := .type "dict",data := .dict #[] }).objs.size scope.names (clF X.env scope.names [])).lookup x=some c:=by rw [BR];exact e
   rcases wz e' with ⟨_,z,_⟩ |z
   ·obtain ⟨v,y⟩:=I.cell x c (clook x c z)
    exact ⟨v,y.keeps keep⟩
   ·subst h4;exact ⟨none,z⟩
  ·obtain ⟨v,y⟩:=I.cell x c (clook x c q)
   exact ⟨v,y.keeps keep⟩
 ·rcases cases' x c e with q |⟨q,q'⟩
  ·exact I.hok.fresh (Nat.le_of_succ_le q)
  ·exact I.freeC x c q'
 ·have hp':p∈X.pn++pins:=by simpa [cCx] using hp
  obtain ⟨k1,k2,k3,k4,k5⟩:=I.pin p hp'
  exact ⟨keep _ _ k1,k2,AT (AJ k1),fun z=>(AH.mp (I.stkSub p.1 z)).elim k3 k4,k5⟩
 ·show ((caps.map fun j=>(σ[j]?).join)++List.replicate locN.length none).length=(capN++locN).length
  rw [Af,AE,List.length_replicate,Af,cs.len]
theorem jI {X:Cx} {scope:Scope} {N:List Str} {pins:List (Addr×Obj)} {σ σ':L2.St} {H H':Hp} {s s':Shared} {h'':Heap} {fp:List Addr} (I:L2.Inv X pins σ H s) (hf:∀ b∈fp,zu X pins H b)
  (J:L2.Inv (cCx X scope N s H fp (X.pn++pins)) [] σ' H' s') (sb:Heap.SameBut s.heap.objs.size s'.heap h''):L2.Inv X pins σ H' { s' with heap:=h'' }:=by
 have hos:s'.os=s.os:=J.os
 have hC:∀ b o,s.heap.get? b=some o->b≠s.heap.objs.size:=fun b o e=>AT (AJ e)
 have u:Un (frs X.stack) fp H H' s.heap h'':=by
  have u0:=J.base
  exact ⟨fun b o e n h1 h2=>sb.extBut b o (hC b o e) (u0.keep b o e n h1 h2),fun b o e n h1 h2=>(u0.slot b o e n h1 h2).elim fun sl q=>⟨sl,sb.extBut b _ (hC b o e) q⟩,u0.free,fun b o e h2=>(u0.there b o e h2).elim fun o' q=>⟨o',sb.extBut b o' (hC b o e) q⟩,u0.tups,u0.frzs,u0.tbls⟩
 have hok:HOk X.prog X.w H' h'':=fun a o e=>by
  refine (J.hok a o e).stay (fun b v hb q=>sb.extBut b v ?_ q) (fun _ q=>q) fun _ _ q=>q
  have hn:H' s.heap.objs.size=none:=J.free
  rcases hb with z |z
  ·rw [z];exact qL e hn
  ·exact qL z hn
 obtain ⟨hh,g,d,t,os'⟩:=s'
 obtain rfl:os'=s.os:=hos
 have fin:=L2.Inv.call (s:=s) (h':=h'') (g':=g) (d':=d) (t':=t) (ch:=fp) I u hok J.bare fun b hb=>by
  obtain ⟨k0,k1,k2,k3,k4,k5⟩:=hf b hb
  exact ⟨k3,k1,k4,k5⟩
 exact fin
theorem yQ {elt:Expr} {gens:List Comprehension} {scope:Scope} {pos:Pos} {d:Nat} {it acc:Value} {env:Env} {g:Comprehension} (hg:gens[d]? = some g) (ha:g.is_async=0) (hn:gens[d + 1]? = none) :
  compTurn (.ListComp elt gens scope pos) d it acc env=(standAt g.iter.pos >>= fun _=>pyNext it >>= fun r=>match r with
   |none=>pure (.done .next)
   |some v=>letOwnedTupleGo g.target it v >>= fun _=>assign g.target env v >>= fun _ =>
    (forIn g.ifs true fun c r=>if r=true then do let ok ← isTrue c env (eval c env);pure (ForInStep.yield ok) else pure (ForInStep.yield r)) >>= fun ok =>
    if ok=true then (eval elt env >>= fun x=>call (.builtin "list.append") [acc,x] >>= fun _=>pure ()) >>= fun _=>again (.compLoop (.ListComp elt gens scope pos) d it acc env)
    else again (.compLoop (.ListComp elt gens scope pos) d it acc env)):=by
 unfold compTurn
 dsimp only
 rw [hg]
 dsimp only
 rw [hn,ha]
 rfl
theorem yV {elt:Expr} {gens:List Comprehension} {scope:Scope} {pos:Pos} {d:Nat} {it acc:Value} {env:Env} {g g':Comprehension} (hg:gens[d]? = some g) (ha:g.is_async=0) (hn:gens[d + 1]? = some g') (ha':g'.is_async=0) :
  compTurn (.ListComp elt gens scope pos) d it acc env=(standAt g.iter.pos >>= fun _=>pyNext it >>= fun r=>match r with
   |none=>pure (.done .next)
   |some v=>letOwnedTupleGo g.target it v >>= fun _=>assign g.target env v >>= fun _ =>
    (forIn g.ifs true fun c r=>if r=true then do let ok ← isTrue c env (eval c env);pure (ForInStep.yield ok) else pure (ForInStep.yield r)) >>= fun ok =>
    if ok=true then (eval g'.iter env >>= fun x=>standAt g'.iter.pos >>= fun _=>foldedSetIterable g'.iter env x >>= fun x=>holding [x] (pyIter x) >>= fun it'=>runOwn (.compStart (.ListComp elt gens scope pos) (d + 1) it' acc env) env >>= fun _=>again (.compLoop (.ListComp elt gens scope pos) d it acc env))
    else again (.compLoop (.ListComp elt gens scope pos) d it acc env)):=by
 unfold compTurn
 dsimp only
 rw [hg]
 dsimp only
 rw [hn,ha]
 dsimp only
 rw [ha']
 rfl
theorem Wb {prog:Program} {w:World} {A:Around} {R:Result->Shared->Prop} {s:Shared} {elt:Expr} {gens:List Comprehension} {scope:Scope} {pos:Pos} {d:Nat} {it acc:Value} {env:Env} {g:Comprehension} (hg:gens[d]? = some g) (ha:g.is_async=0)
  (h0:codeAny (model prog w) A (.compLoop (.ListComp elt gens scope pos) d it acc env) R s)
  (h:wpAny (model prog w) A (pyIter it) (fun it' s'=>codeAny (model prog w) A (.compLoop (.ListComp elt gens scope pos) d it' acc env) R s') (notedBy (model prog w) A env fun x s'=>R (.error x) s') s) :
  codeAny (model prog w) A (.compStart (.ListComp elt gens scope pos) d it acc env) R s:=by
 refine codeAny_of_tree ?_
 show wpAny _ _ ((compStart (.ListComp elt gens scope pos) d it acc env).onRaise (fun x=>do noteFrame x env;standAt theWindowsPlace)) _ _ s
 refine wpAny_notedAt ?_
 unfold compStart
 have e1:(clausesOf (.ListComp elt gens scope pos))[d]? = some g:=hg
 rw [e1]
 simp only [Option.elim_some,ha]
 refine AA (Bs (wpAny_ite ?_))
 split
 ·exact AA (AB (AB (And.intro rfl h0)))
 ·exact AA (Bq (AA (Bw (AA (BD h (fun it' s' h'=>AB (And.intro rfl h')) fun _ _ x=>x)))))
structure GenF where
 fi:FI
 g:FG
 ts:List FT
def Qx:List FT->FT
 |[],_,st => .ok true st
 |t::ts,r,st=>(t r st).bind fun k s=>if k=true then Qx ts r s else .ok false s
open Classical in
noncomputable def qZ (G:qB->Prop) (k:PV->qB->Rs (List PV)):List PV->qB->Rs (List PV)
 |[],st=>if G st then .ok [] st else .no
 |p::ps,st=>if G st then (k p st).bind fun l s=>(qZ G k ps s).bind fun m s' => .ok (l++m) s' else .no
def QD (g:GenF) (rest:FL) (r:qo) (p:PV) (s:qB):Rs (List PV):=match g.g p r with
 |none => .no
 |some r'=>(Qx g.ts r' s).bind fun k s1=>if k=true then rest r' s1 else .ok [] s1
noncomputable def QL:List GenF->FE->FL
 |[],f=>fun r st=>(f r st).bind fun p s => .ok [p] s
 |g::gs,f=>fun r st=>(g.fi r st).bind fun w s=>qZ w.G (QD g (QL gs f) r) w.l s
def Le (r r':qo):Prop:=r.length=r'.length ∧ ∀ (i:Nat) (p:PV),r[i]? = some (some p)->r'[i]? = some (some p)
theorem REnv.le {K:W.Frag} {H:Hp} {b:Bz} {r r':qo} {s:L2.St} (h:REnv K H b r' s) (l:Le r r'):REnv K H b r s:=⟨l.1.trans h.1,fun i p e=>h.2 i p (l.2 i p e)⟩
def qAC (g:FG):Prop := ∀ p r r',g p r=some r'->Le r r'
inductive TsOk (X:Cx):List Expr->List FT->Prop where
 |nil:TsOk X [] []
 |cons {e:Expr} {t:FT} {es:List Expr} {ts:List FT} (h:VT X E0 e t) (r:TsOk X es ts):TsOk X (e::es) (t::ts)
theorem Y9 {X:Cx} (hx:∀ e s,X.xe e s->False):∀ {es:List Expr} {ts:List FT},TsOk X es ts -> ∀ {pins:List (Addr×Obj)} {s:Shared} {σ:L2.St} {H:Hp} {b:Bz} {r:qo} {st st':qB} {k:Bool} {Q:Bool->Shared->Prop} {E:Value->Shared->Prop},L2.Inv X pins σ H s->SR X.K H b st->REnv X.K H b r σ->Qx ts r st = .ok k st' ->
  (∀ s' H' b',L2.Inv X pins σ H' s'->Ext H b H' b'->SR X.K H' b' st'->Q k s') ->
  wpAny (model X.prog X.w) X.A (forIn es true fun c r=>if r=true then do let ok ← isTrue c X.env (eval c X.env);pure (ForInStep.yield ok) else pure (ForInStep.yield r)) Q E s
 |_,_,.nil,pins,s,σ,H,b,r,st,st',k,Q,E,I,S,R,e,q=>by
  cases e
  exact wpAny_tests_nil (q s H b I (Ext.refl _ _) S)
 |_,_,@TsOk.cons _ c t es ts h hr,pins,s,σ,H,b,r,st,st',k,Q,E,I,S,R,e,q=>by
  rw [List.forIn_cons]
  simp only [if_true]
  unfold Qx at e
  cases et:t r st with
  |no=>rw [et] at e;cases e
  |ex x s1=>rw [et] at e;cases e
  |ok k1 s1 =>
   rw [et] at e
   have e:(if k1=true then Qx ts r s1 else .ok false s1) = .ok k st':=e
   refine AA (AA (BD (h pins s σ H (fun k' H'=>k'=k1 ∧ ∃ b',Ext H b H' b'∧SR X.K H' b' s1) I ⟨b,r,st,S,R,by rw [et];exact fun H' b' e' S'=>⟨rfl,b',e',S'⟩⟩) (fun k' s2 hq => ?_) fun e' s' z=>(hx e' s' z).elim))
   obtain ⟨H2,I2,rfl,b2,e2,S2⟩:=hq
   refine AB ?_
   dsimp only
   cases k' with
   |true =>
    rw [AI rfl] at e
    exact Y9 hx hr I2 S2 (R.ext e2) e fun s' H' b' I' e' S'=>q s' H' b' I' (e2.trans e') S'
   |false =>
    rw [AQ Bx] at e
    cases e
    have skip:∀ (es:List Expr),wpAny (model X.prog X.w) X.A (forIn es false fun c r=>if r=true then do let ok ← isTrue c X.env (eval c X.env);pure (ForInStep.yield ok) else pure (ForInStep.yield r)) Q E s2:=by
     intro es
     induction es with
     |nil=>rw [List.forIn_nil];exact AB (q s2 H2 b2 I2 e2 S2)
     |cons c es ih =>
      rw [List.forIn_cons]
      simp only [CP,if_false]
      exact AA (AB ih)
    exact skip es
structure GOk (X:Cx) (c:Comprehension) (g:GenF):Prop where
 tg:VG X c.target g.g
 fr:qAC g.g
 ts:TsOk X c.ifs g.ts
 asy:c.is_async=0
structure GOk' (X:Cx) (c:Comprehension) (g:GenF):Prop extends GOk X c g where
 it:VI X E0 c.target c.iter g.fi
 fold:∀ x,foldedSetIterable c.iter X.env x=pure x
inductive GsOk (X:Cx):List Comprehension->List GenF->Prop where
 |nil:GsOk X [] []
 |cons {c:Comprehension} {g:GenF} {cs:List Comprehension} {gs:List GenF} (h:GOk' X c g) (r:GsOk X cs gs):GsOk X (c::cs) (g::gs)
theorem qA3 {X:Cx} (hx:∀ e s,X.xe e s->False) {pins:List (Addr×Obj)} {s:Shared} {σ:L2.St} {H:Hp} {D:Addr} {xs:List V} {y:V} {u:Value} {Q:Value->Shared->Prop} {E:Value->Shared->Prop} (I:L2.Inv X pins σ H s) (hD:H D=some (.lst xs)) (hl:xs.length < sizeLine) (ry:RelV y u)
  (q:∀ v s',L2.Inv X pins σ (upd H D (.lst (xs++[y]))) s'->Q v s'):wpAny (model X.prog X.w) X.A (call (.builtin "list.append") [.ref D,u]) Q E s :=
 BD (yw pins s σ H (.ref D) [y] (.ref D) [u] (fun v H'=>H'=upd H D (.lst (xs++[y]))) I rfl (.cons ry .nil) ⟨D,xs,y,rfl,rfl,hD,hl,rfl⟩) (fun v s' ⟨x,H',I',r',e⟩=>by subst e;exact q v s' I') fun e' s' z=>(hx e' s' z).elim
structure DE (D:Addr) (H:Hp) (b:Bz) (H':Hp) (b':Bz):Prop extends WE H b H' b' where
 same:b'.z=b.z
 hid:∀ a o,a∈b.z->a≠D->H a=some o->H' a=some o
 fz:∀ a o u,a≠D->H a=some (.frz o u)->H' a=some (.frz o u)
theorem DE.of {D:Addr} {H H':Hp} {b b':Bz} (e:Ext H b H' b'):DE D H b H' b':=⟨e.toWE,e.same,fun a o ha _ h=>e.hid a o ha h,fun a o u _ h=>e.fz a o u h⟩
theorem DE.trans {D:Addr} {H H1 H2:Hp} {b b1 b2:Bz} (e:DE D H b H1 b1) (f:DE D H1 b1 H2 b2):DE D H b H2 b2:=⟨e.toWE.trans f.toWE,f.same.trans e.same,fun a o ha hn h=>f.hid a o (by rw [e.same];exact ha) hn (e.hid a o ha hn h),fun a o u n h=>f.fz a o u n (e.fz a o u n h)⟩
theorem DE.wr {D:Addr} {H:Hp} {b:Bz} {o:HO} (h:D∈b.z):DE D H b (upd H D o) b:=⟨WE.wr (.inr h),rfl,fun a u ha hn e=>by rw [qQ hn];exact e,fun a u v hn e=>by rw [qQ hn];exact e⟩
def qG6 (X:Cx) (D:Addr) (c:Code) (inner:Sem Fin) (rest:FL):Prop :=
 ∀ (pins:List (Addr×Obj)) (s:Shared) (σ:L2.St) (H:Hp) (b:Bz) (r:qo) (st st':qB) (l:List PV) (accV:List V) (QF:Fin->Shared->Prop) (E:Value->Shared->Prop),L2.Inv X pins σ H s->SR X.K H b st->REnv X.K H b r σ->D∈b.z->H D=some (.lst accV) ->
  rest r st = .ok l st'->accV.length + l.length≤sizeLine ->
  (∀ s' σ' H' b' lV,L2.Inv X pins σ' H' s'->DE D H b H' b'->SR X.K H' b' st'->REnv X.K H' b' r σ'->H' D=some (.lst (accV++lV))->RVs X.K H' b' l lV->QF (.again c) s')->wpAny (model X.prog X.w) X.A inner QF E s
theorem jV {X:Cx} (hx:∀ e s,X.xe e s->False) {elt:Expr} {gens:List Comprehension} {scope:Scope} {pos:Pos} {d:Nat} {it D:Addr} {c:Comprehension} {g:GenF} (hg:GOk X c g) {inner:Sem Fin} {rest:FL} (hin:qG6 X D (.compLoop (.ListComp elt gens scope pos) d (.ref it) (.ref D) X.env) inner rest)
  (hturn:compTurn (.ListComp elt gens scope pos) d (.ref it) (.ref D) X.env=(standAt c.iter.pos >>= fun _=>pyNext (.ref it) >>= fun r=>match r with
   |none=>pure (.done .next)
   |some v=>letOwnedTupleGo c.target (.ref it) v >>= fun _=>assign c.target X.env v >>= fun _ =>
    (forIn c.ifs true fun c r=>if r=true then do let ok ← isTrue c X.env (eval c X.env);pure (ForInStep.yield ok) else pure (ForInStep.yield r)) >>= fun ok =>
    if ok=true then inner else again (.compLoop (.ListComp elt gens scope pos) d (.ref it) (.ref D) X.env)))
  {pins:List (Addr×Obj)} {s:Shared} {σ:L2.St} {H:Hp} {b:Bz} {r:qo} {st st':qB} {fp:List Addr} {tn:Nat->Heap->Prop} {J:It} {w:ItP} {accV:List V} {l:List PV} {R:Result->Shared->Prop}
  (I:L2.Inv X pins σ H s) (S:SR X.K H b st) (RE:REnv X.K H b r σ) (hDz:D∈b.z) (hD:H D=some (.lst accV)) (T:Turn X.prog X.w X.K X.A c.target J fp it tn) (t0:tn 0 s.heap) (hf:∀ a∈fp,zu X pins H a)
  (hit:Zb X.K H b J w)
  (hv:qZ w.G (QD g rest r) w.l st = .ok l st') (hsz:accV.length + l.length≤sizeLine)
  (hR:∀ s' σ' H' b' lV,L2.Inv X pins σ' H' s'->DE D H b H' b'->SR X.K H' b' st'->REnv X.K H' b' r σ'->H' D=some (.lst (accV++lV))->RVs X.K H' b' l lV->R (.ok .next) s') :
  codeAny (model X.prog X.w) X.A (.compLoop (.ListComp elt gens scope pos) d (.ref it) (.ref D) X.env) R s:=by
 have stat:∀ {H':Hp},(∀ a∈fp,H' a=none) -> ∀ a∈fp,zu X pins H' a:=fun hn a ha=>⟨hn a ha,(hf a ha).2⟩
 refine codeAny_loop rfl (fun n s1 => ∃ i σ1 H1 b1 st1 done doneV m,n=w.l.length + 1 - i∧i≤w.l.length∧L2.Inv X pins σ1 H1 s1∧DE D H b H1 b1∧SR X.K H1 b1 st1∧REnv X.K H1 b1 r σ1∧H1 D=some (.lst (accV++doneV))∧RVs X.K H1 b1 done doneV∧tn i s1.heap∧(∀ a∈fp,H1 a=none) ∧
  qZ w.G (QD g rest r) (w.l.drop i) st1 = .ok m st'∧done++m=l) ?_ (w.l.length + 1)
  ⟨0,σ,H,b,st,[],[],l,by omega,BJ _,I,DE.of (Ext.refl _ _),S,RE,by simpa using hD,RVs.nil,t0,fun a ha=>(hf a ha).1,by simpa using hv,rfl⟩
 rintro n s1 ⟨i,σ1,H1,b1,st1,done,doneV,m,hn,hi,I1,e1,S1,R1,hD1,rd1,t1,fr1,hv1,hm⟩
 show wpAny _ X.A ((compTurn (.ListComp elt gens scope pos) d (.ref it) (.ref D) X.env).onRaise (fun x=>do noteFrame x X.env;theTreesLotGoes x)) _ _ s1
 refine wpAny_noted ?_
 rw [hturn]
 refine AA (Bw (AA ?_))
 have hz1:D∈b1.z:=by rw [e1.same];exact hDz
 by_cases hlt:i < w.l.length
 ·have hd:w.l.drop i=w.l[i]::w.l.drop (i + 1):=List.drop_eq_getElem_cons hlt
  rw [hd] at hv1
  unfold qZ at hv1
  by_cases hG:w.G st1
  ·rw [AI hG] at hv1
   obtain ⟨h1,h2⟩:=hit H1 b1 st1 e1.toWE (fun a o u h=>e1.fz a o u (fun z=>by rw [z,hD] at h;cases h) h) S1 hG
   obtain ⟨go,yl⟩:=h1 i w.l[i] (AD hlt)
   cases ek:QD g rest r w.l[i] st1 with
   |no=>rw [ek] at hv1;cases hv1
   |ex x s5=>rw [ek] at hv1;cases hv1
   |ok l1 s5 =>
    rw [ek] at hv1
    have hv1:(qZ w.G (QD g rest r) (w.l.drop (i + 1)) s5).bind (fun m s' => .ok (l1++m) s') = .ok m st':=hv1
    cases ek2:qZ w.G (QD g rest r) (w.l.drop (i + 1)) s5 with
    |no=>rw [ek2] at hv1;cases hv1
    |ex x s6=>rw [ek2] at hv1;cases hv1
    |ok m2 s6 =>
     rw [ek2] at hv1
     have hv1:Rs.ok (l1++m2) s6 = .ok m st':=hv1
     injection hv1 with hv1a hv1b
     subst hv1a;subst hv1b
     refine thn (T.item X rfl rfl rfl rfl i pins s1 σ1 H1 _ I1 (stat fr1) t1 go) fun rr s2 ⟨u,hr,h4⟩ => ?_
     subst hr
     refine AA (thn h4 fun _ s3 ⟨x,H3,I3,r3,y3,t3,fr3⟩ => ?_)
     obtain ⟨sm3,S3,rx3⟩:=yl x H3 y3
     have e3:Ext H1 b1 H3 b1:=Ext.of_same sm3
     have hD3:=sm3 _ _ hD1
     unfold QD at ek
     cases eg:g.g w.l[i] r with
     |none=>rw [eg] at ek;cases ek
     |some r' =>
      rw [eg] at ek
      have ek:(Qx g.ts r' st1).bind (fun k s1=>if k=true then rest r' s1 else .ok [] s1) = .ok l1 s5:=ek
      cases et:Qx g.ts r' st1 with
      |no=>rw [et] at ek;cases ek
      |ex x s7=>rw [et] at ek;cases ek
      |ok k s7 =>
       rw [et] at ek
       have ek:(if k=true then rest r' s7 else .ok [] s7) = .ok l1 s5:=ek
       have I3':=I3.pinned (stat fr3) (T.obj _ _ t3)
       refine AA (BD (hg.tg _ s3 σ1 H3 x u (fun σ' H'=>H'=H3∧REnv X.K H3 b1 r' σ') I3' r3 ⟨b1,r,w.l[i],st1,S3,R1.ext e3,rx3,r',eg,fun s' R'=>⟨rfl,R'⟩⟩) (fun _ s4 hq => ?_) fun e' s' z=>(hx e' s' z).elim)
       obtain ⟨σ4,H4,I4,rfl,R4⟩:=hq
       refine AA (Y9 hx hg.ts I4 S3 R4 et fun s5' H5 b5 I5 e5 S5 => ?_)
       have hz5:D∈b5.z:=by rw [e5.same];exact hz1
       have hD5:=e5.hid _ _ hz1 hD3
       have e15:DE D H b H5 b5:=(e1.trans (DE.of e3)).trans (DE.of e5)
       have back:∀ {s7':Shared} {σ7:L2.St} {H7:Hp} {b7:Bz} {l1V:List V},L2.Inv X (pins++zZ fp s3.heap) σ7 H7 s7'->DE D H5 b5 H7 b7->SR X.K H7 b7 s5->REnv X.K H7 b7 r' σ7->H7 D=some (.lst (accV++doneV++l1V))->RVs X.K H7 b7 l1 l1V ->
         ∃ m,m < n ∧ ∃ i σ1 H1 b1 st1 done doneV mm,m=w.l.length + 1 - i∧i≤w.l.length∧L2.Inv X pins σ1 H1 s7'∧DE D H b H1 b1∧SR X.K H1 b1 st1∧REnv X.K H1 b1 r σ1∧H1 D=some (.lst (accV++doneV))∧RVs X.K H1 b1 done doneV∧tn i s7'.heap∧(∀ a∈fp,H1 a=none) ∧
         qZ w.G (QD g rest r) (w.l.drop i) st1 = .ok mm s6∧done++mm=l:=fun {s7' σ7 H7 b7 l1V} I7 e7 S7 R7 hD7 rl7=>by
        refine ⟨w.l.length + 1 - (i + 1),by omega,i + 1,σ7,H7,b7,s5,done++l1,doneV++l1V,m2,rfl,hlt,I7.unpinned,e15.trans e7,S7,R7.le (hg.fr _ _ _ eg),by rw [hD7,Ba],?_,T.keep _ _ _ t3 fun a ha o e=>(I7.pin (a,o) (Ax _ (Ax _ (Wf ha e)))).1,fun a ha => ?_,ek2,by rw [Ba];exact hm⟩
        ·exact RVs.append (RVs.wext e7.toWE done (RVs.ext e5 done (RVs.ext e3 done rd1))) rl7
        ·obtain ⟨o,e,_⟩:=T.obj _ _ t3 a ha
         exact (I7.pin (a,o) (Ax _ (Ax _ (Wf ha e)))).2.1
       cases k with
       |false =>
        rw [AQ Bx] at ek ⊢
        injection ek with ek1 ek2'
        subst ek1;subst ek2'
        refine AB ⟨rfl,back I5 (DE.of (Ext.refl _ _)) S5 (R4.ext e5) (by rw [Bl];exact hD5) RVs.nil⟩
       |true =>
        rw [AI rfl] at ek ⊢
        refine hin _ s5' σ4 H5 b5 r' s7 s5 l1 (accV++doneV) _ _ I5 S5 (R4.ext e5) hz5 hD5 ek ?_ fun s8 σ8 H8 b8 lV I8 e8 S8 R8 hD8 r8=>⟨rfl,back I8 e8 S8 R8 hD8 r8⟩
        have h1:=rd1.length
        have h2:l.length=done.length + (l1.length + m2.length):=by rw [← hm,Af,Af]
        rw [Af];omega
  ·rw [AQ hG] at hv1;cases hv1
 ·have hl:i=w.l.length:=by omega
  subst hl
  rw [List.drop_length] at hv1
  unfold qZ at hv1
  by_cases hG:w.G st1
  ·rw [AI hG] at hv1
   injection hv1 with k1 k2
   subst k1;subst k2
   obtain ⟨h1,h2⟩:=hit H1 b1 st1 e1.toWE (fun a o u h=>e1.fz a o u (fun z=>by rw [z,hD] at h;cases h) h) S1 hG
   refine thn (T.done X rfl rfl rfl rfl _ pins s1 σ1 H1 _ I1 (stat fr1) t1 (h2 _ (AL _))) fun r2 s2 ⟨hr,I2⟩ => ?_
   subst hr
   rw [Bl] at hm
   subst hm
   exact AB (hR s2 σ1 H1 b1 doneV I2 e1 S1 R1 hD1 rd1)
  ·rw [AQ hG] at hv1;cases hv1
theorem ym {X:Cx} (hx:∀ e s,X.xe e s->False) {elt:Expr} {gens:List Comprehension} {scope:Scope} {pos:Pos} {f:FE} {D:Addr} (he:VE X E0 elt f) :
  ∀ (gs:List GenF) (cs:List Comprehension) (d:Nat) (c:Comprehension) (g:GenF),gens.drop d=c::cs->GOk X c g->GsOk X cs gs ->
  ∀ (pins:List (Addr×Obj)) (s:Shared) (σ:L2.St) (H:Hp) (b:Bz) (r:qo) (st st':qB) (it:Addr) (fp:List Addr) (tn:Nat->Heap->Prop) (J:It) (w:ItP) (accV:List V) (l:List PV) (R:Result->Shared->Prop),
  L2.Inv X pins σ H s->SR X.K H b st->REnv X.K H b r σ->D∈b.z->H D=some (.lst accV)->Turn X.prog X.w X.K X.A c.target J fp it tn->tn 0 s.heap->(∀ a∈fp,zu X pins H a)->Zb X.K H b J w ->
  qZ w.G (QD g (QL gs f) r) w.l st = .ok l st'->accV.length + l.length≤sizeLine ->
  (∀ s' σ' H' b' lV,L2.Inv X pins σ' H' s'->DE D H b H' b'->SR X.K H' b' st'->REnv X.K H' b' r σ'->H' D=some (.lst (accV++lV))->RVs X.K H' b' l lV->R (.ok .next) s') ->
  codeAny (model X.prog X.w) X.A (.compLoop (.ListComp elt gens scope pos) d (.ref it) (.ref D) X.env) R s:=by
 intro gs
 induction gs with
 |nil =>
  intro cs d c g hdr hg hgs pins s σ H b r st st' it fp tn J w accV l R I S RE hDz hD T t0 hf hit hv hsz hR
  cases hgs
  have hgd:gens[d]? = some c:=by
   have:(gens.drop d)[0]? = some c:=by rw [hdr];rfl
   simpa using this
  have hgn:gens[d + 1]? = none:=by
   have:(gens.drop d)[1]? = none:=by rw [hdr];rfl
   simpa using this
  refine jV hx hg ?_ (yQ hgd hg.asy hgn) I S RE hDz hD T t0 hf hit hv hsz hR
  intro pins s σ H b r st st' l accV QF E I S RE hDz hD hv hsz q
  have hv:(f r st).bind (fun p s => .ok [p] s) = .ok l st':=hv
  cases ef:f r st with
  |no=>rw [ef] at hv;cases hv
  |ex x s1=>rw [ef] at hv;cases hv
  |ok p s1 =>
   rw [ef] at hv
   have hv:Rs.ok [p] s1 = .ok l st':=hv
   injection hv with h1 h2
   subst h1;subst h2
   refine AA (AA (BD (he pins s σ H (fun v H' => ∃ b',Ext H b H' b'∧SR X.K H' b' s1∧RV X.K H' b' p v) I ⟨b,r,st,S,RE,by rw [ef];exact fun v H' b' e' S' r'=>⟨b',e',S',r'⟩⟩) (fun u s2 hq => ?_) fun e' s' z=>(hx e' s' z).elim))
   obtain ⟨v,H2,I2,rv,b2,e2,S2,r2⟩:=hq
   have hz2:D∈b2.z:=by rw [e2.same];exact hDz
   refine AA (qA3 hx I2 (e2.hid _ _ hDz hD) (by rw [CA] at hsz;omega) rv fun _ s3 I3=>AB (AB ?_))
   have dw:DE D H2 b2 (upd H2 D (.lst (accV++[v]))) b2:=DE.wr hz2
   exact q s3 σ _ b2 [v] I3 ((DE.of e2).trans dw) (SR.wrz S2 hz2) ((RE.ext e2).wext dw.toWE) Qa (RVs.cons (RV.wext dw.toWE p r2) RVs.nil)
 |cons g2 gs ih =>
  intro cs d c g hdr hg hgs pins s σ H b r st st' it fp tn J w accV l R I S RE hDz hD T t0 hf hit hv hsz hR
  cases hgs with
  | @cons c2 _ cs _ h2 hr2 =>
   have hgd:gens[d]? = some c:=by
    have:(gens.drop d)[0]? = some c:=by rw [hdr];rfl
    simpa using this
   have hgn:gens[d + 1]? = some c2:=by
    have:(gens.drop d)[1]? = some c2:=by rw [hdr];rfl
    simpa using this
   have hdr2:gens.drop (d + 1)=c2::cs:=by
    have:(gens.drop d).drop 1=c2::cs:=by rw [hdr];rfl
    rwa [List.drop_drop] at this
   refine jV hx hg ?_ (yV hgd hg.asy hgn h2.asy) I S RE hDz hD T t0 hf hit hv hsz hR
   intro pins s σ H b r st st' l accV QF E I S RE hDz hD hv hsz q
   have hv:(g2.fi r st).bind (fun w s=>qZ w.G (QD g2 (QL gs f) r) w.l s) = .ok l st':=hv
   cases ef:g2.fi r st with
   |no=>rw [ef] at hv;cases hv
   |ex x s1=>rw [ef] at hv;cases hv
   |ok w2 s1 =>
    rw [ef] at hv
    have hv:qZ w2.G (QD g2 (QL gs f) r) w2.l s1 = .ok l st':=hv
    have hi:=h2.it pins s σ H (fun J H' => ∃ b',Ext H b H' b'∧SR X.K H' b' s1∧Zb X.K H' b' J w2) I ⟨b,r,st,S,RE,by rw [ef];exact fun J H' b' e' S' i'=>⟨b',e',S',i'⟩⟩
    refine AA (BD hi (fun u s2 hq => ?_) fun e' s' z=>(hx e' s' z).elim)
    refine AA (Bw (AA (Al (h2.fold u) (AA (Ai (BD hq (fun itv s3 hq3 => ?_) fun e' s' z=>(hx e' s' z).elim))))))
    obtain ⟨it2,fp2,tn2,J2,H3,rfl,I3,T2,t2,f2,b3,e3,S3,i3⟩:=hq3
    have hz3:D∈b3.z:=by rw [e3.same];exact hDz
    have hD3:=e3.hid _ _ hDz hD
    refine AA (wpAny_runOwn ?_)
    have loop:=ih cs (d + 1) c2 g2 hdr2 h2.toGOk hr2 pins s3 σ H3 b3 r s1 st' it2 fp2 tn2 J2 w2 accV l (fun r s'=>match r with
     | .ok f=>wpAny (model X.prog X.w) X.A (again (.compLoop (.ListComp elt gens scope pos) d (.ref it) (.ref D) X.env)) QF E s'
     | .error e=>cameBackBy (model X.prog X.w) X.A X.env E e s') I3 S3 (RE.ext e3) hz3 hD3 T2 t2 f2 i3 hv hsz
     fun s' σ' H' b' lV I' e' S' R' hD' r'=>AB (q s' σ' H' b' lV I' ((DE.of e3).trans e') S' R' hD' r')
    exact Wb hgn h2.asy loop (T2.self X.A 0 s3 _ _ t2 loop)
theorem jR {M:Model} {A:Around} {E:Value->Shared->Prop} {s:Shared} {scope:Scope} {env:Env} {cl:List (Str×Addr)} {Q:Env->Shared->Prop}
  (h:Q { scope:=scope,locals:=s.heap.objs.size,globals:=env.globals,cells:=cellsFrom (s.heap.objs.size + 1) scope.names cl,qual:=env.qual,func:=none,code:=env.code,frame:=env.frame,builtins:=env.builtins } { s with heap:=pushCells (s.heap.push { cls := .type "dict",data := .dict #[] }) scope.names }) :
  wpAny M A (newFunctionEnv scope env.globals cl [] env.qual none .none (some env)) Q E s:=by
 simp only [newFunctionEnv,Option.isSome_some,if_true]
 refine AA (wpAny_alloc ?_)
 refine AA (wpAny_layCells _ (fun name kind cells=>by cases hkc:kind==NameKind.cell <;> simp [hkc]) _ _ _ _ ?_)
 rw [show ({ s with heap:=s.heap.push { cls := .type "dict",data := .dict #[] } }:Shared).heap.objs.size=s.heap.objs.size + 1 from BR ..]
 exact AA (AB (AB h))
def Ws (caps:List Nat) (n:Nat) (r:qo):qo:=(caps.map fun j=>(r[j]?).join)++List.replicate n none
noncomputable def ql (caps:List Nat) (n:Nat) (fi:FI) (g:FG) (ts:List FT) (gs:List GenF) (f:FE):FL:=fun r st=>(fi r st).bind fun w s=>match qZ w.G (QD ⟨fi,g,ts⟩ (QL gs f) (Ws caps n r)) w.l s with
 | .ok l s'=>if l.length≤sizeLine then .ok l s' else .no
 |_ => .no
theorem jU {K:W.Frag} {H:Hp} {b:Bz} {r:qo} {σ:L2.St} {caps:List Nat} {n:Nat} (R:REnv K H b r σ):REnv K H b (Ws caps n r) ((caps.map fun j=>(σ[j]?).join)++List.replicate n none):=by
 refine ⟨by simp [Ws],fun i p e => ?_⟩
 unfold Ws at e
 by_cases hi:i < caps.length
 ·rw [Ac (by simpa using hi),Ah] at e
  rw [Ac (by simpa using hi),Ah]
  cases ej:caps[i]? with
  |none=>rw [ej] at e;cases e
  |some j =>
   rw [ej] at e
   have e':(r[j]?).join=some p:=AZ e
   have e2:r[j]? = some (some p):=by
    cases q:r[j]? with
    |none=>rw [q] at e';cases e'
    |some o=>rw [q] at e';exact congrArg some e'
   obtain ⟨v,h1,h2⟩:=R.2 j p e2
   refine ⟨v,?_,h2⟩
   show some (σ[j]?).join=some (some v)
   rw [h1];rfl
 ·rw [Az (by simpa using hi),Bu] at e
  split at e <;> cases e
theorem yX {K:W.Frag} {H:Hp} {b:Bz} {J:It} {w:ItP} {D:Addr} {o:HO} (h:Zb K H b J w) (hD:H D=none):Zb K (upd H D o) ⟨b.b,D::b.z⟩ J w:=fun H1 b1 st1 e f S g=>h H1 b1 st1 ((WE.hide hD).trans e) (fun a o u q=>f a o u (by rw [qQ (qL q hD)];exact q)) S g
theorem QW {X:Cx} {E:XK} {elt:Expr} {c:Comprehension} {cs:List Comprehension} {scope:Scope} {pos:Pos} {capN locN:List Str} {caps:List Nat} {fi:FI} {g:FG} {ts:List FT} {gs:List GenF} {f:FE} (hcs:CSc X scope capN locN caps)
  (hi:VI X E c.target c.iter fi) (sub:∀ s H fp pn,VE (cCx X scope (capN++locN) s H fp pn) E0 elt f∧GOk (cCx X scope (capN++locN) s H fp pn) c ⟨fi,g,ts⟩∧GsOk (cCx X scope (capN++locN) s H fp pn) cs gs)
  (hs:∀ x,foldedSetIterable c.iter X.env x=pure x:=by intro _;rfl):VN X E (.ListComp elt (c::cs) scope pos) (ql caps locN.length fi g ts gs f):=by
 intro pins s σ H Q I hq
 obtain ⟨b,r,st,S,RE,P⟩:=hq
 have hfree:∀ x∈scope.names,x.2 = .free -> ∃ c,X.env.cells.lookup x.1=some c:=fun x hx hk=>I.ok.has x.1 (hcs.fr x hx hk)
 obtain ⟨c1,c2,c3,c4⟩:=c
 have hasy:c4=0:=(sub s H [] []).2.1.asy
 subst hasy
 rw [eval_ListComp]
 refine wpAny_comprehension_free (use:=none) rfl hs (Zn hfree) hcs.kind (fun x hx hl=>w6 hcs.nd (by rw [← hl];exact hx)) ?_
 show wpAny _ _ (eval c2 X.env) _ _ s
 unfold ql at P
 cases ef:fi r st with
 |no=>rw [ef] at P;exact P.elim
 |ex x s1 =>
  rw [ef] at P
  refine thn (hi pins s σ H (fun _ _=>False) I ⟨b,r,st,S,RE,by rw [ef];exact P⟩) fun v s2 h2=>thn h2 fun itv s3 h3 => ?_
  obtain ⟨_,_,_,_,_,_,_,_,_,_,z⟩:=h3
  exact z.elim
 |ok w s1 =>
  rw [ef] at P
  refine thn (hi pins s σ H (fun J H' => ∃ b',Ext H b H' b'∧SR X.K H' b' s1∧Zb X.K H' b' J w) I ⟨b,r,st,S,RE,by rw [ef];exact fun J H' b' e' S' i'=>⟨b',e',S',i'⟩⟩) fun v s2 h2=>thn h2 fun itv s3 h3 => ?_
  obtain ⟨it,fp,tn,J,H2,rfl,I2,T,t2,f2,b2,e2,S2,i2⟩:=h3
  have P:PostN X.K E H b (match qZ w.G (QD ⟨fi,g,ts⟩ (QL gs f) (Ws caps locN.length r)) w.l s1 with | .ok l s'=>if l.length≤sizeLine then .ok l s' else .no |_ => .no) Q:=P
  cases ev:qZ w.G (QD ⟨fi,g,ts⟩ (QL gs f) (Ws caps locN.length r)) w.l s1 with
  |no=>rw [ev] at P;exact P.elim
  |ex x s4=>rw [ev] at P;exact P.elim
  |ok l st' =>
   rw [ev] at P
   have P:PostN X.K E H b (if l.length≤sizeLine then .ok l st' else .no) Q:=P
   by_cases hl:l.length≤sizeLine
   ·rw [AI hl] at P
    have hfr:H2 s3.heap.objs.size=none:=I2.hok.fresh (AL _)
    refine Bp ?_
    generalize hs3:({ s3 with heap:=s3.heap.push { cls := .type "list",data := .seq ([]:List Value).toArray } }:Shared)=s3'
    have I3:L2.Inv X pins σ (upd H2 s3.heap.objs.size (.lst [])) s3':=by
     rw [← hs3]
     exact I2.laid (t':=s3.toks) (fun a u e=>AC _ e) (AL _) (show ObjOk X.prog X.w _ _ _ (.lst []) from ⟨BJ _,[],0,.nil,AR _ rfl⟩)
    have k3:∀ a o,s3.heap.get? a=some o->s3'.heap.get? a=some o:=fun a o e=>by rw [← hs3];exact AC _ e
    have hlt:∀ a∈fp,a < s3.heap.objs.size:=fun a ha=>by
     obtain ⟨o,e,_⟩:=T.obj _ _ t2 a ha
     exact AJ e
    have f3:∀ a∈fp,zu X pins (upd H2 s3.heap.objs.size (.lst [])) a:=fun a ha=>⟨by rw [qQ (AT (hlt a ha))];exact (f2 a ha).1,(f2 a ha).2⟩
    have hlt3:∀ a∈fp,a < s3'.heap.objs.size:=fun a ha=>by
     obtain ⟨o,e,_⟩:=T.obj _ _ t2 a ha
     exact AJ (k3 a o e)
    generalize hD:s3.heap.objs.size=D at I3 f3 hfr
    refine jR ?_
    have J0:=Zm hcs I3 f3 hlt3 rfl
    obtain ⟨he,hg,hgs⟩:=sub s3' (upd H2 D (.lst [])) fp (X.pn++pins)
    have k4:∀ a o,s3'.heap.get? a=some o->(pushCells (s3'.heap.push { cls := .type "dict",data := .dict #[] }) scope.names).get? a=some o:=fun a o e=>CK _ _ _ _ (AC _ e)
    have hDz:D ∉ b2.z:=(S2.new_notin hfr).2
    have loop:=ym (X:=cCx X scope (capN++locN) s3' (upd H2 D (.lst [])) fp (X.pn++pins)) (fun _ _ z=>z) (gens:=⟨c1,c2,c3,0⟩::cs) (scope:=scope) (pos:=pos) (D:=D) he gs cs 0 ⟨c1,c2,c3,0⟩ ⟨fi,g,ts⟩ rfl hg hgs [] _ _ _ ⟨b2.b,D::b2.z⟩ (Ws caps locN.length r) s1 st' it fp tn J w [] l
     (compPost (model X.prog X.w) X.A X.xe none (EP X pins σ Q) (.ref D) s3'.heap.objs.size) J0 (SR.hide S2 hfr) (jU ((RE.ext e2).wext (WE.hide hfr))) AK Qa T (T.keep _ _ _ t2 fun a ha o e=>k4 a o (k3 a o e))
     (fun a ha=>⟨(f3 a ha).1,(J0.ok.exf a ha).1,J0.ok.exfs a ha,.inl ha,(J0.ok.exf a ha).2,fun p hp=>(f3 a ha).2.2.2.2.2 p (by simpa [cCx] using hp)⟩) (yX i2 hfr) ev (by simpa using hl)
     (fun s' σ' H' b' lV I' e' S' R' hD' r'=>by
      obtain ⟨m,hn,_⟩:=I'.loc
      refine ⟨m,hn,fun h'' sb => ?_⟩
      have fin:=jI I3 f3 I' sb
      have hz':b'.z=D::b2.z:=e'.same
      refine ⟨.ref D,H',fin,rfl,?_⟩
      have ex:Ext H2 b2 H' ⟨b'.b,b2.z⟩:=by
       refine ⟨⟨?_,⟨[],rfl,by simp⟩,fun a o ha ho => ?_,fun a o ha => ?_⟩,rfl,fun a o hz ha => ?_,fun a o u ha=>e'.fz a o u (qL ha hfr) (by rw [qQ (qL ha hfr)];exact ha)⟩
       ·obtain ⟨n,hb,hh⟩:=e'.more
        exact ⟨n,hb,fun a ha=>by
         have:=hh a ha
         by_cases q:a=D
         ·rw [q];exact hfr
         ·rwa [qQ q] at this⟩
       ·have hne:a≠D:=qL ha hfr
        exact e'.keep a o (by rw [qQ hne];exact ha) ⟨ho.1,fun z=>(AH.mp z).elim hne ho.2⟩
       ·have hne:a≠D:=qL ha hfr
        exact e'.dom a o (by rw [qQ hne];exact ha)
       ·have hne:a≠D:=qL ha hfr
        exact e'.hid a o (AG _ hz) hne (by rw [qQ hne];exact ha)
      have hb':(⟨b'.b,D::b2.z⟩:Bz)=b':=by rw [← hz']
      refine P D lV H' ⟨b'.b,b2.z⟩ (e2.trans ex) (e2.none_of hfr) (by simpa using hD') hDz ?_ ?_
      ·show SR X.K H' ⟨b'.b,D::b2.z⟩ st'
       rw [hb'];exact S'
      ·show RVs X.K H' ⟨b'.b,D::b2.z⟩ l lV
       rw [hb'];exact r')
    exact Wb rfl rfl loop (T.self X.A 0 _ _ _ (T.keep _ _ _ t2 fun a ha o e=>k4 a o (k3 a o e)) loop)
   ·rw [AQ hl] at P;exact P.elim
def QR (n:Nat) (l:List PV):qo:=l.map some++List.replicate (n - l.length) none
def qDC:RS->Rs PV
 | .nx _ st => .ok .non st
 | .rt v st => .ok v st
 | .ex x st => .ex x st
 |_ => .no
def Refn (n:Nat) (r r':Rs PV):Prop := ∀ (K:W.Frag) (E:XK) (H:Hp) (b:Bz) (Q:VK),b.b.length=n->PostE K E H b r' Q->PostE K E H b r Q
theorem Refn.refl {n:Nat} {r:Rs PV}:Refn n r r:=fun _ _ _ _ _ _ h=>h
theorem REnv.init {K:W.Frag} {H:Hp} {b:Bz} {N:List Str} {l:List PV} {vs:List V} (h:RVs K H b l vs):REnv K H b (QR N.length l) (start N vs):=by
 have hl:=h.length
 refine ⟨by simp [QR,L2.start,hl],fun i p e => ?_⟩
 unfold QR at e
 unfold L2.start
 by_cases hi:i < l.length
 ·rw [Ac (by simpa using hi),Ah] at e
  rw [Ac (by simpa [← hl] using hi),Ah]
  cases q:l[i]? with
  |none=>rw [q] at e;cases e
  |some p' =>
   rw [q] at e
   cases e
   obtain ⟨v,h1,h2⟩:=h.get q
   exact ⟨v,by rw [h1];rfl,h2⟩
 ·rw [Az (by simpa using hi),Bu] at e
  split at e <;> cases e
section
variable {P:Program} {w:World} {K:W.Frag} {mg:Str->Option Value} {base:Heap}
theorem okV {CX:CXT} {x qual:Str} {st:Stmt} {f:Addr} {fd:FuncData} {N ps:List Str} {k:Nat} {g:List PV->qB->Rs PV} (F:Fun K x qual st f fd) (S:FnScope N ps (qI st))
  (body:∀ (cdv:Value) (A:Around) (outer:List Env) (s:Shared) (H:Hp) (E:XK),Room k (A.deeper (envOfC qual (qI st) s.heap.objs.size f cdv))->(0 < k->A.handled=none) ->
   ∃ B:FS,VSs (Wd CX P w K mg base N qual (qI st) f cdv A outer s H E) E (qd st) B ∧ ∀ l s0,l.length=ps.length->g l s0 ≠ .no->Refn s0.length (qDC (B (QR N.length l) s0)) (g l s0)):FnOk P w K mg base CX (k + 1) f fd ps (spG K ps.length g):=by
 obtain ⟨oc,od,kV,doc,pm,an,cdv,ct,osl,rfl,lk,hcd⟩:=F.ex
 refine qGj lk hcd S (fun vs H Q E h=>h.1) fun A outer s H vs Q E hr hcm hsp => ?_
 obtain ⟨B,hB,hg⟩:=body cdv A outer s H E hr hcm
 obtain ⟨hl,b,l,st0,S0,r0,P0⟩:=hsp
 refine ⟨_,hB,b,QR N.length l,st0,S0,REnv.init r0,?_⟩
 have hne:g l st0 ≠ .no:=fun z=>by rw [z] at P0;exact P0
 have P1:=hg l st0 (by rw [r0.length];exact hl) hne K E H b Q S0.len P0
 cases e:B (QR N.length l) st0 with
 |nx r st=>rw [e] at P1;exact fun s H' b' e' S' R'=>P1 .non H' b' e' S' (by unfold RV;rfl)
 |rt v st=>rw [e] at P1;exact P1
 |bk r st=>rw [e] at P1;exact P1.elim
 |ct r st=>rw [e] at P1;exact P1.elim
 |ex x st=>rw [e] at P1;exact P1
 |no=>rw [e] at P1;exact P1.elim
end
mutual
def peq:PV->PV->Bool
 | .non,.non=>true
 | .bl a,.bl c=>a==c
 | .int a,.int c=>a==c
 | .bl a,.int c=>(if a then 1 else 0)==c
 | .int a,.bl c=>a==(if c then 1 else 0)
 | .str a,.str c=>a==c
 | .tup l,.tup m=>peqs l m
 | .lst l,.lst m=>peqs l m
 |_,_=>false
def peqs:List PV->List PV->Bool
 |[],[]=>true
 |p::ps,q::qs=>peq p q&&peqs ps qs
 |_,_=>false
end
mutual
def nr:PV->Bool
 | .tup l=>nrs l
 | .lst l=>nrs l
 | .ref _=>false
 | .dct=>false
 | .ty _=>false
 | .fn _=>false
 | .exc _ _=>false
 |_=>true
def nrs:List PV->Bool
 |[]=>true
 |p::ps=>nr p&&nrs ps
end
mutual
def dep:PV->Nat
 | .tup l=>deps l + 1
 | .lst l=>deps l + 1
 |_=>0
def deps:List PV->Nat
 |[]=>0
 |p::ps=>max (dep p) (deps ps)
end
mutual
def RW (K:W.Frag) (H:Hp):PV->V->Prop
 | .non,v=>v = .non
 | .bl x,v=>v = .bl x
 | .int i,v=>v = .int i
 | .str x,v=>v = .str x
 | .tup l,v => ∃ a xs,v = .ref a∧SqT K H a xs∧RWs K H l xs
 | .lst l,v => ∃ a xs,v = .ref a∧SqL K H a xs∧RWs K H l xs
 |_,_=>False
def RWs (K:W.Frag) (H:Hp):List PV->List V->Prop
 |[],xs=>xs=[]
 |p::ps,xs => ∃ x r,xs=x::r∧RW K H p x∧RWs K H ps r
end
mutual
theorem RV.rw {K:W.Frag} {H:Hp} {b:Bz}:∀ (p:PV) {v:V},nr p=true->RV K H b p v->RW K H p v
 | .non,_,_,h=>by unfold RV at h;unfold RW;exact h
 | .bl _,_,_,h=>by unfold RV at h;unfold RW;exact h
 | .int _,_,_,h=>by unfold RV at h;unfold RW;exact h
 | .str _,_,_,h=>by unfold RV at h;unfold RW;exact h
 | .tup l,_,n,h=>by
  unfold RV at h;unfold RW;unfold nr at n
  obtain ⟨a,xs,h1,h2,h3⟩:=h
  exact ⟨a,xs,h1,h2.sq,RVs.rws l n h3⟩
 | .lst l,_,n,h=>by
  unfold RV at h;unfold RW;unfold nr at n
  obtain ⟨a,xs,h1,h2,h3⟩:=h
  exact ⟨a,xs,h1,h2.sq,RVs.rws l n h3⟩
 | .ref _,_,n,_=>by unfold nr at n;cases n
 | .dct,_,n,_=>by unfold nr at n;cases n
 | .ty _,_,n,_=>by unfold nr at n;cases n
 | .fn _,_,n,_=>by unfold nr at n;cases n
 | .exc _ _,_,n,_=>by unfold nr at n;cases n
theorem RVs.rws {K:W.Frag} {H:Hp} {b:Bz}:∀ (l:List PV) {xs:List V},nrs l=true->RVs K H b l xs->RWs K H l xs
 |[],_,_,h=>by unfold RVs at h;unfold RWs;exact h
 |p::ps,_,n,h=>by
  unfold RVs at h;unfold RWs;unfold nrs at n
  rw [Ar] at n
  obtain ⟨x,r,h1,h2,h3⟩:=h
  exact ⟨x,r,h1,RV.rw p n.1 h2,RVs.rws ps n.2 h3⟩
end
theorem RWs.length {K:W.Frag} {H:Hp}:∀ {l:List PV} {xs:List V},RWs K H l xs->l.length=xs.length
 |[],_,h=>by unfold RWs at h;rw [h];rfl
 |p::ps,_,h=>by
  unfold RWs at h
  obtain ⟨x,r,rfl,_,h3⟩:=h
  rw [AO,AO,RWs.length h3]
section
variable {X:Cx} {pins:List (Addr×Obj)} {σ:L2.St} {H:Hp} {s:Shared}
theorem jd (I:L2.Inv X pins σ H s) {a:Addr} {xs ys:List V} (h1:SqL X.K H a xs) (h2:SqT X.K H a ys):False:=by
 obtain ⟨its,_,p,_⟩:=I.list h1
 obtain ⟨its',_,q,_⟩:=I.tuple h2
 obtain ⟨o,ho,hc,n,hd⟩:=p.isList
 obtain ⟨o',ho',hc',_⟩:=q
 rw [ho] at ho';cases ho'
 rw [hc] at hc'
 injection hc' with z
 exact absurd z (by decide)
mutual
theorem RW.same (I:L2.Inv X pins σ H s):∀ (p q:PV) {v:V},RW X.K H p v->RW X.K H q v->peq p q=true
 | .non,q,v,h,g=>by
  unfold RW at h;subst h
  cases q <;> unfold RW at g <;> first |rfl |exact (g:False).elim |(obtain ⟨_,_,e,_⟩:=g;cases e) |cases g
 | .bl x,q,v,h,g=>by
  unfold RW at h;subst h
  cases q <;> unfold RW at g <;> first |(obtain ⟨_,_,e,_⟩:=g;cases e) |(cases g;simp [peq];done) |exact (g:False).elim |cases g
 | .int x,q,v,h,g=>by
  unfold RW at h;subst h
  cases q <;> unfold RW at g <;> first |(obtain ⟨_,_,e,_⟩:=g;cases e) |(cases g;simp [peq];done) |exact (g:False).elim |cases g
 | .str x,q,v,h,g=>by
  unfold RW at h;subst h
  cases q <;> unfold RW at g <;> first |(obtain ⟨_,_,e,_⟩:=g;cases e) |(cases g;simp [peq];done) |exact (g:False).elim |cases g
 | .tup l,q,v,h,g=>by
  unfold RW at h
  obtain ⟨a,xs,rfl,h2,h3⟩:=h
  cases q with
  |tup m =>
   unfold RW at g
   obtain ⟨a',ys,e,g2,g3⟩:=g
   cases e
   have:=I.tuple_inj h2 g2
   subst this
   unfold peq
   exact RWs.same I l m h3 g3
  |lst m =>
   unfold RW at g
   obtain ⟨a',ys,e,g2,g3⟩:=g
   cases e
   exact (jd I g2 h2).elim
  |ref _=>unfold RW at g;exact g.elim
  |dct=>unfold RW at g;exact g.elim
  |ty _=>unfold RW at g;exact g.elim
  |fn _=>unfold RW at g;exact g.elim
  |exc _ _=>unfold RW at g;exact g.elim
  |non=>unfold RW at g;cases g
  |bl _=>unfold RW at g;cases g
  |int _=>unfold RW at g;cases g
  |str _=>unfold RW at g;cases g
 | .lst l,q,v,h,g=>by
  unfold RW at h
  obtain ⟨a,xs,rfl,h2,h3⟩:=h
  cases q with
  |lst m =>
   unfold RW at g
   obtain ⟨a',ys,e,g2,g3⟩:=g
   cases e
   have:=I.list_inj h2 g2
   subst this
   unfold peq
   exact RWs.same I l m h3 g3
  |tup m =>
   unfold RW at g
   obtain ⟨a',ys,e,g2,g3⟩:=g
   cases e
   exact (jd I h2 g2).elim
  |ref _=>unfold RW at g;exact g.elim
  |dct=>unfold RW at g;exact g.elim
  |ty _=>unfold RW at g;exact g.elim
  |fn _=>unfold RW at g;exact g.elim
  |exc _ _=>unfold RW at g;exact g.elim
  |non=>unfold RW at g;cases g
  |bl _=>unfold RW at g;cases g
  |int _=>unfold RW at g;cases g
  |str _=>unfold RW at g;cases g
 | .ref _,_,_,h,_=>by unfold RW at h;exact h.elim
 | .dct,_,_,h,_=>by unfold RW at h;exact h.elim
 | .ty _,_,_,h,_=>by unfold RW at h;exact h.elim
 | .fn _,_,_,h,_=>by unfold RW at h;exact h.elim
 | .exc _ _,_,_,h,_=>by unfold RW at h;exact h.elim
theorem RWs.same (I:L2.Inv X pins σ H s):∀ (l m:List PV) {xs:List V},RWs X.K H l xs->RWs X.K H m xs->peqs l m=true
 |[],m,xs,h,g=>by
  unfold RWs at h;subst h
  cases m with
  |nil=>rfl
  |cons _ _=>unfold RWs at g;obtain ⟨_,_,e,_⟩:=g;cases e
 |p::ps,m,xs,h,g=>by
  unfold RWs at h
  obtain ⟨x,r,rfl,h2,h3⟩:=h
  cases m with
  |nil=>unfold RWs at g;cases g
  |cons q qs =>
   unfold RWs at g
   obtain ⟨y,t,e,g2,g3⟩:=g
   cases e
   unfold peqs
   rw [RW.same I p q h2 g2,RWs.same I ps qs h3 g3];rfl
end
def eqN (l m:List PV) (j:Nat):Bool:=match l[j]?,m[j]? with
 |some p,some q=>peq p q
 |_,_=>false
theorem We:∀ (l m:List PV),l.length=m.length->(List.range l.length).all (eqN l m)=peqs l m
 |[],[],_=>rfl
 |p::ps,q::qs,h=>by
  have ih:=We ps qs (by simpa using h)
  rw [AO,Bh,List.all_cons,List.all_map]
  unfold peqs
  have e0:eqN (p::ps) (q::qs) 0=peq p q:=rfl
  have e1:(eqN (p::ps) (q::qs) ∘ Nat.succ)=eqN ps qs:=by funext j;rfl
  rw [e0,e1,ih]
 |[],_::_,h=>by simp at h
 |_::_,[],h=>by simp at h
theorem wt:∀ (l m:List PV),l.length≠m.length->peqs l m=false
 |[],[],h=>absurd rfl h
 |[],_::_,_=>rfl
 |_::_,[],_=>rfl
 |p::ps,q::qs,h=>by
  unfold peqs
  rw [wt ps qs (by intro z;apply h;rw [AO,AO,z]),Bool.and_false]
theorem RWs.get' {K:W.Frag} {H:Hp}:∀ {l:List PV} {xs:List V} {i:Nat} {x:V},RWs K H l xs->xs[i]? = some x -> ∃ p,l[i]? = some p∧RW K H p x
 |[],_,_,_,h,e=>by unfold RWs at h;subst h;simp at e
 |p::ps,_,0,x,h,e=>by
  unfold RWs at h
  obtain ⟨y,r,rfl,h2,h3⟩:=h
  simp at e;subst e
  exact ⟨p,rfl,h2⟩
 |p::ps,_,i + 1,x,h,e=>by
  unfold RWs at h
  obtain ⟨y,r,rfl,h2,h3⟩:=h
  obtain ⟨q,e1,e2⟩:=RWs.get' (i:=i) h3 (by simpa using e)
  exact ⟨q,by simpa using e1,e2⟩
theorem Vals.get2:∀ {xs:List V} {us:List Value} {i:Nat} {u:Value},Vals xs us->us[i]? = some u -> ∃ x,xs[i]? = some x∧RelV x u
 |_,_,_,_,.nil,e=>by simp at e
 |_,_,0,_,.cons r _,e=>by simp at e;subst e;exact ⟨_,rfl,r⟩
 |_,_,i + 1,u,.cons _ t,e=>by
  obtain ⟨x,h1,h2⟩:=Vals.get2 (i:=i) (u:=u) t (by simpa using e)
  exact ⟨x,by simpa using h1,h2⟩
theorem Qc (I:L2.Inv X pins σ H s) (p q:PV) {v u:V} {uv uu:Value} {A:Around} (hd:dep p=0) (hu':A.units < cLine) (hp:RW X.K H p v) (hq:RW X.K H q u) (rv:RelV v uv) (ru:RelV u uu):SeqAt.EqAt A s uv uu (peq p q):=by
 cases p with
 |tup l=>unfold dep at hd;omega
 |lst l=>unfold dep at hd;omega
 |ref _=>unfold RW at hp;exact hp.elim
 |dct=>unfold RW at hp;exact hp.elim
 |ty _=>unfold RW at hp;exact hp.elim
 |fn _=>unfold RW at hp;exact hp.elim
 |exc _ _=>unfold RW at hp;exact hp.elim
 |non =>
  unfold RW at hp;subst hp;cases rv
  cases q with
  |non=>unfold RW at hq;subst hq;cases ru;exact SeqAt.EqAt.same _
  |bl _=>unfold RW at hq;subst hq;cases ru;exact SeqAt.EqAt.none_bool _
  |int _=>unfold RW at hq;subst hq;obtain ⟨t,rfl⟩:=ru;exact SeqAt.EqAt.none_int _ _
  |str _=>unfold RW at hq;subst hq;obtain ⟨t,rfl⟩:=ru;exact SeqAt.EqAt.none_str _ _
  |tup _=>unfold RW at hq;obtain ⟨a,xs,rfl,h2,_⟩:=hq;cases ru;obtain ⟨its,_,t,_⟩:=I.tuple h2;exact SeqAt.EqAt.none_tuple t hu'
  |lst _=>unfold RW at hq;obtain ⟨a,xs,rfl,h2,_⟩:=hq;cases ru;obtain ⟨its,_,t,_⟩:=I.list h2;exact SeqAt.EqAt.none_list t.isList hu'
  |ref _=>unfold RW at hq;exact hq.elim
  |dct=>unfold RW at hq;exact hq.elim
  |ty _=>unfold RW at hq;exact hq.elim
  |fn _=>unfold RW at hq;exact hq.elim
  |exc _ _=>unfold RW at hq;exact hq.elim
 |bl x =>
  unfold RW at hp;subst hp;cases rv
  cases q with
  |non=>unfold RW at hq;subst hq;cases ru;exact SeqAt.EqAt.bool_none _
  |bl _=>unfold RW at hq;subst hq;cases ru;exact SeqAt.EqAt.bool_bool _ _
  |int _=>unfold RW at hq;subst hq;obtain ⟨t,rfl⟩:=ru;exact SeqAt.EqAt.bool_int _ _ _
  |str _=>unfold RW at hq;subst hq;obtain ⟨t,rfl⟩:=ru;exact SeqAt.EqAt.bool_str _ _ _
  |tup _=>unfold RW at hq;obtain ⟨a,xs,rfl,h2,_⟩:=hq;cases ru;obtain ⟨its,_,t,_⟩:=I.tuple h2;exact SeqAt.EqAt.bool_tuple _ t hu'
  |lst _=>unfold RW at hq;obtain ⟨a,xs,rfl,h2,_⟩:=hq;cases ru;obtain ⟨its,_,t,_⟩:=I.list h2;exact SeqAt.EqAt.bool_list _ t.isList hu'
  |ref _=>unfold RW at hq;exact hq.elim
  |dct=>unfold RW at hq;exact hq.elim
  |ty _=>unfold RW at hq;exact hq.elim
  |fn _=>unfold RW at hq;exact hq.elim
  |exc _ _=>unfold RW at hq;exact hq.elim
 |int x =>
  unfold RW at hp;subst hp;obtain ⟨t0,rfl⟩:=rv
  cases q with
  |non=>unfold RW at hq;subst hq;cases ru;exact SeqAt.EqAt.int_none _ _
  |bl _=>unfold RW at hq;subst hq;cases ru;exact SeqAt.EqAt.int_bool _ _ _
  |int _=>unfold RW at hq;subst hq;obtain ⟨t,rfl⟩:=ru;exact SeqAt.EqAt.int_int _ _ _ _
  |str _=>unfold RW at hq;subst hq;obtain ⟨t,rfl⟩:=ru;exact SeqAt.EqAt.int_str _ _ _ _
  |tup _=>unfold RW at hq;obtain ⟨a,xs,rfl,h2,_⟩:=hq;cases ru;obtain ⟨its,_,t,_⟩:=I.tuple h2;exact SeqAt.EqAt.int_tuple _ _ t hu'
  |lst _=>unfold RW at hq;obtain ⟨a,xs,rfl,h2,_⟩:=hq;cases ru;obtain ⟨its,_,t,_⟩:=I.list h2;exact SeqAt.EqAt.int_list _ _ t.isList hu'
  |ref _=>unfold RW at hq;exact hq.elim
  |dct=>unfold RW at hq;exact hq.elim
  |ty _=>unfold RW at hq;exact hq.elim
  |fn _=>unfold RW at hq;exact hq.elim
  |exc _ _=>unfold RW at hq;exact hq.elim
 |str x =>
  unfold RW at hp;subst hp;obtain ⟨t0,rfl⟩:=rv
  cases q with
  |non=>unfold RW at hq;subst hq;cases ru;exact SeqAt.EqAt.str_none _ _
  |bl _=>unfold RW at hq;subst hq;cases ru;exact SeqAt.EqAt.str_bool _ _ _
  |int _=>unfold RW at hq;subst hq;obtain ⟨t,rfl⟩:=ru;exact SeqAt.EqAt.str_int _ _ _ _
  |str _=>unfold RW at hq;subst hq;obtain ⟨t,rfl⟩:=ru;exact SeqAt.EqAt.str_str _ _ _ _
  |tup _=>unfold RW at hq;obtain ⟨a,xs,rfl,h2,_⟩:=hq;cases ru;obtain ⟨its,_,t,_⟩:=I.tuple h2;exact SeqAt.EqAt.str_tuple _ _ t hu'
  |lst _=>unfold RW at hq;obtain ⟨a,xs,rfl,h2,_⟩:=hq;cases ru;obtain ⟨its,_,t,_⟩:=I.list h2;exact SeqAt.EqAt.str_list _ _ t.isList hu'
  |ref _=>unfold RW at hq;exact hq.elim
  |dct=>unfold RW at hq;exact hq.elim
  |ty _=>unfold RW at hq;exact hq.elim
  |fn _=>unfold RW at hq;exact hq.elim
  |exc _ _=>unfold RW at hq;exact hq.elim
theorem zA:∀ {l:List PV} {i:Nat} {p:PV},l[i]? = some p->dep p≤deps l
 |[],_,_,h=>by simp at h
 |q::qs,0,p,h=>by simp at h;subst h;unfold deps;exact Nat.le_max_left _ _
 |q::qs,i + 1,p,h=>by unfold deps;exact AS (zA (l:=qs) (i:=i) (by simpa using h)) (Nat.le_max_right _ _)
theorem qBY (I:L2.Inv X pins σ H s):∀ (n:Nat) (p q:PV) (v u:V) (uv uu:Value) (A:Around),dep p≤n->A.units + n < cLine->RW X.K H p v->RW X.K H q u->RelV v uv->RelV u uu->SeqAt.EqAt A s uv uu (peq p q):=by
 intro n
 induction n with
 |zero=>intro p q v u uv uu A hd hu hp hq rv ru;exact Qc I p q (Nat.le_zero.mp hd) hu hp hq rv ru
 |succ n ih =>
  intro p q v u uv uu A hd hu hp hq rv ru
  have hu':A.units < cLine:=BS (Nat.le_add_right _ _) hu
  have hin:A.in1.units + n < cLine:=by show A.units + 1 + n < cLine;omega
  have elt:∀ {l m:List PV} {xs ys:List V} {its its2:List Value},deps l≤n->RWs X.K H l xs->RWs X.K H m ys->Vals xs its->Vals ys its2 -> ∀ j (h1:j < its.toArray.size) (h2:j < its2.toArray.size),SeqAt.EqAt A.in1 s its.toArray[j] its2.toArray[j] (eqN l m j):=fun {l m xs ys its its2} hdl hl hm vl vm j h1 h2=>by
   have e1:its[j]? = some its.toArray[j]:=by simp
   have e2:its2[j]? = some its2.toArray[j]:=by simp
   obtain ⟨x,hx,rx⟩:=Vals.get2 vl e1
   obtain ⟨y,hy,ry⟩:=Vals.get2 vm e2
   obtain ⟨p',hp',rp'⟩:=RWs.get' hl hx
   obtain ⟨q',hq',rq'⟩:=RWs.get' hm hy
   have:eqN l m j=peq p' q':=by unfold eqN;rw [hp',hq']
   rw [this]
   exact ih p' q' x y _ _ A.in1 (AS (zA hp') hdl) hin rp' rq' rx ry
  cases p with
  |tup l =>
   have hp0:=hp
   unfold RW at hp
   unfold dep at hd
   obtain ⟨a,xs,rfl,h2,h3⟩:=hp
   cases rv
   obtain ⟨its,vl,tl,_⟩:=I.tuple h2
   cases q with
   |non=>unfold RW at hq;subst hq;cases ru;exact SeqAt.EqAt.tuple_none tl hu'
   |bl _=>unfold RW at hq;subst hq;cases ru;exact SeqAt.EqAt.tuple_bool _ tl hu'
   |int _=>unfold RW at hq;subst hq;obtain ⟨t,rfl⟩:=ru;exact SeqAt.EqAt.tuple_int _ _ tl hu'
   |str _=>unfold RW at hq;subst hq;obtain ⟨t,rfl⟩:=ru;exact SeqAt.EqAt.tuple_str _ _ tl hu'
   |lst _=>unfold RW at hq;obtain ⟨a,xs,rfl,h2,_⟩:=hq;cases ru;obtain ⟨its,_,t,_⟩:=I.list h2;exact SeqAt.EqAt.tuple_list tl t.isList hu'
   |ref _=>unfold RW at hq;exact hq.elim
   |dct=>unfold RW at hq;exact hq.elim
   |ty _=>unfold RW at hq;exact hq.elim
   |fn _=>unfold RW at hq;exact hq.elim
   |exc _ _=>unfold RW at hq;exact hq.elim
   |tup m =>
    have hq0:=hq
    unfold RW at hq
    obtain ⟨a2,ys,rfl,g2,g3⟩:=hq
    cases ru
    obtain ⟨its2,vm,tm,_⟩:=I.tuple g2
    by_cases ha:a=a2
    ·subst ha
     rw [RW.same I _ _ hp0 hq0]
     exact SeqAt.EqAt.same _
    ·refine SeqAt.EqAt.of_refs ha ?_
     have rc:=SeqAt.RcAt.tuples (e:=eqN l m) tl tm hu' (elt (by omega) h3 g3 vl vm)
     have hl1:its.toArray.size=l.length:=by rw [AM,← vl.length,h3.length]
     have hl2:its2.toArray.size=m.length:=by rw [AM,← vm.length,g3.length]
     rw [hl1,hl2] at rc
     have e:((List.range (min l.length m.length)).all (eqN l m)&&l.length==m.length)=peq (.tup l) (.tup m):=by
      unfold peq
      by_cases hlm:l.length=m.length
      ·rw [← hlm,Nat.min_self,We l m hlm,An,Bool.and_true]
      ·rw [wt l m hlm,Bm hlm,Bool.and_false]
     rw [e] at rc
     exact rc
  |lst l =>
   have hp0:=hp
   unfold RW at hp
   unfold dep at hd
   obtain ⟨a,xs,rfl,h2,h3⟩:=hp
   cases rv
   obtain ⟨its,vl,tl',_⟩:=I.list h2
   have tl:=tl'.isList
   cases q with
   |non=>unfold RW at hq;subst hq;cases ru;exact SeqAt.EqAt.list_none tl hu'
   |bl _=>unfold RW at hq;subst hq;cases ru;exact SeqAt.EqAt.list_bool _ tl hu'
   |int _=>unfold RW at hq;subst hq;obtain ⟨t,rfl⟩:=ru;exact SeqAt.EqAt.list_int _ _ tl hu'
   |str _=>unfold RW at hq;subst hq;obtain ⟨t,rfl⟩:=ru;exact SeqAt.EqAt.list_str _ _ tl hu'
   |tup _=>unfold RW at hq;obtain ⟨a,xs,rfl,h2,_⟩:=hq;cases ru;obtain ⟨its,_,t,_⟩:=I.tuple h2;exact SeqAt.EqAt.list_tuple tl t hu'
   |ref _=>unfold RW at hq;exact hq.elim
   |dct=>unfold RW at hq;exact hq.elim
   |ty _=>unfold RW at hq;exact hq.elim
   |fn _=>unfold RW at hq;exact hq.elim
   |exc _ _=>unfold RW at hq;exact hq.elim
   |lst m =>
    have hq0:=hq
    unfold RW at hq
    obtain ⟨a2,ys,rfl,g2,g3⟩:=hq
    cases ru
    obtain ⟨its2,vm,tm',_⟩:=I.list g2
    have tm:=tm'.isList
    by_cases ha:a=a2
    ·subst ha
     rw [RW.same I _ _ hp0 hq0]
     exact SeqAt.EqAt.same _
    ·refine SeqAt.EqAt.of_refs ha ?_
     have hl1:its.toArray.size=l.length:=by rw [AM,← vl.length,h3.length]
     have hl2:its2.toArray.size=m.length:=by rw [AM,← vm.length,g3.length]
     unfold peq
     by_cases hlm:l.length=m.length
     ·have rc:=SeqAt.RcAt.lists (e:=eqN l m) tl tm (by rw [hl1,hl2,hlm]) hu' (elt (by omega) h3 g3 vl vm)
      rw [hl1,We l m hlm] at rc
      exact rc
     ·rw [wt l m hlm]
      exact SeqAt.RcAt.lists_lengths tl tm (by rw [hl1,hl2];exact bne_iff_ne.mpr hlm) hu'
  |non=>exact Qc I _ q rfl hu' hp hq rv ru
  |bl _=>exact Qc I _ q rfl hu' hp hq rv ru
  |int _=>exact Qc I _ q rfl hu' hp hq rv ru
  |str _=>exact Qc I _ q rfl hu' hp hq rv ru
  |ref _=>exact Qc I _ q rfl hu' hp hq rv ru
  |dct=>exact Qc I _ q rfl hu' hp hq rv ru
  |ty _=>exact Qc I _ q rfl hu' hp hq rv ru
  |fn _=>exact Qc I _ q rfl hu' hp hq rv ru
  |exc _ _=>exact Qc I _ q rfl hu' hp hq rv ru
end
section
variable {X:Cx} {pins:List (Addr×Obj)} {σ:L2.St} {H:Hp} {s:Shared}
theorem Qv (I:L2.Inv X pins σ H s) (p q:PV) {v u:V} {uv uu:Value} {A:Around} (hd:dep p=0) (hu':A.units < cLine) (hp:RW X.K H p v) (hq:RW X.K H q u) (rv:RelV v uv) (ru:RelV u uu):SeqAt.RcAt A s uv uu (peq p q):=by
 cases p with
 |tup l=>unfold dep at hd;omega
 |lst l=>unfold dep at hd;omega
 |ref _=>unfold RW at hp;exact hp.elim
 |dct=>unfold RW at hp;exact hp.elim
 |ty _=>unfold RW at hp;exact hp.elim
 |fn _=>unfold RW at hp;exact hp.elim
 |exc _ _=>unfold RW at hp;exact hp.elim
 |non =>
  unfold RW at hp;subst hp;cases rv
  cases q with
  |non=>unfold RW at hq;subst hq;cases ru;exact SeqAt.RcAt.none_none
  |bl _=>unfold RW at hq;subst hq;cases ru;exact SeqAt.RcAt.none_bool _
  |int _=>unfold RW at hq;subst hq;obtain ⟨t,rfl⟩:=ru;exact SeqAt.RcAt.none_int _ _
  |str _=>unfold RW at hq;subst hq;obtain ⟨t,rfl⟩:=ru;exact SeqAt.RcAt.none_str _ _
  |tup _=>unfold RW at hq;obtain ⟨a,xs,rfl,h2,_⟩:=hq;cases ru;obtain ⟨its,_,t,_⟩:=I.tuple h2;exact SeqAt.RcAt.none_tuple t hu'
  |lst _=>unfold RW at hq;obtain ⟨a,xs,rfl,h2,_⟩:=hq;cases ru;obtain ⟨its,_,t,_⟩:=I.list h2;exact SeqAt.RcAt.none_list t.isList hu'
  |ref _=>unfold RW at hq;exact hq.elim
  |dct=>unfold RW at hq;exact hq.elim
  |ty _=>unfold RW at hq;exact hq.elim
  |fn _=>unfold RW at hq;exact hq.elim
  |exc _ _=>unfold RW at hq;exact hq.elim
 |bl x =>
  unfold RW at hp;subst hp;cases rv
  cases q with
  |non=>unfold RW at hq;subst hq;cases ru;exact SeqAt.RcAt.bool_none _
  |bl _=>unfold RW at hq;subst hq;cases ru;exact SeqAt.RcAt.bool_bool _ _
  |int _=>unfold RW at hq;subst hq;obtain ⟨t,rfl⟩:=ru;exact SeqAt.RcAt.bool_int _ _ _
  |str _=>unfold RW at hq;subst hq;obtain ⟨t,rfl⟩:=ru;exact SeqAt.RcAt.bool_str _ _ _
  |tup _=>unfold RW at hq;obtain ⟨a,xs,rfl,h2,_⟩:=hq;cases ru;obtain ⟨its,_,t,_⟩:=I.tuple h2;exact SeqAt.RcAt.bool_tuple _ t hu'
  |lst _=>unfold RW at hq;obtain ⟨a,xs,rfl,h2,_⟩:=hq;cases ru;obtain ⟨its,_,t,_⟩:=I.list h2;exact SeqAt.RcAt.bool_list _ t.isList hu'
  |ref _=>unfold RW at hq;exact hq.elim
  |dct=>unfold RW at hq;exact hq.elim
  |ty _=>unfold RW at hq;exact hq.elim
  |fn _=>unfold RW at hq;exact hq.elim
  |exc _ _=>unfold RW at hq;exact hq.elim
 |int x =>
  unfold RW at hp;subst hp;obtain ⟨t0,rfl⟩:=rv
  cases q with
  |non=>unfold RW at hq;subst hq;cases ru;exact SeqAt.RcAt.int_none _ _
  |bl _=>unfold RW at hq;subst hq;cases ru;exact SeqAt.RcAt.int_bool _ _ _
  |int _=>unfold RW at hq;subst hq;obtain ⟨t,rfl⟩:=ru;exact SeqAt.RcAt.int_int _ _ _ _
  |str _=>unfold RW at hq;subst hq;obtain ⟨t,rfl⟩:=ru;exact SeqAt.RcAt.int_str _ _ _ _
  |tup _=>unfold RW at hq;obtain ⟨a,xs,rfl,h2,_⟩:=hq;cases ru;obtain ⟨its,_,t,_⟩:=I.tuple h2;exact SeqAt.RcAt.int_tuple _ _ t hu'
  |lst _=>unfold RW at hq;obtain ⟨a,xs,rfl,h2,_⟩:=hq;cases ru;obtain ⟨its,_,t,_⟩:=I.list h2;exact SeqAt.RcAt.int_list _ _ t.isList hu'
  |ref _=>unfold RW at hq;exact hq.elim
  |dct=>unfold RW at hq;exact hq.elim
  |ty _=>unfold RW at hq;exact hq.elim
  |fn _=>unfold RW at hq;exact hq.elim
  |exc _ _=>unfold RW at hq;exact hq.elim
 |str x =>
  unfold RW at hp;subst hp;obtain ⟨t0,rfl⟩:=rv
  cases q with
  |non=>unfold RW at hq;subst hq;cases ru;exact SeqAt.RcAt.str_none _ _
  |bl _=>unfold RW at hq;subst hq;cases ru;exact SeqAt.RcAt.str_bool _ _ _
  |int _=>unfold RW at hq;subst hq;obtain ⟨t,rfl⟩:=ru;exact SeqAt.RcAt.str_int _ _ _ _
  |str _=>unfold RW at hq;subst hq;obtain ⟨t,rfl⟩:=ru;exact SeqAt.RcAt.str_str _ _ _ _
  |tup _=>unfold RW at hq;obtain ⟨a,xs,rfl,h2,_⟩:=hq;cases ru;obtain ⟨its,_,t,_⟩:=I.tuple h2;exact SeqAt.RcAt.str_tuple _ _ t hu'
  |lst _=>unfold RW at hq;obtain ⟨a,xs,rfl,h2,_⟩:=hq;cases ru;obtain ⟨its,_,t,_⟩:=I.list h2;exact SeqAt.RcAt.str_list _ _ t.isList hu'
  |ref _=>unfold RW at hq;exact hq.elim
  |dct=>unfold RW at hq;exact hq.elim
  |ty _=>unfold RW at hq;exact hq.elim
  |fn _=>unfold RW at hq;exact hq.elim
  |exc _ _=>unfold RW at hq;exact hq.elim
theorem Qo (I:L2.Inv X pins σ H s) (p q:PV) {v u:V} {uv uu:Value} {A:Around} (hd:dep p=0) (hu':A.units < cLine) (hp:RW X.K H p v) (hq:RW X.K H q u) (rv:RelV v uv) (ru:RelV u uu):SeqAt.RcNeAt A s uv uu (!peq p q):=by
 cases p with
 |tup l=>unfold dep at hd;omega
 |lst l=>unfold dep at hd;omega
 |ref _=>unfold RW at hp;exact hp.elim
 |dct=>unfold RW at hp;exact hp.elim
 |ty _=>unfold RW at hp;exact hp.elim
 |fn _=>unfold RW at hp;exact hp.elim
 |exc _ _=>unfold RW at hp;exact hp.elim
 |non =>
  unfold RW at hp;subst hp;cases rv
  cases q with
  |non=>unfold RW at hq;subst hq;cases ru;exact SeqAt.RcNeAt.none_none
  |bl _=>unfold RW at hq;subst hq;cases ru;exact SeqAt.RcNeAt.none_bool _
  |int _=>unfold RW at hq;subst hq;obtain ⟨t,rfl⟩:=ru;exact SeqAt.RcNeAt.none_int _ _
  |str _=>unfold RW at hq;subst hq;obtain ⟨t,rfl⟩:=ru;exact SeqAt.RcNeAt.none_str _ _
  |tup _=>unfold RW at hq;obtain ⟨a,xs,rfl,h2,_⟩:=hq;cases ru;obtain ⟨its,_,t,_⟩:=I.tuple h2;exact SeqAt.RcNeAt.none_tuple t hu'
  |lst _=>unfold RW at hq;obtain ⟨a,xs,rfl,h2,_⟩:=hq;cases ru;obtain ⟨its,_,t,_⟩:=I.list h2;exact SeqAt.RcNeAt.none_list t.isList hu'
  |ref _=>unfold RW at hq;exact hq.elim
  |dct=>unfold RW at hq;exact hq.elim
  |ty _=>unfold RW at hq;exact hq.elim
  |fn _=>unfold RW at hq;exact hq.elim
  |exc _ _=>unfold RW at hq;exact hq.elim
 |bl x =>
  unfold RW at hp;subst hp;cases rv
  cases q with
  |non=>unfold RW at hq;subst hq;cases ru;exact SeqAt.RcNeAt.bool_none _
  |bl _=>unfold RW at hq;subst hq;cases ru;exact SeqAt.RcNeAt.bool_bool _ _
  |int _=>unfold RW at hq;subst hq;obtain ⟨t,rfl⟩:=ru;exact SeqAt.RcNeAt.bool_int _ _ _
  |str _=>unfold RW at hq;subst hq;obtain ⟨t,rfl⟩:=ru;exact SeqAt.RcNeAt.bool_str _ _ _
  |tup _=>unfold RW at hq;obtain ⟨a,xs,rfl,h2,_⟩:=hq;cases ru;obtain ⟨its,_,t,_⟩:=I.tuple h2;exact SeqAt.RcNeAt.bool_tuple _ t hu'
  |lst _=>unfold RW at hq;obtain ⟨a,xs,rfl,h2,_⟩:=hq;cases ru;obtain ⟨its,_,t,_⟩:=I.list h2;exact SeqAt.RcNeAt.bool_list _ t.isList hu'
  |ref _=>unfold RW at hq;exact hq.elim
  |dct=>unfold RW at hq;exact hq.elim
  |ty _=>unfold RW at hq;exact hq.elim
  |fn _=>unfold RW at hq;exact hq.elim
  |exc _ _=>unfold RW at hq;exact hq.elim
 |int x =>
  unfold RW at hp;subst hp;obtain ⟨t0,rfl⟩:=rv
  cases q with
  |non=>unfold RW at hq;subst hq;cases ru;exact SeqAt.RcNeAt.int_none _ _
  |bl _=>unfold RW at hq;subst hq;cases ru;exact SeqAt.RcNeAt.int_bool _ _ _
  |int _=>unfold RW at hq;subst hq;obtain ⟨t,rfl⟩:=ru;exact SeqAt.RcNeAt.int_int _ _ _ _
  |str _=>unfold RW at hq;subst hq;obtain ⟨t,rfl⟩:=ru;exact SeqAt.RcNeAt.int_str _ _ _ _
  |tup _=>unfold RW at hq;obtain ⟨a,xs,rfl,h2,_⟩:=hq;cases ru;obtain ⟨its,_,t,_⟩:=I.tuple h2;exact SeqAt.RcNeAt.int_tuple _ _ t hu'
  |lst _=>unfold RW at hq;obtain ⟨a,xs,rfl,h2,_⟩:=hq;cases ru;obtain ⟨its,_,t,_⟩:=I.list h2;exact SeqAt.RcNeAt.int_list _ _ t.isList hu'
  |ref _=>unfold RW at hq;exact hq.elim
  |dct=>unfold RW at hq;exact hq.elim
  |ty _=>unfold RW at hq;exact hq.elim
  |fn _=>unfold RW at hq;exact hq.elim
  |exc _ _=>unfold RW at hq;exact hq.elim
 |str x =>
  unfold RW at hp;subst hp;obtain ⟨t0,rfl⟩:=rv
  cases q with
  |non=>unfold RW at hq;subst hq;cases ru;exact SeqAt.RcNeAt.str_none _ _
  |bl _=>unfold RW at hq;subst hq;cases ru;exact SeqAt.RcNeAt.str_bool _ _ _
  |int _=>unfold RW at hq;subst hq;obtain ⟨t,rfl⟩:=ru;exact SeqAt.RcNeAt.str_int _ _ _ _
  |str _=>unfold RW at hq;subst hq;obtain ⟨t,rfl⟩:=ru;exact SeqAt.RcNeAt.str_str _ _ _ _
  |tup _=>unfold RW at hq;obtain ⟨a,xs,rfl,h2,_⟩:=hq;cases ru;obtain ⟨its,_,t,_⟩:=I.tuple h2;exact SeqAt.RcNeAt.str_tuple _ _ t hu'
  |lst _=>unfold RW at hq;obtain ⟨a,xs,rfl,h2,_⟩:=hq;cases ru;obtain ⟨its,_,t,_⟩:=I.list h2;exact SeqAt.RcNeAt.str_list _ _ t.isList hu'
  |ref _=>unfold RW at hq;exact hq.elim
  |dct=>unfold RW at hq;exact hq.elim
  |ty _=>unfold RW at hq;exact hq.elim
  |fn _=>unfold RW at hq;exact hq.elim
  |exc _ _=>unfold RW at hq;exact hq.elim
theorem qGV (I:L2.Inv X pins σ H s) (p q:PV) {v u:V} {uv uu:Value} {A:Around} (hu:A.units + (dep p + 1) < cLine) (hp:RW X.K H p v) (hq:RW X.K H q u) (rv:RelV v uv) (ru:RelV u uu):SeqAt.RcAt A s uv uu (peq p q):=by
 have hu':A.units < cLine:=BS (Nat.le_add_right _ _) hu
 have elt:∀ {n:Nat} {l m:List PV} {xs ys:List V} {its its2:List Value},A.in1.units + n < cLine->deps l≤n->RWs X.K H l xs->RWs X.K H m ys->Vals xs its->Vals ys its2 -> ∀ j (h1:j < its.toArray.size) (h2:j < its2.toArray.size),SeqAt.EqAt A.in1 s its.toArray[j] its2.toArray[j] (eqN l m j):=fun {n l m xs ys its its2} hin hdl hl hm vl vm j h1 h2=>by
  have e1:its[j]? = some its.toArray[j]:=by simp
  have e2:its2[j]? = some its2.toArray[j]:=by simp
  obtain ⟨x,hx,rx⟩:=Vals.get2 vl e1
  obtain ⟨y,hy,ry⟩:=Vals.get2 vm e2
  obtain ⟨p',hp',rp'⟩:=RWs.get' hl hx
  obtain ⟨q',hq',rq'⟩:=RWs.get' hm hy
  have:eqN l m j=peq p' q':=by unfold eqN;rw [hp',hq']
  rw [this]
  exact qBY I n p' q' x y _ _ A.in1 (AS (zA hp') hdl) hin rp' rq' rx ry
 cases p with
 |tup l =>
  have hp0:=hp
  unfold RW at hp
  obtain ⟨a,xs,rfl,h2,h3⟩:=hp
  cases rv
  obtain ⟨its,vl,tl,_⟩:=I.tuple h2
  unfold dep at hu
  cases q with
  |non=>unfold RW at hq;subst hq;cases ru;exact SeqAt.RcAt.tuple_none tl hu'
  |bl _=>unfold RW at hq;subst hq;cases ru;exact SeqAt.RcAt.tuple_bool _ tl hu'
  |int _=>unfold RW at hq;subst hq;obtain ⟨t,rfl⟩:=ru;exact SeqAt.RcAt.tuple_int _ _ tl hu'
  |str _=>unfold RW at hq;subst hq;obtain ⟨t,rfl⟩:=ru;exact SeqAt.RcAt.tuple_str _ _ tl hu'
  |lst _=>unfold RW at hq;obtain ⟨a,xs,rfl,h2,_⟩:=hq;cases ru;obtain ⟨its,_,t,_⟩:=I.list h2;exact SeqAt.RcAt.tuple_list tl t.isList hu'
  |ref _=>unfold RW at hq;exact hq.elim
  |dct=>unfold RW at hq;exact hq.elim
  |ty _=>unfold RW at hq;exact hq.elim
  |fn _=>unfold RW at hq;exact hq.elim
  |exc _ _=>unfold RW at hq;exact hq.elim
  |tup m =>
   unfold RW at hq
   obtain ⟨a2,ys,rfl,g2,g3⟩:=hq
   cases ru
   obtain ⟨its2,vm,tm,_⟩:=I.tuple g2
   have rc:=SeqAt.RcAt.tuples (e:=eqN l m) tl tm hu' (elt (n:=deps l) (by show A.units + 1 + deps l < cLine;omega) (AL _) h3 g3 vl vm)
   have hl1:its.toArray.size=l.length:=by rw [AM,← vl.length,h3.length]
   have hl2:its2.toArray.size=m.length:=by rw [AM,← vm.length,g3.length]
   rw [hl1,hl2] at rc
   have e:((List.range (min l.length m.length)).all (eqN l m)&&l.length==m.length)=peq (.tup l) (.tup m):=by
    unfold peq
    by_cases hlm:l.length=m.length
    ·rw [← hlm,Nat.min_self,We l m hlm,An,Bool.and_true]
    ·rw [wt l m hlm,Bm hlm,Bool.and_false]
   rw [e] at rc
   exact rc
 |lst l =>
  have hp0:=hp
  unfold RW at hp
  obtain ⟨a,xs,rfl,h2,h3⟩:=hp
  cases rv
  obtain ⟨its,vl,tl',_⟩:=I.list h2
  have tl:=tl'.isList
  unfold dep at hu
  cases q with
  |non=>unfold RW at hq;subst hq;cases ru;exact SeqAt.RcAt.list_none tl hu'
  |bl _=>unfold RW at hq;subst hq;cases ru;exact SeqAt.RcAt.list_bool _ tl hu'
  |int _=>unfold RW at hq;subst hq;obtain ⟨t,rfl⟩:=ru;exact SeqAt.RcAt.list_int _ _ tl hu'
  |str _=>unfold RW at hq;subst hq;obtain ⟨t,rfl⟩:=ru;exact SeqAt.RcAt.list_str _ _ tl hu'
  |tup _=>unfold RW at hq;obtain ⟨a,xs,rfl,h2,_⟩:=hq;cases ru;obtain ⟨its,_,t,_⟩:=I.tuple h2;exact SeqAt.RcAt.list_tuple tl t hu'
  |ref _=>unfold RW at hq;exact hq.elim
  |dct=>unfold RW at hq;exact hq.elim
  |ty _=>unfold RW at hq;exact hq.elim
  |fn _=>unfold RW at hq;exact hq.elim
  |exc _ _=>unfold RW at hq;exact hq.elim
  |lst m =>
   unfold RW at hq
   obtain ⟨a2,ys,rfl,g2,g3⟩:=hq
   cases ru
   obtain ⟨its2,vm,tm',_⟩:=I.list g2
   have tm:=tm'.isList
   have hl1:its.toArray.size=l.length:=by rw [AM,← vl.length,h3.length]
   have hl2:its2.toArray.size=m.length:=by rw [AM,← vm.length,g3.length]
   unfold peq
   by_cases hlm:l.length=m.length
   ·have rc:=SeqAt.RcAt.lists (e:=eqN l m) tl tm (by rw [hl1,hl2,hlm]) hu' (elt (n:=deps l) (by show A.units + 1 + deps l < cLine;omega) (AL _) h3 g3 vl vm)
    rw [hl1,We l m hlm] at rc
    exact rc
   ·rw [wt l m hlm]
    exact SeqAt.RcAt.lists_lengths tl tm (by rw [hl1,hl2];exact bne_iff_ne.mpr hlm) hu'
 |non=>exact Qv I _ q rfl hu' hp hq rv ru
 |bl _=>exact Qv I _ q rfl hu' hp hq rv ru
 |int _=>exact Qv I _ q rfl hu' hp hq rv ru
 |str _=>exact Qv I _ q rfl hu' hp hq rv ru
 |ref _=>exact Qv I _ q rfl hu' hp hq rv ru
 |dct=>exact Qv I _ q rfl hu' hp hq rv ru
 |ty _=>exact Qv I _ q rfl hu' hp hq rv ru
 |fn _=>exact Qv I _ q rfl hu' hp hq rv ru
 |exc _ _=>exact Qv I _ q rfl hu' hp hq rv ru
theorem qF6 (I:L2.Inv X pins σ H s) (p q:PV) {v u:V} {uv uu:Value} {A:Around} (hu:A.units + (dep p + 1) < cLine) (hp:RW X.K H p v) (hq:RW X.K H q u) (rv:RelV v uv) (ru:RelV u uu):SeqAt.RcNeAt A s uv uu (!peq p q):=by
 have hu':A.units < cLine:=BS (Nat.le_add_right _ _) hu
 have elt:∀ {n:Nat} {l m:List PV} {xs ys:List V} {its its2:List Value},A.in1.units + n < cLine->deps l≤n->RWs X.K H l xs->RWs X.K H m ys->Vals xs its->Vals ys its2 -> ∀ j (h1:j < its.toArray.size) (h2:j < its2.toArray.size),SeqAt.EqAt A.in1 s its.toArray[j] its2.toArray[j] (eqN l m j):=fun {n l m xs ys its its2} hin hdl hl hm vl vm j h1 h2=>by
  have e1:its[j]? = some its.toArray[j]:=by simp
  have e2:its2[j]? = some its2.toArray[j]:=by simp
  obtain ⟨x,hx,rx⟩:=Vals.get2 vl e1
  obtain ⟨y,hy,ry⟩:=Vals.get2 vm e2
  obtain ⟨p',hp',rp'⟩:=RWs.get' hl hx
  obtain ⟨q',hq',rq'⟩:=RWs.get' hm hy
  have:eqN l m j=peq p' q':=by unfold eqN;rw [hp',hq']
  rw [this]
  exact qBY I n p' q' x y _ _ A.in1 (AS (zA hp') hdl) hin rp' rq' rx ry
 cases p with
 |tup l =>
  have hp0:=hp
  unfold RW at hp
  obtain ⟨a,xs,rfl,h2,h3⟩:=hp
  cases rv
  obtain ⟨its,vl,tl,_⟩:=I.tuple h2
  unfold dep at hu
  cases q with
  |non=>unfold RW at hq;subst hq;cases ru;exact SeqAt.RcNeAt.tuple_none tl hu'
  |bl _=>unfold RW at hq;subst hq;cases ru;exact SeqAt.RcNeAt.tuple_bool _ tl hu'
  |int _=>unfold RW at hq;subst hq;obtain ⟨t,rfl⟩:=ru;exact SeqAt.RcNeAt.tuple_int _ _ tl hu'
  |str _=>unfold RW at hq;subst hq;obtain ⟨t,rfl⟩:=ru;exact SeqAt.RcNeAt.tuple_str _ _ tl hu'
  |lst _=>unfold RW at hq;obtain ⟨a,xs,rfl,h2,_⟩:=hq;cases ru;obtain ⟨its,_,t,_⟩:=I.list h2;exact SeqAt.RcNeAt.tuple_list tl t.isList hu'
  |ref _=>unfold RW at hq;exact hq.elim
  |dct=>unfold RW at hq;exact hq.elim
  |ty _=>unfold RW at hq;exact hq.elim
  |fn _=>unfold RW at hq;exact hq.elim
  |exc _ _=>unfold RW at hq;exact hq.elim
  |tup m =>
   unfold RW at hq
   obtain ⟨a2,ys,rfl,g2,g3⟩:=hq
   cases ru
   obtain ⟨its2,vm,tm,_⟩:=I.tuple g2
   have rc:=SeqAt.RcNeAt.tuples (e:=eqN l m) tl tm hu' (elt (n:=deps l) (by show A.units + 1 + deps l < cLine;omega) (AL _) h3 g3 vl vm)
   have hl1:its.toArray.size=l.length:=by rw [AM,← vl.length,h3.length]
   have hl2:its2.toArray.size=m.length:=by rw [AM,← vm.length,g3.length]
   rw [hl1,hl2] at rc
   have e:((List.range (min l.length m.length)).all (eqN l m)&&l.length==m.length)=peq (.tup l) (.tup m):=by
    unfold peq
    by_cases hlm:l.length=m.length
    ·rw [← hlm,Nat.min_self,We l m hlm,An,Bool.and_true]
    ·rw [wt l m hlm,Bm hlm,Bool.and_false]
   rw [e] at rc
   exact rc
 |lst l =>
  have hp0:=hp
  unfold RW at hp
  obtain ⟨a,xs,rfl,h2,h3⟩:=hp
  cases rv
  obtain ⟨its,vl,tl',_⟩:=I.list h2
  have tl:=tl'.isList
  unfold dep at hu
  cases q with
  |non=>unfold RW at hq;subst hq;cases ru;exact SeqAt.RcNeAt.list_none tl hu'
  |bl _=>unfold RW at hq;subst hq;cases ru;exact SeqAt.RcNeAt.list_bool _ tl hu'
  |int _=>unfold RW at hq;subst hq;obtain ⟨t,rfl⟩:=ru;exact SeqAt.RcNeAt.list_int _ _ tl hu'
  |str _=>unfold RW at hq;subst hq;obtain ⟨t,rfl⟩:=ru;exact SeqAt.RcNeAt.list_str _ _ tl hu'
  |tup _=>unfold RW at hq;obtain ⟨a,xs,rfl,h2,_⟩:=hq;cases ru;obtain ⟨its,_,t,_⟩:=I.tuple h2;exact SeqAt.RcNeAt.list_tuple tl t hu'
  |ref _=>unfold RW at hq;exact hq.elim
  |dct=>unfold RW at hq;exact hq.elim
  |ty _=>unfold RW at hq;exact hq.elim
  |fn _=>unfold RW at hq;exact hq.elim
  |exc _ _=>unfold RW at hq;exact hq.elim
  |lst m =>
   unfold RW at hq
   obtain ⟨a2,ys,rfl,g2,g3⟩:=hq
   cases ru
   obtain ⟨its2,vm,tm',_⟩:=I.list g2
   have tm:=tm'.isList
   have hl1:its.toArray.size=l.length:=by rw [AM,← vl.length,h3.length]
   have hl2:its2.toArray.size=m.length:=by rw [AM,← vm.length,g3.length]
   unfold peq
   by_cases hlm:l.length=m.length
   ·have rc:=SeqAt.RcNeAt.lists (e:=eqN l m) tl tm (by rw [hl1,hl2,hlm]) hu' (elt (n:=deps l) (by show A.units + 1 + deps l < cLine;omega) (AL _) h3 g3 vl vm)
    rw [hl1,We l m hlm] at rc
    exact rc
   ·rw [wt l m hlm]
    exact SeqAt.RcNeAt.lists_lengths tl tm (by rw [hl1,hl2];exact bne_iff_ne.mpr hlm) hu'
 |non=>exact Qo I _ q rfl hu' hp hq rv ru
 |bl _=>exact Qo I _ q rfl hu' hp hq rv ru
 |int _=>exact Qo I _ q rfl hu' hp hq rv ru
 |str _=>exact Qo I _ q rfl hu' hp hq rv ru
 |ref _=>exact Qo I _ q rfl hu' hp hq rv ru
 |dct=>exact Qo I _ q rfl hu' hp hq rv ru
 |ty _=>exact Qo I _ q rfl hu' hp hq rv ru
 |fn _=>exact Qo I _ q rfl hu' hp hq rv ru
 |exc _ _=>exact Qo I _ q rfl hu' hp hq rv ru
end
def res (st:qB) (p:PV):PV:=match asL st p with
 |some l => .lst l
 |none=>p
theorem y8 {K:W.Frag} {H:Hp} {b:Bz} {st:qB} {p:PV} {v:V} (S:SR K H b st) (r:RV K H b p v) (h:nr (res st p)=true):RW K H (res st p) v:=by
 unfold res at h ⊢
 cases e:asL st p with
 |none=>rw [e] at h;exact RV.rw p h r
 |some l =>
  rw [e] at h
  obtain ⟨a,xs,rfl,h2,h3⟩:=Q7 S r e
  dsimp only at h ⊢
  unfold nr at h
  unfold RW
  exact ⟨a,xs,rfl,h2,RVs.rws l h h3⟩
abbrev qBu:Nat:=60
def qDi (p q:PV):Bool:=nr p&&nr q&&decide (dep p≤qBu)
def gEq:PV->PV->qB->Rs PV:=fun p q st=>if qDi (res st p) (res st q)=true then .ok (.bl (peq (res st p) (res st q))) st else .no
def gNe:PV->PV->qB->Rs PV:=fun p q st=>if qDi (res st p) (res st q)=true then .ok (.bl (!peq (res st p) (res st q))) st else .no
section
variable {X:Cx} {E:XK} {e a c d:Expr} {es:List Expr} {f fa fb fc:FE} {pos:Pos}
def qDN (K:W.Frag) (neg:Bool):R2:=fun u v H Q => ∃ p q,RW K H p u∧RW K H q v∧dep p≤qBu∧Q (.bl (if neg then !peq p q else peq p q)) H
theorem jy (hr:X.A.units + 64 < cLine):OpR X (compareOp .Eq) (qDN X.K false):=by
 intro pins s σ H x y v u Q I rx ry h
 obtain ⟨p,q,hp,hq,hd,h⟩:=h
 exact qGV I p q (by have:dep p≤60:=hd;omega) hp hq rx ry _ _ _ _ ⟨.bl _,H,I,rfl,h⟩
theorem YI (hr:X.A.units + 64 < cLine):OpR X (compareOp .NotEq) (qDN X.K true):=by
 intro pins s σ H x y v u Q I rx ry h
 obtain ⟨p,q,hp,hq,hd,h⟩:=h
 exact qF6 I p q (by have:dep p≤60:=hd;omega) hp hq rx ry _ _ _ _ ⟨.bl _,H,I,rfl,h⟩
theorem jf {p q:PV} (h:qDi p q=true):nr p=true∧nr q=true∧dep p≤qBu:=by
 unfold qDi at h
 rw [Ar,Ar] at h
 exact ⟨h.1.1,h.1.2,A7 h.2⟩
theorem qCy:OpG X E (qDN X.K false) gEq:=by
 intro H b st p q u v Q S rp rq P
 unfold gEq at P
 split at P
 ·rename_i h
  obtain ⟨h1,h2,h3⟩:=jf h
  exact ⟨_,_,y8 S rp h1,y8 S rq h2,h3,PostE.here P S wY⟩
 ·exact P.elim
theorem Jd:OpG X E (qDN X.K true) gNe:=by
 intro H b st p q u v Q S rp rq P
 unfold gNe at P
 split at P
 ·rename_i h
  obtain ⟨h1,h2,h3⟩:=jf h
  exact ⟨_,_,y8 S rp h1,y8 S rq h2,h3,PostE.here P S wY⟩
 ·exact P.elim
theorem qD9 (hr:X.A.units + 64 < cLine) (ha:VE X E a fa) (hb:VE X E c fb):VE X E (.Compare a [.Eq] [c] pos) (qJ gEq fa fb):=yJ (jy hr) qCy ha hb
end
end EV
end
section
namespace EV
open PySem PySem.Spec PyProof.Rows L2 EX
section
variable {X:Cx} {E:XK} {e a c d:Expr} {es:List Expr} {f fa fb fc:FE} {pos:Pos} {F G:FS}
def qEp:FS:=fun _ _ => .no
theorem qED {st:Stmt}:VS X E st qEp:=PS.imp qBk fun D s H ⟨b,r,st,S,R,P⟩=>P.elim
def tyP:PV->Option Value
 | .non=>some (.type "NoneType")
 | .bl _=>some (.type "bool")
 | .int _=>some (.type "int")
 | .str _=>some (.type "str")
 | .tup _=>some (.type "tuple")
 | .lst _=>some (.type "list")
 | .ref _=>some (.type "list")
 | .dct=>some (.type "dict")
 | .exc c _=>some (.ref c)
 |_=>none
def clP:PV->Option Value
 | .ty n=>some (.type n)
 | .fn a=>some (.ref a)
 |_=>none
def qAR (kit:Value->Value->Option Bool) (p c:PV):Option Bool:=match tyP p,clP c with
 |some t,some c=>kit t c
 |_,_=>none
def jM (kit:Value->Value->Option Bool) (p:PV):List PV->Option Bool
 |[]=>some false
 |c::r=>match qAR kit p c with
  |some true=>some true
  |some false=>jM kit p r
  |none=>none
def qGd (kit:Value->Value->Option Bool) (p:PV):PV->Option Bool
 | .tup cs=>if (tyP p).isSome then jM kit p cs else none
 |c=>qAR kit p c
structure KitOk (K:W.Frag) (kit:Value->Value->Option Bool):Prop where
 one:∀ t c b,kit t c=some b->W.kitOne K t c=some b
 exc:∀ a c b,kit (.ref a) c=some b->ExcK K a
end
end EV
end
section
namespace EX
open PySem PySem.Spec PyProof.Rows L2
section
variable {X:Cx}
def qFd (K:W.Frag):R2:=fun x y H Q => ∃ a b xs ys,x = .ref a∧y = .ref b∧SqT K H a xs∧SqT K H b ys∧xs.length + ys.length≤sizeLine ∧
 (xs=[]->Q (.ref b) H)∧(xs≠[]->ys=[]->Q (.ref a) H)∧(xs≠[]->ys≠[] -> ∀ p,H p=none->Q (.ref p) (upd H p (.tup (xs++ys))))
theorem qCR:OpR X (binaryOp .Add) (qFd X.K):=by
 intro pins s σ H x y v u Q I rx ry h
 obtain ⟨a,b,xs,ys,rfl,rfl,ha,hb,hz,q0,q1,q2⟩:=h
 by_cases hx:xs=[]
 ·cases rx
  cases ry
  obtain ⟨us,r1,p1,_⟩:=I.tuple ha
  obtain ⟨ws,r2,p2,_⟩:=I.tuple hb
  obtain ⟨⟨c1,d1,a1,s1⟩,o1,e1,m1,f1⟩:=id p1
  obtain ⟨⟨c2,d2,a2,s2⟩,o2,e2,m2,f2⟩:=id p2
  have e1:c1=_:=e1
  have e2:c2=_:=e2
  have f1:a1=_:=f1
  have f2:a2=_:=f2
  subst e1;subst e2;subst f1;subst f2
  exact concat_meets ⟨_,o1,rfl⟩ ⟨_,o2,rfl⟩ noFill_tuple_add seq_tuple_add F.slot_tuple_add F.entry_tuple_add (F.args_tuple_add_2 _ _) (tuple_addW0 a b us.toArray ws.toArray m1 m2 d1 d2 s1 s2 (by simp [r1.nil_iff.mpr hx])) ⟨o1,o2,.ref b,H,I,rfl,q0 hx⟩
 ·exact qDR pins s σ H _ _ v u Q I rx ry ⟨a,b,xs,ys,rfl,rfl,ha,hb,hx,hz,q1 hx,q2 hx⟩
def qG3 (K:W.Frag):V->Option Int->Option Int->Hp->VK->Prop:=fun x lo hi H Q => ∃ a xs,x = .ref a∧SqT K H a xs∧HT.sIx xs.length 0 lo=0∧HT.sIx xs.length xs.length hi=xs.length∧Q (.ref a) H
theorem qCs:SlR X (qG3 X.K):=by
 intro pins s σ H x v vl vu lo hi sl Q I rx hs pl pu h
 obtain ⟨a,xs,rfl,hx,w1,w2,q⟩:=h
 cases rx
 obtain ⟨its,r,ht,hz⟩:=I.tuple hx
 have hlen:its.toArray.size=xs.length:=by rw [AM];exact r.length.symm
 refine ⟨"tuple",_,PyProof.Rows.slot_tuple_getitem.lookup,ht.typeIs,?_⟩
 obtain ⟨os,hos,hcs,hds⟩:=id hs
 have hTs:s.TypeIs (.ref sl) "slice" := ⟨os,hos,hcs⟩
 unfold getItem
 try with_reducible refine Ai ?_
 first |refine AA (AB ?_) |skip
 refine AA (wpAny_sequenceKey ht.typeIs (by decide) ?_)
 refine AA (A8 (name:=Str.ofString "__getitem__") ht.typeIs BW (A9 BW ht.typeIs PyProof.Rows.entry_tuple_getitem ?_ (PyProof.Rows.args_tuple_getitem _ _)))
 show wpAny _ _ (Builtin.Tuple.tupleItemsOf (.ref a) >>= _) _ _ s
 refine AA (tupleItemsOf_ ht ?_)
 refine AA (BY hTs ?_)
 rw [AI (by decide)]
 refine AA (HT.sliceApplied_gen hs pl pu ?_)
 rw [hlen,w1,w2]
 dsimp only
 rw [AI (show ((((0:Nat):Int)==0&&(1:Int)==1&&xs.length - 0==xs.length)=true) by simp)]
 unfold Builtin.Tuple.tupleIsExact
 refine AA (AA (BY ht.typeIs (AB ?_)))
 rw [AI (by simp)]
 exact AA (Bq (AB ⟨_,rfl,AB ⟨.ref a,H,I,rfl,q⟩⟩))
end
end EX
end
section
namespace EV
open PySem PySem.Spec PyProof.Rows L2 EX
section
variable {X:Cx} {E:XK} {e a c d:Expr} {es:List Expr} {f fa fb fc:FE} {pos:Pos} {F G:FS}
theorem qAB {x:Str} {n:String} {pos:Pos} (hg:Gl X x) (hm:X.mg x=none) (hv:bootBuiltins x=some (.type n)) (hn:x ≠ "__name__" := by decide) (hd:(x==("__debug__":Str))=false:=by decide):VE X E (.Name x pos) (vC (.ty n)) :=
 qB2 (qDW (v := .ty n) hg hm hv rfl hn hd) fun _ _=>by unfold RV;rfl
def lk (st:qB):PV->Bool
 | .ref i=>match st[i]? with
  |some (.l _)=>true
  |_=>false
 |_=>true
theorem qCC {kit:Value->Value->Option Bool} (hk:KitOk X.K kit) {pins:List (Addr×Obj)} {σ:L2.St} {H:Hp} {s:Shared} (I:L2.Inv X pins σ H s) {b:Bz} {st:qB} (S:SR X.K H b st) {p:PV} {v:V} {u t:Value} (r:RV X.K H b p v) (ru:RelV v u) (ht:tyP p=some t) (hlk:lk st p=true) (hx:∀ a,t = .ref a->ExcK X.K a) :
  ∃ Hh,W.KitX X.K u t Hh∧Hh s.heap∧u ≠ .builtin "__main__.__loader__#opaque" := by
 cases p with
 |non=>unfold RV at r;subst r;cases ht;cases (show u=Value.none from ru);exact ⟨_,W.kitx_none,trivial,fun z=>nomatch z⟩
 |bl x=>unfold RV at r;subst r;cases ht;cases (show u=Value.bool x from ru);exact ⟨_,W.kitx_bool,trivial,fun z=>nomatch z⟩
 |int x=>unfold RV at r;subst r;cases ht;obtain ⟨t,rfl⟩:=(show ∃ t,u=Value.int x t from ru);exact ⟨_,W.kitx_int,trivial,fun z=>nomatch z⟩
 |str x=>unfold RV at r;subst r;cases ht;obtain ⟨t,rfl⟩:=(show ∃ t,u=Value.str x t from ru);exact ⟨_,W.kitx_str,trivial,fun z=>nomatch z⟩
 |tup l =>
  unfold RV at r
  obtain ⟨a,xs,rfl,h2,h3⟩:=r
  cases ht
  cases (show u=Value.ref a from ru)
  obtain ⟨its,_,⟨o,h4,h5,_⟩,_⟩:=I.tuple h2.sq
  exact ⟨_,W.kitx_tuple,⟨o,h4,h5⟩,fun z=>nomatch z⟩
 |lst l =>
  unfold RV at r
  obtain ⟨a,xs,rfl,h2,h3⟩:=r
  cases ht
  cases (show u=Value.ref a from ru)
  obtain ⟨its,_,⟨o,n,h4,h5,_⟩,_⟩:=I.list h2.sq
  exact ⟨_,W.kitx_list,⟨o,h4,h5⟩,fun z=>nomatch z⟩
 |ref i =>
  unfold RV at r
  obtain ⟨a,rfl,h2⟩:=r
  cases ht
  cases (show u=Value.ref a from ru)
  have hl:i < st.length:=by rw [← S.len];exact (Aa.mp h2).1
  obtain ⟨a',o,h3,h4,h5⟩:=S.at_ i _ (AD hl)
  rw [h2] at h3;cases h3
  have hq:∃ vs,o = .lst vs:=by
   cases hx:st[i] with
   |l xs=>rw [hx] at h5;obtain ⟨vs,e,_⟩:=h5;exact ⟨vs,e⟩
   |z xs=>unfold lk at hlk;dsimp only at hlk;rw [AD hl,hx] at hlk;cases hlk
   |k xs=>unfold lk at hlk;dsimp only at hlk;rw [AD hl,hx] at hlk;cases hlk
   |y xs=>unfold lk at hlk;dsimp only at hlk;rw [AD hl,hx] at hlk;cases hlk
   |o C xs=>unfold lk at hlk;dsimp only at hlk;rw [AD hl,hx] at hlk;cases hlk
   |d xs=>unfold lk at hlk;dsimp only at hlk;rw [AD hl,hx] at hlk;cases hlk
  obtain ⟨vs,rfl⟩:=hq
  obtain ⟨its,_,⟨o,n,h6,h7,_⟩,_⟩:=I.list (SqL.of h4)
  exact ⟨_,W.kitx_list,⟨o,h6,h7⟩,fun z=>nomatch z⟩
 |dct =>
  unfold RV at r
  obtain ⟨a,rfl,h2,h3⟩:=r
  cases ht
  cases (show u=Value.ref a from ru)
  obtain ⟨_,_,vs,_,o,_,_,h4,h5,_⟩:=(show ObjOk X.prog X.w H s.heap a (.dK []) from I.hok a _ h2)
  exact ⟨_,W.kitx_dict,⟨o,h4,h5.1⟩,fun z=>nomatch z⟩
 |exc c fs =>
  unfold RV at r
  obtain ⟨a,o,w,rfl,h2,h3,h4,⟨vs,h6⟩,h5⟩:=r
  cases ht
  cases (show u=Value.ref a from ru)
  have ho:s.heap.get? a=some o:=(I.hok a _ h2).1
  have hn:W.notCls o=true:=by
   obtain ⟨c',d',dt,sl⟩:=o
   have h6:dt=_:=h6
   subst h6;rfl
  refine ⟨_,qCG (hx c rfl),?_,fun z=>nomatch z⟩
  rcases h5 with ⟨_,h5⟩ |⟨d,h5,h7,h8⟩
  ·exact ⟨o,none,ho,h4,hn,by rw [h5];trivial⟩
  ·obtain ⟨od,h9⟩:=got (I.hok d _ h7)
   exact ⟨o,some od,ho,h4,hn,by rw [h5];exact h9⟩
 |ty n=>cases ht
 |fn n=>cases ht
theorem qD8 {K:W.Frag} {H:Hp} {b:Bz} {c:PV} {v:V} {u t:Value} (r:RV K H b c v) (ru:RelV v u) (ht:clP c=some t):u=t:=by
 cases c with
 |ty n=>unfold RV at r;subst r;cases ht;exact ru
 |fn a=>unfold RV at r;subst r;cases ht;exact ru
 |_=>cases ht
theorem jg {kit:Value->Value->Option Bool} (hk:KitOk X.K kit) {H:Hp} {b:Bz} {p:PV} {t:Value} (ht:tyP p=some t):∀ {cs:List PV} {xs:List V} {us:List Value} {k:Bool},RVs X.K H b cs xs->Vals xs us->jM kit p cs=some k->W.kitAny X.K t us=some k
 |[],_,_,k,h,r,e=>by
  unfold RVs at h;subst h;cases r;exact e
 |c::cs,_,_,k,h,r,e=>by
  unfold RVs at h
  obtain ⟨x,xs,rfl,h1,h2⟩:=h
  cases r with
  | @cons _ u _ us r1 r2 =>
   unfold jM qAR at e
   rw [ht] at e
   cases hc:clP c with
   |none=>rw [hc] at e;cases e
   |some c' =>
    rw [hc] at e
    have eu:=qD8 h1 r1 hc
    subst eu
    dsimp only at e
    unfold W.kitAny
    cases q:kit t u with
    |none=>rw [q] at e;cases e
    |some bb =>
     rw [q] at e
     rw [hk.one _ _ _ q]
     cases bb with
     |true=>exact e
     |false=>exact jg hk ht h2 r2 e
theorem qBg {kit:Value->Value->Option Bool} (hk:KitOk X.K kit) {p:PV} {t:Value} (ht:tyP p=some t):∀ {cs:List PV} {k:Bool},cs≠[]->jM kit p cs=some k -> ∀ a,t = .ref a->ExcK X.K a
 |[],_,h,_,_,_=>absurd rfl h
 |c::cs,k,_,e,a,ha=>by
  unfold jM qAR at e
  rw [ht] at e
  cases hc:clP c with
  |none=>rw [hc] at e;cases e
  |some c' =>
   rw [hc] at e
   dsimp only at e
   cases q:kit t c' with
   |none=>rw [q] at e;cases e
   |some bb=>subst ha;exact hk.exc _ _ _ q
theorem qCq {kit:Value->Value->Option Bool} (hk:KitOk X.K kit):wu X (.builtin "isinstance") (fun vs H Q => ∃ b st p c k,SR X.K H b st∧RVs X.K H b [p,c] vs∧(∀ cs,c = .tup cs->cs≠[])∧lk st p=true∧qGd kit p c=some k∧Q (.bl k) H):=by
 intro pins s σ H xs us Q I r h
 obtain ⟨b,st,p,c,k,S,rs,hne,hlk,e,q⟩:=h
 obtain ⟨x,y,rfl,r1,r2⟩:=RVs.two rs
 obtain ⟨u,v,rfl,ru,rv⟩:=qCh r
 by_cases hc:∃ cs,c = .tup cs
 ·obtain ⟨cs,rfl⟩:=hc
  have e:(if (tyP p).isSome then jM kit p cs else none)=some k:=e
  cases ht:tyP p with
  |none=>rw [ht] at e;cases e
  |some t =>
   rw [ht] at e
   have e:jM kit p cs=some k:=e
   obtain ⟨Hh,Z,hh,hx⟩:=qCC hk I S r1 ru ht hlk (qBg hk ht (hne cs rfl) e)
   unfold RV at r2
   obtain ⟨a,ys,rfl,h2,h3⟩:=r2
   cases (show v=Value.ref a from rv)
   obtain ⟨its,r',⟨o,h4,h5,n,h6⟩,_⟩:=I.tuple h2.sq
   obtain ⟨c1,d1,dt,sl⟩:=o
   have h5:c1=_:=h5
   have h6:dt=_:=h6
   subst h5;subst h6
   exact W.kia_tup Z I.kIn hh h4 (jg hk ht h3 r' e) hx fun tk=>⟨.bl k,H,I.tok _,rfl,q⟩
 ·have e:qAR kit p c=some k:=by
   cases c <;> first |exact e |exact (hc ⟨_,rfl⟩).elim
  unfold qAR at e
  cases ht:tyP p with
  |none=>rw [ht] at e;cases e
  |some t =>
   cases hc2:clP c with
   |none=>rw [ht,hc2] at e;cases e
   |some c' =>
    rw [ht,hc2] at e
    have eu:=qD8 r2 rv hc2
    subst eu
    obtain ⟨Hh,Z,hh,hx⟩:=qCC hk I S r1 ru ht hlk (fun a ha=>by subst ha;exact hk.exc _ _ _ e)
    exact W.kia_one Z I.kIn hh (hk.one _ _ _ e) hx fun tk=>⟨.bl k,H,I.tok _,rfl,q⟩
def ZU (kit:Value->Value->Option Bool):List PV->qB->Rs PV:=fun ps st=>match ps with
 |[p,c]=>match c with
  | .tup [] => .no
  |c=>match qGd kit p c with
   |some b=>if lk st p=true then .ok (.bl b) st else .no
   |none => .no
 |_ => .no
theorem Ye {kit:Value->Value->Option Bool} {ta:FA} {p:Pos} (hk:KitOk X.K kit) (hm:X.mg "isinstance" = none) (ha:VA X E (e::es) ta) (hg:Gl X "isinstance" := by rfl)
  (he:starEach (e::es) X.env=(false,eval e X.env)::starEach es X.env:=by rfl) (hpl:(backTo pos (starEach es X.env)).any (·.1)=false:=by rfl):VE X E (.Call (.Name "isinstance" p) (e::es) [] pos) (qH (ZU kit) ta) :=
 Q9 (qCq hk) (fun H b st ps vs Q S r P=>by
  unfold ZU at P
  split at P
  ·rename_i p c
   split at P
   ·exact P.elim
   ·rename_i hc
    split at P
    ·rename_i k hk'
     split at P
     ·rename_i hlk
      exact ⟨b,st,p,c,k,S,r,fun cs e z=>by subst e;subst z;exact hc rfl,hlk,hk',PostE.here P S wY⟩
     ·exact P.elim
    ·exact P.elim
  ·exact P.elim) hg hm PyProof.Rows.boot_isinstance ha (he:=he) (hpl:=hpl)
end
def pbl:PV->Option Bool
 | .bl b=>some b
 |_=>none
def yT:PV->Option Int
 | .int i=>some i
 |_=>none
def QH {α:Type} (f:PV->Option α):List PV->Option (List α)
 |[]=>some []
 |p::ps=>match f p with
  |some a=>match QH f ps with
   |some r=>some (a::r)
   |none=>none
  |none=>none
section
variable {X:Cx} {E:XK} {e a c d:Expr} {es:List Expr} {f fa fb fc:FE} {pos:Pos} {F G:FS}
theorem j4 {K:W.Frag} {H:Hp} {b:Bz}:∀ {l:List PV} {xs:List V} {bs:List Bool},RVs K H b l xs->QH pbl l=some bs->xs=bs.map V.bl
 |[],_,_,h,e=>by unfold RVs at h;subst h;cases e;rfl
 |p::ps,_,bs,h,e=>by
  unfold RVs at h
  obtain ⟨x,r,rfl,h1,h2⟩:=h
  unfold QH at e
  cases p with
  |bl k =>
   unfold RV at h1;subst h1
   cases q:QH pbl ps with
   |none=>rw [q] at e;cases e
   |some r'=>rw [q] at e;cases e;rw [j4 h2 q];rfl
  |_=>cases e
theorem zI {K:W.Frag} {H:Hp} {b:Bz}:∀ {l:List PV} {xs:List V} {bs:List Int},RVs K H b l xs->QH yT l=some bs->xs=bs.map V.int
 |[],_,_,h,e=>by unfold RVs at h;subst h;cases e;rfl
 |p::ps,_,bs,h,e=>by
  unfold RVs at h
  obtain ⟨x,r,rfl,h1,h2⟩:=h
  unfold QH at e
  cases p with
  |int k =>
   unfold RV at h1;subst h1
   cases q:QH yT ps with
   |none=>rw [q] at e;cases e
   |some r'=>rw [q] at e;cases e;rw [zI h2 q];rfl
  |_=>cases e
def zk {α:Type} (k:PV->Option α) (g:List α->PV):List PV->qB->Rs PV:=fun ps st=>match ps with
 |[p]=>match asL st p with
  |some l=>match QH k l with
   |some r => .ok (g r) st
   |none => .no
  |none => .no
 |_ => .no
def Zr:=zk pbl fun bs => .bl (bs.all id)
def JC:=zk pbl fun bs => .bl (bs.any id)
def Zc:=zk yT fun ns => .int ns.sum
theorem qFi:zi X E (fun xs H Q => ∃ (p:Addr) (bs:List Bool),xs=[.ref p]∧SqL X.K H p (bs.map V.bl)∧Q (.bl (bs.all id)) H) Zr:=by
 intro H b st ps vs Q S r P
 unfold Zr zk at P
 split at P
 ·obtain ⟨v,rfl,r1⟩:=RVs.one r
  split at P
  ·rename_i l e
   split at P
   ·rename_i bs eb
    obtain ⟨a,xs,rfl,h2,h3⟩:=Q7 S r1 e
    rw [j4 h3 eb] at h2
    exact ⟨a,bs,rfl,h2,PostE.here P S wY⟩
   ·exact P.elim
  ·exact P.elim
 ·exact P.elim
theorem qEl:zi X E (fun xs H Q => ∃ (p:Addr) (bs:List Bool),xs=[.ref p]∧SqL X.K H p (bs.map V.bl)∧Q (.bl (bs.any id)) H) JC:=by
 intro H b st ps vs Q S r P
 unfold JC zk at P
 split at P
 ·obtain ⟨v,rfl,r1⟩:=RVs.one r
  split at P
  ·rename_i l e
   split at P
   ·rename_i bs eb
    obtain ⟨a,xs,rfl,h2,h3⟩:=Q7 S r1 e
    rw [j4 h3 eb] at h2
    exact ⟨a,bs,rfl,h2,PostE.here P S wY⟩
   ·exact P.elim
  ·exact P.elim
 ·exact P.elim
theorem qEr:zi X E (fun xs H Q => ∃ (p:Addr) (ns:List Int),xs=[.ref p]∧SqL X.K H p (ns.map V.int)∧Q (.int ns.sum) H) Zc:=by
 intro H b st ps vs Q S r P
 unfold Zc zk at P
 split at P
 ·obtain ⟨v,rfl,r1⟩:=RVs.one r
  split at P
  ·rename_i l e
   split at P
   ·rename_i bs eb
    obtain ⟨a,xs,rfl,h2,h3⟩:=Q7 S r1 e
    rw [zI h3 eb] at h2
    exact ⟨a,bs,rfl,h2,PostE.here P S Qk⟩
   ·exact P.elim
  ·exact P.elim
 ·exact P.elim
section
variable {ta:FA} {p:Pos} (ha:VA X E (e::es) ta)
include ha
theorem JN (hm:X.mg "all" = none) (hg:Gl X "all" := by rfl) (he:starEach (e::es) X.env=(false,eval e X.env)::starEach es X.env:=by rfl) (hpl:(backTo pos (starEach es X.env)).any (·.1)=false:=by rfl):VE X E (.Call (.Name "all" p) (e::es) [] pos) (qH Zr ta) :=
 Q9 qAV qFi hg hm Boot.«all» ha (he:=he) (hpl:=hpl)
theorem qEc (hm:X.mg "any" = none) (hg:Gl X "any" := by rfl) (he:starEach (e::es) X.env=(false,eval e X.env)::starEach es X.env:=by rfl) (hpl:(backTo pos (starEach es X.env)).any (·.1)=false:=by rfl):VE X E (.Call (.Name "any" p) (e::es) [] pos) (qH JC ta) :=
 Q9 qAX qEl hg hm Boot.«any» ha (he:=he) (hpl:=hpl)
theorem Yb (hm:X.mg "sum" = none) (hg:Gl X "sum" := by rfl) (he:starEach (e::es) X.env=(false,eval e X.env)::starEach es X.env:=by rfl) (hpl:(backTo pos (starEach es X.env)).any (·.1)=false:=by rfl):VE X E (.Call (.Name "sum" p) (e::es) [] pos) (qH Zc ta) :=
 Q9 qAk qEr hg hm Boot.«sum» ha (he:=he) (hpl:=hpl)
theorem we (hm:X.mg "len" = none) (hg:Gl X "len" := by rfl) (he:starEach (e::es) X.env=(false,eval e X.env)::starEach es X.env:=by rfl) (hpl:(backTo pos (starEach es X.env)).any (·.1)=false:=by rfl):VE X E (.Call (.Name "len" p) (e::es) [] pos) (qH WA ta) :=
 Q9 YM qE8 hg hm Boot.«len» ha (he:=he) (hpl:=hpl)
theorem qDs (hc:X.calm=true) (hm:X.mg "max" = none) (hg:Gl X "max" := by rfl) (he:starEach (e::es) X.env=(false,eval e X.env)::starEach es X.env:=by rfl) (hpl:(backTo pos (starEach es X.env)).any (·.1)=false:=by rfl):VE X E (.Call (.Name "max" p) (e::es) [] pos) (qH qCf ta) :=
 Q9 (qA4 hc) qFJ hg hm Boot.«max» ha (he:=he) (hpl:=hpl)
theorem qDv (hc:X.calm=true) (hm:X.mg "min" = none) (hg:Gl X "min" := by rfl) (he:starEach (e::es) X.env=(false,eval e X.env)::starEach es X.env:=by rfl) (hpl:(backTo pos (starEach es X.env)).any (·.1)=false:=by rfl):VE X E (.Call (.Name "min" p) (e::es) [] pos) (qH qB4 ta) :=
 Q9 (qAY hc) qEs hg hm Boot.«min» ha (he:=he) (hpl:=hpl)
theorem zF (hm:X.mg "tuple" = none) (hg:Gl X "tuple" := by rfl) (he:starEach (e::es) X.env=(false,eval e X.env)::starEach es X.env:=by rfl) (hpl:(backTo pos (starEach es X.env)).any (·.1)=false:=by rfl):VE X E (.Call (.Name "tuple" p) (e::es) [] pos) (qH Wl ta) :=
 qA1 yR qCp hg hm Boot.«tuple» ha (he:=he) (hpl:=hpl)
end
end
section
variable {X:Cx} {E:XK} {e a c d:Expr} {es:List Expr} {f fa fb fc:FE} {fl:FL} {pos:Pos} {F G:FS}
def Wq:PV->PV->qB->Rs PV:=fun p q st=>match p,q with
 | .tup l,.tup m=>if l.length + m.length≤sizeLine then .ok (.tup (l++m)) st else .no
 |_,_ => .no
theorem Jl (ha:VE X E a fa) (hb:VE X E c fb):VE X E (.BinOp a .Add c pos) (qJ Wq fa fb):=ZS qCR (fun H b st p q u v Q S rp rq P=>by
 unfold Wq at P
 split at P
 ·rename_i l m
  split at P
  ·rename_i hl
   have rp0:=rp
   have rq0:=rq
   unfold RV at rp rq
   obtain ⟨x,xs,rfl,h2,h3⟩:=rp
   obtain ⟨y,ys,rfl,h4,h5⟩:=rq
   have n1:=h3.length
   have n2:=h5.length
   refine ⟨x,y,xs,ys,rfl,rfl,h2.sq,h4.sq,by rw [← n1,← n2];exact hl,fun z => ?_,fun _ z => ?_,fun _ _ w hw=>PostE.layT P S (h3.append h5) hw⟩
   ·have:l=[]:=List.length_eq_zero_iff.mp (by rw [n1,z];rfl)
    subst this
    exact PostE.here P S rq0
   ·have:m=[]:=List.length_eq_zero_iff.mp (by rw [n2,z];rfl)
    subst this
    rw [Bl] at P
    exact PostE.here P S rp0
  ·exact P.elim
 ·exact P.elim) ha hb
abbrev FO:=qo->qB->Rs (Option Int)
def PostO (K:W.Frag) (E:XK) (H:Hp) (b:Bz) (r:Rs (Option Int)) (Q:Option Int->Hp->Prop):Prop:=match r with
 | .ok k st => ∀ H' b',Ext H b H' b'->SR K H' b' st->Q k H'
 | .ex x st=>XP K E H b x st
 | .no=>False
def rdO (K:W.Frag) (E:XK) (f:FO):TO:=fun s H Q => ∃ b r st,SR K H b st∧REnv K H b r s∧PostO K E H b (f r st) Q
abbrev VO (X:Cx) (E:XK) (e:Option Expr) (f:FO):Prop:=PO X e (rdO X.K E f)
def ZQ (f:FE):FO:=fun r st=>(f r st).bind fun p s=>match p with
 | .int i => .ok (some i) s
 |_ => .no
theorem Je (h:VE X E e f):VO X E (some e) (ZQ f):=fun pins s σ H Q I ⟨b,r,st,S,R,P⟩=>qDZ h pins s σ H Q I ⟨b,r,st,S,R,by
 unfold ZQ at P
 cases ef:f r st with
 |no=>rw [ef] at P;exact P.elim
 |ex x s1=>rw [ef] at P;exact P
 |ok p s1 =>
  rw [ef] at P
  intro v H1 b1 e1 S1 r1
  dsimp only [Rs.bind] at P
  split at P
  ·rename_i i
   unfold RV at r1
   exact ⟨i,r1,P H1 b1 e1 S1⟩
  ·exact P.elim⟩
def JO (l:List PV) (lo hi:Option Int):List PV:=(l.drop (HT.sIx l.length 0 lo)).take (HT.sIx l.length l.length hi - HT.sIx l.length 0 lo)
def qFf (f:FE) (lo hi:FO):FE:=fun r st=>(f r st).bind fun p s1=>(lo r s1).bind fun a s2=>(hi r s2).bind fun c s3=>match p with
 | .tup l => .ok (.tup (JO l a c)) s3
 |_ => .no
theorem PostO.bind {K:W.Frag} {E:XK} {H:Hp} {b:Bz} {r:Rs (Option Int)} {k:Option Int->qB->Rs PV} {Q:VK} {R:Option Int->Hp->Prop} (P:PostE K E H b (r.bind k) Q)
  (h:∀ p st H1 b1,Ext H b H1 b1->SR K H1 b1 st->PostE K E H1 b1 (k p st) Q->R p H1):PostO K E H b r R:=by
 cases r with
 |ok p st=>exact fun H1 b1 e S=>h p st H1 b1 e S (PostE.ext (show PostE K E H b (k p st) Q from P) e)
 |ex x st=>exact P
 |no=>exact P
theorem qFy {lo hi:Option Expr} {flo fhi:FO} {p2:Pos} (h:VE X E e f) (hl:VO X E lo flo) (hh:VO X E hi fhi):VE X E (.Subscript e (.Slice lo hi none p2) pos) (qFf f flo fhi) :=
 PE.imp (qCT (sl_tup.or qCs) h hl hh) fun s H Q ⟨b,r,st,S,R,P⟩=>⟨b,r,st,S,R,PostE.bind P fun p s1 u H1 b1 e1 S1 r1 P1=>⟨b1,r,s1,S1,R.ext e1,PostO.bind P1 fun k s2 H2 b2 e2 S2 P2=>⟨b2,r,s2,S2,(R.ext e1).ext e2,PostO.bind P2 fun m s3 H3 b3 e3 S3 P3=>by
  split at P3
  ·rename_i l
   have r3:=RV.ext e3 _ (RV.ext e2 _ r1)
   have r0:=r3
   unfold RV at r3
   obtain ⟨x,xs,rfl,h2,h3⟩:=r3
   have hlen:=h3.length
   by_cases hw:HT.sIx xs.length 0 k=0∧HT.sIx xs.length xs.length m=xs.length
   ·refine .inr ⟨x,xs,rfl,h2.sq,hw.1,hw.2,?_⟩
    have:JO l k m=l:=by
     unfold JO
     rw [hlen,hw.1,hw.2,List.drop_zero,Nat.sub_zero,← hlen,CD]
    rw [this] at P3
    exact PostE.here P3 S3 r0
   ·refine .inl ⟨x,xs,rfl,h2.sq,hw,fun z hz => ?_⟩
    have hc:RVs X.K H3 b3 (JO l k m) (qAn xs k m):=by
     unfold JO qAn
     rw [hlen]
     exact (h3.drop _).take _
    exact PostE.layT P3 S3 hc hz
  ·exact P3.elim⟩⟩⟩
def wy (fo f:FE):FS:=fun r st=>(fo r st).bindS fun o s1=>match o with
 | .ref n=>if lk s1 (.ref n)=true then (f r s1).bindS fun p s2=>match s2[n]? with
  |some (.l xs)=>if xs.length < sizeLine then .nx r (s2.set n (.l (xs++[p]))) else .no
  |_ => .no else .no
 |_ => .no
theorem yp {fo:FE} {o:Expr} {apos cpos:Pos} (ho:VE X E o fo) (h:VE X E e f) (hs:swapsWith (.Call (.Attribute o "append" apos) [e] [] cpos) none pos.line X.env=pure false:=by rfl)
  (hbase:attributeBase o "append" X.env (eval o X.env)=eval o X.env:=by rfl)
  (hfew:((backTo cpos (starEach [e] X.env)).all (fun x => !x.1)&&(backToKw cpos (keywordEach [] X.env)).all (fun x=>x.1.isSome)&&decide ([e].length + ([]:List Keyword).length + (if ([]:List Keyword).isEmpty then 0 else 1) < 30))=true:=by rfl)
  (hline:(apos.endLine==cpos.line)=true:=by rfl) (h1:starEach [e] X.env=(false,eval e X.env)::starEach [] X.env:=by rfl) (hplain:(backTo cpos (starEach [] X.env)).any (·.1)=false:=by rfl) :
  VS X E (.Expr (.Call (.Attribute o "append" apos) [e] [] cpos) pos) (wy fo f) :=
 PS.imp (Jh (qGO PySem.F.plainAttrs_list PySem.F.slot_list_append PySem.F.type_list_append yw ho (YV h JZ h1) hbase hfew hline h1 hplain) hs) fun D s H ⟨b,r,st,S,R,P⟩=>⟨b,r,st,S,R,PostE.bindS P fun o s1 u H1 b1 e1 S1 r1 P1=>by
  have key:∀ {n:Nat},o = .ref n->lk s1 (.ref n)=true->tyV X.K "list" u H1:=fun {n} ho hlk=>by
   subst ho
   unfold RV at r1
   obtain ⟨x,rfl,hx⟩:=r1
   have hl:n < s1.length:=by rw [← S1.len];exact (Aa.mp hx).1
   obtain ⟨a',o',h3,h4,h5⟩:=S1.at_ n _ (AD hl)
   rw [hx] at h3;cases h3
   cases hq:s1[n] with
   |l xs=>rw [hq] at h5;obtain ⟨vs,e,_⟩:=h5;subst e;exact .inl ⟨rfl,vs,SqL.of h4⟩
   |z xs=>unfold lk at hlk;dsimp only at hlk;rw [AD hl,hq] at hlk;cases hlk
   |k xs=>unfold lk at hlk;dsimp only at hlk;rw [AD hl,hq] at hlk;cases hlk
   |y xs=>unfold lk at hlk;dsimp only at hlk;rw [AD hl,hq] at hlk;cases hlk
   |o C xs=>unfold lk at hlk;dsimp only at hlk;rw [AD hl,hq] at hlk;cases hlk
   |d xs=>unfold lk at hlk;dsimp only at hlk;rw [AD hl,hq] at hlk;cases hlk
  cases o with
  |ref n =>
   have P1:PostS X.K E H1 b1 (if lk s1 (.ref n)=true then ((f r s1).bindS fun p s2=>match s2[n]? with |some (.l xs)=>if xs.length < sizeLine then .nx r (s2.set n (.l (xs++[p]))) else .no |_ => .no) else .no) D:=P1
   by_cases hlk:lk s1 (.ref n)=true
   rotate_left
   ·rw [AQ hlk] at P1;exact P1.elim
   rw [AI hlk] at P1
   refine ⟨key rfl hlk,b1,r,s1,S1,R.ext e1,?_⟩
   cases eb:f r s1 with
   |no=>rw [eb] at P1;exact P1.elim
   |ex x s2=>rw [eb] at P1;exact P1
   |ok p s2 =>
    rw [eb] at P1
    intro v H2 b2 e2 S2 r2
    have P2:PostS X.K E H1 b1 (match s2[n]? with |some (.l xs)=>if xs.length < sizeLine then .nx r (s2.set n (.l (xs++[p]))) else .no |_ => .no) D:=P1
    split at P2
    ·rename_i xs ex
     split at P2
     ·rename_i hl
      have r1':=RV.ext e2 _ r1
      unfold RV at r1'
      obtain ⟨x,rfl,hx⟩:=r1'
      obtain ⟨x',o',h1,h2,vs,rfl,h4⟩:=S2.at_ n _ ex
      rw [hx] at h1;cases h1
      refine ⟨x,vs,v,rfl,rfl,h2,by rw [← h4.length];exact hl,?_⟩
      have hm:x∈b2.b:=BE hx
      have ew:Ext H2 b2 (upd H2 x (.lst (vs++[v]))) b2:=Ext.wr hm S2.zb (qFR h2)
      exact P2 s _ b2 (e2.trans ew) (S2.wr (x := .l (xs++[p])) hx ⟨_,rfl,(RVs.ext ew xs h4).append (RVs.cons (RV.ext ew p r2) RVs.nil)⟩) (((R.ext e1).ext e2).ext ew)
     ·exact P2.elim
    ·exact P2.elim
  |_=>exact P1.elim⟩
theorem Qf {P:Program} {w:World} (X:Cx):z8 (CXF P w) X E0:=fun pins σ H s e s' I h=>by
 obtain ⟨_,_,_,_,_,_,_,_,_,_,_,_,q⟩:=h
 exact q.elim
def qk (i:Nat):FG:=fun p r=>match r[i]? with
 |some none=>some (r.set i (some p))
 |_=>none
theorem qAG {i:Nat} {p:PV} {r r':qo} (h:qk i p r=some r'):r[i]? = some none∧r'=r.set i (some p):=by
 unfold qk at h
 split at h
 ·rename_i e;cases h;exact ⟨e,rfl⟩
 ·cases h
theorem qy (i:Nat) {x:Str} (hN:X.N.Nodup) (hi:X.N[i]? = some x:=by rfl) (hx:Loc X.env.scope x:=by first |exact Or.inl rfl |exact Or.inr rfl) (hf:X.fn x=true∨X.env.scope.names.lookup x=some .local:=by first |exact .inl rfl |exact .inr rfl |assumption):VG X (.Name x pos) (qk i) :=
 PG.imp (wj i hN hi hx hf) fun v s H Q ⟨b,r,p,st,S,R,rv,r',e,q⟩=>⟨b,r,p,st,S,R,rv,r',by rw [(qAG e).2];rfl,q⟩
theorem Le.refl (r:qo):Le r r:=⟨rfl,fun _ _ h=>h⟩
theorem Le.trans {r r1 r2:qo} (h:Le r r1) (g:Le r1 r2):Le r r2:=⟨h.1.trans g.1,fun i p e=>g.2 i p (h.2 i p e)⟩
theorem qX (i:Nat):qAC (qk i):=fun p r r' h=>by
 obtain ⟨h1,rfl⟩:=qAG h
 refine ⟨by simp,fun j q e => ?_⟩
 by_cases hj:i=j
 ·subst hj;rw [h1] at e;cases e
 ·rw [BX hj];exact e
def YZ (g:FGs):Prop := ∀ p r r',g p r=some r'->Le r r'
theorem wm:YZ w5:=fun p r r' h=>by
 unfold w5 at h
 split at h
 ·cases h;exact Le.refl _
 ·cases h
theorem qw {g:FG} {gs:FGs} (h1:qAC g) (h2:YZ gs):YZ (qe g gs):=fun p r r' h=>by
 unfold qe at h
 split at h
 ·split at h
  ·rename_i r1 e;exact (h1 _ _ _ e).trans (h2 _ _ _ h)
  ·cases h
 ·cases h
theorem wl {n:Nat} {gs:FGs} (h1:YZ gs):qAC (wk n gs):=fun p r r' h=>by
 unfold wk at h
 split at h
 ·split at h
  ·exact h1 _ _ _ h
  ·cases h
 ·cases h
theorem max_at {ns:List Int} {m:Int} {i:Nat} (hm:ns.max? = some m) (hi:i≤ns.length - 1) (h:∀ j,j≤ns.length - 1->ns.getD j 0≤ns.getD i 0):ns.getD i 0=m:=by
 have hne:ns≠[]:=by intro z;subst z;cases hm
 have hl:0 < ns.length:=List.length_pos_iff.mpr hne
 obtain ⟨h1,h2⟩:=List.max?_eq_some_iff.mp hm
 have hil:i < ns.length:=by omega
 have e1:ns.getD i 0=ns[i]:=by simp [AF,hil]
 have a1:ns.getD i 0≤m:=by rw [e1];exact h2 _ (BO hil)
 obtain ⟨j,hj,rfl⟩:=List.mem_iff_getElem.mp h1
 have:=h j (by omega)
 have e2:ns.getD j 0=ns[j]:=by simp [AF,hj]
 omega
end
structure DefG (P:Program) (w:World) (K:W.Frag) (mg:Str->Option Value) (base:Heap) (k:Nat) (x:Str) (fa:Addr) (n:Nat) (g:List PV->qB->Rs PV):Prop where
 ok:∃ fd ps,ps.length=n∧FnOk P w K mg base (CXF P w) k fa fd ps (spG K ps.length g)∧L2.Binds K fd ps [] ∧ ∀ l st,g l st ≠ .no->l.length=ps.length
 mg:mg x=some (.ref fa)
 kp:W.keepIn K (.ref fa)=true
section
variable {X:Cx} {E:XK} {e a c d:Expr} {es:List Expr} {f fa fb fc:FE} {fl:FL} {pos:Pos} {F G:FS}
theorem DefG.call {k n:Nat} {x:Str} {fa:Addr} {g:List PV->qB->Rs PV} (D:DefG X.prog X.w X.K X.mg X.base k x fa n g) (hr:Room k X.A) (hx:z8 (CXF X.prog X.w) X E) (hg:Gl X x:=by rfl) (hdb:(x==("__debug__":Str))=false:=by decide):qFN X E x g:=by
 obtain ⟨fd,ps,_,F,B,hl⟩:=D.ok
 exact qHN (n:=n) F hr hg D.mg D.kp B hx hl hdb
end
def QC (n N:Nat) (B:FS):List PV->qB->Rs PV:=fun l st=>if l.length=n then qDC (B (QR N l) st) else .no
theorem qc {n N:Nat} {B:FS} {l:List PV} {st:qB} (h:QC n N B l st ≠ .no):l.length=n:=by
 unfold QC at h
 split at h
 ·assumption
 ·exact absurd rfl h
section
variable {X:Cx} {E:XK} {e a c d:Expr} {f fa fb fc:FE} {pos:Pos}
def qD4 (f:FE):FE:=fun r st=>(f r st).bind fun p s=>match p with
 | .int i => .ok (.int (-i)) s
 |_ => .no
theorem JF (h:VE X E e f):VE X E (.UnaryOp .USub e pos) (qD4 f):=PE.imp (qGq qFl h) fun s H Q ⟨b,r,st,S,R,P⟩=>⟨b,r,st,S,R,PostE.bind P fun p s1 u H1 b1 e1 S1 r1 P1=>by
 split at P1
 ·rename_i i
  unfold RV at r1
  exact ⟨i,r1,PostE.here P1 S1 Qk⟩
 ·exact P1.elim⟩
end
theorem qY {n N m:Nat} {B:FS} {l:List PV} {s0:qB} (hl:l.length=n):Refn m (qDC (B (QR N l) s0)) (QC n N B l s0):=by
 unfold QC;rw [AI hl];exact Refn.refl
section
variable {P:Program} {w:World} {K:W.Frag} {mg:Str->Option Value} {base:Heap}
theorem Q0 {x:Str} {st:Stmt} {fa:Addr} {fd:FuncData} {N ps:List Str} {k:Nat} {B:FS} {g:List PV->qB->Rs PV} (F:Fun K x x st fa fd) (S:FnScope N ps (qI st)) (b:L2.Binds K fd ps []) (m:mg x=some (.ref fa)) (hlen:∀ l s,g l s ≠ .no->l.length=ps.length)
  (body:∀ (cdv:Value) (A:Around) (outer:List Env) (s:Shared) (H:Hp) (E:XK),Room k (A.deeper (envOfC x (qI st) s.heap.objs.size fa cdv))->(0 < k->A.handled=none)->VSs (Wd (CXF P w) P w K mg base N x (qI st) fa cdv A outer s H E) E (qd st) B)
  (hg:∀ l s0,l.length=ps.length->g l s0 ≠ .no->Refn s0.length (qDC (B (QR N.length l) s0)) (g l s0)):DefG P w K mg base (k + 1) x fa ps.length g :=
 ⟨⟨fd,ps,rfl,okV F S fun cdv A outer s H E hr hc=>⟨B,body cdv A outer s H E hr hc,hg⟩,b,hlen⟩,m,F.kp⟩
end
section
variable {X:Cx} {E:XK} {es:List Expr} {f:FE} {g:FA} {pos:Pos}
theorem wJ {c:Const} {j:Nat} (h:VE X E (.Constant c j pos) f) (h2:VA X E es g):VA X E (.Constant c j pos::es) (qA f g):=QY h h2 rfl
theorem qW {x:Str} (h:VE X E (.Name x pos) f) (h2:VA X E es g):VA X E (.Name x pos::es) (qA f g):=QY h h2 rfl
theorem zz {a b c} (h:VE X E (.Call a b c pos) f) (h2:VA X E es g):VA X E (.Call a b c pos::es) (qA f g):=QY h h2 rfl
theorem YD {a b c} (h:VE X E (.BinOp a b c pos) f) (h2:VA X E es g):VA X E (.BinOp a b c pos::es) (qA f g):=QY h h2 rfl
theorem qFD {a b} (h:VE X E (.Tuple a b pos) f) (h2:VA X E es g):VA X E (.Tuple a b pos::es) (qA f g):=QY h h2 rfl
theorem qHZ {a} (h:VE X E (.List a pos) f) (h2:VA X E es g):VA X E (.List a pos::es) (qA f g):=QY h h2 rfl
theorem qAa {a b} (h:VE X E (.Subscript a b pos) f) (h2:VA X E es g):VA X E (.Subscript a b pos::es) (qA f g):=QY h h2 rfl
theorem qHW {a b} (h:VE X E (.UnaryOp a b pos) f) (h2:VA X E es g):VA X E (.UnaryOp a b pos::es) (qA f g):=QY h h2 rfl
theorem qHY {a b c} (h:VE X E (.Compare a b c pos) f) (h2:VA X E es g):VA X E (.Compare a b c pos::es) (qA f g):=QY h h2 rfl
theorem ZK {a b c} (h:VE X E (.ListComp a b c pos) f) (h2:VA X E es g):VA X E (.ListComp a b c pos::es) (qA f g):=QY h h2 rfl
theorem qHX {a} (h:VE X E (.JoinedStr a pos) f) (h2:VA X E es g):VA X E (.JoinedStr a pos::es) (qA f g):=QY h h2 rfl
theorem qHU {a b c} (h:VE X E (.IfExp a b c pos) f) (h2:VA X E es g):VA X E (.IfExp a b c pos::es) (qA f g):=QY h h2 rfl
theorem qHT {a b} (h:VE X E (.BoolOp a b pos) f) (h2:VA X E es g):VA X E (.BoolOp a b pos::es) (qA f g):=QY h h2 rfl
end
section
variable {X:Cx} {E:XK} {e a c d:Expr} {es:List Expr} {f fa fb fc:FE} {pos:Pos}
def qCM:PV->Bool
 | .non=>true
 |_=>false
theorem Y6 {K:W.Frag} {H:Hp} {b:Bz} {p:PV} {u:V} (r:RV K H b p u):decide (u = .non)=qCM p:=by
 cases p with
 |non=>unfold RV at r;subst r;rfl
 |bl x=>unfold RV at r;subst r;rfl
 |int x=>unfold RV at r;subst r;rfl
 |str x=>unfold RV at r;subst r;rfl
 |tup l=>unfold RV at r;obtain ⟨a,xs,rfl,_⟩:=r;rfl
 |lst l=>unfold RV at r;obtain ⟨a,xs,rfl,_⟩:=r;rfl
 |ref i=>unfold RV at r;obtain ⟨a,rfl,_⟩:=r;rfl
 |dct=>unfold RV at r;obtain ⟨a,rfl,_⟩:=r;rfl
 |ty n=>unfold RV at r;subst r;rfl
 |fn n=>unfold RV at r;subst r;rfl
 |exc x y=>unfold RV at r;obtain ⟨a,o,u,rfl,_⟩:=r;rfl
def WM (neg:Bool):PV->PV->qB->Rs PV:=fun p q st=>match q with
 | .non => .ok (.bl (if neg then !qCM p else qCM p)) st
 |_ => .no
theorem Yn:OpG X E (fun x y H Q=>y = .non∧Q (.bl (decide (x = .non))) H) (WM false):=by
 intro H b st p q u v Q S rp rq P
 unfold WM at P
 split at P
 ·unfold RV at rq
  refine ⟨rq,?_⟩
  rw [Y6 rp]
  exact PostE.here P S wY
 ·exact P.elim
theorem jF:OpG X E (fun x y H Q=>y = .non∧Q (.bl (!decide (x = .non))) H) (WM true):=by
 intro H b st p q u v Q S rp rq P
 unfold WM at P
 split at P
 ·unfold RV at rq
  refine ⟨rq,?_⟩
  rw [Y6 rp]
  exact PostE.here P S wY
 ·exact P.elim
theorem jb (ha:VE X E a fa) (hb:VE X E c fb):VE X E (.Compare a [.Is] [c] pos) (qJ (WM false) fa fb):=yJ Z5 Yn ha hb
end
section
variable {X:Cx} {E:XK} {es:List Expr} {f:FE} {g:FA} {pos:Pos}
theorem qHV {a b} (h:VE X E (.Dict a b pos) f) (h2:VA X E es g):VA X E (.Dict a b pos::es) (qA f g):=QY h h2 rfl
end
end EV
end
section
namespace Att
open PySem PySem.W PySem.Calls PyProof.Rows
theorem Zv:∀ {ns:List Int} {n:Int},n∈ns->WData.weight (.int n)≤WData.weightAll (ns.map WData.int)
 |m::ns,n,h=>by
  show _≤WData.weight (.int m) + 1 + WData.weightAll (ns.map WData.int)
  rcases AH.mp h with rfl |h
  ·omega
  ·have:=Zv h;omega
theorem jj {ns:List Int} (h:WData.layableAll [WData.list (ns.map WData.int)]=true):∀ n∈ns,Builtin.Int.intBits n≤2 ^ 20:=by
 intro n hn
 unfold WData.layableAll at h
 have h1:WData.layable (WData.list (ns.map WData.int))=true:=by simpa using h
 unfold WData.layable at h1
 rw [Ar] at h1
 have h2:WData.weight (WData.list (ns.map WData.int))≤2 ^ 20:=A7 h1.2
 have h3:WData.weightAll (ns.map WData.int)≤2 ^ 20:=h2
 exact AS (Zv hn) h3
theorem attach_callB {l:OpenLaw} {n:Nat} {q:Program} {loose:List Str} {XP:(Str->Option Value)->Heap->Prop} {YP:World->Heap->Prop} {d:DefRec}
  (hn:l.most=some n) (hdf:d.params.defaults=[])
  (call:∀ (w:World) (s₀ s₁:Shared) (mg mb:Str->Option Value) (fa:Addr) (o:Obj) (pm cd doc:Value) (a:Addr) (vs:List Value) (ns:List Int),
   Ground q loose [] XP w s₀ mg mb s₁.heap->YP w s₁.heap ->
   s₁.heap.get? fa=some o->o.data = .func (docDef d.name d.params d.body d.scope pm cd doc)->s₁.heap.CodeRec cd d.name->mg d.name=some (.ref fa) ->
   s₁.heap.get? a=some { cls := .type "list",data := .seq vs.toArray }->IntsAre vs ns->ns.length≤n->(∀ k∈ns,Builtin.Int.intBits k≤2 ^ 20)->s₁.gens = #[] ->
   codeAny (model l.prog w) callerA (.call (.ref fa) ⟨[.ref a],[]⟩) (fun r s'=>r = .ok (.ret (.bool true))∧OldK s₁.heap s'.heap∧s'.os=s₁.os∧AllBare s'.gens) s₁) :
  WalkO q loose XP YP l.row.toRowW d [] (fun f vs=>PySem.call f vs):=by
 intro w s₀ s₁ mg mb G Y fa o pm cd doc dV kV ho hd hcd hD hmg hg args vals as hpre hlay hrd hwl hlo
 obtain rfl:dV = .none:=Dflts.none hD hdf
 obtain rfl:kV = .none:=Dflts.noKw hD
 obtain ⟨a,vs,ns,rfl,rfl,hobj,hints,hlen⟩:=qBC hn hpre hwl
 refine enter_call (codeAny_mono (call w s₀ s₁ mg mb fa o pm cd doc a vs ns G Y ho (fd_plain hd) hcd hmg hobj hints hlen (jj hlay) hg) fun r s' hq => ?_)
 obtain ⟨rfl,h2,h3,h4⟩:=hq
 exact ⟨.inl ⟨.bool true,.bool true,[],rfl,fun _=>rfl,.bool true,qAi l _,fun _=>⟨List.Pairwise.nil,fun _ hm=>(nomatch hm)⟩⟩,h2,h3,h4⟩
end Att
end
section
namespace EX
open PySem PySem.Spec PyProof.Rows L2
section
variable {X:Cx} {pins:List (Addr×Obj)} {σ:L2.St} {H:Hp} {s:Shared}
theorem j3 (I:L2.Inv X pins σ H s) {p:Addr} {its:List Value} (pl:IsTup s.heap p its.toArray) {E:Value->Shared->Prop} {Q:Value->Shared->Prop}
  (h:Walks X.prog X.w X.A.in1 s.heap.objs.size (s.heap.objs.size::p::zP X.A) [s.heap.objs.size] its.toArray.size (fun i v=>its.toArray[i]? = some v) (fun i h=>(h.IsTupleIter s.heap.objs.size p i∧h.IsTuple p its.toArray)∧Hnd X.A.in1 h) ->
   ((s.heap.push { cls := .type "tuple_iterator",data := .fields #[.ref p,.int 0 0] }).IsTupleIter s.heap.objs.size p 0∧(s.heap.push { cls := .type "tuple_iterator",data := .fields #[.ref p,.int 0 0] }).IsTuple p its.toArray)∧Hnd X.A.in1 (s.heap.push { cls := .type "tuple_iterator",data := .fields #[.ref p,.int 0 0] }) ->
   (∀ b∈s.heap.objs.size::p::zP X.A,b < (s.heap.push { cls := .type "tuple_iterator",data := .fields #[.ref p,.int 0 0] }).objs.size) ->
   (∀ h':Heap,(∀ b o,b ∉ [s.heap.objs.size]->(s.heap.push { cls := .type "tuple_iterator",data := .fields #[.ref p,.int 0 0] }).get? b=some o->h'.get? b=some o) -> ∀ b o,s.heap.get? b=some o->h'.get? b=some o) ->
   Q (.ref s.heap.objs.size) { s with heap:=s.heap.push { cls := .type "tuple_iterator",data := .fields #[.ref p,.int 0 0] } }) :
  wpAny (model X.prog X.w) X.A.in1 (pyIter (.ref p)) Q E s:=by
 obtain ⟨ob,po,_⟩:=id pl
 have hlt:p < s.heap.objs.size:=AJ po
 refine wpAny_pyIter_tuple pl (h (jh _ p (AT hlt) _ (qEO I)) ⟨⟨⟨_,AR _ rfl,rfl,rfl⟩,(show s.heap.IsTuple p its.toArray from pl).at fun o e=>AC _ e⟩,?_⟩ (fun b hb => ?_) fun h' k b o e => ?_)
 ·exact Hnd.frame (show Hnd X.A.in1 s.heap from I.hndH) fun b _ o e=>AC _ e
 ·rw [BR]
  rcases AH.mp hb with rfl |hb
  ·exact CC _
  ·rcases AH.mp hb with rfl |hb
   ·exact At hlt
   ·have hd:X.A.handled=some (.ref b):=by
     unfold zP at hb
     split at hb
     ·rename_i a ha;rw [AW.mp hb];exact ha
     ·cases hb
    obtain ⟨a,oe,vs,e1,e2,_⟩:=I.hndH _ hd
    cases e1
    exact At (AJ e2)
 ·exact k b o (by simp;exact AT (AJ e)) (AC _ e)
theorem qAW:wu X (.builtin "sum") (fun xs H Q => ∃ (p:Addr) (ns:List Int),xs=[.ref p]∧SqT X.K H p (ns.map V.int)∧Q (.int ns.sum) H):=by
 intro pins s σ H xs us Q I r h
 obtain ⟨p,ns,rfl,hq,q⟩:=h
 obtain ⟨u,rfl,rx⟩:=ZR r
 cases rx
 obtain ⟨its,r',pl,hz⟩:=I.tuple hq
 have hl:=r'.length
 refine call_sum_walkAnyS (j3 I pl fun W st fp k=>⟨_,_,_,_,_,_,_,fun i=>ns.getD i 0,rfl,W.toS,st,fp,fun i v hv=>zC r' (by simpa using hv),fun s' t' m => ?_⟩)
 have hsz:its.toArray.size=ns.length:=by rw [AM,← hl,AE]
 rw [hsz,W8 ns _ (AL _),CD]
 obtain ⟨hh,g,d,t,o⟩:=s'
 have g1:g=s.gens:=m.gens
 have d1:d=s.drawn:=m.drawn
 have o1:o=s.os:=m.os
 subst g1;subst d1;subst o1
 exact ⟨.int _,H,I.kept (k hh fun b o hb e=>m.heap b o hb e),⟨t',rfl⟩,q⟩
theorem qAj:wu X (.builtin "max") (fun xs H Q => ∃ (p:Addr) (ns:List Int) (m:Int),xs=[.ref p]∧SqL X.K H p (ns.map V.int)∧ns.max? = some m∧Q (.int m) H):=by
 intro pins s σ H xs us Q I r h
 obtain ⟨p,ns,m,rfl,hq,hm,q⟩:=h
 obtain ⟨u,rfl,rx⟩:=ZR r
 cases rx
 obtain ⟨its,r',pl,hz⟩:=I.list hq
 have hl:=r'.length
 rw [AE] at hl
 have hne:ns≠[]:=by intro z;subst z;cases hm
 have hpos:0 < ns.length:=List.length_pos_iff.mpr hne
 have hsz:its.toArray.size=ns.length:=by rw [AM,← hl]
 refine call_max_walk (zE I pl fun W st fp k=>⟨_,_,_,_,_,_,_,rfl,W,st,fp,by rw [hsz];exact hpos,CmpOf.ints_gt (fun i=>ns.getD i 0) fun i v hv=>zC r' (by simpa using hv),fun v h' tk hv hk => ?_⟩)
 rw [hsz] at hv
 rw [List.getElem?_toArray] at hv
 obtain ⟨t,rfl⟩:=zC r' hv
 obtain ⟨g1,g2⟩:=argBest_gt (fun i=>ns.getD i 0) (ns.length - 1)
 rw [EV.max_at hm g1 g2]
 exact ⟨.int m,H,I.kept (t':=tk) (k h' hk),⟨t,rfl⟩,q⟩
end
end EX
namespace EV
open PySem PySem.Spec PyProof.Rows L2 EX
section
variable {X:Cx} {E:XK} {e a c d:Expr} {es:List Expr} {f fa fb fc:FE} {fl:FL} {pos:Pos} {F G:FS}
def ZV:List PV->qB->Rs PV:=fun ps st=>match ps with
 |[.tup l]=>match QH yT l with
  |some ns => .ok (.int ns.sum) st
  |none => .no
 |_ => .no
theorem yz {ta:FA} {p:Pos} (ha:VA X E (e::es) ta) (hm:X.mg "sum" = none) (hg:Gl X "sum" := by rfl) (he:starEach (e::es) X.env=(false,eval e X.env)::starEach es X.env:=by rfl) (hpl:(backTo pos (starEach es X.env)).any (·.1)=false:=by rfl):VE X E (.Call (.Name "sum" p) (e::es) [] pos) (qH ZV ta) :=
 Q9 qAW (fun H b st ps vs Q S r P=>by
  unfold ZV at P
  split at P
  ·rename_i l
   split at P
   ·rename_i ns en
    obtain ⟨v,rfl,r1⟩:=RVs.one r
    unfold RV at r1
    obtain ⟨x,xs,rfl,h2,h3⟩:=r1
    rw [zI h3 en] at h2
    exact ⟨x,ns,rfl,h2.sq,PostE.here P S Qk⟩
   ·exact P.elim
  ·exact P.elim) hg hm Boot.«sum» ha (he:=he) (hpl:=hpl)
def Jj:List PV->qB->Rs PV:=fun ps st=>match ps with
 |[p]=>match asL st p with
  |some l=>match QH yT l with
   |some ns=>match ns.max? with
    |some m => .ok (.int m) st
    |none => .no
   |none => .no
  |none => .no
 |_ => .no
theorem qDj {ta:FA} {p:Pos} (ha:VA X E (e::es) ta) (hm:X.mg "max" = none) (hg:Gl X "max" := by rfl) (he:starEach (e::es) X.env=(false,eval e X.env)::starEach es X.env:=by rfl) (hpl:(backTo pos (starEach es X.env)).any (·.1)=false:=by rfl):VE X E (.Call (.Name "max" p) (e::es) [] pos) (qH Jj ta) :=
 Q9 qAj (fun H b st ps vs Q S r P=>by
  unfold Jj at P
  split at P
  ·rename_i p'
   split at P
   ·rename_i l el
    split at P
    ·rename_i ns en
     split at P
     ·rename_i m em
      obtain ⟨v,rfl,r1⟩:=RVs.one r
      obtain ⟨x,xs,rfl,h2,h3⟩:=Q7 S r1 el
      rw [zI h3 en] at h2
      exact ⟨x,ns,m,rfl,h2,em,PostE.here P S Qk⟩
     ·exact P.elim
    ·exact P.elim
   ·exact P.elim
  ·exact P.elim) hg hm Boot.«max» ha (he:=he) (hpl:=hpl)
end
end EV
end
section
namespace HT
open PySem PySem.Spec PyProof.Rows L2
end HT
namespace L2
open PySem PySem.Spec PyProof.Rows
end L2
end
section
namespace EV
open PySem PySem.Spec PyProof.Rows L2
theorem qDp {X:Cx} {E:XK} (i:Nat) {x:Str} {p' pos2:Pos} {elt:Expr} {c:Comprehension} {cs:List Comprehension} {scope:Scope} {pos:Pos} {capN locN:List Str} {caps:List Nat} {fi:FI} {g:FG} {ts:List FT} {gs:List GenF} {f:FE} (hN:X.N.Nodup) (hi':X.N[i]? = some x) (hx:Loc X.env.scope x) (hf:X.fn x=true∨X.env.scope.names.lookup x=some .local) (hsw:swapsWith (.ListComp elt (c::cs) scope pos) (some (.Name x p')) pos2.line X.env=pure true) (hcs:CSc X scope capN locN caps)
  (hi:VI X E c.target c.iter fi) (sub:∀ s H fp pn,VE (cCx X scope (capN++locN) s H fp pn) E0 elt f∧GOk (cCx X scope (capN++locN) s H fp pn) c ⟨fi,g,ts⟩∧GsOk (cCx X scope (capN++locN) s H fp pn) cs gs)
  (hs:∀ x,foldedSetIterable c.iter X.env x=pure x):PS X (.Assign [.Name x p'] (.ListComp elt (c::cs) scope pos) pos2) (qFq (rdN X.K E (ql caps locN.length fi g ts gs f)) (qCY i)):=by
 intro pins s σ H D0 I hq
 obtain ⟨b,r,st,S,RE,P⟩:=hq
 have hfree:∀ x∈scope.names,x.2 = .free -> ∃ c,X.env.cells.lookup x.1=some c:=fun x hx hk=>I.ok.has x.1 (hcs.fr x hx hk)
 obtain ⟨c1,c2,c3,c4⟩:=c
 have hasy:c4=0:=(sub s H [] []).2.1.asy
 subst hasy
 rw [exec_Assign_Name_used x p' _ pos2 hsw]
 refine AA (Bw ?_)
 refine AA (BD (Q:=fun _ s' => ∃ v H',L2.Inv X pins (σ.set i (some v)) H' s'∧D0.nx (σ.set i (some v)) H') ?_ (fun _ s' ⟨v,H',I',q'⟩=>AB ⟨_,H',I',q'⟩) fun _ _ z=>z)
 rw [arm_evalThenUse_ListComp]
 refine AA (BD (Q:=fun _ s' => ∃ v H',L2.Inv X pins (σ.set i (some v)) H' s'∧D0.nx (σ.set i (some v)) H') ?_ (fun _ s' q'=>AB q') fun _ _ z=>z)
 refine wpAny_comprehension_free (e := .ListComp elt (⟨c1,c2,c3,0⟩::cs) scope pos) (use:=some (assign (.Name x p') X.env)) rfl hs (Zn hfree) hcs.kind (fun x hx hl=>w6 hcs.nd (by rw [← hl];exact hx)) ?_
 show wpAny _ _ (eval c2 X.env) _ _ s
 unfold ql at P
 cases ef:fi r st with
 |no=>rw [ef] at P;exact P.elim
 |ex xx s1 =>
  rw [ef] at P
  refine thn (hi pins s σ H (fun _ _=>False) I ⟨b,r,st,S,RE,by rw [ef];exact P⟩) fun v s2 h2=>thn h2 fun itv s3 h3 => ?_
  obtain ⟨_,_,_,_,_,_,_,_,_,_,z⟩:=h3
  exact z.elim
 |ok w s1 =>
  rw [ef] at P
  refine thn (hi pins s σ H (fun J H' => ∃ b',Ext H b H' b'∧SR X.K H' b' s1∧Zb X.K H' b' J w) I ⟨b,r,st,S,RE,by rw [ef];exact fun J H' b' e' S' i'=>⟨b',e',S',i'⟩⟩) fun v s2 h2=>thn h2 fun itv s3 h3 => ?_
  obtain ⟨it,fp,tn,J,H2,rfl,I2,T,t2,f2,b2,e2,S2,i2⟩:=h3
  have P:PostN X.K E H b (match qZ w.G (QD ⟨fi,g,ts⟩ (QL gs f) (Ws caps locN.length r)) w.l s1 with | .ok l s'=>if l.length≤sizeLine then .ok l s' else .no |_ => .no) (fun v H'=>D0.nx (σ.set i (some v)) H'):=P
  cases ev:qZ w.G (QD ⟨fi,g,ts⟩ (QL gs f) (Ws caps locN.length r)) w.l s1 with
  |no=>rw [ev] at P;exact P.elim
  |ex xx s4=>rw [ev] at P;exact P.elim
  |ok l st' =>
   rw [ev] at P
   have P:PostN X.K E H b (if l.length≤sizeLine then .ok l st' else .no) (fun v H'=>D0.nx (σ.set i (some v)) H'):=P
   by_cases hl:l.length≤sizeLine
   ·rw [AI hl] at P
    have hfr:H2 s3.heap.objs.size=none:=I2.hok.fresh (AL _)
    refine Bp ?_
    generalize hs3:({ s3 with heap:=s3.heap.push { cls := .type "list",data := .seq ([]:List Value).toArray } }:Shared)=s3'
    have I3:L2.Inv X pins σ (upd H2 s3.heap.objs.size (.lst [])) s3':=by
     rw [← hs3]
     exact I2.laid (t':=s3.toks) (fun a u e=>AC _ e) (AL _) (show ObjOk X.prog X.w _ _ _ (.lst []) from ⟨BJ _,[],0,.nil,AR _ rfl⟩)
    have k3:∀ a o,s3.heap.get? a=some o->s3'.heap.get? a=some o:=fun a o e=>by rw [← hs3];exact AC _ e
    have hlt:∀ a∈fp,a < s3.heap.objs.size:=fun a ha=>by
     obtain ⟨o,e,_⟩:=T.obj _ _ t2 a ha
     exact AJ e
    have f3:∀ a∈fp,zu X pins (upd H2 s3.heap.objs.size (.lst [])) a:=fun a ha=>⟨by rw [qQ (AT (hlt a ha))];exact (f2 a ha).1,(f2 a ha).2⟩
    have hlt3:∀ a∈fp,a < s3'.heap.objs.size:=fun a ha=>by
     obtain ⟨o,e,_⟩:=T.obj _ _ t2 a ha
     exact AJ (k3 a o e)
    generalize hD:s3.heap.objs.size=D at I3 f3 hfr
    refine jR ?_
    have J0:=Zm hcs I3 f3 hlt3 rfl
    obtain ⟨he,hg,hgs⟩:=sub s3' (upd H2 D (.lst [])) fp (X.pn++pins)
    have k4:∀ a o,s3'.heap.get? a=some o->(pushCells (s3'.heap.push { cls := .type "dict",data := .dict #[] }) scope.names).get? a=some o:=fun a o e=>CK _ _ _ _ (AC _ e)
    have hDz:D ∉ b2.z:=(S2.new_notin hfr).2
    have loop:=ym (X:=cCx X scope (capN++locN) s3' (upd H2 D (.lst [])) fp (X.pn++pins)) (fun _ _ z=>z) (gens:=⟨c1,c2,c3,0⟩::cs) (scope:=scope) (pos:=pos) (D:=D) he gs cs 0 ⟨c1,c2,c3,0⟩ ⟨fi,g,ts⟩ rfl hg hgs [] _ _ _ ⟨b2.b,D::b2.z⟩ (Ws caps locN.length r) s1 st' it fp tn J w [] l
     (compPost (model X.prog X.w) X.A X.xe (some (assign (.Name x p') X.env)) (fun _ s' => ∃ v H',L2.Inv X pins (σ.set i (some v)) H' s'∧D0.nx (σ.set i (some v)) H') (.ref D) s3'.heap.objs.size) J0 (SR.hide S2 hfr) (jU ((RE.ext e2).wext (WE.hide hfr))) AK Qa T (T.keep _ _ _ t2 fun a ha o e=>k4 a o (k3 a o e))
     (fun a ha=>⟨(f3 a ha).1,(J0.ok.exf a ha).1,J0.ok.exfs a ha,.inl ha,(J0.ok.exf a ha).2,fun p hp=>(f3 a ha).2.2.2.2.2 p (by simpa [cCx] using hp)⟩) (yX i2 hfr) ev (by simpa using hl)
     (fun s' σ' H' b' lV I' e' S' R' hD' r'=>by
      obtain ⟨m,hn,_⟩:=I'.loc
      have hn:s'.heap.Ns s3'.heap.objs.size m:=hn
      have fin:L2.Inv X pins σ H' s':=jI I3 f3 I' ⟨rfl,fun _ _=>rfl⟩
      have hC:H' s3'.heap.objs.size=none:=I'.free
      have fpC:zu X pins H' s3'.heap.objs.size:=I3.fpOk (AL _) hC
      obtain ⟨oC,esC,epC,hoC,hdC,hkC⟩:=id hn
      have finp:=fin.pinned (fp:=[s3'.heap.objs.size]) (fun b hb=>by rw [AW.mp hb];exact fpC) (fun b hb=>by rw [AW.mp hb];exact ⟨oC,hoC,fun v z=>by rw [hdC] at z;cases z⟩)
      have hz':b'.z=D::b2.z:=e'.same
      show wpAny (model X.prog X.w) X.A (assign (.Name x p') X.env (.ref D)) _ _ s'
      refine wpAny_assign_Name ?_
      refine W0 finp hN hi' hx (v := .ref D) rfl (fun s'' I'' => ?_) hf
      have hpin:s''.heap.get? s3'.heap.objs.size=some oC:=by
       have hm:(s3'.heap.objs.size,oC)∈X.pn++(pins++zZ [s3'.heap.objs.size] s'.heap):=by
        unfold zZ
        simp [hoC]
       exact (I''.pin _ hm).1
      refine ⟨m,⟨oC,esC,epC,hpin,hdC,hkC⟩,fun h'' sb=>⟨.ref D,H',(I''.unpinned).turned (t':=s''.toks) (fun b o hb e=>sb.extBut b o hb e) fpC.1 fpC.2.1 fpC.2.2.2.1 fpC.2.2.2.2.1 (fun p hp=>fpC.2.2.2.2.2 p hp),?_⟩⟩
      have ex:Ext H2 b2 H' ⟨b'.b,b2.z⟩:=by
       refine ⟨⟨?_,⟨[],rfl,by simp⟩,fun a o ha ho => ?_,fun a o ha => ?_⟩,rfl,fun a o hz ha => ?_,fun a o u ha=>e'.fz a o u (qL ha hfr) (by rw [qQ (qL ha hfr)];exact ha)⟩
       ·obtain ⟨n,hb,hh⟩:=e'.more
        exact ⟨n,hb,fun a ha=>by
         have:=hh a ha
         by_cases q:a=D
         ·rw [q];exact hfr
         ·rwa [qQ q] at this⟩
       ·have hne:a≠D:=qL ha hfr
        exact e'.keep a o (by rw [qQ hne];exact ha) ⟨ho.1,fun z=>(AH.mp z).elim hne ho.2⟩
       ·have hne:a≠D:=qL ha hfr
        exact e'.dom a o (by rw [qQ hne];exact ha)
       ·have hne:a≠D:=qL ha hfr
        exact e'.hid a o (AG _ hz) hne (by rw [qQ hne];exact ha)
      have hb':(⟨b'.b,D::b2.z⟩:Bz)=b':=by rw [← hz']
      refine P D lV H' ⟨b'.b,b2.z⟩ (e2.trans ex) (e2.none_of hfr) (by simpa using hD') hDz ?_ ?_
      ·show SR X.K H' ⟨b'.b,D::b2.z⟩ st'
       rw [hb'];exact S'
      ·show RVs X.K H' ⟨b'.b,D::b2.z⟩ l lV
       rw [hb'];exact r')
    exact Wb rfl rfl loop (T.self X.A 0 _ _ _ (T.keep _ _ _ t2 fun a ha o e=>k4 a o (k3 a o e)) loop)
   ·rw [AQ hl] at P;exact P.elim
end EV
namespace EV
open PySem PySem.Spec PyProof.Rows L2
section
variable {X:Cx} {E:XK} {x:Str} {p' pos2:Pos} {elt:Expr} {c:Comprehension} {cs:List Comprehension} {scope:Scope} {pos:Pos} {capN locN:List Str} {caps:List Nat} {fi:FI} {g:FG} {ts:List FT} {gs:List GenF} {f:FE}
theorem Zd (i:Nat) (hN:X.N.Nodup) (hcs:CSc X scope capN locN caps)
  (hi:VI X E c.target c.iter fi) (sub:∀ s H fp pn,VE (cCx X scope (capN++locN) s H fp pn) E0 elt f∧GOk (cCx X scope (capN++locN) s H fp pn) c ⟨fi,g,ts⟩∧GsOk (cCx X scope (capN++locN) s H fp pn) cs gs)
  (hi':X.N[i]? = some x:=by rfl) (hx:Loc X.env.scope x:=by first |exact Or.inl rfl |exact Or.inr rfl) (hf:X.fn x=true∨X.env.scope.names.lookup x=some .local:=by first |exact .inl rfl |exact .inr rfl |assumption)
  (hsw:swapsWith (.ListComp elt (c::cs) scope pos) (some (.Name x p')) pos2.line X.env=pure true:=by rfl) (hs:∀ x,foldedSetIterable c.iter X.env x=pure x:=by intro _;rfl) :
  VS X E (.Assign [.Name x p'] (.ListComp elt (c::cs) scope pos) pos2) (qp i (vFz (ql caps locN.length fi g ts gs f))) :=
 PS.imp (qDp i hN hi' hx hf hsw hcs hi sub hs) fun D s H ⟨b,r,st,S,R,P⟩=>⟨b,r,st,S,R,PostN.of (PostE.bindS P fun p s1 u H1 b1 e1 S1 r1 P1=>P1 _ H1 b1 (Ext.refl _ _) S1 ((R.ext e1).set r1 i))⟩
end
end EV
end
section
namespace EX
open PySem PySem.Spec PyProof.Rows L2
end EX
namespace EV
open PySem PySem.Spec PyProof.Rows L2 EX
end EV
end
section
namespace EV
open PySem PySem.Spec PyProof.Rows L2 EX
section
variable {X:Cx} {E:XK}
def qFp (sc:Scope) (x:Str):Bool:=match sc.names.lookup x with
 |some .local=>true
 |some .cell=>true
 |some .free=>true
 |_=>false
theorem qES {sc:Scope} {x:Str} (h:qFp sc x=true):Vis sc x:=by
 unfold qFp at h
 unfold Vis
 split at h
 ·rename_i e;exact .inl e
 ·rename_i e;exact .inr (.inl e)
 ·rename_i e;exact .inr (.inr e)
 ·cases h
theorem qG (i:Nat) {x:Str} {pos:Pos} (hN:X.N[i]? = some x:=by rfl) (hv:qFp X.env.scope x=true:=by rfl) (hd:((x==("__debug__":Str)) || (x==("__classdict__":Str)))=false:=by rfl):VE X E (.Name x pos) (qC i):=by
 rw [Bool.or_eq_false_iff] at hd
 exact qGK (pv i hN (qES hv) hd.1 hd.2)
def frB (X:Cx):List (Str×NameKind)->Bool
 |[]=>true
 |(x,.free)::l=>(match X.env.kindOf x with |some .cell=>true |some .free=>true |_=>false)&&frB X l
 |_::l=>frB X l
theorem qCv:∀ {l:List (Str×NameKind)},frB X l=true -> ∀ x∈l,x.2 = .free->(X.env.kindOf x.1=some .cell∨X.env.kindOf x.1=some .free)
 |[],_,x,hx,_=>by cases hx
 |(y,k)::l,h,x,hx,hk=>by
  rcases AH.mp hx with rfl |hx
  ·have hk:k = .free:=hk
   subst hk
   unfold frB at h
   rw [Ar] at h
   have h:=h.1
   split at h
   ·rename_i e;exact .inl e
   ·rename_i e;exact .inr e
   ·cases h
  ·refine qCv (l:=l) ?_ x hx hk
   unfold frB at h
   split at h
   ·rename_i he;cases he
   ·rename_i he;cases he;rw [Ar] at h;exact h.2
   ·rename_i he;cases he;exact h
def qDT (X:Cx) (l:List (Str×NameKind)):List Str->List Nat->Prop
 |x::xs,j::js=>(X.N[j]? = some x∧l.lookup x=some .free)∧qDT X l xs js
 |_,_=>True
theorem yK {x:Str} {k:NameKind}:∀ {l:List (Str×NameKind)},l.lookup x=some k->(x,k)∈l
 |[],h=>by cases h
 |(y,q)::l,h=>by
  rw [As] at h
  split at h
  ·rename_i e;cases h;rw [eq_of_beq e];exact AK
  ·exact AG _ (yK h)
theorem qAF {l:List (Str×NameKind)}:∀ {xs:List Str} {js:List Nat},qDT X l xs js -> ∀ (i:Nat) (x:Str) (j:Nat),xs[i]? = some x->js[i]? = some j->X.N[j]? = some x∧(x,NameKind.free)∈l
 |[],_,_,i,x,j,h1,_=>by cases h1
 |_::_,[],_,i,x,j,_,h2=>by cases h2
 |a::xs,b::js,h,i,x,j,h1,h2=>by
  unfold qDT at h
  cases i with
  |zero=>cases h1;cases h2;exact ⟨h.1.1,yK h.1.2⟩
  |succ i=>exact qAF h.2 i x j h1 h2
theorem QU {scope:Scope} {capN locN:List Str} {caps:List Nat} (h1:scope.kind = .function) (h2:(scope.names.map (·.1)).Nodup) (h3:frB X scope.names=true) (h4:capN.length=caps.length) (h5:qDT X scope.names capN caps):CSc X scope capN locN caps :=
 ⟨h1,h2,qCv h3,h4,qAF h5⟩
end
end EV
end
section
namespace EX
open PySem PySem.Spec PyProof.Rows L2
end EX
namespace EV
open PySem PySem.Spec PyProof.Rows L2 EX
end EV
end
section
namespace EV
open PySem PySem.Spec PyProof.Rows L2 EX
section
variable {X:Cx} {E:XK} {e:Expr} {es:List Expr} {pos:Pos}
theorem qHS {a:Expr} {n:Str} {f:FE} {g:FA} (h:VE X E (.Attribute a n pos) f) (h2:VA X E es g):VA X E (.Attribute a n pos::es) (qA f g):=QY h h2 rfl
end
section
variable {X:Cx} {E:XK} {e a c d o:Expr} {es:List Expr} {f fa fb fc fd fk fx:FE} {pos:Pos} {F G:FS}
theorem Ext.newS {H:Hp} {b:Bz} {p:Addr} {o:HO} (h:H p=none):Ext H b (upd H p o) ⟨b.b++[p],b.z⟩ :=
 ⟨⟨⟨[p],rfl,fun a ha=>by rw [AW.mp ha];exact h⟩,⟨[],rfl,by simp⟩,fun a u e _=>by rw [qQ (qL e h)];exact e,fun a u e=>⟨u,by rw [qQ (qL e h)];exact e⟩⟩,rfl,fun a u _ e=>by rw [qQ (qL e h)];exact e,fun a u _ e=>by rw [qQ (qL e h)];exact e⟩
theorem SR.newS {K:W.Frag} {H:Hp} {b:Bz} {st:qB} (S:SR K H b st) {p:Addr} {o:HO} {x:SO} (h:H p=none) (hx:SOk K (upd H p o) ⟨b.b++[p],b.z⟩ x o):SR K (upd H p o) ⟨b.b++[p],b.z⟩ (st++[x]):=by
 have hn:=S.new_notin h
 refine ⟨by simp [S.len],?_,fun i y hy => ?_,fun a ha => ?_,fun a ha hm => ?_⟩
 ·exact B4.mpr ⟨S.nd,by simp,fun a ha c hc=>by rw [AW.mp hc];intro z;subst z;exact hn.1 ha⟩
 ·by_cases hi:i < st.length
  ·rw [Ac hi] at hy
   obtain ⟨a,u,h1,h2,h3⟩:=S.at_ i y hy
   exact ⟨a,u,(Ext.newS (b:=b) (o:=o) h).ix h1,by rw [qQ (qL h2 h)];exact h2,h3.ext (Ext.newS h)⟩
  ·have hi':i=st.length:=by
    have:=(Aa.mp hy).1
    rw [Af,CA] at this;omega
   subst hi'
   have e1:(st++[x])[st.length]? = some x:=by simp
   rw [e1] at hy;cases hy
   exact ⟨p,o,by show (b.b++[p])[st.length]? = some p;rw [← S.len];simp,Qa,hx⟩
 ·obtain ⟨u,e⟩:=S.zo a ha
  exact ⟨u,by rw [qQ (qL e h)];exact e⟩
 ·rcases A1.mp hm with q |q
  ·exact S.zb a ha q
  ·rw [AW.mp q] at ha;exact hn.2 ha
theorem qC8 {K:W.Frag} {H H':Hp} {b:Bz} {st:qB} (S:SR K H b st) {p:Addr}:RV K H' ⟨b.b++[p],b.z⟩ (.ref st.length) (.ref p):=by
 unfold RV
 exact ⟨p,rfl,by show (b.b++[p])[st.length]? = some p;rw [← S.len];simp⟩
def ZZ {κ:Type} [DecidableEq κ] (kvs:List (κ×PV)) (k:κ):Option PV:=(kvs.find? fun kv=>decide (kv.1=k)).map (·.2)
theorem YS {K:W.Frag} {H:Hp} {b:Bz} {κ:Type} [DecidableEq κ] {k:κ}:∀ {kvs:List (κ×PV)} {vs:List (κ×V)},kvs.map (·.1)=vs.map (·.1)->RVs K H b (kvs.map (·.2)) (vs.map (·.2)) ->
  (∃ p v,ZZ kvs k=some p∧zg vs k=some v∧RV K H b p v)∨(ZZ kvs k=none∧zg vs k=none)
 |[],[],_,_ => .inr ⟨rfl,rfl⟩
 |[],_::_,h,_=>by cases h
 |_::_,[],h,_=>by cases h
 |(k1,p)::r,(k2,v)::vs,h,hr=>by
  rw [AN,AN] at h hr
  obtain ⟨h1,h2⟩:=List.cons.inj h
  unfold RVs at hr
  obtain ⟨x,xs,e1,e2,e3⟩:=hr
  obtain ⟨rfl,rfl⟩:=List.cons.inj e1
  by_cases e:k1=k
  ·exact .inl ⟨p,v,by simp [ZZ,A4,e],by simp [zg,A4,← e,show k1=k2 from h1],e2⟩
  ·have e':¬ k2=k:=fun z=>e ((show k1=k2 from h1).trans z)
   have:=YS (k:=k) h2 e3
   simpa [ZZ,zg,A4,e,e'] using this
end
end EV
end
section
namespace EX
open PySem PySem.Spec PyProof.Rows L2
end EX
namespace EV
open PySem PySem.Spec PyProof.Rows L2 EX
end EV
end
section
namespace EX
open PySem PySem.Spec PyProof.Rows L2
end EX
namespace EV
open PySem PySem.Spec PyProof.Rows L2 EX
end EV
end
section
namespace EX
open PySem PySem.Spec PyProof.Rows L2
end EX
namespace EV
open PySem PySem.Spec PyProof.Rows L2 EX
end EV
end
section
namespace EX
open PySem PySem.Spec PyProof.Rows L2
end EX
namespace EV
open PySem PySem.Spec PyProof.Rows L2 EX
end EV
end
section
namespace EX
open PySem PySem.Spec PyProof.Rows L2
def byT (w:World):Bool:=w.params.followText "set-order"
def qCQ:List Nat->List (List Nat)
 |[]=>[[]]
 |x::xs=>qCQ xs++(qCQ xs).map (x :: ·)
def WL (k:Nat):List (List Nat):=(qCQ (List.range 8)).filter fun l=>Nat.beq l.length k
def Z6 (place:Array Nat):SetTable:=⟨7,place,#[],0,true,0,true⟩
def qBr (pl:List Nat) (k:Nat) (h:Int):Bool:=match (Z6 pl.toArray).freeSlot h with
 |some (slot,false)=>decide ((SetTable.insertAt pl.toArray (SetTable.below pl.toArray slot) slot).toList∈WL (k + 1))
 |_=>false
theorem qCx:([0,1,2,3].all fun k=>(WL k).all fun pl=>[1,2,3,4,5,6,7,8,9].all fun h=>qBr pl k h)=true:=by decide +kernel
structure TbOk (w:World) (t:SetTable) (k:Nat):Prop where
 mask:t.mask=7
 dum:t.dummies = #[]
 led:t.led = !byT w
 pl:t.plain=true
 ris:t.place.toList∈WL k
def SetI (w:World) (h:Heap) (a:Addr) (ns:List Int):Prop := ∃ o es ep t,h.get? a=some o∧o.ExactSet∧o.data=Data.set es ep t∧(∀ e∈es.toList,(∃ tk,e.2=Value.int e.1 tk)∧1≤e.1∧e.1≤9)∧es.toList.map (·.1)=ns∧TbOk w t ns.length
theorem zG {k:Nat} {l:List Nat} (h:l∈WL k):l.length=k:=by
 unfold WL at h
 exact Nat.eq_of_beq_eq_true (A0.mp h).2
theorem qEo {n:Int} (h1:1≤n) (h2:n≤9):n∈([1,2,3,4,5,6,7,8,9]:List Int):=by
 have:n=1∨n=2∨n=3∨n=4∨n=5∨n=6∨n=7∨n=8∨n=9:=by omega
 simp only [AH,Aj,or_false]
 exact this
theorem qCP {n:Int} (h1:1≤n) (h2:n≤9):hashInt n=n:=by
 have:n=1∨n=2∨n=3∨n=4∨n=5∨n=6∨n=7∨n=8∨n=9:=by omega
 rcases this with rfl |rfl |rfl |rfl |rfl |rfl |rfl |rfl |rfl <;> rfl
theorem jA {t:SetTable} (hm:t.mask=7) (hd:t.dummies = #[]) (f:Nat->Int) (h:Int):∀ (n:Nat) (p:SetTable.Probe),SetTable.probe.go t f h n p=SetTable.probe.go (Z6 t.place) f h n p:=by
 intro n
 obtain ⟨m,pl,d,fi,le,mo,pn⟩:=t
 have hm:m=7:=hm
 have hd:d = #[]:=hd
 subst hm;subst hd
 induction n with
 |zero=>intro p;rfl
 |succ n ih =>
  intro p
  rw [SetTable.probe.go,SetTable.probe.go]
  simp only [ih]
  rfl
theorem Zo {t:SetTable} (hm:t.mask=7) (hd:t.dummies = #[]) (h:Int):t.freeSlot h=(Z6 t.place).freeSlot h:=by
 have e0:(Z6 t.place).probeStart h=t.probeStart h:=by unfold SetTable.probeStart Z6;rw [hm]
 unfold SetTable.freeSlot SetTable.probe
 rw [jA hm hd,e0,hm]
 rfl
theorem qDF {w:World} {t:SetTable} {k:Nat} {h:Int} (T:TbOk w t k) (hk:k≤3) (h1:1≤h) (h2:h≤9):∃ slot,t.freeSlot h=some (slot,false)∧(SetTable.insertAt t.place (SetTable.below t.place slot) slot).toList∈WL (k + 1):=by
 have hk':k∈[0,1,2,3]:=by
  have:k=0∨k=1∨k=2∨k=3:=by omega
  simp only [AH,Aj,or_false];exact this
 have e:=Ao.mp (Ao.mp (Ao.mp qCx k hk') _ T.ris) h (qEo h1 h2)
 unfold qBr at e
 rw [Zo T.mask T.dum]
 have et:t.place.toList.toArray=t.place:=by simp
 rw [et] at e
 split at e
 ·rename_i slot es
  exact ⟨slot,es,A7 e⟩
 ·cases e
section
variable {prog:Program} {w:World} {A:Around} {E:Value->Shared->Prop} {s:Shared}
theorem qCU {es:List (Int×Value)} (h:∀ e∈es,(∃ tk,e.2=Value.int e.1 tk)∧1≤e.1∧e.1≤9):ElemsOf (intKind prog w) es:=fun e he=>by
 obtain ⟨⟨tk,h1⟩,h2,h3⟩:=h e he
 refine ⟨⟨e.1,?_,(qCP h2 h3).symm⟩,?_⟩
 ·rw [h1];exact CF prog w e.1 tk
 ·rw [h1];rfl
theorem qEY {k n:Int} {tk:Tok}:(intKind prog w).is k (.int n tk)=decide (n=k):=by
 by_cases h:n=k
 ·subst h;rw [CF];exact (AV rfl).symm
 ·rw [AY h]
  cases e:(intKind prog w).is k (.int n tk) with
  |false=>rfl
  |true=>exact absurd ((intKind prog w).inj _ _ _ (CF prog w n tk) e) h
theorem qC2 {a:Addr} {k:Int} {tk:Tok} {ns:List Int} {Q:Bool->Shared->Prop} (S:SetI w s.heap a ns) (hn:ns.length≤3) (h1:1≤k) (h2:k≤9)
  (h:∀ (h':Heap) (ns':List Int),Heap.SameBut a s.heap h'->SetI w h' a ns'->ns'.Perm (if k∈ns then ns else ns++[k])->Q (decide (k ∉ ns)) { s with heap:=h' }):wpAny (model prog w) A (setAddHashed a (.int k tk) k) Q E s:=by
 obtain ⟨o,es,ep,t,ho,hx,hd,hes,hm,T⟩:=S
 have hsz:es.size=ns.length:=by rw [← hm,AE,Ab]
 have hfit:t.fits es.size=true:=by
  unfold SetTable.fits
  rw [Ar]
  have:=zG T.ris
  rw [Ab] at this
  refine ⟨by rw [this,hsz];exact An _,AV ?_⟩
  unfold SetTable.fill
  rw [T.dum,T.mask,this]
  show ns.length + 0≤7
  omega
 have hel:=qCU (prog:=prog) (w:=w) hes
 have hk:=qCP h1 h2
 unfold setAddHashed
 refine Ai ?_
 rw [setAddHashedIn.eq_def]
 refine AA (BC ho hd hfit ?_)
 dsimp only
 rw [AI (byScan_of (knd:=intKind prog w) (x := .int k tk) rfl (by rw [hsz];exact BS hn (by decide)) hel)]
 refine AA ?_
 rw [setAddByScan.eq_def]
 refine AA (Bq (AA ?_))
 have hscan := @wpAny_setScan_of prog w Int _ (intKind prog w) A E s a o es ep t (.int k tk) k true
 rw [show (intKind prog w).hash k=k from hk] at hscan
 refine hscan (CF prog w k tk) ho hd hfit hel ?_
 have hfind:∀ l:List (Int×Value),(∀ e∈l,(∃ tk,e.2=Value.int e.1 tk)∧1≤e.1∧e.1≤9)->(l.findIdx? fun e=>(intKind prog w).is k e.2).isSome=decide (k∈l.map (·.1)):=by
  intro l hl
  induction l with
  |nil=>rfl
  |cons e l ih =>
   obtain ⟨⟨tk',he⟩,_⟩:=hl e AK
   rw [List.findIdx?_cons,he,qEY]
   by_cases hq:e.1=k
   ·rw [AI (by rw [AV hq])]
    exact (AV (by rw [AN,hq];exact AK)).symm
   ·rw [AQ (by rw [AY hq];simp),Option.isSome_map,ih fun x hx=>hl x (AG _ hx)]
    refine decide_eq_decide.mpr ⟨fun z=>AG _ z,fun z => ?_⟩
    rcases AH.mp z with z |z
    ·exact absurd z.symm hq
    ·exact z
 have hf:=hfind es.toList hes
 rw [hm] at hf
 cases hi:es.toList.findIdx? fun e=>(intKind prog w).is k e.2 with
 |some j =>
  rw [hi] at hf
  have hk:k∈ns:=A7 hf.symm
  dsimp only
  refine AB (AB ?_)
  have:=h s.heap ns ⟨rfl,fun _ _=>rfl⟩ ⟨o,es,ep,t,ho,hx,hd,hes,hm,T⟩ (by rw [AI hk])
  rw [AY (not_not_intro hk)] at this
  exact this
 |none =>
  rw [hi] at hf
  have hk':k ∉ ns:=of_decide_eq_false hf.symm
  dsimp only
  obtain ⟨slot,hs1,hs2⟩:=qDF T hn h1 h2
  have hT1:TbOk w (t.put slot).1 (ns.length + 1):=by
   refine ⟨T.mask,?_,T.led,T.pl,hs2⟩
   show (if SetTable.has t.dummies slot=true then SetTable.eraseAt t.dummies (SetTable.below t.dummies slot) else t.dummies) = #[]
   rw [T.dum]
   rfl
  have hsz1:(SetTable.insertAt es (t.put slot).2 (k,Value.int k tk)).size=ns.length + 1:=by
   unfold SetTable.insertAt
   simp only [Array.size_append,Array.size_push,Array.size_extract]
   omega
  have hfit1:(t.put slot).1.fits (ns.length + 1)=true:=by
   unfold SetTable.fits
   rw [Ar]
   have:=zG hT1.ris
   rw [Ab] at this
   refine ⟨by rw [this];exact An _,AV ?_⟩
   unfold SetTable.fill
   rw [hT1.dum,hT1.mask,this]
   show ns.length + 1 + 0≤7
   omega
  have hl:layNew t es k (.int k tk)=(SetTable.insertAt es (t.put slot).2 (k,.int k tk),(t.put slot).1,false,false):=by
   unfold layNew
   rw [hs1]
   show (SetTable.insertAt es (t.put slot).2 (k,Value.int k tk),(t.put slot).1.orStandIn (SetTable.insertAt es (t.put slot).2 (k,Value.int k tk)).size,false,!(t.put slot).1.fits (SetTable.insertAt es (t.put slot).2 (k,Value.int k tk)).size)=_
   rw [hsz1]
   unfold SetTable.orStandIn
   rw [AI hfit1,hfit1]
   rfl
  have hperm:=layNew_perm t es k (.int k tk)
  rw [hl] at hperm ⊢
  dsimp only
  refine AA (Al (a:=()) (by with_unfolding_all rfl) ?_)
  rw [AI hT1.pl]
  refine AA (Al (a:=true) (by rw [hashByValue_scannable 8 (x := .int k tk) rfl];rfl) ?_)
  rw [AI rfl]
  refine AA (wpAny_storeSet_of ho hd ?_ (by rw [hsz1];exact AS (Nat.succ_le_succ hn) (by decide)))
  have hfull:(t.put slot).1.tooFull=false:=by
   unfold SetTable.tooFull
   refine AY ?_
   have:=zG hT1.ris
   rw [Ab] at this
   unfold SetTable.fill
   rw [hT1.dum,hT1.mask,this]
   show ¬ (ns.length + 1 + 0) * 5 ≥ 7 * 3
   omega
  rw [hfull]
  rw [AQ (by decide)]
  refine AB (AB ?_)
  obtain ⟨oc,od,odt,osl⟩:=o
  have hd:odt=Data.set es ep t:=hd
  subst hd
  have hu:({ s with heap:=s.heap.update a (Obj.putSet (SetTable.insertAt es (t.put slot).2 (k,.int k tk)) (t.put slot).1) }:Shared).heap.get? a=some ⟨oc,od,Data.set (SetTable.insertAt es (t.put slot).2 (k,.int k tk)) (ep + 1) (t.put slot).1,osl⟩:=by
   show (s.heap.update a _).get? a=_
   rw [Ap _ ho rfl]
   rfl
  have hns:((SetTable.insertAt es (t.put slot).2 (k,Value.int k tk)).toList.map (·.1)).Perm (ns++[k]):=by
   refine (hperm.map (·.1)).trans (.of_eq ?_)
   rw [Array.toList_push,BF,hm]
   rfl
  have:=h _ ((SetTable.insertAt es (t.put slot).2 (k,Value.int k tk)).toList.map (·.1)) ⟨Bt ..,fun b hb=>Heap.get?_update_ne _ _ _ _ hb⟩ ⟨_,_,_,_,hu,hx,rfl,fun e he => ?_,rfl,?_⟩ (by rw [AQ hk'];exact hns)
  ·rw [AV hk'] at this
   exact this
  ·have he:=hperm.mem_iff.mp he
   rw [Array.toList_push] at he
   rcases A1.mp he with he |he
   ·exact hes e he
   ·rw [AW.mp he];exact ⟨⟨tk,rfl⟩,h1,h2⟩
  ·rw [hns.length_eq,Af];exact hT1
end
def ddS (acc:List Int) (k:Int):List Int:=if k∈acc then acc else acc++[k]
def dd (vs:List Int):List Int:=vs.foldl ddS []
theorem qDg {vs:List Int} {i:Nat} (h:i < vs.length):dd (vs.take (i + 1))=ddS (dd (vs.take i)) (vs.getD i 0):=by
 unfold dd
 rw [BN h,List.foldl_append,AF,AD h]
 rfl
theorem qBZ {a b:List Int} {k:Int} (h:a.Perm b):(if k∈a then a else a++[k]).Perm (ddS b k):=by
 unfold ddS
 by_cases q:k∈a
 ·rw [AI q,AI (h.mem_iff.mp q)];exact h
 ·rw [AQ q,AQ (fun z=>q (h.mem_iff.mpr z))];exact h.append_right _
theorem Zx:∀ (vs:List Int) (acc:List Int),(vs.foldl ddS acc).length≤acc.length + vs.length
 |[],acc=>AL _
 |k::vs,acc=>by
  rw [Bn,AO]
  have h:=Zx vs (ddS acc k)
  have:(ddS acc k).length≤acc.length + 1:=by
   unfold ddS
   split
   ·omega
   ·rw [Af];exact AL _
  omega
section
variable {prog:Program} {w:World} {A:Around} {E:Value->Shared->Prop} {R:Result->Shared->Prop}
theorem SetI.same {h h':Heap} {a:Addr} {ns:List Int} (S:SetI w h a ns) (e:∀ o,h.get? a=some o->h'.get? a=some o):SetI w h' a ns:=by
 obtain ⟨o,es,ep,t,h1,h2⟩:=S
 exact ⟨o,es,ep,t,e o h1,h2⟩
theorem qC1 {I:Addr} {fp wr:List Addr} {n:Nat} {P:Nat->Value->Prop} {St:Nat->Heap->Prop} (W:Walks prog w A.in1 I fp wr n P St) {Sa:Addr} (hS:Sa ∉ fp) {vs:List Int} (hn:vs.length=n) (h4:n≤4) (hv:∀ i v,P i v -> ∃ t,v=Value.int (vs.getD i 0) t) (hb:∀ v∈vs,1≤v∧v≤9) :
  ∀ (k i:Nat) (s:Shared) (ns:List Int),n - i=k->i≤n->St i s.heap->SetI w s.heap Sa ns->ns.Perm (dd (vs.take i)) ->
   (∀ (h':Heap) (tk:Nat) (ns':List Int),(∀ b o,b ∉ Sa::wr->s.heap.get? b=some o->h'.get? b=some o)->SetI w h' Sa ns'->ns'.Perm (dd vs)->R (.ok (.ret .none)) { s with heap:=h',toks:=tk }) ->
   codeAny (model prog w) A (.builtin "set.update.loop" ⟨[.ref Sa,.ref I],[]⟩) R s:=by
 intro k
 induction k with
 |zero =>
  intro i s ns hk hi hSt S hp h
  have:i=n:=by omega
  subst this
  refine Au F.entry_set_update_loop ?_
  rw [Aw F.plain_set_update_loop]
  unfold Builtin.«set.update.loop»
  refine AA (W.done _ _ _ hSt fun h' tk hk' => ?_)
  dsimp only
  refine AB ?_
  refine h h' tk ns (fun b o hb'=>hk' b o fun q=>hb' (AG _ q)) (S.same fun o=>hk' Sa o fun q=>hS (W.sub _ q)) ?_
  rw [← hn,CD] at hp
  exact hp
 |succ k ih =>
  intro i s ns hk hi hSt S hp h
  have hi':i < n:=by omega
  refine Au F.entry_set_update_loop ?_
  rw [Aw F.plain_set_update_loop]
  unfold Builtin.«set.update.loop»
  refine AA (W.item i _ _ _ hi' hSt fun v h' tk hP hSt' hk' => ?_)
  obtain ⟨t,rfl⟩:=hv i v hP
  have hm:vs.getD i 0∈vs:=by rw [AF,AD (by omega)];exact BO _
  have hb':=hb _ hm
  dsimp only
  refine AA (Ai ?_)
  unfold setAdd
  refine Ai (AA ((intKind prog w).pyHash (CF prog w _ t) ?_))
  rw [show (intKind prog w).hash (vs.getD i 0)=vs.getD i 0 from qCP hb'.1 hb'.2]
  have hl:ns.length≤3:=by
   have:=Zx (vs.take i) []
   have e:(dd (vs.take i)).length≤i:=by
    have q:=List.length_take_le i vs
    unfold dd
    have z:([]:List Int).length=0:=rfl
    omega
   rw [hp.length_eq];omega
  refine qC2 (S.same fun o=>hk' Sa o fun q=>hS (W.sub _ q)) hl hb'.1 hb'.2 fun h2 ns2 hs2 S2 hp2 => ?_
  refine AB ⟨BL F.plain_set_update_loop _,?_⟩
  refine ih (i + 1) _ ns2 (by omega) (by omega) (W.frame _ _ _ hSt' fun b hbf o ho=>by
   rw [hs2.2 b (fun z=>hS (by rw [← z];exact hbf))];exact ho) S2 ?_ fun h3 tk3 ns3 hh S3 hp3 => ?_
  ·rw [qDg (by omega)]
   exact hp2.trans (qBZ hp)
  ·exact h h3 tk3 ns3 (fun b o hbn ho=>hh b o hbn (by
    have:b≠Sa:=fun z=>hbn (by rw [z];exact AK)
    rw [hs2.2 b this]
    exact hk' b o (fun q=>hbn (AG _ q)) ho)) S3 hp3
end
section
variable {prog:Program} {w:World} {A:Around} {E:Value->Shared->Prop} {s:Shared}
theorem qD5 {a:Value} {Q:Value->Shared->Prop} (h:Q (.ref s.heap.objs.size) { s with heap:=s.heap.push { cls := .type "set",data := .set #[] 0 (SetTable.fresh 0 0 (!byT w)) } }) :
  codeAny (model prog w) A (.call (.builtin "set.__new__") ⟨[.type "set",a],[]⟩) (wants Q E) s:=by
 refine CB F.plain_set_new F.entry_set_new (Al (F.newCall_set_1 a) ?_)
 unfold Builtin.«set.__new__» Builtin.Frozenset.newClass
 dsimp only
 refine AA (AA (Al (a:=true) rfl ?_))
 rw [AQ (by decide)]
 refine AA (Al sub_set_self ?_)
 rw [AQ (by decide)]
 refine AB (AA ?_)
 unfold newSet setsByText
 refine AA (AA (Bs (AB ?_)))
 dsimp only
 unfold newObj
 dsimp only
 rw [AQ (by decide)]
 unfold newObjAsIs
 refine AA (wpAny_alloc ?_)
 dsimp only
 exact AB (AB h)
theorem qAf {h:Heap} {led:Bool} (hl:led = !byT w):SetI w (h.push { cls := .type "set",data := .set #[] 0 (SetTable.fresh 0 0 led) }) h.objs.size [] :=
 ⟨_,#[],0,_,AR _ rfl,⟨rfl,rfl,rfl⟩,rfl,(fun e he=>(Aj he).elim),rfl,⟨rfl,rfl,hl,rfl,show ([]:List Nat)∈WL 0 from by decide⟩⟩
theorem qA0 {l:Addr} {items:Array Value} {vs:List Int} {Q:Value->Shared->Prop} (hh:A.handled=none) (hl:s.heap.IsList l items) (hv:IntsAre items.toList vs) (h4:vs.length≤4) (hb:∀ v∈vs,1≤v∧v≤9)
  (h:∀ (h':Heap) (tk:Nat) (ns':List Int),SetI w h' s.heap.objs.size ns'->ns'.Perm (dd vs)->(∀ b o,b < s.heap.objs.size->s.heap.get? b=some o->h'.get? b=some o)->Q (.ref s.heap.objs.size) { s with heap:=h',toks:=tk }) :
  wpAny (model prog w) A (call (.type "set") [.ref l]) Q E s:=by
 refine CQ (codeAny_of_tree (Al (a:=Fin.again (.builtin "type.__call__" ⟨[.type "set",.ref l],[]⟩)) rfl ⟨Code.quiet_builtin _ (by decide +kernel),?_⟩))
 refine Au F.entry_type_call ?_
 rw [Around.under_plain (weight_type_call_type _ _ _) rfl]
 unfold Builtin.«type.__call__»
 dsimp only
 rw [AQ (by rw [F.called_set.notType];decide),AQ (by rw [F.called_set.canCreate];decide)]
 refine AA (Al (F.typeCall_set_1 _) ?_)
 obtain ⟨c,tl,hm⟩:=F.called_set.mro
 refine AA (Al hm ?_)
 rw [AQ (by simp)]
 refine AA (Al F.called_set.made ?_)
 dsimp only
 refine AA (AB (AA (Ai (CQ (qD5 ?_)))))
 have hT:({ s with heap:=s.heap.push { cls := .type "set",data := .set #[] 0 (SetTable.fresh 0 0 (!byT w)) } }:Shared).TypeIs (.ref s.heap.objs.size) "set" := ⟨_,AR _ rfl,rfl⟩
 refine AA (BM hT sub_set_self ?_)
 rw [AQ (by decide)]
 refine AA (Ai ?_)
 unfold callSpecial?
 refine AA (wpAny_specialOf hT F.called_set.init.lookup ?_)
 dsimp only
 refine Ai (AA (Al (F.called_set.init.bind _) ?_))
 dsimp only
 refine AA (CQ (CB F.called_set.init.plain F.entry_set_init (check_set_init_1 hT ?_)))
 unfold Builtin.«set.__init__»
 refine AA (Al (a:=()) rfl ?_)
 show wpAny _ _ (do
  let n ← typeNameOfCut 200 (.ref s.heap.objs.size)
  checkCount n 0 1 1
  let a ← Builtin.Frozenset.addrOf (.ref s.heap.objs.size)
  let u ← setUsed a
  if u=true then do
   Builtin.Frozenset.clearAll a
   Builtin.Frozenset.updateFrom "set.__init__" a (.ref l)
   ret Value.none
  else do
   Builtin.Frozenset.updateFrom "set.__init__" a (.ref l)
   ret Value.none) _ _ _
 unfold typeNameOfCut shownTypeOf
 refine AA (AA (AA (BY hT ?_)))
 rw [AQ (by decide)]
 refine AB (Al (a := "set") (by rfl) ?_)
 refine AA (Al (a:=()) rfl ?_)
 refine AA (Al (a:=s.heap.objs.size) rfl ?_)
 unfold setUsed
 have hg:(s.heap.push { cls := .type "set",data := .set #[] 0 (SetTable.fresh 0 0 (!byT w)) }).get? s.heap.objs.size=some { cls := .type "set",data := .set #[] 0 (SetTable.fresh 0 0 (!byT w)) }:=AR _ rfl
 refine AA (AA (BC hg rfl rfl (AB ?_)))
 rw [AQ (by intro q;exact Bool.noConfusion (show false=true from q))]
 refine AA ?_
 unfold Builtin.Frozenset.updateFrom Builtin.Frozenset.isAnySet
 have hl':(s.heap.push { cls := .type "set",data := .set #[] 0 (SetTable.fresh 0 0 (!byT w)) }).IsList l items:=hl.push _
 refine AA (AA (BM (T := "list") hl'.typeIs F.sub_list_set ?_))
 show wpAny _ _ (isInstance (.ref l) (.type "frozenset")) _ _ _
 refine BM (T := "list") hl'.typeIs F.sub_list_frozenset ?_
 rw [AQ (by decide)]
 refine AA (BY (T := "list") hl'.typeIs ?_)
 rw [AQ (by decide)]
 refine AA (wpAny_pyIter_list hl' (AA (wpAny_runValue ?_)))
 have hlt:l < s.heap.objs.size:=by obtain ⟨o,ho,_⟩:=hl;exact AJ ho
 have hS:=qAf (w:=w) (h:=s.heap) (led := !byT w) rfl
 have hsz:(s.heap.push { cls := .type "set",data := .set #[] 0 (SetTable.fresh 0 0 (!byT w)) }).objs.size=s.heap.objs.size + 1:=BR ..
 have hlen:vs.length=items.size:=by
  rw [← Ab]
  clear hb h4 h hl hl'
  generalize items.toList=its at hv
  induction hv with
  |nil=>rfl
  |cons n t _ ih=>rw [AO,AO,ih]
 refine qC1 (A:=A.in1.in1) (Walks.list (A:=A.in1.in1.in1) hh (s.heap.push { cls := .type "set",data := .set #[] 0 (SetTable.fresh 0 0 (!byT w)) }).objs.size l (by rw [hsz];exact AT (At hlt)) items) (Sa:=s.heap.objs.size) (by
  rw [hsz];intro q
  rcases AH.mp q with q |q
  ·exact absurd q (by show ¬ s.heap.objs.size=s.heap.objs.size + 1;omega)
  ·have:=AW.mp q;exact absurd hlt (by rw [← this];exact Bb _)) hlen (by omega) (fun i v hi=>hv.int_at i v (by rw [← Array.getElem?_toList] at hi;exact hi)) hb _ 0 _ [] rfl (BJ _) ⟨⟨_,AR _ rfl,rfl,rfl⟩,hl'.push _⟩ (hS.same fun o ho=>AC _ ho) (by rw [List.take_zero];exact .refl _) fun h' tk ns' hk S' hp => ?_
 refine AB (AB ?_)
 refine AB ?_
 dsimp only
 rw [AQ (by decide)]
 refine AB ?_
 refine h h' tk ns' S' hp fun b o hb' ho=>hk b o (fun q => ?_) (AC _ (AC _ ho))
 rw [hsz] at q
 rcases AH.mp q with q |q
 ·exact absurd hb' (by rw [q];exact Bb _)
 ·have:=AW.mp q;exact absurd hb' (by rw [this];exact CG (Nat.le_succ _))
end
theorem YH:entryFor table "set.__iter__" = some Builtin.«frozenset.__iter__» := entryFor_alias (id' := "frozenset.__iter__") (by kernel_rfl) (by kernel_rfl) (by kernel_rfl) (by kernel_rfl)
theorem zh:entryFor table "set_iterator.__next__" = some Builtin.«set_iterator.__next__» := entryFor_of_fast (by kernel_rfl)
theorem slot_setit:Slot "set_iterator" (Str.ofString "__next__") "set_iterator.__next__" := @Slot.of "set_iterator" (Str.ofString "__next__") "set_iterator.__next__" "set_iterator" "__next__" (by rw [typeLookup_type,builtinLookup_eq_fast];rfl) (by decide) (by decide) (by decide) (Or.inl (by decide +kernel)) (by rw [isSubtype_type];rfl) (by decide +kernel)
theorem yL (a:Value):argsOk "set_iterator.__next__" { pos:=[a] }:=by
 unfold argsOk
 kernel_rfl
theorem qAN {α:Type}:∀ {l:List α} {i:Nat} (h:i < l.length),(l[i]::l.eraseIdx i).Perm l
 |x::l,0,_ => .refl _
 |x::l,i + 1,h=>(List.Perm.swap x _ _).trans ((qAN (l:=l) (i:=i) (by simpa using h)).cons x)
theorem Jq {α:Type} (next:Nat->Nat):∀ (n k:Nat) (left:List α) (out:Array α),left.length=n->(pickOrder.go next n k left out).toList.Perm (out.toList++left)
 |0,k,left,out,h=>by
  have:left=[]:=List.eq_nil_of_length_eq_zero h
  subst this
  show out.toList.Perm _
  rw [Bl]
 |n + 1,k,left,out,h=>by
  have hl:next k % left.length < left.length:=Nat.mod_lt _ (by omega)
  show (match left[next k % left.length]? with |some x=>pickOrder.go next n (k + 1) (left.eraseIdx (next k % left.length)) (out.push x) |none=>out).toList.Perm _
  rw [AD hl]
  dsimp only
  refine (Jq next n (k + 1) _ _ (by rw [List.length_eraseIdx_of_lt hl];omega)).trans ?_
  rw [Array.toList_push,Ba]
  exact List.Perm.append_left _ (qAN hl)
def wE (w:World) (a:Addr) (ep:Nat) (es:Array (Int×Value)):Array (Int×Value):=if byT w=true then pickOrder (w.params.setOrder a ep) es else es
theorem Yw {w:World} {a:Addr} {ep:Nat} {es:Array (Int×Value)}:(wE w a ep es).toList.Perm es.toList:=by
 unfold wE
 split
 ·exact Jq _ _ _ _ _ (by simp)
 ·exact .refl _
theorem WY {w:World} {a:Addr} {ep:Nat} {es:Array (Int×Value)}:(wE w a ep es).size=es.size:=by
 have:=(Yw (w:=w) (a:=a) (ep:=ep) (es:=es)).length_eq
 rwa [Ab,Ab] at this
def qEN (pl:List Nat):Bool:=Nat.beq (SetTable.below pl.toArray 0) 0&&(List.range pl.length).all fun i=>Nat.beq (SetTable.below pl.toArray (pl.getD i 0 + 1)) (i + 1)
theorem qDI:([0,1,2,3,4].all fun k=>(WL k).all qEN)=true:=by decide +kernel
theorem qBq {w:World} {t:SetTable} {k:Nat} (T:TbOk w t k) (hk:k≤4):SetTable.below t.place 0=0 ∧ ∀ i,i < k->SetTable.below t.place (t.place.getD i 0 + 1)=i + 1:=by
 have hk':k∈[0,1,2,3,4]:=by
  have:k=0∨k=1∨k=2∨k=3∨k=4:=by omega
  simp only [AH,Aj,or_false];exact this
 have e:=Ao.mp (Ao.mp qDI k hk') _ T.ris
 unfold qEN at e
 rw [Ar,Ao,show t.place.toList.toArray=t.place by simp] at e
 refine ⟨Nat.eq_of_beq_eq_true e.1,fun i hi => ?_⟩
 have:=Nat.eq_of_beq_eq_true (e.2 i (Bd.mpr (by rw [zG T.ris];exact hi)))
 rw [show t.place.toList.getD i 0=t.place.getD i 0 by simp [Ag,AF]] at this
 exact this
structure SetL (w:World) (h:Heap) (a:Addr) (es:Array (Int×Value)) (ep:Nat) (t:SetTable):Prop where
 ex:∃ o,h.get? a=some o∧o.ExactSet∧o.data=Data.set es ep t
 T:TbOk w t es.size
 n:es.size≤4
def ItS (w:World) (h:Heap) (it a:Addr) (es:Array (Int×Value)) (ep:Nat) (t:SetTable) (i:Nat):Prop := ∃ (o:Obj) (slot:Nat),h.get? it=some o∧o.cls = .type "set_iterator" ∧ o.data = .fields #[.int slot 0,.int i 0,.ref a,.int es.size 0,.int ep 0]∧(byT w=false->SetTable.below t.place slot=i)
section
variable {prog:Program} {w:World} {A:Around} {E:Value->Shared->Prop} {s:Shared} {a it:Addr} {es:Array (Int×Value)} {ep i:Nat} {t:SetTable}
theorem SetL.fits (L:SetL w s.heap a es ep t):t.fits es.size=true:=by
 unfold SetTable.fits
 rw [Ar]
 have:=zG L.T.ris
 rw [Ab] at this
 refine ⟨by rw [this];exact An _,AV ?_⟩
 unfold SetTable.fill
 rw [L.T.dum,L.T.mask,this]
 have:=L.n
 show es.size + 0≤7
 omega
theorem SetL.typeIs (L:SetL w s.heap a es ep t):s.TypeIs (.ref a) "set" := let ⟨o,h,c,_⟩:=L.ex;⟨o,h,c.1⟩
theorem ItS.typeIs (I:ItS w s.heap it a es ep t i):s.TypeIs (.ref it) "set_iterator" := let ⟨o,_,h,c,_⟩:=I;⟨o,h,c⟩
theorem qBe {Q:Value->Shared->Prop} (L:SetL w s.heap a es ep t)
  (hQ:Q (.ref s.heap.objs.size) { s with heap:=s.heap.push { cls := .type "set_iterator",data := .fields #[.int 0 0,.int 0 0,.ref a,.int es.size 0,.int ep 0] } }):wpAny (model prog w) A (pyIter (.ref a)) Q E s:=by
 obtain ⟨o,ho,hx,hd⟩:=L.ex
 refine wpAny_pyIter_slot L.typeIs F.slot_set_iter (A9 F.slot_set_iter L.typeIs YH ?_ (F.args_set_iter_1 _))
 unfold Builtin.«frozenset.__iter__» Builtin.Frozenset.slot0 Builtin.Frozenset.sizeOf setEntries
 refine AA (Al (a:=a) rfl ?_)
 refine AA (AA (AA (BC ho hd L.fits (AB (AB ?_)))))
 unfold setDrawn setsByText
 refine AA (AA (BC ho hd L.fits ?_))
 dsimp only
 refine AA (AA (Bs (AB (AB ?_))))
 rw [AQ (by
  rw [Ar]
  intro q
  have q2:(!t.plain&&decide (es.size > 1))=true:=q.2
  rw [L.T.pl] at q2
  cases q2)]
 refine AA (AB ?_)
 unfold setEpoch newFields
 refine AA (AA (BC ho hd L.fits (AB ?_)))
 exact AA (BB (AB ⟨_,rfl,"set_iterator",_,⟨_,AR _ rfl,rfl⟩,slot_setit.lookup,by simpa [rawInt] using hQ⟩))
theorem jk {R:Option (Value×Nat)->Shared->Prop} {slot:Nat} (L:SetL w s.heap a es ep t) (hb:byT w=false->SetTable.below t.place slot=i)
  (h1:∀ e nx,(wE w a ep es)[i]? = some e->(byT w=false->SetTable.below t.place nx=i + 1)->R (some (e.2,nx)) s) (h2:(wE w a ep es)[i]? = none->R none s):wpAny (model prog w) A (setNext a ((slot:Int)).toNat ((i:Int)).toNat ((ep:Int)).toNat) R E s:=by
 obtain ⟨o,ho,hxs,hd⟩:=L.ex
 have hf:=L.fits
 unfold setNext
 refine AA (BC ho hd hf ?_)
 unfold setsByText
 dsimp only
 refine AA (AA (Bs (AB ?_)))
 rw [Av,Av,Av]
 by_cases hby:byT w=true
 ·rw [AI (by exact hby),AQ (by simp)]
  unfold setWalk setsByText
  refine AA (AA (BC ho hd hf ?_))
  dsimp only
  refine AA (AA (Bs (AB ?_)))
  rw [AI (by exact hby)]
  refine AA (Bs (AB (AB ?_)))
  have eo:wE w a ep es=pickOrder (w.params.setOrder a ep) es:=by unfold wE;rw [AI hby]
  rw [eo] at h1 h2
  show R (((pickOrder (w.params.setOrder a ep) es)[i]?).map fun e=>(e.2,slot)) s
  cases hx:(pickOrder (w.params.setOrder a ep) es)[i]? with
  |none=>exact h2 hx
  |some e=>exact h1 e slot hx fun q=>by rw [q] at hby;cases hby
 ·have hby':byT w=false:=by cases h:byT w with |true=>exact absurd h hby |false=>rfl
  rw [AQ (by exact hby),AQ (by
   intro q
   have q2:(!t.plain&&decide (es.size > 1))=true:=q
   rw [L.T.pl] at q2
   cases q2)]
  have eo:wE w a ep es=es:=by unfold wE;rw [AQ hby]
  rw [eo] at h1 h2
  have hled:t.led=true:=by rw [L.T.led,hby'];rfl
  refine AA (Al (a:=()) ?_ (AB ?_))
  ·show (if (!t.led && !es.isEmpty)=true then unsupported "set:maker-not-led" else pure ())=pure ()
   rw [hled]
   rfl
  ·rw [hb hby']
   have hps:t.place.size=es.size:=by have:=zG L.T.ris;rwa [Ab] at this
   cases hx:es[i]? with
   |none=>exact h2 hx
   |some e =>
    have hi:i < es.size:=(Bo.mp hx).1
    have hp:t.place[i]? = some (t.place.getD i 0):=by
     rw [Ag,BV (by omega)];rfl
    rw [hp]
    exact h1 e _ hx fun _=>(qBq L.T L.n).2 i hi
theorem qCm {Q:Option Value->Shared->Prop} (L:SetL w s.heap a es ep t) (I:ItS w s.heap it a es ep t i) {e:Int×Value} (hx:(wE w a ep es)[i]? = some e)
  (hQ:∀ h',ItS w h' it a es ep t (i + 1)->Heap.SameBut it s.heap h'->Q (some e.2) { s with heap:=h' }):wpAny (model prog w) A (pyNext (.ref it)) Q E s:=by
 obtain ⟨o,ho,hxs,hd⟩:=L.ex
 obtain ⟨oi,slot,hoi,hci,hdi,hb⟩:=id I
 unfold pyNext
 refine AA (Bv (A8 (name:=Str.ofString "__next__") I.typeIs slot_setit (A9 slot_setit I.typeIs zh ?_ (yL _))))
 unfold Builtin.«set_iterator.__next__»
 refine AA (Al (a:=(.ref it,[])) rfl ?_)
 dsimp only
 refine AA (wpAny_fieldsOf hoi hdi ?_)
 dsimp only
 unfold setEntries
 refine AA (AA (BC ho hd L.fits (AB ?_)))
 rw [AQ (by simp)]
 refine AA (jk L hb (fun e' nx he hn => ?_) fun he => ?_)
 ·rw [hx] at he;cases he
  dsimp only
  refine AA (BP hoi hdi (by simp) ?_)
  have ho1:=Ap (Obj.mapFields fun x=>x.setIfInBounds 0 (rawInt (nx:Int))) hoi (Bk (A3 hdi _))
  refine AA (BP ho1 (A3 hdi _) (by simp) ?_)
  have ho2:=Ap (Obj.mapFields fun x=>x.setIfInBounds 1 (rawInt ((i:Int) + 1))) ho1 (Bk (A3 (A3 hdi _) _))
  refine AB ⟨_,rfl,AB (hQ _ ⟨_,nx,ho2,?_,?_,hn⟩ ⟨?_,fun b hb' => ?_⟩)⟩
  ·rw [Obj.cls_mapFields,Obj.cls_mapFields];exact hci
  ·rw [A3 (A3 hdi _)];simp [rawInt]
  ·rw [Bt,Bt]
  ·exact (AU _ _ (Ne.symm hb')).trans (AU _ _ (Ne.symm hb'))
 ·rw [hx] at he;cases he
theorem qDA {Q:Option Value->Shared->Prop} (hh:A.handled=none) (L:SetL w s.heap a es ep t) (I:ItS w s.heap it a es ep t i) (hx:(wE w a ep es)[i]? = none)
  (hQ:∀ h',(∀ b o,b≠it->s.heap.get? b=some o->h'.get? b=some o)->Q none { s with heap:=h' }):wpAny (model prog w) A (pyNext (.ref it)) Q E s:=by
 obtain ⟨o,ho,hxs,hd⟩:=L.ex
 obtain ⟨oi,slot,hoi,hci,hdi,hb⟩:=id I
 unfold pyNext
 refine AA (Bv (A8 (name:=Str.ofString "__next__") I.typeIs slot_setit (A9 slot_setit I.typeIs zh ?_ (yL _))))
 unfold Builtin.«set_iterator.__next__»
 refine AA (Al (a:=(.ref it,[])) rfl ?_)
 dsimp only
 refine AA (wpAny_fieldsOf hoi hdi ?_)
 dsimp only
 unfold setEntries
 refine AA (AA (BC ho hd L.fits (AB ?_)))
 rw [AQ (by simp)]
 refine AA (jk L hb (fun e' nx he hn=>by rw [hx] at he;cases he) fun he => ?_)
 dsimp only
 refine AA (BP hoi hdi (by simp) ?_)
 refine Wg (A:=A.in1) (fun v hv=>by rw [show A.in1.handled=A.handled from rfl,hh] at hv;cases hv) fun h' e k ht => ?_
 refine AA (BM (T := "StopIteration") (b:=true) ht isSubtype_stop ?_)
 exact AB (hQ _ fun b o' hb' q=>k b o' ((AU _ _ (Ne.symm hb')).trans q))
end
theorem yc:entryFor table "list.extend.loop" = some Builtin.«list.extend.loop» := entryFor_of_fast (by kernel_rfl)
theorem WC:plainId "list.extend.loop" = true:=by decide +kernel
section
variable {prog:Program} {w:World} {A:Around} {E:Value->Shared->Prop} {R:Result->Shared->Prop} {a it:Addr} {es:Array (Int×Value)} {ep:Nat} {t:SetTable}
theorem SetL.same {h h':Heap} (L:SetL w h a es ep t) (e:∀ o,h.get? a=some o->h'.get? a=some o):SetL w h' a es ep t:=by
 obtain ⟨⟨o,h1,h2⟩,T,n⟩:=L
 exact ⟨⟨o,e o h1,h2⟩,T,n⟩
theorem ItS.same {h h':Heap} {i:Nat} (L:ItS w h it a es ep t i) (e:∀ o,h.get? it=some o->h'.get? it=some o):ItS w h' it a es ep t i:=by
 obtain ⟨o,sl,h1,h2⟩:=L
 exact ⟨o,sl,e o h1,h2⟩
theorem qE5 {D:Addr} (hh:A.handled=none) (hDa:a≠D) (hDi:it≠D) (hai:a≠it):∀ (k i:Nat) (s:Shared) (n:Nat),es.size - i=k->i≤es.size->SetL w s.heap a es ep t->ItS w s.heap it a es ep t i->s.heap.get? D=some (seqObj "list" (((wE w a ep es).toList.take i).map (·.2)).toArray n) ->
  (∀ (h':Heap) (n':Nat),(∀ b o,b≠D->b≠it->s.heap.get? b=some o->h'.get? b=some o)->h'.get? D=some (seqObj "list" ((wE w a ep es).toList.map (·.2)).toArray n')->R (.ok (.ret (.ref D))) { s with heap:=h' }) ->
  codeAny (model prog w) A (.builtin "list.extend.loop" ⟨[.ref D,.ref it,.ref D],[]⟩) R s:=by
 intro k
 induction k with
 |zero =>
  intro i s n hk hi L I hD h
  have hi':i=es.size:=by omega
  refine Au yc ?_
  rw [Aw WC]
  unfold Builtin.«list.extend.loop»
  refine AA (qDA hh L I (by rw [Array.getElem?_eq_none];rw [WY];omega) fun h' hk' => ?_)
  dsimp only
  refine AB (h h' n (fun b o h1 h2=>hk' b o h2) ?_)
  rw [hk' D _ (Ne.symm hDi) hD,List.take_of_length_le (by rw [Ab,WY];omega)]
 |succ k ih =>
  intro i s n hk hi L I hD h
  have hi':i < (wE w a ep es).size:=by rw [WY];omega
  refine Au yc ?_
  rw [Aw WC]
  unfold Builtin.«list.extend.loop»
  refine AA (qCm L I (BV hi') fun h' I' sb => ?_)
  dsimp only
  unfold Builtin.List.listUpdate
  dsimp only
  have hD':h'.get? D=some (seqObj "list" (((wE w a ep es).toList.take i).map (·.2)).toArray n):=(sb.2 D (Ne.symm hDi)).trans hD
  have hlen:(((wE w a ep es).toList.take i).map (·.2)).length≤4:=by
   rw [AE,List.length_take,Ab,WY]
   have:=L.n
   omega
  have hsz:(((wE w a ep es).toList.take i).map (·.2)).toArray.size≤4:=by rw [AM];exact hlen
  refine AA (B0 hD' rfl ?_ (AS hsz (by decide)) (by rw [Array.size_push];exact AS (Nat.succ_le_succ hsz) (by decide)))
  have e1:((((wE w a ep es).toList.take i).map (·.2)).toArray.push (wE w a ep es)[i].2)=((((wE w a ep es).toList.take (i + 1)).map (·.2)).toArray):=by
   have hl:i < (wE w a ep es).toList.length:=by rw [Ab];exact hi'
   rw [BN hl,BF,List.push_toArray]
   rfl
  have hu:∃ n2,(h'.update D (Obj.mapSeq fun x=>x.push (wE w a ep es)[i].2)).get? D=some (seqObj "list" (((wE w a ep es).toList.take (i + 1)).map (·.2)).toArray n2):=by
   rw [Ap _ hD' rfl,← e1]
   exact ⟨_,rfl⟩
  obtain ⟨n2,hu⟩:=hu
  refine AB ⟨BL WC _,?_⟩
  refine ih (i + 1) _ n2 (by omega) (by rw [WY] at hi';omega) (L.same fun o ho => ?_) (I'.same fun o ho => ?_) hu fun h2 n3 hb2 hD2=>h h2 n3 (fun b o h3 h4 ho=>hb2 b o h3 h4 ?_) hD2
  ·exact (AU _ _ (Ne.symm hDa)).trans ((sb.2 a hai).trans ho)
  ·exact (AU _ _ (Ne.symm hDi)).trans ho
  ·exact (AU _ _ (Ne.symm h3)).trans ((sb.2 b h4).trans ho)
theorem qBG {s:Shared} {Q:Bool->Shared->Prop} (hT:s.TypeIs (.ref a) "set") (h:Q false s):wpAny (model prog w) A (Builtin.List.listLengthHint (.ref a)) Q E s:=by
 unfold Builtin.List.listLengthHint
 refine AA (wpAny_specialOf hT F.slot_set_len.lookup ?_)
 dsimp only
 rw [show splitId "set.__len__" = some ("set","__len__") by decide]
 dsimp only
 refine AA (BM hT sub_set_self ?_)
 rw [AQ (by decide),AI (by decide +kernel)]
 exact AA (BY hT (AB h))
theorem jL {s:Shared} {Q:List Value->Shared->Prop} (hh:A.handled=none) (L:SetL w s.heap a es ep t)
  (hQ:∀ h',(∀ b o,s.heap.get? b=some o->h'.get? b=some o)->s.heap.objs.size≤h'.objs.size->Q ((wE w a ep es).toList.map (·.2)) { s with heap:=h' }):wpAny (model prog w) A (collect (.ref a)) Q E s:=by
 have hlt:a < s.heap.objs.size:=by obtain ⟨o,ho,_⟩:=L.ex;exact AJ ho
 unfold collect
 refine AA (wpAny_runValue (Au F.entry_proto_collect ?_))
 rw [Aw F.plain_proto_collect]
 unfold Builtin.«proto.collect»
 dsimp only
 refine AA (Bp ?_)
 refine AB ⟨BL F.plain_list_iadd _,Au F.entry_list_iadd ?_⟩
 rw [Aw F.plain_list_iadd]
 unfold Builtin.«list.__iadd__»
 refine AA (Al (a:=(.ref s.heap.objs.size,[.ref a])) rfl ?_)
 dsimp only
 unfold Builtin.List.listExtendWith
 have L1:SetL w (s.heap.push { cls := .type "list",data := .seq ([]:List Value).toArray }) a es ep t:=L.same fun o ho=>AC _ ho
 refine AA (BY (T := "set") L1.typeIs ?_)
 have hne:(s.heap.objs.size==a)=false:=Bc.mpr (Nat.ne_of_gt hlt)
 rw [AQ (by
  show ¬ ((s.heap.objs.size==a || _ || _)=true)
  rw [hne]
  decide)]
 refine AA (qBe L1 ?_)
 have L2:SetL w ((s.heap.push { cls := .type "list",data := .seq ([]:List Value).toArray }).push { cls := .type "set_iterator",data := .fields #[.int 0 0,.int 0 0,.ref a,.int es.size 0,.int ep 0] }) a es ep t:=L1.same fun o ho=>AC _ ho
 refine AA (Ai (qBG L2.typeIs ?_))
 dsimp only
 rw [AI (by decide +kernel)]
 have hz:(s.heap.push { cls := .type "list",data := .seq ([]:List Value).toArray }).objs.size=s.heap.objs.size + 1:=BR ..
 have hD0:((s.heap.push { cls := .type "list",data := .seq ([]:List Value).toArray }).push { cls := .type "set_iterator",data := .fields #[.int 0 0,.int 0 0,.ref a,.int es.size 0,.int ep 0] }).get? s.heap.objs.size=some (seqObj "list" #[] 0):=AC _ (AR _ rfl)
 refine AA (Bq (AA ?_))
 unfold Builtin.List.listTouch Builtin.List.listUpdate
 dsimp only
 refine AA (B0 hD0 rfl ?_ (by decide) (by decide))
 have hD1:=Ap (Obj.mapSeq fun x=>x.push Value.none) hD0 rfl
 refine B0 hD1 rfl ?_ (by decide) (by decide)
 have hD2:∃ n,((((s.heap.push { cls := .type "list",data := .seq ([]:List Value).toArray }).push { cls := .type "set_iterator",data := .fields #[.int 0 0,.int 0 0,.ref a,.int es.size 0,.int ep 0] }).update s.heap.objs.size (Obj.mapSeq fun x=>x.push Value.none)).update s.heap.objs.size (Obj.mapSeq fun x=>x.pop)).get? s.heap.objs.size=some (seqObj "list" #[] n):=by
  rw [Ap _ hD1 rfl];exact ⟨_,rfl⟩
 obtain ⟨n2,hD2⟩:=hD2
 have hkeep:∀ b o,b≠s.heap.objs.size->((s.heap.push { cls := .type "list",data := .seq ([]:List Value).toArray }).push { cls := .type "set_iterator",data := .fields #[.int 0 0,.int 0 0,.ref a,.int es.size 0,.int ep 0] }).get? b=some o->((((s.heap.push { cls := .type "list",data := .seq ([]:List Value).toArray }).push { cls := .type "set_iterator",data := .fields #[.int 0 0,.int 0 0,.ref a,.int es.size 0,.int ep 0] }).update s.heap.objs.size (Obj.mapSeq fun x=>x.push Value.none)).update s.heap.objs.size (Obj.mapSeq fun x=>x.pop)).get? b=some o:=fun b o hb ho=>(AU _ _ (Ne.symm hb)).trans ((AU _ _ (Ne.symm hb)).trans ho)
 have hi1:(s.heap.push { cls := .type "list",data := .seq ([]:List Value).toArray }).objs.size≠s.heap.objs.size:=by rw [hz];exact Nat.ne_of_gt (CC _)
 refine AB ⟨BL WC _,?_⟩
 refine qE5 (w:=w) (t:=t) (ep:=ep) (es:=es) (a:=a) hh (AT hlt) hi1 (by rw [hz];exact AT (At hlt)) _ 0 _ n2 rfl (BJ _) (L2.same fun o ho=>hkeep a o (AT hlt) ho) ⟨_,0,hkeep _ _ hi1 (AR _ rfl),rfl,rfl,fun _=>(qBq L.T L.n).1⟩ hD2 fun h' n' hk hD => ?_
 dsimp only
 refine AA (wpAny_load' hD ?_)
 refine AB ?_
 have:=hQ h' (fun b o ho=>hk b o (AT (AJ ho)) (by rw [hz];exact AT (At (AJ ho))) (hkeep b o (AT (AJ ho)) (AC _ (AC _ ho)))) (CN (AJ hD))
 simpa using this
end
section
variable {prog:Program} {w:World} {A:Around} {E:Value->Shared->Prop} {s:Shared}
theorem Jm:∀ {l:List (Int×Value)},(∀ e∈l,(∃ tk,e.2=Value.int e.1 tk)∧1≤e.1∧e.1≤9)->IntsAre (l.map (·.2)) (l.map (·.1))
 |[],_ => .nil
 |e::l,h=>by
  obtain ⟨⟨tk,h1⟩,_⟩:=h e AK
  rw [AN,AN,h1]
  exact .cons _ tk (Jm fun x hx=>h x (AG _ hx))
theorem Y5 {a:Addr} {ns:List Int} {Q:Value->Shared->Prop} (hh:A.handled=none) (S:SetI w s.heap a ns) (hn:ns.length≤4)
  (h:∀ (h':Heap) (D:Addr) (out:Array Value) (e:Nat) (ns':List Int),s.heap.objs.size≤D->h'.get? D=some (seqObj "list" out e)->IntsAre out.toList ns'->ns'.Perm ns->ns'.Pairwise (· ≤ ·)->(∀ b o,s.heap.get? b=some o->h'.get? b=some o)->Q (.ref D) { s with heap:=h' }) :
  wpAny (model prog w) A (call (.builtin "sorted") [.ref a]) Q E s:=by
 obtain ⟨o,es,ep,t,ho,hx,hd,hes,hm,T⟩:=S
 have hsz:es.size=ns.length:=by rw [← hm,AE,Ab]
 have L:SetL w s.heap a es ep t:=⟨⟨o,ho,hx,hd⟩,by rw [hsz];exact T,by rw [hsz];exact hn⟩
 refine Calls.call_function_entry kind_sorted plain_sorted entry_sorted (args_sorted1 _) ?_
 unfold Builtin.sorted
 refine AA (Al (a:=()) rfl ?_)
 refine AA (jL (A:=A.in1) hh L fun h1 hk1 hs1 => ?_)
 have hperm:=Yw (w:=w) (a:=a) (ep:=ep) (es:=es)
 have hlen:((wE w a ep es).toList.map (·.2)).length≤4:=by rw [AE,Ab,WY,hsz];exact hn
 have hints:=Jm (l:=(wE w a ep es).toList) fun e he=>hes e (hperm.mem_iff.mp he)
 refine AA (Bp ?_ (AS hlen (by decide)))
 have hD:(h1.push { cls := .type "list",data := .seq ((wE w a ep es).toList.map (·.2)).toArray }).get? h1.objs.size=some (seqObj "list" ((wE w a ep es).toList.map (·.2)).toArray 0):=AR _ rfl
 refine AA (Ai (A9 slot_list_sort ⟨_,hD,rfl⟩ entry_list_sort ?_ (args_list_sort _)))
 refine list_sort_tree hD hints (BS hlen (by decide)) fun out ns' hi hp hpw=>⟨_,rfl,?_⟩
 refine AB ⟨_,rfl,?_⟩
 obtain ⟨e,he⟩:=sortedHeap_at (vs:=(wE w a ep es).toList.map (·.2)) (out:=out) hD
 refine h _ _ out e ns' hs1 he hi (hp.trans ?_) hpw fun b o' hb => ?_
 ·rw [← hm];exact hperm.map _
 ·have hb1:=hk1 b o' hb
  have hlt:=AJ hb1
  rw [sortedHeap_old (AT hlt) (by rw [BR];exact At hlt)]
  exact AC _ hb1
end
theorem yh:∀ {l m:List Int},l.Pairwise (· ≤ ·)->m.Pairwise (· ≤ ·)->l.Perm m->l=m
 |[],m,_,_,p=>(List.Perm.eq_nil p.symm).symm
 |x::l,[],_,_,p=>by have:=p.length_eq;simp at this
 |x::l,y::m,hl,hm,p=>by
  have hx:x∈y::m:=p.mem_iff.mp AK
  have hy:y∈x::l:=p.mem_iff.mpr AK
  have e:x=y:=by
   have h1:x≤y:=by
    rcases AH.mp hy with q |q
    ·omega
    ·exact (A5.mp hl).1 y q
   have h2:y≤x:=by
    rcases AH.mp hx with q |q
    ·omega
    ·exact (A5.mp hm).1 x q
   omega
  subst e
  rw [yh (A5.mp hl).2 (A5.mp hm).2 (List.Perm.cons_inv p)]
def sdd (vs:List Int):List Int:=(dd vs).mergeSort fun a b=>decide (a≤b)
theorem W5 (vs:List Int):(sdd vs).Perm (dd vs):=List.mergeSort_perm _ _
theorem qBT (vs:List Int):(sdd vs).Pairwise (· ≤ ·):=by
 have:=List.pairwise_mergeSort (le:=fun a b:Int=>decide (a≤b)) (fun a b c h1 h2=>by simp at *;omega) (fun a b=>by simp;omega) (dd vs)
 exact this.imp fun h=>by simpa using h
section
variable {X:Cx} {e:Expr} {te:TE} {p p2 pos pos2:Pos}
def qGF (K:W.Frag) (te:TE):TE:=fun σ H Q=>te σ H fun x H1 => ∃ a vs,x = .ref a∧SqL K H1 a (vs.map V.int)∧vs.length≤4∧(∀ v∈vs,1≤v∧v≤9) ∧ ∀ p,H1 p=none->Q (.ref p) (upd H1 p (.lst ((sdd vs).map V.int)))
theorem qDV {us:List Value} {ns:List Int} (h:IntsAre us ns):Vals (ns.map V.int) us:=by
 induction h with
 |nil=>exact .nil
 |cons n t _ ih=>exact .cons ⟨t,rfl⟩ ih
theorem qDz (hc:X.calm=true) (hg:Gl X "sorted") (hm:X.mg "sorted" = none) (hg2:Gl X "set") (hm2:X.mg "set" = none) (he:PE X e te)
  (h1:starEach [.Call (.Name "set" p2) [e] [] pos2] X.env=(false,eval (.Call (.Name "set" p2) [e] [] pos2) X.env)::starEach [] X.env:=by rfl) (h2:starEach [e] X.env=(false,eval e X.env)::starEach [] X.env:=by rfl) :
  PE X (.Call (.Name "sorted" p) [.Call (.Name "set" p2) [e] [] pos2] [] pos) (qGF X.K te):=by
 intro pins s σ H Q I h
 refine BQ (Wm I hg hm PyProof.Rows.boot_sorted ?_ (by decide) (by decide))
 refine PyProof.Rows.callWith_builtin1 ?_ h1 rfl
 rw [h1]
 show wpAny _ _ (spliced ((false,eval (.Call (.Name "set" p2) [e] [] pos2) X.env)::[])) _ _ s
 refine By ?_
 refine BQ (Wm I hg2 hm2 PyProof.Rows.Boot.«set» ?_ (by decide) (by decide))
 refine Bi ?_ h2 rfl
 rw [h2]
 show wpAny _ _ (spliced ((false,eval e X.env)::[])) _ _ s
 refine By (thn (he pins s σ H _ I h) fun u s1 ⟨x,H1,I1,r1,q1⟩=>B3 ?_)
 obtain ⟨a,vs,rfl,hq,h4,hb,q⟩:=q1
 cases r1
 obtain ⟨its,rv,ht,hz⟩:=I1.list hq
 have hh:X.A.handled=none:=I.ok.hd hc
 refine qA0 hh ht.isList (JK rv) h4 hb fun h' tk ns' S hp hk=>B3 ?_
 refine Y5 (s:={ s1 with heap:=h',toks:=tk }) hh S (by rw [hp.length_eq];have:=Zx vs [];unfold dd;have z:([]:List Int).length=0:=rfl;omega) fun h3 D out e' ns3 hD hg3 hi hp3 hpw hk3 => ?_
 have es:ns3=sdd vs:=yh hpw (qBT vs) ((hp3.trans hp).trans (W5 vs).symm)
 subst es
 have hSz:s1.heap.objs.size≤h'.objs.size:=by obtain ⟨o,_,_,_,ho,_⟩:=S;exact CN (AJ ho)
 have hDz:s1.heap.objs.size≤D:=AS hSz hD
 have hlen:(sdd vs).length≤4:=by
  rw [(W5 vs).length_eq]
  have:=Zx vs []
  have z:([]:List Int).length=0:=rfl
  unfold dd
  omega
 refine ⟨.ref D,_,I1.laid (t':=tk) (h':=h3) (o := .lst ((sdd vs).map V.int)) (fun b ob hb=>hk3 b ob (hk b ob (AJ hb) hb)) hDz ⟨by rw [AE];exact AS hlen (by decide),out.toList,e',qDV hi,by simpa using hg3⟩,rfl,q _ (I1.hok.fresh hDz)⟩
end
end EX
namespace EV
open PySem PySem.Spec PyProof.Rows L2 EX
section
variable {X:Cx} {E:XK} {e:Expr} {f:FE} {p p2 pos pos2:Pos}
def qAP:PV->qB->Rs PV:=fun q st=>match asL st q with
 |some l=>match QH yT l with
  |some ns=>if ns.length≤4∧(∀ v∈ns,1≤v∧v≤9) then .ok (.lst ((sdd ns).map PV.int)) st else .no
  |none => .no
 |none => .no
def qBN (f:FE):FE:=fun r st=>(f r st).bind qAP
theorem WX {K:W.Frag} {H:Hp} {b:Bz}:∀ (ns:List Int),RVs K H b (ns.map PV.int) (ns.map V.int)
 |[]=>RVs.nil
 |n::ns=>RVs.cons Qk (WX ns)
theorem qC4 (hc:X.calm=true) (hm:X.mg "sorted" = none) (hm2:X.mg "set" = none) (h:VE X E e f) (hg:Gl X "sorted" := by rfl) (hg2:Gl X "set" := by rfl)
  (h1:starEach [.Call (.Name "set" p2) [e] [] pos2] X.env=(false,eval (.Call (.Name "set" p2) [e] [] pos2) X.env)::starEach [] X.env:=by rfl) (h2:starEach [e] X.env=(false,eval e X.env)::starEach [] X.env:=by rfl) :
  VE X E (.Call (.Name "sorted" p) [.Call (.Name "set" p2) [e] [] pos2] [] pos) (qBN f) :=
 PE.imp (qDz hc hg hm hg2 hm2 h h1 h2) fun s H Q ⟨b,r,st,S,R,P⟩=>⟨b,r,st,S,R,PostE.bind P fun q s1 u H1 b1 e1 S1 r1 P1=>by
  unfold qAP at P1
  split at P1
  ·rename_i l el
   split at P1
   ·rename_i ns en
    split at P1
    ·rename_i hn
     obtain ⟨x,xs,rfl,h2,h3⟩:=Q7 S1 r1 el
     rw [zI h3 en] at h2
     exact ⟨x,ns,rfl,h2,hn.1,hn.2,fun p hp=>PostN.lay (PostN.of (r := .ok ((sdd ns).map PV.int) s1) P1) S1 (WX _) hp⟩
    ·exact P1.elim
   ·exact P1.elim
  ·exact P1.elim⟩
end
end EV
end
section
namespace EX
open PySem PySem.Spec PyProof.Rows L2
inductive LexG (A:Around) (s:Shared) (r:Bool):List Value->List Value->Prop where
 |nn:r=false->LexG A s r [] []
 |nc {w ws}:r=true->LexG A s r [] (w::ws)
 |cn {v vs}:r=false->LexG A s r (v::vs) []
 |eq {v vs w ws}:SeqAt.EqAt A s v w true->LexG A s r vs ws->LexG A s r (v::vs) (w::ws)
 |ne {v vs w ws}:SeqAt.EqAt A s v w false->(∀ (prog:Program) (wd:World) (E:Value->Shared->Prop) (Q:Value->Shared->Prop),Q (.bool r) s->wpAny (model prog wd) A (richCompare .Lt v w) Q E s)->LexG A s r (v::vs) (w::ws)
section
open PySem.SeqAt
open PySem.AutoSeq1 (wpAny_loadPart')
open PySem.MeetsSeq PySem.MeetsSeq2 PySem.MeetsSeq3
theorem Yl (l b:Addr) (items items2:Array Value) (n n2:Nat) (dd dd2:Option Addr) (sl sl2:Array (Option Value)) (r:Bool) :
  Meets (Builtin.«tuple.__lt__» ⟨[.ref l,.ref b],[]⟩)
   (fun A R s=>s.heap.get? l=some { cls := .type "tuple",dict:=dd,data := .seq items n,slots:=sl }∧s.heap.get? b=some { cls := .type "tuple",dict:=dd2,data := .seq items2 n2,slots:=sl2 }∧LexG A.in1 s r items.toList items2.toList ∧
    R (.ok (.ret (.bool r))) s) :=
 .of_wp fun prog w A R s h=>by
  obtain ⟨hp,g,d,tk,os⟩:=s;obtain ⟨hl,hb,hG,h⟩:=h
  have f2:=AutoSeq1.sub_tuple_tuple
  wp_walk using wpAny_loadPart' hl,wpAny_loadPart' hb,wpAny_forIn_list _ (fun rest b s'=>b.1=none∧s'=⟨hp,g,d,tk,os⟩ ∧ ∃ (vs ws:List Value),rest=vs.zip ws∧LexG A.in1 ⟨hp,g,d,tk,os⟩ r vs ws ∧
   vs.length + items2.size=ws.length + items.size) _
  case turn =>
   rintro ⟨y,x⟩ rest b s' ⟨hb',rfl,vs,ws,hz,hG',hlen⟩
   cases hG' with
   |nn _=>cases hz
   |nc _=>cases hz
   |cn _=>rw [List.zip_nil_right] at hz;cases hz
   |eq he hG2 =>
    rw [BU] at hz
    injection hz with hyx hrest
    injection hyx with hy hx
    subst hy hx
    simp only [AO] at hlen
    refine AA (he prog w _ _ ?_)
    wp_walk
    exact ⟨rfl,rfl,_,_,hrest,hG2,by omega⟩
   |ne he hc =>
    rw [BU] at hz
    injection hz with hyx hrest
    injection hyx with hy hx
    subst hy hx
    refine AA (he prog w _ _ ?_)
    have hri:=hc prog w
    wp_walk using hri
    exact ⟨_,rfl,by simpa using h⟩
  case fin =>
   rintro ⟨b1,b2⟩ s' ⟨hb',rfl,vs,ws,hz,hG',hlen⟩
   simp only at hb'
   subst hb'
   have hv:r=decide (items.size < items2.size):=by
    cases hG' with
    |nn hr =>
     simp only [CL] at hlen
     rw [hr];exact (AY (by omega)).symm
    |nc hr =>
     simp only [CL,AO] at hlen
     rw [hr];exact (AV (by omega)).symm
    |cn hr =>
     simp only [CL,AO] at hlen
     rw [hr];exact (AY (by omega)).symm
    |eq he hG2=>rw [BU] at hz;cases hz
    |ne he hc=>rw [BU] at hz;cases hz
   rw [hv] at h
   wp_walk
   exact ⟨_,rfl,by simpa [Builtin.Tuple.tupleCompareSizes] using h⟩
  case h =>
   exact ⟨rfl,rfl,items.toList,items2.toList,rfl,hG,by simp;omega⟩
end
end EX
namespace EV
open PySem PySem.Spec PyProof.Rows L2 EX
mutual
def plt:PV->PV->Option Bool
 | .int i,.int j=>some (decide (i < j))
 | .tup l,.tup m=>plts l m
 |_,_=>none
def plts:List PV->List PV->Option Bool
 |[],[]=>some false
 |[],_::_=>some true
 |_::_,[]=>some false
 |p::ps,q::qs=>if peq p q=true then plts ps qs else plt p q
end
section
variable {X:Cx} {pins:List (Addr×Obj)} {σ:L2.St} {H:Hp} {s:Shared}
def qF7 (X:Cx) (H:Hp) (s:Shared) (A:Around) (p q:PV):Prop := ∀ {v u:V} {uv uu:Value} {r:Bool},RW X.K H p v->RW X.K H q u->RelV v uv->RelV u uu->plt p q=some r ->
  ∀ (prog:Program) (wd:World) (E:Value->Shared->Prop) (Q:Value->Shared->Prop),Q (.bool r) s->wpAny (model prog wd) A (richCompare .Lt uv uu) Q E s
theorem qFs (I:L2.Inv X pins σ H s) {n:Nat} {A:Around} {r:Bool} (hu:A.units + n < cLine) (ih:∀ p q,dep p≤n->qF7 X H s A p q):∀ {l m:List PV} {xs ys:List V} {its its2:List Value},deps l≤n->RWs X.K H l xs->RWs X.K H m ys->Vals xs its->Vals ys its2->plts l m=some r->LexG A s r its its2:=by
 intro l
 induction l with
 |nil =>
  intro m xs ys its its2 _ h1 h2 r1 r2 e
  unfold RWs at h1;subst h1;cases r1
  cases m with
  |nil=>unfold RWs at h2;subst h2;cases r2;unfold plts at e;cases e;exact .nn rfl
  |cons q qs=>unfold RWs at h2;obtain ⟨y,yr,rfl,_,_⟩:=h2;cases r2;unfold plts at e;cases e;exact .nc rfl
 |cons p ps ihl =>
  intro m xs ys its its2 hd h1 h2 r1 r2 e
  unfold RWs at h1
  obtain ⟨x,xr,rfl,hx,hxs⟩:=h1
  unfold deps at hd
  cases r1 with
  |cons rx rxs =>
   cases m with
   |nil=>unfold RWs at h2;subst h2;cases r2;unfold plts at e;cases e;exact .cn rfl
   |cons q qs =>
    unfold RWs at h2
    obtain ⟨y,yr,rfl,hy,hys⟩:=h2
    cases r2 with
    |cons ry rys =>
     have he:=qBY I n p q x y _ _ A (by omega) hu hx hy rx ry
     unfold plts at e
     cases hq:peq p q with
     |true =>
      rw [hq] at e he
      exact .eq he (ihl (by omega) hxs hys rxs rys e)
     |false =>
      rw [hq] at e he
      exact .ne he (ih p q (by omega) hx hy rx ry e)
theorem qGo (I:L2.Inv X pins σ H s):∀ (n:Nat) (p q:PV) (A:Around),dep p≤n->A.units + n < cLine->qF7 X H s A p q:=by
 intro n
 induction n with
 |zero =>
  intro p q A hd hu v u uv uu r hp hq rv ru e prog wd E Q h
  cases p with
  |int i =>
   cases q with
   |int j =>
    unfold RW at hp hq
    subst hp;subst hq
    obtain ⟨t,rfl⟩:=rv
    obtain ⟨t',rfl⟩:=ru
    unfold plt at e
    cases e
    exact HT.rcLt_int A s i t j t' prog wd E Q h
   |_=>simp [plt] at e
  |tup l=>unfold dep at hd;omega
  |_=>cases q <;> simp [plt] at e
 |succ n ih =>
  intro p q A hd hu v u uv uu r hp hq rv ru e prog wd E Q h
  cases p with
  |int i =>
   cases q with
   |int j =>
    unfold RW at hp hq
    subst hp;subst hq
    obtain ⟨t,rfl⟩:=rv
    obtain ⟨t',rfl⟩:=ru
    unfold plt at e
    cases e
    exact HT.rcLt_int A s i t j t' prog wd E Q h
   |_=>simp [plt] at e
  |tup l =>
   cases q with
   |tup m =>
    unfold RW at hp hq
    obtain ⟨a,xs,rfl,h2,h3⟩:=hp
    obtain ⟨a',ys,rfl,k2,k3⟩:=hq
    cases rv;cases ru
    obtain ⟨its,r1,t1,_⟩:=I.tuple h2
    obtain ⟨its2,r2,t2,_⟩:=I.tuple k2
    unfold plt at e
    unfold dep at hd
    obtain ⟨⟨cls,dd,data,sl⟩,ho,hc,n1,hda⟩:=id t1
    obtain ⟨⟨cls2,dd2,data2,sl2⟩,ho2,hc2,n2,hda2⟩:=id t2
    simp only at hc hda hc2 hda2
    subst hc hda hc2 hda2
    have hu1:A.in1.units + n < cLine:=by show A.units + 1 + n < cLine;omega
    have G:=qFs I (n:=n) (A:=A.in1) hu1 (fun p q hd=>ih p q A.in1 hd hu1) (by omega) h3 k3 r1 r2 e
    exact richCompare_meets_room (op := .Lt) ⟨_,ho,rfl⟩ ⟨_,ho2,rfl⟩ PySem.F.slot_tuple_lt PySem.F.entry_tuple_lt (PySem.F.args_tuple_lt_2 _ _) (Yl _ _ its.toArray its2.toArray n1 n2 dd dd2 sl sl2 r)
     ⟨ho,ho2,by simpa using G,show Value.bool r≠Value.notImplemented∧Q (.bool r) s from ⟨(fun x=>nomatch x),h⟩⟩ (by omega)
   |_=>simp [plt] at e
  |_=>cases q <;> simp [plt] at e
end
end EV
end
section
namespace EX
open PySem PySem.Spec PyProof.Rows L2
def bst (bt:Nat->Nat->Bool):Nat->Nat
 |0=>0
 |n + 1=>if bt (n + 1) (bst bt n)=true then n + 1 else bst bt n
theorem JV (bt:Nat->Nat->Bool):∀ n,bst bt n≤n
 |0=>AL _
 |n + 1=>by
  unfold bst
  split
  ·exact AL _
  ·exact Nat.le_succ_of_le (JV bt n)
section
variable {prog:Program} {w:World} {A:Around} {R:Result->Shared->Prop} {s0:Shared} {bt:Nat->Nat->Bool} {its:List Value} {l B It:Addr} {kw:List (Str×Value)}
theorem qDo (hh:A.handled=none) (hB:s0.heap.objs.size≤B) (hI:s0.heap.objs.size≤It) (hBI:B≠It) (hl:s0.heap.IsList l its.toArray)
  (hc:∀ (i j:Nat) (vi vj:Value),its[i]? = some vi->its[j]? = some vj -> ∀ (h':Heap) (tk:Nat),(∀ b o,s0.heap.get? b=some o->h'.get? b=some o) -> ∀ (E Q:Value->Shared->Prop),Q (.bool (bt i j)) { s0 with heap:=h',toks:=tk }->wpAny (model prog w) A.in1 (richCompare .Lt vi vj) Q E { s0 with heap:=h',toks:=tk })
  (hR:∀ (v:Value) (h':Heap) (tk:Nat),its[bst bt (its.length - 1)]? = some v->(∀ b o,s0.heap.get? b=some o->h'.get? b=some o)->R (.ok (.ret v)) { s0 with heap:=h',toks:=tk }) :
  ∀ (k i:Nat) (h:Heap) (tk:Nat) (vb:Value) (c:Nat),its.length - (i + 1)=k->i + 1≤its.length->(∀ b o,s0.heap.get? b=some o->h.get? b=some o)->h.IsListIter It l (i + 1)->h.get? B=some (seqObj "list" #[vb,vb] c)->its[bst bt i]? = some vb ->
   codeAny (model prog w) A (.builtin "min.loop" ⟨[.ref It,.none,.ref B],kw⟩) R { s0 with heap:=h,toks:=tk }:=by
 have hlt:l < s0.heap.objs.size:=by obtain ⟨o,ho,_⟩:=hl;exact AJ ho
 have hlI:l≠It:=fun z=>by rw [z] at hlt;exact absurd hlt (CG hI)
 have hlB:l≠B:=fun z=>by rw [z] at hlt;exact absurd hlt (CG hB)
 have old:∀ {b:Addr} {o:Obj},s0.heap.get? b=some o->b≠It∧b≠B:=fun {b o} ho=>⟨fun z=>by have:=AJ ho;rw [z] at this;exact absurd this (CG hI),fun z=>by have:=AJ ho;rw [z] at this;exact absurd this (CG hB)⟩
 have W:=Walks.list (prog:=prog) (w:=w) (A:=A.in1) hh It l hlI its.toArray
 intro k
 induction k with
 |zero =>
  intro i h tk vb c hk hi hkeep hit hb hv
  have hi':i + 1=its.length:=by omega
  have hL:h.IsList l its.toArray:=hl.at fun o ho=>hkeep l o ho
  refine Au F.entry_min_loop ?_
  rw [Aw Be]
  refine AA (B8 hb rfl (AA (CS (W.done { s0 with heap:=h,toks:=tk } _ _ (by rw [AM,← hi'];exact ⟨hit,hL⟩) fun h' tk' hk' => ?_))))
  have hb':=hk' B _ (by simp;exact hBI) hb
  show wpAny _ _ (updateSeq B (fun x => #[]) >>= fun _=>letGo [vb] [vb] >>= fun _=>ret vb) _ _ _
  refine AA (B0 hb' rfl (AA (wpAny_letGo (AB ?_))) (show 2≤sizeLine by decide) (show 0≤sizeLine + 1 by decide))
  refine hR vb _ tk' (by rw [← hi',B1];exact hv) fun b o ho => ?_
  obtain ⟨h1,h2⟩:=old ho
  exact (AU _ _ (Ne.symm h2)).trans (hk' b o (by simp;exact h1) (hkeep b o ho))
 |succ k ih =>
  intro i h tk vb c hk hi hkeep hit hb hv
  have hi':i + 1 < its.length:=by omega
  have hL:h.IsList l its.toArray:=hl.at fun o ho=>hkeep l o ho
  refine Au F.entry_min_loop ?_
  rw [Aw Be]
  refine AA (B8 hb rfl (AA (CS (W.item (i + 1) { s0 with heap:=h,toks:=tk } _ _ (by rw [AM];exact hi') ⟨hit,hL⟩ fun v h' tk' hP hSt hk' => ?_))))
  have hv':its[i + 1]? = some v:=by simpa using hP
  have hb':=hk' B _ (by simp;exact hBI) hb
  have hkeep':∀ b o,s0.heap.get? b=some o->h'.get? b=some o:=fun b o ho=>hk' b o (by simp;exact (old ho).1) (hkeep b o ho)
  refine AA (AB (AA (CS (Ai (AA (hc (i + 1) (bst bt i) v vb hv' hv h' tk' hkeep' _ _ (AA (Ai (A6 (AA (wpAny_letGo (AB ?_))))))))))))
  have ename:(toString "min" ++ toString ".loop") = "min.loop" := by decide
  rw [ename]
  cases hbt:bt (i + 1) (bst bt i) with
  |true =>
   rw [AI rfl]
   refine AA (B0 hb' rfl (AA (wpAny_letGo (AB ⟨BL Be _,?_⟩))) (show 2≤sizeLine by decide) (show 2≤sizeLine + 1 by decide))
   have hbu:∃ c',(h'.update B (Obj.mapSeq fun x => #[v,v])).get? B=some (seqObj "list" #[v,v] c'):=by
    rw [Ap _ hb' rfl];exact ⟨_,rfl⟩
   obtain ⟨c',hbu⟩:=hbu
   obtain ⟨⟨oi,hoi,hoc⟩,_⟩:=hSt
   refine ih (i + 1) _ tk' v c' (by omega) (by omega) (fun b o ho=>(AU _ _ (Ne.symm (old ho).2)).trans (hkeep' b o ho)) ⟨oi,(AU _ _ hBI).trans hoi,hoc⟩ hbu ?_
   unfold bst
   rw [hbt,AI rfl]
   exact hv'
  |false =>
   rw [AQ (by decide)]
   refine AA (wpAny_letGo (AB ⟨BL Be _,?_⟩))
   refine ih (i + 1) _ tk' vb c (by omega) (by omega) hkeep' hSt.1 hb' ?_
   unfold bst
   rw [hbt,AQ (by decide)]
   exact hv
theorem qFn {Q:Value->Shared->Prop} {E:Value->Shared->Prop} {d:Value} (hh:A.handled=none) (hl:s0.heap.IsList l its.toArray)
  (hc:∀ (i j:Nat) (vi vj:Value),its[i]? = some vi->its[j]? = some vj -> ∀ (h':Heap) (tk:Nat),(∀ b o,s0.heap.get? b=some o->h'.get? b=some o) -> ∀ (E Q:Value->Shared->Prop),Q (.bool (bt i j)) { s0 with heap:=h',toks:=tk }->wpAny (model prog w) A.in1 (richCompare .Lt vi vj) Q E { s0 with heap:=h',toks:=tk })
  (h1:∀ (v:Value) (h':Heap) (tk:Nat),its[bst bt (its.length - 1)]? = some v->(∀ b o,s0.heap.get? b=some o->h'.get? b=some o)->Q v { s0 with heap:=h',toks:=tk })
  (h2:∀ (h':Heap) (tk:Nat),its=[]->(∀ b o,s0.heap.get? b=some o->h'.get? b=some o)->Q d { s0 with heap:=h',toks:=tk }) :
  wpAny (model prog w) A (call (.builtin "min") [.ref l] [("default",d)]) Q E s0:=by
 refine CQ (CB F.plain_min F.entry_min ?_)
 refine Al (a:=()) (by kernel_rfl) ?_
 have hlt:l < s0.heap.objs.size:=by obtain ⟨o,ho,_⟩:=hl;exact AJ ho
 refine AA (Al (a:=[none,some d]) (by kernel_rfl) ?_)
 refine AA (AB (AA (wpAny_pyIter_list hl (AA (Bp ?_)))))
 have ename:(toString "min" ++ toString ".loop") = "min.loop" := by decide
 rw [ename]
 refine AB ⟨BL Be _,?_⟩
 have hI0:s0.heap.objs.size≤s0.heap.objs.size:=AL _
 have hz:(s0.heap.push { cls := .type "list_iterator",data := .fields #[.ref l,.int 0 0] }).objs.size=s0.heap.objs.size + 1:=BR ..
 show codeAny _ _ (.builtin "min.loop" ⟨[.ref s0.heap.objs.size,.none,.ref (s0.heap.push { cls := .type "list_iterator",data := .fields #[.ref l,.int 0 0] }).objs.size],[("default",d)]⟩) _ { s0 with heap:=(s0.heap.push { cls := .type "list_iterator",data := .fields #[.ref l,.int 0 0] }).push { cls := .type "list",data := .seq ([]:List Value).toArray } }
 rw [hz]
 have hb:((s0.heap.push { cls := .type "list_iterator",data := .fields #[.ref l,.int 0 0] }).push { cls := .type "list",data := .seq ([]:List Value).toArray }).get? (s0.heap.objs.size + 1)=some (seqObj "list" #[] 0):=by rw [← hz];exact AR _ rfl
 have hkeep:∀ b o,s0.heap.get? b=some o->((s0.heap.push { cls := .type "list_iterator",data := .fields #[.ref l,.int 0 0] }).push { cls := .type "list",data := .seq ([]:List Value).toArray }).get? b=some o:=fun b o ho=>AC _ (AC _ ho)
 have hit:((s0.heap.push { cls := .type "list_iterator",data := .fields #[.ref l,.int 0 0] }).push { cls := .type "list",data := .seq ([]:List Value).toArray }).IsListIter s0.heap.objs.size l 0:=⟨_,AC _ (AR _ rfl),rfl,rfl⟩
 have hL:((s0.heap.push { cls := .type "list_iterator",data := .fields #[.ref l,.int 0 0] }).push { cls := .type "list",data := .seq ([]:List Value).toArray }).IsList l its.toArray:=hl.at fun o ho=>hkeep l o ho
 have W:=Walks.list (prog:=prog) (w:=w) (A:=A.in1) hh s0.heap.objs.size l (AT hlt) its.toArray
 have hne:s0.heap.objs.size + 1≠s0.heap.objs.size:=Nat.succ_ne_self _
 have old:∀ {b:Addr} {o:Obj},s0.heap.get? b=some o->b≠s0.heap.objs.size∧b≠s0.heap.objs.size + 1:=fun {b o} ho=>⟨AT (AJ ho),AT (At (AJ ho))⟩
 refine Au F.entry_min_loop ?_
 rw [Aw Be]
 refine AA (B8 hb rfl (AA (CS ?_)))
 by_cases h0:its=[]
 ·subst h0
  refine W.done _ _ _ ⟨hit,hL⟩ fun h' tk' hk' => ?_
  refine AA (Bq (AB ?_))
  exact h2 h' tk' rfl fun b o ho=>hk' b o (by simp;exact (old ho).1) (hkeep b o ho)
 ·have hp:0 < its.length:=List.length_pos_iff.mpr h0
  refine W.item 0 _ _ _ (by rw [AM];exact hp) ⟨hit,hL⟩ fun v h' tk' hP hSt hk' => ?_
  have hv':its[0]? = some v:=by simpa using hP
  have hb':=hk' (s0.heap.objs.size + 1) _ (by simp) hb
  refine AA (AB (AA (B0 hb' rfl ?_ (by decide) (show 2≤sizeLine + 1 by decide))))
  rw [ename]
  refine AB ⟨BL Be _,?_⟩
  have hbu:∃ c',(h'.update (s0.heap.objs.size + 1) (Obj.mapSeq fun x => #[v,v])).get? (s0.heap.objs.size + 1)=some (seqObj "list" #[v,v] c'):=by
   rw [Ap _ hb' rfl];exact ⟨_,rfl⟩
  obtain ⟨c',hbu⟩:=hbu
  obtain ⟨⟨oi,hoi,hoc⟩,_⟩:=hSt
  exact qDo hh (Nat.le_succ _) hI0 hne hl hc (fun v h' tk he hk=>h1 v h' tk he hk) _ 0 _ tk' v c' rfl hp (fun b o ho=>(AU _ _ (Ne.symm (old ho).2)).trans (hk' b o (by simp;exact (old ho).1) (hkeep b o ho))) ⟨oi,(AU _ _ hne).trans hoi,hoc⟩ hbu hv'
end
end EX
end
section
namespace EV
open PySem PySem.Spec PyProof.Rows L2 EX
def btP (l:List PV) (i j:Nat):Bool:=plt (l.getD i .non) (l.getD j .non)==some true
def qAK (l:List PV):Bool:=l.all fun p=>l.all fun q=>(plt p q).isSome
section
variable {X:Cx} {E:XK} {e:Expr} {te:TE} {f:FE} {p kp kpos pos:Pos} {j:Nat}
def qGm (K:W.Frag) (te:TE):TE:=fun σ H Q=>te σ H fun x H1 => ∃ a l xs,x = .ref a∧SqL K H1 a xs∧RWs K H1 l xs∧deps l≤qBu∧qAK l=true∧(l=[]->Q .non H1) ∧ ∀ v,xs[bst (btP l) (l.length - 1)]? = some v->Q v H1
theorem qDw (hc:X.calm=true) (hu:X.A.units + 64 < cLine) (hg:Gl X "min") (hm:X.mg "min" = none) (he:PE X e te)
  (h1:starEach [e] X.env=(false,eval e X.env)::starEach [] X.env:=by rfl)
  (h2:backToKw pos (keywordEach [⟨some "default",.Constant .none j kp,kpos⟩] X.env)=[(some ("default":Str),do let v ← eval (.Constant .none j kp) X.env;standAt pos;pure v)]:=by rfl) :
  PE X (.Call (.Name "min" p) [e] [⟨some "default",.Constant .none j kp,kpos⟩] pos) (qGm X.K te):=by
 intro pins s σ H Q I h
 refine BQ (Wm I hg hm PyProof.Rows.boot_min ?_ (by decide) (by decide))
 refine PyProof.Rows.callWith_builtin_kwB (by rw [h1];rfl) (by rw [h2];rfl) ?_
 rw [h1]
 show wpAny _ _ (evalArgs _ true ((false,eval e X.env)::[]) _) _ _ _
 refine PyProof.Rows.evalArgs_kwB (by rw [h2];rfl) ?_
 refine By (thn (he pins s σ H _ I h) fun u s1 ⟨x,H1,I1,r1,q1⟩=>B3 ?_)
 rw [h2]
 show wpAny _ _ (evalAll [do let v ← eval (.Constant .none j kp) X.env;standAt pos;pure v]) _ _ _
 refine wpAny_evalAll_cons (AA ?_)
 have hn:=qBz (X:=X) (j:=j) (pos:=kp) pins s1 σ H1 (fun v K2=>v = .non∧K2=H1) I1 (show (V.non = .non∧H1=H1) from ⟨rfl,rfl⟩)
 refine thn hn fun u2 s2 hx2 => ?_
 obtain ⟨x2,H2,I2,r2,e1,e2⟩:=hx2
 subst e1;subst e2
 cases r2
 refine AA (Bw (AB (wpAny_evalAll_nil ?_)))
 obtain ⟨a,l,xs,rfl,hq,hl,hd,hall,q0,q1⟩:=q1
 cases r1
 obtain ⟨its,rv,ht,hz⟩:=I2.list hq
 have hh:X.A.handled=none:=I.ok.hd hc
 have hlen:=rv.length
 have hlen2:l.length=xs.length:=RWs.length hl
 show wpAny _ _ (call (.builtin "min") [.ref a] [("default",.none)]) _ _ _
 refine qFn (bt:=btP l) (its:=its) hh ht.isList (fun i k vi vk hi hk h' tk hkeep E' Q' hQ => ?_) (fun v h' tk hv hkeep => ?_) fun h' tk h0 hkeep => ?_
 ·obtain ⟨x1,hx1,rx1⟩:=Vals.get2 rv hi
  obtain ⟨x2,hx2,rx2⟩:=Vals.get2 rv hk
  obtain ⟨p1,hp1,rp1⟩:=RWs.get' hl hx1
  obtain ⟨p2,hp2,rp2⟩:=RWs.get' hl hx2
  have I3:=I2.kept (h':=h') (t':=tk) hkeep
  have hs:=hall
  unfold qAK at hs
  rw [Ao] at hs
  have hs2:=Ao.mp (hs p1 (BE hp1)) p2 (BE hp2)
  obtain ⟨r,hr⟩:=Option.isSome_iff_exists.mp hs2
  have hb:btP l i k=r:=by
   unfold btP
   rw [AF,AF,hp1,hp2]
   show (plt p1 p2==some true)=r
   rw [hr]
   cases r <;> rfl
  rw [hb] at hQ
  exact qGo I3 60 p1 p2 X.A.in1 (AS (zA hp1) hd) (by show X.A.units + 1 + 60 < cLine;omega) rp1 rp2 rx1 rx2 hr _ _ _ _ hQ
 ·rw [← hlen,← hlen2] at hv
  obtain ⟨x1,hx1,rx1⟩:=Vals.get2 rv hv
  exact ⟨x1,_,I2.kept (h':=h') (t':=tk) hkeep,rx1,q1 x1 hx1⟩
 ·have:l=[]:=List.eq_nil_of_length_eq_zero (by rw [hlen2,hlen,h0];rfl)
  exact ⟨.non,_,I2.kept (h':=h') (t':=tk) hkeep,rfl,q0 this⟩
theorem RVs.get' {K:W.Frag} {H:Hp} {b:Bz}:∀ {l:List PV} {xs:List V} {i:Nat} {x:V},RVs K H b l xs->xs[i]? = some x -> ∃ p,l[i]? = some p∧RV K H b p x
 |[],_,_,_,r,h=>by unfold RVs at r;subst r;cases h
 |q::ps,_,0,x,r,h=>by
  unfold RVs at r
  obtain ⟨y,t,rfl,h2,h3⟩:=r
  cases h
  exact ⟨q,rfl,h2⟩
 |q::ps,_,i + 1,x,r,h=>by
  unfold RVs at r
  obtain ⟨y,t,rfl,h2,h3⟩:=r
  exact RVs.get' (l:=ps) (i:=i) h3 h
def J5:PV->qB->Rs PV:=fun q st=>match asL st q with
 |some l=>if nrs l=true∧deps l≤qBu∧qAK l=true then (match l with
   |[] => .ok .non st
   |b::l => .ok ((b::l).getD (bst (btP (b::l)) l.length) .non) st) else .no
 |none => .no
def Y2 (f:FE):FE:=fun r st=>(f r st).bind J5
theorem qDO (hc:X.calm=true) (hu:X.A.units + 64 < cLine) (hm:X.mg "min" = none) (h:VE X E e f) (hg:Gl X "min" := by rfl)
  (h1:starEach [e] X.env=(false,eval e X.env)::starEach [] X.env:=by rfl)
  (h2:backToKw pos (keywordEach [⟨some "default",.Constant .none j kp,kpos⟩] X.env)=[(some ("default":Str),do let v ← eval (.Constant .none j kp) X.env;standAt pos;pure v)]:=by rfl) :
  VE X E (.Call (.Name "min" p) [e] [⟨some "default",.Constant .none j kp,kpos⟩] pos) (Y2 f) :=
 PE.imp (qDw hc hu hg hm h h1 h2) fun s H Q ⟨b,r,st,S,R,P⟩=>⟨b,r,st,S,R,PostE.bind P fun q s1 u H1 b1 e1 S1 r1 P1=>by
  unfold J5 at P1
  split at P1
  ·rename_i l el
   split at P1
   ·rename_i hn
    obtain ⟨x,xs,rfl,h2,h3⟩:=Q7 S1 r1 el
    refine ⟨x,l,xs,rfl,h2,RVs.rws l hn.1 h3,hn.2.1,hn.2.2,fun h0 => ?_,fun v hv => ?_⟩
    ·subst h0
     exact PostE.here P1 S1 (by unfold RV;rfl)
    ·cases l with
     |nil=>unfold RVs at h3;subst h3;cases hv
     |cons b l =>
      obtain ⟨p,hp,rp⟩:=RVs.get' h3 hv
      have e2:(b::l).getD (bst (btP (b::l)) l.length) .non=p:=by
       rw [AF,show (bst (btP (b::l)) l.length)=bst (btP (b::l)) ((b::l).length - 1) by rw [AO,B1],hp];rfl
      dsimp only at P1
      rw [e2] at P1
      exact PostE.here P1 S1 rp
   ·exact P1.elim
  ·exact P1.elim⟩
def Jf:=gI fun i j=>if 0 < j∧j < 2 ^ 64 then some (.int (i / j)) else none
theorem qBt:OpR X (binaryOp .FloorDiv) (rI (fun _ j=>0 < j∧j < 2 ^ 64) fun i j => .int (i / j)):=opI fun i j _ _ _ _ _ hc q=>by
 have h1:(0:Int) < j:=hc.1
 have h2:j < 2 ^ 64:=hc.2
 refine floordiv_int (by omega) (by rw [Int.fdiv_eq_ediv_of_nonneg i (by omega)];exact q) (.inl (PyProof.noPylong_of_log2 ?_))
 have h3:j.natAbs < 2 ^ 64:=by omega
 have h4:j.natAbs≠0:=by omega
 exact B7 ((Nat.log2_lt h4).mpr h3) (by decide)
theorem qDU {a c:Expr} {fa fb:FE} (ha:VE X E a fa) (hb:VE X E c fb):VE X E (.BinOp a .FloorDiv c pos) (qJ Jf fa fb):=ZS qBt (qBQ fun i j z e=>by
 split at e
 ·rename_i h;cases e;exact ⟨h,fun _ _=>Qk⟩
 ·cases e) ha hb
end
end EV
end
section
namespace ET
open PySem PySem.Spec PyProof.Rows L2 EX
section
variable {prog:Program} {w:World} {A:Around} {E:Value->Shared->Prop} {s:Shared}
abbrev TK (prog:Program) (w:World) (h:Heap) (ks:List Int) (b:Addr):Prop:=IsTupleKey (intKind prog w) h ks b
theorem yP {ks:List Int} {vs:List Value} (h:ItemsAre (intKind prog w) ks vs):∀ v∈vs,∃ n t,v=Value.int n t:=by
 induction h with
 |nil=>intro v hv;cases hv
 | @cons k v ks vs h1 _ ih =>
  intro u hu
  rcases AH.mp hu with q |q
  ·subst q
   cases u with
   |int n t=>exact ⟨n,t,rfl⟩
   |_=>exact Bool.noConfusion (show false=true from h1)
  ·exact ih u q
theorem TK.keep {h h':Heap} {ks:List Int} {b:Addr} (k:TK prog w h ks b) (e:∀ o,h.get? b=some o->h'.get? b=some o):TK prog w h' ks b:=by
 obtain ⟨o,its,n,h1,h2⟩:=k
 exact ⟨o,its,n,e o h1,h2⟩
end
end ET
end
section
namespace ET
open PySem PySem.Spec PyProof.Rows L2 EX PySem.W
section
variable {O:KeyOrd} {key:Nat->O.α} {n:Nat}
def kOk (key:Nat->O.α) (n:Nat) {α:Type}:KasT α->(α->Prop)->Prop
 | .ret a,P=>P a
 | .ask i j k,P=>i < n∧j < n∧kOk key n (k (O.blt (key i) (key j))) P
theorem WW {α β:Type} {f:α->KasT β} {P:β->Prop}:∀ {t:KasT α},kOk key n t (fun a=>kOk key n (f a) P)->kOk key n (t.bind f) P
 | .ret a,h=>h
 | .ask i j k,h=>⟨h.1,h.2.1,WW h.2.2⟩
theorem jp {α:Type} {cmp:Nat->Nat->(Bool->Shared->Prop)->Shared->Prop} {s:Shared} (hc:∀ i j C,i < n->j < n->C (O.blt (key i) (key j)) s->cmp i j C s) {P:α->Prop} {Q:α->Shared->Prop} (hq:∀ a,P a->Q a s):∀ (t:KasT α),kOk key n t P->t.kasWp cmp Q s
 | .ret a,h=>hq a h
 | .ask i j k,h=>hc i j _ h.1 h.2.1 (jp hc hq _ h.2.2)
structure PB (n:Nat) (p:Array Nat):Prop where
 perm:p.Perm (List.range n).toArray
theorem PB.size {p:Array Nat} (h:PB n p):p.size=n:=by
 have:=h.perm.size_eq;simpa using this
theorem PB.lt {p:Array Nat} (h:PB n p) {k:Nat} (hk:k < n):p.getD k 0 < n:=by
 have hs:=h.size
 rw [Ag,BV (by omega)]
 have:p[k]∈(List.range n).toArray.toList:=(Array.perm_iff_toList_perm.mp h.perm).mem_iff.mp (by simp)
 simpa using this
def kq (key:Nat->O.α) (p:Array Nat) (k:Nat):O.α:=key (p.getD k 0)
def Srt (key:Nat->O.α) (p:Array Nat) (k:Nat):Prop := ∀ i j,i≤j->j < k->O.kle (kq key p i) (kq key p j)
def Nin (key:Nat->O.α) (p:Array Nat) (k:Nat):Prop := ∀ i j,i≤j->j < k->O.kle (kq key p j) (kq key p i)
theorem ZF {p:Array Nat} {i j:Nat} (hj:j≤p.size) (k:Nat):kq key (kas_rev p i j) k=if i≤k∧k < j then kq key p (i + j - 1 - k) else kq key p k:=by
 have e:=getElem?_mirror_all (i:=i) hj k
 unfold kq kas_rev
 rw [Ag,e]
 split
 ·rw [Ag]
 ·rw [Ag]
theorem Q4 {p:Array Nat} {i j:Nat} (hj:j≤p.size) (heq:∀ k,i≤k->k < j->kq key p k=kq key p (j - 1)) (k:Nat):kq key (kas_rev p i j) k=kq key p k:=by
 rw [ZF hj]
 split
 ·rw [heq _ (by omega) (by omega),heq k (by omega) (by omega)]
 ·rfl
theorem yn {p:Array Nat} {src d:Nat} (hs:src < p.size) (hd:d≤src) (k:Nat):kq key (bubble p src d) k=if k=src - d then kq key p src else if src - d < k∧k≤src then kq key p (k - 1) else kq key p k:=by
 have e:=getElem?_bubble hs d hd k
 unfold kq
 rw [Ag,Ag,Ag,Ag,e]
 split
 ·rfl
 ·split <;> rfl
theorem PB.rev {p:Array Nat} (h:PB n p) (i j:Nat):PB n (kas_rev p i j):=⟨(mirror_perm _ _ _ _).trans h.perm⟩
theorem j8 {p:Array Nat} (B:PB n p) {nrem:Nat} (hn:nrem≤n) {P:Nat->Prop} (h:∀ m,1≤m->m≤nrem->Srt key p m->(m=nrem∨O.klt (kq key p m) (kq key p (m - 1)))->P m):∀ (f a:Nat),1≤a->a + f=nrem->Srt key p a->kOk key n (kas_asc p f a) P
 |0,a,h1,h2,hs=>h a h1 (by omega) hs (.inl (by omega))
 |f + 1,a,h1,h2,hs=>by
  refine ⟨B.lt (by omega),B.lt (by omega),?_⟩
  show kOk key n (if O.blt (kq key p a) (kq key p (a - 1))=true then .ret a else kas_asc p f (a + 1)) P
  cases hl:O.blt (kq key p a) (kq key p (a - 1)) with
  |true=>rw [AI rfl];exact h a h1 (by omega) hs (.inr hl)
  |false =>
   rw [AQ (by simp)]
   refine j8 B hn h f (a + 1) (by omega) (by omega) fun i j hij hj => ?_
   by_cases hja:j < a
   ·exact hs i j hij hja
   ·have:j=a:=by omega
    subst this
    by_cases hi':i=j
    ·subst hi';exact BG _
    ·exact CH (hs i (j - 1) (by omega) (by omega)) hl
theorem Y7 {p:Array Nat} (B:PB n p) {nrem m:Nat} (hn:nrem≤n) (h1:1≤m) (hm:m≤nrem) (hs:Nin key p m) {P:Nat×Array Nat->Prop} (h:∀ m' p',PB n p'->1≤m'->m'≤nrem->Srt key p' m'->P (m',p')):kOk key n (kas_tail3 m nrem p) P:=by
 unfold kas_tail3
 have hsz:m≤p.size:=by rw [B.size];omega
 refine WW (j8 (B.rev 0 m) hn (fun m' a b c _=>h m' _ (B.rev 0 m) a b c) _ _ h1 (by omega) fun i j hij hj => ?_)
 rw [ZF hsz,ZF hsz,AI (by omega),AI (by omega)]
 exact hs _ _ (by omega) (by omega)
theorem Zh {nrem:Nat} (hn:nrem≤n) {P:Array Nat×Nat×Nat->Prop}
  (h:∀ m neq p',PB n p'->1≤m->m≤nrem->Nin key p' m->neq + 1≤m->(∀ i,m - (neq + 1)≤i->i < m->kq key p' i=kq key p' (m - 1))->P (p',m,neq)) :
  ∀ (f:Nat) (p:Array Nat) (x neq:Nat),PB n p->1≤x->x + f=nrem->Nin key p x->neq + 1≤x->(∀ i,x - (neq + 1)≤i->i < x->kq key p i=kq key p (x - 1))->kOk key n (kas_desc f p x neq) P
 |0,p,x,neq,B,h1,h2,hs,hq,he=>h x neq p B h1 (by omega) hs hq he
 |f + 1,p,x,neq,B,h1,h2,hs,hq,he=>by
  have hsz:x≤p.size:=by rw [B.size];omega
  refine ⟨B.lt (by omega),B.lt (by omega),?_⟩
  show kOk key n (if O.blt (kq key p x) (kq key p (x - 1))=true then (if neq > 0 then kas_desc f (kas_rev p (x - (neq + 1)) x) (x + 1) 0 else kas_desc f p (x + 1) 0) else .ask (p.getD (x - 1) 0) (p.getD x 0) fun d=>if d=true then .ret (p,x,neq) else kas_desc f p (x + 1) (neq + 1)) P
  cases hl:O.blt (kq key p x) (kq key p (x - 1)) with
  |true =>
   rw [AI rfl]
   have step1:∀ p':Array Nat,(∀ k,kq key p' k=kq key p k)->Nin key p' (x + 1):=by
    intro p' hk i j hij hj
    rw [hk,hk]
    by_cases hjx:j < x
    ·exact hs i j hij hjx
    ·have hj':j=x:=by omega
     subst hj'
     by_cases hi':i=j
     ·subst hi';exact BG _
     ·exact CH (B5 hl) (hs i (j - 1) (by omega) (by omega))
   by_cases hneq:neq > 0
   ·rw [AI hneq]
    exact Zh hn h f _ _ _ (B.rev _ _) (by omega) (by omega) (step1 _ (Q4 hsz he)) (by omega) fun i h1 h2=>by congr 1;omega
   ·rw [AQ hneq]
    exact Zh hn h f _ _ _ B (by omega) (by omega) (step1 _ fun _=>rfl) (by omega) fun i h1 h2=>by congr 1;omega
  |false =>
   rw [AQ (by simp)]
   refine ⟨B.lt (by omega),B.lt (by omega),?_⟩
   show kOk key n (if O.blt (kq key p (x - 1)) (kq key p x)=true then .ret (p,x,neq) else kas_desc f p (x + 1) (neq + 1)) P
   cases hg:O.blt (kq key p (x - 1)) (kq key p x) with
   |true=>rw [AI rfl];exact h x neq p B h1 (by omega) hs hq he
   |false =>
    rw [AQ (by simp)]
    have heqx:kq key p x=kq key p (x - 1):=KeyOrd.kle_antisymm hg hl
    refine Zh hn h f _ _ _ B (by omega) (by omega) (fun i j hij hj => ?_) (by omega) fun i h1 h2 => ?_
    ·by_cases hjx:j < x
     ·exact hs i j hij hjx
     ·have hj':j=x:=by omega
      subst hj'
      by_cases hi':i=j
      ·subst hi';exact BG _
      ·rw [heqx];exact hs i (j - 1) (by omega) (by omega)
    ·rw [show x + 1 - 1=x by omega]
     by_cases hix:i=x
     ·subst hix;rfl
     ·rw [heqx];exact he i (by omega) (by omega)
theorem ZX {p:Array Nat} (B:PB n p) {nrem m:Nat} (hn:nrem≤n) (hm:m + 1≤nrem) (hs:Nin key p (m + 1)) {P:Nat×Array Nat->Prop} (h:∀ m' p',PB n p'->1≤m'->m'≤nrem->Srt key p' m'->P (m',p')):kOk key n (kas_descPart m nrem p) P:=by
 unfold kas_descPart
 refine WW (Zh hn (fun m' neq p' B' a1 a2 hs' hq he => ?_) _ _ _ _ B (by omega) (by omega) hs (by omega) fun i h1 h2=>by congr 1;omega)
 dsimp only
 have hsz:m'≤p'.size:=by rw [B'.size];omega
 by_cases hneq:neq > 0
 ·rw [AI hneq]
  refine Y7 (B'.rev _ _) hn a1 a2 (fun i j hij hj => ?_) h
  rw [Q4 hsz he,Q4 hsz he]
  exact hs' i j hij hj
 ·rw [AQ hneq]
  exact Y7 B' hn a1 a2 hs' h
theorem qBn {p:Array Nat} (B:PB n p) (h1:1≤n) {P:Nat×Array Nat->Prop} (h:∀ m' p',PB n p'->1≤m'->m'≤n->Srt key p' m'->P (m',p')):kOk key n (kas_count n p) P:=by
 unfold kas_count
 refine WW (j8 B (AL n) (fun m hm1 hm2 hsn hor => ?_) _ _ (AL 1) (by omega) fun i j hij hj=>by have:i=j:=(by omega);subst this;exact BG _)
 by_cases hnn:m=n
 ·rw [AI (by simpa using hnn)]
  exact h m p B hm1 hm2 hsn
 ·rw [AQ (by simpa using hnn)]
  have hlt:O.klt (kq key p m) (kq key p (m - 1)):=hor.resolve_left hnn
  have hsz:m≤p.size:=by rw [B.size];omega
  by_cases hgt:m > 1
  ·rw [AI hgt]
   refine ⟨B.lt (by omega),B.lt (by omega),?_⟩
   show kOk key n (if O.blt (kq key p 0) (kq key p (m - 1))=true then .ret (m,p) else kas_descPart m n (kas_rev p 0 m)) P
   cases hrose:O.blt (kq key p 0) (kq key p (m - 1)) with
   |true=>rw [AI rfl];exact h m p B hm1 hm2 hsn
   |false =>
    rw [AQ (by simp)]
    have hall:∀ k,0≤k->k < m->kq key p k=kq key p (m - 1):=by
     intro k _ hk
     have a1:=hsn 0 k (by omega) hk
     have a2:=hsn k (m - 1) (by omega) (by omega)
     exact KeyOrd.kle_antisymm a2 (CH hrose a1)
    refine ZX (B.rev _ _) (AL n) (by omega) (fun i j hij hj => ?_) h
    rw [Q4 hsz hall,Q4 hsz hall]
    by_cases hjn:j < m
    ·rw [hall i (by omega) (by omega),hall j (by omega) hjn];exact BG _
    ·have hj':j=m:=by omega
     subst hj'
     by_cases hi':i=j
     ·subst hi';exact BG _
     ·rw [hall i (by omega) (by omega)];exact B5 hlt
  ·rw [AQ hgt]
   have hn1':m=1:=by omega
   subst hn1'
   refine ZX B (AL n) (by omega) (fun i j hij hj => ?_) h
   by_cases hi':i=j
   ·subst hi';exact BG _
   ·have hi0:i=0:=by omega
    have hj1:j=1:=by omega
    subst hi0;subst hj1
    exact B5 hlt
theorem Zq {p:Array Nat} (B:PB n p) {k:Nat} (hk:k < n) (hs:Srt key p k) {P:Nat->Prop} (h:∀ l,l≤k->(∀ i,i < l->O.kle (kq key p i) (kq key p k))->(∀ i,l≤i->i < k->O.klt (kq key p k) (kq key p i))->P l) :
  ∀ (f l r:Nat),l≤r->r≤k->r - l≤f->(∀ i,i < l->O.kle (kq key p i) (kq key p k))->(∀ i,r≤i->i < k->O.klt (kq key p k) (kq key p i))->kOk key n (kas_place p k f l r) P
 |0,l,r,h1,h2,h3,h4,h5=>by
  have:l=r:=by omega
  subst this
  exact h l h2 h4 h5
 |f + 1,l,r,h1,h2,h3,h4,h5=>by
  unfold kas_place
  by_cases hge:l ≥ r
  ·rw [AI hge]
   have:l=r:=by omega
   subst this
   exact h l h2 h4 h5
  ·rw [AQ hge]
   refine ⟨B.lt hk,B.lt (by omega),?_⟩
   show kOk key n (if O.blt (kq key p k) (kq key p ((l + r) / 2))=true then kas_place p k f l ((l + r) / 2) else kas_place p k f ((l + r) / 2 + 1) r) P
   cases hless:O.blt (kq key p k) (kq key p ((l + r) / 2)) with
   |true =>
    rw [AI rfl]
    exact Zq B hk hs h f _ _ (by omega) (by omega) (by omega) h4 fun i a b=>KeyOrd.klt_of_klt_of_kle hless (hs _ _ a b)
   |false =>
    rw [AQ (by simp)]
    exact Zq B hk hs h f _ _ (by omega) (by omega) (by omega) (fun i a=>CH (hs i ((l + r) / 2) (by omega) (by omega)) (show O.kle _ _ from hless)) h5
theorem qt {P:Array Nat->Prop} (h:∀ p,PB n p->Srt key p n->P p):∀ (f:Nat) (p:Array Nat) (k:Nat),PB n p->k + f=n->Srt key p k->kOk key n (kas_bin f p k) P
 |0,p,k,B,h1,hs=>h p B (by
  have:k=n:=by omega
  subst this;exact hs)
 |f + 1,p,k,B,h1,hs=>by
  unfold kas_bin
  refine WW (Zq B (by omega) hs (fun l hlk hlo hhi => ?_) k 0 k (by omega) (AL _) (by omega) (fun i hi=>absurd hi (Nat.not_lt_zero _)) fun i a b=>absurd b (by omega))
  refine qt h f _ (k + 1) ⟨(bubble_perm _ _ _).trans B.perm⟩ (by omega) fun i j hij hj => ?_
  have hks:k < p.size:=by rw [B.size];omega
  rw [yn hks (by omega),yn hks (by omega),show k - (k - l)=l by omega]
  repeat' split
  all_goals first
   |(exfalso;omega)
   |exact BG _
   |exact hlo _ (by omega)
   |exact B5 (hhi _ (by omega) (by omega))
   |exact hs _ _ (by omega) (by omega)
theorem qD0 (h1:1≤n):kOk key n (kas_sort n) fun p=>PB n p∧Srt key p n:=by
 unfold kas_sort
 refine WW (qBn ⟨Array.Perm.refl _⟩ h1 fun m p B a b hs => ?_)
 dsimp only
 by_cases hlt:m < n
 ·rw [AI hlt,show max m 1=m by omega]
  exact qt (fun p B hs=>⟨B,hs⟩) _ _ _ B (by omega) hs
 ·rw [AQ hlt]
  have:m=n:=by omega
  subst this
  exact ⟨B,hs⟩
end
section
variable {prog:Program} {w:World} {A:Around} {E:Value->Shared->Prop} {s:Shared} {O:KeyOrd}
theorem qAU {vs:List Value} (hsz:vs.toArray.size=vs.length) (h2:vs.toArray.size < 2):List.toArray ((List.range vs.length).toArray.toList.map fun i=>vs.getD i Value.none)=(vs.toArray.zip vs.toArray).map (·.2):=by
 match vs,hsz,h2 with
 |[],_,_=>simp
 |[v],_,_=>simp
 |v₁::v₂::rest,hsz,h2=>rw [hsz,AO,AO] at h2;omega
theorem qDb {a:Addr} {vs:List Value} {n:Nat} {P:PySem.Fin->Shared->Prop} {key:Nat->O.α} {κ:SortKind} (ho:s.heap.get? a=some (seqObj "list" vs.toArray n)) (h64:vs.length < 64)
  (hk:2≤vs.length -> ∀ (h6:Heap) (Q:SortKind->Shared->Prop),(∀ b o,b≠a->s.heap.get? b=some o->h6.get? b=some o)->Q κ { s with heap:=h6 }->wpAny (model prog w) A (keyKind' vs.toArray) Q E { s with heap:=h6 })
  (hc:∀ (h6:Heap) (i j:Nat) (C:Bool->Shared->Prop),(∀ b o,b≠a->s.heap.get? b=some o->h6.get? b=some o)->i < vs.length->j < vs.length->C (O.blt (key i) (key j)) { s with heap:=h6 }->wpAny (model prog w) A (keyLt' κ (vs.getD i Value.none) (vs.getD j Value.none)) C (fun _ _=>False) { s with heap:=h6 })
  (h:∀ p:Array Nat,PB vs.length p->Srt key p vs.length->P (.done (.ret .none)) { s with heap:=sortedHeap s.heap a vs (List.toArray (p.toList.map fun i=>vs.getD i Value.none)) }) :
  wpAny (model prog w) A (Builtin.«list.sort» ⟨[.ref a],[]⟩) P E s:=by
 rw [list_sort_plain]
 have ha:a < s.heap.objs.size:=AJ ho
 refine AA (listItems_at ho rfl ?_)
 refine AA (listUpdate_at ho rfl ?_)
 obtain ⟨e1,ho1⟩:∃ e1,(s.heap.update a (Obj.mapSeq fun _ => #[])).get? a=some (seqObj "list" #[] e1):=⟨_,get?_update_seq ho (fun _ => #[])⟩
 refine AA (seqEpoch_at ho1 rfl ?_)
 refine AA (wpAny_newTuple ?_)
 refine AA (Bp ?_)
 refine Ai ?_
 have ho6:(((s.heap.update a (Obj.mapSeq fun _ => #[])).push (seqObj "tuple" vs.toArray 0)).push (seqObj "list" #[] 0)).get? a=some (seqObj "list" #[] e1):=by
  rw [Heap.get?_push_ne _ _ _ (by rw [size_push',Bt];exact AT (At ha)),Heap.get?_push_ne _ _ _ (by rw [Bt];exact AT ha)]
  exact ho1
 have keep:∀ b o,b≠a->s.heap.get? b=some o->(((s.heap.update a (Obj.mapSeq fun _ => #[])).push (seqObj "tuple" vs.toArray 0)).push (seqObj "list" #[] 0)).get? b=some o:=fun b o hb q =>
  AC _ (AC _ ((AU _ _ (Ne.symm hb)).trans q))
 show wpAny (model prog w) A _ P E { s with heap:=((s.heap.update a (Obj.mapSeq fun _ => #[])).push (seqObj "tuple" vs.toArray 0)).push (seqObj "list" #[] 0) }
 dsimp only
 have hsz:vs.toArray.size=vs.length:=by simp
 by_cases h2:vs.toArray.size < 2
 ·rw [AI h2,AI h2]
  refine AA (AB ?_)
  rw [StateT.run_pure]
  refine AA (AB ?_)
  dsimp only
  refine AA (seqEpoch_at ho6 rfl ?_)
  refine AA (listUpdate_at ho6 rfl ?_ (hsz2:=by rw [Array.size_map];show (pairsOf vs).size≤_;rw [pairsOf_size,Br];omega))
  simp only [bne_self_eq_false,CP,if_false]
  refine AB ?_
  have:=h (List.range vs.length).toArray ⟨Array.Perm.refl _⟩ fun i j hij hj=>by
   have:i=j:=by omega
   subst this;exact BG _
  have e:List.toArray ((List.range vs.length).toArray.toList.map fun i=>vs.getD i Value.none)=(arrOf (SortSt.mk' general' (vs.toArray.zip vs.toArray) #[] 7 none)).map (·.2):=qAU hsz h2
  rw [e] at this
  exact this
 ·rw [AQ h2,AQ h2]
  have h2':2≤vs.length:=by omega
  refine AA (hk h2' _ _ keep ?_)
  have hw:(kas_sort vs.length).kasWp (kas_ask prog w A κ vs) (fun p s'=>s'={ s with heap:=((s.heap.update a (Obj.mapSeq fun _ => #[])).push (seqObj "tuple" vs.toArray 0)).push (seqObj "list" #[] 0) }∧PB vs.length p∧Srt key p vs.length) { s with heap:=((s.heap.update a (Obj.mapSeq fun _ => #[])).push (seqObj "tuple" vs.toArray 0)).push (seqObj "list" #[] 0) } :=
   jp (O:=O) (key:=key) (n:=vs.length) (fun i j C hi hj hC=>hc _ i j C keep hi hj hC) (P:=fun p=>PB vs.length p∧Srt key p vs.length) (fun p hp=>⟨rfl,hp⟩) _ (qD0 (by omega))
  refine AA (BD (kat_run (Q:=fun st' s' => ∃ p:Array Nat,p.size=vs.length∧arrOf st'=p.map (kas_item (vs.toArray.zip vs.toArray))∧failedOf st'=none∧s'={ s with heap:=((s.heap.update a (Obj.mapSeq fun _ => #[])).push (seqObj "tuple" vs.toArray 0)).push (seqObj "list" #[] 0) }∧PB vs.length p∧Srt key p vs.length)
   rfl h2' h64 (fun p' st' s' a1 a2 a3 a4=>⟨p',a1,a2,a3,a4⟩) hw) ?_ fun _ _ e=>e)
  rintro ⟨⟨⟩,st'⟩ s' ⟨p,hp,har,hf,rfl,B,S⟩
  dsimp only
  have hout:=kat_snds rfl har
  refine AA (seqEpoch_at ho6 rfl ?_)
  refine AA (listUpdate_at ho6 rfl ?_ (hsz2:=by rw [hout,AM,AE,Ab,hp,Br];omega))
  rw [hf]
  simp only [bne_self_eq_false,CP,if_false]
  rw [hout]
  exact AB (h p B S)
theorem jZ {l:Addr} {vs:List Value} {Q:List Value->Shared->Prop} (hl:∃ o,s.heap.get? l=some o∧o.cls = .type "tuple" ∧ ∃ n,o.data = .seq vs.toArray n) (hz:vs.length≤sizeLine)
  (h:Q vs { s with heap:=(s.heap.push (seqObj "list" #[] 0)).update s.heap.objs.size (Obj.mapSeq (· ++ vs.toArray)) }):wpAny (model prog w) A (collect (.ref l)) Q E s:=by
 obtain ⟨ob,g1,g2,nn,g3⟩:=hl
 unfold collect
 refine AA (wpAny_runValue (Au entry_proto_collect' ?_))
 show wpAny _ _ (do again (.builtin "list.__iadd__" ⟨[← newList [],.ref l],[]⟩)) _ _ s
 refine AA (Bp (AB ⟨Code.quiet_builtin _ (by decide +kernel),Au entry_list_iadd' ?_⟩))
 show wpAny _ _ (Builtin.List.listExtendWith (.ref s.heap.objs.size) (.ref l) (.ref s.heap.objs.size)) _ _ { s with heap:=s.heap.push (seqObj "list" #[] 0) }
 unfold Builtin.List.listExtendWith
 have g4:(s.heap.push (seqObj "list" #[] 0)).get? l=some ob:=AC _ g1
 refine AA (BY (T := "tuple") ⟨ob,g4,g2⟩ ?_)
 have g5:(Value.type "tuple" == Value.type "tuple")=true:=by rfl
 rw [AI (by rw [g5];simp)]
 refine AA (listItems_at g4 g3 ?_)
 refine AA (listItems_at (xs := #[]) (n:=0) (AR _ rfl) rfl ?_)
 rw [AQ (by simp)]
 refine AA (listUpdate_at (xs := #[]) (n:=0) (AR _ rfl) rfl ?_ (BJ _) (by show (#[]++vs.toArray).size≤sizeLine + 1;simp only [Array.size_append,AM,CL];omega))
 refine AB ?_
 show wpAny _ _ (load s.heap.objs.size >>= _) Q E _
 refine AA (wpAny_load (get?_update_seq (AR _ rfl) _) ?_)
 show wpAny _ _ (pure ((#[]:Array Value)++vs.toArray).toList) Q E _
 rw [show ((#[]:Array Value)++vs.toArray).toList=vs by simp]
 exact AB h
theorem qAv {l:Addr} {vs:List Value} {Q:Value->Shared->Prop} {key:Nat->O.α} {κ:SortKind} (hcol:∀ {E':Value->Shared->Prop} {Q':List Value->Shared->Prop},Q' vs { s with heap:=(s.heap.push (seqObj "list" #[] 0)).update s.heap.objs.size (Obj.mapSeq (· ++ vs.toArray)) }->wpAny (model prog w) A.in1 (collect (.ref l)) Q' E' s) (h64:vs.length < 64)
  (hk:2≤vs.length -> ∀ (A':Around) (E':Value->Shared->Prop) (h6:Heap) (Q:SortKind->Shared->Prop),(∀ b o,s.heap.get? b=some o->h6.get? b=some o)->Q κ { s with heap:=h6 }->wpAny (model prog w) A' (keyKind' vs.toArray) Q E' { s with heap:=h6 })
  (hc:∀ (h6:Heap) (i j:Nat) (C:Bool->Shared->Prop),(∀ b o,s.heap.get? b=some o->h6.get? b=some o)->i < vs.length->j < vs.length->C (O.blt (key i) (key j)) { s with heap:=h6 }->wpAny (model prog w) A.in1.in1 (keyLt' κ (vs.getD i Value.none) (vs.getD j Value.none)) C (fun _ _=>False) { s with heap:=h6 })
  (h:∀ p:Array Nat,PB vs.length p->Srt key p vs.length->Q (.ref (s.heap.objs.size + 1)) { s with heap:=sortedAll s.heap vs (List.toArray (p.toList.map fun i=>vs.getD i Value.none)) }) :
  wpAny (model prog w) A (call (.builtin "sorted") [.ref l]) Q E s:=by
 refine Calls.call_function_entry kind_sorted plain_sorted entry_sorted (args_sorted1 _) ?_
 unfold Builtin.«sorted»
 refine AA (m:=checkCount "sorted" 1 1 _) (AB ?_)
 refine AA (hcol ?_)
 refine AA (Bp ?_ (by rw [Br];omega))
 have hsz:((s.heap.push (seqObj "list" #[] 0)).update s.heap.objs.size (Obj.mapSeq (· ++ vs.toArray))).objs.size=s.heap.objs.size + 1:=by
  rw [Bt,size_push']
 have hoL:(((s.heap.push (seqObj "list" #[] 0)).update s.heap.objs.size (Obj.mapSeq (· ++ vs.toArray))).push (seqObj "list" vs.toArray 0)).get? (s.heap.objs.size + 1)=some (seqObj "list" vs.toArray 0):=by
  rw [← hsz];exact AR _ rfl
 have keep:∀ b o,s.heap.get? b=some o->(((s.heap.push (seqObj "list" #[] 0)).update s.heap.objs.size (Obj.mapSeq (· ++ vs.toArray))).push (seqObj "list" vs.toArray 0)).get? b=some o:=fun b o q=>by
  have hlt:b < s.heap.objs.size:=AJ q
  rw [Heap.get?_push_ne _ _ _ (by rw [hsz];exact AT (At hlt)),Heap.get?_update_ne _ _ _ _ (AT hlt),Heap.get?_push_ne _ _ _ (AT hlt)]
  exact q
 show wpAny _ _ _ _ _ { s with heap:=((s.heap.push (seqObj "list" #[] 0)).update s.heap.objs.size (Obj.mapSeq (· ++ vs.toArray))).push (seqObj "list" vs.toArray 0) }
 rw [hsz]
 have hne:∀ b o,s.heap.get? b=some o->b≠s.heap.objs.size + 1:=fun b o q=>AT (At (AJ q))
 refine AA (Ai (A9 slot_list_sort ⟨_,hoL,rfl⟩ entry_list_sort (qDb (O:=O) (key:=key) (κ:=κ) hoL h64 (fun h2 h6 Q' k q=>hk h2 _ _ h6 Q' (fun b o hb=>k b o (hne b o hb) (keep b o hb)) q) (fun h6 i j C k hi hj q=>hc h6 i j C (fun b o hb=>k b o (hne b o hb) (keep b o hb)) hi hj q) fun p a1 a2=>⟨_,rfl,?_⟩) (args_list_sort _)))
 exact AB ⟨_,rfl,h p a1 a2⟩
end
def lxb:List Int->List Int->Bool
 |_,[]=>false
 |[],_::_=>true
 |a::l,b::m=>if a < b then true else if b < a then false else lxb l m
theorem Zj:∀ l,lxb l l=false
 |[]=>rfl
 |a::l=>by rw [lxb,AQ (Int.lt_irrefl a),AQ (Int.lt_irrefl a)];exact Zj l
theorem JY:∀ a b c,lxb a b=true->lxb b c=true->lxb a c=true
 |_,_,[],_,h=>by
  cases ‹List Int› <;> simp [lxb] at h
 |_,[],_::_,h,_=>by simp [lxb] at h
 |[],_::_,_::_,_,_=>rfl
 |x::l,y::m,z::n,h1,h2=>by
  unfold lxb at h1 h2 ⊢
  by_cases hxy:x < y
  ·by_cases hyz:y < z
   ·rw [AI (by omega)]
   ·rw [AQ hyz] at h2
    by_cases hzy:z < y
    ·rw [AI hzy] at h2;cases h2
    ·rw [AI (by omega)]
  ·rw [AQ hxy] at h1
   by_cases hyx:y < x
   ·rw [AI hyx] at h1;cases h1
   ·rw [AQ hyx] at h1
    by_cases hyz:y < z
    ·rw [AI (by omega)]
    ·rw [AQ hyz] at h2
     by_cases hzy:z < y
     ·rw [AI hzy] at h2;cases h2
     ·rw [AQ hzy] at h2
      rw [AQ (by omega),AQ (by omega)]
      exact JY l m n h1 h2
theorem Zk:∀ a b,lxb a b=false->lxb b a=false->a=b
 |[],[],_,_=>rfl
 |[],_::_,h,_=>by cases h
 |_::_,[],_,h=>by cases h
 |x::l,y::m,h1,h2=>by
  unfold lxb at h1 h2
  by_cases hxy:x < y
  ·rw [AI hxy] at h1;cases h1
  ·by_cases hyx:y < x
   ·rw [AI hyx] at h2;cases h2
   ·rw [AQ hxy,AQ hyx] at h1
    rw [AQ hyx,AQ hxy] at h2
    have:x=y:=by omega
    rw [this,Zk l m h1 h2]
def lxO:KeyOrd where
 α:=List Int
 blt:=lxb
 irrefl:=Zj
 trans:=JY
 total:=Zk
 negTrans:=fun a b c h=>by
  cases h1:lxb a b with
  |true=>exact .inl rfl
  |false =>
   right
   cases h2:lxb b a with
   |true=>exact JY b a c h2 h
   |false=>rw [← Zk a b h1 h2];exact h
section
variable {prog:Program} {w:World} {A:Around} {E:Value->Shared->Prop} {s:Shared}
theorem qD6 (b:Bool) {x y:Int} {t u:Tok} {Q:Bool->Shared->Prop} (h:Q (decide (x < y)) s):wpAny (model prog w) A (oneLt' b (.int x t) (.int y u)) Q E s:=by
 cases b with
 |true=>exact oneLt_int h
 |false=>exact kat_one _ _ (wpAny_lt_int h)
theorem qFt {b fin:Bool} {Q:Bool->Shared->Prop} {ks:List Int} {vs:List Value} (hx:ItemsAre (intKind prog w) ks vs):∀ {ks':List Int} {us:List Value} (i:Nat),ItemsAre (intKind prog w) ks' us->decide (vs.length < us.length)=fin->Q (lxb ks ks') s->KatLex prog w A b fin Q (vs.zip us) i s:=by
 induction hx with
 |nil =>
  intro ks' us i hy hf h
  refine kat_nil ?_
  cases hy with
  |nil=>rw [← hf];exact h
  |cons _ _=>rw [← hf,CL,AO,AV (Nat.succ_pos _)];exact h
 | @cons k v ks vs h1 h2 ih =>
  intro ks' us i hy hf h
  cases hy with
  |nil=>refine kat_nil ?_;rw [← hf];exact h
  | @cons k' u ks' us g1 g2 =>
   rw [BU]
   refine kat_cons ((intKind prog w).eqBool h1 g1 ?_)
   obtain ⟨n1,t1,rfl⟩:=yP (.cons h1 h2) v AK
   obtain ⟨n2,t2,rfl⟩:=yP (.cons g1 g2) u AK
   have e1:n1=k:=(intKind prog w).inj _ _ _ (CF prog w n1 t1) h1
   have e2:n2=k':=(intKind prog w).inj _ _ _ (CF prog w n2 t2) g1
   subst e1;subst e2
   unfold lxb at h
   by_cases hq:n1=n2
   ·rw [AV hq]
    rw [AQ (by omega),AQ (by omega)] at h
    exact kat_yes (ih (i + 1) g2 (by simpa using hf) h)
   ·rw [AY hq]
    refine kat_no (qD6 _ ?_)
    by_cases hl:n1 < n2
    ·rw [AI hl] at h;rw [AV hl];exact h
    ·rw [AQ hl,AI (by omega)] at h;rw [AY hl];exact h
theorem qGe {b:Bool} {ks ks':List Int} {x y:Addr} {Q:Bool->Shared->Prop} (hx:TK prog w s.heap ks x) (hy:TK prog w s.heap ks' y) (h:Q (lxb ks ks') s):wpAny (model prog w) A (keyLt' (tuples' b) (.ref x) (.ref y)) Q E s:=by
 obtain ⟨ox,xs,n,h1,_,h3,h4⟩:=hx
 obtain ⟨oy,ys,m,g1,_,g3,g4⟩:=hy
 exact kat_lt h1 h3 g1 g3 (qFt h4 0 g4 (by simp) h)
inductive TsV (prog:Program) (w:World) (h:Heap):List Value->List (List Int)->Prop
 |nil:TsV prog w h [] []
 |cons {ks:List Int} {b:Addr} {vs:List Value} {kss:List (List Int)}:TK prog w h ks b->ks≠[]->TsV prog w h vs kss->TsV prog w h (.ref b::vs) (ks::kss)
theorem TsV.len {h:Heap} {vs:List Value} {kss:List (List Int)} (e:TsV prog w h vs kss):vs.length=kss.length:=by
 induction e with
 |nil=>rfl
 |cons _ _ _ ih=>rw [AO,AO,ih]
theorem TsV.keep {h h':Heap} {vs:List Value} {kss:List (List Int)} (e:TsV prog w h vs kss) (k:∀ b o,(∃ ks,TK prog w h ks b)->h.get? b=some o->h'.get? b=some o):TsV prog w h' vs kss:=by
 induction e with
 |nil=>exact .nil
 |cons a ne _ ih=>exact .cons (a.keep fun o=>k _ o ⟨_,a⟩) ne ih
theorem TsV.get {h:Heap} {vs:List Value} {kss:List (List Int)} (e:TsV prog w h vs kss):∀ {i:Nat},i < vs.length -> ∃ b,vs.getD i Value.none = .ref b∧TK prog w h (kss.getD i []) b:=by
 induction e with
 |nil=>intro i hi;exact absurd hi (Nat.not_lt_zero _)
 | @cons ks b vs kss a _ _ ih =>
  intro i hi
  cases i with
  |zero=>exact ⟨b,rfl,a⟩
  |succ i=>simpa using ih (i:=i) (by simpa using hi)
theorem TsV.kat {h:Heap} {vs:List Value} {kss:List (List Int)} (e:TsV prog w h vs kss):∃ fs:List Value,KatTups h vs fs∧fs.length=vs.length ∧ ∀ v∈fs,∃ n t,v=Value.int n t:=by
 induction e with
 |nil=>exact ⟨[],KatTups.nil,rfl,fun v hv=>(Aj hv).elim⟩
 | @cons ks b vs kss a ne _ ih =>
  obtain ⟨fs,h1,h2,h3⟩:=ih
  obtain ⟨o,its,n,g1,g2,g3,g4⟩:=a
  have hv:=yP g4
  cases hq:its.toList with
  |nil =>
   rw [hq] at g4
   cases g4
   exact absurd rfl ne
  |cons f r =>
   have hf:its[0]? = some f:=by rw [← Array.getElem?_toList,hq];rfl
   refine ⟨f::fs,KatTups.cons g1 g2 g3 hf h1,by rw [AO,AO,h2],fun v hv' => ?_⟩
   rcases AH.mp hv' with q |q
   ·rw [q];exact hv f (by rw [hq];exact AK)
   ·exact h3 v q
theorem qFO {vs:List Value} {kss:List (List Int)} {Q:SortKind->Shared->Prop} (e:TsV prog w s.heap vs kss) (h2:2≤vs.length) (h:Q (tuples' true) s):wpAny (model prog w) A (keyKind' vs.toArray) Q E s:=by
 obtain ⟨fs,h1,h3,h4⟩:=e.kat
 refine kat_kind (T := .type "int") h1 (by omega) (fun v hv => ?_) (by decide) ?_
 ·obtain ⟨n,t,rfl⟩:=h4 v hv
  exact .now
 ·rw [show (Value.type "int" != Value.type "tuple")=true by decide];exact h
def srt (kss:List (List Int)):List (List Int):=kss.mergeSort fun a b => !lxb b a
theorem wS (kss:List (List Int)):(srt kss).Perm kss:=List.mergeSort_perm _ _
theorem qBd (kss:List (List Int)):(srt kss).Pairwise fun a b=>lxb b a=false:=by
 have:=List.pairwise_mergeSort (le:=fun a b:List Int => !lxb b a) (fun a b c h1 h2=>by
  simp only [Bool.not_eq_eq_eq_not,Bool.not_true] at h1 h2 ⊢
  exact CH (O:=lxO) h1 h2) (fun a b=>by
  cases h:lxb b a with
  |false=>simp
  |true =>
   have:lxb a b=false:=B5 (O:=lxO) (a:=b) (b:=a) h
   simp [this]) kss
 exact this.imp fun h=>by simpa using h
theorem qEK:∀ {l m:List (List Int)},l.Pairwise (fun a b=>lxb b a=false)->m.Pairwise (fun a b=>lxb b a=false)->l.Perm m->l=m
 |[],m,_,_,p=>(List.Perm.eq_nil p.symm).symm
 |x::l,[],_,_,p=>by have:=p.length_eq;simp at this
 |x::l,y::m,hl,hm,p=>by
  have hx:x∈y::m:=p.mem_iff.mp AK
  have hy:y∈x::l:=p.mem_iff.mpr AK
  have e:x=y:=by
   have h1:lxb y x=false:=by
    rcases AH.mp hy with q |q
    ·rw [q];exact Zj _
    ·exact (A5.mp hl).1 y q
   have h2:lxb x y=false:=by
    rcases AH.mp hx with q |q
    ·rw [q];exact Zj _
    ·exact (A5.mp hm).1 x q
   exact Zk _ _ h2 h1
  subst e
  rw [qEK (A5.mp hl).2 (A5.mp hm).2 (List.Perm.cons_inv p)]
theorem qF9 {h:Heap} {vs:List Value} {kss:List (List Int)} (e:TsV prog w h vs kss) {p:Array Nat} (B:PB vs.length p) (S:Srt (O:=lxO) (fun i=>kss.getD i []) p vs.length):p.toList.map (fun i=>kss.getD i [])=srt kss:=by
 have hsz:=B.size
 refine qEK ?_ (qBd kss) ?_
 ·rw [B6,List.pairwise_iff_getElem]
  intro i j hi hj hij
  have:=S i j (by omega) (by rw [Ab] at hj;omega)
  unfold kq at this
  rw [Ag,Ag,BV (by simpa using hi),BV (by simpa using hj)] at this
  exact this
 ·refine ((Array.perm_iff_toList_perm.mp B.perm).map _).trans (.trans ?_ (wS kss).symm)
  have:(List.range vs.length).map (fun i=>kss.getD i [])=kss:=by
   rw [e.len]
   refine List.ext_getElem (by simp) fun i h1 h2 => ?_
   simp [AF,AD h2]
  show ((List.range vs.length).map fun i=>kss.getD i []).Perm kss
  rw [this]
end
end ET
end
section
namespace ET
open PySem PySem.Spec PyProof.Rows L2 PySem.W
open EX
section
variable {prog:Program} {w:World} {A:Around} {E:Value->Shared->Prop} {s:Shared}
theorem TsV.pick {h:Heap} {vs:List Value} {kss:List (List Int)} (e:TsV prog w h vs kss) (hne:∀ ks∈kss,ks≠[]):∀ (l:List Nat),(∀ i∈l,i < vs.length)->TsV prog w h (l.map fun i=>vs.getD i Value.none) (l.map fun i=>kss.getD i [])
 |[],_ => .nil
 |i::l,hl=>by
  have hi:=hl i AK
  obtain ⟨b,h1,h2⟩:=e.get hi
  rw [AN,AN,h1]
  refine .cons h2 ?_ (e.pick hne l fun j hj=>hl j (AG _ hj))
  have hk:i < kss.length:=by rw [← e.len];exact hi
  refine hne _ ?_
  rw [AF,AD hk]
  exact BO hk
theorem TsV.ne {h:Heap} {vs:List Value} {kss:List (List Int)} (e:TsV prog w h vs kss):∀ ks∈kss,ks≠[]:=by
 induction e with
 |nil=>intro ks hk;cases hk
 |cons _ ne _ ih =>
  intro ks hk
  rcases AH.mp hk with q |q
  ·rw [q];exact ne
  ·exact ih ks q
theorem PB.mem {n:Nat} {p:Array Nat} (B:PB n p):∀ i∈p.toList,i < n:=fun i hi=>by
 have:=(Array.perm_iff_toList_perm.mp B.perm).mem_iff.mp hi
 simpa using this
end
inductive TsL (K:W.Frag) (H:Hp):List V->List (List Int)->Prop
 |nil:TsL K H [] []
 |cons {a:Addr} {ks:List Int} {xs:List V} {kss:List (List Int)}:SqT K H a (ks.map V.int)->ks≠[]->TsL K H xs kss->TsL K H (.ref a::xs) (ks::kss)
section
variable {X:Cx} {pins:List (Addr×Obj)} {σ:L2.St} {H:Hp} {s:Shared}
theorem jD {prog:Program} {w:World}:∀ {ks:List Int} {its:List Value},Vals (ks.map V.int) its->ItemsAre (intKind prog w) ks its
 |[],its,h=>by
  cases its with
  |nil=>exact .nil
  |cons u us=>cases h
 |k::ks,its,h=>by
  rw [AN] at h
  cases h with
  |cons r t =>
   obtain ⟨tk,rfl⟩:=(show ∃ t,_=Value.int k t from r)
   exact .cons (CF prog w k tk) (jD t)
theorem qEH (I:L2.Inv X pins σ H s) {a:Addr} {ks:List Int} (h:SqT X.K H a (ks.map V.int)):TK X.prog X.w s.heap ks a:=by
 obtain ⟨its,rv,⟨o,h1,h2,n,h3⟩,hz⟩:=I.tuple h
 exact ⟨o,its.toArray,n,h1,h2,h3,jD rv⟩
theorem qFG (I:L2.Inv X pins σ H s) {xs:List V} {kss:List (List Int)} (h:TsL X.K H xs kss):∀ {its:List Value},Vals xs its->TsV X.prog X.w s.heap its kss:=by
 induction h with
 |nil=>intro its hv;cases hv;exact .nil
 | @cons a ks xs kss h1 ne _ ih =>
  intro its hv
  cases hv with
  |cons r t =>
   obtain rfl:=(show _=Value.ref a from r)
   exact .cons (qEH I h1) ne (ih t)
theorem TsL.mem {xs:List V} {kss:List (List Int)} (h:TsL X.K H xs kss):∀ x∈xs,∃ a ks,x = .ref a∧SqT X.K H a (ks.map V.int)∧ks≠[]:=by
 induction h with
 |nil=>intro x hx;cases hx
 |cons h1 ne _ ih =>
  intro x hx
  rcases AH.mp hx with q |q
  ·exact ⟨_,_,q,h1,ne⟩
  ·exact ih x q
theorem qAm {xs:List V} {its:List Value} (h:Vals xs its):∀ b,Value.ref b∈its->(∀ x∈xs,∃ a,x=V.ref a)->V.ref b∈xs:=by
 induction h with
 |nil=>intro b hb;cases hb
 | @cons x u xs us r t ih =>
  intro b hb hx
  obtain ⟨a,rfl⟩:=hx _ AK
  obtain rfl:=(show u=Value.ref a from r)
  rcases AH.mp hb with q |q
  ·cases q;exact AK
  ·exact AG _ (ih b q fun y hy=>hx y (AG _ hy))
theorem TsL.zip {xs:List V} {kss:List (List Int)} (h:TsL X.K H xs kss):∀ a,V.ref a∈xs -> ∃ ks,(V.ref a,ks)∈xs.zip kss∧SqT X.K H a (ks.map V.int):=by
 induction h with
 |nil=>intro a hx;cases hx
 | @cons b ks xs kss h1 ne _ ih =>
  intro a hx
  rw [BU]
  rcases AH.mp hx with q |q
  ·cases q;exact ⟨ks,AK,h1⟩
  ·obtain ⟨ks,i1,i2⟩:=ih a q
   exact ⟨ks,AG _ i1,i2⟩
theorem qFB (I:L2.Inv X pins σ H s) {xs:List V} {kss0:List (List Int)} (T:TsL X.K H xs kss0) {its:List Value} (rv:Vals xs its) {h':Heap} (hk:∀ b o,s.heap.get? b=some o->h'.get? b=some o) :
  ∀ {out:List Value} {kss:List (List Int)},TsV X.prog X.w h' out kss->(∀ v∈out,v∈its) -> ∃ L:List (V×List Int),L.map (·.2)=kss∧Vals (L.map (·.1)) out ∧ ∀ q∈L,q∈xs.zip kss0:=by
 intro out kss V
 induction V with
 |nil=>intro _;exact ⟨[],rfl,.nil,fun y hy=>(Aj hy).elim⟩
 | @cons ks b vs kss k ne _ ih =>
  intro hin
  obtain ⟨L,h1,h2,h3⟩:=ih fun v hv=>hin v (AG _ hv)
  have hm:=qAm rv b (hin _ AK) fun x hx=>by obtain ⟨a,_,e,_⟩:=T.mem x hx;exact ⟨a,e⟩
  obtain ⟨ks2,hz,hs⟩:=T.zip b hm
  have k2:TK X.prog X.w h' ks2 b:=(qEH I hs).keep fun o=>hk b o
  have:=k.inj k2
  subst this
  exact ⟨(.ref b,ks)::L,by rw [AN,h1],.cons rfl h2,fun y hy=>(AH.mp hy).elim (fun z=>by rw [z];exact hz) (h3 y)⟩
end
section
variable {X:Cx} {e:Expr} {te:TE} {p p2 pos pos2:Pos}
def qEx (K:W.Frag) (te:TE):TE:=fun σ H Q=>te σ H fun x H1 => ∃ a xs kss,x = .ref a∧(SqL K H1 a xs∨SqT K H1 a xs)∧TsL K H1 xs kss∧kss.length < 64 ∧ ∀ p (L:List (V×List Int)),H1 p=none->(∀ q∈L,q∈xs.zip kss)->L.map (·.2)=srt kss->Q (.ref p) (upd H1 p (.lst (L.map (·.1))))
theorem qBw (hu:X.A.units + 64 < cLine) (hg:Gl X "sorted") (hm:X.mg "sorted" = none) (he:PE X e te) (h1:starEach [e] X.env=(false,eval e X.env)::starEach [] X.env:=by rfl) :
  PE X (.Call (.Name "sorted" p) [e] [] pos) (qEx X.K te):=by
 intro pins s σ H Q I h
 refine BQ (Wm I hg hm PyProof.Rows.boot_sorted ?_ (by decide) (by decide))
 refine PyProof.Rows.callWith_builtin1 ?_ h1 rfl
 rw [h1]
 show wpAny _ _ (spliced ((false,eval e X.env)::[])) _ _ s
 refine By (thn (he pins s σ H _ I h) fun u s1 ⟨x,H1,I1,r1,q1⟩=>B3 ?_)
 obtain ⟨a,xs,kss,rfl,hq,T,h64,q⟩:=q1
 cases r1
 obtain ⟨its,rv,hcol⟩:∃ its,Vals xs its∧(its.length < 64 -> ∀ {E':Value->Shared->Prop} {Q':List Value->Shared->Prop},Q' its { s1 with heap:=(s1.heap.push (seqObj "list" #[] 0)).update s1.heap.objs.size (Obj.mapSeq (· ++ its.toArray)) }->wpAny (model X.prog X.w) X.A.in1 (collect (.ref a)) Q' E' s1):=by
  rcases hq with hq |hq
  ·obtain ⟨its,rv,ht,_⟩:=I1.list hq
   exact ⟨its,rv,fun h _ _ q=>collect_list ht.isList q (by rw [Br];omega)⟩
  ·obtain ⟨its,rv,ht,_⟩:=I1.tuple hq
   exact ⟨its,rv,fun h _ _ q=>jZ ht (by rw [Br];omega) q⟩
 have V:=qFG I1 T rv
 have hl:=V.len
 refine qAv (O:=lxO) (key:=fun i=>kss.getD i []) (κ:=tuples' true) (s:=s1) (vs:=its) (hcol (by omega)) (by omega) (fun h2 A' E' h6 Q' k q'=>qFO (s:={ s1 with heap:=h6 }) (V.keep fun b o _ ho=>k b o ho) h2 q') (fun h6 i j C k hi hj q' => ?_) fun pp B S => ?_
 ·obtain ⟨b,e1,k1⟩:=V.get hi
  obtain ⟨c,e2,k2⟩:=V.get hj
  rw [e1,e2]
  exact qGe (s:={ s1 with heap:=h6 }) (k1.keep fun o=>k b o) (k2.keep fun o=>k c o) q'
 ·have V2:=V.pick V.ne pp.toList B.mem
  rw [qF9 V B S] at V2
  have keep:∀ b o,s1.heap.get? b=some o->(sortedAll s1.heap its (List.toArray (pp.toList.map fun i=>its.getD i Value.none))).get? b=some o:=fun b o hb=>sortedAll_old hb
  obtain ⟨L,lk,rv2,hin2⟩:=qFB I1 T rv keep (V2.keep fun b o _ ho=>keep b o ho) fun v hv=>by
   obtain ⟨i,hi,rfl⟩:=AX.mp hv
   have hi:=B.mem i hi
   rw [AF,AD hi]
   exact BO hi
  obtain ⟨e',he'⟩:=sortedAll_at s1.heap its (List.toArray (pp.toList.map fun i=>its.getD i Value.none))
  have hlen:(L.map (·.1)).length≤sizeLine:=by rw [rv2.length,AE,Ab,B.size,Br];omega
  refine ⟨.ref (s1.heap.objs.size + 1),_,I1.laid (t':=s1.toks) (o := .lst (L.map (·.1))) keep (Nat.le_succ _) ⟨hlen,_,e',rv2,he'⟩,rfl,q _ L (I1.hok.fresh (Nat.le_succ _)) hin2 lk⟩
end
open EX
end ET
namespace EV
open PySem PySem.Spec PyProof.Rows L2 EX ET
def jY:PV->Option (List Int)
 | .tup (p::l)=>QH yT (p::l)
 |_=>none
def YN (ks:List Int):PV := .tup (ks.map PV.int)
section
variable {K:W.Frag} {H:Hp} {b:Bz}
theorem qC0 {p:PV} {v:V} {ks:List Int} (r:RV K H b p v) (h:jY p=some ks):∃ a,v = .ref a∧SqT K H a (ks.map V.int)∧ks≠[]∧RV K H b (YN ks) v:=by
 unfold jY at h
 split at h
 ·rename_i p l
  have r':=r
  unfold RV at r
  obtain ⟨a,xs,rfl,h2,h3⟩:=r
  have e:=zI h3 h
  subst e
  refine ⟨a,rfl,h2.sq,?_,?_⟩
  ·intro z
   subst z
   have:=h3.length
   simp at this
  ·unfold YN RV
   exact ⟨a,ks.map V.int,rfl,h2,WX ks⟩
 ·cases h
theorem qCi:∀ {l:List PV} {xs:List V} {kss:List (List Int)},RVs K H b l xs->QH jY l=some kss->TsL K H xs kss ∧ ∀ q∈xs.zip kss,RV K H b (YN q.2) q.1
 |[],xs,kss,r,h=>by
  unfold RVs at r;subst r
  cases h
  exact ⟨.nil,fun q hq=>(Aj hq).elim⟩
 |p::l,xs,kss,r,h=>by
  unfold RVs at r
  obtain ⟨x,t,rfl,h2,h3⟩:=r
  unfold QH at h
  cases e1:jY p with
  |none=>rw [e1] at h;cases h
  |some ks =>
   rw [e1] at h
   dsimp only at h
   cases e2:QH jY l with
   |none=>rw [e2] at h;cases h
   |some kss' =>
    rw [e2] at h
    cases h
    obtain ⟨a,rfl,h4,h5,h6⟩:=qC0 h2 e1
    obtain ⟨i1,i2⟩:=qCi h3 e2
    refine ⟨.cons h4 h5 i1,fun q hq => ?_⟩
    rw [BU] at hq
    rcases AH.mp hq with z |z
    ·rw [z];exact h6
    ·exact i2 q z
theorem yi {xs:List V} {kss:List (List Int)} (hr:∀ q∈xs.zip kss,RV K H b (YN q.2) q.1):∀ {L:List (V×List Int)},(∀ q∈L,q∈xs.zip kss)->RVs K H b ((L.map (·.2)).map YN) (L.map (·.1))
 |[],_=>RVs.nil
 |q::L,h=>by
  rw [AN,AN,AN]
  exact RVs.cons (hr q (h q AK)) (yi hr fun y hy=>h y (AG _ hy))
end
section
variable {X:Cx} {E:XK} {e:Expr} {f:FE} {p p2 pos pos2:Pos}
def Z1:PV->qB->Rs PV:=fun q st=>match zj st q with
 |some l=>match QH jY l with
  |some kss=>if kss.length < 64 then .ok (.lst ((srt kss).map YN)) st else .no
  |none => .no
 |none => .no
def Ya (f:FE):FE:=fun r st=>(f r st).bind Z1
theorem qBj (hu:X.A.units + 64 < cLine) (hm:X.mg "sorted" = none) (h:VE X E e f) (hg:Gl X "sorted" := by rfl) (h1:starEach [e] X.env=(false,eval e X.env)::starEach [] X.env:=by rfl) :
  VE X E (.Call (.Name "sorted" p) [e] [] pos) (Ya f) :=
 PE.imp (qBw hu hg hm h h1) fun s H Q ⟨b,r,st,S,R,P⟩=>⟨b,r,st,S,R,PostE.bind P fun q s1 u H1 b1 e1 S1 r1 P1=>by
  unfold Z1 at P1
  split at P1
  ·rename_i l el
   split at P1
   ·rename_i kss ek
    split at P1
    ·rename_i hn
     obtain ⟨x,xs,rfl,h2,h3⟩:=YY S1 r1 el
     obtain ⟨T,hr⟩:=qCi h3 ek
     exact ⟨x,xs,kss,rfl,h2,T,hn,fun p L hp hin hL=>PostN.lay (PostN.of (r := .ok ((srt kss).map YN) s1) P1) S1 (by rw [← hL];exact yi hr hin) hp⟩
    ·exact P1.elim
   ·exact P1.elim
  ·exact P1.elim⟩
end
end EV
end
section
namespace EJ
open PySem PySem.Spec PyProof.Rows L2 PySem.W EX ET
end EJ
namespace EV
open PySem PySem.Spec PyProof.Rows L2 EX ET EJ
end EV
end
section
namespace EX
open PySem PySem.Spec PyProof.Rows L2 PySem.W
end EX
namespace EX
open PySem PySem.Spec PyProof.Rows L2 PySem.W
end EX
namespace EV
open PySem PySem.Spec PyProof.Rows L2 EX
end EV
end
section
namespace EX
open PySem PySem.Spec PyProof.Rows L2 PySem.W
end EX
namespace EV
open PySem PySem.Spec PyProof.Rows L2 EX ET
end EV
end
section
namespace EX
open PySem PySem.Spec PyProof.Rows L2
end EX
namespace EV
open PySem PySem.Spec PyProof.Rows L2 EX
end EV
end
section
namespace EX
open PySem PySem.Spec PyProof.Rows L2 PySem.W
end EX
namespace EV
open PySem PySem.Spec PyProof.Rows L2 EX
end EV
end
section
namespace EX
open PySem PySem.Spec PyProof.Rows L2 PySem.W
end EX
namespace EV
open PySem PySem.Spec PyProof.Rows L2 EX
end EV
end
section
namespace EX
open PySem PySem.Spec PyProof.Rows L2
end EX
namespace EV
open PySem PySem.Spec PyProof.Rows L2 EX
end EV
end
section
namespace ET
open PySem PySem.Spec PyProof.Rows L2 PySem.W
open EX
end ET
namespace EV
open PySem PySem.Spec PyProof.Rows L2 EX ET
end EV
end
section
namespace EV
open PySem PySem.Spec PyProof.Rows L2 EX
def jv:PV->Option L2.Key
 | .int i=>some (.inl i)
 |_=>none
section
variable {X:Cx} {E:XK} {e a c d o:Expr} {es:List Expr} {f fa fb fc fd fk fx:FE} {pos:Pos} {F G:FS}
theorem Yc {K:W.Frag} {H:Hp} {b:Bz} {p:PV} {v:V} {k:L2.Key} (r:RV K H b p v) (h:jv p=some k):v=kV k:=by
 unfold jv at h
 split at h
 ·cases h;unfold RV at r;exact r
 ·cases h
def kAt (st:qB) (i:Nat):Option (List (L2.Key×PV)):=match st[i]? with
 |some (.k kvs)=>some kvs
 |some (.y kvs)=>some kvs
 |_=>none
theorem qBL {K:W.Frag} {H:Hp} {b:Bz} {st:qB} {i:Nat} {a:Addr} {kvs:List (L2.Key×PV)} (S:SR K H b st) (ha:b.b[i]? = some a) (h:kAt st i=some kvs):∃ vs,Rd H a (.dK vs)∧kvs.map (·.1)=vs.map (·.1)∧RVs K H b (kvs.map (·.2)) (vs.map (·.2)):=by
 unfold kAt at h
 split at h
 ·rename_i q e
  cases h
  obtain ⟨a',o,h1,h2,vs,rfl,h3,h4⟩:=S.at_ i _ e
  rw [ha] at h1;cases h1
  exact ⟨vs,.inl h2,h3,h4⟩
 ·rename_i q e
  cases h
  obtain ⟨a',o,h1,h2,od,vs,rfl,h3,h4⟩:=S.at_ i _ e
  rw [ha] at h1;cases h1
  exact ⟨vs,.inr ⟨od,h2⟩,h3,h4⟩
 ·cases h
def qAh:PV->PV->qB->Rs PV:=fun p q st=>match p with
 | .ref i=>match jv q,kAt st i with
  |some k,some kvs=>match ZZ kvs k with
   |some v => .ok v st
   |none => .no
  |_,_ => .no
 |_ => .no
theorem qEi (hu:X.A.units + 1 < cLine) (ho:VE X E o fd) (hi:VE X E c fk) (hs:qE7 c:=by exact fun _ _=>rfl):VE X E (.Subscript o c pos) (qJ qAh fd fk) :=
 PE.imp (qC7 hu ho hi hs) fun s H Q ⟨b,r,st,S,R,P⟩=>⟨b,r,st,S,R,PostE.bind P fun p s1 u H1 b1 e1 S1 r1 P1=>⟨b1,r,s1,S1,R.ext e1,PostE.bind P1 fun q s2 w H2 b2 e2 S2 r2 P2=>by
  unfold qAh at P2
  split at P2
  ·rename_i i
   split at P2
   ·rename_i k kvs hk hd
    have r1':=RV.ext e2 _ r1
    unfold RV at r1'
    obtain ⟨x,rfl,hx⟩:=r1'
    have ek:=Yc r2 hk
    subst ek
    obtain ⟨vs,g1,g2,g3⟩:=qBL S2 hx hd
    rcases YS (k:=k) g2 g3 with ⟨p,v,v1,v2,v3⟩ |⟨v1,_⟩
    ·rw [v1] at P2
     exact ⟨x,v,rfl,.inl ⟨vs,k,g1,rfl,v2.symm⟩,PostE.here P2 S2 v3⟩
    ·rw [v1] at P2;exact P2.elim
   ·exact P2.elim
  ·exact P2.elim⟩⟩
def qAt (neg:Bool):PV->PV->qB->Rs PV:=fun q p st=>match p with
 | .ref i=>match jv q,kAt st i with
  |some k,some kvs => .ok (.bl (if neg then !(ZZ kvs k).isSome else (ZZ kvs k).isSome)) st
  |_,_ => .no
 |_ => .no
theorem qE4 {neg:Bool} {q p:PV} {H:Hp} {b:Bz} {st:qB} {u v:V} {Q:VK} (S:SR X.K H b st) (rq:RV X.K H b q u) (rp:RV X.K H b p v) (P:PostE X.K E H b (qAt neg q p st) Q) :
  ∃ a o,v = .ref a∧qAS H a u o∧Q (.bl (if neg then !o.isSome else o.isSome)) H:=by
 unfold qAt at P
 split at P
 ·rename_i i
  split at P
  ·rename_i k kvs hk hd
   unfold RV at rp
   obtain ⟨x,rfl,hx⟩:=rp
   have ek:=Yc rq hk
   subst ek
   obtain ⟨vs,g1,g2,g3⟩:=qBL S hx hd
   refine ⟨x,zg vs k,rfl,.inl ⟨vs,k,g1,rfl,rfl⟩,?_⟩
   rcases YS (k:=k) g2 g3 with ⟨p,v,v1,v2,v3⟩ |⟨v1,v2⟩
   ·rw [v1] at P;rw [v2];exact PostE.here P S wY
   ·rw [v1] at P;rw [v2];exact PostE.here P S wY
  ·exact P.elim
 ·exact P.elim
end
end EV
end
section
namespace EX
open PySem PySem.Spec PyProof.Rows L2
end EX
namespace EV
open PySem PySem.Spec PyProof.Rows L2 EX
end EV
end
section
namespace EX
open PySem PySem.Spec PyProof.Rows
theorem qA8:typeLookup (.type "tuple") "keys" = pure none:=by rw [typeLookup_type,builtinLookup_eq_fast];kernel_rfl
theorem qDK {prog:Program} {w:World} {A:Around} {E:Value->Shared->Prop} {s:Shared} {a:Addr} {o:Obj} {xs:Array Value} {k:Nat} {Q:Option Value->Shared->Prop}
  (hx:s.heap.get? a=some o) (hc:o.cls = .type "tuple") (hdat:o.data = .seq xs k) (hd:o.dict=none) (hA:A.handled=none)
  (h:∀ h' tk e,Heap.NewExcOf s.heap h' e "AttributeError" -> Q none { s with heap:=h',toks:=tk }) :
  wpAny (model prog w) A (getAttr? (.ref a) "keys") Q E s:=by
 obtain ⟨c,dct,dat,sl⟩:=o
 simp only at hc hdat hd
 subst hc hdat hd
 obtain ⟨hp,g,d,tk,os⟩:=s
 have hT:∀ tk',(⟨hp,g,d,tk',os⟩:Shared).TypeIs (.ref a) "tuple" := fun _=>⟨_,hx,rfl⟩
 have f1:=sub_AttributeError
 have f3:=F.slot_tuple_getattribute.lookup
 have f4:=F.slot_tuple_getattribute.bind (.ref a)
 have f5:=am_tuple_getattr_none
 unfold getAttr? getAttrBy? getAttrBy
 repeat (any_goals (first |assumption |exact hT _ |((with_reducible show wpAny _ _ (call (Value.builtin "tuple.__getattribute__") _ _) _ _ _);refine call_meets F.slot_tuple_getattribute (hT _) am_entry_tuple_getattribute (F.args_tuple_getattribute_2 _ _) (meets_getattribute_miss_tuple a xs k sl "keys" _ qA8 (by decide +kernel) (by decide)) ⟨hx,hA,fun h' tk' e hx' => ?_⟩) |wp_step))
 obtain ⟨t',u',he⟩:=hx'.there
 show wpAny _ _ (getattributeRaised _ _ _ _ _ _ _) _ _ _
 unfold getattributeRaised
 repeat (any_goals (first |assumption |wp_step))
 exact h _ _ _ hx'.of
end EX
end
section
namespace EX
open PySem PySem.Spec PyProof.Rows L2
theorem J8:entryFor table "dict.update.loop" = some Builtin.«dict.update.loop» := entryFor_of_fast (by kernel_rfl)
theorem YA:plainId "dict.update.loop" = true:=by decide +kernel
section
variable {prog:Program} {w:World} {A:Around} {E:Value->Shared->Prop} {R:Result->Shared->Prop} {K:Type} [DecidableEq K] {knd:PySem.KeyKind prog w K}
def ZE (kvs:List (K×Value)) (ps:List (K×Value)):List (K×Value):=ps.foldl (fun l p=>stored l p.1 p.2) kvs
theorem Jc:∀ (kvs:List (K×Value)) (k:K) (v:Value),(stored kvs k v).length≤kvs.length + 1:=by
 intro kvs k v
 unfold stored
 split
 ·rw [AE];omega
 ·rw [Af];exact AL _
theorem DictOf.same {h h':Heap} {a:Addr} {kvs:List (K×Value)} (D:Heap.DictOf knd h a kvs) (e:∀ o,h.get? a=some o->h'.get? a=some o):Heap.DictOf knd h' a kvs:=by
 obtain ⟨o,es,ep,h1,h2⟩:=D
 exact ⟨o,es,ep,e o h1,h2⟩
theorem dul {I:Addr} {fp wr:List Addr} {n:Nat} {P:Nat->Value->Prop} {St:Nat->Heap->Prop} (W:Walks prog w A.in1 I fp wr n P St) {d:Addr} (hd:d ∉ fp) {ps:List (K×Value)} (hn:ps.length=n) (hsz:n≤1000) :
  ∀ (k i:Nat) (j:Int) (tok:Tok) (s:Shared) (kvs:List (K×Value)),n - i=k->i≤n->kvs.length≤i->St i s.heap->Heap.DictOf knd s.heap d kvs ->
   (∀ m p,ps[m]? = some p -> ∃ a key,(∀ v,P m v->v = .ref a)∧s.heap.IsTuple a #[key,p.2]∧a≠d∧a ∉ wr∧knd.is p.1 key=true) ->
   (∀ (h':Heap) (tk:Nat),(∀ b o,b ∉ d::wr->s.heap.get? b=some o->h'.get? b=some o)->Heap.DictOf knd h' d (ZE kvs (ps.drop i))->R (.ok (.ret .none)) { s with heap:=h',toks:=tk }) ->
   codeAny (model prog w) A (.builtin "dict.update.loop" ⟨[.ref d,.ref I,.int j tok,.none],[]⟩) R s:=by
 intro k
 induction k with
 |zero =>
  intro i j tok s kvs hk hi hkl hSt D hit h
  have:i=n:=by omega
  subst this
  refine Au J8 ?_
  rw [Aw YA]
  unfold Builtin.«dict.update.loop»
  refine AA (W.done _ _ _ hSt fun h' tk hk' => ?_)
  dsimp only
  refine AA (Al (a:=()) rfl ?_)
  refine AB ?_
  refine h h' tk (fun b o hb'=>hk' b o fun q=>hb' (AG _ q)) ?_
  rw [← hn,List.drop_length]
  exact DictOf.same D fun o=>hk' d o fun q=>hd (W.sub _ q)
 |succ k ih =>
  intro i j tok s kvs hk hi hkl hSt D hit h
  have hi':i < n:=by omega
  refine Au J8 ?_
  rw [Aw YA]
  unfold Builtin.«dict.update.loop»
  refine AA (W.item i _ _ _ hi' hSt fun v h' tk hP hSt' hk' => ?_)
  obtain ⟨a,key,hva,⟨oa,ga,ca,na,da⟩,hne,hnw,hkey⟩:=hit i ps[i] (AD (by omega))
  have:=hva v hP
  subst this
  have ga':=hk' a oa hnw ga
  dsimp only
  refine AA (Ai ?_)
  refine AA (CS ?_)
  unfold Builtin.Dict.pairItems
  refine AA (BY (T := "tuple") ⟨oa,ga',ca⟩ ?_)
  rw [AI (by decide)]
  refine AA (B8 ga' da (AB ?_))
  show wpAny _ _ (holding [key,ps[i].2] (dictSet d key ps[i].2)) _ _ _
  refine Ai (wpAny_dictSet_pairs hkey (DictOf.same D fun o=>hk' d o fun q=>hd (W.sub _ q)) (fun h2 D2 sb => ?_) (AS (show kvs.length≤1000 by omega) (by decide)))
  refine AB ⟨BL YA _,?_⟩
  refine ih (i + 1) _ _ _ (stored kvs ps[i].1 ps[i].2) (by omega) (by omega) (by have:=Jc kvs ps[i].1 ps[i].2;omega) (W.frame _ _ _ hSt' fun b hbf o ho=>by
   rw [sb.2 b (fun z=>hd (by rw [← z];exact hbf))];exact ho) D2 (fun m p hp => ?_) fun h3 tk3 hh D3 => ?_
  ·obtain ⟨a2,key2,z1,⟨o2,z2,z3⟩,z4,z5,z6⟩:=hit m p hp
   exact ⟨a2,key2,z1,⟨o2,by rw [sb.2 a2 z4];exact hk' a2 o2 z5 z2,z3⟩,z4,z5,z6⟩
  ·refine h h3 tk3 (fun b o hbn ho=>hh b o hbn (by
    have:b≠d:=fun z=>hbn (by rw [z];exact AK)
    rw [sb.2 b this]
    exact hk' b o (fun q=>hbn (AG _ q)) ho)) ?_
   rw [List.drop_eq_getElem_cons (by omega)]
   exact D3
end
section
variable {prog:Program} {w:World} {A:Around} {E:Value->Shared->Prop} {K:Type} [DecidableEq K] {knd:PySem.KeyKind prog w K}
theorem jx {kvs:List (K×Value)} {k:K} {v:Value} (h:k ∉ kvs.map (·.1)):stored kvs k v=kvs++[(k,v)]:=by
 unfold stored
 rw [AQ]
 intro z
 exact h (by simpa using z)
theorem yY:∀ {ps kvs:List (K×Value)},((kvs++ps).map (·.1)).Nodup->ZE kvs ps=kvs++ps
 |[],kvs,_=>by unfold ZE;simp
 |p::ps,kvs,h=>by
  have h1:p.1 ∉ kvs.map (·.1):=fun z=>by
   rw [BF,AN,B4] at h
   exact h.2.2 _ z _ AK rfl
  have:ZE kvs (p::ps)=ZE (kvs++[p]) ps:=by unfold ZE;rw [Bn,jx h1]
  rw [this,yY (by simpa using h)]
  simp
theorem Jb {s:Shared} {l:Addr} {o:Obj} {items:Array Value} {n:Nat} {ps:List (K×Value)} {Q:Value->Shared->Prop} (hh:A.handled=none) (hl:s.heap.get? l=some o) (hc:o.cls = .type "tuple") (hdat:o.data = .seq items n) (hd:o.dict=none) (hsz:items.size≤1000) (hps:ps.length=items.size) (hnd:(ps.map (·.1)).Nodup)
  (hi:∀ (m:Nat) (p:K×Value),ps[m]? = some p -> ∃ a key,items[m]? = some (.ref a)∧s.heap.IsTuple a #[key,p.2]∧knd.is p.1 key=true)
  (h:∀ (h':Heap) (tk:Nat),(∀ b o,s.heap.get? b=some o->h'.get? b=some o)->h'.DictOf knd s.heap.objs.size ps->Q (.ref s.heap.objs.size) { s with heap:=h',toks:=tk }) :
  wpAny (model prog w) A (call (.type "dict") [.ref l]) Q E s:=by
 refine callType_codes (Q₁:=fun obj s₁=>obj = .ref s.heap.objs.size∧s₁={ s with heap:=s.heap.push { cls := .type "dict",data := .dict #[] } }) F.kt_called_dict (F.kt_typeCall_dict_1 _) F.entry_dict_init (kt_code_dict_new _ ⟨rfl,rfl⟩) ?_
 rintro obj s₁ ⟨rfl,rfl⟩
 have hnew:(s.heap.push { cls := .type "dict",data := .dict #[] }).DictOf knd s.heap.objs.size []:=Heap.DictOf.new s.heap
 have hl':(s.heap.push { cls := .type "dict",data := .dict #[] }).get? l=some o:=AC _ hl
 have hlt:l < s.heap.objs.size:=AJ hl
 refine ⟨hnew.typeIs,F.args_dict_init_2 _ _,?_⟩
 unfold Builtin.«dict.__init__»
 refine AA ?_
 unfold Builtin.Dict.selfAndRest
 refine AA (wpAny_notOrdered_dict hnew.typeIs ?_)
 show wpAny _ _ (pure (s.heap.objs.size,[Value.ref l])) _ _ _
 refine AB ?_
 show wpAny _ _ (Builtin.Dict.updateFrom "dict.__init__" s.heap.objs.size (.ref l) [] .none) _ _ _
 unfold Builtin.Dict.updateFrom
 refine AA (BY (T := "tuple") ⟨o,hl',hc⟩ ?_)
 rw [AI (by decide)]
 refine AA (qDK hl' hc hdat hd hh fun h1 tk e hx => ?_)
 rw [AI (show (none:Option Value).isNone=true from rfl)]
 have hl1:h1.IsTuple l items:=⟨o,hx.keeps _ _ hl',hc,n,hdat⟩
 have hD1:h1.DictOf knd s.heap.objs.size []:=DictOf.same hnew fun o=>hx.keeps _ o
 have hlt1:s.heap.objs.size < h1.objs.size:=by obtain ⟨od,_,_,hg,_⟩:=hD1;exact AJ hg
 refine AA (Bq ?_)
 refine AA (wpAny_pyIter_tuple hl1 ?_)
 refine AB ⟨BL YA _,?_⟩
 have W:=Walks.tuple (prog:=prog) (w:=w) (A:=A.in1.in1) hh h1.objs.size l (AT (B7 hlt hlt1)) items
 refine dul (A:=A.in1) W (d:=s.heap.objs.size) (by
  intro q
  rcases AH.mp q with q |q
  ·exact AT hlt1 q
  ·exact Nat.ne_of_gt hlt (AW.mp q)) hps hsz _ 0 _ _ _ [] rfl (BJ _) (AL _) ⟨⟨_,AR _ rfl,rfl,rfl⟩,hl1.push _⟩ (DictOf.same hD1 fun o=>AC _) (fun m p hp => ?_) fun h' tk' hk D => ?_
 ·obtain ⟨a,key,z1,z2,z3⟩:=hi m p hp
  obtain ⟨oa,ga,z4⟩:=z2
  have halt:=AJ ga
  exact ⟨a,key,fun v hv=>by rw [z1] at hv;exact (AZ hv).symm,⟨oa,AC _ (hx.keeps _ _ (AC _ ga)),z4⟩,AT halt,fun q=>AT (B7 halt hlt1) (AW.mp q),z3⟩
 ·refine ⟨rfl,h h' tk' (fun b o ho => ?_) ?_⟩
  ·have:=AJ ho
   exact hk b o (fun q=>by
    rcases AH.mp q with q |q
    ·exact AT this q
    ·exact AT (B7 this hlt1) (AW.mp q)) (AC _ (hx.keeps _ _ (AC _ ho)))
  ·rw [List.drop_zero,yY (by simpa using hnd)] at D
   exact D
end
inductive PrL (H:Hp):List V->List (Key×V)->Prop
 |nil:PrL H [] []
 |cons {c:Addr} {k:Key} {v:V} {ys:List V} {ps:List (Key×V)}:H c=some (.tup [kV k,v])->PrL H ys ps->PrL H (.ref c::ys) ((k,v)::ps)
theorem PrL.vals {P:Program} {w:World} {H:Hp} {h:Heap} (ok:HOk P w H h) {ys:List V} {ps:List (Key×V)} (r:PrL H ys ps):∀ {us:List Value},Vals ys us -> ∃ qs:List (Key×Value),KV ps qs∧qs.length=us.length∧qs.map (·.1)=ps.map (·.1) ∧ ∀ (m:Nat) (p:Key×Value),qs[m]? = some p -> ∃ a key,us[m]? = some (.ref a)∧h.IsTuple a #[key,p.2]∧(Qs P w).is p.1 key=true:=by
 induction r with
 |nil=>intro us V;cases V;exact ⟨[],.nil,rfl,rfl,fun m p hp=>by cases hp⟩
 | @cons c k v ys ps hc _ ih =>
  intro us V
  cases V with
  | @cons _ u _ us r1 r2 =>
   obtain ⟨qs,h1,h2,h3,h4⟩:=ih r2
   obtain ⟨_,its,rr,p,_⟩:=(show ObjOk P w H h c (.tup [kV k,v]) from ok c _ hc)
   cases r1
   cases rr with
   | @cons _ x _ xs r3 r4 =>
    cases r4 with
    | @cons _ y _ zs r5 r6 =>
     cases r6
     refine ⟨(k,y)::qs,.cons ⟨rfl,r5⟩ h1,by rw [AO,AO,h2],by rw [AN,AN,h3],fun m p hp => ?_⟩
     cases m with
     |zero=>cases hp;exact ⟨c,x,rfl,(show IsTup h c [x,y].toArray from ‹IsTup h c _›),Ju r3⟩
     |succ m=>exact h4 m p hp
section
variable {X:Cx}
theorem JR (hc:X.calm=true):wu X (.type "dict") (fun xs H Q => ∃ a ys ps,xs=[.ref a]∧H a=some (.tup ys)∧PrL H ys ps∧ys.length≤1000∧(ps.map (·.1)).Nodup ∧ ∀ l:Addr,H l=none->Q (.ref l) (upd H l (.dK ps))):=by
 intro pins s σ H xs us Q I r h
 obtain ⟨a,ys,ps,rfl,e,pr,hl,nd,q⟩:=h
 obtain ⟨u,rfl,rx⟩:=ZR r
 cases rx
 have hh:X.A.handled=none:=I.ok.hd hc
 obtain ⟨hz,its,rr,⟨o,e1,c1,n,d1⟩,o2,e2,hd⟩:=(show ObjOk X.prog X.w H s.heap a (.tup ys) from I.hok a _ e)
 rw [e1] at e2;cases e2
 obtain ⟨qs,h1,h2,h3,h4⟩:=pr.vals I.hok rr
 have hlen:its.length=ys.length:=rr.length.symm
 refine Jb (knd:=Qs X.prog X.w) (items:=its.toArray) (ps:=qs) hh e1 c1 d1 hd (by rw [AM];omega) (by rw [AM];exact h2) (by rw [h3];exact nd) (fun m p hp=>by
  obtain ⟨a',key,z1,z2,z3⟩:=h4 m p hp
  exact ⟨a',key,by rw [List.getElem?_toArray];exact z1,z2,z3⟩) fun h' tk hk D => ?_
 have hpl:ps.length=qs.length:=h1.length
 exact ⟨.ref s.heap.objs.size,_,I.laid (t':=tk) (h':=h') (o := .dK ps) hk (AL _) ⟨by rw [hpl,h2,hlen];exact AS hl (by rw [Br];decide),(qB5 (P:=X.prog) (w:=X.w) (H:=H) s.heap I.big).2.1,qs,h1,D⟩,rfl,q _ (I.hok.fresh (AL _))⟩
end
end EX
namespace EV
open PySem PySem.Spec PyProof.Rows L2 EX
def JM:PV->Option (L2.Key×PV)
 | .tup [q,p]=>match jv q with
  |some k=>some (k,p)
  |none=>none
 |_=>none
def ZL (f:FE):FE:=fun r st=>(f r st).bind fun p s=>match p with
 | .tup l=>match QH JM l with
  |some ps=>if ps.length≤1000∧(ps.map (·.1)).Nodup then .ok (.ref s.length) (s++[.k ps]) else .no
  |none => .no
 |_ => .no
theorem qBS {K:W.Frag} {H:Hp} {b:Bz}:∀ {l:List PV} {ys:List V} {ps:List (L2.Key×PV)},RVs K H b l ys->QH JM l=some ps -> ∃ qs:List (L2.Key×V),PrL H ys qs∧ps.map (·.1)=qs.map (·.1)∧RVs K H b (ps.map (·.2)) (qs.map (·.2))∧ys.length=ps.length
 |[],ys,ps,r,h=>by
  unfold RVs at r;subst r
  cases h
  exact ⟨[],.nil,rfl,RVs.nil,rfl⟩
 |p::l,ys,ps,r,h=>by
  unfold RVs at r
  obtain ⟨x,t,rfl,h2,h3⟩:=r
  unfold QH at h
  cases e1:JM p with
  |none=>rw [e1] at h;cases h
  |some kp =>
   rw [e1] at h
   dsimp only at h
   cases e2:QH JM l with
   |none=>rw [e2] at h;cases h
   |some ps' =>
    rw [e2] at h
    cases h
    obtain ⟨qs,i1,i2,i3,i4⟩:=qBS h3 e2
    unfold JM at e1
    split at e1
    ·rename_i q v
     split at e1
     ·rename_i k hk
      cases e1
      unfold RV at h2
      obtain ⟨c,xs,rfl,h4,h5⟩:=h2
      unfold RVs at h5
      obtain ⟨x1,t1,rfl,h6,h7⟩:=h5
      unfold RVs at h7
      obtain ⟨x2,t2,rfl,h8,h9⟩:=h7
      unfold RVs at h9;subst h9
      have ek:=Yc h6 hk
      subst ek
      rcases h4 with h4 |h4
      ·exact ⟨(k,x2)::qs,.cons h4.1 i1,by rw [AN,AN,i2],RVs.cons h8 i3,by rw [AO,AO,i4]⟩
      ·exact h4.2.elim
     ·cases e1
    ·cases e1
section
variable {X:Cx} {E:XK} {e:Expr} {f:FE} {pos:Pos}
theorem Y4 {p:Pos} (hc:X.calm=true) (hm:X.mg "dict" = none) (ha:VE X E e f) (hg:Gl X "dict" := by rfl) (he:starEach [e] X.env=(false,eval e X.env)::starEach [] X.env:=by rfl) (hpl:(backTo pos (starEach [] X.env)).any (·.1)=false:=by rfl):VE X E (.Call (.Name "dict" p) [e] [] pos) (ZL f) :=
 PE.imp (ye (JR hc) hg hm Boot.«dict» (YV ha JZ he) (he:=he) (hpl:=hpl)) fun s H Q ⟨b,r,st,S,R,P⟩=>⟨b,r,st,S,R,PostE.bind P fun q s1 u H1 b1 e1 S1 r1 P1=>by
  split at P1
  ·rename_i l
   split at P1
   ·rename_i ps hp
    split at P1
    ·rename_i hn
     unfold RV at r1
     obtain ⟨c,ys,rfl,h4,h5⟩:=r1
     rcases h4 with h4 |h4
     ·obtain ⟨qs,i1,i2,i3,i4⟩:=qBS h5 hp
      refine ⟨c,ys,qs,rfl,h4.1,i1,by omega,by rw [← i2];exact hn.2,fun a hl => ?_⟩
      exact P1 (.ref a) _ ⟨b1.b++[a],b1.z⟩ (Ext.newS hl) (S1.newS (x := .k ps) hl ⟨qs,rfl,i2,RVs.ext (Ext.newS hl) _ i3⟩) (qC8 S1)
     ·exact h4.2.elim
    ·exact P1.elim
   ·exact P1.elim
  ·exact P1.elim⟩
end
section
variable {X:Cx} {E:XK} {a c:Expr} {fa fb:FE} {pos:Pos}
theorem qA9 (hu:X.A.units + 1 < cLine) (ha:VE X E a fa) (hb:VE X E c fb) (hm:behindInMarks .NotIn c=false:=by with_unfolding_all rfl):VT X E (.Compare a [.NotIn] [c] pos) (vTB (qJ (qAt true) fa fb)) :=
 PT.imp (qEV (qBE hu ha hb) hm) fun s H Q q=>by
  obtain ⟨b,r,st,S,R,P⟩:=qBl q
  exact ⟨b,r,st,S,R,PostE.bind P fun p s1 u H1 b1 e1 S1 r1 P1=>⟨b1,r,s1,S1,R.ext e1,PostE.bind P1 fun q s2 w H2 b2 e2 S2 r2 P2=>qE4 (neg:=true) S2 (RV.ext e2 _ r1) r2 P2⟩⟩
end
end EV
end
noncomputable section
namespace K89
open PySem PySem.Spec PyProof.Rows L2 EX EV
structure Ad where
 (is_whole is_whole_within are_wholes is_rising need_number is_sort are_sorts need_line line_ways cheapest_lines cheapest_line line_paper_shows line_paper law_cell law_box law_take law_sorts law_right law_drawn_right law_more_right law:Addr)
def kitTab:List ((String×String)×Bool):=[(("NoneType","int"),false),(("NoneType","bool"),false),(("NoneType","tuple"),false),(("int","int"),true),(("int","bool"),false),(("int","tuple"),false),(("bool","int"),true),(("bool","bool"),true),(("bool","tuple"),false),(("str","int"),false),(("str","bool"),false),(("str","tuple"),false),(("tuple","int"),false),(("tuple","bool"),false),(("tuple","tuple"),true),(("list","int"),false),(("list","bool"),false),(("list","tuple"),false),(("dict","int"),false),(("dict","bool"),false),(("dict","tuple"),false)]
def qGa (s T:String):Option Bool:=kitTab.lookup (s,T)
def j7 (a:Ad):Prop:=True
instance (a:Ad):Decidable (j7 a):=by unfold j7;infer_instance
def kit (a:Ad):Value->Value->Option Bool
 | .type s,.type T=>qGa s T
 |_,_=>none
def top (i:Nat):Stmt:=PySem.Challenge.pw_barfloors_k89_whole_lines_and_papers.main.body.getD i (.Pass ⟨0,0,0,0⟩)
abbrev wO:Stmt:=top 5
abbrev QB:Stmt:=top 6
abbrev Qr:Stmt:=top 7
abbrev Q1:Stmt:=top 8
abbrev Qd:Stmt:=top 9
abbrev wn:Stmt:=top 15
abbrev Ql:Stmt:=top 16
abbrev Qz:Stmt:=top 17
abbrev Qj:Stmt:=top 18
abbrev qu:Stmt:=top 19
abbrev QJ:Stmt:=top 20
abbrev qi:Stmt:=top 21
abbrev Qq:Stmt:=top 22
abbrev wN:Stmt:=top 24
abbrev wo:Stmt:=top 25
abbrev wP:Stmt:=top 26
abbrev Qm:Stmt:=top 27
abbrev Qn:Stmt:=top 30
abbrev qm:Stmt:=top 31
abbrev qx:Stmt:=top 32
abbrev Wr:Stmt:=top 33
def Z3 (a:Ad):FS:=(qr (Zu (qH (ZU (kit a)) (qA (qC 0) (qA (vC (.ty "int")) qD))) (qGS (qH (ZU (kit a)) (qA (qC 0) (qA (vC (.ty "bool")) qD))))))
def Wk (a:Ad):List PV->qB->Rs PV:=QC 1 1 (Z3 a)
def wB (a:Ad):FS:=(qr (Zu (qH (Wk a) (qA (qC 0) qD)) (wI gLe gLe (qC 1) (qC 0) (qC 2))))
def wC (a:Ad):List PV->qB->Rs PV:=QC 3 3 (wB a)
def zr (a:Ad):FS:=(qr (Zu (qH (ZU (kit a)) (qA (qC 0) (qA (vC (.ty "tuple")) qD))) (Zu (wI gLe gLe (qC 1) (qH WA (qA (qC 0) qD)) (qC 2)) (qH Zr (qA (vFz (ql [] 1 (qq (qC 0)) (qk 0) [] [] (qH (Wk a) (qA (qC 0) qD)))) qD)))))
def wA (a:Ad):List PV->qB->Rs PV:=QC 3 3 (zr a)
def ZT (a:Ad):FS:=(qr (qH Zr (qA (vFz (ql [0] 1 (zT (qA (vC (.int 1)) (qA (qH WA (qA (qC 0) qD)) qD))) (qk 1) [] [] (qJ gLt (qJ gIx (qC 0) (qJ za (qC 1) (vC (.int 1)))) (qJ gIx (qC 0) (qC 1))))) qD)))
def zB (a:Ad):List PV->qB->Rs PV:=QC 1 1 (ZT a)
def WN (a:Ad):FS:=(wX (wU (QV (qH (wC a) (qA (qC 0) (qA (qC 1) (qA (qC 2) qD)))))) qEp Q8)
def wQ (a:Ad):List PV->qB->Rs PV:=QC 3 3 (WN a)
def yq (a:Ad):FS:=(qr (Zu (qH (wA a) (qA (qC 0) (qA (vC (.int 2)) (qA (vC (.int 2)) qD)))) (Zu (wI gLe gLe (vC (.int 1)) (qJ gIx (qC 0) (vC (.int 0))) (vC (.int 9))) (wI gLe gLe (vC (.int 0)) (qJ gIx (qC 0) (vC (.int 1))) (vC (.int 1000000000000))))))
def zO (a:Ad):List PV->qB->Rs PV:=QC 1 1 (yq a)
def Wt (a:Ad):FS:=(qV (wX (Za (wU (QV (qH (ZU (kit a)) (qA (qC 0) (qA (vC (.ty "tuple")) qD))))) (Za (wU (vTB (wI gLe gLe (vC (.int 1)) (qH WA (qA (qC 0) qD)) (vC (.int 4))))) (wU (QV (qH Zr (qA (vFz (ql [] 1 (qq (qC 0)) (qk 0) [] [] (qH (zO a) (qA (qC 0) qD)))) qD)))))) (qr (vC (.bl false))) Q8) (qr (qH (zB a) (qA (vFz (ql [] 2 (qq (qC 0)) (wk 2 (qe (qk 0) (qe (qk 1) w5))) [] [] (qC 0))) qD))))
def WF (a:Ad):List PV->qB->Rs PV:=QC 1 1 (Wt a)
def zD (a:Ad):FS:=(qV (wX (wU (QV (qH (WF a) (qA (qC 0) qD)))) qEp Q8) (wp (qH (wQ a) (qA (qC 1) (qA (vC (.int 0)) (qA (vC (.int 200)) qD))))))
def Q2 (a:Ad):List PV->qB->Rs PV:=QC 2 2 (zD a)
def Ww (a:Ad):FS:=(qV (wp (qH (Q2 a) (qA (qC 0) (qA (qC 1) qD)))) (qV (ZN 2 (ZD (qA (vC (.int 1)) qD))) (qV (zS (zT (qA (vC (.int 1)) (qA (qJ QN (qC 1) (vC (.int 1))) qD))) (wV 3) (wy (qC 2) (qH Zc (qA (vFz (ql [2,3] 2 (qq (qC 0)) (wk 2 (qe (qk 2) (qe (qk 3) w5))) [(vTB (qJ gLe (qC 2) (qC 1)))] [] (qJ gIx (qC 0) (qJ za (qC 1) (qC 2))))) qD)))) (qr (qJ gIx (qC 2) (qD4 (vC (.int 1))))))))
def wW (a:Ad):List PV->qB->Rs PV:=QC 2 4 (Ww a)
def wM (a:Ad):FS:=(qV (ZN 2 (ZD (qA (w9 (qA (vC (.int 0)) (qA (w9 qD) qD))) qD))) (qV (zS (zT (qA (vC (.int 1)) (qA (qJ QN (qC 1) (vC (.int 1))) qD))) (wV 3) (qV (qp 4 (vFz (ql [2,3] 2 (qq (qC 0)) (wk 2 (qe (qk 2) (qe (qk 3) w5))) [(vTB (qJ gLe (qC 2) (qC 1)))] [] (w9 (qA (qC 2) (qA (qC 3) (qA (qJ gIx (qC 0) (qJ za (qC 1) (qC 2))) qD))))))) (qV (qp 5 (vFz (ql [] 3 (qq (qC 4)) (wk 3 (qe (qk 0) (qe (qk 1) (qe (qk 2) w5)))) [(vTB (qJ (WM true) (qC 2) (vC .non)))] [] (w9 (qA (qJ QN (qC 1) (qJ gIx (qC 2) (vC (.int 0)))) (qA (qJ Wq (w9 (qA (qC 0) qD)) (qJ gIx (qC 2) (vC (.int 1)))) qD)))))) (wy (qC 2) (Y2 (qC 5)))))) (qr (qC 2))))
def Qu (a:Ad):List PV->qB->Rs PV:=QC 2 6 (wM a)
def wZ (a:Ad):FS:=(qV (wp (qH (Q2 a) (qA (qC 0) (qA (qC 1) qD)))) (qr (qJ gIx (qH (Qu a) (qA (qC 0) (qA (qC 1) qD))) (qD4 (vC (.int 1))))))
def qh (a:Ad):List PV->qB->Rs PV:=QC 2 2 (wZ a)
def Qy (a:Ad):FS:=(qV (wp (qH (Q2 a) (qA (qC 0) (qA (qC 1) qD)))) (qV (wX (wU (QV (qH (wA a) (qA (qC 2) (qA (qC 1) (qA (qC 1) qD)))))) (qr (vC .non)) Q8) (qV (zS (qq (qC 0)) (wk 2 (qe (wV 3) (qe (wV 4) w5))) (wX (QV (qH JC (qA (vFz (ql [4,2,3] 1 (wb (qA (qJ QN (qJ za (qC 1) (qC 3)) (vC (.int 1))) qD)) (qk 3) [] [] (qJ gGt (qH ZV (qA (qFf (qC 1) (ZQ (qC 3)) (ZQ (qJ QN (qC 3) (qC 2)))) qD)) (qC 0)))) qD))) (qr (vC .non)) Q8)) (qr (qH ZV (qA (qC 2) qD))))))
def QG (a:Ad):List PV->qB->Rs PV:=QC 3 5 (Qy a)
def wf (a:Ad):FS:=(qV (wp (qH (Q2 a) (qA (qC 0) (qA (qC 1) qD)))) (qV (qp 2 (qH (Qu a) (qA (qC 0) (qA (qC 1) qD)))) (qV (wX (vTB (qJ (WM false) (qJ gIx (qC 2) (qD4 (vC (.int 1)))) (vC .non))) (qr (vC .non)) Q8) (qV (qp 3 (qH Jj (qA (vFz (ql [] 1 (qq (qC 2)) (qk 0) [(vTB (qJ (WM true) (qC 0) (vC .non)))] [] (qJ gIx (qC 0) (vC (.int 0))))) qD))) (qV (qp 4 (vFz (ql [3] 1 (qq (qC 2)) (qk 1) [] [] (vIf (vTB (qJ (WM false) (qC 1) (vC .non))) (qC 0) (qJ gIx (qC 1) (vC (.int 0))))))) (qr (qH Wl (qA (vFz (ql [4] 1 (wb (qA (qC 1) qD)) (qk 1) [] [] (qJ za (qJ gIx (qC 0) (qJ QN (qC 1) (vC (.int 1)))) (qJ gIx (qC 0) (qC 1))))) qD))))))))
def wg (a:Ad):List PV->qB->Rs PV:=QC 2 5 (wf a)
def Wo (a:Ad):FS:=(qV (wX (vTB (qJ gLt (qC 1) (qH WA (qA (qC 0) qD)))) (qr (qJ gIx (qC 0) (qC 1))) Q8) (qr (qJ QN (qJ W3 (vC (.int 6151)) (qC 1)) (vC (.int 29)))))
def Wh (a:Ad):List PV->qB->Rs PV:=QC 2 2 (Wo a)
def zK (a:Ad):FS:=(qV (qp 2 (qH (Wh a) (qA (qC 0) (qA (qC 1) qD)))) (qV (wX (vTB (qJ gEq (qJ Yi (qC 2) (vC (.int 2))) (vC (.int 0)))) (Zs (ZD (qA (qJ qDd (qC 2) (vC (.int 2))) qD))) Q8) (qV (qp 3 (vC (.int 0))) (qV (qp 4 (qJ Yi (qC 2) (vC (.int 2147483647)))) (qV (zS (wb (qA (vC (.int 24)) qD)) (wV 5) (qV (qp 4 (qJ Yi (qJ QN (qJ QN (qJ QN (qJ W3 (qC 4) (vC (.int 48271))) (qJ W3 (qJ W3 (vC (.int 7)) (qC 5)) (qC 5))) (qJ W3 (vC (.int 11)) (qC 1))) (vC (.int 1))) (vC (.int 2147483647)))) (qp 3 (qJ QN (qJ W3 (qC 3) (vC (.int 2147483647))) (qC 4))))) (Zs (ZD (qA (qC 3) qD))))))))
def zN (a:Ad):List PV->qB->Rs PV:=QC 2 6 (zK a)
def zX (a:Ad):FS:=(qV (qp 2 (qJ Yi (qJ gIx (qC 0) (vC (.int 0))) (qC 1))) (qV (qB6 (qC 0) (vC (.int 0)) (qJ Jf (qJ gIx (qC 0) (vC (.int 0))) (qC 1))) (qr (qC 2))))
def qR (a:Ad):List PV->qB->Rs PV:=QC 2 3 (zX a)
def Wy (a:Ad):FS:=(qV (qp 1 (qBN (vFz (ql [0] 1 (wb (qA (qJ QN (vC (.int 1)) (qH (qR a) (qA (qC 0) (qA (vC (.int 4)) qD)))) qD)) (qk 1) [] [] (qJ QN (vC (.int 1)) (qH (qR a) (qA (qC 0) (qA (qJ gIx (vFz (ZD (qA (vC (.int 3)) (qA (vC (.int 9)) qD)))) (qH (qR a) (qA (qC 0) (qA (vC (.int 2)) qD)))) qD)))))))) (qV (qp 2 (qJ gIx (vFz (ZD (qA (vC (.int 3)) (qA (vC (.int 12)) (qA (qJ QN (qJ qGf (vC (.int 10)) (vC (.int 12))) (vC (.int 1))) qD))))) (qH (qR a) (qA (qC 0) (qA (vC (.int 3)) qD))))) (qr (qH Wl (qA (vFz (ql [0,2] 1 (qq (qC 1)) (qk 2) [] [] (w9 (qA (qC 2) (qA (qH (qR a) (qA (qC 0) (qA (qC 1) qD))) qD))))) qD)))))
def WD (a:Ad):List PV->qB->Rs PV:=QC 1 3 (Wy a)
def WB (a:Ad):FS:=(qV (Jn 2 3 (qA (qH (qh a) (qA (qC 0) (qA (qC 1) qD))) (qA (qH (wg a) (qA (qC 0) (qA (qC 1) qD))) qD))) (qV (wX (Za (vTB (qJ gNe (qJ (WM false) (qC 2) (vC .non)) (qJ gEq (qH (wW a) (qA (qC 0) (qA (qC 1) qD))) (vC (.int 0))))) (vTB (qJ gNe (qJ (WM false) (qC 2) (vC .non)) (qJ (WM false) (qC 3) (vC .non))))) (qr (vC (.bl false))) Q8) (qV (wX (vTB (qJ (WM false) (qC 2) (vC .non))) (qr (vC (.bl true))) Q8) (qV (qp 4 (ZL (qC 0))) (qV (wX (Za (vTB (qJ gNe (qH ZV (qA (qJ gIx (qC 2) (vC (.int 1))) qD)) (qC 1))) (vTB (qJ gNe (qJ gIx (qC 2) (vC (.int 0))) (qH Zc (qA (vFz (ql [4] 1 (qq (qJ gIx (qC 2) (vC (.int 1)))) (qk 1) [] [] (qJ qAh (qC 0) (qC 1)))) qD))))) (qr (vC (.bl false))) Q8) (qr (qJ gEq (qH (QG a) (qA (qC 0) (qA (qC 1) (qA (qC 3) qD)))) (qJ gIx (qC 2) (vC (.int 0))))))))))
def WG (a:Ad):List PV->qB->Rs PV:=QC 2 5 (WB a)
def Q3 (a:Ad):FS:=(qV (qp 2 (vFz (ql [1,0] 1 (wb (qA (qH (qR a) (qA (qC 0) (qA (vC (.int 20)) qD))) qD)) (qk 2) [] [] (qJ gIx (qC 0) (qH (qR a) (qA (qC 1) (qA (qH WA (qA (qC 0) qD)) qD))))))) (qV (qp 3 (qH Zc (qA (vFz (ql [] 2 (qq (qC 2)) (wk 2 (qe (qk 0) (qe (qk 1) w5))) [] [] (qC 0))) qD))) (qV (qp 4 (qH (qh a) (qA (qC 1) (qA (qC 3) qD)))) (qV (wX (Za (vTB (qJ (WM false) (qC 4) (vC .non))) (vTB (qJ gGt (qJ gIx (qC 4) (vC (.int 0))) (qH Zc (qA (vFz (ql [] 2 (qq (qC 2)) (wk 2 (qe (qk 0) (qe (qk 1) w5))) [] [] (qC 1))) qD))))) (qr (vC (.bl false))) Q8) (qV (Jz (qJ gIx (qC 1) (qH (qR a) (qA (qC 0) (qA (qH WA (qA (qC 1) qD)) qD)))) (wk 2 (qe (wV 5) (qe (wV 6) w5)))) (qV (wX (vTB (qJ gGt (qJ gIx (qH (qh a) (qA (qC 1) (qA (qJ QN (qC 3) (qC 5)) qD))) (vC (.int 0))) (qJ QN (qJ gIx (qC 4) (vC (.int 0))) (qC 6)))) (qr (vC (.bl false))) Q8) (qV (qp 7 (qH Wl (qA (vFz (ql [0] 1 (wb (qA (qC 3) qD)) (qk 1) [] [] (qJ za (qH (qR a) (qA (qC 0) (qA (vC (.int 5)) qD))) (vC (.int 2))))) qD))) (qV (qp 8 (qH (QG a) (qA (qC 1) (qA (qC 3) (qA (qC 7) qD))))) (qr (vOr (qJ (WM false) (qC 8) (vC .non)) (qJ gLe (qC 8) (qJ gIx (qC 4) (vC (.int 0))))))))))))))
def Qi (a:Ad):List PV->qB->Rs PV:=QC 2 9 (Q3 a)
def QQ (a:Ad):FS:=(qV (qp 3 (vFz (ql [1] 1 (zT (qA (vC (.int 1)) (qA (vC (.int 10)) qD))) (qk 1) [(vTB (qJ (qAt true) (qC 1) (ZL (qC 0))))] [] (qC 1)))) (qV (wX (vTB (qJ gEq (qH WA (qA (qC 1) qD)) (vC (.int 4)))) (qr (vC (.bl true))) Q8) (qV (qp 4 (qH Wl (qA (Ya (qJ Wq (qC 1) (w9 (qA (w9 (qA (qJ gIx (qC 3) (qH (qR a) (qA (qC 0) (qA (qH WA (qA (qC 3) qD)) qD)))) (qA (qH (qR a) (qA (qC 0) (qA (vC (.int 12)) qD))) qD))) qD)))) qD))) (qV (wX (vTB (qJ gLt (qH (wW a) (qA (qC 4) (qA (qC 2) qD))) (qH (wW a) (qA (qC 1) (qA (qC 2) qD))))) (qr (vC (.bl false))) Q8) (qV (qp 5 (qH (qh a) (qA (qC 1) (qA (qC 2) qD)))) (qr (vOr (qJ (WM false) (qC 5) (vC .non)) (qJ gLe (qJ gIx (qH (qh a) (qA (qC 4) (qA (qC 2) qD))) (vC (.int 0))) (qJ gIx (qC 5) (vC (.int 0)))))))))))
def Qt (a:Ad):List PV->qB->Rs PV:=QC 3 6 (QQ a)
def qD7 (a:Ad):FS:=(qV (zS (wb (qA (qH qCf (qA (vC (.int 1)) (qA (qH qB4 (qA (qH WA (qA (qC 0) qD)) (qA (vC (.int 4)) qD))) qD))) qD)) (wV 1) (qV (qp 2 (qH (zN a) (qA (qC 0) (qA (qC 1) qD)))) (qV (qp 3 (qH (WD a) (qA (qC 2) qD))) (qV (qp 4 (qH (qR a) (qA (qC 2) (qA (qJ gIx (vFz (ZD (qA (vC (.int 9)) (qA (vC (.int 40)) (qA (vC (.int 201)) qD))))) (qH (qR a) (qA (qC 2) (qA (vC (.int 3)) qD)))) qD)))) (wX (Za (wU (QV (qH (WG a) (qA (qC 3) (qA (qC 4) qD))))) (Za (wU (QV (qH (Qi a) (qA (qC 2) (qA (qC 3) qD))))) (wU (QV (qH (Qt a) (qA (qC 2) (qA (qC 3) (qA (qC 4) qD)))))))) (qr (vC (.bl false))) Q8))))) (qr (vC (.bl true))))
def jG (a:Ad):List PV->qB->Rs PV:=QC 1 5 (qD7 a)
structure Env (K:W.Frag) (mg:Str->Option Value) (a:Ad):Prop where
 kit:KitOk K (kit a)
 n_all:mg "all" = none
 n_any:mg "any" = none
 n_bool:mg "bool" = none
 n_dict:mg "dict" = none
 n_int:mg "int" = none
 n_isinstance:mg "isinstance" = none
 n_len:mg "len" = none
 n_max:mg "max" = none
 n_min:mg "min" = none
 n_range:mg "range" = none
 n_set:mg "set" = none
 n_sorted:mg "sorted" = none
 n_sum:mg "sum" = none
 n_tuple:mg "tuple" = none
 c_MOST_SORTS:∃ t,mg "MOST_SORTS" = some (.int 4 t)
 c_MOST_LONG:∃ t,mg "MOST_LONG" = some (.int 9 t)
 c_MOST_PRICE:∃ t,mg "MOST_PRICE" = some (.int 1000000000000 t)
 c_MOST_LINE:∃ t,mg "MOST_LINE" = some (.int 200 t)
 m_is_whole:mg "is_whole" = some (.ref a.is_whole)
 f_is_whole:∃ fd,Fun K "is_whole" "is_whole" wO a.is_whole fd
 m_is_whole_within:mg "is_whole_within" = some (.ref a.is_whole_within)
 f_is_whole_within:∃ fd,Fun K "is_whole_within" "is_whole_within" QB a.is_whole_within fd
 m_are_wholes:mg "are_wholes" = some (.ref a.are_wholes)
 f_are_wholes:∃ fd,Fun K "are_wholes" "are_wholes" Qr a.are_wholes fd
 m_is_rising:mg "is_rising" = some (.ref a.is_rising)
 f_is_rising:∃ fd,Fun K "is_rising" "is_rising" Q1 a.is_rising fd
 m_need_number:mg "need_number" = some (.ref a.need_number)
 f_need_number:∃ fd,Fun K "need_number" "need_number" Qd a.need_number fd
 m_is_sort:mg "is_sort" = some (.ref a.is_sort)
 f_is_sort:∃ fd,Fun K "is_sort" "is_sort" wn a.is_sort fd
 m_are_sorts:mg "are_sorts" = some (.ref a.are_sorts)
 f_are_sorts:∃ fd,Fun K "are_sorts" "are_sorts" Ql a.are_sorts fd
 m_need_line:mg "need_line" = some (.ref a.need_line)
 f_need_line:∃ fd,Fun K "need_line" "need_line" Qz a.need_line fd
 m_line_ways:mg "line_ways" = some (.ref a.line_ways)
 f_line_ways:∃ fd,Fun K "line_ways" "line_ways" Qj a.line_ways fd
 m_cheapest_lines:mg "cheapest_lines" = some (.ref a.cheapest_lines)
 f_cheapest_lines:∃ fd,Fun K "cheapest_lines" "cheapest_lines" qu a.cheapest_lines fd
 m_cheapest_line:mg "cheapest_line" = some (.ref a.cheapest_line)
 f_cheapest_line:∃ fd,Fun K "cheapest_line" "cheapest_line" QJ a.cheapest_line fd
 m_line_paper_shows:mg "line_paper_shows" = some (.ref a.line_paper_shows)
 f_line_paper_shows:∃ fd,Fun K "line_paper_shows" "line_paper_shows" qi a.line_paper_shows fd
 m_line_paper:mg "line_paper" = some (.ref a.line_paper)
 f_line_paper:∃ fd,Fun K "line_paper" "line_paper" Qq a.line_paper fd
 m_law_cell:mg "_law_cell" = some (.ref a.law_cell)
 f_law_cell:∃ fd,Fun K "_law_cell" "_law_cell" wN a.law_cell fd
 m_law_box:mg "_law_box" = some (.ref a.law_box)
 f_law_box:∃ fd,Fun K "_law_box" "_law_box" wo a.law_box fd
 m_law_take:mg "_law_take" = some (.ref a.law_take)
 f_law_take:∃ fd,Fun K "_law_take" "_law_take" wP a.law_take fd
 m_law_sorts:mg "_law_sorts" = some (.ref a.law_sorts)
 f_law_sorts:∃ fd,Fun K "_law_sorts" "_law_sorts" Qm a.law_sorts fd
 m_law_right:mg "_law_right" = some (.ref a.law_right)
 f_law_right:∃ fd,Fun K "_law_right" "_law_right" Qn a.law_right fd
 m_law_drawn_right:mg "_law_drawn_right" = some (.ref a.law_drawn_right)
 f_law_drawn_right:∃ fd,Fun K "_law_drawn_right" "_law_drawn_right" qm a.law_drawn_right fd
 m_law_more_right:mg "_law_more_right" = some (.ref a.law_more_right)
 f_law_more_right:∃ fd,Fun K "_law_more_right" "_law_more_right" qx a.law_more_right fd
 m_law:mg "law" = some (.ref a.law)
 f_law:∃ fd,Fun K "law" "law" Wr a.law fd
section
variable {P:Program} {w:World} {K:W.Frag} {mg:Str->Option Value} {base:Heap} {a:Ad}
theorem jm:FnScope ["thing"] ["thing"] (qI wO):=⟨rfl,rfl,rfl,by decide +kernel,rfl,by decide +kernel,by decide +kernel⟩
theorem Z4 (V:Env K mg a):DefG P w K mg base 2 "is_whole" a.is_whole 1 (Wk a):=by
 obtain ⟨fd,F⟩:=V.f_is_whole
 refine Q0 (B:=Z3 a) F jm (F.binds (ps:=["thing"]) fun _ _ _ _ _ _ us hl=>match us,hl with |[_],_=>rfl) V.m_is_whole (fun l st h=>qc h) (fun cdv A outer s H E hr hcm => ?_) (fun l s0 hl hn=>qY hl)
 have hu:=hr.units
 exact (@qU _ _ _ _ (@qj _ _ _ _ _ (@ZC _ _ _ _ _ _ _ _ (@Ye _ _ _ _ _ _ _ _ V.kit V.n_isinstance (@qW _ _ _ _ _ _ _ (@qG _ _ 0 _ _ (by rfl) (by rfl) (by rfl)) (@qW _ _ _ _ _ _ _ (@qAB _ _ _ _ _ rfl V.n_int Boot.«int» (by decide) (by decide)) qF)) (by rfl) (by rfl) (by rfl)) (@ZA _ _ _ _ _ _ (@qEg _ _ _ _ _ (@Ye _ _ _ _ _ _ _ _ V.kit V.n_isinstance (@qW _ _ _ _ _ _ _ (@qG _ _ 0 _ _ (by rfl) (by rfl) (by rfl)) (@qW _ _ _ _ _ _ _ (@qAB _ _ _ _ _ rfl V.n_bool Boot.«bool» (by decide) (by decide)) qF)) (by rfl) (by rfl) (by rfl)))))))
theorem zY:FnScope ["thing","least","most"] ["thing","least","most"] (qI QB):=⟨rfl,rfl,rfl,by decide +kernel,rfl,by decide +kernel,by decide +kernel⟩
theorem zp (V:Env K mg a):DefG P w K mg base 3 "is_whole_within" a.is_whole_within 3 (wC a):=by
 obtain ⟨fd,F⟩:=V.f_is_whole_within
 refine Q0 (B:=wB a) F zY (F.binds (ps:=["thing","least","most"]) fun _ _ _ _ _ _ us hl=>match us,hl with |[_,_,_],_=>rfl) V.m_is_whole_within (fun l st h=>qc h) (fun cdv A outer s H E hr hcm => ?_) (fun l s0 hl hn=>qY hl)
 have hu:=hr.units
 exact (@qU _ _ _ _ (@qj _ _ _ _ _ (@ZC _ _ _ _ _ _ _ _ (@qS _ _ _ _ _ _ _ _ _ ((Z4 V).call (hr.mono (by omega)) qT) (@qW _ _ _ _ _ _ _ (@qG _ _ 0 _ _ (by rfl) (by rfl) (by rfl)) qF) (by rfl) (by rfl)) (@ZA _ _ _ _ _ _ (@zc _ _ _ _ _ _ _ _ _ _ _ _ _ _ _ WS WS WU WU (@qG _ _ 1 _ _ (by rfl) (by rfl) (by rfl)) (@qG _ _ 0 _ _ (by rfl) (by rfl) (by rfl)) (@qG _ _ 2 _ _ (by rfl) (by rfl) (by rfl)) (by with_unfolding_all rfl))))))
theorem yW:FnScope ["thing","least","most"] ["thing","least","most"] (qI Qr):=⟨rfl,rfl,rfl,by decide +kernel,rfl,by decide +kernel,by decide +kernel⟩
theorem zw (V:Env K mg a):DefG P w K mg base 3 "are_wholes" a.are_wholes 3 (wA a):=by
 obtain ⟨fd,F⟩:=V.f_are_wholes
 refine Q0 (B:=zr a) F yW (F.binds (ps:=["thing","least","most"]) fun _ _ _ _ _ _ us hl=>match us,hl with |[_,_,_],_=>rfl) V.m_are_wholes (fun l st h=>qc h) (fun cdv A outer s H E hr hcm => ?_) (fun l s0 hl hn=>qY hl)
 have hu:=hr.units
 exact (@qU _ _ _ _ (@qj _ _ _ _ _ (@ZC _ _ _ _ _ _ _ _ (@Ye _ _ _ _ _ _ _ _ V.kit V.n_isinstance (@qW _ _ _ _ _ _ _ (@qG _ _ 0 _ _ (by rfl) (by rfl) (by rfl)) (@qW _ _ _ _ _ _ _ (@qAB _ _ _ _ _ rfl V.n_tuple Boot.«tuple» (by decide) (by decide)) qF)) (by rfl) (by rfl) (by rfl)) (@ZC _ _ _ _ _ _ _ _ (@zc _ _ _ _ _ _ _ _ _ _ _ _ _ _ _ WS WS WU WU (@qG _ _ 1 _ _ (by rfl) (by rfl) (by rfl)) (@we _ _ _ _ _ _ _ (@qW _ _ _ _ _ _ _ (@qG _ _ 0 _ _ (by rfl) (by rfl) (by rfl)) qF) V.n_len (by rfl) (by rfl) (by rfl)) (@qG _ _ 2 _ _ (by rfl) (by rfl) (by rfl)) (by with_unfolding_all rfl)) (@ZA _ _ _ _ _ _ (@JN _ _ _ _ _ _ _ (@ZK _ _ _ _ _ _ _ _ _ (@wH _ _ _ _ (@QW _ _ _ _ _ _ _ ([]) (["number"]) ([]) _ _ _ _ _ (by exact QU rfl (by decide +kernel) rfl rfl trivial) (@wK _ _ _ _ _ (@qG _ _ 0 _ _ (by rfl) (by rfl) (by rfl))) (fun s' H' fp pn=>⟨(@qS _ _ _ _ _ _ _ _ _ ((Z4 V).call (hr.mono (by omega)) (Qf _)) (@qW _ _ _ _ _ _ _ (@qG _ _ 0 _ _ (by rfl) (by rfl) (by rfl)) qF) (by rfl) (by rfl)),⟨(@qy _ _ 0 _ (show (["number"]:List Str).Nodup by decide +kernel) (by rfl) (by first |exact Or.inl rfl |exact Or.inr rfl) (by first |exact .inl rfl |exact .inr rfl |assumption)),(qX 0),TsOk.nil,rfl⟩,GsOk.nil⟩) (by intro _;rfl))) qF) V.n_all (by rfl) (by rfl) (by rfl)))))))
theorem YU:FnScope ["things"] ["things"] (qI Q1):=⟨rfl,rfl,rfl,by decide +kernel,rfl,by decide +kernel,by decide +kernel⟩
theorem Yv (V:Env K mg a):DefG P w K mg base 2 "is_rising" a.is_rising 1 (zB a):=by
 obtain ⟨fd,F⟩:=V.f_is_rising
 refine Q0 (B:=ZT a) F YU (F.binds (ps:=["things"]) fun _ _ _ _ _ _ us hl=>match us,hl with |[_],_=>rfl) V.m_is_rising (fun l st h=>qc h) (fun cdv A outer s H E hr hcm => ?_) (fun l s0 hl hn=>qY hl)
 have hu:=hr.units
 exact (@qU _ _ _ _ (@qj _ _ _ _ _ (@JN _ _ _ _ _ _ _ (@ZK _ _ _ _ _ _ _ _ _ (@wH _ _ _ _ (@QW _ _ _ _ _ _ _ (["things"]) (["at"]) ([0]) _ _ _ _ _ (by exact QU rfl (by decide +kernel) rfl rfl ⟨⟨rfl,rfl⟩,trivial⟩) (@zL _ _ _ _ _ _ _ _ rfl V.n_range (@wJ _ _ _ _ _ _ _ _ qM (@zz _ _ _ _ _ _ _ _ _ (@we _ _ _ _ _ _ _ (@qW _ _ _ _ _ _ _ (@qG _ _ 0 _ _ (by rfl) (by rfl) (by rfl)) qF) V.n_len (by rfl) (by rfl) (by rfl)) qF)) (by rfl) (by rfl)) (fun s' H' fp pn=>⟨(@qGQ _ _ _ _ _ _ _ (@q8 _ _ _ _ _ _ _ (@qG _ _ 0 _ _ (by rfl) (by rfl) (by rfl)) (@ZI _ _ _ _ _ _ _ (@qG _ _ 1 _ _ (by rfl) (by rfl) (by rfl)) qM) (by exact fun _ _=>rfl)) (@q8 _ _ _ _ _ _ _ (@qG _ _ 0 _ _ (by rfl) (by rfl) (by rfl)) (@qG _ _ 1 _ _ (by rfl) (by rfl) (by rfl)) (by exact fun _ _=>rfl))),⟨(@qy _ _ 1 _ (show (["things","at"]:List Str).Nodup by decide +kernel) (by rfl) (by first |exact Or.inl rfl |exact Or.inr rfl) (by first |exact .inl rfl |exact .inr rfl |assumption)),(qX 1),TsOk.nil,rfl⟩,GsOk.nil⟩) (by intro _;rfl))) qF) V.n_all (by rfl) (by rfl) (by rfl))))
theorem yE:FnScope ["thing","least","most"] ["thing","least","most"] (qI Qd):=⟨rfl,rfl,rfl,by decide +kernel,rfl,by decide +kernel,by decide +kernel⟩
theorem yS (V:Env K mg a):DefG P w K mg base 4 "need_number" a.need_number 3 (wQ a):=by
 obtain ⟨fd,F⟩:=V.f_need_number
 refine Q0 (B:=WN a) F yE (F.binds (ps:=["thing","least","most"]) fun _ _ _ _ _ _ us hl=>match us,hl with |[_,_,_],_=>rfl) V.m_need_number (fun l st h=>qc h) (fun cdv A outer s H E hr hcm => ?_) (fun l s0 hl hn=>qY hl)
 have hu:=hr.units
 exact (@qU _ _ _ _ (@wa _ _ _ _ _ _ _ _ _ (@Wn _ _ _ _ _ (@Wc _ _ _ _ (@qS _ _ _ _ _ _ _ _ _ ((zp V).call (hr.mono (by omega)) qT) (@qW _ _ _ _ _ _ _ (@qG _ _ 0 _ _ (by rfl) (by rfl) (by rfl)) (@qW _ _ _ _ _ _ _ (@qG _ _ 1 _ _ (by rfl) (by rfl) (by rfl)) (@qW _ _ _ _ _ _ _ (@qG _ _ 2 _ _ (by rfl) (by rfl) (by rfl)) qF))) (by rfl) (by rfl)) (by intro _;rfl))) (@qU _ _ _ _ qED) QP))
theorem JH:FnScope ["thing"] ["thing"] (qI wn):=⟨rfl,rfl,rfl,by decide +kernel,rfl,by decide +kernel,by decide +kernel⟩
theorem qAd (V:Env K mg a):DefG P w K mg base 4 "is_sort" a.is_sort 1 (zO a):=by
 obtain ⟨fd,F⟩:=V.f_is_sort
 obtain ⟨_,c_MOST_LONG⟩:=V.c_MOST_LONG
 obtain ⟨_,c_MOST_PRICE⟩:=V.c_MOST_PRICE
 refine Q0 (B:=yq a) F JH (F.binds (ps:=["thing"]) fun _ _ _ _ _ _ us hl=>match us,hl with |[_],_=>rfl) V.m_is_sort (fun l st h=>qc h) (fun cdv A outer s H E hr hcm => ?_) (fun l s0 hl hn=>qY hl)
 have hu:=hr.units
 exact (@qU _ _ _ _ (@qj _ _ _ _ _ (@ZC _ _ _ _ _ _ _ _ (@qS _ _ _ _ _ _ _ _ _ ((zw V).call (hr.mono (by omega)) qT) (@qW _ _ _ _ _ _ _ (@qG _ _ 0 _ _ (by rfl) (by rfl) (by rfl)) (@wJ _ _ _ _ _ _ _ _ qM (@wJ _ _ _ _ _ _ _ _ qM qF))) (by rfl) (by rfl)) (@ZC _ _ _ _ _ _ _ _ (@zc _ _ _ _ _ _ _ _ _ _ _ _ _ _ _ WS WS WU WU qM (@q8 _ _ _ _ _ _ _ (@qG _ _ 0 _ _ (by rfl) (by rfl) (by rfl)) qM (by exact fun _ _=>rfl)) (@Zf _ _ _ _ _ _ rfl c_MOST_LONG (by decide)) (by with_unfolding_all rfl)) (@ZA _ _ _ _ _ _ (@zc _ _ _ _ _ _ _ _ _ _ _ _ _ _ _ WS WS WU WU qM (@q8 _ _ _ _ _ _ _ (@qG _ _ 0 _ _ (by rfl) (by rfl) (by rfl)) qM (by exact fun _ _=>rfl)) (@Zf _ _ _ _ _ _ rfl c_MOST_PRICE (by decide)) (by with_unfolding_all rfl)))))))
theorem Yg:FnScope ["thing"] ["thing"] (qI Ql):=⟨rfl,rfl,rfl,by decide +kernel,rfl,by decide +kernel,by decide +kernel⟩
theorem je (V:Env K mg a):DefG P w K mg base 5 "are_sorts" a.are_sorts 1 (WF a):=by
 obtain ⟨fd,F⟩:=V.f_are_sorts
 obtain ⟨_,c_MOST_SORTS⟩:=V.c_MOST_SORTS
 refine Q0 (B:=Wt a) F Yg (F.binds (ps:=["thing"]) fun _ _ _ _ _ _ us hl=>match us,hl with |[_],_=>rfl) V.m_are_sorts (fun l st h=>qc h) (fun cdv A outer s H E hr hcm => ?_) (fun l s0 hl hn=>qY hl)
 have hu:=hr.units
 have hc:(Wd (CXF P w) P w K mg base ["thing"] "are_sorts" (qI Ql) a.are_sorts cdv A outer s H E).calm=true:=by show A.handled.isNone=true;rw [hcm (by omega)];rfl
 exact (@qN _ _ _ _ _ _ (@wa _ _ _ _ _ _ _ _ _ (@qCZ _ _ _ _ (@Zp _ _ _ _ _ _ _ _ (@Wn _ _ _ _ _ (@Wc _ _ _ _ (@Ye _ _ _ _ _ _ _ _ V.kit V.n_isinstance (@qW _ _ _ _ _ _ _ (@qG _ _ 0 _ _ (by rfl) (by rfl) (by rfl)) (@qW _ _ _ _ _ _ _ (@qAB _ _ _ _ _ rfl V.n_tuple Boot.«tuple» (by decide) (by decide)) qF)) (by rfl) (by rfl) (by rfl)) (by intro _;rfl))) (@Zp _ _ _ _ _ _ _ _ (@Wn _ _ _ _ _ (@qCa _ _ _ _ _ _ _ _ _ _ _ _ _ _ _ WS WS WU WU qM (@we _ _ _ _ _ _ _ (@qW _ _ _ _ _ _ _ (@qG _ _ 0 _ _ (by rfl) (by rfl) (by rfl)) qF) V.n_len (by rfl) (by rfl) (by rfl)) (@Zf _ _ _ _ _ _ rfl c_MOST_SORTS (by decide)) (by with_unfolding_all rfl))) (@Z9 _ _ _ _ _ (@Wn _ _ _ _ _ (@Wc _ _ _ _ (@JN _ _ _ _ _ _ _ (@ZK _ _ _ _ _ _ _ _ _ (@wH _ _ _ _ (@QW _ _ _ _ _ _ _ ([]) (["part"]) ([]) _ _ _ _ _ (by exact QU rfl (by decide +kernel) rfl rfl trivial) (@wK _ _ _ _ _ (@qG _ _ 0 _ _ (by rfl) (by rfl) (by rfl))) (fun s' H' fp pn=>⟨(@qS _ _ _ _ _ _ _ _ _ ((qAd V).call (hr.mono (by omega)) (Qf _)) (@qW _ _ _ _ _ _ _ (@qG _ _ 0 _ _ (by rfl) (by rfl) (by rfl)) qF) (by rfl) (by rfl)),⟨(@qy _ _ 0 _ (show (["part"]:List Str).Nodup by decide +kernel) (by rfl) (by first |exact Or.inl rfl |exact Or.inr rfl) (by first |exact .inl rfl |exact .inr rfl |assumption)),(qX 0),TsOk.nil,rfl⟩,GsOk.nil⟩) (by intro _;rfl))) qF) V.n_all (by rfl) (by rfl) (by rfl)) (by intro _;rfl))))))) (@qU _ _ _ _ (@qj _ _ _ _ _ zQ)) QP) (@qU _ _ _ _ (@qj _ _ _ _ _ (@qS _ _ _ _ _ _ _ _ _ ((Yv V).call (hr.mono (by omega)) qT) (@ZK _ _ _ _ _ _ _ _ _ (@wH _ _ _ _ (@QW _ _ _ _ _ _ _ ([]) (["long","price"]) ([]) _ _ _ _ _ (by exact QU rfl (by decide +kernel) rfl rfl trivial) (@wK _ _ _ _ _ (@qG _ _ 0 _ _ (by rfl) (by rfl) (by rfl))) (fun s' H' fp pn=>⟨(@qG _ _ 0 _ _ (by rfl) (by rfl) (by rfl)),⟨(@W9 _ _ _ _ _ _ hc (@qz _ _ _ _ _ (@qy _ _ 0 _ (show (["long","price"]:List Str).Nodup by decide +kernel) (by rfl) (by first |exact Or.inl rfl |exact Or.inr rfl) (by first |exact .inl rfl |exact .inr rfl |assumption)) (@qz _ _ _ _ _ (@qy _ _ 1 _ (show (["long","price"]:List Str).Nodup by decide +kernel) (by rfl) (by first |exact Or.inl rfl |exact Or.inr rfl) (by first |exact .inl rfl |exact .inr rfl |assumption)) WK (by rfl)) (by rfl)) (by rfl) (by rfl)),(wl (qw (qX 0) (qw (qX 1) wm))),TsOk.nil,rfl⟩,GsOk.nil⟩) (by intro _;rfl))) qF) (by rfl) (by rfl)))))
theorem YO:FnScope ["sorts","cells"] ["sorts","cells"] (qI Qz):=⟨rfl,rfl,rfl,by decide +kernel,rfl,by decide +kernel,by decide +kernel⟩
theorem WJ (V:Env K mg a):DefG P w K mg base 6 "need_line" a.need_line 2 (Q2 a):=by
 obtain ⟨fd,F⟩:=V.f_need_line
 obtain ⟨_,c_MOST_LINE⟩:=V.c_MOST_LINE
 refine Q0 (B:=zD a) F YO (F.binds (ps:=["sorts","cells"]) fun _ _ _ _ _ _ us hl=>match us,hl with |[_,_],_=>rfl) V.m_need_line (fun l st h=>qc h) (fun cdv A outer s H E hr hcm => ?_) (fun l s0 hl hn=>qY hl)
 have hu:=hr.units
 exact (@qN _ _ _ _ _ _ (@wa _ _ _ _ _ _ _ _ _ (@Wn _ _ _ _ _ (@Wc _ _ _ _ (@qS _ _ _ _ _ _ _ _ _ ((je V).call (hr.mono (by omega)) qT) (@qW _ _ _ _ _ _ _ (@qG _ _ 0 _ _ (by rfl) (by rfl) (by rfl)) qF) (by rfl) (by rfl)) (by intro _;rfl))) (@qU _ _ _ _ qED) QP) (@qU _ _ _ _ (@zq _ _ _ _ _ (@qS _ _ _ _ _ _ _ _ _ ((yS V).call (hr.mono (by omega)) qT) (@qW _ _ _ _ _ _ _ (@qG _ _ 1 _ _ (by rfl) (by rfl) (by rfl)) (@wJ _ _ _ _ _ _ _ _ qM (@qW _ _ _ _ _ _ _ (@Zf _ _ _ _ _ _ rfl c_MOST_LINE (by decide)) qF))) (by rfl) (by rfl)) (by rfl))))
theorem sc_line_ways:FnScope ["sorts","cells","ways","many"] ["sorts","cells"] (qI Qj):=⟨rfl,rfl,rfl,by decide +kernel,rfl,by decide +kernel,by decide +kernel⟩
theorem Wu (V:Env K mg a):DefG P w K mg base 7 "line_ways" a.line_ways 2 (wW a):=by
 obtain ⟨fd,F⟩:=V.f_line_ways
 refine Q0 (B:=Ww a) F sc_line_ways (F.binds (ps:=["sorts","cells"]) fun _ _ _ _ _ _ us hl=>match us,hl with |[_,_],_=>rfl) V.m_line_ways (fun l st h=>qc h) (fun cdv A outer s H E hr hcm => ?_) (fun l s0 hl hn=>qY hl)
 have hu:=hr.units
 have hc:(Wd (CXF P w) P w K mg base ["sorts","cells","ways","many"] "line_ways" (qI Qj) a.line_ways cdv A outer s H E).calm=true:=by show A.handled.isNone=true;rw [hcm (by omega)];rfl
 exact (@qN _ _ _ _ _ _ (@zq _ _ _ _ _ (@qS _ _ _ _ _ _ _ _ _ ((WJ V).call (hr.mono (by omega)) qT) (@qW _ _ _ _ _ _ _ (@qG _ _ 0 _ _ (by rfl) (by rfl) (by rfl)) (@qW _ _ _ _ _ _ _ (@qG _ _ 1 _ _ (by rfl) (by rfl) (by rfl)) qF)) (by rfl) (by rfl)) (by rfl)) (@qN _ _ _ _ _ _ (@Js _ _ _ _ 2 _ _ _ sc_line_ways.nd (@zU _ _ _ _ _ (@wJ _ _ _ _ _ _ _ _ qM qF)) (by rfl) (by first |exact Or.inl rfl |exact Or.inr rfl) (by rfl) (by first |exact .inl rfl |exact .inr rfl |assumption)) (@qN _ _ _ _ _ _ (@yA _ _ _ _ _ _ _ _ _ (@zL _ _ _ _ _ _ _ _ rfl V.n_range (@wJ _ _ _ _ _ _ _ _ qM (@YD _ _ _ _ _ _ _ _ _ (@QO _ _ _ _ _ _ _ (@qG _ _ 1 _ _ (by rfl) (by rfl) (by rfl)) qM) qF)) (by rfl) (by rfl)) (@wj _ _ 3 _ sc_line_ways.nd (by rfl) (by first |exact Or.inl rfl |exact Or.inr rfl) (by first |exact .inl rfl |exact .inr rfl |assumption)) (@qU _ _ _ _ (@yp _ _ _ _ _ _ _ _ _ (@qG _ _ 2 _ _ (by rfl) (by rfl) (by rfl)) (@Yb _ _ _ _ _ _ _ (@ZK _ _ _ _ _ _ _ _ _ (@wH _ _ _ _ (@QW _ _ _ _ _ _ _ (["ways","many"]) (["long","price"]) ([2,3]) _ _ _ _ _ (by exact QU rfl (by decide +kernel) rfl rfl ⟨⟨rfl,rfl⟩,⟨⟨rfl,rfl⟩,trivial⟩⟩) (@wK _ _ _ _ _ (@qG _ _ 0 _ _ (by rfl) (by rfl) (by rfl))) (fun s' H' fp pn=>⟨(@q8 _ _ _ _ _ _ _ (@qG _ _ 0 _ _ (by rfl) (by rfl) (by rfl)) (@ZI _ _ _ _ _ _ _ (@qG _ _ 1 _ _ (by rfl) (by rfl) (by rfl)) (@qG _ _ 2 _ _ (by rfl) (by rfl) (by rfl))) (by exact fun _ _=>rfl)),⟨(@W9 _ _ _ _ _ _ hc (@qz _ _ _ _ _ (@qy _ _ 2 _ (show (["ways","many","long","price"]:List Str).Nodup by decide +kernel) (by rfl) (by first |exact Or.inl rfl |exact Or.inr rfl) (by first |exact .inl rfl |exact .inr rfl |assumption)) (@qz _ _ _ _ _ (@qy _ _ 3 _ (show (["ways","many","long","price"]:List Str).Nodup by decide +kernel) (by rfl) (by first |exact Or.inl rfl |exact Or.inr rfl) (by first |exact .inl rfl |exact .inr rfl |assumption)) WK (by rfl)) (by rfl)) (by rfl) (by rfl)),(wl (qw (qX 2) (qw (qX 3) wm))),(TsOk.cons (@Qe _ _ _ _ _ _ _ _ _ _ WS WU (@qG _ _ 2 _ _ (by rfl) (by rfl) (by rfl)) (@qG _ _ 1 _ _ (by rfl) (by rfl) (by rfl)) (by first |exact QT _ |with_unfolding_all rfl)) TsOk.nil),rfl⟩,GsOk.nil⟩) (by intro _;rfl))) qF) V.n_sum (by rfl) (by rfl) (by rfl)) (by rfl) (by rfl) (by rfl) (by rfl) (by rfl) (by rfl))) (by intro _;rfl)) (@qU _ _ _ _ (@qj _ _ _ _ _ (@q8 _ _ _ _ _ _ _ (@qG _ _ 2 _ _ (by rfl) (by rfl) (by rfl)) (@JF _ _ _ _ _ qM) (by exact fun _ _=>rfl)))))))
theorem sc_cheapest_lines:FnScope ["sorts","cells","lines","many","firsts","options"] ["sorts","cells"] (qI qu):=⟨rfl,rfl,rfl,by decide +kernel,rfl,by decide +kernel,by decide +kernel⟩
theorem WZ (V:Env K mg a):DefG P w K mg base 2 "cheapest_lines" a.cheapest_lines 2 (Qu a):=by
 obtain ⟨fd,F⟩:=V.f_cheapest_lines
 refine Q0 (B:=wM a) F sc_cheapest_lines (F.binds (ps:=["sorts","cells"]) fun _ _ _ _ _ _ us hl=>match us,hl with |[_,_],_=>rfl) V.m_cheapest_lines (fun l st h=>qc h) (fun cdv A outer s H E hr hcm => ?_) (fun l s0 hl hn=>qY hl)
 have hu:=hr.units
 have hc:(Wd (CXF P w) P w K mg base ["sorts","cells","lines","many","firsts","options"] "cheapest_lines" (qI qu) a.cheapest_lines cdv A outer s H E).calm=true:=by show A.handled.isNone=true;rw [hcm (by omega)];rfl
 exact (@qN _ _ _ _ _ _ (@Js _ _ _ _ 2 _ _ _ sc_cheapest_lines.nd (@zU _ _ _ _ _ (@qFD _ _ _ _ _ _ _ _ (@Wx _ _ _ _ _ _ (@wJ _ _ _ _ _ _ _ _ qM (@qFD _ _ _ _ _ _ _ _ (@Wx _ _ _ _ _ _ qF) qF))) qF)) (by rfl) (by first |exact Or.inl rfl |exact Or.inr rfl) (by rfl) (by first |exact .inl rfl |exact .inr rfl |assumption)) (@qN _ _ _ _ _ _ (@yA _ _ _ _ _ _ _ _ _ (@zL _ _ _ _ _ _ _ _ rfl V.n_range (@wJ _ _ _ _ _ _ _ _ qM (@YD _ _ _ _ _ _ _ _ _ (@QO _ _ _ _ _ _ _ (@qG _ _ 1 _ _ (by rfl) (by rfl) (by rfl)) qM) qF)) (by rfl) (by rfl)) (@wj _ _ 3 _ sc_cheapest_lines.nd (by rfl) (by first |exact Or.inl rfl |exact Or.inr rfl) (by first |exact .inl rfl |exact .inr rfl |assumption)) (@qN _ _ _ _ _ _ (@Zd _ _ _ _ _ _ _ _ _ _ (["lines","many"]) (["long","price"]) ([2,3]) _ _ _ _ _ 4 sc_cheapest_lines.nd (by exact QU rfl (by decide +kernel) rfl rfl ⟨⟨rfl,rfl⟩,⟨⟨rfl,rfl⟩,trivial⟩⟩) (@wK _ _ _ _ _ (@qG _ _ 0 _ _ (by rfl) (by rfl) (by rfl))) (fun s' H' fp pn=>⟨(@Wx _ _ _ _ _ _ (@qW _ _ _ _ _ _ _ (@qG _ _ 2 _ _ (by rfl) (by rfl) (by rfl)) (@qW _ _ _ _ _ _ _ (@qG _ _ 3 _ _ (by rfl) (by rfl) (by rfl)) (@qAa _ _ _ _ _ _ _ _ (@q8 _ _ _ _ _ _ _ (@qG _ _ 0 _ _ (by rfl) (by rfl) (by rfl)) (@ZI _ _ _ _ _ _ _ (@qG _ _ 1 _ _ (by rfl) (by rfl) (by rfl)) (@qG _ _ 2 _ _ (by rfl) (by rfl) (by rfl))) (by exact fun _ _=>rfl)) qF)))),⟨(@W9 _ _ _ _ _ _ hc (@qz _ _ _ _ _ (@qy _ _ 2 _ (show (["lines","many","long","price"]:List Str).Nodup by decide +kernel) (by rfl) (by first |exact Or.inl rfl |exact Or.inr rfl) (by first |exact .inl rfl |exact .inr rfl |assumption)) (@qz _ _ _ _ _ (@qy _ _ 3 _ (show (["lines","many","long","price"]:List Str).Nodup by decide +kernel) (by rfl) (by first |exact Or.inl rfl |exact Or.inr rfl) (by first |exact .inl rfl |exact .inr rfl |assumption)) WK (by rfl)) (by rfl)) (by rfl) (by rfl)),(wl (qw (qX 2) (qw (qX 3) wm))),(TsOk.cons (@Qe _ _ _ _ _ _ _ _ _ _ WS WU (@qG _ _ 2 _ _ (by rfl) (by rfl) (by rfl)) (@qG _ _ 1 _ _ (by rfl) (by rfl) (by rfl)) (by first |exact QT _ |with_unfolding_all rfl)) TsOk.nil),rfl⟩,GsOk.nil⟩) (by rfl) (by first |exact Or.inl rfl |exact Or.inr rfl) (by first |exact .inl rfl |exact .inr rfl |assumption) (by rfl) (by intro _;rfl)) (@qN _ _ _ _ _ _ (@Zd _ _ _ _ _ _ _ _ _ _ ([]) (["long","price","rest"]) ([]) _ _ _ _ _ 5 sc_cheapest_lines.nd (by exact QU rfl (by decide +kernel) rfl rfl trivial) (@wK _ _ _ _ _ (@qG _ _ 4 _ _ (by rfl) (by rfl) (by rfl))) (fun s' H' fp pn=>⟨(@Wx _ _ _ _ _ _ (@YD _ _ _ _ _ _ _ _ _ (@QO _ _ _ _ _ _ _ (@qG _ _ 1 _ _ (by rfl) (by rfl) (by rfl)) (@q8 _ _ _ _ _ _ _ (@qG _ _ 2 _ _ (by rfl) (by rfl) (by rfl)) qM (by exact fun _ _=>rfl))) (@YD _ _ _ _ _ _ _ _ _ (@Jl _ _ _ _ _ _ _ (@Wx _ _ _ _ _ _ (@qW _ _ _ _ _ _ _ (@qG _ _ 0 _ _ (by rfl) (by rfl) (by rfl)) qF)) (@q8 _ _ _ _ _ _ _ (@qG _ _ 2 _ _ (by rfl) (by rfl) (by rfl)) qM (by exact fun _ _=>rfl))) qF))),⟨(@W9 _ _ _ _ _ _ hc (@qz _ _ _ _ _ (@qy _ _ 0 _ (show (["long","price","rest"]:List Str).Nodup by decide +kernel) (by rfl) (by first |exact Or.inl rfl |exact Or.inr rfl) (by first |exact .inl rfl |exact .inr rfl |assumption)) (@qz _ _ _ _ _ (@qy _ _ 1 _ (show (["long","price","rest"]:List Str).Nodup by decide +kernel) (by rfl) (by first |exact Or.inl rfl |exact Or.inr rfl) (by first |exact .inl rfl |exact .inr rfl |assumption)) (@qz _ _ _ _ _ (@qy _ _ 2 _ (show (["long","price","rest"]:List Str).Nodup by decide +kernel) (by rfl) (by first |exact Or.inl rfl |exact Or.inr rfl) (by first |exact .inl rfl |exact .inr rfl |assumption)) WK (by rfl)) (by rfl)) (by rfl)) (by rfl) (by rfl)),(wl (qw (qX 0) (qw (qX 1) (qw (qX 2) wm)))),(TsOk.cons (@Qe _ _ _ _ _ _ _ _ _ _ qAD jF (@qG _ _ 2 _ _ (by rfl) (by rfl) (by rfl)) Q6 (by first |exact QT _ |with_unfolding_all rfl)) TsOk.nil),rfl⟩,GsOk.nil⟩) (by rfl) (by first |exact Or.inl rfl |exact Or.inr rfl) (by first |exact .inl rfl |exact .inr rfl |assumption) (by rfl) (by intro _;rfl)) (@qU _ _ _ _ (@yp _ _ _ _ _ _ _ _ _ (@qG _ _ 2 _ _ (by rfl) (by rfl) (by rfl)) (@qDO _ _ _ _ _ _ _ _ _ hc hu V.n_min (@qG _ _ 5 _ _ (by rfl) (by rfl) (by rfl)) (by rfl) (by rfl) (by rfl)) (by rfl) (by rfl) (by rfl) (by rfl) (by rfl) (by rfl))))) (by intro _;rfl)) (@qU _ _ _ _ (@qj _ _ _ _ _ (@qG _ _ 2 _ _ (by rfl) (by rfl) (by rfl))))))
theorem z9:FnScope ["sorts","cells"] ["sorts","cells"] (qI QJ):=⟨rfl,rfl,rfl,by decide +kernel,rfl,by decide +kernel,by decide +kernel⟩
theorem QZ (V:Env K mg a):DefG P w K mg base 7 "cheapest_line" a.cheapest_line 2 (qh a):=by
 obtain ⟨fd,F⟩:=V.f_cheapest_line
 refine Q0 (B:=wZ a) F z9 (F.binds (ps:=["sorts","cells"]) fun _ _ _ _ _ _ us hl=>match us,hl with |[_,_],_=>rfl) V.m_cheapest_line (fun l st h=>qc h) (fun cdv A outer s H E hr hcm => ?_) (fun l s0 hl hn=>qY hl)
 have hu:=hr.units
 exact (@qN _ _ _ _ _ _ (@zq _ _ _ _ _ (@qS _ _ _ _ _ _ _ _ _ ((WJ V).call (hr.mono (by omega)) qT) (@qW _ _ _ _ _ _ _ (@qG _ _ 0 _ _ (by rfl) (by rfl) (by rfl)) (@qW _ _ _ _ _ _ _ (@qG _ _ 1 _ _ (by rfl) (by rfl) (by rfl)) qF)) (by rfl) (by rfl)) (by rfl)) (@qU _ _ _ _ (@qj _ _ _ _ _ (@q8 _ _ _ _ _ _ _ (@qS _ _ _ _ _ _ _ _ _ ((WZ V).call (hr.mono (by omega)) qT) (@qW _ _ _ _ _ _ _ (@qG _ _ 0 _ _ (by rfl) (by rfl) (by rfl)) (@qW _ _ _ _ _ _ _ (@qG _ _ 1 _ _ (by rfl) (by rfl) (by rfl)) qF)) (by rfl) (by rfl)) (@JF _ _ _ _ _ qM) (by exact fun _ _=>rfl)))))
theorem sc_line_paper_shows:FnScope ["sorts","cells","thing","long","price"] ["sorts","cells","thing"] (qI qi):=⟨rfl,rfl,rfl,by decide +kernel,rfl,by decide +kernel,by decide +kernel⟩
theorem wx (V:Env K mg a):DefG P w K mg base 7 "line_paper_shows" a.line_paper_shows 3 (QG a):=by
 obtain ⟨fd,F⟩:=V.f_line_paper_shows
 refine Q0 (B:=Qy a) F sc_line_paper_shows (F.binds (ps:=["sorts","cells","thing"]) fun _ _ _ _ _ _ us hl=>match us,hl with |[_,_,_],_=>rfl) V.m_line_paper_shows (fun l st h=>qc h) (fun cdv A outer s H E hr hcm => ?_) (fun l s0 hl hn=>qY hl)
 have hu:=hr.units
 have hc:(Wd (CXF P w) P w K mg base ["sorts","cells","thing","long","price"] "line_paper_shows" (qI qi) a.line_paper_shows cdv A outer s H E).calm=true:=by show A.handled.isNone=true;rw [hcm (by omega)];rfl
 exact (@qN _ _ _ _ _ _ (@zq _ _ _ _ _ (@qS _ _ _ _ _ _ _ _ _ ((WJ V).call (hr.mono (by omega)) qT) (@qW _ _ _ _ _ _ _ (@qG _ _ 0 _ _ (by rfl) (by rfl) (by rfl)) (@qW _ _ _ _ _ _ _ (@qG _ _ 1 _ _ (by rfl) (by rfl) (by rfl)) qF)) (by rfl) (by rfl)) (by rfl)) (@qN _ _ _ _ _ _ (@wa _ _ _ _ _ _ _ _ _ (@Wn _ _ _ _ _ (@Wc _ _ _ _ (@qS _ _ _ _ _ _ _ _ _ ((zw V).call (hr.mono (by omega)) qT) (@qW _ _ _ _ _ _ _ (@qG _ _ 2 _ _ (by rfl) (by rfl) (by rfl)) (@qW _ _ _ _ _ _ _ (@qG _ _ 1 _ _ (by rfl) (by rfl) (by rfl)) (@qW _ _ _ _ _ _ _ (@qG _ _ 1 _ _ (by rfl) (by rfl) (by rfl)) qF))) (by rfl) (by rfl)) (by intro _;rfl))) (@qU _ _ _ _ (@qj _ _ _ _ _ Q6)) QP) (@qN _ _ _ _ _ _ (@yA _ _ _ _ _ _ _ _ _ (@wK _ _ _ _ _ (@qG _ _ 0 _ _ (by rfl) (by rfl) (by rfl))) (@W9 _ _ _ _ _ _ hc (@qz _ _ _ _ _ (@wj _ _ 3 _ sc_line_paper_shows.nd (by rfl) (by first |exact Or.inl rfl |exact Or.inr rfl) (by first |exact .inl rfl |exact .inr rfl |assumption)) (@qz _ _ _ _ _ (@wj _ _ 4 _ sc_line_paper_shows.nd (by rfl) (by first |exact Or.inl rfl |exact Or.inr rfl) (by first |exact .inl rfl |exact .inr rfl |assumption)) WK (by rfl)) (by rfl)) (by rfl) (by rfl)) (@qU _ _ _ _ (@wa _ _ _ _ _ _ _ _ _ (@Wc _ _ _ _ (@qEc _ _ _ _ _ _ _ (@ZK _ _ _ _ _ _ _ _ _ (@wH _ _ _ _ (@QW _ _ _ _ _ _ _ (["price","thing","long"]) (["first"]) ([4,2,3]) _ _ _ _ _ (by exact QU rfl (by decide +kernel) rfl rfl ⟨⟨rfl,rfl⟩,⟨⟨rfl,rfl⟩,⟨⟨rfl,rfl⟩,trivial⟩⟩⟩) (@wL _ _ _ _ _ _ _ rfl V.n_range (@YD _ _ _ _ _ _ _ _ _ (@QO _ _ _ _ _ _ _ (@ZI _ _ _ _ _ _ _ (@qG _ _ 1 _ _ (by rfl) (by rfl) (by rfl)) (@qG _ _ 3 _ _ (by rfl) (by rfl) (by rfl))) qM) qF) (by rfl)) (fun s' H' fp pn=>⟨(@qGh _ _ _ _ _ _ _ (@yz _ _ _ _ _ _ _ (@qAa _ _ _ _ _ _ _ _ (@qFy _ _ _ _ _ _ _ _ _ _ (@qG _ _ 1 _ _ (by rfl) (by rfl) (by rfl)) (@Je _ _ _ _ (@qG _ _ 3 _ _ (by rfl) (by rfl) (by rfl))) (@Je _ _ _ _ (@QO _ _ _ _ _ _ _ (@qG _ _ 3 _ _ (by rfl) (by rfl) (by rfl)) (@qG _ _ 2 _ _ (by rfl) (by rfl) (by rfl))))) qF) V.n_sum (by rfl) (by rfl) (by rfl)) (@qG _ _ 0 _ _ (by rfl) (by rfl) (by rfl))),⟨(@qy _ _ 3 _ (show (["price","thing","long","first"]:List Str).Nodup by decide +kernel) (by rfl) (by first |exact Or.inl rfl |exact Or.inr rfl) (by first |exact .inl rfl |exact .inr rfl |assumption)),(qX 3),TsOk.nil,rfl⟩,GsOk.nil⟩) (by intro _;rfl))) qF) V.n_any (by rfl) (by rfl) (by rfl)) (by intro _;rfl)) (@qU _ _ _ _ (@qj _ _ _ _ _ Q6)) QP)) (by intro _;rfl)) (@qU _ _ _ _ (@qj _ _ _ _ _ (@yz _ _ _ _ _ _ _ (@qW _ _ _ _ _ _ _ (@qG _ _ 2 _ _ (by rfl) (by rfl) (by rfl)) qF) V.n_sum (by rfl) (by rfl) (by rfl)))))))
theorem sc_line_paper:FnScope ["sorts","cells","lines","dearest","prices"] ["sorts","cells"] (qI Qq):=⟨rfl,rfl,rfl,by decide +kernel,rfl,by decide +kernel,by decide +kernel⟩
theorem Yd (V:Env K mg a):DefG P w K mg base 7 "line_paper" a.line_paper 2 (wg a):=by
 obtain ⟨fd,F⟩:=V.f_line_paper
 refine Q0 (B:=wf a) F sc_line_paper (F.binds (ps:=["sorts","cells"]) fun _ _ _ _ _ _ us hl=>match us,hl with |[_,_],_=>rfl) V.m_line_paper (fun l st h=>qc h) (fun cdv A outer s H E hr hcm => ?_) (fun l s0 hl hn=>qY hl)
 have hu:=hr.units
 exact (@qN _ _ _ _ _ _ (@zq _ _ _ _ _ (@qS _ _ _ _ _ _ _ _ _ ((WJ V).call (hr.mono (by omega)) qT) (@qW _ _ _ _ _ _ _ (@qG _ _ 0 _ _ (by rfl) (by rfl) (by rfl)) (@qW _ _ _ _ _ _ _ (@qG _ _ 1 _ _ (by rfl) (by rfl) (by rfl)) qF)) (by rfl) (by rfl)) (by rfl)) (@qN _ _ _ _ _ _ (@QM _ _ _ _ _ 2 _ _ sc_line_paper.nd (@qS _ _ _ _ _ _ _ _ _ ((WZ V).call (hr.mono (by omega)) qT) (@qW _ _ _ _ _ _ _ (@qG _ _ 0 _ _ (by rfl) (by rfl) (by rfl)) (@qW _ _ _ _ _ _ _ (@qG _ _ 1 _ _ (by rfl) (by rfl) (by rfl)) qF)) (by rfl) (by rfl)) (by rfl) (by first |exact Or.inl rfl |exact Or.inr rfl) (by rfl) (by first |exact .inl rfl |exact .inr rfl |assumption)) (@qN _ _ _ _ _ _ (@wa _ _ _ _ _ _ _ _ _ (@Qe _ _ _ _ _ _ _ _ _ _ Z5 Yn (@q8 _ _ _ _ _ _ _ (@qG _ _ 2 _ _ (by rfl) (by rfl) (by rfl)) (@JF _ _ _ _ _ qM) (by exact fun _ _=>rfl)) Q6 (by first |exact QT _ |with_unfolding_all rfl)) (@qU _ _ _ _ (@qj _ _ _ _ _ Q6)) QP) (@qN _ _ _ _ _ _ (@QM _ _ _ _ _ 3 _ _ sc_line_paper.nd (@qDj _ _ _ _ _ _ _ (@ZK _ _ _ _ _ _ _ _ _ (@wH _ _ _ _ (@QW _ _ _ _ _ _ _ ([]) (["line"]) ([]) _ _ _ _ _ (by exact QU rfl (by decide +kernel) rfl rfl trivial) (@wK _ _ _ _ _ (@qG _ _ 2 _ _ (by rfl) (by rfl) (by rfl))) (fun s' H' fp pn=>⟨(@q8 _ _ _ _ _ _ _ (@qG _ _ 0 _ _ (by rfl) (by rfl) (by rfl)) qM (by exact fun _ _=>rfl)),⟨(@qy _ _ 0 _ (show (["line"]:List Str).Nodup by decide +kernel) (by rfl) (by first |exact Or.inl rfl |exact Or.inr rfl) (by first |exact .inl rfl |exact .inr rfl |assumption)),(qX 0),(TsOk.cons (@Qe _ _ _ _ _ _ _ _ _ _ qAD jF (@qG _ _ 0 _ _ (by rfl) (by rfl) (by rfl)) Q6 (by first |exact QT _ |with_unfolding_all rfl)) TsOk.nil),rfl⟩,GsOk.nil⟩) (by intro _;rfl))) qF) V.n_max (by rfl) (by rfl) (by rfl)) (by rfl) (by first |exact Or.inl rfl |exact Or.inr rfl) (by rfl) (by first |exact .inl rfl |exact .inr rfl |assumption)) (@qN _ _ _ _ _ _ (@QM _ _ _ _ _ 4 _ _ sc_line_paper.nd (@wH _ _ _ _ (@QW _ _ _ _ _ _ _ (["dearest"]) (["line"]) ([3]) _ _ _ _ _ (by exact QU rfl (by decide +kernel) rfl rfl ⟨⟨rfl,rfl⟩,trivial⟩) (@wK _ _ _ _ _ (@qG _ _ 2 _ _ (by rfl) (by rfl) (by rfl))) (fun s' H' fp pn=>⟨(@qGJ _ _ _ _ _ _ _ _ _ (@Qe _ _ _ _ _ _ _ _ _ _ Z5 Yn (@qG _ _ 1 _ _ (by rfl) (by rfl) (by rfl)) Q6 (by first |exact QT _ |with_unfolding_all rfl)) (@qG _ _ 0 _ _ (by rfl) (by rfl) (by rfl)) (@q8 _ _ _ _ _ _ _ (@qG _ _ 1 _ _ (by rfl) (by rfl) (by rfl)) qM (by exact fun _ _=>rfl))),⟨(@qy _ _ 1 _ (show (["dearest","line"]:List Str).Nodup by decide +kernel) (by rfl) (by first |exact Or.inl rfl |exact Or.inr rfl) (by first |exact .inl rfl |exact .inr rfl |assumption)),(qX 1),TsOk.nil,rfl⟩,GsOk.nil⟩) (by intro _;rfl))) (by rfl) (by first |exact Or.inl rfl |exact Or.inr rfl) (by rfl) (by first |exact .inl rfl |exact .inr rfl |assumption)) (@qU _ _ _ _ (@qj _ _ _ _ _ (@zF _ _ _ _ _ _ _ (@ZK _ _ _ _ _ _ _ _ _ (@wH _ _ _ _ (@QW _ _ _ _ _ _ _ (["prices"]) (["at"]) ([4]) _ _ _ _ _ (by exact QU rfl (by decide +kernel) rfl rfl ⟨⟨rfl,rfl⟩,trivial⟩) (@wL _ _ _ _ _ _ _ rfl V.n_range (@qW _ _ _ _ _ _ _ (@qG _ _ 1 _ _ (by rfl) (by rfl) (by rfl)) qF) (by rfl)) (fun s' H' fp pn=>⟨(@ZI _ _ _ _ _ _ _ (@q8 _ _ _ _ _ _ _ (@qG _ _ 0 _ _ (by rfl) (by rfl) (by rfl)) (@QO _ _ _ _ _ _ _ (@qG _ _ 1 _ _ (by rfl) (by rfl) (by rfl)) qM) (by exact fun _ _=>rfl)) (@q8 _ _ _ _ _ _ _ (@qG _ _ 0 _ _ (by rfl) (by rfl) (by rfl)) (@qG _ _ 1 _ _ (by rfl) (by rfl) (by rfl)) (by exact fun _ _=>rfl))),⟨(@qy _ _ 1 _ (show (["prices","at"]:List Str).Nodup by decide +kernel) (by rfl) (by first |exact Or.inl rfl |exact Or.inr rfl) (by first |exact .inl rfl |exact .inr rfl |assumption)),(qX 1),TsOk.nil,rfl⟩,GsOk.nil⟩) (by intro _;rfl))) qF) V.n_tuple (by rfl) (by rfl) (by rfl)))))))))
theorem Yz:FnScope ["_law_script","_law_k"] ["_law_script","_law_k"] (qI wN):=⟨rfl,rfl,rfl,by decide +kernel,rfl,by decide +kernel,by decide +kernel⟩
theorem JD (V:Env K mg a):DefG P w K mg base 2 "_law_cell" a.law_cell 2 (Wh a):=by
 obtain ⟨fd,F⟩:=V.f_law_cell
 refine Q0 (B:=Wo a) F Yz (F.binds (ps:=["_law_script","_law_k"]) fun _ _ _ _ _ _ us hl=>match us,hl with |[_,_],_=>rfl) V.m_law_cell (fun l st h=>qc h) (fun cdv A outer s H E hr hcm => ?_) (fun l s0 hl hn=>qY hl)
 have hu:=hr.units
 exact (@qN _ _ _ _ _ _ (@wa _ _ _ _ _ _ _ _ _ (@Qe _ _ _ _ _ _ _ _ _ _ qCw qBi (@qG _ _ 1 _ _ (by rfl) (by rfl) (by rfl)) (@we _ _ _ _ _ _ _ (@qW _ _ _ _ _ _ _ (@qG _ _ 0 _ _ (by rfl) (by rfl) (by rfl)) qF) V.n_len (by rfl) (by rfl) (by rfl)) (by first |exact QT _ |with_unfolding_all rfl)) (@qU _ _ _ _ (@qj _ _ _ _ _ (@q8 _ _ _ _ _ _ _ (@qG _ _ 0 _ _ (by rfl) (by rfl) (by rfl)) (@qG _ _ 1 _ _ (by rfl) (by rfl) (by rfl)) (by exact fun _ _=>rfl)))) QP) (@qU _ _ _ _ (@qj _ _ _ _ _ (@QO _ _ _ _ _ _ _ (@ZH _ _ _ _ _ _ _ qM (@qG _ _ 1 _ _ (by rfl) (by rfl) (by rfl))) qM))))
theorem sc_law_box:FnScope ["_law_script","_law_k","_law_cell_here","_law_number","_law_mixed","_law_j"] ["_law_script","_law_k"] (qI wo):=⟨rfl,rfl,rfl,by decide +kernel,rfl,by decide +kernel,by decide +kernel⟩
theorem qAc (V:Env K mg a):DefG P w K mg base 3 "_law_box" a.law_box 2 (zN a):=by
 obtain ⟨fd,F⟩:=V.f_law_box
 refine Q0 (B:=zK a) F sc_law_box (F.binds (ps:=["_law_script","_law_k"]) fun _ _ _ _ _ _ us hl=>match us,hl with |[_,_],_=>rfl) V.m_law_box (fun l st h=>qc h) (fun cdv A outer s H E hr hcm => ?_) (fun l s0 hl hn=>qY hl)
 have hu:=hr.units
 exact (@qN _ _ _ _ _ _ (@QM _ _ _ _ _ 2 _ _ sc_law_box.nd (@qS _ _ _ _ _ _ _ _ _ ((JD V).call (hr.mono (by omega)) qT) (@qW _ _ _ _ _ _ _ (@qG _ _ 0 _ _ (by rfl) (by rfl) (by rfl)) (@qW _ _ _ _ _ _ _ (@qG _ _ 1 _ _ (by rfl) (by rfl) (by rfl)) qF)) (by rfl) (by rfl)) (by rfl) (by first |exact Or.inl rfl |exact Or.inr rfl) (by rfl) (by first |exact .inl rfl |exact .inr rfl |assumption)) (@qN _ _ _ _ _ _ (@wa _ _ _ _ _ _ _ _ _ (@Qe _ _ _ _ _ _ _ _ _ _ (jy hu) qCy (@Yf _ _ _ _ _ _ _ (@qG _ _ 2 _ _ (by rfl) (by rfl) (by rfl)) qM) qM (by first |exact QT _ |with_unfolding_all rfl)) (@qU _ _ _ _ (@qAO _ _ _ _ _ (@zU _ _ _ _ _ (@YD _ _ _ _ _ _ _ _ _ (@qFT _ _ _ _ _ _ _ (@qG _ _ 2 _ _ (by rfl) (by rfl) (by rfl)) qM) qF)))) QP) (@qN _ _ _ _ _ _ (@QM _ _ _ _ _ 3 _ _ sc_law_box.nd qM (by rfl) (by first |exact Or.inl rfl |exact Or.inr rfl) (by rfl) (by first |exact .inl rfl |exact .inr rfl |assumption)) (@qN _ _ _ _ _ _ (@QM _ _ _ _ _ 4 _ _ sc_law_box.nd (@Yf _ _ _ _ _ _ _ (@qG _ _ 2 _ _ (by rfl) (by rfl) (by rfl)) qM) (by rfl) (by first |exact Or.inl rfl |exact Or.inr rfl) (by rfl) (by first |exact .inl rfl |exact .inr rfl |assumption)) (@qN _ _ _ _ _ _ (@yA _ _ _ _ _ _ _ _ _ (@wL _ _ _ _ _ _ _ rfl V.n_range (@wJ _ _ _ _ _ _ _ _ qM qF) (by rfl)) (@wj _ _ 5 _ sc_law_box.nd (by rfl) (by first |exact Or.inl rfl |exact Or.inr rfl) (by first |exact .inl rfl |exact .inr rfl |assumption)) (@qN _ _ _ _ _ _ (@QM _ _ _ _ _ 4 _ _ sc_law_box.nd (@Yf _ _ _ _ _ _ _ (@QO _ _ _ _ _ _ _ (@QO _ _ _ _ _ _ _ (@QO _ _ _ _ _ _ _ (@ZH _ _ _ _ _ _ _ (@qG _ _ 4 _ _ (by rfl) (by rfl) (by rfl)) qM) (@ZH _ _ _ _ _ _ _ (@ZH _ _ _ _ _ _ _ qM (@qG _ _ 5 _ _ (by rfl) (by rfl) (by rfl))) (@qG _ _ 5 _ _ (by rfl) (by rfl) (by rfl)))) (@ZH _ _ _ _ _ _ _ qM (@qG _ _ 1 _ _ (by rfl) (by rfl) (by rfl)))) qM) qM) (by rfl) (by first |exact Or.inl rfl |exact Or.inr rfl) (by rfl) (by first |exact .inl rfl |exact .inr rfl |assumption)) (@qU _ _ _ _ (@QM _ _ _ _ _ 3 _ _ sc_law_box.nd (@QO _ _ _ _ _ _ _ (@ZH _ _ _ _ _ _ _ (@qG _ _ 3 _ _ (by rfl) (by rfl) (by rfl)) qM) (@qG _ _ 4 _ _ (by rfl) (by rfl) (by rfl))) (by rfl) (by first |exact Or.inl rfl |exact Or.inr rfl) (by rfl) (by first |exact .inl rfl |exact .inr rfl |assumption)))) (by intro _;rfl)) (@qU _ _ _ _ (@qAO _ _ _ _ _ (@zU _ _ _ _ _ (@qW _ _ _ _ _ _ _ (@qG _ _ 3 _ _ (by rfl) (by rfl) (by rfl)) qF)))))))))
theorem sc_law_take:FnScope ["_law_box_here","_law_many","_law_digit"] ["_law_box_here","_law_many"] (qI wP):=⟨rfl,rfl,rfl,by decide +kernel,rfl,by decide +kernel,by decide +kernel⟩
theorem qv (V:Env K mg a):DefG P w K mg base 2 "_law_take" a.law_take 2 (qR a):=by
 obtain ⟨fd,F⟩:=V.f_law_take
 refine Q0 (B:=zX a) F sc_law_take (F.binds (ps:=["_law_box_here","_law_many"]) fun _ _ _ _ _ _ us hl=>match us,hl with |[_,_],_=>rfl) V.m_law_take (fun l st h=>qc h) (fun cdv A outer s H E hr hcm => ?_) (fun l s0 hl hn=>qY hl)
 have hu:=hr.units
 exact (@qN _ _ _ _ _ _ (@QM _ _ _ _ _ 2 _ _ sc_law_take.nd (@Yf _ _ _ _ _ _ _ (@q8 _ _ _ _ _ _ _ (@qG _ _ 0 _ _ (by rfl) (by rfl) (by rfl)) qM (by exact fun _ _=>rfl)) (@qG _ _ 1 _ _ (by rfl) (by rfl) (by rfl))) (by rfl) (by first |exact Or.inl rfl |exact Or.inr rfl) (by rfl) (by first |exact .inl rfl |exact .inr rfl |assumption)) (@qN _ _ _ _ _ _ (@qFb _ _ _ _ _ _ _ _ _ _ (@qG _ _ 0 _ _ (by rfl) (by rfl) (by rfl)) qM (@qDU _ _ _ _ _ _ _ (@q8 _ _ _ _ _ _ _ (@qG _ _ 0 _ _ (by rfl) (by rfl) (by rfl)) qM (by exact fun _ _=>rfl)) (@qG _ _ 1 _ _ (by rfl) (by rfl) (by rfl))) (by rfl) (by rfl) (by rfl) (by intro _;rfl)) (@qU _ _ _ _ (@qj _ _ _ _ _ (@qG _ _ 2 _ _ (by rfl) (by rfl) (by rfl))))))
theorem sc_law_sorts:FnScope ["_law_box_here","_law_longs","_law_most"] ["_law_box_here"] (qI Qm):=⟨rfl,rfl,rfl,by decide +kernel,rfl,by decide +kernel,by decide +kernel⟩
theorem Yr (V:Env K mg a):DefG P w K mg base 3 "_law_sorts" a.law_sorts 1 (WD a):=by
 obtain ⟨fd,F⟩:=V.f_law_sorts
 refine Q0 (B:=Wy a) F sc_law_sorts (F.binds (ps:=["_law_box_here"]) fun _ _ _ _ _ _ us hl=>match us,hl with |[_],_=>rfl) V.m_law_sorts (fun l st h=>qc h) (fun cdv A outer s H E hr hcm => ?_) (fun l s0 hl hn=>qY hl)
 have hu:=hr.units
 have hc:(Wd (CXF P w) P w K mg base ["_law_box_here","_law_longs","_law_most"] "_law_sorts" (qI Qm) a.law_sorts cdv A outer s H E).calm=true:=by show A.handled.isNone=true;rw [hcm (by omega)];rfl
 exact (@qN _ _ _ _ _ _ (@QM _ _ _ _ _ 1 _ _ sc_law_sorts.nd (@qC4 _ _ _ _ _ _ _ _ hc V.n_sorted V.n_set (@wH _ _ _ _ (@QW _ _ _ _ _ _ _ (["_law_box_here"]) (["_law_turn"]) ([0]) _ _ _ _ _ (by exact QU rfl (by decide +kernel) rfl rfl ⟨⟨rfl,rfl⟩,trivial⟩) (@wL _ _ _ _ _ _ _ rfl V.n_range (@YD _ _ _ _ _ _ _ _ _ (@QO _ _ _ _ _ _ _ qM (@qS _ _ _ _ _ _ _ _ _ ((qv V).call (hr.mono (by omega)) qT) (@qW _ _ _ _ _ _ _ (@qG _ _ 0 _ _ (by rfl) (by rfl) (by rfl)) (@wJ _ _ _ _ _ _ _ _ qM qF)) (by rfl) (by rfl))) qF) (by rfl)) (fun s' H' fp pn=>⟨(@QO _ _ _ _ _ _ _ qM (@qS _ _ _ _ _ _ _ _ _ ((qv V).call (hr.mono (by omega)) (Qf _)) (@qW _ _ _ _ _ _ _ (@qG _ _ 0 _ _ (by rfl) (by rfl) (by rfl)) (@qAa _ _ _ _ _ _ _ _ (@q8 _ _ _ _ _ _ _ (@wH _ _ _ _ (@zU _ _ _ _ _ (@wJ _ _ _ _ _ _ _ _ qM (@wJ _ _ _ _ _ _ _ _ qM qF)))) (@qS _ _ _ _ _ _ _ _ _ ((qv V).call (hr.mono (by omega)) (Qf _)) (@qW _ _ _ _ _ _ _ (@qG _ _ 0 _ _ (by rfl) (by rfl) (by rfl)) (@wJ _ _ _ _ _ _ _ _ qM qF)) (by rfl) (by rfl)) (by exact fun _ _=>rfl)) qF)) (by rfl) (by rfl))),⟨(@qy _ _ 1 _ (show (["_law_box_here","_law_turn"]:List Str).Nodup by decide +kernel) (by rfl) (by first |exact Or.inl rfl |exact Or.inr rfl) (by first |exact .inl rfl |exact .inr rfl |assumption)),(qX 1),TsOk.nil,rfl⟩,GsOk.nil⟩) (by intro _;rfl))) (by rfl) (by rfl) (by rfl) (by rfl)) (by rfl) (by first |exact Or.inl rfl |exact Or.inr rfl) (by rfl) (by first |exact .inl rfl |exact .inr rfl |assumption)) (@qN _ _ _ _ _ _ (@QM _ _ _ _ _ 2 _ _ sc_law_sorts.nd (@q8 _ _ _ _ _ _ _ (@wH _ _ _ _ (@zU _ _ _ _ _ (@wJ _ _ _ _ _ _ _ _ qM (@wJ _ _ _ _ _ _ _ _ qM (@YD _ _ _ _ _ _ _ _ _ (@QO _ _ _ _ _ _ _ (@qFL _ _ _ _ _ _ _ qM qM) qM) qF))))) (@qS _ _ _ _ _ _ _ _ _ ((qv V).call (hr.mono (by omega)) qT) (@qW _ _ _ _ _ _ _ (@qG _ _ 0 _ _ (by rfl) (by rfl) (by rfl)) (@wJ _ _ _ _ _ _ _ _ qM qF)) (by rfl) (by rfl)) (by exact fun _ _=>rfl)) (by rfl) (by first |exact Or.inl rfl |exact Or.inr rfl) (by rfl) (by first |exact .inl rfl |exact .inr rfl |assumption)) (@qU _ _ _ _ (@qj _ _ _ _ _ (@zF _ _ _ _ _ _ _ (@ZK _ _ _ _ _ _ _ _ _ (@wH _ _ _ _ (@QW _ _ _ _ _ _ _ (["_law_box_here","_law_most"]) (["_law_long"]) ([0,2]) _ _ _ _ _ (by exact QU rfl (by decide +kernel) rfl rfl ⟨⟨rfl,rfl⟩,⟨⟨rfl,rfl⟩,trivial⟩⟩) (@wK _ _ _ _ _ (@qG _ _ 1 _ _ (by rfl) (by rfl) (by rfl))) (fun s' H' fp pn=>⟨(@Wx _ _ _ _ _ _ (@qW _ _ _ _ _ _ _ (@qG _ _ 2 _ _ (by rfl) (by rfl) (by rfl)) (@zz _ _ _ _ _ _ _ _ _ (@qS _ _ _ _ _ _ _ _ _ ((qv V).call (hr.mono (by omega)) (Qf _)) (@qW _ _ _ _ _ _ _ (@qG _ _ 0 _ _ (by rfl) (by rfl) (by rfl)) (@qW _ _ _ _ _ _ _ (@qG _ _ 1 _ _ (by rfl) (by rfl) (by rfl)) qF)) (by rfl) (by rfl)) qF))),⟨(@qy _ _ 2 _ (show (["_law_box_here","_law_most","_law_long"]:List Str).Nodup by decide +kernel) (by rfl) (by first |exact Or.inl rfl |exact Or.inr rfl) (by first |exact .inl rfl |exact .inr rfl |assumption)),(qX 2),TsOk.nil,rfl⟩,GsOk.nil⟩) (by intro _;rfl))) qF) V.n_tuple (by rfl) (by rfl) (by rfl))))))
theorem sc_law_right:FnScope ["_law_sorts_here","_law_cells","_law_best","_law_paper","_law_prices"] ["_law_sorts_here","_law_cells"] (qI Qn):=⟨rfl,rfl,rfl,by decide +kernel,rfl,by decide +kernel,by decide +kernel⟩
theorem Y1 (V:Env K mg a):DefG P w K mg base 8 "_law_right" a.law_right 2 (WG a):=by
 obtain ⟨fd,F⟩:=V.f_law_right
 refine Q0 (B:=WB a) F sc_law_right (F.binds (ps:=["_law_sorts_here","_law_cells"]) fun _ _ _ _ _ _ us hl=>match us,hl with |[_,_],_=>rfl) V.m_law_right (fun l st h=>qc h) (fun cdv A outer s H E hr hcm => ?_) (fun l s0 hl hn=>qY hl)
 have hu:=hr.units
 have hc:(Wd (CXF P w) P w K mg base ["_law_sorts_here","_law_cells","_law_best","_law_paper","_law_prices"] "_law_right" (qI Qn) a.law_right cdv A outer s H E).calm=true:=by show A.handled.isNone=true;rw [hcm (by omega)];rfl
 exact (@qN _ _ _ _ _ _ (@qFU _ _ _ _ _ 2 3 _ _ _ _ _ _ _ _ _ hc sc_law_right.nd (@zz _ _ _ _ _ _ _ _ _ (@qS _ _ _ _ _ _ _ _ _ ((QZ V).call (hr.mono (by omega)) qT) (@qW _ _ _ _ _ _ _ (@qG _ _ 0 _ _ (by rfl) (by rfl) (by rfl)) (@qW _ _ _ _ _ _ _ (@qG _ _ 1 _ _ (by rfl) (by rfl) (by rfl)) qF)) (by rfl) (by rfl)) (@zz _ _ _ _ _ _ _ _ _ (@qS _ _ _ _ _ _ _ _ _ ((Yd V).call (hr.mono (by omega)) qT) (@qW _ _ _ _ _ _ _ (@qG _ _ 0 _ _ (by rfl) (by rfl) (by rfl)) (@qW _ _ _ _ _ _ _ (@qG _ _ 1 _ _ (by rfl) (by rfl) (by rfl)) qF)) (by rfl) (by rfl)) qF)) (by rfl) (by rfl) (by rfl) (by decide) (by rfl) (by rfl) (by rfl)) (@qN _ _ _ _ _ _ (@wa _ _ _ _ _ _ _ _ _ (@qCZ _ _ _ _ (@Zp _ _ _ _ _ _ _ _ (@Qe _ _ _ _ _ _ _ _ _ _ (YI hu) Jd (@jb _ _ _ _ _ _ _ (@qG _ _ 2 _ _ (by rfl) (by rfl) (by rfl)) Q6) (@qD9 _ _ _ _ _ _ _ hu (@qS _ _ _ _ _ _ _ _ _ ((Wu V).call (hr.mono (by omega)) qT) (@qW _ _ _ _ _ _ _ (@qG _ _ 0 _ _ (by rfl) (by rfl) (by rfl)) (@qW _ _ _ _ _ _ _ (@qG _ _ 1 _ _ (by rfl) (by rfl) (by rfl)) qF)) (by rfl) (by rfl)) qM) (by first |exact QT _ |with_unfolding_all rfl)) (@Z9 _ _ _ _ _ (@Qe _ _ _ _ _ _ _ _ _ _ (YI hu) Jd (@jb _ _ _ _ _ _ _ (@qG _ _ 2 _ _ (by rfl) (by rfl) (by rfl)) Q6) (@jb _ _ _ _ _ _ _ (@qG _ _ 3 _ _ (by rfl) (by rfl) (by rfl)) Q6) (by first |exact QT _ |with_unfolding_all rfl))))) (@qU _ _ _ _ (@qj _ _ _ _ _ zQ)) QP) (@qN _ _ _ _ _ _ (@wa _ _ _ _ _ _ _ _ _ (@Qe _ _ _ _ _ _ _ _ _ _ Z5 Yn (@qG _ _ 2 _ _ (by rfl) (by rfl) (by rfl)) Q6 (by first |exact QT _ |with_unfolding_all rfl)) (@qU _ _ _ _ (@qj _ _ _ _ _ zQ)) QP) (@qN _ _ _ _ _ _ (@QM _ _ _ _ _ 4 _ _ sc_law_right.nd (@Y4 _ _ _ _ _ _ hc V.n_dict (@qG _ _ 0 _ _ (by rfl) (by rfl) (by rfl)) (by rfl) (by rfl) (by rfl)) (by rfl) (by first |exact Or.inl rfl |exact Or.inr rfl) (by rfl) (by first |exact .inl rfl |exact .inr rfl |assumption)) (@qN _ _ _ _ _ _ (@wa _ _ _ _ _ _ _ _ _ (@qCZ _ _ _ _ (@Zp _ _ _ _ _ _ _ _ (@Qe _ _ _ _ _ _ _ _ _ _ (YI hu) Jd (@yz _ _ _ _ _ _ _ (@qAa _ _ _ _ _ _ _ _ (@q8 _ _ _ _ _ _ _ (@qG _ _ 2 _ _ (by rfl) (by rfl) (by rfl)) qM (by exact fun _ _=>rfl)) qF) V.n_sum (by rfl) (by rfl) (by rfl)) (@qG _ _ 1 _ _ (by rfl) (by rfl) (by rfl)) (by first |exact QT _ |with_unfolding_all rfl)) (@Z9 _ _ _ _ _ (@Qe _ _ _ _ _ _ _ _ _ _ (YI hu) Jd (@q8 _ _ _ _ _ _ _ (@qG _ _ 2 _ _ (by rfl) (by rfl) (by rfl)) qM (by exact fun _ _=>rfl)) (@Yb _ _ _ _ _ _ _ (@ZK _ _ _ _ _ _ _ _ _ (@wH _ _ _ _ (@QW _ _ _ _ _ _ _ (["_law_prices"]) (["_law_long"]) ([4]) _ _ _ _ _ (by exact QU rfl (by decide +kernel) rfl rfl ⟨⟨rfl,rfl⟩,trivial⟩) (@wK _ _ _ _ _ (@q8 _ _ _ _ _ _ _ (@qG _ _ 2 _ _ (by rfl) (by rfl) (by rfl)) qM (by exact fun _ _=>rfl))) (fun s' H' fp pn=>⟨(@qEi _ _ _ _ _ _ _ (BS (Nat.add_le_add_left (by decide) _) hu) (@qG _ _ 0 _ _ (by rfl) (by rfl) (by rfl)) (@qG _ _ 1 _ _ (by rfl) (by rfl) (by rfl)) (by exact fun _ _=>rfl)),⟨(@qy _ _ 1 _ (show (["_law_prices","_law_long"]:List Str).Nodup by decide +kernel) (by rfl) (by first |exact Or.inl rfl |exact Or.inr rfl) (by first |exact .inl rfl |exact .inr rfl |assumption)),(qX 1),TsOk.nil,rfl⟩,GsOk.nil⟩) (by intro _;rfl))) qF) V.n_sum (by rfl) (by rfl) (by rfl)) (by first |exact QT _ |with_unfolding_all rfl))))) (@qU _ _ _ _ (@qj _ _ _ _ _ zQ)) QP) (@qU _ _ _ _ (@qj _ _ _ _ _ (@qD9 _ _ _ _ _ _ _ hu (@qS _ _ _ _ _ _ _ _ _ ((wx V).call (hr.mono (by omega)) qT) (@qW _ _ _ _ _ _ _ (@qG _ _ 0 _ _ (by rfl) (by rfl) (by rfl)) (@qW _ _ _ _ _ _ _ (@qG _ _ 1 _ _ (by rfl) (by rfl) (by rfl)) (@qW _ _ _ _ _ _ _ (@qG _ _ 3 _ _ (by rfl) (by rfl) (by rfl)) qF))) (by rfl) (by rfl)) (@q8 _ _ _ _ _ _ _ (@qG _ _ 2 _ _ (by rfl) (by rfl) (by rfl)) qM (by exact fun _ _=>rfl))))))))))
theorem sc_law_drawn_right:FnScope ["_law_box_here","_law_sorts_here","_law_longs","_law_cells","_law_best","_law_long","_law_price","_law_drawn","_law_shown"] ["_law_box_here","_law_sorts_here"] (qI qm):=⟨rfl,rfl,rfl,by decide +kernel,rfl,by decide +kernel,by decide +kernel⟩
theorem zl (V:Env K mg a):DefG P w K mg base 8 "_law_drawn_right" a.law_drawn_right 2 (Qi a):=by
 obtain ⟨fd,F⟩:=V.f_law_drawn_right
 refine Q0 (B:=Q3 a) F sc_law_drawn_right (F.binds (ps:=["_law_box_here","_law_sorts_here"]) fun _ _ _ _ _ _ us hl=>match us,hl with |[_,_],_=>rfl) V.m_law_drawn_right (fun l st h=>qc h) (fun cdv A outer s H E hr hcm => ?_) (fun l s0 hl hn=>qY hl)
 have hu:=hr.units
 have hc:(Wd (CXF P w) P w K mg base ["_law_box_here","_law_sorts_here","_law_longs","_law_cells","_law_best","_law_long","_law_price","_law_drawn","_law_shown"] "_law_drawn_right" (qI qm) a.law_drawn_right cdv A outer s H E).calm=true:=by show A.handled.isNone=true;rw [hcm (by omega)];rfl
 exact (@qN _ _ _ _ _ _ (@Zd _ _ _ _ _ _ _ _ _ _ (["_law_sorts_here","_law_box_here"]) (["_law_turn"]) ([1,0]) _ _ _ _ _ 2 sc_law_drawn_right.nd (by exact QU rfl (by decide +kernel) rfl rfl ⟨⟨rfl,rfl⟩,⟨⟨rfl,rfl⟩,trivial⟩⟩) (@wL _ _ _ _ _ _ _ rfl V.n_range (@zz _ _ _ _ _ _ _ _ _ (@qS _ _ _ _ _ _ _ _ _ ((qv V).call (hr.mono (by omega)) qT) (@qW _ _ _ _ _ _ _ (@qG _ _ 0 _ _ (by rfl) (by rfl) (by rfl)) (@wJ _ _ _ _ _ _ _ _ qM qF)) (by rfl) (by rfl)) qF) (by rfl)) (fun s' H' fp pn=>⟨(@q8 _ _ _ _ _ _ _ (@qG _ _ 0 _ _ (by rfl) (by rfl) (by rfl)) (@qS _ _ _ _ _ _ _ _ _ ((qv V).call (hr.mono (by omega)) (Qf _)) (@qW _ _ _ _ _ _ _ (@qG _ _ 1 _ _ (by rfl) (by rfl) (by rfl)) (@zz _ _ _ _ _ _ _ _ _ (@we _ _ _ _ _ _ _ (@qW _ _ _ _ _ _ _ (@qG _ _ 0 _ _ (by rfl) (by rfl) (by rfl)) qF) V.n_len (by rfl) (by rfl) (by rfl)) qF)) (by rfl) (by rfl)) (by exact fun _ _=>rfl)),⟨(@qy _ _ 2 _ (show (["_law_sorts_here","_law_box_here","_law_turn"]:List Str).Nodup by decide +kernel) (by rfl) (by first |exact Or.inl rfl |exact Or.inr rfl) (by first |exact .inl rfl |exact .inr rfl |assumption)),(qX 2),TsOk.nil,rfl⟩,GsOk.nil⟩) (by rfl) (by first |exact Or.inl rfl |exact Or.inr rfl) (by first |exact .inl rfl |exact .inr rfl |assumption) (by rfl) (by intro _;rfl)) (@qN _ _ _ _ _ _ (@QM _ _ _ _ _ 3 _ _ sc_law_drawn_right.nd (@Yb _ _ _ _ _ _ _ (@ZK _ _ _ _ _ _ _ _ _ (@wH _ _ _ _ (@QW _ _ _ _ _ _ _ ([]) (["_law_long","_law_price"]) ([]) _ _ _ _ _ (by exact QU rfl (by decide +kernel) rfl rfl trivial) (@wK _ _ _ _ _ (@qG _ _ 2 _ _ (by rfl) (by rfl) (by rfl))) (fun s' H' fp pn=>⟨(@qG _ _ 0 _ _ (by rfl) (by rfl) (by rfl)),⟨(@W9 _ _ _ _ _ _ hc (@qz _ _ _ _ _ (@qy _ _ 0 _ (show (["_law_long","_law_price"]:List Str).Nodup by decide +kernel) (by rfl) (by first |exact Or.inl rfl |exact Or.inr rfl) (by first |exact .inl rfl |exact .inr rfl |assumption)) (@qz _ _ _ _ _ (@qy _ _ 1 _ (show (["_law_long","_law_price"]:List Str).Nodup by decide +kernel) (by rfl) (by first |exact Or.inl rfl |exact Or.inr rfl) (by first |exact .inl rfl |exact .inr rfl |assumption)) WK (by rfl)) (by rfl)) (by rfl) (by rfl)),(wl (qw (qX 0) (qw (qX 1) wm))),TsOk.nil,rfl⟩,GsOk.nil⟩) (by intro _;rfl))) qF) V.n_sum (by rfl) (by rfl) (by rfl)) (by rfl) (by first |exact Or.inl rfl |exact Or.inr rfl) (by rfl) (by first |exact .inl rfl |exact .inr rfl |assumption)) (@qN _ _ _ _ _ _ (@QM _ _ _ _ _ 4 _ _ sc_law_drawn_right.nd (@qS _ _ _ _ _ _ _ _ _ ((QZ V).call (hr.mono (by omega)) qT) (@qW _ _ _ _ _ _ _ (@qG _ _ 1 _ _ (by rfl) (by rfl) (by rfl)) (@qW _ _ _ _ _ _ _ (@qG _ _ 3 _ _ (by rfl) (by rfl) (by rfl)) qF)) (by rfl) (by rfl)) (by rfl) (by first |exact Or.inl rfl |exact Or.inr rfl) (by rfl) (by first |exact .inl rfl |exact .inr rfl |assumption)) (@qN _ _ _ _ _ _ (@wa _ _ _ _ _ _ _ _ _ (@qCZ _ _ _ _ (@Zp _ _ _ _ _ _ _ _ (@Qe _ _ _ _ _ _ _ _ _ _ Z5 Yn (@qG _ _ 4 _ _ (by rfl) (by rfl) (by rfl)) Q6 (by first |exact QT _ |with_unfolding_all rfl)) (@Z9 _ _ _ _ _ (@Qe _ _ _ _ _ _ _ _ _ _ qCO qCg (@q8 _ _ _ _ _ _ _ (@qG _ _ 4 _ _ (by rfl) (by rfl) (by rfl)) qM (by exact fun _ _=>rfl)) (@Yb _ _ _ _ _ _ _ (@ZK _ _ _ _ _ _ _ _ _ (@wH _ _ _ _ (@QW _ _ _ _ _ _ _ ([]) (["_law_long","_law_price"]) ([]) _ _ _ _ _ (by exact QU rfl (by decide +kernel) rfl rfl trivial) (@wK _ _ _ _ _ (@qG _ _ 2 _ _ (by rfl) (by rfl) (by rfl))) (fun s' H' fp pn=>⟨(@qG _ _ 1 _ _ (by rfl) (by rfl) (by rfl)),⟨(@W9 _ _ _ _ _ _ hc (@qz _ _ _ _ _ (@qy _ _ 0 _ (show (["_law_long","_law_price"]:List Str).Nodup by decide +kernel) (by rfl) (by first |exact Or.inl rfl |exact Or.inr rfl) (by first |exact .inl rfl |exact .inr rfl |assumption)) (@qz _ _ _ _ _ (@qy _ _ 1 _ (show (["_law_long","_law_price"]:List Str).Nodup by decide +kernel) (by rfl) (by first |exact Or.inl rfl |exact Or.inr rfl) (by first |exact .inl rfl |exact .inr rfl |assumption)) WK (by rfl)) (by rfl)) (by rfl) (by rfl)),(wl (qw (qX 0) (qw (qX 1) wm))),TsOk.nil,rfl⟩,GsOk.nil⟩) (by intro _;rfl))) qF) V.n_sum (by rfl) (by rfl) (by rfl)) (by first |exact QT _ |with_unfolding_all rfl))))) (@qU _ _ _ _ (@qj _ _ _ _ _ zQ)) QP) (@qN _ _ _ _ _ _ (@qEv _ _ _ _ _ _ _ (@q8 _ _ _ _ _ _ _ (@qG _ _ 1 _ _ (by rfl) (by rfl) (by rfl)) (@qS _ _ _ _ _ _ _ _ _ ((qv V).call (hr.mono (by omega)) qT) (@qW _ _ _ _ _ _ _ (@qG _ _ 0 _ _ (by rfl) (by rfl) (by rfl)) (@zz _ _ _ _ _ _ _ _ _ (@we _ _ _ _ _ _ _ (@qW _ _ _ _ _ _ _ (@qG _ _ 1 _ _ (by rfl) (by rfl) (by rfl)) qF) V.n_len (by rfl) (by rfl) (by rfl)) qF)) (by rfl) (by rfl)) (by exact fun _ _=>rfl)) (@W9 _ _ _ _ _ _ hc (@qz _ _ _ _ _ (@wj _ _ 5 _ sc_law_drawn_right.nd (by rfl) (by first |exact Or.inl rfl |exact Or.inr rfl) (by first |exact .inl rfl |exact .inr rfl |assumption)) (@qz _ _ _ _ _ (@wj _ _ 6 _ sc_law_drawn_right.nd (by rfl) (by first |exact Or.inl rfl |exact Or.inr rfl) (by first |exact .inl rfl |exact .inr rfl |assumption)) WK (by rfl)) (by rfl)) (by rfl) (by rfl)) (by rfl) (by rfl) (by rfl)) (@qN _ _ _ _ _ _ (@wa _ _ _ _ _ _ _ _ _ (@Qe _ _ _ _ _ _ _ _ _ _ qCO qCg (@q8 _ _ _ _ _ _ _ (@qS _ _ _ _ _ _ _ _ _ ((QZ V).call (hr.mono (by omega)) qT) (@qW _ _ _ _ _ _ _ (@qG _ _ 1 _ _ (by rfl) (by rfl) (by rfl)) (@YD _ _ _ _ _ _ _ _ _ (@QO _ _ _ _ _ _ _ (@qG _ _ 3 _ _ (by rfl) (by rfl) (by rfl)) (@qG _ _ 5 _ _ (by rfl) (by rfl) (by rfl))) qF)) (by rfl) (by rfl)) qM (by exact fun _ _=>rfl)) (@QO _ _ _ _ _ _ _ (@q8 _ _ _ _ _ _ _ (@qG _ _ 4 _ _ (by rfl) (by rfl) (by rfl)) qM (by exact fun _ _=>rfl)) (@qG _ _ 6 _ _ (by rfl) (by rfl) (by rfl))) (by first |exact QT _ |with_unfolding_all rfl)) (@qU _ _ _ _ (@qj _ _ _ _ _ zQ)) QP) (@qN _ _ _ _ _ _ (@QM _ _ _ _ _ 7 _ _ sc_law_drawn_right.nd (@zF _ _ _ _ _ _ _ (@ZK _ _ _ _ _ _ _ _ _ (@wH _ _ _ _ (@QW _ _ _ _ _ _ _ (["_law_box_here"]) (["_law_cell_here"]) ([0]) _ _ _ _ _ (by exact QU rfl (by decide +kernel) rfl rfl ⟨⟨rfl,rfl⟩,trivial⟩) (@wL _ _ _ _ _ _ _ rfl V.n_range (@qW _ _ _ _ _ _ _ (@qG _ _ 3 _ _ (by rfl) (by rfl) (by rfl)) qF) (by rfl)) (fun s' H' fp pn=>⟨(@ZI _ _ _ _ _ _ _ (@qS _ _ _ _ _ _ _ _ _ ((qv V).call (hr.mono (by omega)) (Qf _)) (@qW _ _ _ _ _ _ _ (@qG _ _ 0 _ _ (by rfl) (by rfl) (by rfl)) (@wJ _ _ _ _ _ _ _ _ qM qF)) (by rfl) (by rfl)) qM),⟨(@qy _ _ 1 _ (show (["_law_box_here","_law_cell_here"]:List Str).Nodup by decide +kernel) (by rfl) (by first |exact Or.inl rfl |exact Or.inr rfl) (by first |exact .inl rfl |exact .inr rfl |assumption)),(qX 1),TsOk.nil,rfl⟩,GsOk.nil⟩) (by intro _;rfl))) qF) V.n_tuple (by rfl) (by rfl) (by rfl)) (by rfl) (by first |exact Or.inl rfl |exact Or.inr rfl) (by rfl) (by first |exact .inl rfl |exact .inr rfl |assumption)) (@qN _ _ _ _ _ _ (@QM _ _ _ _ _ 8 _ _ sc_law_drawn_right.nd (@qS _ _ _ _ _ _ _ _ _ ((wx V).call (hr.mono (by omega)) qT) (@qW _ _ _ _ _ _ _ (@qG _ _ 1 _ _ (by rfl) (by rfl) (by rfl)) (@qW _ _ _ _ _ _ _ (@qG _ _ 3 _ _ (by rfl) (by rfl) (by rfl)) (@qW _ _ _ _ _ _ _ (@qG _ _ 7 _ _ (by rfl) (by rfl) (by rfl)) qF))) (by rfl) (by rfl)) (by rfl) (by first |exact Or.inl rfl |exact Or.inr rfl) (by rfl) (by first |exact .inl rfl |exact .inr rfl |assumption)) (@qU _ _ _ _ (@qj _ _ _ _ _ (@qEE _ _ _ _ _ _ _ _ (@jb _ _ _ _ _ _ _ (@qG _ _ 8 _ _ (by rfl) (by rfl) (by rfl)) Q6) (@ZA _ _ _ _ _ _ (@qEM _ _ _ _ _ _ _ (@qG _ _ 8 _ _ (by rfl) (by rfl) (by rfl)) (@q8 _ _ _ _ _ _ _ (@qG _ _ 4 _ _ (by rfl) (by rfl) (by rfl)) qM (by exact fun _ _=>rfl)))))))))))))))
theorem sc_law_more_right:FnScope ["_law_box_here","_law_sorts_here","_law_cells","_law_fresh","_law_more","_law_best"] ["_law_box_here","_law_sorts_here","_law_cells"] (qI qx):=⟨rfl,rfl,rfl,by decide +kernel,rfl,by decide +kernel,by decide +kernel⟩
theorem ZG (V:Env K mg a):DefG P w K mg base 8 "_law_more_right" a.law_more_right 3 (Qt a):=by
 obtain ⟨fd,F⟩:=V.f_law_more_right
 refine Q0 (B:=QQ a) F sc_law_more_right (F.binds (ps:=["_law_box_here","_law_sorts_here","_law_cells"]) fun _ _ _ _ _ _ us hl=>match us,hl with |[_,_,_],_=>rfl) V.m_law_more_right (fun l st h=>qc h) (fun cdv A outer s H E hr hcm => ?_) (fun l s0 hl hn=>qY hl)
 have hu:=hr.units
 have hc:(Wd (CXF P w) P w K mg base ["_law_box_here","_law_sorts_here","_law_cells","_law_fresh","_law_more","_law_best"] "_law_more_right" (qI qx) a.law_more_right cdv A outer s H E).calm=true:=by show A.handled.isNone=true;rw [hcm (by omega)];rfl
 exact (@qN _ _ _ _ _ _ (@Zd _ _ _ _ _ _ _ _ _ _ (["_law_sorts_here"]) (["_law_long"]) ([1]) _ _ _ _ _ 3 sc_law_more_right.nd (by exact QU rfl (by decide +kernel) rfl rfl ⟨⟨rfl,rfl⟩,trivial⟩) (@zL _ _ _ _ _ _ _ _ rfl V.n_range (@wJ _ _ _ _ _ _ _ _ qM (@wJ _ _ _ _ _ _ _ _ qM qF)) (by rfl) (by rfl)) (fun s' H' fp pn=>⟨(@qG _ _ 1 _ _ (by rfl) (by rfl) (by rfl)),⟨(@qy _ _ 1 _ (show (["_law_sorts_here","_law_long"]:List Str).Nodup by decide +kernel) (by rfl) (by first |exact Or.inl rfl |exact Or.inr rfl) (by first |exact .inl rfl |exact .inr rfl |assumption)),(qX 1),(TsOk.cons (@qA9 _ _ _ _ _ _ _ (BS (Nat.add_le_add_left (by decide) _) hu) (@qG _ _ 1 _ _ (by rfl) (by rfl) (by rfl)) (@Y4 _ _ _ _ _ _ hc V.n_dict (@qG _ _ 0 _ _ (by rfl) (by rfl) (by rfl)) (by rfl) (by rfl) (by rfl)) (by with_unfolding_all rfl)) TsOk.nil),rfl⟩,GsOk.nil⟩) (by rfl) (by first |exact Or.inl rfl |exact Or.inr rfl) (by first |exact .inl rfl |exact .inr rfl |assumption) (by rfl) (by intro _;rfl)) (@qN _ _ _ _ _ _ (@wa _ _ _ _ _ _ _ _ _ (@Qe _ _ _ _ _ _ _ _ _ _ (jy hu) qCy (@we _ _ _ _ _ _ _ (@qW _ _ _ _ _ _ _ (@qG _ _ 1 _ _ (by rfl) (by rfl) (by rfl)) qF) V.n_len (by rfl) (by rfl) (by rfl)) qM (by first |exact QT _ |with_unfolding_all rfl)) (@qU _ _ _ _ (@qj _ _ _ _ _ zQ)) QP) (@qN _ _ _ _ _ _ (@QM _ _ _ _ _ 4 _ _ sc_law_more_right.nd (@zF _ _ _ _ _ _ _ (@zz _ _ _ _ _ _ _ _ _ (@qBj _ _ _ _ _ _ hu V.n_sorted (@Jl _ _ _ _ _ _ _ (@qG _ _ 1 _ _ (by rfl) (by rfl) (by rfl)) (@Wx _ _ _ _ _ _ (@qFD _ _ _ _ _ _ _ _ (@Wx _ _ _ _ _ _ (@qAa _ _ _ _ _ _ _ _ (@q8 _ _ _ _ _ _ _ (@qG _ _ 3 _ _ (by rfl) (by rfl) (by rfl)) (@qS _ _ _ _ _ _ _ _ _ ((qv V).call (hr.mono (by omega)) qT) (@qW _ _ _ _ _ _ _ (@qG _ _ 0 _ _ (by rfl) (by rfl) (by rfl)) (@zz _ _ _ _ _ _ _ _ _ (@we _ _ _ _ _ _ _ (@qW _ _ _ _ _ _ _ (@qG _ _ 3 _ _ (by rfl) (by rfl) (by rfl)) qF) V.n_len (by rfl) (by rfl) (by rfl)) qF)) (by rfl) (by rfl)) (by exact fun _ _=>rfl)) (@zz _ _ _ _ _ _ _ _ _ (@qS _ _ _ _ _ _ _ _ _ ((qv V).call (hr.mono (by omega)) qT) (@qW _ _ _ _ _ _ _ (@qG _ _ 0 _ _ (by rfl) (by rfl) (by rfl)) (@wJ _ _ _ _ _ _ _ _ qM qF)) (by rfl) (by rfl)) qF))) qF))) (by rfl) (by rfl)) qF) V.n_tuple (by rfl) (by rfl) (by rfl)) (by rfl) (by first |exact Or.inl rfl |exact Or.inr rfl) (by rfl) (by first |exact .inl rfl |exact .inr rfl |assumption)) (@qN _ _ _ _ _ _ (@wa _ _ _ _ _ _ _ _ _ (@Qe _ _ _ _ _ _ _ _ _ _ qCw qBi (@qS _ _ _ _ _ _ _ _ _ ((Wu V).call (hr.mono (by omega)) qT) (@qW _ _ _ _ _ _ _ (@qG _ _ 4 _ _ (by rfl) (by rfl) (by rfl)) (@qW _ _ _ _ _ _ _ (@qG _ _ 2 _ _ (by rfl) (by rfl) (by rfl)) qF)) (by rfl) (by rfl)) (@qS _ _ _ _ _ _ _ _ _ ((Wu V).call (hr.mono (by omega)) qT) (@qW _ _ _ _ _ _ _ (@qG _ _ 1 _ _ (by rfl) (by rfl) (by rfl)) (@qW _ _ _ _ _ _ _ (@qG _ _ 2 _ _ (by rfl) (by rfl) (by rfl)) qF)) (by rfl) (by rfl)) (by first |exact QT _ |with_unfolding_all rfl)) (@qU _ _ _ _ (@qj _ _ _ _ _ zQ)) QP) (@qN _ _ _ _ _ _ (@QM _ _ _ _ _ 5 _ _ sc_law_more_right.nd (@qS _ _ _ _ _ _ _ _ _ ((QZ V).call (hr.mono (by omega)) qT) (@qW _ _ _ _ _ _ _ (@qG _ _ 1 _ _ (by rfl) (by rfl) (by rfl)) (@qW _ _ _ _ _ _ _ (@qG _ _ 2 _ _ (by rfl) (by rfl) (by rfl)) qF)) (by rfl) (by rfl)) (by rfl) (by first |exact Or.inl rfl |exact Or.inr rfl) (by rfl) (by first |exact .inl rfl |exact .inr rfl |assumption)) (@qU _ _ _ _ (@qj _ _ _ _ _ (@qEE _ _ _ _ _ _ _ _ (@jb _ _ _ _ _ _ _ (@qG _ _ 5 _ _ (by rfl) (by rfl) (by rfl)) Q6) (@ZA _ _ _ _ _ _ (@qEM _ _ _ _ _ _ _ (@q8 _ _ _ _ _ _ _ (@qS _ _ _ _ _ _ _ _ _ ((QZ V).call (hr.mono (by omega)) qT) (@qW _ _ _ _ _ _ _ (@qG _ _ 4 _ _ (by rfl) (by rfl) (by rfl)) (@qW _ _ _ _ _ _ _ (@qG _ _ 2 _ _ (by rfl) (by rfl) (by rfl)) qF)) (by rfl) (by rfl)) qM (by exact fun _ _=>rfl)) (@q8 _ _ _ _ _ _ _ (@qG _ _ 5 _ _ (by rfl) (by rfl) (by rfl)) qM (by exact fun _ _=>rfl))))))))))))
theorem sc_law:FnScope ["_law_script","_law_k","_law_box_here","_law_sorts_here","_law_cells"] ["_law_script"] (qI Wr):=⟨rfl,rfl,rfl,by decide +kernel,rfl,by decide +kernel,by decide +kernel⟩
theorem qGL {fd:FuncData} (V:Env K mg a) (F:Fun K "law" "law" Wr a.law fd):FnOk P w K mg base (CXF P w) 9 a.law fd ["_law_script"] (spG K 1 (jG a)):=by
 refine okV F sc_law fun cdv A outer s H E hr hcm=>⟨qD7 a,?_,fun l s0 hl hn=>qY hl⟩
 have hu:=hr.units
 have hc:(Wd (CXF P w) P w K mg base ["_law_script","_law_k","_law_box_here","_law_sorts_here","_law_cells"] "law" (qI Wr) a.law cdv A outer s H E).calm=true:=by show A.handled.isNone=true;rw [hcm (by omega)];rfl
 exact (@qN _ _ _ _ _ _ (@yA _ _ _ _ _ _ _ _ _ (@wL _ _ _ _ _ _ _ rfl V.n_range (@zz _ _ _ _ _ _ _ _ _ (@qDs _ _ _ _ _ _ _ (@wJ _ _ _ _ _ _ _ _ qM (@zz _ _ _ _ _ _ _ _ _ (@qDv _ _ _ _ _ _ _ (@zz _ _ _ _ _ _ _ _ _ (@we _ _ _ _ _ _ _ (@qW _ _ _ _ _ _ _ (@qG _ _ 0 _ _ (by rfl) (by rfl) (by rfl)) qF) V.n_len (by rfl) (by rfl) (by rfl)) (@wJ _ _ _ _ _ _ _ _ qM qF)) hc V.n_min (by rfl) (by rfl) (by rfl)) qF)) hc V.n_max (by rfl) (by rfl) (by rfl)) qF) (by rfl)) (@wj _ _ 1 _ sc_law.nd (by rfl) (by first |exact Or.inl rfl |exact Or.inr rfl) (by first |exact .inl rfl |exact .inr rfl |assumption)) (@qN _ _ _ _ _ _ (@QM _ _ _ _ _ 2 _ _ sc_law.nd (@qS _ _ _ _ _ _ _ _ _ ((qAc V).call (hr.mono (by omega)) (Qf _)) (@qW _ _ _ _ _ _ _ (@qG _ _ 0 _ _ (by rfl) (by rfl) (by rfl)) (@qW _ _ _ _ _ _ _ (@qG _ _ 1 _ _ (by rfl) (by rfl) (by rfl)) qF)) (by rfl) (by rfl)) (by rfl) (by first |exact Or.inl rfl |exact Or.inr rfl) (by rfl) (by first |exact .inl rfl |exact .inr rfl |assumption)) (@qN _ _ _ _ _ _ (@QM _ _ _ _ _ 3 _ _ sc_law.nd (@qS _ _ _ _ _ _ _ _ _ ((Yr V).call (hr.mono (by omega)) (Qf _)) (@qW _ _ _ _ _ _ _ (@qG _ _ 2 _ _ (by rfl) (by rfl) (by rfl)) qF) (by rfl) (by rfl)) (by rfl) (by first |exact Or.inl rfl |exact Or.inr rfl) (by rfl) (by first |exact .inl rfl |exact .inr rfl |assumption)) (@qN _ _ _ _ _ _ (@QM _ _ _ _ _ 4 _ _ sc_law.nd (@qS _ _ _ _ _ _ _ _ _ ((qv V).call (hr.mono (by omega)) (Qf _)) (@qW _ _ _ _ _ _ _ (@qG _ _ 2 _ _ (by rfl) (by rfl) (by rfl)) (@qAa _ _ _ _ _ _ _ _ (@q8 _ _ _ _ _ _ _ (@wH _ _ _ _ (@zU _ _ _ _ _ (@wJ _ _ _ _ _ _ _ _ qM (@wJ _ _ _ _ _ _ _ _ qM (@wJ _ _ _ _ _ _ _ _ qM qF))))) (@qS _ _ _ _ _ _ _ _ _ ((qv V).call (hr.mono (by omega)) (Qf _)) (@qW _ _ _ _ _ _ _ (@qG _ _ 2 _ _ (by rfl) (by rfl) (by rfl)) (@wJ _ _ _ _ _ _ _ _ qM qF)) (by rfl) (by rfl)) (by exact fun _ _=>rfl)) qF)) (by rfl) (by rfl)) (by rfl) (by first |exact Or.inl rfl |exact Or.inr rfl) (by rfl) (by first |exact .inl rfl |exact .inr rfl |assumption)) (@qU _ _ _ _ (@wa _ _ _ _ _ _ _ _ _ (@qCZ _ _ _ _ (@Zp _ _ _ _ _ _ _ _ (@Wn _ _ _ _ _ (@Wc _ _ _ _ (@qS _ _ _ _ _ _ _ _ _ ((Y1 V).call (hr.mono (by omega)) (Qf _)) (@qW _ _ _ _ _ _ _ (@qG _ _ 3 _ _ (by rfl) (by rfl) (by rfl)) (@qW _ _ _ _ _ _ _ (@qG _ _ 4 _ _ (by rfl) (by rfl) (by rfl)) qF)) (by rfl) (by rfl)) (by intro _;rfl))) (@Zp _ _ _ _ _ _ _ _ (@Wn _ _ _ _ _ (@Wc _ _ _ _ (@qS _ _ _ _ _ _ _ _ _ ((zl V).call (hr.mono (by omega)) (Qf _)) (@qW _ _ _ _ _ _ _ (@qG _ _ 2 _ _ (by rfl) (by rfl) (by rfl)) (@qW _ _ _ _ _ _ _ (@qG _ _ 3 _ _ (by rfl) (by rfl) (by rfl)) qF)) (by rfl) (by rfl)) (by intro _;rfl))) (@Z9 _ _ _ _ _ (@Wn _ _ _ _ _ (@Wc _ _ _ _ (@qS _ _ _ _ _ _ _ _ _ ((ZG V).call (hr.mono (by omega)) (Qf _)) (@qW _ _ _ _ _ _ _ (@qG _ _ 2 _ _ (by rfl) (by rfl) (by rfl)) (@qW _ _ _ _ _ _ _ (@qG _ _ 3 _ _ (by rfl) (by rfl) (by rfl)) (@qW _ _ _ _ _ _ _ (@qG _ _ 4 _ _ (by rfl) (by rfl) (by rfl)) qF))) (by rfl) (by rfl)) (by intro _;rfl))))))) (@qU _ _ _ _ (@qj _ _ _ _ _ zQ)) QP))))) (by intro _;rfl)) (@qU _ _ _ _ (@qj _ _ _ _ _ zQ)))
end
end K89
end
section
namespace EV
open PySem L2 EX
theorem W1 {G:qB->Prop} {k:PV->qB->Rs (List PV)} {st:qB} (hG:G st) {F:PV->List PV}:∀ {l:List PV},(∀ p∈l,k p st = .ok (F p) st)->qZ G k l st = .ok (l.flatMap F) st
 |[],_=>by unfold qZ;rw [AI hG];rfl
 |p::l,h=>by
  unfold qZ
  rw [AI hG,h p AK]
  show (qZ G k l st).bind _=_
  rw [W1 hG fun q hq=>h q (AG _ hq)]
  rfl
theorem ZW {F:PV->PV}:∀ l:List PV,l.flatMap (fun p=>[F p])=l.map F
 |[]=>rfl
 |p::l=>by rw [List.flatMap_cons,ZW l];rfl
theorem QS {caps:List Nat} {n:Nat} {fi:FI} {g:FG} {f:FE} {r:qo} {st:qB} {w:ItP} {F:PV->PV} (hfi:fi r st = .ok w st) (hG:w.G st) (hl:w.l.length≤sizeLine)
  (h:∀ p∈w.l,∃ r',g p (Ws caps n r)=some r'∧f r' st = .ok (F p) st):ql caps n fi g [] [] f r st = .ok (w.l.map F) st:=by
 unfold ql
 rw [hfi]
 show (match qZ w.G (QD ⟨fi,g,[]⟩ (QL [] f) (Ws caps n r)) w.l st with | .ok l s'=>if l.length≤sizeLine then Rs.ok l s' else Rs.no |_=>Rs.no)=_
 rw [W1 (F:=fun p=>[F p]) hG fun p hp=>by
  obtain ⟨r',h1,h2⟩:=h p hp
  unfold QD
  show (match g p (Ws caps n r) with |none=>_ |some r'=>_)=_
  rw [h1]
  show (QL [] f) r' st=_
  unfold QL
  rw [h2];rfl]
 rw [ZW]
 dsimp only
 rw [AI (by rw [AE];exact hl)]
theorem yf {G:qB->Prop} {g:FG} {F:FS} {r:qo} {st:qB} (h:G st):Qg G g F [] r st = .nx r st:=by unfold Qg;rw [AI h]
theorem yM {G:qB->Prop} {g:FG} {F:FS} {r r1 r2:qo} {st s2:qB} {p:PV} {ps:List PV} (h:G st) (h1:g p r=some r1) (h2:F r1 st = .nx r2 s2):Qg G g F (p::ps) r st=Qg G g F ps r2 s2:=by
 rw [Qg,AI h,h1]
 dsimp only
 rw [h2]
section
variable {F G:FS} {f:FE} {fl:FL} {fi:FI} {g:FG} {t:FT} {r r':qo} {st st':qB} {p:PV} {l:List PV} {w:ItP} {i:Nat}
theorem w8 (h:F r st = .nx r' st'):qV F G r st=G r' st':=by unfold qV;rw [h]
theorem JQ (h:F r st = .rt p st'):qV F G r st = .rt p st':=by unfold qV;rw [h]
theorem qG8 {x:Exc} (h:F r st = .ex x st'):qV F G r st = .ex x st':=by unfold qV;rw [h]
theorem qGx {x:Exc} (h:f r st = .ex x st'):wp f r st = .ex x st':=by unfold wp;rw [h];rfl
theorem qGv {x:Exc} {n N:Nat} {B:FS} (hl:l.length=n) (h:B (QR N l) st = .ex x st'):QC n N B l st = .ex x st':=by unfold QC;rw [AI hl,h];rfl
theorem qFC (h:f r st = .ok p st'):wp f r st = .nx r st':=by unfold wp;rw [h];rfl
theorem zV (h:f r st = .ok p st'):qp i f r st = .nx (r.set i (some p)) st':=by unfold qp;rw [h];rfl
theorem qDt (h:fl r st = .ok l st'):ZN i fl r st = .nx (r.set i (some (.ref st'.length))) (st'++[.l l]):=by unfold ZN;rw [h];rfl
theorem YF (h:f r st = .ok p st'):qr f r st = .rt p st':=by unfold qr;rw [h];rfl
theorem Jv (h:fl r st = .ok l st'):Zs fl r st = .rt (.ref st'.length) (st'++[.l l]):=by unfold Zs;rw [h];rfl
theorem qBO (h:fi r st = .ok w st'):zS fi g F r st=Qg w.G g F w.l r st':=by unfold zS;rw [h];rfl
theorem qEk (h:t r st = .ok true st'):wX t F G r st=F r st':=by unfold wX;rw [h];rfl
theorem qFj (h:t r st = .ok false st'):wX t F G r st=G r st':=by unfold wX;rw [h];rfl
theorem qGg (h:fl r st = .ok l st'):vFz fl r st = .ok (.lst l) st':=by unfold vFz;rw [h];rfl
theorem zM {k:List PV->qB->Rs PV} {fa:FA} (h:fa r st = .ok l st'):qH k fa r st=k l st':=by unfold qH;rw [h];rfl
theorem Jg {fa:FA} {st2:qB} (h:f r st = .ok p st') (h2:fa r st' = .ok l st2):qA f fa r st = .ok (p::l) st2:=by unfold qA;rw [h];show (fa r st').bind _=_;rw [h2];rfl
theorem qt {k:PV->PV->qB->Rs PV} {fb:FE} {q:PV} {st2:qB} (h:f r st = .ok p st') (h2:fb r st' = .ok q st2):qJ k f fb r st=k p q st2:=by unfold qJ;rw [h];show (fb r st').bind _=_;rw [h2];rfl
theorem qBF {b:Bool} (h:f r st = .ok (.bl b) st'):QV f r st = .ok b st':=by unfold QV;rw [h];rfl
theorem qFw {b:Bool} (h:t r st = .ok b st'):wU t r st = .ok (!b) st':=by unfold wU;rw [h];rfl
theorem Ji {b:Bool} (h:f r st = .ok (.bl b) st'):vTB f r st = .ok b st':=by unfold vTB;rw [h];rfl
theorem Wp {n N:Nat} {B:FS} (hl:l.length=n) (h:B (QR N l) st = .rt p st'):QC n N B l st = .ok p st':=by unfold QC;rw [AI hl,h];rfl
end
section
variable {F G:FS} {f fb fo fi2:FE} {fl:FL} {fi:FI} {fa:FA} {g:FG} {t u:FT} {r r1 r':qo} {st s1 s2 s3:qB} {p q z:PV} {l m:List PV} {w:ItP} {i:Nat} {b c:Bool} {x:Exc} {o:RS} {R:Rs PV}
theorem qP {k:PV->PV->qB->Rs PV} (h:f r st = .ok p s1) (h2:fb r s1 = .ok q s2) (h3:k p q s2=R):qJ k f fb r st=R:=by rw [qt h h2];exact h3
theorem qK {k:List PV->qB->Rs PV} (h:fa r st = .ok l s1) (h2:k l s1=R):qH k fa r st=R:=by rw [zM h];exact h2
theorem qf:qD r st = .ok [] st:=rfl
theorem qO (h:f r st = .ok p s1) (h2:fa r s1 = .ok l s2):qA f fa r st = .ok (p::l) s2:=Jg h h2
theorem Zz (h:fa r st = .ok l s1) (hl:l.length≤sizeLine):w9 fa r st = .ok (.tup l) s1:=by unfold w9;rw [h];exact AI hl
theorem qEA (h:fa r st = .ok l s1) (hl:l.length≤sizeLine):ZD fa r st = .ok l s1:=by unfold ZD;rw [h];exact AI hl
theorem WT (h:fl r st = .ok l s1):vFz fl r st = .ok (.lst l) s1:=qGg h
theorem wc (h:f r st = .ok (.bl b) s1):QV f r st = .ok b s1:=qBF h
theorem w4 (h:f r st = .ok (.bl b) s1):vTB f r st = .ok b s1:=Ji h
theorem w_not (h:t r st = .ok b s1):wU t r st = .ok (!b) s1:=qFw h
theorem W4 (h:t r st = .ok false s1) (h2:u r s1 = .ok b s2):Za t u r st = .ok b s2:=by unfold Za;rw [h];exact h2
theorem qa (h:F r st = .nx r' s1) (h2:G r' s1=o):qV F G r st=o:=by rw [w8 h];exact h2
theorem zt (h:F r st = .rt p s1):qV F G r st = .rt p s1:=JQ h
theorem Qw (h:f r st = .ok p s1):qp i f r st = .nx (r.set i (some p)) s1:=zV h
theorem qCb (h:fl r st = .ok l s1):ZN i fl r st = .nx (r.set i (some (.ref s1.length))) (s1++[.l l]):=qDt h
theorem ZP (h:f r st = .ok p s1):wp f r st = .nx r s1:=qFC h
theorem wD (h:f r st = .ok p s1):qr f r st = .rt p s1:=YF h
theorem Yj (h:t r st = .ok true s1) (h2:F r s1=o):wX t F G r st=o:=by rw [qEk h];exact h2
theorem Q5 (h:t r st = .ok false s1) (h2:G r s1=o):wX t F G r st=o:=by rw [qFj h];exact h2
theorem qDc (h:t r st = .ok true s1) (h2:f r s1=R):vIf t f fb r st=R:=by unfold vIf;rw [h];exact h2
theorem qCz (h:t r st = .ok false s1) (h2:fb r s1=R):vIf t f fb r st=R:=by unfold vIf;rw [h];exact h2
theorem Jy (h:fi r st = .ok w s1) (h2:Qg w.G g F w.l r s1=o):zS fi g F r st=o:=by rw [qBO h];exact h2
theorem Wi {Gd:qB->Prop} (h:Gd st):Qg Gd g F [] r st = .nx r st:=yf h
theorem YG {Gd:qB->Prop} {ps:List PV} (h:Gd st) (h1:g p r=some r1) (h2:F r1 st = .nx r' s2) (h3:Qg Gd g F ps r' s2=o):Qg Gd g F (p::ps) r st=o:=by rw [yM h h1 h2];exact h3
theorem qGI {r1:qo} (h:f r st = .ok p s1) (h2:g p r=some r1):Jz f g r st = .nx r1 s1:=by unfold Jz;rw [h];show (match g p r with |some r'=>RS.nx r' s1 |none=>RS.no)=_;rw [h2]
theorem qEC {j:Nat} (h:fa r st = .ok [p,q] s1):Jn i j fa r st = .nx ((r.set i (some p)).set j (some q)) s1:=by unfold Jn;rw [h];rfl
theorem QX {n N:Nat} {B:FS} (hl:l.length=n) (h:B (QR N l) st = .rt p s1):QC n N B l st = .ok p s1:=Wp hl h
theorem qAp {n N:Nat} {B:FS} (hl:l.length=n) (h:B (QR N l) st = .nx r1 s1):QC n N B l st = .ok .non s1:=by unfold QC;rw [AI hl,h];rfl
theorem sz {n:Nat} (h:Nat.ble n 1000=true):n≤sizeLine:=AS (Nat.le_of_ble_eq_true h) (by decide)
theorem zn {i j:Int}:QN (.int i) (.int j) st = .ok (.int (i + j)) st:=rfl
theorem ZJ {i j:Int}:za (.int i) (.int j) st = .ok (.int (i - j)) st:=rfl
theorem w_lt {i j:Int}:gLt (.int i) (.int j) st = .ok (.bl (decide (i < j))) st:=rfl
theorem qAb {i j:Int}:gLe (.int i) (.int j) st = .ok (.bl (decide (i≤j))) st:=rfl
theorem qGE {i j:Int}:gGt (.int i) (.int j) st = .ok (.bl (decide (i > j))) st:=rfl
theorem qBy {i j:Int} (h:¬ i > j):gGt (.int i) (.int j) st = .ok (.bl false) st:=by rw [qGE,AY h]
theorem qAy {i:Int} (h:zj st p=some l) (h2:atI l i=some z):gIx p (.int i) st = .ok z st:=by unfold gIx;simp only [h,h2]
theorem yN (h:zj st p=some l) {n:Int} (hn:(l.length:Int)=n):WA [p] st = .ok (.int n) st:=by unfold WA;simp only [h];rw [hn]
theorem J4 {n:Nat} (h:st[n]? = some (.l l)):zj st (.ref n)=some l:=by unfold zj asL;simp only [h]
theorem qEW {n:Nat} (h:st[n]? = some (.l l)):asL st (.ref n)=some l:=by unfold asL;simp only [h]
theorem qF0 {n:Nat} (h:r[n]? = some (some p)):qC n r st = .ok p st:=by unfold qC;rw [h]
theorem jK {n:Nat} (h:fo r st = .ok (.ref n) s1) (hk:lk s1 (.ref n)=true) (h2:f r s1 = .ok p s2) (h3:s2[n]? = some (.l l)) (hl:l.length < sizeLine):wy fo f r st = .nx r (s2.set n (.l (l++[p]))):=by
 unfold wy;rw [h];show (if lk s1 (.ref n)=true then (f r s1).bindS _ else RS.no)=_;rw [AI hk,h2];show (match s2[n]? with |some (.l xs)=>if xs.length < sizeLine then RS.nx r (s2.set n (.l (xs++[p]))) else .no |_ => .no)=_;rw [h3];exact AI hl
theorem wT {Gd:qB->Prop} {k:PV->qB->Rs (List PV)} (h:Gd st):qZ Gd k [] st = .ok [] st:=by unfold qZ;exact AI h
theorem zH {Gd:qB->Prop} {k:PV->qB->Rs (List PV)} {ps:List PV} (hG:Gd st) (h:k p st = .ok l s1) (h2:qZ Gd k ps s1 = .ok m s2):qZ Gd k (p::ps) st = .ok (l++m) s2:=by
 rw [qZ,AI hG,h];show (qZ Gd k ps s1).bind _=_;rw [h2];rfl
theorem y7 (h:g p r=some r') (hf:f r' st = .ok q s1):QD ⟨fi,g,[]⟩ (QL [] f) r p st = .ok [q] s1:=by
 unfold QD;show (match g p r with |none=>_ |some r'=>_)=_;rw [h];show (QL [] f) r' st=_;unfold QL;rw [hf];rfl
theorem yG {caps:List Nat} {n:Nat} {ts:List FT} {gs:List GenF} (hfi:fi r st = .ok w s1) (h:qZ w.G (QD ⟨fi,g,ts⟩ (QL gs f) (Ws caps n r)) w.l s1 = .ok l s2) (hl:l.length≤sizeLine):ql caps n fi g ts gs f r st = .ok l s2:=by
 unfold ql;rw [hfi];show (match qZ w.G (QD ⟨fi,g,ts⟩ (QL gs f) (Ws caps n r)) w.l s1 with | .ok l s'=>if l.length≤sizeLine then Rs.ok l s' else Rs.no |_=>Rs.no)=_;rw [h];exact AI hl
theorem Ze (h:zj st p=some l):Wl [p] st = .ok (.tup l) st:=by unfold Wl;simp only [h]
theorem JL (h:f r st = .ok (.lst l) s1):qq f r st = .ok ⟨l,fun _=>True⟩ s1:=by unfold qq;rw [h];rfl
theorem Wj (h:f r st = .ok (.tup l) s1):qq f r st = .ok ⟨l,fun _=>True⟩ s1:=by unfold qq;rw [h];rfl
end
abbrev CE:=qo->Option PV
section
variable {F G:FS} {f fb fc fo fi2:FE} {fl:FL} {fi:FI} {fa:FL} {g:FG} {t u:FT} {c d e:CE} {co cp:CO} {f1 f2:FO} {r r':qo} {st s1 s2 s3:qB} {p q z:PV} {l:List PV} {n:Nat} {o:RS}
theorem Z0 (h:f r st = .ok (.ref n) s1) (h2:s1[n]? = some (.l l)):qq f r st = .ok ⟨l,fun s=>s[n]? = some (.l l)⟩ s1:=by
 unfold qq;rw [h];show qDE (.ref n) s1=_;unfold qDE;dsimp only;rw [qEW h2]
theorem qGZ (h:st[n]? = some (.l l)):lk st (.ref n)=true:=by unfold lk;dsimp only;rw [h]
end
end EV
end
section
namespace EV
open PySem ET
abbrev WR:=Int×Int
def cP (c:WR):PV := .tup [.int c.1,.int c.2]
def cL (c:WR):List Int:=[c.1,c.2]
def lC:List Int->WR
 |[x,y]=>(x,y)
 |_=>(0,0)
theorem qEf (c:WR):jY (cP c)=some (cL c):=rfl
theorem qCD:∀ l:List WR,QH jY (l.map cP)=some (l.map cL)
 |[]=>rfl
 |c::l=>by rw [AN,QH,qEf];dsimp only;rw [qCD l];rfl
def z7 (l:List WR):List WR:=(srt (l.map cL)).map lC
theorem jW (c:WR):lC (cL c)=c:=rfl
theorem qFE {l:List (List Int)} {m:List WR} (h:∀ x∈l,x∈m.map cL):l.map YN=(l.map lC).map cP:=by
 rw [Ak]
 refine Ay fun x hx => ?_
 obtain ⟨c,_,rfl⟩:=AX.mp (h x hx)
 rfl
theorem qDD (l:List WR):(srt (l.map cL)).map YN=(z7 l).map cP:=qFE fun x hx=>(wS _).mem_iff.mp hx
theorem mem_cL {l:List WR} {c:WR}:cL c∈l.map cL ↔ c∈l:=by
 rw [AX]
 constructor
 ·rintro ⟨d,hd,e⟩
  have:d=c:=by rw [← jW d,e,jW]
  rw [← this];exact hd
 ·intro h;exact ⟨c,h,rfl⟩
theorem mem_srtC {l:List WR} {c:WR}:c∈z7 l ↔ c∈l:=by
 unfold z7
 rw [AX]
 constructor
 ·rintro ⟨x,hx,rfl⟩
  obtain ⟨d,hd,rfl⟩:=AX.mp ((wS _).mem_iff.mp hx)
  exact hd
 ·intro h;exact ⟨cL c,(wS _).mem_iff.mpr (mem_cL.mpr h),rfl⟩
theorem jX (l:List WR):(z7 l).length=l.length:=by unfold z7;rw [AE,(wS _).length_eq,AE]
def clt (a b:WR):Prop:=a.1 < b.1∨(a.1=b.1∧a.2 < b.2)
instance (a b:WR):Decidable (clt a b):=by unfold clt;infer_instance
theorem qGY (a b:WR):lxb (cL a) (cL b)=decide (clt a b):=by
 obtain ⟨a1,a2⟩:=a
 obtain ⟨b1,b2⟩:=b
 show (if a1 < b1 then true else if b1 < a1 then false else (if a2 < b2 then true else if b2 < a2 then false else false))=_
 by_cases h1:a1 < b1
 ·rw [AI h1];exact (AV (.inl h1)).symm
 ·rw [AQ h1]
  by_cases h2:b1 < a1
  ·rw [AI h2];exact (AY (by unfold clt;simp;omega)).symm
  ·rw [AQ h2]
   by_cases h3:a2 < b2
   ·rw [AI h3];exact (AV (.inr ⟨by simp;omega,h3⟩)).symm
   ·rw [AQ h3]
    have:(if b2 < a2 then false else false)=false:=by split <;> rfl
    rw [this]
    exact (AY (by unfold clt;simp;omega)).symm
theorem qEU {l:List WR} {q:PV} {st:qB} (h:zj st q=some (l.map cP)) (hl:l.length≤63):Z1 q st = .ok (.lst ((z7 l).map cP)) st:=by
 unfold Z1
 rw [h]
 dsimp only
 rw [qCD]
 dsimp only
 rw [AI (by rw [AE];omega),qDD]
end EV
end
section
namespace EV
open PySem L2 EX
section
variable {F G:FS} {f fb fc fo fi2:FE} {fl:FL} {fi:FI} {fa:FA} {g:FG} {t u:FT} {r r1 r':qo} {st s1 s2 s3:qB} {p q z:PV} {l m:List PV} {w:ItP} {i n:Nat} {b:Bool} {x:Exc} {o:RS} {R:Rs PV} {C:Addr} {fs:List (Str×PV)} {k:L2.Key} {kvs kv0:List (L2.Key×PV)} {nm:Str} {gg:List PV->qB->Rs PV}
theorem qGs {j:Int} (hd:kAt st n=some kvs) (hv:ZZ kvs (Sum.inl j)=some p):qAh (.ref n) (.int j) st = .ok p st:=by
 unfold qAh jv;dsimp only;rw [hd];dsimp only;rw [hv]
end
end EV
end
noncomputable section
namespace K89
open PySem EV
def zR:PV->Bool
 | .non=>true | .bl _=>true | .int _=>true | .str _=>true | .tup _=>true | .lst _=>true | .dct=>true |_=>false
def isInt:PV->Bool
 | .int _=>true
 |_=>false
theorem zW {a:Ad} {v:PV} {st:qB} (h:zR v=true):Wk a [v] st = .ok (.bl (isInt v)) st:=by
 cases v <;> first |rfl |cases h
def yO (lo hi:Int):PV->Bool
 | .int i=>decide (lo≤i)&&decide (i≤hi)
 |_=>false
theorem qCo {a:Ad} {v:PV} {st:qB} {lo hi:Int} (h:zR v=true):wC a [v,.int lo,.int hi] st = .ok (.bl (yO lo hi v)) st:=by
 refine Wp rfl ?_
 unfold wB
 refine (YF (p := .bl (yO lo hi v)) (st':=st) ?_)
 unfold Zu
 rw [zM (l:=[v]) (st':=st) rfl,zW h]
 cases v with
 |int i =>
  show (match (PV.bl (decide (lo≤i))) with | .bl true=>Rs.ok (PV.bl (decide (i≤hi))) st | .bl false=>Rs.ok (.bl false) st |_ => .no)=_
  unfold yO
  dsimp only
  cases decide (lo≤i) <;> rfl
 |_=>rfl
theorem Z2 {f:PV->Bool}:∀ l:List PV,QH pbl (l.map fun p => .bl (f p))=some (l.map f)
 |[]=>rfl
 |p::l=>by simp only [AN,QH,pbl,Z2 l]
theorem yI {i j:Int} {st:qB}:gEq (.int i) (.int j) st = .ok (.bl (i==j)) st:=rfl
def WO (L:Int):List Int:=(List.range L.toNat).map fun (i:Nat)=>(i:Int)
theorem jO {L:Int}:Z7 0 L=(WO L).map PV.int:=by
 unfold Z7 WO
 rw [Ak,Int.sub_zero]
 refine Ay fun i _ => ?_
 show PV.int (0 + (i:Int))=PV.int i
 rw [Int.zero_add]
theorem upto_mem {L i:Int}:i∈WO L ↔ 0≤i∧i < L:=by
 unfold WO
 rw [AX]
 constructor
 ·rintro ⟨j,hj,rfl⟩;rw [Bd] at hj;omega
 ·rintro ⟨h1,h2⟩;exact ⟨i.toNat,by rw [Bd];omega,by omega⟩
theorem W2 {L:Int}:(WO L).length=L.toNat:=by simp [WO]
theorem qDf {l:List Int} {L i:Int} (hl:l.length=L.toNat) (h0:0≤i) (h1:i < L):L2.atI (l.map PV.int) i=some (.int (l.getD i.toNat 0)):=by
 unfold L2.atI L2.ixN
 rw [AE,AI h0,AI (by omega)]
 show (l.map PV.int)[i.toNat]? = _
 have hi:i.toNat < l.length:=by omega
 rw [Ah,AD hi,AF,AD hi]
 rfl
theorem Zt {l:List Int} {L i:Int} {st:qB} (hl:l.length=L.toNat) (h0:0≤i) (h1:i < L):gIx (.lst (l.map PV.int)) (.int i) st = .ok (.int (l.getD i.toNat 0)) st:=by
 unfold gIx
 simp only [zj,asL,qDf hl h0 h1]
theorem j6 {i j:Int} {st:qB} (h:-(2 ^ 64) < j∧j < 2 ^ 64):W3 (.int i) (.int j) st = .ok (.int (i * j)) st:=by
 unfold W3 gI
 dsimp only
 rw [AI (.inr h)]
theorem YQ {i j:Int} {st:qB} (h:0 < j):Yi (.int i) (.int j) st = .ok (.int (i % j)) st:=by
 unfold Yi gI
 dsimp only
 rw [AI h]
theorem qFr {i j:Int} {st:qB} (h:0 < j) (h2:j < 1073741824):qDd (.int i) (.int j) st = .ok (.int (i / j)) st:=by
 unfold qDd gI
 dsimp only
 rw [AI ⟨h,h2⟩]
theorem qC6 {i j:Int} {st:qB} (h:0 < j) (h2:j < 2 ^ 64):Jf (.int i) (.int j) st = .ok (.int (i / j)) st:=by
 unfold Jf gI;dsimp only;rw [AI ⟨h,h2⟩]
theorem Qp {a:Ad} {st j:qB} {x m:Int} (h0:0 < m) (h1:m < 2 ^ 64):qR a [.ref st.length,.int m] (st ++ .l [.int x]::j) = .ok (.int (x % m)) (st ++ .l [.int (x / m)]::j):=by
 have hs:(st++SO.l [.int x]::j)[st.length]? = some (.l [.int x]):=by simp
 have hg:gIx (.ref st.length) (.int 0) (st++SO.l [.int x]::j) = .ok (.int x) (st++SO.l [.int x]::j):=by
  unfold gIx
  simp only [zj,asL,hs]
  rfl
 refine Wp rfl ?_
 unfold zX
 rw [w8 (zV (p := .int (x % m)) (st':=st++SO.l [.int x]::j) (r:=QR 3 [.ref st.length,.int m]) ?_),w8 (r':=[some (.ref st.length),some (.int m),some (.int (x % m))]) (st':=st++SO.l [.int (x / m)]::j) ?_]
 ·rfl
 ·unfold qB6
  rw [qt (p := .int x) (q := .int m) (st':=st++SO.l [.int x]::j) (st2:=st++SO.l [.int x]::j) ?_ rfl,qC6 h0 h1]
  ·show (match yk (st++SO.l [.int x]::j) (.ref st.length) (.int 0) (.int (x / m)) with |some s4=>RS.nx _ s4 |none=>RS.no)=_
   have:yk (st++SO.l [.int x]::j) (.ref st.length) (.int 0) (.int (x / m))=some (st++SO.l [.int (x / m)]::j):=by
    unfold yk
    simp only [hs]
    show some ((st++SO.l [.int x]::j).set st.length (.l [.int (x / m)]))=_
    rw [List.set_append_right _ _ (AL _),Nat.sub_self];rfl
   rw [this];rfl
  ·rw [qt (p := .ref st.length) (q := .int 0) rfl rfl];exact hg
 ·rw [qt (p := .int x) (q := .int m) (st':=st++SO.l [.int x]::j) (st2:=st++SO.l [.int x]::j) ?_ rfl,YQ h0]
  rw [qt (p := .ref st.length) (q := .int 0) rfl rfl];exact hg
theorem qDH {a:Ad} {ns:List Int} {k:Int} {st:qB} (h0:0≤k):∃ c,Wh a [.lst (ns.map PV.int),.int k] st = .ok (.int c) st:=by
 by_cases hk:k < (ns.length:Int)
 ·refine ⟨ns.getD k.toNat 0,Wp rfl ?_⟩
  unfold Wo
  rw [JQ (p := .int (ns.getD k.toNat 0)) (st':=st) (r:=QR 2 [.lst (ns.map PV.int),.int k]) ?_]
  rw [qEk (st':=st) ?_,YF (p := .int (ns.getD k.toNat 0)) (st':=st) ?_]
  ·rw [qt (p := .lst (ns.map PV.int)) (q := .int k) rfl rfl,Zt (L:=ns.length) (by omega) h0 hk]
  ·refine Ji ?_
   rw [qt (p := .int k) (q := .int ns.length) rfl ?_]
   ·show Rs.ok (PV.bl (decide (k < (ns.length:Int)))) st=_
    rw [AV hk]
   ·rw [zM (l:=[.lst (ns.map PV.int)]) rfl]
    show Rs.ok (PV.int ((ns.map PV.int).length:Int)) st=_
    rw [AE]
 ·refine ⟨6151 * k + 29,Wp rfl ?_⟩
  unfold Wo
  rw [w8 (r':=QR 2 [.lst (ns.map PV.int),.int k]) (st':=st) (r:=QR 2 [.lst (ns.map PV.int),.int k]) ?_]
  ·rw [YF (p := .int (6151 * k + 29)) (st':=st) ?_]
   rw [qt (p := .int (6151 * k)) (q := .int 29) (st':=st) (st2:=st) ?_ rfl]
   ·rfl
   ·rw [qt (p := .int 6151) (q := .int k) rfl rfl]
    unfold W3 gI
    dsimp only
    rw [AI (.inl ⟨by decide,by decide⟩)]
  ·rw [qFj (st':=st) ?_]
   ·rfl
   ·refine Ji ?_
    rw [qt (p := .int k) (q := .int ns.length) rfl ?_]
    ·show Rs.ok (PV.bl (decide (k < (ns.length:Int)))) st=_
     rw [AY hk]
    ·rw [zM (l:=[.lst (ns.map PV.int)]) rfl]
     show Rs.ok (PV.int ((ns.map PV.int).length:Int)) st=_
     rw [AE]
theorem J1 {i j:Int} {st:qB} (h:-(2 ^ 64) < i∧i < 2 ^ 64):W3 (.int i) (.int j) st = .ok (.int (i * j)) st:=by
 unfold W3 gI
 dsimp only
 rw [AI (.inl h)]
def y0:FS:=(qV (qp 4 (qJ Yi (qJ QN (qJ QN (qJ QN (qJ W3 (qC 4) (vC (.int 48271))) (qJ W3 (qJ W3 (vC (.int 7)) (qC 5)) (qC 5))) (qJ W3 (vC (.int 11)) (qC 1))) (vC (.int 1))) (vC (.int 2147483647)))) (qp 3 (qJ QN (qJ W3 (qC 3) (vC (.int 2147483647))) (qC 4))))
theorem Yp {s:PV} {c k:Int} {st:qB}:∀ (js:List Int) (n m:Int) (x:Option PV),(∀ j∈js,0≤j∧j < 24) -> ∃ n' m' x',Qg (fun _=>True) (wV 5) y0 (js.map PV.int) [some s,some (.int k),some (.int c),some (.int n),some (.int m),x] st = .nx [some s,some (.int k),some (.int c),some (.int n'),some (.int m'),x'] st
 |[],n,m,x,_=>⟨n,m,x,by rw [B9,yf trivial]⟩
 |j::js,n,m,x,h=>by
  have hj:=h j AK
  have e:y0 [some s,some (.int k),some (.int c),some (.int n),some (.int m),some (.int j)] st = .nx [some s,some (.int k),some (.int c),some (.int (n * 2147483647 + (m * 48271 + 7 * j * j + 11 * k + 1) % 2147483647)),some (.int ((m * 48271 + 7 * j * j + 11 * k + 1) % 2147483647)),some (.int j)] st:=by
   unfold y0
   rw [w8 (zV (p := .int ((m * 48271 + 7 * j * j + 11 * k + 1) % 2147483647)) (st':=st) ?_),zV (p := .int (n * 2147483647 + (m * 48271 + 7 * j * j + 11 * k + 1) % 2147483647)) (st':=st) ?_]
   ·rfl
   ·rw [qt (p := .int (n * 2147483647)) (q := .int ((m * 48271 + 7 * j * j + 11 * k + 1) % 2147483647)) (st':=st) (st2:=st) ?_ rfl]
    ·rfl
    ·rw [qt (p := .int n) (q := .int 2147483647) rfl rfl,j6 ⟨by decide,by decide⟩]
   ·rw [qt (p := .int (m * 48271 + 7 * j * j + 11 * k + 1)) (q := .int 2147483647) (st':=st) (st2:=st) ?_ rfl,YQ (by decide)]
    rw [qt (p := .int (m * 48271 + 7 * j * j + 11 * k)) (q := .int 1) (st':=st) (st2:=st) ?_ rfl]
    ·rfl
    rw [qt (p := .int (m * 48271 + 7 * j * j)) (q := .int (11 * k)) (st':=st) (st2:=st) ?_ ?_]
    ·rfl
    ·rw [qt (p := .int (m * 48271)) (q := .int (7 * j * j)) (st':=st) (st2:=st) ?_ ?_]
     ·rfl
     ·rw [qt (p := .int m) (q := .int 48271) rfl rfl,j6 ⟨by decide,by decide⟩]
     ·rw [qt (p := .int (7 * j)) (q := .int j) (st':=st) (st2:=st) ?_ rfl,j6 ⟨by omega,by omega⟩]
      rw [qt (p := .int 7) (q := .int j) rfl rfl,J1 ⟨by decide,by decide⟩]
    ·rw [qt (p := .int 11) (q := .int k) rfl rfl,J1 ⟨by decide,by decide⟩]
  obtain ⟨n',m',x',e2⟩:=Yp js _ _ (some (.int j)) fun q hq=>h q (AG _ hq)
  exact ⟨n',m',x',by rw [AN,yM (r1:=[some s,some (.int k),some (.int c),some (.int n),some (.int m),some (.int j)]) trivial rfl e];exact e2⟩
theorem qE6 {a:Ad} {ns:List Int} {k:Int} {st:qB} (h0:0≤k):∃ x,zN a [.lst (ns.map PV.int),.int k] st = .ok (.ref st.length) (st++[.l [.int x]]):=by
 obtain ⟨c,hc⟩:=qDH (a:=a) (ns:=ns) (k:=k) (st:=st) h0
 have h1:qp 2 (qH (Wh a) (qA (qC 0) (qA (qC 1) qD))) (QR 6 [.lst (ns.map PV.int),.int k]) st = .nx [some (.lst (ns.map PV.int)),some (.int k),some (.int c),none,none,none] st:=by
  rw [zV (p := .int c) (st':=st) ?_]
  ·rfl
  ·rw [zM (l:=[.lst (ns.map PV.int),.int k]) rfl];exact hc
 have ht:∀ b:Bool,(c % 2==0)=b->vTB (qJ gEq (qJ Yi (qC 2) (vC (.int 2))) (vC (.int 0))) [some (.lst (ns.map PV.int)),some (.int k),some (.int c),none,none,none] st = .ok b st:=by
  intro b hb
  refine Ji ?_
  rw [qt (p := .int (c % 2)) (q := .int 0) (st':=st) (st2:=st) ?_ rfl,yI,hb]
  rw [qt (p := .int c) (q := .int 2) rfl rfl,YQ (by decide)]
 cases hb:(c % 2==0) with
 |true =>
  refine ⟨c / 2,Wp rfl ?_⟩
  unfold zK
  rw [w8 h1,JQ (p := .ref st.length) (st':=st++[.l [.int (c / 2)]]) ?_]
  rw [qEk (ht true hb),Jv (l:=[.int (c / 2)]) (st':=st) ?_]
  unfold ZD
  rw [Jg (p := .int (c / 2)) (l:=[]) (st':=st) (st2:=st) ?_ rfl]
  ·rfl
  ·rw [qt (p := .int c) (q := .int 2) rfl rfl,qFr (by decide) (by decide)]
 |false =>
  obtain ⟨n',m',x',e⟩:=Yp (s := .lst (ns.map PV.int)) (c:=c) (k:=k) (st:=st) (WO 24) 0 (c % 2147483647) none fun j hj=>upto_mem.mp hj
  refine ⟨n',Wp rfl ?_⟩
  unfold zK
  rw [w8 h1,w8 (r':=[some (.lst (ns.map PV.int)),some (.int k),some (.int c),none,none,none]) (st':=st) (by rw [qFj (ht false hb)];rfl),w8 (zV (p := .int 0) (st':=st) rfl),w8 (zV (p := .int (c % 2147483647)) (st':=st) ?_),w8 (r':=[some (.lst (ns.map PV.int)),some (.int k),some (.int c),some (.int n'),some (.int m'),x']) (st':=st) ?_,Jv (l:=[.int n']) (st':=st) rfl]
  ·rw [qBO (w:=⟨(WO 24).map PV.int,fun _=>True⟩) (st':=st) rfl]
   exact e
  ·rw [qt (p := .int c) (q := .int 2147483647) rfl rfl,YQ (by decide)]
end K89
end
noncomputable section
namespace K89
open PySem EV EX
def QE (s:Int×Int):PV := .tup [.int s.1,.int s.2]
def sP (S:List (Int×Int)):PV := .tup (S.map QE)
structure Srt (S:List (Int×Int)):Prop where
 lo:1≤S.length
 hi:S.length≤4
 ris:(S.map (·.1)).Pairwise (· < ·)
 b:∀ s∈S,1≤s.1∧s.1≤9∧0≤s.2∧s.2≤1000000000000
theorem itN {L:Int} {r:qo} {st s1:qB} {f:FA} (h1:0≤L) (h2:L≤1000) (hf:f r st = .ok [.int L] s1):(wb f) r st = .ok ⟨(WO L).map PV.int,fun _=>True⟩ s1:=by
 unfold wb
 rw [hf]
 show zy [.int L] s1=_
 unfold zy
 dsimp only
 rw [AI (by omega),jO]
theorem jQ:∀ (vs acc:List Int),acc.Nodup->(vs.foldl ddS acc).Nodup
 |[],acc,h=>h
 |k::vs,acc,h=>by
  rw [Bn]
  refine jQ vs _ ?_
  unfold ddS
  split
  ·exact h
  ·rename_i q
   exact B4.mpr ⟨h,by simp,fun a ha b hb=>by rw [AW.mp hb];intro z;subst z;exact q ha⟩
theorem qB9:∀ (vs acc:List Int) (x:Int),x∈vs.foldl ddS acc ↔ x∈acc∨x∈vs
 |[],acc,x=>by simp
 |k::vs,acc,x=>by
  rw [Bn,qB9 vs _ x]
  unfold ddS
  split
  ·rename_i q
   constructor
   ·rintro (h |h)
    ·exact .inl h
    ·exact .inr (AG _ h)
   ·rintro (h |h)
    ·exact .inl h
    ·rcases AH.mp h with rfl |h
     ·exact .inl q
     ·exact .inr h
  ·simp only [A1,AH,Aj,or_false]
   constructor
   ·rintro ((h |h) |h)
    ·exact .inl h
    ·exact .inr (.inl h)
    ·exact .inr (.inr h)
   ·rintro (h |h |h)
    ·exact .inl (.inl h)
    ·exact .inl (.inr h)
    ·exact .inr h
theorem qFH (vs:List Int):(sdd vs).Pairwise (· < ·):=by
 have h1:=qBT vs
 have h2:(sdd vs).Nodup:=(W5 vs).nodup_iff.mpr (jQ vs [] List.nodup_nil)
 have h3:(sdd vs).Pairwise (fun a b=>a≤b∧a≠b):=h1.and h2
 exact h3.imp fun ⟨p,q⟩=>by omega
theorem sdd_mem {vs:List Int} {x:Int}:x∈sdd vs ↔ x∈vs:=by
 rw [(W5 vs).mem_iff]
 unfold dd
 rw [qB9]
 simp
theorem qDq {vs:List Int} (h:vs≠[]):1≤(sdd vs).length∧(sdd vs).length≤vs.length:=by
 constructor
 ·obtain ⟨x,hx⟩:=List.exists_mem_of_ne_nil vs h
  exact List.length_pos_of_mem (sdd_mem.mpr hx)
 ·rw [(W5 vs).length_eq]
  have:=Zx vs []
  have z:([]:List Int).length=0:=rfl
  unfold dd
  omega
def lgE (a:Ad):FE:=(qJ QN (vC (.int 1)) (qH (qR a) (qA (qC 0) (qA (qJ gIx (vFz (ZD (qA (vC (.int 3)) (qA (vC (.int 9)) qD)))) (qH (qR a) (qA (qC 0) (qA (vC (.int 2)) qD)))) qD))))
theorem jN {a:Ad} {st j:qB} {fi:FI}:∀ (ks:List PV) (x:Int),∃ (vs:List Int) (y:Int),vs.length=ks.length∧(∀ v∈vs,1≤v∧v≤9)∧qZ (fun _=>True) (QD ⟨fi,qk 1,[]⟩ (QL [] (lgE a)) [some (.ref st.length),none]) ks (st ++ .l [.int x]::j) = .ok (vs.map PV.int) (st ++ .l [.int y]::j)
 |[],x=>⟨[],x,rfl,fun v hv=>(Aj hv).elim,wT trivial⟩
 |k::ks,x=>by
  have t1:=Qp (a:=a) (st:=st) (j:=j) (x:=x) (m:=2) (by decide) (by decide)
  have hm:∃ m:Int,(m=3∨m=9)∧gIx (.lst [.int 3,.int 9]) (.int (x % 2)) (st ++ .l [.int (x / 2)]::j) = .ok (.int m) (st ++ .l [.int (x / 2)]::j):=by
   have:x % 2=0∨x % 2=1:=by omega
   rcases this with h |h <;> rw [h]
   ·exact ⟨3,.inl rfl,rfl⟩
   ·exact ⟨9,.inr rfl,rfl⟩
  obtain ⟨m,hm1,hm2⟩:=hm
  have hmp:0 < m∧m≤9:=by rcases hm1 with rfl |rfl <;> decide
  have t2:=Qp (a:=a) (st:=st) (j:=j) (x:=x / 2) (m:=m) hmp.1 (by omega)
  obtain ⟨vs,y,h1,h2,h3⟩:=jN (a:=a) (st:=st) (j:=j) (fi:=fi) ks (x / 2 / m)
  have hr:0≤x / 2 % m∧x / 2 % m < m:=⟨CM _ (by omega),B2 _ hmp.1⟩
  refine ⟨(1 + x / 2 % m)::vs,y,by rw [AO,AO,h1],fun v hv => ?_,?_⟩
  ·rcases AH.mp hv with rfl |hv
   ·omega
   ·exact h2 v hv
  ·refine zH (l:=[.int (1 + x / 2 % m)]) trivial (y7 (r':=[some (.ref st.length),some k]) rfl ?_) h3
   exact qP (p := .int 1) (q := .int (x / 2 % m)) rfl (qK (l:=[.ref st.length,.int m]) (qO rfl (qO (qP (p := .lst [.int 3,.int 9]) (q := .int (x % 2)) rfl (qK (l:=[.ref st.length,.int 2]) rfl t1) hm2) qf)) t2) zn
def prE (a:Ad):FE:=(w9 (qA (qC 2) (qA (qH (qR a) (qA (qC 0) (qA (qC 1) qD))) qD)))
theorem jJ {a:Ad} {st j:qB} {fi:FI} {m:Int} (h0:0 < m) (h1:m≤1000000000001):∀ (ls:List Int) (x:Int),∃ (S:List (Int×Int)) (y:Int),S.map (·.1)=ls∧(∀ s∈S,0≤s.2∧s.2≤1000000000000)∧qZ (fun _=>True) (QD ⟨fi,qk 2,[]⟩ (QL [] (prE a)) [some (.ref st.length),some (.int m),none]) (ls.map PV.int) (st ++ .l [.int x]::j) = .ok (S.map QE) (st ++ .l [.int y]::j)
 |[],x=>⟨[],x,rfl,fun v hv=>(Aj hv).elim,wT trivial⟩
 |k::ks,x=>by
  have t1:=Qp (a:=a) (st:=st) (j:=j) (x:=x) (m:=m) h0 (by omega)
  obtain ⟨S,y,h2,h3,h4⟩:=jJ (a:=a) (st:=st) (j:=j) (fi:=fi) h0 h1 ks (x / m)
  have hr:0≤x % m∧x % m < m:=⟨CM _ (by omega),B2 _ h0⟩
  refine ⟨(k,x % m)::S,y,by rw [AN,h2],fun s hs => ?_,?_⟩
  ·rcases AH.mp hs with rfl |hs
   ·show 0≤x % m∧x % m≤_;omega
   ·exact h3 s hs
  ·refine zH (l:=[QE (k,x % m)]) trivial (y7 (r':=[some (.ref st.length),some (.int m),some (.int k)]) rfl ?_) h4
   exact Zz (qO rfl (qO (qK (l:=[.ref st.length,.int m]) rfl t1) qf)) (sz rfl)
theorem qBv {a:Ad} {st j:qB} {x:Int}:∃ (S:List (Int×Int)) (y:Int),Srt S∧WD a [.ref st.length] (st ++ .l [.int x]::j) = .ok (sP S) (st ++ .l [.int y]::j):=by
 have t0:=Qp (a:=a) (st:=st) (j:=j) (x:=x) (m:=4) (by decide) (by decide)
 have hn:1≤1 + x % 4∧1 + x % 4≤4:=by omega
 generalize hN:1 + x % 4=N at hn
 obtain ⟨vs,y,h1,h2,h3⟩:=jN (a:=a) (st:=st) (j:=j) (fi:=wb (qA (qJ QN (vC (.int 1)) (qH (qR a) (qA (qC 0) (qA (vC (.int 4)) qD)))) qD)) ((WO N).map PV.int) (x / 4)
 rw [AE,W2] at h1
 have hv4:vs.length≤4:=by omega
 have hv1:vs≠[]:=fun z=>by rw [z] at h1;simp at h1;omega
 have t3:=Qp (a:=a) (st:=st) (j:=j) (x:=y) (m:=3) (by decide) (by decide)
 have hm:∃ m:Int,(m=3∨m=12∨m=1000000000001)∧gIx (.lst [.int 3,.int 12,.int 1000000000001]) (.int (y % 3)) (st ++ .l [.int (y / 3)]::j) = .ok (.int m) (st ++ .l [.int (y / 3)]::j):=by
  have:y % 3=0∨y % 3=1∨y % 3=2:=by omega
  rcases this with h |h |h <;> rw [h]
  ·exact ⟨3,.inl rfl,rfl⟩
  ·exact ⟨12,.inr (.inl rfl),rfl⟩
  ·exact ⟨1000000000001,.inr (.inr rfl),rfl⟩
 obtain ⟨m,hm1,hm2⟩:=hm
 have hmp:0 < m∧m≤1000000000001:=by rcases hm1 with rfl |rfl |rfl <;> decide
 obtain ⟨S,z,g1,g2,g3⟩:=jJ (a:=a) (st:=st) (j:=j) (fi:=qq (qC 1)) hmp.1 hmp.2 (sdd vs) (y / 3)
 have hl:=qDq hv1
 have hSl:S.length=(sdd vs).length:=by rw [← g1,AE]
 refine ⟨S,z,⟨by omega,by omega,by rw [g1];exact qFH vs,fun s hs => ?_⟩,QX rfl ?_⟩
 ·have:s.1∈sdd vs:=by rw [← g1];exact AX.mpr ⟨s,hs,rfl⟩
  have:=h2 _ (sdd_mem.mp this)
  exact ⟨this.1,this.2,g2 s hs⟩
 unfold Wy
 refine qa (Qw (p := .lst ((sdd vs).map PV.int)) (s1:=st ++ .l [.int y]::j) ?_) ?_
 ·unfold qBN
  rw [WT (yG (l:=vs.map PV.int) (s2:=st ++ .l [.int y]::j) (itN (L:=N) (by omega) (by omega) (qO (qP rfl (qK (l:=[.ref st.length,.int 4]) rfl t0) (by rw [zn,hN])) qf)) h3 (by rw [AE];exact AS hv4 (by decide)))]
  show qAP (.lst (vs.map PV.int)) _=_
  unfold qAP
  simp only [asL]
  rw [show QH yT (vs.map PV.int)=some vs from by
   clear h1 h2 h3 hv4 hv1 g1 g3 hl hSl
   induction vs with
   |nil=>rfl
   |cons v vs ih=>rw [AN,QH,ih];rfl]
  dsimp only
  rw [AI ⟨hv4,h2⟩]
 ·refine qa (Qw (p := .int m) (s1:=st ++ .l [.int (y / 3)]::j) (qP (p := .lst [.int 3,.int 12,.int 1000000000001]) (q := .int (y % 3)) rfl (qK (l:=[.ref st.length,.int 3]) rfl t3) hm2)) ?_
  refine wD (qK (l:=[.lst (S.map QE)]) (qO (WT (yG (w:=⟨(sdd vs).map PV.int,fun _=>True⟩) (JL rfl) g3 (by rw [AE,hSl];exact AS hl.2 (AS hv4 (by decide))))) qf) (Ze rfl))
theorem itR {lo hi:Int} {r:qo} {st s1:qB} {f:FA} (h1:0≤lo) (h2:lo≤1000) (h3:0≤hi) (h4:hi≤1000) (hf:f r st = .ok [.int lo,.int hi] s1):(zT f) r st = .ok ⟨Z7 lo hi,fun _=>True⟩ s1:=by
 unfold zT
 rw [hf]
 show y6 [.int lo,.int hi] s1=_
 unfold y6
 dsimp only
 rw [AI ⟨by omega,by omega,by omega,by omega⟩]
def ofN (l:List Nat):List PV:=l.map fun (t:Nat)=>PV.int (t:Int)
theorem j5 {n m:Nat} (h:n≤300) (hm:m≤300) {r:qo} {S:qB} {f:FA} (e:f r S = .ok [.int (n:Int),.int (m:Int)] S):zT f r S = .ok ⟨ofN ((List.range (m - n)).map fun i=>n + i),fun _=>True⟩ S:=by
 rw [itR (by omega) (by omega) (by omega) (by omega) e]
 congr 2
 unfold Z7 ofN
 rw [show ((m:Int) - (n:Int)).toNat=m - n by omega,Ak]
 refine Ay fun i _ => ?_
 show PV.int ((n:Int) + (i:Int))=PV.int ((n + i:Nat):Int)
 rw [Int.natCast_add]
theorem W7 {lo n hi:Int} {r:qo} {st:qB} {f g h:FE} (e1:f r st = .ok (.int lo) st) (e2:g r st = .ok (.int n) st) (e3:h r st = .ok (.int hi) st):wI gLe gLe f g h r st = .ok (.bl (decide (lo≤n)&&decide (n≤hi))) st:=by
 unfold wI
 rw [e1]
 show (g r st).bind _=_
 rw [e2]
 show ((gLe (.int lo) (.int n) st).bind fun z s3=>match z with | .bl true=>(h r s3).bind fun q s=>gLe (.int n) q s | .bl false=>Rs.ok (.bl false) s3 |_ => .no)=_
 rw [qAb]
 show (match PV.bl (decide (lo≤n)) with | .bl true=>(h r st).bind fun q s=>gLe (.int n) q s | .bl false=>Rs.ok (.bl false) st |_ => .no)=_
 cases decide (lo≤n)
 ·rfl
 ·dsimp only
  rw [e3]
  exact qAb
def okP:PV->Bool
 | .tup l=>Nat.ble l.length 1000&&l.all zR
 |p=>zR p
def is2:PV->Bool
 | .tup [.int _,.int _]=>true
 |_=>false
theorem yu {v:PV} (h:okP v=true):zR v=true:=by cases v <;> first |rfl |exact h
theorem Jp {a:Ad} {v:PV} {st:qB} (h:zR v=true):ZU (kit a) [v,.ty "tuple"] st = .ok (.bl (match v with | .tup _=>true |_=>false)) st:=by
 cases v <;> first |rfl |cases h
theorem YR {f:PV->Bool} {l:List PV} {st:qB}:Zr [.lst (l.map fun p => .bl (f p))] st = .ok (.bl (l.all f)) st:=by
 unfold Zr zk
 simp only [asL]
 rw [Z2]
 show Rs.ok (PV.bl ((l.map f).all id)) st=_
 rw [List.all_map]
 rfl
theorem qHF (p q:PV):(isInt p&&(isInt q&&true))=is2 (.tup [p,q]):=by cases p <;> cases q <;> rfl
theorem qHE {l:List PV} (h:l.length≠2):is2 (.tup l)=false:=by
 match l,h with
 |[],_=>rfl
 |[p],_=>cases p <;> rfl
 |[_,_],h=>exact absurd rfl h
 |_::_::_::_,_=>unfold is2;split <;> first |rfl |(rename_i e;cases e)
theorem qHP {a:Ad} {v:PV} {st:qB} (h:okP v=true):wA a [v,.int 2,.int 2] st = .ok (.bl (is2 v)) st:=by
 refine QX rfl (wD ?_)
 unfold Zu
 rw [qK (l:=[v,.ty "tuple"]) (s1:=st) rfl (Jp (yu h))]
 cases v with
 |tup l =>
  have h:(Nat.ble l.length 1000&&l.all zR)=true:=h
  rw [Ar,Ao] at h
  show (wI gLe gLe (qC 1) (qH WA (qA (qC 0) qD)) (qC 2) (QR 3 [.tup l,.int 2,.int 2]) st).bind _=_
  rw [W7 (lo:=2) (n:=l.length) (hi:=2) rfl (qK rfl (yN rfl rfl)) rfl]
  by_cases q:l.length=2
  ·rw [show (decide ((2:Int)≤(l.length:Int))&&decide ((l.length:Int)≤2))=true by rw [q];rfl]
   show qH Zr _ _ _=_
   refine qK (l:=[.lst (l.map fun p => .bl (isInt p))]) (qO (WT (QS (w:=⟨l,fun _=>True⟩) (F:=fun p => .bl (isInt p)) (Wj rfl) trivial (sz h.1) fun p hp=>⟨[some p],rfl,qK rfl (zW (h.2 p hp))⟩)) qf) ?_
   rw [YR]
   congr 2
   match l,q with
   |[p,q],_=>exact qHF p q
  ·rw [show (decide ((2:Int)≤(l.length:Int))&&decide ((l.length:Int)≤2))=false by
    rw [Bool.and_eq_false_iff]
    rcases Nat.lt_or_ge l.length 2 with z |z
    ·exact .inl (AY (by omega))
    ·exact .inr (AY (by omega)),qHE q]
   rfl
 |_=>rfl
def isS:PV->Bool
 | .tup [.int l,.int p]=>(decide (1≤l)&&decide (l≤9))&&(decide (0≤p)&&decide (p≤1000000000000))
 |_=>false
theorem qEa {v:PV} (h:is2 v=false):isS v=false:=by
 unfold isS
 split
 ·cases h
 ·rfl
theorem JW {a:Ad} {v:PV} {st:qB} (h:okP v=true):zO a [v] st = .ok (.bl (isS v)) st:=by
 refine QX rfl (wD ?_)
 unfold Zu
 rw [qK (l:=[v,.int 2,.int 2]) (s1:=st) rfl (qHP h)]
 cases h2:is2 v with
 |false=>rw [qEa h2];rfl
 |true =>
  unfold is2 at h2
  split at h2
  ·rename_i x y
   show ((wI gLe gLe (vC (.int 1)) (qJ gIx (qC 0) (vC (.int 0))) (vC (.int 9)) (QR 1 [.tup [.int x,.int y]]) st).bind _)=_
   rw [W7 (lo:=1) (n:=x) (hi:=9) rfl rfl rfl]
   show _=Rs.ok (PV.bl ((decide (1≤x)&&decide (x≤9))&&(decide (0≤y)&&decide (y≤1000000000000)))) st
   cases (decide (1≤x)&&decide (x≤9))
   ·rfl
   ·show wI gLe gLe (vC (.int 0)) (qJ gIx (qC 0) (vC (.int 1))) (vC (.int 1000000000000)) (QR 1 [.tup [.int x,.int y]]) st=_
    rw [W7 (lo:=0) (n:=y) (hi:=1000000000000) rfl rfl rfl]
    rfl
  ·cases h2
def qBm (xs:List Int):Bool:=(List.range (xs.length - 1)).all fun i=>decide (xs.getD i 0 < xs.getD (i + 1) 0)
theorem qAq {a:Ad} {xs:List Int} {st:qB} (h1:1≤xs.length) (h2:xs.length≤100):zB a [.lst (xs.map PV.int)] st = .ok (.bl (qBm xs)) st:=by
 refine QX rfl (wD ?_)
 let F:PV->PV:=fun p=>match p with | .int t => .bl (decide (xs.getD (t.toNat - 1) 0 < xs.getD t.toNat 0)) |_ => .non
 refine qK (l:=[.lst ((ofN ((List.range (xs.length - 1)).map fun i=>1 + i)).map F)]) (qO (WT (QS (w:=⟨ofN ((List.range (xs.length - 1)).map fun i=>1 + i),fun _=>True⟩) (F:=F) (j5 (n:=1) (m:=xs.length) (by omega) (by omega) (qO rfl (qO (qK (l:=[.lst (xs.map PV.int)]) rfl (yN (l:=xs.map PV.int) rfl (by rw [AE]))) qf))) trivial (by unfold ofN;rw [AE,AE,List.length_range];exact AS (Nat.sub_le _ _) (AS h2 (by decide))) fun p hp => ?_)) qf) ?_
 ·obtain ⟨t,ht,rfl⟩:=AX.mp hp
  obtain ⟨i,hi,rfl⟩:=AX.mp ht
  have hi:=Bd.mp hi
  refine ⟨[some (.lst (xs.map PV.int)),some (.int ((1 + i:Nat):Int))],rfl,?_⟩
  have e1:=Zt (l:=xs) (L:=(xs.length:Int)) (i:=((1 + i:Nat):Int) - 1) (st:=st) (by omega) (by omega) (by omega)
  have e2:=Zt (l:=xs) (L:=(xs.length:Int)) (i:=((1 + i:Nat):Int)) (st:=st) (by omega) (by omega) (by omega)
  refine qP (qP rfl (qP rfl rfl ZJ) e1) (qP rfl rfl e2) ?_
  rw [w_lt]
  show _=Rs.ok (PV.bl (decide (xs.getD ((((1 + i:Nat):Int)).toNat - 1) 0 < xs.getD (((1 + i:Nat):Int)).toNat 0))) st
  rw [show (((1 + i:Nat):Int) - 1).toNat=(((1 + i:Nat):Int)).toNat - 1 by omega]
 ·have e:(ofN ((List.range (xs.length - 1)).map fun i=>1 + i)).map F=(ofN (List.range (xs.length - 1))).map fun p => .bl ((fun p=>match p with | .int t=>decide (xs.getD t.toNat 0 < xs.getD (t.toNat + 1) 0) |_=>false) p):=by
   unfold ofN
   rw [Ak,Ak,Ak]
   refine Ay fun i _ => ?_
   show PV.bl (decide (xs.getD ((((1 + i:Nat):Int)).toNat - 1) 0 < xs.getD (((1 + i:Nat):Int)).toNat 0))=PV.bl (decide (xs.getD ((i:Int)).toNat 0 < xs.getD (((i:Int)).toNat + 1) 0))
   rw [Av,Av,show 1 + i - 1=i by omega,Nat.add_comm 1 i]
  rw [e,YR]
  congr 2
  unfold ofN qBm
  rw [List.all_map]
  rfl
theorem qFV {s:Int×Int} (h:1≤s.1∧s.1≤9∧0≤s.2∧s.2≤1000000000000):isS (QE s)=true:=by
 show ((decide (1≤s.1)&&decide (s.1≤9))&&(decide (0≤s.2)&&decide (s.2≤1000000000000)))=true
 rw [AV h.1,AV h.2.1,AV h.2.2.1,AV h.2.2.2];rfl
theorem qFe {a:Ad} {l:List PV} {st:qB} {r:qo} (hr:r[0]? = some (some (.tup l))) (hl:l.length≤1000) (h:∀ p∈l,okP p=true):qH Zr (qA (vFz (ql [] 1 (qq (qC 0)) (qk 0) [] [] (qH (zO a) (qA (qC 0) qD)))) qD) r st = .ok (.bl (l.all isS)) st :=
 qK (l:=[.lst (l.map fun p => .bl (isS p))]) (qO (WT (QS (w:=⟨l,fun _=>True⟩) (F:=fun p => .bl (isS p)) (Wj (qF0 hr)) trivial (AS hl (by decide)) fun p hp=>⟨[some p],rfl,qK rfl (JW (h p hp))⟩)) qf) YR
theorem qAr {a:Ad} {S:List (Int×Int)} {st:qB} (h1:1≤S.length) (h2:S.length≤4) (hb:∀ s∈S,1≤s.1∧s.1≤9∧0≤s.2∧s.2≤1000000000000):WF a [sP S] st = .ok (.bl (qBm (S.map (·.1)))) st:=by
 refine QX rfl ?_
 unfold Wt
 have e1:ZU (kit a) [sP S,.ty "tuple"] st = .ok (.bl true) st:=rfl
 have e2:=W7 (lo:=1) (n:=S.length) (hi:=4) (r:=QR 1 [sP S]) (st:=st) (f:=vC (.int 1)) (g:=qH WA (qA (qC 0) qD)) (h:=vC (.int 4)) rfl (qK (l:=[sP S]) rfl (yN (l:=S.map QE) rfl (by rw [AE]))) rfl
 rw [show (decide ((1:Int)≤(S.length:Int))&&decide ((S.length:Int)≤4))=true by rw [AV (by omega),AV (by omega)];rfl] at e2
 have e3:=qFe (a:=a) (l:=S.map QE) (st:=st) (r:=QR 1 [sP S]) rfl (by rw [AE];omega) (fun p hp=>by obtain ⟨s,_,rfl⟩:=AX.mp hp;rfl)
 rw [show (S.map QE).all isS=true by
  rw [Ao];intro p hp
  obtain ⟨s,hs,rfl⟩:=AX.mp hp
  exact qFV (hb s hs)] at e3
 refine qa (Q5 (W4 (w_not (b:=true) (wc (qK (l:=[sP S,.ty "tuple"]) rfl e1))) (W4 (w_not (b:=true) (w4 e2)) (w_not (b:=true) (wc e3)))) rfl) (wD ?_)
 let F:PV->PV:=fun p=>match p with | .tup [.int x,_] => .int x |_ => .non
 refine qK (l:=[.lst ((S.map (·.1)).map PV.int)]) (qO (WT ?_) qf) (qAq (by rw [AE];exact h1) (by rw [AE];omega))
 have e4:=QS (caps:=[]) (n:=2) (fi:=qq (qC 0)) (g:=wk 2 (qe (qk 0) (qe (qk 1) w5))) (f:=qC 0) (r:=QR 1 [sP S]) (st:=st) (w:=⟨S.map QE,fun _=>True⟩) (F:=F) rfl trivial (by rw [AE];exact AS h2 (by decide)) fun p hp=>by
  obtain ⟨s,_,rfl⟩:=AX.mp hp
  exact ⟨[some (.int s.1),some (.int s.2)],rfl,rfl⟩
 rw [e4,Ak,Ak]
 rfl
theorem qEu {xs:List Int} (h:xs.Pairwise (· < ·)):qBm xs=true:=by
 unfold qBm
 rw [Ao]
 intro i hi
 have hi:=Bd.mp hi
 have h1:i < xs.length:=by omega
 have h2:i + 1 < xs.length:=by omega
 rw [AF,AF,AD h1,AD h2]
 exact AV (List.pairwise_iff_getElem.mp h i (i + 1) h1 h2 (CC i))
theorem qAu {a:Ad} {S:List (Int×Int)} {st:qB} (R:Srt S):WF a [sP S] st = .ok (.bl true) st:=by
 rw [qAr R.lo R.hi R.b,qEu R.ris]
theorem yU {a:Ad} {v:PV} {st:qB} (h:zR v=true):wQ a [v,.int 0,.int 200] st=if yO 0 200 v=true then .ok .non st else .no:=by
 unfold wQ QC
 rw [AI (show [v,PV.int 0,.int 200].length=3 from rfl)]
 unfold WN wX wU QV
 rw [zM (l:=[v,.int 0,.int 200]) (st':=st) rfl,qCo h]
 cases hw:yO 0 200 v <;> rfl
theorem zx {a:Ad} {S:List (Int×Int)} {c:Nat} {st:qB} (R:Srt S) (hc:c≤200):Q2 a [sP S,.int (c:Int)] st = .ok .non st:=by
 refine qAp (r1:=[some (sP S),some (.int (c:Int))]) rfl ?_
 unfold zD
 refine qa (Q5 (w_not (b:=true) (wc (qK (l:=[sP S]) rfl (qAu R)))) rfl) (ZP (p := .non) (qK (l:=[.int (c:Int),.int 0,.int 200]) rfl ?_))
 rw [yU rfl,AI (by show (decide ((0:Int)≤(c:Int))&&decide ((c:Int)≤200))=true;rw [AV (by omega),AV (by omega)];rfl)]
abbrev Ln:=Option (Int×List Int)
def qb (x:Int×List Int):PV := .tup [.int x.1,.tup (x.2.map PV.int)]
def lnP:Ln->PV
 |some x=>qb x
 |none => .non
theorem yj:∀ t u:List Int,∃ r,plts (t.map PV.int) (u.map PV.int)=some r
 |[],[]=>⟨false,by simp only [B9,plts]⟩
 |[],_::_=>⟨true,by simp only [B9,AN,plts]⟩
 |_::_,[]=>⟨false,by simp only [B9,AN,plts]⟩
 |x::t,y::u=>by
  obtain ⟨r,h⟩:=yj t u
  rw [AN,AN,plts]
  cases peq (.int x) (.int y) with
  |true=>exact ⟨r,h⟩
  |false=>exact ⟨decide (x < y),by rw [AQ (by decide),plt]⟩
theorem yH (x y:Int×List Int):∃ r,plt (qb x) (qb y)=some r∧(r=true->x.1≤y.1)∧(r=false->y.1≤x.1):=by
 unfold qb
 rw [plt,plts]
 by_cases h:x.1=y.1
 ·have e:peq (.int x.1) (.int y.1)=true:=by rw [h];show (y.1==y.1)=true;exact An _
  rw [e,AI rfl,plts]
  cases peq (.tup (x.2.map PV.int)) (.tup (y.2.map PV.int)) with
  |true=>exact ⟨false,by rw [AI rfl,plts],fun _=>by omega,fun _=>by omega⟩
  |false =>
   obtain ⟨r,hr⟩:=yj x.2 y.2
   exact ⟨r,by rw [AQ (by decide),plt];exact hr,fun _=>by omega,fun _=>by omega⟩
 ·have e:peq (.int x.1) (.int y.1)=false:=by show (x.1==y.1)=false;exact Bc.mpr h
  rw [e,AQ (by decide),plt]
  exact ⟨decide (x.1 < y.1),rfl,fun z=>by have:=A7 z;omega,fun z=>by have:=of_decide_eq_false z;omega⟩
def ltB (x y:Int×List Int):Bool:=plt (qb x) (qb y)==some true
theorem qGw {x y:Int×List Int} (h:ltB x y=true):x.1≤y.1:=by
 obtain ⟨r,h1,h2,_⟩:=yH x y
 unfold ltB at h
 rw [h1] at h
 exact h2 (by cases r <;> first |rfl |cases h)
theorem qG9 {x y:Int×List Int} (h:ltB x y=false):y.1≤x.1:=by
 obtain ⟨r,h1,_,h2⟩:=yH x y
 unfold ltB at h
 rw [h1] at h
 exact h2 (by cases r <;> first |rfl |cases h)
def WH (b x:Int×List Int):Int×List Int:=if ltB x b=true then x else b
def Wz:List (Int×List Int)->Ln
 |[]=>none
 |b::l=>some (l.foldl WH b)
theorem YW:∀ (l:List (Int×List Int)) (b:Int×List Int),(l.foldl WH b).1≤b.1 ∧ ∀ x∈l,(l.foldl WH b).1≤x.1
 |[],b=>⟨BK _,fun x hx=>(Aj hx).elim⟩
 |y::l,b=>by
  obtain ⟨h1,h2⟩:=YW l (WH b y)
  have hs:(WH b y).1≤b.1∧(WH b y).1≤y.1:=by
   unfold WH
   cases h:ltB y b with
   |true=>rw [AI rfl];exact ⟨qGw h,BK _⟩
   |false=>rw [AQ (by decide)];exact ⟨BK _,qG9 h⟩
  rw [Bn]
  refine ⟨by omega,fun x hx => ?_⟩
  rcases AH.mp hx with rfl |hx
  ·omega
  ·exact h2 x hx
theorem Yq:∀ (l:List (Int×List Int)) (b:Int×List Int),l.foldl WH b∈b::l
 |[],b=>AK
 |y::l,b=>by
  rw [Bn]
  have:=Yq l (WH b y)
  unfold WH at this ⊢
  split at this
  ·rename_i h
   rw [AI h]
   exact AG _ this
  ·rename_i h
   rw [AQ h]
   rcases AH.mp this with e |e
   ·rw [e];exact AK
   ·exact AG _ (AG _ e)
theorem jB {l:List (Int×List Int)} {b:Int×List Int} (h:Wz l=some b):b∈l:=by
 cases l with
 |nil=>cases h
 |cons x l=>cases h;exact Yq l x
theorem qD3 {l:List (Int×List Int)} {x:Int×List Int} (h:x∈l):∃ b,Wz l=some b∧b.1≤x.1:=by
 cases l with
 |nil=>cases h
 |cons y l =>
  refine ⟨_,rfl,?_⟩
  rcases AH.mp h with rfl |h
  ·exact (YW l x).1
  ·exact (YW l y).2 x h
theorem jE (o:Int×List Int) (os:List (Int×List Int)):∀ n,n≤os.length->(os.take n).foldl WH o=(o::os).getD (bst (btP ((o::os).map qb)) n) (0,[])
 |0,_=>rfl
 |n + 1,h=>by
  have ih:=jE o os n (by omega)
  have hn:n < os.length:=by omega
  have hb:=JV (btP ((o::os).map qb)) n
  have hg:∀ i,i < (o::os).length->((o::os).map qb).getD i .non=qb ((o::os).getD i (0,[])):=fun i hi=>by
   rw [AF,Ah,AD hi,AF,AD hi];rfl
  rw [BN hn,List.foldl_append,ih]
  have e2:(o::os).getD (n + 1) (0,[])=os[n]:=by rw [List.getD_cons_succ,AF,AD hn];rfl
  show WH ((o::os).getD (bst (btP ((o::os).map qb)) n) (0,[])) os[n]=(o::os).getD (if btP ((o::os).map qb) (n + 1) (bst (btP ((o::os).map qb)) n)=true then n + 1 else bst (btP ((o::os).map qb)) n) (0,[])
  have eb:btP ((o::os).map qb) (n + 1) (bst (btP ((o::os).map qb)) n)=ltB os[n] ((o::os).getD (bst (btP ((o::os).map qb)) n) (0,[])):=by
   unfold ltB
   show (plt (((o::os).map qb).getD (n + 1) .non) (((o::os).map qb).getD (bst (btP ((o::os).map qb)) n) .non)==some true)=_
   rw [hg (n + 1) (by rw [AO];omega),hg _ (by rw [AO];omega),e2]
  rw [eb]
  unfold WH
  split
  ·exact e2.symm
  ·rfl
theorem yd:∀ l:List (Int×List Int),nrs (l.map qb)=true
 |[]=>rfl
 |x::l=>by
  have h:∀ u:List Int,nrs (u.map PV.int)=true:=fun u=>by
   induction u with
   |nil=>rfl
   |cons y u ih=>rw [AN,nrs,ih];rfl
  rw [AN,nrs,yd l,Bool.and_true]
  show nr (.tup [.int x.1,.tup (x.2.map PV.int)])=true
  simp [nr,nrs,h]
theorem Z8:∀ u:List Int,deps (u.map PV.int)=0
 |[]=>rfl
 |x::u=>by rw [AN,deps,Z8 u];rfl
theorem qCF (x:Int×List Int):dep (qb x)=2:=by
 show dep (.tup [.int x.1,.tup (x.2.map PV.int)])=2
 simp [dep,deps,Z8]
theorem yF:∀ l:List (Int×List Int),deps (l.map qb)≤2
 |[]=>BJ _
 |x::l=>by
  rw [AN,deps,qCF]
  have:=yF l
  omega
theorem qEn {os:List (Int×List Int)} {S:qB}:J5 (.lst (os.map qb)) S = .ok (lnP (Wz os)) S:=by
 unfold J5
 simp only [asL]
 rw [AI ⟨yd os,AS (yF os) (by decide),by
  unfold qAK
  rw [Ao]
  intro p hp
  rw [Ao]
  intro q hq
  obtain ⟨x,_,rfl⟩:=AX.mp hp
  obtain ⟨y,_,rfl⟩:=AX.mp hq
  obtain ⟨r,hr,_⟩:=yH x y
  rw [hr];rfl⟩]
 cases os with
 |nil=>rfl
 |cons o os =>
  show Rs.ok (((o::os).map qb).getD (bst (btP ((o::os).map qb)) (os.map qb).length) .non) S = .ok (qb (os.foldl WH o)) S
  have h:=jE o os os.length (AL _)
  rw [CD] at h
  have hb:=JV (btP ((o::os).map qb)) os.length
  rw [AE,h,AF,Ah,AD (by rw [AO];omega),AF,AD (by rw [AO];omega)]
  rfl
theorem ze {caps:List Nat} {n:Nat} {fi:FI} {g:FG} {t:FT} {f:FE} {r:qo} {st:qB} {w:ItP} {c:PV->Bool} {F:PV->PV} (hfi:fi r st = .ok w st) (hG:w.G st) (hl:w.l.length≤sizeLine)
  (h:∀ p∈w.l,∃ r',g p (Ws caps n r)=some r'∧t r' st = .ok (c p) st∧(c p=true->f r' st = .ok (F p) st)):ql caps n fi g [t] [] f r st = .ok ((w.l.filter c).map F) st:=by
 unfold ql
 rw [hfi]
 show (match qZ w.G (QD ⟨fi,g,[t]⟩ (QL [] f) (Ws caps n r)) w.l st with | .ok l s'=>if l.length≤sizeLine then Rs.ok l s' else Rs.no |_=>Rs.no)=_
 rw [W1 (F:=fun p=>if c p=true then [F p] else []) hG fun p hp=>by
  obtain ⟨r',h1,h2,h3⟩:=h p hp
  unfold QD
  show (match g p (Ws caps n r) with |none=>_ |some r'=>_)=_
  rw [h1]
  show (Qx [t] r' st).bind _=_
  unfold Qx Qx
  rw [h2]
  cases hc:c p
  ·rfl
  ·show (QL [] f) r' st=_
   unfold QL
   rw [h3 hc];rfl]
 have e:∀ l:List PV,l.flatMap (fun p=>if c p=true then [F p] else [])=(l.filter c).map F:=fun l=>by
  induction l with
  |nil=>rfl
  |cons p l ih =>
   rw [List.flatMap_cons,ih,Bf]
   cases c p <;> rfl
 rw [e]
 dsimp only
 rw [AI (by rw [AE];exact AS (List.length_filter_le _ _) hl)]
theorem mid {s:qB} {x:SO} {g:qB} {n:Nat} (hn:n=s.length):(s++x::g)[n]? = some x:=by subst hn;rw [Az (AL _),Nat.sub_self];rfl
theorem J6 {s:qB} {x y:SO} {g:qB} {n:Nat} (hn:n=s.length):(s++x::g).set n y=s++y::g:=by subst hn;rw [List.set_append_right _ _ (AL _),Nat.sub_self];rfl
theorem Yk {l:List PV} {i:Nat} {p:PV} (h:l[i]? = some p):L2.atI l (i:Int)=some p:=by
 have hi:=(Aa.mp h).1
 unfold L2.atI L2.ixN
 rw [AI (by omega),AI (by omega)]
 show l[((i:Int)).toNat]? = _
 rw [Av];exact h
def opF (L:List Ln) (m:Nat) (S:List (Int×Int)):List (Int×List Int):=(S.filter fun s=>decide (s.1≤(m:Int))).filterMap fun s=>match L.getD (m - s.1.toNat) none with
 |some p=>some (s.2 + p.1,s.1::p.2)
 |none=>none
def qE (S:List (Int×Int)):Nat->List Ln
 |0=>[some (0,[])]
 |m + 1=>qE S m++[Wz (opF (qE S m) (m + 1) S)]
theorem QA (S:List (Int×Int)):∀ m,(qE S m).length=m + 1
 |0=>rfl
 |m + 1=>by unfold qE;rw [Af,QA S m];rfl
structure Hs (S:List (Int×Int)):Prop where
 hi:S.length≤4
 b:∀ s∈S,1≤s.1∧s.1≤9
theorem Srt.hs {S:List (Int×Int)} (R:Srt S):Hs S:=⟨R.hi,fun s hs=>⟨(R.b s hs).1,(R.b s hs).2.1⟩⟩
theorem qBJ {L:List Ln} {m:Nat} {S:List (Int×Int)} {x:Int×List Int} (h:x∈opF L m S):∃ s p,s∈S∧s.1≤(m:Int)∧L.getD (m - s.1.toNat) none=some p∧x=(s.2 + p.1,s.1::p.2):=by
 unfold opF at h
 obtain ⟨s,hs,e⟩:=Bj.mp h
 obtain ⟨h1,h2⟩:=A0.mp hs
 split at e
 ·rename_i p hp
  cases e
  exact ⟨s,p,h1,A7 h2,hp,rfl⟩
 ·cases e
theorem qFS {L:List Ln} {m:Nat} {S:List (Int×Int)} {s:Int×Int} {p:Int×List Int} (h1:s∈S) (h2:s.1≤(m:Int)) (h3:L.getD (m - s.1.toNat) none=some p):(s.2 + p.1,s.1::p.2)∈opF L m S:=by
 unfold opF
 exact Bj.mpr ⟨s,A0.mpr ⟨h1,AV h2⟩,by rw [h3]⟩
theorem WI {S:List (Int×Int)} (H:Hs S):∀ (m i:Nat) (p:Int×List Int),(qE S m).getD i none=some p->p.2.length≤i
 |0,i,p,h=>by
  cases i with
  |zero=>cases h;exact AL _
  |succ i=>cases h
 |m + 1,i,p,h=>by
  unfold qE at h
  rw [AF] at h
  by_cases hi:i < (qE S m).length
  ·rw [Ac hi,← AF] at h
   exact WI H m i p h
  ·rw [Az (by omega)] at h
   have hl:=QA S m
   by_cases h0:i - (qE S m).length=0
   ·rw [h0] at h
    have h:Wz (opF (qE S m) (m + 1) S)=some p:=h
    obtain ⟨s,q,h1,h2,h3,rfl⟩:=qBJ (jB h)
    have:=WI H m _ q h3
    have:=H.b s h1
    show (s.1::q.2).length≤i
    rw [AO]
    omega
   ·obtain ⟨k,hk⟩:=Nat.exists_eq_succ_of_ne_zero h0
    rw [hk] at h
    cases h
def frP (L:List Ln) (m:Nat):PV->PV
 | .tup [.int l,.int p] => .tup [.int l,.int p,lnP (L.getD (m - l.toNat) none)]
 |_ => .non
def frC (m:Nat):PV->Bool
 | .tup [.int l,.int _]=>decide (l≤(m:Int))
 |_=>false
def opP:PV->PV
 | .tup [.int l,.int p,.tup [.int q,.tup t]] => .tup [.int (p + q),.tup (.int l::t)]
 |_ => .non
def opC:PV->Bool
 | .tup [_,_,.non]=>false
 |_=>true
theorem qBP (L:List Ln) (m:Nat):∀ S:List (Int×Int),(((((S.map QE).filter (frC m)).map (frP L m)).filter opC).map opP)=(opF L m S).map qb
 |[]=>rfl
 |s::S=>by
  have ih:=qBP L m S
  unfold opF at ih ⊢
  rw [AN,Bf,Bf]
  have e:frC m (QE s)=decide (s.1≤(m:Int)):=rfl
  rw [e]
  cases decide (s.1≤(m:Int)) with
  |false=>exact ih
  |true =>
   rw [AI rfl,AI rfl,AN,Bf]
   have e2:frP L m (QE s) = .tup [.int s.1,.int s.2,lnP (L.getD (m - s.1.toNat) none)]:=rfl
   rw [e2,BH]
   cases L.getD (m - s.1.toNat) none with
   |none=>exact ih
   |some p =>
    show opP (.tup [.int s.1,.int s.2,qb p])::_=qb (s.2 + p.1,s.1::p.2)::_
    rw [ih]
    rfl
section
variable {S:List (Int×Int)} {st:qB} {m:Nat}
abbrev lnS (st:qB) (S:List (Int×Int)) (m:Nat):qB:=st++[.l ((qE S m).map lnP)]
theorem qGl {i:Nat} (hi:i≤m):gIx (.ref st.length) (.int (i:Int)) (lnS st S m) = .ok (lnP ((qE S m).getD i none)) (lnS st S m):=by
 have hl:i < (qE S m).length:=by rw [QA];omega
 exact qAy (J4 (mid rfl)) (Yk (by rw [Ah,AD hl,AF,AD hl];rfl))
theorem qBB (H:Hs S) {x4 x5 x1:Option PV}:vFz (ql [2,3] 2 (qq (qC 0)) (wk 2 (qe (qk 2) (qe (qk 3) w5))) [(vTB (qJ gLe (qC 2) (qC 1)))] [] (w9 (qA (qC 2) (qA (qC 3) (qA (qJ gIx (qC 0) (qJ za (qC 1) (qC 2))) qD))))) [some (sP S),x1,some (.ref st.length),some (.int ((m + 1:Nat):Int)),x4,x5] (lnS st S m) = .ok (.lst (((S.map QE).filter (frC (m + 1))).map (frP (qE S m) (m + 1)))) (lnS st S m):=by
 refine WT (ze (w:=⟨S.map QE,fun _=>True⟩) (c:=frC (m + 1)) (F:=frP (qE S m) (m + 1)) rfl trivial (by rw [AE];exact AS H.hi (by decide)) fun p hp => ?_)
 obtain ⟨s,hs,rfl⟩:=AX.mp hp
 have hb:=H.b s hs
 refine ⟨[some (.ref st.length),some (.int ((m + 1:Nat):Int)),some (.int s.1),some (.int s.2)],rfl,w4 (qP rfl rfl qAb),fun hc => ?_⟩
 have hc:decide (s.1≤((m + 1:Nat):Int))=true:=hc
 have hc:=A7 hc
 have e1:((m + 1:Nat):Int) - s.1=((m + 1 - s.1.toNat:Nat):Int):=by omega
 exact Zz (qO rfl (qO rfl (qO (qP rfl (qP rfl rfl (by rw [ZJ,e1])) (qGl (by omega))) qf))) (sz rfl)
theorem qDS (H:Hs S) {x0 x1 x2 x3 x5:Option PV} (hm:m≤300):vFz (ql [] 3 (qq (qC 4)) (wk 3 (qe (qk 0) (qe (qk 1) (qe (qk 2) w5)))) [(vTB (qJ (WM true) (qC 2) (vC .non)))] [] (w9 (qA (qJ QN (qC 1) (qJ gIx (qC 2) (vC (.int 0)))) (qA (qJ Wq (w9 (qA (qC 0) qD)) (qJ gIx (qC 2) (vC (.int 1)))) qD)))) [x0,x1,x2,x3,some (.lst (((S.map QE).filter (frC (m + 1))).map (frP (qE S m) (m + 1)))),x5] (lnS st S m) = .ok (.lst ((opF (qE S m) (m + 1) S).map qb)) (lnS st S m):=by
 rw [← qBP]
 refine WT (ze (w:=⟨((S.map QE).filter (frC (m + 1))).map (frP (qE S m) (m + 1)),fun _=>True⟩) (c:=opC) (F:=opP) rfl trivial (by rw [AE];exact AS (List.length_filter_le _ _) (by rw [AE];exact AS H.hi (by decide))) fun p hp => ?_)
 obtain ⟨q,hq,rfl⟩:=AX.mp hp
 obtain ⟨s,hs,rfl⟩:=AX.mp (A0.mp hq).1
 cases hL:(qE S m).getD (m + 1 - s.1.toNat) none with
 |none =>
  have e:frP (qE S m) (m + 1) (QE s) = .tup [.int s.1,.int s.2,.non]:=by show PV.tup [.int s.1,.int s.2,lnP ((qE S m).getD (m + 1 - s.1.toNat) none)]=_;rw [hL];rfl
  rw [e]
  exact ⟨[some (.int s.1),some (.int s.2),some .non],rfl,rfl,fun z=>by cases z⟩
 |some p =>
  have e:frP (qE S m) (m + 1) (QE s) = .tup [.int s.1,.int s.2,.tup [.int p.1,.tup (p.2.map PV.int)]]:=by show PV.tup [.int s.1,.int s.2,lnP ((qE S m).getD (m + 1 - s.1.toNat) none)]=_;rw [hL];rfl
  rw [e]
  have hp2:=WI H m _ p hL
  refine ⟨[some (.int s.1),some (.int s.2),some (.tup [.int p.1,.tup (p.2.map PV.int)])],rfl,rfl,fun _ => ?_⟩
  have hcat:Wq (.tup [.int s.1]) (.tup (p.2.map PV.int)) (lnS st S m) = .ok (.tup (.int s.1::p.2.map PV.int)) (lnS st S m):=by
   unfold Wq
   dsimp only
   rw [AI (by rw [AE];show 1 + p.2.length≤sizeLine;exact AS (show 1 + p.2.length≤400 by omega) (by decide))]
   rfl
  exact Zz (qO (qP rfl (qP (p := .tup [.int p.1,.tup (p.2.map PV.int)]) (q := .int 0) rfl rfl rfl) zn) (qO (qP (p := .tup [.int s.1]) rfl (qP (p := .tup [.int p.1,.tup (p.2.map PV.int)]) (q := .int 1) rfl rfl rfl) hcat) qf)) (sz rfl)
def clB:FS:=(qV (qp 4 (vFz (ql [2,3] 2 (qq (qC 0)) (wk 2 (qe (qk 2) (qe (qk 3) w5))) [(vTB (qJ gLe (qC 2) (qC 1)))] [] (w9 (qA (qC 2) (qA (qC 3) (qA (qJ gIx (qC 0) (qJ za (qC 1) (qC 2))) qD))))))) (qV (qp 5 (vFz (ql [] 3 (qq (qC 4)) (wk 3 (qe (qk 0) (qe (qk 1) (qe (qk 2) w5)))) [(vTB (qJ (WM true) (qC 2) (vC .non)))] [] (w9 (qA (qJ QN (qC 1) (qJ gIx (qC 2) (vC (.int 0)))) (qA (qJ Wq (w9 (qA (qC 0) qD)) (qJ gIx (qC 2) (vC (.int 1)))) qD)))))) (wy (qC 2) (Y2 (qC 5)))))
theorem qAL (H:Hs S) {x1:Option PV}:∀ (k m:Nat) (x3 x4 x5:Option PV),m + k≤200 -> ∃ y3 y4 y5,Qg (fun _=>True) (wV 3) clB (ofN ((List.range k).map fun i=>m + 1 + i)) [some (sP S),x1,some (.ref st.length),x3,x4,x5] (lnS st S m) = .nx [some (sP S),x1,some (.ref st.length),y3,y4,y5] (lnS st S (m + k))
 |0,m,x3,x4,x5,_=>⟨x3,x4,x5,Wi trivial⟩
 |k + 1,m,x3,x4,x5,h=>by
  obtain ⟨y3,y4,y5,e⟩:=qAL H (x1:=x1) k (m + 1) (some (.int ((m + 1:Nat):Int))) (some (.lst (((S.map QE).filter (frC (m + 1))).map (frP (qE S m) (m + 1))))) (some (.lst ((opF (qE S m) (m + 1) S).map qb))) (by omega)
  have er:(List.range (k + 1)).map (fun i=>m + 1 + i)=(m + 1)::(List.range k).map fun i=>m + 1 + 1 + i:=by
   rw [Bh,AN,Ak]
   refine List.cons_eq_cons.mpr ⟨rfl,Ay fun i _ => ?_⟩
   show m + 1 + (i + 1)=m + 1 + 1 + i
   omega
  rw [er,show m + (k + 1)=m + 1 + k by omega]
  refine ⟨y3,y4,y5,YG (p := .int ((m + 1:Nat):Int)) trivial rfl ?_ e⟩
  refine qa (Qw (qBB H)) (qa (Qw (qDS H (by omega))) ?_)
  have hm:Y2 (qC 5) [some (sP S),x1,some (.ref st.length),some (.int ((m + 1:Nat):Int)),some (.lst (((S.map QE).filter (frC (m + 1))).map (frP (qE S m) (m + 1)))),some (.lst ((opF (qE S m) (m + 1) S).map qb))] (lnS st S m) = .ok (lnP (Wz (opF (qE S m) (m + 1) S))) (lnS st S m):=qEn
  have ea:=jK (n:=st.length) (l:=(qE S m).map lnP) (fo:=qC 2) (f:=Y2 (qC 5)) (r:=[some (sP S),x1,some (.ref st.length),some (.int ((m + 1:Nat):Int)),some (.lst (((S.map QE).filter (frC (m + 1))).map (frP (qE S m) (m + 1)))),some (.lst ((opF (qE S m) (m + 1) S).map qb))]) (st:=lnS st S m) rfl (qGZ (mid rfl)) hm (mid rfl) (by rw [AE,QA];exact Am (show m + 1 < 300 by omega) (by decide))
  rw [J6 rfl] at ea
  have el:(qE S m).map lnP++[lnP (Wz (opF (qE S m) (m + 1) S))]=(qE S (m + 1)).map lnP:=by
   show _=(qE S m++[Wz (opF (qE S m) (m + 1) S)]).map lnP
   rw [BF];rfl
  rw [el] at ea
  exact ea
end
theorem Wv {a:Ad} {S:List (Int×Int)} {c:Nat} {st:qB} (H:Hs S) (hc:c≤200):Qu a [sP S,.int (c:Int)] st = .ok (.ref st.length) (lnS st S c):=by
 obtain ⟨y3,y4,y5,e⟩:=qAL (st:=st) H (x1:=some (.int (c:Int))) c 0 none none none (by omega)
 refine QX rfl ?_
 unfold wM
 refine qa (qCb (l:=[qb (0,[])]) (s1:=st) (qEA (qO (Zz (qO rfl (qO (Zz qf (sz rfl)) qf)) (sz rfl)) qf) (sz rfl))) ?_
 rw [show (0 + c)=c from Nat.zero_add c] at e
 refine qa (Jy (w:=⟨ofN ((List.range (c + 1 - 1)).map fun i=>1 + i),fun _=>True⟩) (j5 (n:=1) (m:=c + 1) (by omega) (by omega) (qO rfl (qO (qP rfl rfl zn) qf))) ?_) (wD (p := .ref st.length) (s1:=lnS st S c) (r:=[some (sP S),some (.int (c:Int)),some (.ref st.length),y3,y4,y5]) rfl)
 rw [B1]
 rw [show ((List.range c).map fun i=>1 + i)=(List.range c).map fun i=>0 + 1 + i from Ay fun i _=>by omega]
 exact e
theorem qAI {l:List PV} {n:Nat} {p:PV} (hl:l.length=n + 1) (h:l[n]? = some p):L2.atI l (-1)=some p:=by
 unfold L2.atI L2.ixN
 rw [AQ (by decide),AI (by omega)]
 show l[((-1:Int) + (l.length:Int)).toNat]? = _
 rw [show ((-1:Int) + (l.length:Int)).toNat=n by omega];exact h
theorem zJ:∀ l:List Int,QH yT (l.map PV.int)=some l
 |[]=>rfl
 |p::l=>by simp only [AN,QH,yT,zJ l]
def lnC:PV->Bool
 | .non=>false
 |_=>true
def prP:PV->PV
 | .tup [.int p,_] => .int p
 |_ => .non
def Qh (L:List Ln):List Int:=L.filterMap fun ln=>ln.map (·.1)
def htF (D:Int) (L:List Ln):List Int:=L.map fun ln=>match ln with |none=>D |some p=>p.1
theorem JB:∀ L:List Ln,((L.map lnP).filter lnC).map prP=(Qh L).map PV.int
 |[]=>rfl
 |none::L=>by
  have:=JB L
  unfold Qh at this ⊢
  rw [AN,Bf,BH]
  exact this
 |some p::L=>by
  have:=JB L
  unfold Qh at this ⊢
  rw [AN,Bf,BH]
  show prP (qb p)::_=PV.int p.1::_
  rw [this]
  rfl
theorem qFA {l:List Int} (h:l≠[]):∃ d,l.max? = some d ∧ ∀ x∈l,x≤d:=by
 cases l with
 |nil=>exact absurd rfl h
 |cons y l =>
  refine ⟨l.foldl max y,rfl,?_⟩
  have go:∀ (l:List Int) (y:Int),y≤l.foldl max y ∧ ∀ x∈l,x≤l.foldl max y:=fun l=>by
   induction l with
   |nil=>exact fun y=>⟨BK _,fun x hx=>(Aj hx).elim⟩
   |cons z l ih =>
    intro y
    obtain ⟨h1,h2⟩:=ih (max y z)
    rw [Bn]
    have e1:y≤max y z:=Int.le_max_left y z
    have e2:z≤max y z:=Int.le_max_right y z
    refine ⟨by omega,fun x hx => ?_⟩
    rcases AH.mp hx with rfl |hx
    ·omega
    ·exact h2 x hx
  intro x hx
  rcases AH.mp hx with rfl |hx
  ·exact (go l x).1
  ·exact (go l y).2 x hx
def ww (hs:List Int) (c:Nat):List Int:=(List.range c).map fun i=>hs.getD (i + 1) 0 - hs.getD i 0
section
variable {S:List (Int×Int)} {st:qB} {c:Nat}
theorem y9:gIx (.ref st.length) (.int (-1)) (lnS st S c) = .ok (lnP ((qE S c).getD c none)) (lnS st S c):=by
 have hl:c < (qE S c).length:=by rw [QA];omega
 exact qAy (J4 (mid rfl)) (qAI (n:=c) (by rw [AE,QA]) (by rw [Ah,AD hl,AF,AD hl];rfl))
theorem isn (ln:Ln) {s:qB}:WM false (lnP ln) .non s = .ok (.bl ln.isNone) s:=by cases ln <;> rfl
theorem qGz (ln:Ln) {s:qB}:WM true (lnP ln) .non s = .ok (.bl ln.isSome) s:=by cases ln <;> rfl
theorem qBR (ln:Ln):lnC (lnP ln)=ln.isSome:=by cases ln <;> rfl
theorem JT {a:Ad} (R:Srt S) (hc:c≤200) (h:(qE S c).getD c none=none):wg a [sP S,.int (c:Int)] st = .ok .non (lnS st S c):=by
 refine QX rfl ?_
 unfold wf
 refine qa (ZP (qK (l:=[sP S,.int (c:Int)]) rfl (zx R hc))) (qa (Qw (qK (l:=[sP S,.int (c:Int)]) rfl (Wv R.hs hc))) ?_)
 refine zt (Yj (w4 (qP (qP rfl rfl y9) rfl ?_)) (wD rfl))
 rw [isn,h];rfl
theorem Ja {p:Int×List Int} (h:(qE S c).getD c none=some p):∃ D,(Qh (qE S c)).max? = some D ∧ ∀ x∈Qh (qE S c),x≤D:=by
 have hne:Qh (qE S c)≠[]:=by
  intro z
  have hm:p.1∈Qh (qE S c):=by
   unfold Qh
   refine Bj.mpr ⟨some p,?_,rfl⟩
   rw [AF] at h
   have hl:c < (qE S c).length:=by rw [QA];omega
   rw [AD hl] at h
   have h:(qE S c)[c]=some p:=h
   rw [← h];exact BO hl
  rw [z] at hm
  cases hm
 exact qFA hne
theorem JP {a:Ad} (R:Srt S) (hc:c≤200) {p:Int×List Int} {D:Int} (h:(qE S c).getD c none=some p) (hD1:(Qh (qE S c)).max? = some D):wg a [sP S,.int (c:Int)] st = .ok (.tup ((ww (htF D (qE S c)) c).map PV.int)) (lnS st S c):=by
 refine QX rfl ?_
 have hlen:((qE S c).map lnP).length≤sizeLine:=by rw [AE,QA];exact AS (show c + 1≤300 by omega) (by decide)
 unfold wf
 refine qa (ZP (qK (l:=[sP S,.int (c:Int)]) rfl (zx R hc))) (qa (Qw (qK (l:=[sP S,.int (c:Int)]) rfl (Wv R.hs hc))) ?_)
 refine qa (Q5 (w4 (qP (qP rfl rfl y9) rfl (by rw [isn,h];rfl))) rfl) ?_
 refine qa (Qw (p := .int D) (s1:=lnS st S c) (qK (l:=[.lst ((Qh (qE S c)).map PV.int)]) (s1:=lnS st S c) (qO (WT ?_) qf) ?_)) ?_
 ·rw [← JB]
  refine ze (w:=⟨(qE S c).map lnP,fun s=>s[st.length]? = some (.l ((qE S c).map lnP))⟩) (c:=lnC) (F:=prP) (Z0 rfl (mid rfl)) (mid rfl) hlen fun q hq => ?_
  obtain ⟨ln,_,rfl⟩:=AX.mp hq
  refine ⟨[some (lnP ln)],rfl,w4 (qP rfl rfl (by rw [qGz,qBR])),fun z => ?_⟩
  rw [qBR] at z
  cases ln with
  |none=>cases z
  |some x=>rfl
 ·unfold Jj
  simp only [asL]
  rw [zJ]
  dsimp only
  rw [hD1]
 ·refine qa (Qw (p := .lst ((htF D (qE S c)).map PV.int)) (s1:=lnS st S c) (WT ?_)) ?_
  ·let F:PV->PV:=fun q=>match q with | .tup [.int x,_] => .int x |_ => .int D
   have e:((qE S c).map lnP).map F=(htF D (qE S c)).map PV.int:=by
    unfold htF
    rw [Ak,Ak]
    refine Ay fun ln _ => ?_
    cases ln <;> rfl
   rw [← e]
   refine QS (w:=⟨(qE S c).map lnP,fun s=>s[st.length]? = some (.l ((qE S c).map lnP))⟩) (F:=F) (Z0 rfl (mid rfl)) (mid rfl) hlen fun q hq => ?_
   obtain ⟨ln,_,rfl⟩:=AX.mp hq
   refine ⟨[some (.int D),some (lnP ln)],rfl,?_⟩
   cases ln with
   |none=>exact qDc (w4 (qP rfl rfl rfl)) rfl
   |some x=>exact qCz (w4 (qP rfl rfl rfl)) rfl
  ·have hhl:(htF D (qE S c)).length=c + 1:=by unfold htF;rw [AE,QA]
   refine wD (qK (l:=[.lst ((ww (htF D (qE S c)) c).map PV.int)]) (s1:=lnS st S c) (qO (WT ?_) qf) (Ze rfl))
   let F:PV->PV:=fun q=>match q with | .int t => .int ((htF D (qE S c)).getD (t.toNat + 1) 0 - (htF D (qE S c)).getD t.toNat 0) |_ => .non
   have e:((WO (c:Int)).map PV.int).map F=(ww (htF D (qE S c)) c).map PV.int:=by
    unfold ww WO
    rw [Av,Ak,Ak,Ak]
    refine Ay fun i _ => ?_
    show PV.int ((htF D (qE S c)).getD (((i:Int)).toNat + 1) 0 - (htF D (qE S c)).getD ((i:Int)).toNat 0)=_
    rw [Av]
    rfl
   rw [← e]
   refine QS (w:=⟨(WO (c:Int)).map PV.int,fun _=>True⟩) (F:=F) (itN (by omega) (by omega) rfl) trivial (by rw [AE,W2];exact AS (show ((c:Int)).toNat≤300 by omega) (by decide)) fun q hq => ?_
   obtain ⟨k,hk,rfl⟩:=AX.mp hq
   have hk:=upto_mem.mp hk
   refine ⟨[some (.lst ((htF D (qE S c)).map PV.int)),some (.int k)],rfl,?_⟩
   have e1:=Zt (l:=htF D (qE S c)) (L:=((c + 1:Nat):Int)) (i:=k + 1) (st:=lnS st S c) (by rw [hhl];omega) (by omega) (by omega)
   have e2:=Zt (l:=htF D (qE S c)) (L:=((c + 1:Nat):Int)) (i:=k) (st:=lnS st S c) (by rw [hhl];omega) (by omega) (by omega)
   refine qP (qP rfl (qP rfl rfl zn) e1) (qP rfl rfl e2) ?_
   rw [ZJ,show (k + 1).toNat=k.toNat + 1 by omega]
end
def lnF (S:List (Int×Int)) (i:Nat):Ln:=(qE S i).getD i none
theorem wq (S:List (Int×Int)):∀ (c i:Nat),i≤c->(qE S c).getD i none=lnF S i
 |0,i,h=>by
  have:i=0:=by omega
  subst this;rfl
 |c + 1,i,h=>by
  by_cases e:i=c + 1
  ·subst e;rfl
  ·have hl:i < (qE S c).length:=by rw [QA];omega
   rw [← wq S c i (by omega)]
   show (qE S c++[Wz (opF (qE S c) (c + 1) S)]).getD i none=_
   rw [AF,Ac hl,AF]
theorem qAE (S:List (Int×Int)) (m:Nat):lnF S (m + 1)=Wz (opF (qE S m) (m + 1) S):=by
 show (qE S m++[Wz (opF (qE S m) (m + 1) S)]).getD (m + 1) none=_
 rw [AF,Az (by rw [QA];exact AL _),QA,Nat.sub_self]
 rfl
theorem zf {S:List (Int×Int)} (H:Hs S) {s:Int×Int} (hs:s∈S) {m:Nat} (hm:s.1≤(m:Int)) {p:Int×List Int} (hp:lnF S (m - s.1.toNat)=some p):∃ b,lnF S m=some b∧b.1≤s.2 + p.1:=by
 have hb:=H.b s hs
 cases m with
 |zero=>omega
 |succ m =>
  rw [qAE]
  exact qD3 (qFS hs hm (by rw [wq S m _ (by omega)];exact hp))
def ht (D:Int):Ln->Int
 |none=>D
 |some p=>p.1
theorem Jw {S:List (Int×Int)} {D:Int} {c i:Nat} (h:i≤c):(htF D (qE S c)).getD i 0=ht D (lnF S i):=by
 have hl:i < (qE S c).length:=by rw [QA];omega
 have e:=wq S c i h
 rw [AF,AD hl] at e
 have e:(qE S c)[i]=lnF S i:=e
 unfold htF
 rw [AF,Ah,AD hl,← e]
 show (match (qE S c)[i] with |none=>D |some p=>p.1)=_
 cases (qE S c)[i] <;> rfl
theorem qF8 {S:List (Int×Int)} {D:Int} {c i:Nat} (h:i≤c) (hD:∀ x∈Qh (qE S c),x≤D):ht D (lnF S i)≤D:=by
 have hl:i < (qE S c).length:=by rw [QA];omega
 have e:=wq S c i h
 rw [AF,AD hl] at e
 have e:(qE S c)[i]=lnF S i:=e
 cases hp:lnF S i with
 |none=>exact BK _
 |some p =>
  refine hD p.1 ?_
  unfold Qh
  exact Bj.mpr ⟨some p,by rw [← hp,← e];exact BO hl,rfl⟩
theorem qDB {S:List (Int×Int)} (R:Srt S) {D:Int} {c:Nat} (hD:∀ x∈Qh (qE S c),x≤D) {s:Int×Int} (hs:s∈S) {m:Nat} (h1:s.1≤(m:Int)) (h2:m≤c):(htF D (qE S c)).getD m 0 - (htF D (qE S c)).getD (m - s.1.toNat) 0≤s.2:=by
 rw [Jw h2,Jw (by omega)]
 have hb:=R.b s hs
 cases hp:lnF S (m - s.1.toNat) with
 |none =>
  have:=qF8 (D:=D) h2 hD
  show ht D (lnF S m) - D≤s.2
  omega
 |some p =>
  obtain ⟨b,e1,e2⟩:=zf R.hs hs h1 hp
  rw [e1]
  show b.1 - p.1≤s.2
  omega
theorem qBH {i j:Int} {st:qB}:gNe (.int i) (.int j) st = .ok (.bl (!(i==j))) st:=rfl
def wh (c:Nat):PV->Bool
 | .tup l=>decide (l.length=c)&&l.all isInt
 |_=>false
theorem whs {a:Ad} {v:PV} {st:qB} {c:Nat} (h:okP v=true):wA a [v,.int (c:Int),.int (c:Int)] st = .ok (.bl (wh c v)) st:=by
 refine QX rfl (wD ?_)
 unfold Zu
 rw [qK (l:=[v,.ty "tuple"]) (s1:=st) rfl (Jp (yu h))]
 cases v with
 |tup l =>
  have h:(Nat.ble l.length 1000&&l.all zR)=true:=h
  rw [Ar,Ao] at h
  show (wI gLe gLe (qC 1) (qH WA (qA (qC 0) qD)) (qC 2) (QR 3 [.tup l,.int (c:Int),.int (c:Int)]) st).bind _=_
  rw [W7 (lo:=(c:Int)) (n:=l.length) (hi:=(c:Int)) rfl (qK rfl (yN rfl rfl)) rfl]
  by_cases q:l.length=c
  ·rw [show (decide ((c:Int)≤(l.length:Int))&&decide ((l.length:Int)≤(c:Int)))=true by rw [q,AV (BK _)];rfl]
   show qH Zr _ _ _=_
   refine qK (l:=[.lst (l.map fun p => .bl (isInt p))]) (qO (WT (QS (w:=⟨l,fun _=>True⟩) (F:=fun p => .bl (isInt p)) (Wj rfl) trivial (sz h.1) fun p hp=>⟨[some p],rfl,qK rfl (zW (h.2 p hp))⟩)) qf) ?_
   rw [YR]
   show _=Rs.ok (PV.bl (decide (l.length=c)&&l.all isInt)) st
   rw [AV q];rfl
  ·rw [show (decide ((c:Int)≤(l.length:Int))&&decide ((l.length:Int)≤(c:Int)))=false by
    rw [Bool.and_eq_false_iff]
    rcases Nat.lt_or_ge l.length c with z |z
    ·exact .inl (AY (by omega))
    ·exact .inr (AY (by omega))]
   show Rs.ok (PV.bl false) st=Rs.ok (PV.bl (decide (l.length=c)&&l.all isInt)) st
   rw [AY q];rfl
 |_=>rfl
def win (ns:List Int) (f L:Nat):Int:=((ns.drop f).take L).sum
def zd (ns:List Int) (c:Nat) (s:Int×Int):Bool:=(List.range (c + 1 - s.1.toNat)).any fun f=>decide (win ns f s.1.toNat > s.2)
theorem qDh {ns:List Int} {f L:Nat} (h:f + L≤ns.length):JO (ns.map PV.int) (some (f:Int)) (some ((f:Int) + (L:Int)))=((ns.drop f).take L).map PV.int:=by
 unfold JO
 rw [show ((f:Int) + (L:Int))=((f + L:Nat):Int) by omega,HT.sIx_nat,HT.sIx_nat,AE,show min f ns.length=f by omega,show min (f + L) ns.length=f + L by omega,show f + L - f=L by omega,← List.map_drop,← List.map_take]
theorem qFa {f:PV->Bool} {l:List PV} {st:qB}:JC [.lst (l.map fun p => .bl (f p))] st = .ok (.bl (l.any f)) st:=by
 unfold JC zk
 simp only [asL]
 rw [Z2]
 show Rs.ok (PV.bl ((l.map f).any id)) st=_
 rw [List.any_map]
 rfl
theorem YK {ns:List Int} {st:qB}:ZV [.tup (ns.map PV.int)] st = .ok (.int ns.sum) st:=by
 unfold ZV
 dsimp only
 rw [zJ]
theorem itZ {L:Int} {r:qo} {st s1:qB} {f:FA} (h1:-1000≤L) (h2:L≤1000) (hf:f r st = .ok [.int L] s1):(wb f) r st = .ok ⟨(WO L).map PV.int,fun _=>True⟩ s1:=by
 unfold wb
 rw [hf]
 show zy [.int L] s1=_
 unfold zy
 dsimp only
 rw [AI (by omega),jO]
def wF (ns:List Int) (s:Int×Int):PV->Bool
 | .int t=>decide (win ns t.toNat s.1.toNat > s.2)
 |_=>false
theorem qC3 {ns:List Int} {c:Nat} {s:Int×Int} (h1:1≤s.1):((WO ((c:Int) - s.1 + 1)).map PV.int).any (wF ns s)=zd ns c s:=by
 unfold WO zd
 rw [List.any_map,List.any_map,show ((c:Int) - s.1 + 1).toNat=c + 1 - s.1.toNat by omega]
 congr 1
def pC:FE:=(qH JC (qA (vFz (ql [4,2,3] 1 (wb (qA (qJ QN (qJ za (qC 1) (qC 3)) (vC (.int 1))) qD)) (qk 3) [] [] (qJ gGt (qH ZV (qA (qFf (qC 1) (ZQ (qC 3)) (ZQ (qJ QN (qC 3) (qC 2)))) qD)) (qC 0)))) qD))
theorem qGr {ns:List Int} {c:Nat} (hl:ns.length=c) (hc:c≤200) {s:Int×Int} (h1:1≤s.1) (h2:s.1≤9) {x0:Option PV} {st:qB}:pC [x0,some (.int (c:Int)),some (.tup (ns.map PV.int)),some (.int s.1),some (.int s.2)] st = .ok (.bl (zd ns c s)) st:=by
 rw [← qC3 h1]
 refine qK (l:=[.lst (((WO ((c:Int) - s.1 + 1)).map PV.int).map fun p => .bl (wF ns s p))]) (qO (WT (QS (w:=⟨(WO ((c:Int) - s.1 + 1)).map PV.int,fun _=>True⟩) (F:=fun p => .bl (wF ns s p)) (itZ (by omega) (by omega) (qO (qP (qP rfl rfl ZJ) rfl zn) qf)) trivial (by rw [AE,W2];exact AS (show ((c:Int) - s.1 + 1).toNat≤300 by omega) (by decide)) fun p hp => ?_)) qf) qFa
 obtain ⟨k,hk,rfl⟩:=AX.mp hp
 have hk:=upto_mem.mp hk
 obtain ⟨f,rfl⟩:∃ f:Nat,k=(f:Int):=⟨k.toNat,by omega⟩
 refine ⟨[some (.int s.2),some (.tup (ns.map PV.int)),some (.int s.1),some (.int (f:Int))],rfl,?_⟩
 have hs:((s.1.toNat:Nat):Int)=s.1:=by omega
 have hcut:=qDh (ns:=ns) (f:=f) (L:=s.1.toNat) (by omega)
 rw [hs] at hcut
 refine qP (p := .int (win ns f s.1.toNat)) (q := .int s.2) (qK (l:=[.tup (((ns.drop f).take s.1.toNat).map PV.int)]) (qO (by rw [← hcut];rfl) qf) YK) rfl ?_
 rw [qGE]
 show _=Rs.ok (PV.bl (decide (win ns (((f:Nat):Int)).toNat s.1.toNat > s.2))) st
 rw [Av]
theorem qAg {Gd:qB->Prop} {g:FG} {F:FS} {p v:PV} {ps:List PV} {r r1:qo} {st s2:qB} (h:Gd st) (h1:g p r=some r1) (h2:F r1 st = .rt v s2):Qg Gd g F (p::ps) r st = .rt v s2:=by
 unfold Qg
 rw [AI h,h1]
 dsimp only
 rw [h2]
def pB:FS:=(wX (QV pC) (qr (vC .non)) Q8)
theorem qCk {ns:List Int} {c:Nat} (hl:ns.length=c) (hc:c≤200) {x0:Option PV} {st:qB}:∀ (T:List (Int×Int)) (x3 x4:Option PV),(∀ s∈T,1≤s.1∧s.1≤9) ->
  ∃ y3 y4,Qg (fun _=>True) (wk 2 (qe (wV 3) (qe (wV 4) w5))) pB (T.map QE) [x0,some (.int (c:Int)),some (.tup (ns.map PV.int)),x3,x4] st=if T.any (zd ns c)=true then .rt .non st else .nx [x0,some (.int (c:Int)),some (.tup (ns.map PV.int)),y3,y4] st
 |[],x3,x4,_=>⟨x3,x4,Wi trivial⟩
 |s::T,x3,x4,h=>by
  obtain ⟨h1,h2⟩:=h s AK
  obtain ⟨y3,y4,e⟩:=qCk (x0:=x0) (st:=st) hl hc T (some (.int s.1)) (some (.int s.2)) fun q hq=>h q (AG _ hq)
  refine ⟨y3,y4,?_⟩
  have ec:=qGr hl hc h1 h2 (x0:=x0) (st:=st)
  rw [AN,List.any_cons]
  cases hb:zd ns c s with
  |true =>
   rw [hb] at ec
   rw [Bool.true_or,AI rfl]
   exact qAg (r1:=[x0,some (.int (c:Int)),some (.tup (ns.map PV.int)),some (.int s.1),some (.int s.2)]) trivial rfl (Yj (wc ec) rfl)
  |false =>
   rw [hb] at ec
   rw [Bool.false_or]
   exact YG (r1:=[x0,some (.int (c:Int)),some (.tup (ns.map PV.int)),some (.int s.1),some (.int s.2)]) trivial rfl (Q5 (wc ec) rfl) e
def pre (ns:List Int):List Int:=(List.range (ns.length + 1)).map fun i=>(ns.take i).sum
theorem ZM {ns:List Int} {i:Nat} (h:i≤ns.length):(pre ns).getD i 0=(ns.take i).sum:=by
 unfold pre
 rw [AF,Ah,List.getElem?_range (by omega)]
 rfl
theorem Jt {ns:List Int} {i L:Nat} (h:L + i≤ns.length):(pre ns).getD (L + i) 0 - (pre ns).getD i 0=win ns i L:=by
 rw [ZM h,ZM (by omega),Nat.add_comm L i,List.take_add,List.sum_append]
 unfold win
 omega
def shF (S:List (Int×Int)) (c:Nat) (ns:List Int):PV:=if S.any (zd ns c)=true then .non else .int ns.sum
theorem qCj {ns:List Int} {c:Nat} (hl:ns.length=c):(pre ns).getD c 0=ns.sum:=by
 rw [ZM (by omega),List.take_of_length_le (by omega)]
section
variable {a:Ad} {S:List (Int×Int)} {c:Nat} {st:qB}
theorem Y8 (R:Srt S) (hc:c≤200) {ns:List Int} (hl:ns.length=c):QG a [sP S,.int (c:Int),.tup (ns.map PV.int)] st = .ok (shF S c ns) st:=by
 have hk:okP (.tup (ns.map PV.int))=true:=by
  show (Nat.ble (ns.map PV.int).length 1000&&(ns.map PV.int).all zR)=true
  rw [AE,Nat.ble_eq_true_of_le (show ns.length≤1000 by omega),Bool.true_and,Ao]
  intro p hp
  obtain ⟨x,_,rfl⟩:=AX.mp hp
  rfl
 have hw:wh c (.tup (ns.map PV.int))=true:=by
  show (decide ((ns.map PV.int).length=c)&&(ns.map PV.int).all isInt)=true
  rw [AE,AV hl,Bool.true_and,Ao]
  intro p hp
  obtain ⟨x,_,rfl⟩:=AX.mp hp
  rfl
 obtain ⟨y3,y4,e⟩:=qCk hl hc (x0:=some (sP S)) (st:=st) S none none fun s hs=>⟨(R.b s hs).1,(R.b s hs).2.1⟩
 refine QX rfl ?_
 unfold Qy
 refine qa (ZP (qK (l:=[sP S,.int (c:Int)]) rfl (zx R hc))) (qa (Q5 (w_not (b:=true) (wc (qK (l:=[.tup (ns.map PV.int),.int (c:Int),.int (c:Int)]) rfl (by rw [whs hk,hw])))) rfl) ?_)
 have ef:zS (qq (qC 0)) (wk 2 (qe (wV 3) (qe (wV 4) w5))) pB [some (sP S),some (.int (c:Int)),some (.tup (ns.map PV.int)),none,none] st=_:=Jy (w:=⟨S.map QE,fun _=>True⟩) (Wj rfl) e
 unfold shF
 cases hb:S.any (zd ns c) with
 |true =>
  rw [hb,AI rfl] at ef
  rw [AI rfl]
  exact zt ef
 |false =>
  rw [hb,AQ (by decide)] at ef
  rw [AQ (by decide)]
  exact qa ef (wD (qK (l:=[.tup (ns.map PV.int)]) rfl YK))
end
theorem Yh {S:List (Int×Int)} (H:Hs S) {m:Nat} {b:Int×List Int} (h:lnF S (m + 1)=some b):∃ s p,s∈S∧1≤s.1∧s.1≤((m + 1:Nat):Int)∧lnF S (m + 1 - s.1.toNat)=some p∧b=(s.2 + p.1,s.1::p.2):=by
 rw [qAE] at h
 obtain ⟨s,p,h1,h2,h3,h4⟩:=qBJ (jB h)
 have:=(H.b s h1).1
 rw [wq S m _ (by omega)] at h3
 exact ⟨s,p,h1,this,h2,h3,h4⟩
theorem qCd {S:List (Int×Int)} (H:Hs S) {pr:Int->Int} (hp:∀ s∈S,pr s.1=s.2):∀ (n m:Nat),m≤n -> ∀ b,lnF S m=some b->b.2.sum=(m:Int)∧b.1=(b.2.map pr).sum ∧ ∀ l∈b.2,∃ s∈S,s.1=l
 |n,0,_,b,h=>by
  have:b=(0,[]):=(AZ (show some (0,[])=some b from h)).symm
  subst this
  exact ⟨rfl,rfl,fun l hl=>by cases hl⟩
 |0,m + 1,hm,_,_=>absurd hm (BZ _)
 |n + 1,m + 1,hm,b,h=>by
  obtain ⟨s,p,h1,h2,h3,h4,rfl⟩:=Yh H h
  obtain ⟨i1,i2,i3⟩:=qCd H hp n (m + 1 - s.1.toNat) (by omega) p h4
  refine ⟨?_,?_,fun l hl => ?_⟩
  ·show (s.1::p.2).sum=_
   rw [A2,i1];omega
  ·show s.2 + p.1=((s.1::p.2).map pr).sum
   rw [AN,A2,hp s h1,i2]
  ·rcases AH.mp hl with z |z
   ·exact ⟨s,h1,z.symm⟩
   ·exact i3 l z
theorem Jk {S:List (Int×Int)} (H:Hs S) {ns:List Int} {c:Nat} (hl:ns.length=c) (hw:∀ s∈S,zd ns c s=false):∀ (n m:Nat),m≤n->m≤c -> ∀ b,lnF S m=some b->(pre ns).getD m 0≤b.1
 |n,0,_,_,b,h=>by
  have:b=(0,[]):=(AZ (show some (0,[])=some b from h)).symm
  subst this
  rw [ZM (BJ _)];exact BK _
 |0,m + 1,hm,_,_,_=>absurd hm (BZ _)
 |n + 1,m + 1,hm,hc,b,h=>by
  obtain ⟨s,p,h1,h2,h3,h4,rfl⟩:=Yh H h
  have i:=Jk H hl hw n (m + 1 - s.1.toNat) (by omega) (by omega) p h4
  have w:=hw s h1
  unfold zd at w
  rw [List.any_eq_false] at w
  have w1:=w (m + 1 - s.1.toNat) (Bd.mpr (by omega))
  have w2:¬ win ns (m + 1 - s.1.toNat) s.1.toNat > s.2:=fun z=>w1 (AV z)
  have e:=Jt (ns:=ns) (i:=m + 1 - s.1.toNat) (L:=s.1.toNat) (by omega)
  rw [show s.1.toNat + (m + 1 - s.1.toNat)=m + 1 by omega] at e
  show _≤s.2 + p.1
  omega
theorem jC {S:List (Int×Int)} (H:Hs S):∀ (ds:List (Int×Int)),(∀ s∈ds,s∈S) -> ∃ (m:Nat) (b:Int×List Int),(ds.map (·.1)).sum=(m:Int)∧m≤9 * ds.length∧lnF S m=some b∧b.1≤(ds.map (·.2)).sum
 |[],_=>⟨0,(0,[]),rfl,AL _,rfl,BK _⟩
 |s::ds,h=>by
  obtain ⟨m,b,h1,h2,h3,h4⟩:=jC H ds fun x hx=>h x (AG _ hx)
  have hs:=h s AK
  obtain ⟨k1,k2⟩:=H.b s hs
  obtain ⟨b',e1,e2⟩:=zf H hs (m:=m + s.1.toNat) (p:=b) (by omega) (by rw [B1];exact h3)
  refine ⟨m + s.1.toNat,b',?_,by rw [AO];omega,e1,?_⟩
  ·rw [AN,A2,h1];omega
  ·rw [AN,A2];omega
theorem Jr {S M:List (Int×Int)} (H:Hs S) (HM:Hs M) (hs:∀ s∈S,s∈M):∀ (n m:Nat),m≤n -> ∀ b,lnF S m=some b -> ∃ q,lnF M m=some q∧q.1≤b.1
 |n,0,_,b,h=>⟨(0,[]),rfl,by
  have:b=(0,[]):=(AZ (show some (0,[])=some b from h)).symm
  subst this
  exact BK _⟩
 |0,m + 1,hm,_,_=>absurd hm (BZ _)
 |n + 1,m + 1,hm,b,h=>by
  obtain ⟨s,p,h1,h2,h3,h4,rfl⟩:=Yh H h
  obtain ⟨q,i1,i2⟩:=Jr H HM hs n (m + 1 - s.1.toNat) (by omega) p h4
  obtain ⟨b',e1,e2⟩:=zf HM (hs s h1) h3 i1
  exact ⟨b',e1,by show b'.1≤s.2 + p.1;omega⟩
def qCn (W:List Int) (m:Nat) (S:List (Int×Int)):Int:=((S.filter fun s=>decide (s.1≤(m:Int))).map fun s=>W.getD (m - s.1.toNat) 0).sum
def wyF (S:List (Int×Int)):Nat->List Int
 |0=>[1]
 |m + 1=>wyF S m++[qCn (wyF S m) (m + 1) S]
theorem W6 (S:List (Int×Int)):∀ m,(wyF S m).length=m + 1
 |0=>rfl
 |m + 1=>by unfold wyF;rw [Af,W6 S m];rfl
def way (S:List (Int×Int)) (i:Nat):Int:=(wyF S i).getD i 0
theorem qEJ (S:List (Int×Int)):∀ (c i:Nat),i≤c->(wyF S c).getD i 0=way S i
 |0,i,h=>by
  have:i=0:=by omega
  subst this;rfl
 |c + 1,i,h=>by
  by_cases e:i=c + 1
  ·subst e;rfl
  ·unfold wyF
   rw [AF,Ac (by rw [W6];omega),← AF]
   exact qEJ S c i (by omega)
theorem qCV (S:List (Int×Int)) (m:Nat):way S (m + 1)=qCn (wyF S m) (m + 1) S:=by
 unfold way
 show (wyF S m++[_]).getD (m + 1) 0=_
 rw [AF,Az (by rw [W6];exact AL _),W6,Nat.sub_self]
 rfl
def wsm (S T:List (Int×Int)) (m:Nat):Int:=((T.filter fun s=>decide (s.1≤(m:Int))).map fun s=>way S (m - s.1.toNat)).sum
theorem Zg {S:List (Int×Int)} (H:Hs S) (m:Nat):way S (m + 1)=wsm S S (m + 1):=by
 rw [qCV]
 unfold qCn wsm
 congr 1
 refine Ay fun s hs => ?_
 have h1:=(H.b s ((A0.mp hs).1)).1
 exact qEJ S m _ (by omega)
theorem YJ:∀ {l:List Int},(∀ x∈l,0≤x)->0≤l.sum∧(∀ x∈l,x≤l.sum)
 |[],_=>⟨BK _,fun x hx=>by cases hx⟩
 |a::l,h=>by
  obtain ⟨h1,h2⟩:=YJ fun x hx=>h x (AG _ hx)
  have ha:=h a AK
  rw [A2]
  refine ⟨by omega,fun x hx => ?_⟩
  rcases AH.mp hx with z |z
  ·omega
  ·have:=h2 x z;omega
theorem qEG:∀ {l:List Int},(∀ x∈l,x=0)->l.sum=0
 |[],_=>rfl
 |a::l,h=>by rw [A2,h a AK,qEG fun x hx=>h x (AG _ hx)];rfl
theorem YX {S:List (Int×Int)} (H:Hs S):∀ (n m:Nat),m≤n->0≤way S m
 |n,0,_=>by show (0:Int)≤1;decide
 |0,m + 1,hm=>absurd hm (BZ _)
 |n + 1,m + 1,hm=>by
  rw [Zg H]
  refine (YJ fun x hx => ?_).1
  obtain ⟨s,hs,rfl⟩:=AX.mp hx
  have h1:=(H.b s ((A0.mp hs).1)).1
  exact YX H n _ (by omega)
theorem yB {S:List (Int×Int)} (H:Hs S):∀ (n m:Nat),m≤n->((lnF S m).isNone=(way S m==0))
 |n,0,_=>rfl
 |0,m + 1,hm=>absurd hm (BZ _)
 |n + 1,m + 1,hm=>by
  rw [Zg H]
  cases hb:lnF S (m + 1) with
  |some b =>
   obtain ⟨s,p,h1,h2,h3,h4,rfl⟩:=Yh H hb
   have i:=yB H n (m + 1 - s.1.toNat) (by omega)
   rw [h4] at i
   have i:¬ way S (m + 1 - s.1.toNat)=0:=fun z=>by rw [z] at i;cases i
   have hn:=YX H (m + 1) (m + 1 - s.1.toNat) (by omega)
   have q:=(YJ (l:=(S.filter fun s=>decide (s.1≤((m + 1:Nat):Int))).map fun s=>way S (m + 1 - s.1.toNat)) fun x hx=>by
    obtain ⟨s,hs,rfl⟩:=AX.mp hx
    exact YX H _ _ (AL _)).2 _ (AX.mpr ⟨s,A0.mpr ⟨h1,AV h3⟩,rfl⟩)
   have:¬ wsm S S (m + 1)=0:=fun z=>by
    have:wsm S S (m + 1)=_:=rfl
    unfold wsm at z
    omega
   show false=_
   exact (Bc.mpr this).symm
  |none =>
   have:wsm S S (m + 1)=0:=by
    refine qEG fun x hx => ?_
    obtain ⟨s,hs,rfl⟩:=AX.mp hx
    obtain ⟨hs1,hs2⟩:=A0.mp hs
    have k1:=(H.b s hs1).1
    have i:=yB H n (m + 1 - s.1.toNat) (by omega)
    cases hq:lnF S (m + 1 - s.1.toNat) with
    |some p =>
     obtain ⟨b,e1,_⟩:=zf H hs1 (A7 hs2) hq
     rw [hb] at e1;cases e1
    |none=>rw [hq] at i;exact eq_of_beq i.symm
   rw [this];rfl
theorem qCc {l l':List Int} (h:l.Perm l'):l.sum=l'.sum:=by
 induction h with
 |nil=>rfl
 |cons x _ ih=>rw [A2,A2,ih]
 |swap x y l=>rw [A2,A2,A2,A2];omega
 |trans _ _ h1 h2=>rw [h1,h2]
theorem yD {α:Type} {f g:α->Int}:∀ {l:List α},(∀ x∈l,f x≤g x)->(l.map f).sum≤(l.map g).sum
 |[],_=>BK _
 |a::l,h=>by
  rw [AN,AN,A2,A2]
  have h1:=h a AK
  have h2:=yD fun x hx=>h x (AG _ hx)
  omega
theorem Yu {S M:List (Int×Int)} (H:Hs S) (HM:Hs M) {x:Int×Int} (hp:M.Perm (S++[x])):∀ (n m:Nat),m≤n->way S m≤way M m
 |n,0,_=>BK _
 |0,m + 1,hm=>absurd hm (BZ _)
 |n + 1,m + 1,hm=>by
  rw [Zg H,Zg HM]
  have e:wsm M M (m + 1)=wsm M (S++[x]) (m + 1):=qCc ((hp.filter _).map _)
  have e2:wsm M S (m + 1)≤wsm M (S++[x]) (m + 1):=by
   unfold wsm
   rw [List.filter_append,BF,List.sum_append]
   have:0≤(([x].filter fun s=>decide (s.1≤((m + 1:Nat):Int))).map fun s=>way M (m + 1 - s.1.toNat)).sum:=(YJ fun y hy=>by
    obtain ⟨s,hs,rfl⟩:=AX.mp hy
    exact YX HM _ _ (AL _)).1
   omega
  have e3:wsm S S (m + 1)≤wsm M S (m + 1):=yD fun s hs=>by
   have k1:=(H.b s ((A0.mp hs).1)).1
   exact Yu H HM hp n _ (by omega)
  omega
theorem YL {l:List Int} {S:qB}:Zc [.lst (l.map PV.int)] S = .ok (.int l.sum) S:=by
 unfold Zc zk
 simp only [asL]
 rw [zJ]
def wyP (W:List Int) (m:Nat):PV->PV
 | .tup [.int l,_] => .int (W.getD (m - l.toNat) 0)
 |_ => .non
theorem qFm (W:List Int) (m:Nat) (S:List (Int×Int)):((S.map QE).filter (frC m)).map (wyP W m)=((S.filter fun s=>decide (s.1≤(m:Int))).map fun s=>W.getD (m - s.1.toNat) 0).map PV.int:=by
 rw [List.filter_map,Ak,Ak]
 rfl
abbrev wyS (st:qB) (S:List (Int×Int)) (m:Nat):qB:=st++[.l ((wyF S m).map PV.int)]
section
variable {S:List (Int×Int)} {st:qB} {m:Nat}
theorem qGu {i:Nat} (hi:i≤m):gIx (.ref st.length) (.int (i:Int)) (wyS st S m) = .ok (.int ((wyF S m).getD i 0)) (wyS st S m):=by
 have hl:i < (wyF S m).length:=by rw [W6];omega
 exact qAy (J4 (mid rfl)) (Yk (by rw [Ah,AD hl,AF,AD hl];rfl))
def wyC:FE:=(qH Zc (qA (vFz (ql [2,3] 2 (qq (qC 0)) (wk 2 (qe (qk 2) (qe (qk 3) w5))) [(vTB (qJ gLe (qC 2) (qC 1)))] [] (qJ gIx (qC 0) (qJ za (qC 1) (qC 2))))) qD))
theorem qFK (H:Hs S) {x1:Option PV}:wyC [some (sP S),x1,some (.ref st.length),some (.int ((m + 1:Nat):Int))] (wyS st S m) = .ok (.int (qCn (wyF S m) (m + 1) S)) (wyS st S m):=by
 refine qK (l:=[.lst (((S.filter fun s=>decide (s.1≤((m + 1:Nat):Int))).map fun s=>(wyF S m).getD (m + 1 - s.1.toNat) 0).map PV.int)]) (s1:=wyS st S m) (qO (WT ?_) qf) YL
 rw [← qFm]
 refine ze (w:=⟨S.map QE,fun _=>True⟩) (c:=frC (m + 1)) (F:=wyP (wyF S m) (m + 1)) rfl trivial (by rw [AE];exact AS H.hi (by decide)) fun p hp => ?_
 obtain ⟨s,hs,rfl⟩:=AX.mp hp
 have hb:=H.b s hs
 refine ⟨[some (.ref st.length),some (.int ((m + 1:Nat):Int)),some (.int s.1),some (.int s.2)],rfl,w4 (qP rfl rfl qAb),fun hc => ?_⟩
 have hc:decide (s.1≤((m + 1:Nat):Int))=true:=hc
 have hc:=A7 hc
 have e1:((m + 1:Nat):Int) - s.1=((m + 1 - s.1.toNat:Nat):Int):=by omega
 exact qP rfl (qP rfl rfl (by rw [ZJ,e1])) (qGu (by omega))
theorem Jx (H:Hs S) {x1:Option PV}:∀ (k m:Nat) (x3:Option PV),m + k≤200 -> ∃ y3,Qg (fun _=>True) (wV 3) (wy (qC 2) wyC) (ofN ((List.range k).map fun i=>m + 1 + i)) [some (sP S),x1,some (.ref st.length),x3] (wyS st S m) = .nx [some (sP S),x1,some (.ref st.length),y3] (wyS st S (m + k))
 |0,m,x3,_=>⟨x3,Wi trivial⟩
 |k + 1,m,x3,h=>by
  obtain ⟨y3,e⟩:=Jx H (x1:=x1) k (m + 1) (some (.int ((m + 1:Nat):Int))) (by omega)
  have er:(List.range (k + 1)).map (fun i=>m + 1 + i)=(m + 1)::(List.range k).map fun i=>m + 1 + 1 + i:=by
   rw [Bh,AN,Ak]
   refine List.cons_eq_cons.mpr ⟨rfl,Ay fun i _ => ?_⟩
   show m + 1 + (i + 1)=m + 1 + 1 + i
   omega
  rw [er,show m + (k + 1)=m + 1 + k by omega]
  refine ⟨y3,YG (p := .int ((m + 1:Nat):Int)) trivial rfl ?_ e⟩
  have ea:=jK (n:=st.length) (l:=(wyF S m).map PV.int) (fo:=qC 2) (f:=wyC) (r:=[some (sP S),x1,some (.ref st.length),some (.int ((m + 1:Nat):Int))]) (st:=wyS st S m) rfl (qGZ (mid rfl)) (qFK H) (mid rfl) (by rw [AE,W6];exact Am (show m + 1 < 300 by omega) (by decide))
  rw [J6 rfl] at ea
  have el:(wyF S m).map PV.int++[.int (qCn (wyF S m) (m + 1) S)]=(wyF S (m + 1)).map PV.int:=by
   show _=(wyF S m++[_]).map PV.int
   rw [BF];rfl
  rw [el] at ea
  exact ea
end
theorem Zl {a:Ad} {S:List (Int×Int)} {c:Nat} {st:qB} (R:Srt S) (hc:c≤200):wW a [sP S,.int (c:Int)] st = .ok (.int (way S c)) (wyS st S c):=by
 obtain ⟨y3,e⟩:=Jx (st:=st) R.hs (x1:=some (.int (c:Int))) c 0 none (by omega)
 refine QX rfl ?_
 unfold Ww
 refine qa (ZP (qK (l:=[sP S,.int (c:Int)]) rfl (zx R hc))) ?_
 refine qa (qCb (l:=[.int 1]) (s1:=st) (qEA (qO rfl qf) (sz rfl))) ?_
 rw [show (0 + c)=c from Nat.zero_add c] at e
 refine qa (Jy (w:=⟨ofN ((List.range (c + 1 - 1)).map fun i=>1 + i),fun _=>True⟩) (j5 (n:=1) (m:=c + 1) (by omega) (by omega) (qO rfl (qO (qP rfl rfl zn) qf))) ?_) (wD (p := .int (way S c)) (st:=wyS st S c) (s1:=wyS st S c) (r:=[some (sP S),some (.int (c:Int)),some (.ref st.length),y3]) (qP rfl rfl ?_))
 ·rw [show c + 1 - 1=c by omega]
  have:(fun i=>1 + i)=fun i=>0 + 1 + i:=by funext i;omega
  rw [this]
  exact e
 ·have hl:c < (wyF S c).length:=by rw [W6];omega
  exact qAy (J4 (mid rfl)) (qAI (n:=c) (by rw [AE,W6]) (by unfold way;rw [Ah,AD hl,AF,AD hl];rfl))
theorem Wa {a:Ad} {S:List (Int×Int)} {c:Nat} {st:qB} (R:Srt S) (hc:c≤200):qh a [sP S,.int (c:Int)] st = .ok (lnP (lnF S c)) (lnS st S c):=by
 refine QX rfl ?_
 unfold wZ
 exact qa (ZP (qK (l:=[sP S,.int (c:Int)]) rfl (zx R hc))) (wD (qP (qK (l:=[sP S,.int (c:Int)]) rfl (Wv R.hs hc)) rfl y9))
def dk (S:List (Int×Int)):List (L2.Key×PV):=S.map fun s=>(Sum.inl s.1,.int s.2)
theorem qBI:∀ S:List (Int×Int),QH JM (S.map QE)=some (dk S)
 |[]=>rfl
 |s::S=>by
  rw [AN]
  unfold QH
  rw [qBI S]
  rfl
theorem J9 {S:List (Int×Int)} (R:Srt S) {f:FE} {r:qo} {st s1:qB} (h:f r st = .ok (sP S) s1):ZL f r st = .ok (.ref s1.length) (s1++[.k (dk S)]):=by
 unfold ZL
 rw [h]
 show (match QH JM (S.map QE) with |some ps=>(if ps.length≤1000∧(List.map (fun (q:L2.Key×PV)=>q.1) ps).Nodup then Rs.ok (PV.ref s1.length) (s1++[SO.k ps]) else .no) |none => .no)=_
 rw [qBI]
 dsimp only
 rw [AI]
 refine ⟨by unfold dk;rw [AE];have:=R.hi;omega,?_⟩
 unfold dk
 rw [Ak]
 have:=R.ris
 rw [B6] at this
 unfold List.Nodup
 rw [B6]
 exact this.imp fun h z=>by
  have z:(Sum.inl _:L2.Key)=Sum.inl _:=z
  have:=Sum.inl.inj z
  omega
theorem qFM {S:List (Int×Int)} (h:(S.map (·.1)).Pairwise (· < ·)) {s:Int×Int} (hs:s∈S):ZZ (dk S) (Sum.inl s.1)=some (.int s.2):=by
 induction S with
 |nil=>cases hs
 |cons t S ih =>
  rw [AN,A5] at h
  unfold dk ZZ
  rw [AN,A4]
  rcases AH.mp hs with z |z
  ·subst z
   dsimp only
   rw [AV rfl]
   rfl
  ·have hne:t.1≠s.1:=by have:=h.1 s.1 (AX.mpr ⟨s,z,rfl⟩);omega
   dsimp only
   rw [AY (fun q=>hne (Sum.inl.inj q))]
   exact ih h.2 z
theorem qFZ {S:List (Int×Int)} {l:Int}:(ZZ (dk S) (Sum.inl l)).isSome=decide (∃ s∈S,s.1=l):=by
 induction S with
 |nil=>exact (AY (by rintro ⟨s,hs,_⟩;cases hs)).symm
 |cons t S ih =>
  unfold dk ZZ
  rw [AN,A4]
  dsimp only
  by_cases e:t.1=l
  ·rw [AV (by rw [e]),AV ⟨t,AK,e⟩];rfl
  ·rw [AY (fun q=>e (Sum.inl.inj q))]
   refine Eq.trans ih ?_
   refine decide_eq_decide.mpr ⟨fun ⟨s,h1,h2⟩=>⟨s,AG _ h1,h2⟩,fun ⟨s,h1,h2⟩ => ?_⟩
   rcases AH.mp h1 with z |z
   ·exact absurd (by rw [← z];exact h2) e
   ·exact ⟨s,z,h2⟩
theorem WV {hs:List Int} {c:Nat}:(ww hs c).length=c:=by unfold ww;rw [AE,List.length_range]
theorem ZO {hs:List Int}:∀ {c i:Nat},i≤c->((ww hs c).take i).sum=hs.getD i 0 - hs.getD 0 0:=by
 intro c i h
 have e:(ww hs c).take i=(List.range i).map fun i=>hs.getD (i + 1) 0 - hs.getD i 0:=by
  unfold ww
  rw [← List.map_take,List.take_range,Nat.min_eq_left h]
 rw [e]
 clear e h
 induction i with
 |zero=>show (0:Int)=_;omega
 |succ i ih =>
  rw [List.range_succ,BF,List.sum_append,ih]
  show _ + (hs.getD (i + 1) 0 - hs.getD i 0 + 0)=_
  omega
theorem qCE {a:Ad} {S:List (Int×Int)} {D:Int} {c:Nat} {st:qB} {p:Int×List Int} (R:Srt S) (hc:c≤200) (hD:∀ x∈Qh (qE S c),x≤D) (hp:lnF S c=some p):QG a [sP S,.int (c:Int),.tup ((ww (htF D (qE S c)) c).map PV.int)] st = .ok (.int p.1) st:=by
 rw [Y8 R hc WV]
 have h0:(htF D (qE S c)).getD 0 0=0:=by rw [Jw (BJ _)];rfl
 have hcc:(htF D (qE S c)).getD c 0=p.1:=by rw [Jw (AL _),hp];rfl
 have hb:S.any (zd (ww (htF D (qE S c)) c) c)=false:=by
  rw [List.any_eq_false]
  intro s hs
  unfold zd
  rw [Bool.not_eq_true,List.any_eq_false]
  intro f hf
  have hf:=Bd.mp hf
  have h1:=(R.b s hs).1
  have e:=Jt (ns:=ww (htF D (qE S c)) c) (i:=f) (L:=s.1.toNat) (by rw [WV];omega)
  rw [ZM (by rw [WV];omega),ZM (by rw [WV];omega),ZO (by omega),ZO (by omega)] at e
  have k:=qDB R hD hs (m:=s.1.toNat + f) (by omega) (by omega)
  rw [Nat.add_sub_cancel_left] at k
  intro z
  have z:=A7 z
  omega
 unfold shF
 rw [hb,AQ (by decide)]
 have e:(ww (htF D (qE S c)) c).sum=p.1:=by
  have:=ZO (hs:=htF D (qE S c)) (c:=c) (i:=c) (AL _)
  rw [List.take_of_length_le (by rw [WV];exact AL _)] at this
  omega
 rw [e]
theorem qAM {x y:Bool} {st:qB}:gNe (.bl x) (.bl y) st = .ok (.bl (!(x==y))) st:=by cases x <;> cases y <;> rfl
def prc (S:List (Int×Int)) (l:Int):Int:=((S.find? fun s=>decide (s.1=l)).map (·.2)).getD 0
theorem qCe {S:List (Int×Int)} (h:(S.map (·.1)).Pairwise (· < ·)) {s:Int×Int} (hs:s∈S):prc S s.1=s.2:=by
 induction S with
 |nil=>cases hs
 |cons t S ih =>
  rw [AN,A5] at h
  unfold prc
  rw [A4]
  rcases AH.mp hs with z |z
  ·subst z
   rw [AV rfl]
   rfl
  ·have hne:t.1≠s.1:=by have:=h.1 s.1 (AX.mpr ⟨s,z,rfl⟩);omega
   rw [AY hne]
   exact ih h.2 z
theorem qCH {a:Ad} {S:List (Int×Int)} {c:Nat} {st:qB} (R:Srt S) (hc:c≤200):∃ g,WG a [sP S,.int (c:Int)] st = .ok (.bl true) (st++g):=by
 have hw:=yB R.hs c c (AL _)
 cases hp:lnF S c with
 |none =>
  rw [hp] at hw
  have hw:way S c=0:=eq_of_beq hw.symm
  have e1:=Wa (a:=a) (st:=st) R hc
  have e2:=JT (a:=a) (st:=lnS st S c) R hc (by rw [wq S c c (AL _)];exact hp)
  have e3:=Zl (a:=a) (st:=lnS (lnS st S c) S c) R hc
  rw [hp] at e1
  rw [hw] at e3
  refine ⟨[.l ((qE S c).map lnP),.l ((qE S c).map lnP),.l ((wyF S c).map PV.int)],?_⟩
  have es:wyS (lnS (lnS st S c) S c) S c=st++[.l ((qE S c).map lnP),.l ((qE S c).map lnP),.l ((wyF S c).map PV.int)]:=by simp [wyS,lnS]
  rw [es] at e3
  refine QX rfl ?_
  unfold WB
  refine qa (qEC (qO (qK (l:=[sP S,.int (c:Int)]) rfl e1) (qO (qK (l:=[sP S,.int (c:Int)]) rfl e2) qf))) ?_
  refine qa (Q5 (W4 (w4 (qP (p := .bl true) (q := .bl true) (qP rfl rfl rfl) (qP (qK (l:=[sP S,.int (c:Int)]) rfl e3) rfl rfl) qAM)) (w4 (qP (p := .bl true) (q := .bl true) (qP rfl rfl rfl) (qP rfl rfl rfl) qAM))) rfl) ?_
  exact zt (Yj (w4 (qP rfl rfl rfl)) (wD rfl))
 |some p =>
  rw [hp] at hw
  have hw:(way S c==0)=false:=hw.symm
  have hln:(qE S c).getD c none=some p:=by rw [wq S c c (AL _)];exact hp
  obtain ⟨D,hD1,hD⟩:=Ja hln
  have e1:=Wa (a:=a) (st:=st) R hc
  have e2:=JP (a:=a) (st:=lnS st S c) R hc hln hD1
  have e3:=Zl (a:=a) (st:=lnS (lnS st S c) S c) R hc
  rw [hp] at e1
  obtain ⟨i1,i2,i3⟩:=qCd R.hs (pr:=prc S) (fun s hs=>qCe R.ris hs) c c (AL _) p hp
  have hlen:=WI R.hs c c p hln
  generalize hz:wyS (lnS (lnS st S c) S c) S c=s3 at e3
  have e4:=qCE (a:=a) (st:=s3++[.k (dk S)]) R hc hD hp
  refine ⟨[.l ((qE S c).map lnP),.l ((qE S c).map lnP),.l ((wyF S c).map PV.int),.k (dk S)],?_⟩
  have es:st++[.l ((qE S c).map lnP),.l ((qE S c).map lnP),.l ((wyF S c).map PV.int),.k (dk S)]=s3++[.k (dk S)]:=by rw [← hz];simp [wyS,lnS]
  rw [es]
  refine QX rfl ?_
  unfold WB
  refine qa (qEC (qO (qK (l:=[sP S,.int (c:Int)]) rfl e1) (qO (qK (l:=[sP S,.int (c:Int)]) rfl e2) qf))) ?_
  refine qa (Q5 (W4 (w4 (qP (p := .bl false) (q := .bl false) (qP rfl rfl rfl) (qP (qK (l:=[sP S,.int (c:Int)]) rfl e3) rfl (by rw [yI,hw])) qAM)) (w4 (qP (p := .bl false) (q := .bl false) (qP rfl rfl rfl) (qP rfl rfl rfl) qAM))) rfl) ?_
  refine qa (Q5 (w4 (qP rfl rfl rfl)) rfl) ?_
  refine qa (Qw (J9 R rfl)) ?_
  refine qa (Q5 (W4 (w4 (qP (p := .int (c:Int)) (q := .int (c:Int)) (qK (l:=[.tup (p.2.map PV.int)]) (qO (qP (p:=qb p) (q := .int 1) rfl rfl rfl) qf) (by rw [YK,i1])) rfl (by rw [qBH,An];rfl))) (w4 (qP (p := .int p.1) (q := .int p.1) (qP (p:=qb p) (q := .int 0) rfl rfl rfl) (qK (l:=[.lst ((p.2.map (prc S)).map PV.int)]) (s1:=s3++[.k (dk S)]) (qO (WT ?_) qf) (by rw [YL,← i2])) (by rw [qBH,An];rfl)))) rfl) ?_
  ·let F:PV->PV:=fun q=>match q with | .int l => .int (prc S l) |_ => .non
   have e5:=QS (caps:=[4]) (n:=1) (fi:=qq (qJ gIx (qC 2) (vC (.int 1)))) (g:=qk 1) (f:=qJ qAh (qC 0) (qC 1)) (r:=[some (sP S),some (.int (c:Int)),some (qb p),some (.tup ((ww (htF D (qE S c)) c).map PV.int)),some (.ref s3.length)]) (st:=s3++[.k (dk S)]) (w:=⟨p.2.map PV.int,fun _=>True⟩) (F:=F) rfl trivial (by rw [AE];exact AS (show p.2.length≤1000 by omega) (by decide)) fun q hq=>by
    obtain ⟨l,hl,rfl⟩:=AX.mp hq
    obtain ⟨s,hs,rfl⟩:=i3 l hl
    refine ⟨[some (.ref s3.length),some (.int s.1)],rfl,qP rfl rfl (qGs (kvs:=dk S) ?_ ?_)⟩
    ·unfold kAt;rw [mid rfl]
    ·rw [qFM R.ris hs];show _=some (PV.int (prc S s.1));rw [qCe R.ris hs]
   refine e5.trans ?_
   rw [Ak,Ak]
   rfl
  ·exact wD (qP (p := .int p.1) (q := .int p.1) (qK (l:=[sP S,.int (c:Int),.tup ((ww (htF D (qE S c)) c).map PV.int)]) rfl e4) (qP (p:=qb p) (q := .int 0) rfl rfl rfl) (by rw [yI,An]))
theorem qEI {S:List (Int×Int)} {x:Int} {st:qB} (h:1≤S.length):∃ s∈S,gIx (sP S) (.int (x % (S.length:Int))) st = .ok (QE s) st:=by
 have hr:0≤x % (S.length:Int)∧x % (S.length:Int) < (S.length:Int):=⟨CM _ (by omega),B2 _ (by omega)⟩
 obtain ⟨i,hi⟩:∃ i:Nat,x % (S.length:Int)=(i:Int):=⟨(x % (S.length:Int)).toNat,by omega⟩
 rw [hi] at hr ⊢
 have hl:i < S.length:=by omega
 exact ⟨S[i],BO hl,qAy (l:=S.map QE) rfl (Yk (by rw [Ah,AD hl];rfl))⟩
theorem y1 {S:List (Int×Int)} {st:qB}:WA [sP S] st = .ok (.int (S.length:Int)) st:=yN (l:=S.map QE) rfl (by rw [AE])
def drE (a:Ad):FE:=(qJ gIx (qC 0) (qH (qR a) (qA (qC 1) (qA (qH WA (qA (qC 0) qD)) qD))))
theorem Yo {a:Ad} {S:List (Int×Int)} (R:Srt S) {st j:qB} {fi:FI}:∀ (ks:List PV) (x:Int),∃ (ds:List (Int×Int)) (y:Int),ds.length=ks.length∧(∀ s∈ds,s∈S)∧qZ (fun _=>True) (QD ⟨fi,qk 2,[]⟩ (QL [] (drE a)) [some (sP S),some (.ref st.length),none]) ks (st ++ .l [.int x]::j) = .ok (ds.map QE) (st ++ .l [.int y]::j)
 |[],x=>⟨[],x,rfl,fun v hv=>(Aj hv).elim,wT trivial⟩
 |k::ks,x=>by
  have hl:=R.lo
  have hh:=R.hi
  have t1:=Qp (a:=a) (st:=st) (j:=j) (x:=x) (m:=(S.length:Int)) (by omega) (by omega)
  obtain ⟨s,hs,es⟩:=qEI (S:=S) (x:=x) (st:=st ++ .l [.int (x / (S.length:Int))]::j) hl
  obtain ⟨ds,y,h2,h3,h4⟩:=Yo (a:=a) R (st:=st) (j:=j) (fi:=fi) ks (x / (S.length:Int))
  refine ⟨s::ds,y,by rw [AO,AO,h2],fun z hz => ?_,?_⟩
  ·rcases AH.mp hz with rfl |hz
   ·exact hs
   ·exact h3 z hz
  ·refine zH (l:=[QE s]) trivial (y7 (r':=[some (sP S),some (.ref st.length),some k]) rfl ?_) h4
   exact qP rfl (qK (l:=[.ref st.length,.int (S.length:Int)]) (qO rfl (qO (qK (l:=[sP S]) rfl y1) qf)) t1) es
theorem Yx {a:Ad} {st j:qB} {fi:FI}:∀ (ks:List PV) (x:Int),∃ (ns:List Int) (y:Int),ns.length=ks.length∧qZ (fun _=>True) (QD ⟨fi,qk 1,[]⟩ (QL [] (qJ za (qH (qR a) (qA (qC 0) (qA (vC (.int 5)) qD))) (vC (.int 2)))) [some (.ref st.length),none]) ks (st ++ .l [.int x]::j) = .ok (ns.map PV.int) (st ++ .l [.int y]::j)
 |[],x=>⟨[],x,rfl,wT trivial⟩
 |k::ks,x=>by
  have t1:=Qp (a:=a) (st:=st) (j:=j) (x:=x) (m:=5) (by decide) (by decide)
  obtain ⟨ns,y,h2,h4⟩:=Yx (a:=a) (st:=st) (j:=j) (fi:=fi) ks (x / 5)
  refine ⟨(x % 5 - 2)::ns,y,by rw [AO,AO,h2],?_⟩
  exact zH (l:=[.int (x % 5 - 2)]) trivial (y7 (r':=[some (.ref st.length),some k]) rfl (qP (qK (l:=[.ref st.length,.int 5]) rfl t1) rfl ZJ)) h4
theorem JA {ds:List (Int×Int)} (hl:ds.length≤1000) {r:qo} {st:qB} (h2:r[2]? = some (some (.lst (ds.map QE)))):qH Zc (qA (vFz (ql [] 2 (qq (qC 2)) (wk 2 (qe (qk 0) (qe (qk 1) w5))) [] [] (qC 0))) qD) r st = .ok (.int (ds.map (·.1)).sum) st:=by
 let F:PV->PV:=fun q=>match q with | .tup [.int l,_] => .int l |_ => .non
 have hv:qq (qC 2) r st = .ok ⟨ds.map QE,fun _=>True⟩ st:=by unfold qq qC;rw [h2];rfl
 refine qK (l:=[.lst ((ds.map (·.1)).map PV.int)]) (s1:=st) (qO (WT ?_) qf) YL
 have e:=QS (caps:=[]) (n:=2) (fi:=qq (qC 2)) (g:=wk 2 (qe (qk 0) (qe (qk 1) w5))) (f:=qC 0) (r:=r) (st:=st) (w:=⟨ds.map QE,fun _=>True⟩) (F:=F) hv trivial (by rw [AE];exact AS hl (by decide)) fun q hq=>by
  obtain ⟨s,hs,rfl⟩:=AX.mp hq
  exact ⟨[some (.int s.1),some (.int s.2)],rfl,rfl⟩
 refine e.trans ?_
 rw [Ak,Ak];rfl
theorem jS {ds:List (Int×Int)} (hl:ds.length≤1000) {r:qo} {st:qB} (h2:r[2]? = some (some (.lst (ds.map QE)))):qH Zc (qA (vFz (ql [] 2 (qq (qC 2)) (wk 2 (qe (qk 0) (qe (qk 1) w5))) [] [] (qC 1))) qD) r st = .ok (.int (ds.map (·.2)).sum) st:=by
 let F:PV->PV:=fun q=>match q with | .tup [_,.int l] => .int l |_ => .non
 have hv:qq (qC 2) r st = .ok ⟨ds.map QE,fun _=>True⟩ st:=by unfold qq qC;rw [h2];rfl
 refine qK (l:=[.lst ((ds.map (·.2)).map PV.int)]) (s1:=st) (qO (WT ?_) qf) YL
 have e:=QS (caps:=[]) (n:=2) (fi:=qq (qC 2)) (g:=wk 2 (qe (qk 0) (qe (qk 1) w5))) (f:=qC 1) (r:=r) (st:=st) (w:=⟨ds.map QE,fun _=>True⟩) (F:=F) hv trivial (by rw [AE];exact AS hl (by decide)) fun q hq=>by
  obtain ⟨s,hs,rfl⟩:=AX.mp hq
  exact ⟨[some (.int s.1),some (.int s.2)],rfl,rfl⟩
 refine e.trans ?_
 rw [Ak,Ak];rfl
theorem J3 {f g:FE} {r:qo} {st s1 s2:qB} {p:PV} (h:f r st = .ok (.bl false) s1) (h2:g r s1 = .ok p s2):vOr f g r st = .ok p s2:=by unfold vOr;rw [h];exact h2
theorem qAJ {f g:FE} {r:qo} {st s1:qB} (h:f r st = .ok (.bl true) s1):vOr f g r st = .ok (.bl true) s1:=by unfold vOr;rw [h];rfl
theorem qBs {a:Ad} {S:List (Int×Int)} (R:Srt S) {st j:qB} {x:Int}:∃ (y:Int) (g:qB),Qi a [.ref st.length,sP S] (st ++ .l [.int x]::j) = .ok (.bl true) (st ++ .l [.int y]::g):=by
 have t0:=Qp (a:=a) (st:=st) (j:=j) (x:=x) (m:=20) (by decide) (by decide)
 have hn:0≤x % 20∧x % 20 < 20:=by omega
 generalize hN:x % 20=N at hn t0
 obtain ⟨ds,y,d1,d2,d3⟩:=Yo (a:=a) R (st:=st) (j:=j) (fi:=wb (qA (qH (qR a) (qA (qC 0) (qA (vC (.int 20)) qD))) qD)) ((WO N).map PV.int) (x / 20)
 rw [AE,W2] at d1
 obtain ⟨m,b,m1,m2,m3,m4⟩:=jC R.hs ds d2
 have hm:m≤171:=by omega
 have c1:=Wa (a:=a) (st:=st ++ .l [.int y]::j) R (c:=m) (by omega)
 rw [m3] at c1
 have s1:lnS (st ++ .l [.int y]::j) S m=st ++ .l [.int y]::(j++[.l ((qE S m).map lnP)]):=by simp [lnS]
 rw [s1] at c1
 have hl:=R.lo
 have hh:=R.hi
 generalize hj1:j++[SO.l ((qE S m).map lnP)]=j1 at c1
 have t1:=Qp (a:=a) (st:=st) (j:=j1) (x:=y) (m:=(S.length:Int)) (by omega) (by omega)
 obtain ⟨s,hs,es⟩:=qEI (S:=S) (x:=y) (st:=st ++ .l [.int (y / (S.length:Int))]::j1) hl
 generalize hy2:y / (S.length:Int)=y2 at t1 es
 obtain ⟨k1,k2,k3,k4⟩:=R.b s hs
 obtain ⟨b2,e1,e2⟩:=zf R.hs hs (m:=m + s.1.toNat) (p:=b) (by omega) (by rw [B1];exact m3)
 have c2:=Wa (a:=a) (st:=st ++ .l [.int y2]::j1) R (c:=m + s.1.toNat) (by omega)
 rw [e1] at c2
 have s2:lnS (st ++ .l [.int y2]::j1) S (m + s.1.toNat)=st ++ .l [.int y2]::(j1++[.l ((qE S (m + s.1.toNat)).map lnP)]):=by simp [lnS]
 rw [s2] at c2
 generalize hj2:j1++[SO.l ((qE S (m + s.1.toNat)).map lnP)]=j2 at c2
 have hcn:((m + s.1.toNat:Nat):Int)=(m:Int) + s.1:=by omega
 rw [hcn] at c2
 obtain ⟨ns,y3,n1,n2⟩:=Yx (a:=a) (st:=st) (j:=j2) (fi:=wb (qA (qC 3) qD)) ((WO (m:Int)).map PV.int) y2
 rw [AE,W2,Av] at n1
 have p1:=Y8 (a:=a) (st:=st ++ .l [.int y3]::j2) R (c:=m) (by omega) n1
 refine ⟨y3,j2,QX rfl ?_⟩
 unfold Q3
 refine qa (Qw (p := .lst (ds.map QE)) (s1:=st ++ .l [.int y]::j) (WT (yG (l:=ds.map QE) (s2:=st ++ .l [.int y]::j) (itN (L:=N) (by omega) (by omega) (qO (qK (l:=[.ref st.length,.int 20]) rfl t0) qf)) d3 (by rw [AE];exact AS (show ds.length≤1000 by omega) (by decide))))) ?_
 refine qa (Qw (p := .int (m:Int)) (s1:=st ++ .l [.int y]::j) (by rw [← m1];exact JA (by omega) rfl)) ?_
 refine qa (Qw (qK (l:=[sP S,.int (m:Int)]) rfl c1)) ?_
 refine qa (Q5 (W4 (w4 (qP rfl rfl rfl)) (w4 (qP (p := .int b.1) (q := .int (ds.map (·.2)).sum) (qP (p:=qb b) (q := .int 0) rfl rfl rfl) (jS (by omega) rfl) (qBy (by omega))))) rfl) ?_
 refine qa (qGI (p:=QE s) (qP rfl (qK (l:=[.ref st.length,.int (S.length:Int)]) (qO rfl (qO (qK (l:=[sP S]) rfl y1) qf)) t1) es) rfl) ?_
 refine qa (Q5 (w4 (qP (p := .int b2.1) (q := .int (b.1 + s.2)) (qP (p:=qb b2) (q := .int 0) (qK (l:=[sP S,.int ((m:Int) + s.1)]) (qO rfl (qO (qP rfl rfl zn) qf)) c2) rfl rfl) (qP (p := .int b.1) (q := .int s.2) (qP (p:=qb b) (q := .int 0) rfl rfl rfl) rfl zn) (qBy (by omega)))) rfl) ?_
 refine qa (Qw (p := .tup (ns.map PV.int)) (s1:=st ++ .l [.int y3]::j2) (qK (l:=[.lst (ns.map PV.int)]) (qO (WT (yG (l:=ns.map PV.int) (s2:=st ++ .l [.int y3]::j2) (itN (L:=(m:Int)) (by omega) (by omega) (qO rfl qf)) n2 (by rw [AE];exact AS (show ns.length≤1000 by omega) (by decide)))) qf) (Ze rfl))) ?_
 refine qa (Qw (qK (l:=[sP S,.int (m:Int),.tup (ns.map PV.int)]) rfl p1)) (wD ?_)
 unfold shF
 by_cases hb:S.any (zd ns m)=true
 ·rw [AI hb]
  exact qAJ (qP rfl rfl rfl)
 ·rw [AQ hb]
  refine J3 (qP rfl rfl rfl) (qP (p := .int ns.sum) (q := .int b.1) rfl (qP (p:=qb b) (q := .int 0) rfl rfl rfl) ?_)
  have hw:∀ s∈S,zd ns m s=false:=fun s hs=>by
   cases h:zd ns m s with
   |false=>rfl
   |true=>exact absurd (List.any_eq_true.mpr ⟨s,hs,h⟩) hb
  have:=Jk R.hs n1 hw m m (AL _) (AL _) b m3
  rw [qCj n1] at this
  rw [qAb,AV this]
end K89
end
noncomputable section
namespace K89
open PySem EV EX ET
theorem qCI {fi:FI} {g:FG} {t:FT} {f:FE} {r r':qo} {st s1 s2:qB} {p q:PV} (h:g p r=some r') (ht:t r' st = .ok true s1) (hf:f r' s1 = .ok q s2):QD ⟨fi,g,[t]⟩ (QL [] f) r p st = .ok [q] s2:=by
 unfold QD;show (match g p r with |none=>_ |some r'=>_)=_;rw [h];show (Qx [t] r' st).bind _=_;unfold Qx Qx;rw [ht];show (QL [] f) r' s1=_;unfold QL;rw [hf];rfl
theorem qCW {fi:FI} {g:FG} {t:FT} {f:FE} {r r':qo} {st s1:qB} {p:PV} (h:g p r=some r') (ht:t r' st = .ok false s1):QD ⟨fi,g,[t]⟩ (QL [] f) r p st = .ok [] s1:=by
 unfold QD;show (match g p r with |none=>_ |some r'=>_)=_;rw [h];show (Qx [t] r' st).bind _=_;unfold Qx Qx;rw [ht];rfl
def frh (S:List (Int×Int)) (l:Int):Bool := !decide (∃ s∈S,s.1=l)
def frT:FT:=(vTB (qJ (qAt true) (qC 1) (ZL (qC 0))))
theorem qEX {S:List (Int×Int)} (R:Srt S) {l:Int} {st:qB}:frT [some (sP S),some (.int l)] st = .ok (frh S l) (st++[.k (dk S)]):=by
 refine w4 (qP (p := .int l) (q := .ref st.length) rfl (J9 R rfl) ?_)
 have hk:kAt (st++[.k (dk S)]) st.length=some (dk S):=by unfold kAt;rw [mid rfl]
 unfold qAt jv
 dsimp only
 rw [hk]
 dsimp only
 rw [qFZ]
 rfl
theorem jt {S:List (Int×Int)} (R:Srt S) {fi:FI}:∀ (ks:List Int) (st:qB),∃ g,qZ (fun _=>True) (QD ⟨fi,qk 1,[frT]⟩ (QL [] (qC 1)) [some (sP S),none]) (ks.map PV.int) st = .ok ((ks.filter (frh S)).map PV.int) (st++g)
 |[],st=>⟨[],by rw [Bl];exact wT trivial⟩
 |k::ks,st=>by
  obtain ⟨g,h⟩:=jt R (fi:=fi) ks (st++[.k (dk S)])
  rw [Ba] at h
  refine ⟨[.k (dk S)]++g,?_⟩
  have ht:=qEX R (l:=k) (st:=st)
  rw [AN,Bf]
  cases hk:frh S k with
  |true =>
   rw [hk] at ht
   rw [AI rfl,AN]
   exact zH (l:=[.int k]) trivial (qCI (r':=[some (sP S),some (.int k)]) rfl ht rfl) h
  |false =>
   rw [hk] at ht
   rw [AQ (by decide)]
   exact zH (l:=[]) trivial (qCW (r':=[some (sP S),some (.int k)]) rfl ht) h
theorem qER {S:List (Int×Int)} {l:Int} (h:frh S l=true):∀ s∈S,s.1≠l:=fun s hs e=>by
 unfold frh at h
 rw [AV ⟨s,hs,e⟩] at h
 cases h
theorem qDP {S:List (Int×Int)} {l:Int} (h:∀ s∈S,s.1≠l):frh S l=true:=by
 unfold frh
 rw [AY fun ⟨s,h1,h2⟩=>h s h1 h2]
 rfl
theorem qA2 {S:List (Int×Int)} (h:S.length≤3):∃ l:Int,1≤l∧l≤4 ∧ ∀ s∈S,s.1≠l:=by
 match S,h with
 |[],_=>exact ⟨1,by decide,by decide,fun s hs=>by cases hs⟩
 |[p],_ =>
  by_cases e:p.1=1
  ·exact ⟨2,by decide,by decide,fun s hs=>by rw [AW.mp hs];omega⟩
  ·exact ⟨1,by decide,by decide,fun s hs=>by rw [AW.mp hs];exact e⟩
 |[p,q],_ =>
  have:∃ l:Int,1≤l∧l≤4∧p.1≠l∧q.1≠l:=by
   by_cases e1:p.1≠1∧q.1≠1
   ·exact ⟨1,by decide,by decide,e1⟩
   ·by_cases e2:p.1≠2∧q.1≠2
    ·exact ⟨2,by decide,by decide,e2⟩
    ·exact ⟨3,by decide,by decide,by omega,by omega⟩
  obtain ⟨l,h1,h2,h3,h4⟩:=this
  exact ⟨l,h1,h2,fun s hs=>by
   rcases AH.mp hs with z |z
   ·rw [z];exact h3
   ·rw [AW.mp z];exact h4⟩
 |[p,q,t],_ =>
  have:∃ l:Int,1≤l∧l≤4∧p.1≠l∧q.1≠l∧t.1≠l:=by
   by_cases e1:p.1≠1∧q.1≠1∧t.1≠1
   ·exact ⟨1,by decide,by decide,e1⟩
   ·by_cases e2:p.1≠2∧q.1≠2∧t.1≠2
    ·exact ⟨2,by decide,by decide,e2⟩
    ·by_cases e3:p.1≠3∧q.1≠3∧t.1≠3
     ·exact ⟨3,by decide,by decide,e3⟩
     ·exact ⟨4,by decide,by decide,by omega,by omega,by omega⟩
  obtain ⟨l,h1,h2,h3,h4,h5⟩:=this
  exact ⟨l,h1,h2,fun s hs=>by
   rcases AH.mp hs with z |z
   ·rw [z];exact h3
   ·rcases AH.mp z with z |z
    ·rw [z];exact h4
    ·rw [AW.mp z];exact h5⟩
 |_::_::_::_::_,h=>exact absurd h (by rw [AO,AO,AO,AO];omega)
theorem yo (l:List WR):(z7 l).Perm l:=by
 have:=(wS (l.map cL)).map lC
 rw [Ak] at this
 have e:l.map (lC ∘ cL)=l:=(Ay (f:=lC ∘ cL) (g:=id) fun c _=>jW c).trans (List.map_id l)
 rw [e] at this
 exact this
theorem qBM {l:List WR} (h:(l.map (·.1)).Nodup):((z7 l).map (·.1)).Pairwise (· < ·):=by
 have h1:((z7 l).map (·.1)).Nodup:=(((yo l).map (·.1)).nodup_iff).mpr h
 have h2:(z7 l).Pairwise fun a b => ¬ clt b a:=by
  unfold z7
  rw [B6]
  refine (qBd (l.map cL)).imp_of_mem fun {a b} ha hb hab => ?_
  obtain ⟨c,_,rfl⟩:=AX.mp ((wS _).mem_iff.mp ha)
  obtain ⟨d,_,rfl⟩:=AX.mp ((wS _).mem_iff.mp hb)
  rw [jW,jW]
  rw [qGY] at hab
  exact of_decide_eq_false hab
 unfold List.Nodup at h1
 rw [B6] at h1 ⊢
 refine (h1.and h2).imp fun {a b} ⟨z1,z2⟩ => ?_
 have z2:¬ (b.1 < a.1∨(b.1=a.1∧b.2 < a.2)):=z2
 have:=fun z=>z2 (.inl z)
 omega
theorem qBf {S:List (Int×Int)} (R:Srt S) (h3:S.length≤3) {l p:Int} (hl:∀ s∈S,s.1≠l) (h1:1≤l∧l≤9) (h2:0≤p∧p < 12):Srt (z7 (S++[(l,p)])):=by
 refine ⟨?_,?_,qBM ?_,fun s hs => ?_⟩
 ·rw [jX,Af];show 1≤_ + 1;omega
 ·rw [jX,Af];show _ + 1≤4;omega
 ·rw [BF,B4]
  refine ⟨R.ris.imp fun h=>Int.ne_of_lt h,by simp,fun a ha b hb e => ?_⟩
  obtain ⟨s,hs,rfl⟩:=AX.mp ha
  have hb:b=l:=AW.mp hb
  exact hl s hs (e.trans hb)
 ·rcases A1.mp (mem_srtC.mp hs) with z |z
  ·exact R.b s z
  ·rw [AW.mp z]
   exact ⟨h1.1,h1.2,h2.1,by show p≤_;omega⟩
theorem qF3 {ls:List Int} {x:Int} {st:qB} (h:1≤ls.length):∃ l∈ls,gIx (.lst (ls.map PV.int)) (.int (x % (ls.length:Int))) st = .ok (.int l) st:=by
 have hr:0≤x % (ls.length:Int)∧x % (ls.length:Int) < (ls.length:Int):=⟨CM _ (by omega),B2 _ (by omega)⟩
 obtain ⟨i,hi⟩:∃ i:Nat,x % (ls.length:Int)=(i:Int):=⟨(x % (ls.length:Int)).toNat,by omega⟩
 rw [hi] at hr ⊢
 have hl:i < ls.length:=by omega
 exact ⟨ls[i],BO hl,qAy (l:=ls.map PV.int) rfl (Yk (by rw [Ah,AD hl];rfl))⟩
def nine:List Int:=[1,2,3,4,5,6,7,8,9]
theorem qC9 {a:Ad} {S:List (Int×Int)} (R:Srt S) {c:Nat} (hc:c≤200) {st j:qB} {x:Int}:∃ st',Qt a [.ref st.length,sP S,.int (c:Int)] (st ++ .l [.int x]::j) = .ok (.bl true) st':=by
 obtain ⟨g,f1⟩:=jt R (fi:=zT (qA (vC (.int 1)) (qA (vC (.int 10)) qD))) nine (st ++ .l [.int x]::j)
 have s1:(st ++ .l [.int x]::j)++g=st ++ .l [.int x]::(j++g):=by simp
 rw [s1] at f1
 generalize j++g=j1 at f1 s1
 have hh:=R.hi
 have hF:(nine.filter (frh S)).length≤9:=AS (List.length_filter_le _ _) (by decide)
 have eF:vFz (ql [1] 1 (zT (qA (vC (.int 1)) (qA (vC (.int 10)) qD))) (qk 1) [frT] [] (qC 1)) [some (.ref st.length),some (sP S),some (.int (c:Int)),none,none,none] (st ++ .l [.int x]::j) = .ok (.lst ((nine.filter (frh S)).map PV.int)) (st ++ .l [.int x]::j1) :=
  WT (yG (w:=⟨nine.map PV.int,fun _=>True⟩) (s1:=st ++ .l [.int x]::j) rfl f1 (by rw [AE];exact AS hF (by decide)))
 by_cases h4:S.length=4
 ·refine ⟨st ++ .l [.int x]::j1,QX rfl ?_⟩
  unfold QQ
  refine qa (Qw eF) ?_
  exact zt (Yj (w4 (qP (p := .int (S.length:Int)) (q := .int 4) (qK (l:=[sP S]) rfl y1) rfl (by rw [yI,h4];rfl))) (wD rfl))
 have h3:S.length≤3:=by omega
 obtain ⟨l0,q1,q2,q3⟩:=qA2 h3
 have hF1:1≤(nine.filter (frh S)).length:=by
  have:l0∈nine.filter (frh S):=A0.mpr ⟨by
   have:l0=1∨l0=2∨l0=3∨l0=4:=by omega
   rcases this with rfl |rfl |rfl |rfl <;> decide,qDP q3⟩
  exact List.length_pos_of_mem this
 generalize hfr:nine.filter (frh S)=fr at eF hF hF1
 have t1:=Qp (a:=a) (st:=st) (j:=j1) (x:=x) (m:=(fr.length:Int)) (by omega) (by omega)
 obtain ⟨l,hl,el⟩:=qF3 (ls:=fr) (x:=x) (st:=st ++ .l [.int (x / (fr.length:Int))]::j1) hF1
 generalize hy:x / (fr.length:Int)=y at t1 el
 have t2:=Qp (a:=a) (st:=st) (j:=j1) (x:=y) (m:=12) (by decide) (by decide)
 have hp:0≤y % 12∧y % 12 < 12:=by omega
 generalize y % 12=p at t2 hp
 rw [← hfr] at hl
 obtain ⟨hl1,hl2⟩:=A0.mp hl
 have hl3:1≤l∧l≤9:=by
  unfold nine at hl1
  simp only [AH,Aj,or_false] at hl1
  omega
 have RM:=qBf R h3 (qER hl2) hl3 hp
 have pm:=yo (S++[(l,p)])
 generalize hM:z7 (S++[(l,p)])=M at RM pm
 have e1:Ya (qJ Wq (qC 1) (w9 (qA (w9 (qA (qJ gIx (qC 3) (qH (qR a) (qA (qC 0) (qA (qH WA (qA (qC 3) qD)) qD)))) (qA (qH (qR a) (qA (qC 0) (qA (vC (.int 12)) qD))) qD))) qD))) [some (.ref st.length),some (sP S),some (.int (c:Int)),some (.lst (fr.map PV.int)),none,none] (st ++ .l [.int x]::j1) = .ok (.lst (M.map QE)) (st ++ .l [.int (y / 12)]::j1):=by
  have e:qJ Wq (qC 1) (w9 (qA (w9 (qA (qJ gIx (qC 3) (qH (qR a) (qA (qC 0) (qA (qH WA (qA (qC 3) qD)) qD)))) (qA (qH (qR a) (qA (qC 0) (qA (vC (.int 12)) qD))) qD))) qD)) [some (.ref st.length),some (sP S),some (.int (c:Int)),some (.lst (fr.map PV.int)),none,none] (st ++ .l [.int x]::j1) = .ok (.tup ((S++[(l,p)]).map QE)) (st ++ .l [.int (y / 12)]::j1):=by
   refine qP (p:=sP S) (q := .tup [QE (l,p)]) rfl (Zz (qO (Zz (qO (qP (p := .lst (fr.map PV.int)) rfl (qK (l:=[.ref st.length,.int (fr.length:Int)]) (qO rfl (qO (qK (l:=[.lst (fr.map PV.int)]) rfl (yN (l:=fr.map PV.int) rfl (by rw [AE]))) qf)) t1) el) (qO (qK (l:=[.ref st.length,.int 12]) rfl t2) qf)) (sz rfl)) qf) (sz rfl)) ?_
   show Wq (.tup (S.map QE)) (.tup [QE (l,p)]) _=_
   unfold Wq
   dsimp only
   rw [AI (by rw [AE];exact AS (show S.length + 1≤400 by omega) (by decide)),BF]
   rfl
  unfold Ya
  rw [e]
  show Z1 (.tup ((S++[(l,p)]).map QE)) (st ++ .l [.int (y / 12)]::j1)=_
  rw [qEU (l:=S++[(l,p)]) rfl (by rw [Af];show S.length + 1≤63;omega),hM]
  rfl
 have w1:=Zl (a:=a) (st:=st ++ .l [.int (y / 12)]::j1) RM hc
 have w2:=Zl (a:=a) (st:=wyS (st ++ .l [.int (y / 12)]::j1) M c) R hc
 have hw:=Yu R.hs RM.hs pm c c (AL _)
 have c1:=Wa (a:=a) (st:=wyS (wyS (st ++ .l [.int (y / 12)]::j1) M c) S c) R hc
 have c2:=Wa (a:=a) (st:=lnS (wyS (wyS (st ++ .l [.int (y / 12)]::j1) M c) S c) S c) RM hc
 generalize wyS (wyS (st ++ .l [.int (y / 12)]::j1) M c) S c=s2 at w2 c1 c2
 have front:∀ {R':RS},(qV (qp 5 (qH (qh a) (qA (qC 1) (qA (qC 2) qD)))) (qr (vOr (qJ (WM false) (qC 5) (vC .non)) (qJ gLe (qJ gIx (qH (qh a) (qA (qC 4) (qA (qC 2) qD))) (vC (.int 0))) (qJ gIx (qC 5) (vC (.int 0))))))) [some (.ref st.length),some (sP S),some (.int (c:Int)),some (.lst (fr.map PV.int)),some (sP M),none] s2=R'->QQ a (QR 6 [.ref st.length,sP S,.int (c:Int)]) (st ++ .l [.int x]::j)=R':=fun {R'} h=>by
  unfold QQ
  refine qa (Qw eF) ?_
  refine qa (Q5 (w4 (qP (p := .int (S.length:Int)) (q := .int 4) (qK (l:=[sP S]) rfl y1) rfl (by rw [yI,Bc.mpr (by omega)]))) rfl) ?_
  refine qa (Qw (p:=sP M) (qK (l:=[.lst (M.map QE)]) (qO e1 qf) (Ze rfl))) ?_
  refine qa (Q5 (w4 (qP (p := .int (way M c)) (q := .int (way S c)) (qK (l:=[sP M,.int (c:Int)]) rfl w1) (qK (l:=[sP S,.int (c:Int)]) rfl w2) (by rw [w_lt,AY (by omega)]))) rfl) h
 cases hb:lnF S c with
 |none =>
  rw [hb] at c1
  exact ⟨lnS s2 S c,QX rfl (front (qa (Qw (qK (l:=[sP S,.int (c:Int)]) rfl c1)) (wD (qAJ (qP rfl rfl rfl)))))⟩
 |some b =>
  obtain ⟨q,i1,i2⟩:=Jr R.hs RM.hs (fun s hs=>pm.mem_iff.mpr (List.mem_append_left _ hs)) c c (AL _) b hb
  rw [hb] at c1
  rw [i1] at c2
  exact ⟨lnS (lnS s2 S c) M c,QX rfl (front (qa (Qw (qK (l:=[sP S,.int (c:Int)]) rfl c1)) (wD (J3 (qP rfl rfl rfl) (qP (p := .int q.1) (q := .int b.1) (qP (p:=qb q) (q := .int 0) (qK (l:=[sP M,.int (c:Int)]) rfl c2) rfl rfl) (qP (p:=qb b) (q := .int 0) rfl rfl rfl) (by rw [qAb,AV i2]))))))⟩
end K89
end
noncomputable section
namespace K89
open PySem EV EX
theorem qFz {x m:Int} (h:0 < m):0≤x % m∧x % m < m:=⟨CM _ (by omega),B2 x h⟩
def Ym (a:Ad):FS:=(qV (qp 2 (qH (zN a) (qA (qC 0) (qA (qC 1) qD)))) (qV (qp 3 (qH (WD a) (qA (qC 2) qD))) (qV (qp 4 (qH (qR a) (qA (qC 2) (qA (qJ gIx (vFz (ZD (qA (vC (.int 9)) (qA (vC (.int 40)) (qA (vC (.int 201)) qD))))) (qH (qR a) (qA (qC 2) (qA (vC (.int 3)) qD)))) qD)))) (wX (Za (wU (QV (qH (WG a) (qA (qC 3) (qA (qC 4) qD))))) (Za (wU (QV (qH (Qi a) (qA (qC 2) (qA (qC 3) qD))))) (wU (QV (qH (Qt a) (qA (qC 2) (qA (qC 3) (qA (qC 4) qD)))))))) (qr (vC (.bl false))) Q8))))
theorem qDX {a:Ad} {ns:List Int} {k:Int} {st:qB} {x2 x3 x4:Option PV} (h0:0≤k):∃ y2 y3 y4 st',Ym a [some (.lst (ns.map PV.int)),some (.int k),x2,x3,x4] st = .nx [some (.lst (ns.map PV.int)),some (.int k),y2,y3,y4] st':=by
 obtain ⟨x,ex⟩:=qE6 (a:=a) (ns:=ns) (k:=k) (st:=st) h0
 obtain ⟨S,y,R,es⟩:=qBv (a:=a) (st:=st) (j:=[]) (x:=x)
 have t1:=Qp (a:=a) (st:=st) (j:=[]) (x:=y) (m:=3) (by decide) (by decide)
 have hm:∃ m:Int,(m=9∨m=40∨m=201)∧gIx (.lst [.int 9,.int 40,.int 201]) (.int (y % 3)) (st ++ .l [.int (y / 3)]::[]) = .ok (.int m) (st ++ .l [.int (y / 3)]::[]):=by
  have:y % 3=0∨y % 3=1∨y % 3=2:=by omega
  rcases this with h |h |h <;> rw [h]
  ·exact ⟨9,.inl rfl,rfl⟩
  ·exact ⟨40,.inr (.inl rfl),rfl⟩
  ·exact ⟨201,.inr (.inr rfl),rfl⟩
 obtain ⟨m,hm1,hm2⟩:=hm
 have hmp:0 < m∧m≤201:=by rcases hm1 with rfl |rfl |rfl <;> decide
 have t2:=Qp (a:=a) (st:=st) (j:=[]) (x:=y / 3) (m:=m) hmp.1 (by omega)
 have hc:=qFz (x:=y / 3) (m:=m) hmp.1
 generalize hcc:y / 3 % m=cc at hc t2
 obtain ⟨c,rfl⟩:∃ c:Nat,cc=(c:Int):=⟨cc.toNat,by omega⟩
 have hc2:c≤200:=by omega
 generalize hz:y / 3 / m=z at t2
 obtain ⟨g1,r1⟩:=qCH (a:=a) (st:=st ++ .l [.int z]::[]) R hc2
 have s1:(st ++ .l [.int z]::[])++g1=st ++ .l [.int z]::g1:=by simp
 rw [s1] at r1
 obtain ⟨y2,g2,r2⟩:=qBs (a:=a) R (st:=st) (j:=g1) (x:=z)
 obtain ⟨st',r3⟩:=qC9 (a:=a) R hc2 (st:=st) (j:=g2) (x:=y2)
 refine ⟨some (.ref st.length),some (sP S),some (.int (c:Int)),st',?_⟩
 refine qa (Qw (p := .ref st.length) (s1:=st++[.l [.int x]]) (qK (qO rfl (qO rfl qf)) ex)) ?_
 refine qa (Qw (p:=sP S) (s1:=st ++ .l [.int y]::[]) (qK (l:=[.ref st.length]) rfl es)) ?_
 refine qa (Qw (p := .int (c:Int)) (s1:=st ++ .l [.int z]::[]) (qK (l:=[.ref st.length,.int m]) (qO rfl (qO (qP (p := .lst [.int 9,.int 40,.int 201]) (q := .int (y % 3)) rfl (qK (l:=[.ref st.length,.int 3]) rfl t1) hm2) qf)) t2)) ?_
 exact Q5 (W4 (w_not (b:=true) (wc (qK (l:=[sP S,.int (c:Int)]) rfl r1))) (W4 (w_not (b:=true) (wc (qK (l:=[.ref st.length,sP S]) rfl r2))) (w_not (b:=true) (wc (qK (l:=[.ref st.length,sP S,.int (c:Int)]) rfl r3))))) rfl
theorem Y3 {a:Ad} {ns:List Int}:∀ (ks:List Int) (x1 x2 x3 x4:Option PV) (st:qB),(∀ k∈ks,0≤k) -> ∃ e st',Qg (fun _=>True) (wV 1) (Ym a) (ks.map PV.int) [some (.lst (ns.map PV.int)),x1,x2,x3,x4] st = .nx e st'
 |[],x1,x2,x3,x4,st,_=>⟨_,st,Wi trivial⟩
 |k::ks,x1,x2,x3,x4,st,h=>by
  obtain ⟨y2,y3,y4,st1,e⟩:=qDX (a:=a) (ns:=ns) (k:=k) (st:=st) (x2:=x2) (x3:=x3) (x4:=x4) (h k AK)
  obtain ⟨e',st',e2⟩:=Y3 (ns:=ns) ks (some (.int k)) y2 y3 y4 st1 fun q hq=>h q (AG _ hq)
  exact ⟨e',st',YG trivial rfl e e2⟩
theorem law_true:∀ (a:Ad) (ns:List Int),j7 a->ns.length≤63->(∀ k∈ns,Builtin.Int.intBits k≤2 ^ 20) -> ∃ st,jG a [.lst (ns.map PV.int)] [] = .ok (.bl true) st:=by
 intro a ns hd hl hb
 obtain ⟨n,hn0,hn4,hn⟩:∃ n:Int,0≤n∧n≤4∧qH qCf (qA (vC (.int 1)) (qA (qH qB4 (qA (qH WA (qA (qC 0) qD)) (qA (vC (.int 4)) qD))) qD)) (QR 5 [.lst (ns.map PV.int)]) [] = .ok (.int n) []:=by
  refine ⟨if (if (4:Int) < ns.length then 4 else (ns.length:Int)) > 1 then (if (4:Int) < ns.length then 4 else (ns.length:Int)) else 1,?_,?_,?_⟩
  ·split <;> (try split) <;> omega
  ·split <;> (try split) <;> omega
  ·exact qK (qO rfl (qO (qK (l:=[.int ns.length,.int 4]) (qO (qK (qO rfl qf) (yN (l:=ns.map PV.int) rfl (by rw [AE]))) (qO rfl qf)) rfl) qf)) rfl
 obtain ⟨e,st',h⟩:=Y3 (a:=a) (WO n) none none none none [] fun k hk=>by have:=upto_mem.mp hk;omega
 exact ⟨st',QX rfl (qa (Jy (itN hn0 (by omega) (qO hn qf)) h) (wD rfl))⟩
end K89
end
section

end
noncomputable section
namespace K89
open PySem PySem.Spec PyProof.Rows L2 EX EV
theorem qAo {K:W.Frag}:∀ p∈kitTab,W.kitOne K (.type p.1.1) (.type p.1.2)=some p.2:=by
 intro p hp
 unfold kitTab at hp
 simp only [AH,Aj,or_false] at hp
 rcases hp with rfl |rfl |rfl |rfl |rfl |rfl |rfl |rfl |rfl |rfl |rfl |rfl |rfl |rfl |rfl |rfl |rfl |rfl |rfl |rfl |rfl <;> rfl
theorem jr {s T:String} {b:Bool}:∀ {l:List ((String×String)×Bool)},l.lookup (s,T)=some b->((s,T),b)∈l
 |[],h=>by cases h
 |(q,k)::l,h=>by
  rw [As] at h
  split at h
  ·rename_i e;cases h;rw [eq_of_beq e];exact AK
  ·exact AG _ (jr h)
theorem qD2 {K:W.Frag} {s T:String} {b:Bool} (h:qGa s T=some b):W.kitOne K (.type s) (.type T)=some b:=qAo _ (jr h)
theorem qDy {P:Program} {w:World} {K:W.Frag} {mg:Str->Option Value} {base:Heap} {CX:CXT} {k:Nat} {f:Addr} {fd:FuncData} {ps:List Str} {sp sp':Sp} (F:FnOk P w K mg base CX k f fd ps sp) (h:∀ vs H Q E,sp' vs H Q E->sp vs H Q E):FnOk P w K mg base CX k f fd ps sp' :=
 ⟨fun vs H Q E q=>F.len vs H Q E (h vs H Q E q),fun A outer s H args us vs Q E hr e b v q=>F.run A outer s H args us vs Q E hr e b v (h vs H Q E q)⟩
def spL (K:W.Frag):Sp:=fun vs H Q E => ∀ a,j7 a->spG K 1 (jG a) vs H Q E
theorem all_mk {l:W.OpenLaw} {w:World} {K:W.Frag} {h:Heap} {mg:Str->Option Value} {fa:Addr} (X:K.In h) (G:h.Ns mainGlobals mg) (hfa:mg "law" = some (.ref fa))
  {ff0 ff1 ff2 ff3 ff4 ff5 ff6 ff7 ff8 ff9 ff10 ff11 ff12 ff13 ff14 ff15 ff16 ff17 ff18 ff19 ff20:Addr}
  {t_MOST_SORTS:Tok}
  {t_MOST_LONG:Tok}
  {t_MOST_PRICE:Tok}
  {t_MOST_LINE:Tok}
  (aa0:W.nsIn K mainGlobals "is_whole" = some (some (.ref ff0)))
  (ll0:K.lookup ff0=some ⟨oc0,od0,.func (W.fnOf "is_whole" "is_whole" (qg wO) (qd wO) (qI wO) .none kV0 dc0 pm0 an0 cd0 ct0),sl0⟩)
  (dd0:W.codeIn K cd0 "is_whole" = true)
  (kk0:W.keepIn K (.ref ff0)=true)
  (aa1:W.nsIn K mainGlobals "is_whole_within" = some (some (.ref ff1)))
  (ll1:K.lookup ff1=some ⟨oc1,od1,.func (W.fnOf "is_whole_within" "is_whole_within" (qg QB) (qd QB) (qI QB) .none kV1 dc1 pm1 an1 cd1 ct1),sl1⟩)
  (dd1:W.codeIn K cd1 "is_whole_within" = true)
  (kk1:W.keepIn K (.ref ff1)=true)
  (aa2:W.nsIn K mainGlobals "are_wholes" = some (some (.ref ff2)))
  (ll2:K.lookup ff2=some ⟨oc2,od2,.func (W.fnOf "are_wholes" "are_wholes" (qg Qr) (qd Qr) (qI Qr) .none kV2 dc2 pm2 an2 cd2 ct2),sl2⟩)
  (dd2:W.codeIn K cd2 "are_wholes" = true)
  (kk2:W.keepIn K (.ref ff2)=true)
  (aa3:W.nsIn K mainGlobals "is_rising" = some (some (.ref ff3)))
  (ll3:K.lookup ff3=some ⟨oc3,od3,.func (W.fnOf "is_rising" "is_rising" (qg Q1) (qd Q1) (qI Q1) .none kV3 dc3 pm3 an3 cd3 ct3),sl3⟩)
  (dd3:W.codeIn K cd3 "is_rising" = true)
  (kk3:W.keepIn K (.ref ff3)=true)
  (aa4:W.nsIn K mainGlobals "need_number" = some (some (.ref ff4)))
  (ll4:K.lookup ff4=some ⟨oc4,od4,.func (W.fnOf "need_number" "need_number" (qg Qd) (qd Qd) (qI Qd) .none kV4 dc4 pm4 an4 cd4 ct4),sl4⟩)
  (dd4:W.codeIn K cd4 "need_number" = true)
  (kk4:W.keepIn K (.ref ff4)=true)
  (aa5:W.nsIn K mainGlobals "is_sort" = some (some (.ref ff5)))
  (ll5:K.lookup ff5=some ⟨oc5,od5,.func (W.fnOf "is_sort" "is_sort" (qg wn) (qd wn) (qI wn) .none kV5 dc5 pm5 an5 cd5 ct5),sl5⟩)
  (dd5:W.codeIn K cd5 "is_sort" = true)
  (kk5:W.keepIn K (.ref ff5)=true)
  (aa6:W.nsIn K mainGlobals "are_sorts" = some (some (.ref ff6)))
  (ll6:K.lookup ff6=some ⟨oc6,od6,.func (W.fnOf "are_sorts" "are_sorts" (qg Ql) (qd Ql) (qI Ql) .none kV6 dc6 pm6 an6 cd6 ct6),sl6⟩)
  (dd6:W.codeIn K cd6 "are_sorts" = true)
  (kk6:W.keepIn K (.ref ff6)=true)
  (aa7:W.nsIn K mainGlobals "need_line" = some (some (.ref ff7)))
  (ll7:K.lookup ff7=some ⟨oc7,od7,.func (W.fnOf "need_line" "need_line" (qg Qz) (qd Qz) (qI Qz) .none kV7 dc7 pm7 an7 cd7 ct7),sl7⟩)
  (dd7:W.codeIn K cd7 "need_line" = true)
  (kk7:W.keepIn K (.ref ff7)=true)
  (aa8:W.nsIn K mainGlobals "line_ways" = some (some (.ref ff8)))
  (ll8:K.lookup ff8=some ⟨oc8,od8,.func (W.fnOf "line_ways" "line_ways" (qg Qj) (qd Qj) (qI Qj) .none kV8 dc8 pm8 an8 cd8 ct8),sl8⟩)
  (dd8:W.codeIn K cd8 "line_ways" = true)
  (kk8:W.keepIn K (.ref ff8)=true)
  (aa9:W.nsIn K mainGlobals "cheapest_lines" = some (some (.ref ff9)))
  (ll9:K.lookup ff9=some ⟨oc9,od9,.func (W.fnOf "cheapest_lines" "cheapest_lines" (qg qu) (qd qu) (qI qu) .none kV9 dc9 pm9 an9 cd9 ct9),sl9⟩)
  (dd9:W.codeIn K cd9 "cheapest_lines" = true)
  (kk9:W.keepIn K (.ref ff9)=true)
  (aa10:W.nsIn K mainGlobals "cheapest_line" = some (some (.ref ff10)))
  (ll10:K.lookup ff10=some ⟨oc10,od10,.func (W.fnOf "cheapest_line" "cheapest_line" (qg QJ) (qd QJ) (qI QJ) .none kV10 dc10 pm10 an10 cd10 ct10),sl10⟩)
  (dd10:W.codeIn K cd10 "cheapest_line" = true)
  (kk10:W.keepIn K (.ref ff10)=true)
  (aa11:W.nsIn K mainGlobals "line_paper_shows" = some (some (.ref ff11)))
  (ll11:K.lookup ff11=some ⟨oc11,od11,.func (W.fnOf "line_paper_shows" "line_paper_shows" (qg qi) (qd qi) (qI qi) .none kV11 dc11 pm11 an11 cd11 ct11),sl11⟩)
  (dd11:W.codeIn K cd11 "line_paper_shows" = true)
  (kk11:W.keepIn K (.ref ff11)=true)
  (aa12:W.nsIn K mainGlobals "line_paper" = some (some (.ref ff12)))
  (ll12:K.lookup ff12=some ⟨oc12,od12,.func (W.fnOf "line_paper" "line_paper" (qg Qq) (qd Qq) (qI Qq) .none kV12 dc12 pm12 an12 cd12 ct12),sl12⟩)
  (dd12:W.codeIn K cd12 "line_paper" = true)
  (kk12:W.keepIn K (.ref ff12)=true)
  (aa13:W.nsIn K mainGlobals "_law_cell" = some (some (.ref ff13)))
  (ll13:K.lookup ff13=some ⟨oc13,od13,.func (W.fnOf "_law_cell" "_law_cell" (qg wN) (qd wN) (qI wN) .none kV13 dc13 pm13 an13 cd13 ct13),sl13⟩)
  (dd13:W.codeIn K cd13 "_law_cell" = true)
  (kk13:W.keepIn K (.ref ff13)=true)
  (aa14:W.nsIn K mainGlobals "_law_box" = some (some (.ref ff14)))
  (ll14:K.lookup ff14=some ⟨oc14,od14,.func (W.fnOf "_law_box" "_law_box" (qg wo) (qd wo) (qI wo) .none kV14 dc14 pm14 an14 cd14 ct14),sl14⟩)
  (dd14:W.codeIn K cd14 "_law_box" = true)
  (kk14:W.keepIn K (.ref ff14)=true)
  (aa15:W.nsIn K mainGlobals "_law_take" = some (some (.ref ff15)))
  (ll15:K.lookup ff15=some ⟨oc15,od15,.func (W.fnOf "_law_take" "_law_take" (qg wP) (qd wP) (qI wP) .none kV15 dc15 pm15 an15 cd15 ct15),sl15⟩)
  (dd15:W.codeIn K cd15 "_law_take" = true)
  (kk15:W.keepIn K (.ref ff15)=true)
  (aa16:W.nsIn K mainGlobals "_law_sorts" = some (some (.ref ff16)))
  (ll16:K.lookup ff16=some ⟨oc16,od16,.func (W.fnOf "_law_sorts" "_law_sorts" (qg Qm) (qd Qm) (qI Qm) .none kV16 dc16 pm16 an16 cd16 ct16),sl16⟩)
  (dd16:W.codeIn K cd16 "_law_sorts" = true)
  (kk16:W.keepIn K (.ref ff16)=true)
  (aa17:W.nsIn K mainGlobals "_law_right" = some (some (.ref ff17)))
  (ll17:K.lookup ff17=some ⟨oc17,od17,.func (W.fnOf "_law_right" "_law_right" (qg Qn) (qd Qn) (qI Qn) .none kV17 dc17 pm17 an17 cd17 ct17),sl17⟩)
  (dd17:W.codeIn K cd17 "_law_right" = true)
  (kk17:W.keepIn K (.ref ff17)=true)
  (aa18:W.nsIn K mainGlobals "_law_drawn_right" = some (some (.ref ff18)))
  (ll18:K.lookup ff18=some ⟨oc18,od18,.func (W.fnOf "_law_drawn_right" "_law_drawn_right" (qg qm) (qd qm) (qI qm) .none kV18 dc18 pm18 an18 cd18 ct18),sl18⟩)
  (dd18:W.codeIn K cd18 "_law_drawn_right" = true)
  (kk18:W.keepIn K (.ref ff18)=true)
  (aa19:W.nsIn K mainGlobals "_law_more_right" = some (some (.ref ff19)))
  (ll19:K.lookup ff19=some ⟨oc19,od19,.func (W.fnOf "_law_more_right" "_law_more_right" (qg qx) (qd qx) (qI qx) .none kV19 dc19 pm19 an19 cd19 ct19),sl19⟩)
  (dd19:W.codeIn K cd19 "_law_more_right" = true)
  (kk19:W.keepIn K (.ref ff19)=true)
  (aa20:W.nsIn K mainGlobals "law" = some (some (.ref ff20)))
  (ll20:K.lookup ff20=some ⟨oc20,od20,.func (W.fnOf "law" "law" (qg Wr) (qd Wr) (qI Wr) .none kV20 dc20 pm20 an20 cd20 ct20),sl20⟩)
  (dd20:W.codeIn K cd20 "law" = true)
  (kk20:W.keepIn K (.ref ff20)=true)
  (n_all:W.nsIn K mainGlobals "all" = some none)
  (n_any:W.nsIn K mainGlobals "any" = some none)
  (n_bool:W.nsIn K mainGlobals "bool" = some none)
  (n_dict:W.nsIn K mainGlobals "dict" = some none)
  (n_int:W.nsIn K mainGlobals "int" = some none)
  (n_isinstance:W.nsIn K mainGlobals "isinstance" = some none)
  (n_len:W.nsIn K mainGlobals "len" = some none)
  (n_max:W.nsIn K mainGlobals "max" = some none)
  (n_min:W.nsIn K mainGlobals "min" = some none)
  (n_range:W.nsIn K mainGlobals "range" = some none)
  (n_set:W.nsIn K mainGlobals "set" = some none)
  (n_sorted:W.nsIn K mainGlobals "sorted" = some none)
  (n_sum:W.nsIn K mainGlobals "sum" = some none)
  (n_tuple:W.nsIn K mainGlobals "tuple" = some none)
  (g_MOST_SORTS:W.nsIn K mainGlobals "MOST_SORTS" = some (some (.int 4 t_MOST_SORTS)))
  (g_MOST_LONG:W.nsIn K mainGlobals "MOST_LONG" = some (some (.int 9 t_MOST_LONG)))
  (g_MOST_PRICE:W.nsIn K mainGlobals "MOST_PRICE" = some (some (.int 1000000000000 t_MOST_PRICE)))
  (g_MOST_LINE:W.nsIn K mainGlobals "MOST_LINE" = some (some (.int 200 t_MOST_LINE)))
  (ds:j7 ⟨ff0,ff1,ff2,ff3,ff4,ff5,ff6,ff7,ff8,ff9,ff10,ff11,ff12,ff13,ff14,ff15,ff16,ff17,ff18,ff19,ff20⟩) :
  ∃ fd:FuncData,(∀ (s:Shared) (v:Value),BindsTo s fd ⟨[v],[]⟩ [("_law_script",v)]) ∧ ∀ base:Heap,K.In base->base.Ns mainGlobals mg->FnOk l.prog w K mg base (CXF l.prog w) 9 fa fd ["_law_script"] (spL K):=by
 have e:ff20=fa:=Value.ref.inj (AZ ((Ae X G aa20).symm.trans hfa))
 subst e
 have V:Env K mg ⟨ff0,ff1,ff2,ff3,ff4,ff5,ff6,ff7,ff8,ff9,ff10,ff11,ff12,ff13,ff14,ff15,ff16,ff17,ff18,ff19,ff20⟩:=by
  refine { kit:=⟨fun t c b hk => ?_,fun x c b hk => ?_⟩,n_all:=Aq X G n_all,n_any:=Aq X G n_any,n_bool:=Aq X G n_bool,n_dict:=Aq X G n_dict,n_int:=Aq X G n_int,n_isinstance:=Aq X G n_isinstance,n_len:=Aq X G n_len,n_max:=Aq X G n_max,n_min:=Aq X G n_min,n_range:=Aq X G n_range,n_set:=Aq X G n_set,n_sorted:=Aq X G n_sorted,n_sum:=Aq X G n_sum,n_tuple:=Aq X G n_tuple,c_MOST_SORTS:=⟨_,Ae X G g_MOST_SORTS⟩,c_MOST_LONG:=⟨_,Ae X G g_MOST_LONG⟩,c_MOST_PRICE:=⟨_,Ae X G g_MOST_PRICE⟩,c_MOST_LINE:=⟨_,Ae X G g_MOST_LINE⟩,m_is_whole:=Ae X G aa0,f_is_whole:=⟨_,QI (st:=wO) ll0 dd0 kk0⟩,m_is_whole_within:=Ae X G aa1,f_is_whole_within:=⟨_,QI (st:=QB) ll1 dd1 kk1⟩,m_are_wholes:=Ae X G aa2,f_are_wholes:=⟨_,QI (st:=Qr) ll2 dd2 kk2⟩,m_is_rising:=Ae X G aa3,f_is_rising:=⟨_,QI (st:=Q1) ll3 dd3 kk3⟩,m_need_number:=Ae X G aa4,f_need_number:=⟨_,QI (st:=Qd) ll4 dd4 kk4⟩,m_is_sort:=Ae X G aa5,f_is_sort:=⟨_,QI (st:=wn) ll5 dd5 kk5⟩,m_are_sorts:=Ae X G aa6,f_are_sorts:=⟨_,QI (st:=Ql) ll6 dd6 kk6⟩,m_need_line:=Ae X G aa7,f_need_line:=⟨_,QI (st:=Qz) ll7 dd7 kk7⟩,m_line_ways:=Ae X G aa8,f_line_ways:=⟨_,QI (st:=Qj) ll8 dd8 kk8⟩,m_cheapest_lines:=Ae X G aa9,f_cheapest_lines:=⟨_,QI (st:=qu) ll9 dd9 kk9⟩,m_cheapest_line:=Ae X G aa10,f_cheapest_line:=⟨_,QI (st:=QJ) ll10 dd10 kk10⟩,m_line_paper_shows:=Ae X G aa11,f_line_paper_shows:=⟨_,QI (st:=qi) ll11 dd11 kk11⟩,m_line_paper:=Ae X G aa12,f_line_paper:=⟨_,QI (st:=Qq) ll12 dd12 kk12⟩,m_law_cell:=Ae X G aa13,f_law_cell:=⟨_,QI (st:=wN) ll13 dd13 kk13⟩,m_law_box:=Ae X G aa14,f_law_box:=⟨_,QI (st:=wo) ll14 dd14 kk14⟩,m_law_take:=Ae X G aa15,f_law_take:=⟨_,QI (st:=wP) ll15 dd15 kk15⟩,m_law_sorts:=Ae X G aa16,f_law_sorts:=⟨_,QI (st:=Qm) ll16 dd16 kk16⟩,m_law_right:=Ae X G aa17,f_law_right:=⟨_,QI (st:=Qn) ll17 dd17 kk17⟩,m_law_drawn_right:=Ae X G aa18,f_law_drawn_right:=⟨_,QI (st:=qm) ll18 dd18 kk18⟩,m_law_more_right:=Ae X G aa19,f_law_more_right:=⟨_,QI (st:=qx) ll19 dd19 kk19⟩,m_law:=Ae X G aa20,f_law:=⟨_,QI (st:=Wr) ll20 dd20 kk20⟩ }
  ·unfold kit at hk
   split at hk
   ·exact qD2 hk
   ·cases hk
  ·cases c <;> cases hk
 refine ⟨W.fnOf "law" "law" (qg Wr) (qd Wr) (qI Wr) .none kV20 dc20 pm20 an20 cd20 ct20,fun s v => .of_eq rfl,fun base _ _ => ?_⟩
 exact qDy (qGL V (QI (st:=Wr) ll20 dd20 kk20)) fun vs H Q E q=>q _ ds
theorem qB0 {l:W.OpenLaw} {n k:Nat} {q:Program} {loose:List Str} {XP:(Str->Option Value)->Heap->Prop} {YP:World->Heap->Prop} {d:DefRec} {K:Params->W.Frag} {CX:World->CXT} {sp:World->Sp} {x:Str}
  (hn:l.most=some n) (hn2:n≤sizeLine) (hdf:d.params.defaults=[]) (hr:Room k callerA)
  (hY:∀ (w:World) (h:Heap),YP w h->(K w.params).In h)
  (F:∀ (w:World) (mg:Str->Option Value) (fa:Addr) (h:Heap),(K w.params).In h->h.Ns mainGlobals mg->XP mg h->mg d.name=some (.ref fa) ->
   ∃ fd:FuncData,(∀ (s:Shared) (u:Value),BindsTo s fd ⟨[u],[]⟩ [(x,u)]) ∧
    ∀ base:Heap,(K w.params).In base->base.Ns mainGlobals mg->FnOk l.prog w (K w.params) mg base (CX w) k fa fd [x] (sp w))
  (hsp:∀ (w:World) (H:Hp) (a:Addr) (ns:List Int),ns.length≤n->(∀ k∈ns,Builtin.Int.intBits k≤2 ^ 20)->qE1 H->SqL (K w.params) H a (ns.map V.int)->sp w [.ref a] H (fun v _=>v = .bl true) fun _ _ _=>False)
  (hCX:∀ (w:World) (H:Hp) (s:Shared) (e:Value) (s':Shared),CX w [] H s (fun _ _ _=>False) e s'->False) :
  W.WalkO q loose XP YP l.row.toRowW d [] (fun f vs=>PySem.call f vs):=by
 refine Att.attach_callB hn hdf fun w s₀ s₁ mg mb fa o pm cd doc a vs ns G Y ho hd hcd hmg hobj hints hlen hbits hg => ?_
 have KX:=hY w _ Y
 obtain ⟨fd,hb,hF⟩:=F w mg fa _ KX G.T.g G.X hmg
 exact qBa KX G.T.g G.T.b G.T.builtins G.T.nolimit hg hobj hints (AS hlen hn2) hr hF hb (fun H hO hS=>hsp w H a ns hlen hbits hO hS) fun H e s'=>hCX w H s₁ e s'
theorem WX {K:W.Frag} {H:Hp} {b:Bz}:∀ ns:List Int,RVs K H b (ns.map PV.int) (ns.map V.int)
 |[]=>RVs.nil
 |n::ns=>RVs.cons Qk (WX ns)
theorem qBV (key:∀ (a:Ad) (ns:List Int),j7 a->ns.length≤63->(∀ k∈ns,Builtin.Int.intBits k≤2 ^ 20) -> ∃ st,jG a [.lst (ns.map PV.int)] [] = .ok (.bl true) st) {K:W.Frag} {H:Hp} {a:Addr} {ns:List Int} (hl:ns.length≤63) (hb:∀ k∈ns,Builtin.Int.intBits k≤2 ^ 20) (hS:SqL K H a (ns.map V.int)):spL K [.ref a] H (fun v _=>v = .bl true) fun _ _ _=>False:=by
 intro ad hd
 obtain ⟨st,e⟩:=key ad ns hd hl hb
 refine ⟨rfl,⟨[],[]⟩,[.lst (ns.map PV.int)],[],⟨rfl,List.nodup_nil,fun i x h=>by simp at h,fun a ha=>(Aj ha).elim,fun a ha=>(Aj ha).elim⟩,RVs.cons ?_ RVs.nil,?_⟩
 ·unfold RV
  exact ⟨a,_,rfl,hS.imp (fun h=>⟨h,Aj,Aj⟩) id,WX ns⟩
 ·rw [e]
  intro v H' b' _ _ r
  unfold RV at r
  exact r
theorem walk31 (key:∀ (a:Ad) (ns:List Int),j7 a->ns.length≤63->(∀ k∈ns,Builtin.Int.intBits k≤2 ^ 20) -> ∃ st,jG a [.lst (ns.map PV.int)] [] = .ok (.bl true) st) {l:W.OpenLaw} {q:Program} {loose:List Str} {XP:(Str->Option Value)->Heap->Prop} {YP:World->Heap->Prop} {d:DefRec} {K:Params->W.Frag} (hn:l.most=some 63) (hdf:d.params.defaults=[])
  (hY:∀ (w:World) (h:Heap),YP w h->(K w.params).In h)
  (F:∀ (w:World) (mg:Str->Option Value) (fa:Addr) (h:Heap),(K w.params).In h->h.Ns mainGlobals mg->XP mg h->mg d.name=some (.ref fa) ->
   ∃ fd:FuncData,(∀ (s:Shared) (u:Value),BindsTo s fd ⟨[u],[]⟩ [("_law_script",u)]) ∧ ∀ base:Heap,(K w.params).In base->base.Ns mainGlobals mg->FnOk l.prog w (K w.params) mg base (CXF l.prog w) 9 fa fd ["_law_script"] (spL (K w.params))) :
  W.WalkO q loose XP YP l.row.toRowW d [] (fun f vs=>PySem.call f vs) :=
 qB0 (n:=63) (k:=9) (x := "_law_script") (CX:=fun w=>CXF l.prog w) (sp:=fun w=>spL (K w.params)) hn (by decide) hdf ⟨fun _=>rfl,by decide,by decide,rfl⟩ hY F (fun _ _ a ns hl hb _ hS=>qBV key hl hb hS) fun _ _ _ _ _ z=>by
  obtain ⟨_,_,_,_,_,_,_,_,_,_,_,_,q⟩:=z
  exact q
end K89
end
section
namespace PySem.W.Fast
def tw13414495026589203308:=0
def tw261707848267856062:=0
def tw7741917580640305011:=0
def tw15365627326291032081:=0
def tw1793706782988309453:=0
def tw15669226613663620140:=0
def tw8706520342837266237:=0
def tw16340492358365499723:=0
def tw9036975493346340847:=0
def tw14155641851059384235:=0
def tw6334855432415982467:=0
def tw5097469371297819513:=0
def tw4330835644564152435:=0
def tw4860990104460406100:=0
def tw3691062453882207179:=0
def tw2474053407845088009:=0
def tw1064255767242796187:=0
def tw5171411255030283638:=0
def tw14738037881522955055:=0
def tw18297118875052014274:=0
def tw5080913094581264670:=0
def tw16906600258685119802:=0
def tw16964365622168508953:=0
def tw12741735223425449114:=0
def tw9987828084900926536:=0
def tw16371220335652918639:=0
def tw8342448200806762463:=0
def tw7657300708167456766:=0
def tw17925861360349484198:=0
def tw17696610738843046199:=0
def tw17312893408108273278:=0
def tw4531128840810197409:=0
def tw3023655507733850785:=0
def tw609006173133563168:=0
def tw11899400296108313543:=0
def tw8943195294760328790:=0
end PySem.W.Fast
open PySem PySem.W PyProof.Rows
set_option maxRecDepth 100000 in
set_option maxHeartbeats 0 in
theorem PySem.Challenge.cw_barfloors_k89_whole_lines_and_papers_holds : PySem.Challenge.rw_barfloors_k89_whole_lines_and_papers.Holds := by
  w_on; o_law; k_head; (case hw => w_witness2)
  k_fill
  refine K89.walk31 K89.law_true (l := PySem.Challenge.rw_barfloors_k89_whole_lines_and_papers) rfl rfl (fun w h Y => PySem.W.kIn_of Y) ?F
  case F =>
    intro w mg fa h KX G XX hmg
    refine' K89.all_mk KX G hmg ?zzA ?zzB ?zzC ?zzD ?zzE ?zzF ?zzG ?zzH ?zzI ?zzJ ?zzK ?zzL ?zzM ?zzN ?zzO ?zzP ?zzQ ?zzR ?zzS ?zzT ?zzU ?zzV ?zzW ?zzX ?zzY ?zzZ ?zza ?zzb ?zzc ?zzd ?zze ?zzf ?zzg ?zzh ?zzi ?zzj ?zzk ?zzl ?zzm ?zzn ?zzo ?zzp ?zzq ?zzr ?zzs ?zzt ?zzu ?zzv ?zzw ?zzx ?zzy ?zzz ?zyA ?zyB ?zyC ?zyD ?zyE ?zyF ?zyG ?zyH ?zyI ?zyJ ?zyK ?zyL ?zyM ?zyN ?zyO ?zyP ?zyQ ?zyR ?zyS ?zyT ?zyU ?zyV ?zyW ?zyX ?zyY ?zyZ ?zya ?zyb ?zyc ?zyd ?zye ?zyf ?zyg ?zyh ?zyi ?zyj ?zyk ?zyl ?zym ?zyn ?zyo ?zyp ?zyq ?zyr ?zys ?zyt ?zyu ?zyv ?zyw ?zyx ?zyy
    (case zzA|zzB|zzC|zzD|zzE|zzF|zzG|zzH|zzI|zzJ|zzK|zzL|zzM|zzN|zzO|zzP|zzQ|zzR|zzS|zzT|zzU|zzV|zzW|zzX|zzY|zzZ|zza|zzb|zzc|zzd|zze|zzf|zzg|zzh|zzi|zzj|zzk|zzl|zzm|zzn|zzo|zzp|zzq|zzr|zzs|zzt|zzu|zzv|zzw|zzx|zzy|zzz|zyA|zyB|zyC|zyD|zyE|zyF|zyG|zyH|zyI|zyJ|zyK|zyL|zyM|zyN|zyO|zyP|zyQ|zyR|zyS|zyT|zyU|zyV|zyW|zyX|zyY|zyZ|zya|zyb|zyc|zyd|zye|zyf|zyg|zyh|zyi|zyj|zyk|zyl|zym|zyn|zyo|zyp|zyq|zyr|zys|zyt|zyu|zyv|zyw|zyx => k_is)
    (case zyy => decide)
end
