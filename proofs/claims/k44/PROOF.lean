import PyProof.Rows.All
import Wide.All
import OpenK.AllK
import Wide.FinOn
import PyProof.EqAt
import PyProof.EqKinds
import PyProof.TupleCall
import Lean
import PyProof.TupleKey
import Wide.Seal
import PyProof.NeKinds
import PyProof.Rows.RuleDivmod
import PyProof.Rows.FactsN_divmod
import PyProof.DictItems
import KE.KPairComp
import PyProof.Draws
import PyProof.IsRules
import KE.KDictList
import KE.KItemsList
import PyProof.EnumMake
import KE.KRevIter
import KE.KDictOf
import PyProof.AttrMissHeap
import PyProof.Rows.SortRunsK
import PySem.Challenge.RW_barfloors_k44_what_boxes_leave
theorem AA:type_of% @PySem.wpAny_bind:=@PySem.wpAny_bind
theorem AB:type_of% @PySem.wpAny_pure:=@PySem.wpAny_pure
theorem AC:type_of% @beq_eq_false_iff_ne:=@beq_eq_false_iff_ne
theorem AD:type_of% @List.mem_cons_of_mem:=@List.mem_cons_of_mem
theorem AE:type_of% @PySem.Heap.get?_push_of_some:=@PySem.Heap.get?_push_of_some
theorem AF:type_of% @List.mem_cons_self:=@List.mem_cons_self
theorem AG:type_of% @List.getElem?_eq_some_iff:=@List.getElem?_eq_some_iff
theorem AH:type_of% @if_pos:=@if_pos
theorem AI:type_of% @Nat.le_refl:=@Nat.le_refl
theorem AJ:type_of% @List.getElem?_eq_getElem:=@List.getElem?_eq_getElem
theorem AK:type_of% @List.size_toArray:=@List.size_toArray
theorem AL:type_of% @List.mem_cons:=@List.mem_cons
theorem AM:type_of% @PySem.Heap.lt_size:=@PySem.Heap.lt_size
theorem AN:type_of% @List.map_cons:=@List.map_cons
theorem AO:type_of% @if_neg:=@if_neg
theorem AQ:type_of% @decide_eq_false:=@decide_eq_false
theorem AR:type_of% @PySem.W.mg_of:=@PySem.W.mg_of
theorem AS:type_of% @Option.some.inj:=@Option.some.inj
theorem AT:type_of% @List.getElem?_append_left:=@List.getElem?_append_left
theorem AU:type_of% @PySem.Heap.get?_push_size:=@PySem.Heap.get?_push_size
theorem AV:type_of% @Nat.le_trans:=@Nat.le_trans
theorem AW:type_of% @decide_eq_true:=@decide_eq_true
theorem AX:type_of% @List.length_map:=@List.length_map
theorem AY:type_of% @Nat.lt_of_lt_of_le:=@Nat.lt_of_lt_of_le
theorem AZ:type_of% @Nat.ne_of_lt:=@Nat.ne_of_lt
theorem Aa:type_of% @List.length_append:=@List.length_append
theorem Ab:type_of% @PySem.Heap.get?_update_other:=@PySem.Heap.get?_update_other
theorem Ac:type_of% @List.getElem?_set_self:=@List.getElem?_set_self
theorem Ae:type_of% @List.length_cons:=@List.length_cons
theorem Af:type_of% @List.getElem?_set_ne:=@List.getElem?_set_ne
theorem Ag:type_of% @Bool.false_ne_true:=@Bool.false_ne_true
theorem Ah:type_of% @List.lookup_cons:=@List.lookup_cons
theorem Ai:type_of% @List.getElem?_map:=@List.getElem?_map
theorem Aj:type_of% @List.append_assoc:=@List.append_assoc
theorem Ak:type_of% @List.nodup_cons:=@List.nodup_cons
theorem Al:type_of% @beq_self_eq_true:=@beq_self_eq_true
theorem Am:type_of% @List.mem_of_getElem?:=@List.mem_of_getElem?
theorem An:type_of% @List.mem_singleton:=@List.mem_singleton
theorem Ao:type_of% @Nat.lt_of_le_of_lt:=@Nat.lt_of_le_of_lt
theorem Ap:type_of% @List.mem_append_right:=@List.mem_append_right
theorem Aq:type_of% @List.not_mem_nil:=@List.not_mem_nil
theorem Ar:type_of% @Bool.false_eq_true:=@Bool.false_eq_true
theorem As:type_of% @List.length_eq_zero_iff:=@List.length_eq_zero_iff
theorem At:type_of% @PySem.wpAny_holding:=@PySem.wpAny_holding
theorem Au:type_of% @PySem.W.mg_none_of:=@PySem.W.mg_none_of
theorem Av:type_of% @Bool.and_eq_true:=@Bool.and_eq_true
theorem Aw:type_of% @PySem.wpAny_field:=@PySem.wpAny_field
theorem Ax:type_of% @PySem.wpAny_callSpecial?_slot:=@PySem.wpAny_callSpecial?_slot
theorem Ay:type_of% @PySem.wpAny_call_entry:=@PySem.wpAny_call_entry
theorem Az:type_of% @PySem.wpAny_newObj_type:=@PySem.wpAny_newObj_type
theorem A0:type_of% @Nat.add_le_add_left:=@Nat.add_le_add_left
theorem A1:type_of% @List.mem_append:=@List.mem_append
theorem A2:type_of% @PySem.wpAny_mono:=@PySem.wpAny_mono
theorem A3:type_of% @Nat.zero_le:=@Nat.zero_le
theorem A4:type_of% @if_false:=@if_false
theorem A5:type_of% @PySem.wpAny_truthy_bool:=@PySem.wpAny_truthy_bool
theorem A6:type_of% @List.find?_cons:=@List.find?_cons
theorem A7:type_of% @PySem.mem_of_lookup:=@PySem.mem_of_lookup
theorem A8:type_of% @List.mem_map:=@List.mem_map
theorem A9:type_of% @List.map_map:=@List.map_map
theorem BA:type_of% @Array.getElem?_eq_some_iff:=@Array.getElem?_eq_some_iff
theorem BB:type_of% @PySem.wpAny_isInstance:=@PySem.wpAny_isInstance
theorem BC:type_of% @PyProof.Rows.slot_tuple_getitem:=@PyProof.Rows.slot_tuple_getitem
theorem BD:type_of% @PySem.wpAny_typeNameOfWhole_keyiter:=@PySem.wpAny_typeNameOfWhole_keyiter
theorem BE:type_of% @List.getElem?_replicate:=@List.getElem?_replicate
theorem BF:type_of% @Array.length_toList:=@Array.length_toList
theorem BG:type_of% @PySem.wpAny_setField:=@PySem.wpAny_setField
theorem BH:type_of% @PySem.F.slot_dict_keyiterator_next:=@PySem.F.slot_dict_keyiterator_next
theorem BI:type_of% @List.filter_cons:=@List.filter_cons
theorem BJ:type_of% @PySem.Obj.data_mapFields:=@PySem.Obj.data_mapFields
theorem BK:type_of% @PySem.Heap.get?_update_self:=@PySem.Heap.get?_update_self
theorem BL:type_of% @beq_false_of_ne:=@beq_false_of_ne
theorem BM:type_of% @List.getElem?_append_right:=@List.getElem?_append_right
theorem BN:type_of% @Int.toNat_natCast:=@Int.toNat_natCast
theorem BO:type_of% @PySem.wpAny_typeNameOf_keyiter:=@PySem.wpAny_typeNameOf_keyiter
theorem BP:type_of% @PySem.wpAny_attempt:=@PySem.wpAny_attempt
theorem BQ:type_of% @Nat.lt_irrefl:=@Nat.lt_irrefl
theorem BR:type_of% @PySem.wpAny_standAt:=@PySem.wpAny_standAt
theorem BS:type_of% @List.append_nil:=@List.append_nil
theorem BU:type_of% @PySem.wpAny_dictEntries:=@PySem.wpAny_dictEntries
theorem BV:type_of% @PySem.Obj.isFreed_of_fields:=@PySem.Obj.isFreed_of_fields
theorem BW:type_of% @List.length_singleton:=@List.length_singleton
theorem BX:type_of% @Bool.and_false:=@Bool.and_false
theorem BY:type_of% @PySem.wpAny_rule:=@PySem.wpAny_rule
theorem BZ:type_of% @List.getElem?_of_mem:=@List.getElem?_of_mem
theorem Ba:type_of% @Nat.le_add_right:=@Nat.le_add_right
theorem Bb:type_of% @Bool.not_true:=@Bool.not_true
theorem Bc:type_of% @Prod.mk.inj:=@Prod.mk.inj
theorem Bd:type_of% @List.filterMap_cons:=@List.filterMap_cons
theorem Be:type_of% @List.map_congr_left:=@List.map_congr_left
theorem Bf:type_of% @List.mem_map_of_mem:=@List.mem_map_of_mem
theorem Bg:type_of% @List.map_append:=@List.map_append
theorem Bh:type_of% @PySem.wpAny_execs_nil:=@PySem.wpAny_execs_nil
theorem Bi:type_of% @PySem.pushCells_keeps:=@PySem.pushCells_keeps
theorem Bj:type_of% @Int.natCast_mul:=@Int.natCast_mul
theorem Bk:type_of% @or_false:=@or_false
theorem Bl:type_of% @List.cons.inj:=@List.cons.inj
theorem Bm:type_of% @congrArg:=@congrArg
set_option Elab.async false
set_option linter.all false
set_option maxRecDepth 100000
set_option maxHeartbeats 0
section
namespace EX
open PySem PySem.Spec PyProof.Rows
theorem YA:entryFor table "proto.unchain" = some Builtin.«proto.unchain» := entryFor_of_fast (by kernel_rfl)
def Hnd (A:Around) (h:Heap):Prop := ∀ v,A.handled=some v -> ∃ ea oe vs,v=Value.ref ea∧h.get? ea=some oe∧oe.data = .fields vs∧vs[2]? = some .none
section
variable {prog:Program} {w:World} {A:Around} {E:Value->Shared->Prop} {s:Shared}
theorem jV {e v:Value} {ea:Addr} {oe:Obj} {vs:Array Value} {Q:Value->Shared->Prop} (ho:s.heap.get? ea=some oe) (hd:oe.data = .fields vs) (h2:vs[2]? = some .none) (hq:Q .none s) :
  wpAny (model prog w) A (runValue (.builtin "proto.unchain" ⟨[e,.ref ea,v,.bool false],[]⟩)) Q E s:=by
 refine wpAny_runValue (codeAny_builtin YA ?_)
 unfold Builtin.«proto.unchain»
 dsimp only
 refine AA (Aw ho hd h2 ?_)
 rw [AH (show (Value.none==Value.none)=true by rfl)]
 refine AA (AB (AB ?_))
 exact hq
theorem Y4 {α:Type} {e:Addr} {oe:Obj} {vs:Array Value} {Q:α->Shared->Prop} (hn:Hnd A s.heap) (he:s.heap.get? e=some oe) (hd:oe.data = .fields vs) (hsz:2 < vs.size) (hne:∀ ea,A.handled=some (.ref ea)->ea≠e)
  (h:∀ h' o',Heap.SameBut e s.heap h'->h'.get? e=some o'->o'.cls=oe.cls->E (.ref e) { s with heap:=h' }):wpAny (model prog w) A (raiseNew (.ref e):Sem α) Q E s:=by
 unfold raiseNew
 refine AA (wpAny_handled ?_)
 cases hh:A.handled with
 |none=>exact AA (AB (wpAny_throw (h s.heap oe (.refl ..) he rfl)))
 |some v =>
  obtain ⟨ea,o,ws,rfl,ho,hdo,h2⟩:=hn v hh
  have hne':=hne ea hh
  have hb:(Value.ref ea != Value.ref e)=true:=by
   rw [bne_iff_ne];intro z;cases z;exact hne' rfl
  dsimp only
  rw [AH hb]
  refine AA (At (jV ho hdo h2 ?_))
  refine AA (BG (x:=Value.ref ea) he hd hsz (wpAny_throw ?_))
  exact h _ _ (Heap.SameBut.update ..) (BK _ he (BV (BJ hd _))) (Obj.cls_mapFields ..)
theorem w9 {α:Type} {Q:α->Shared->Prop} (hn:Hnd A s.heap) (h:∀ h' e,(∀ b o,s.heap.get? b=some o->h'.get? b=some o)->(∃ o',h'.get? e=some o'∧o'.cls = .type "StopIteration")->E (.ref e) { s with heap:=h' }) :
  wpAny (model prog w) A (newExc (.type "StopIteration") [] >>= fun e=>(raiseNew e:Sem α)) Q E s:=by
 refine AA ?_
 unfold newExc newTuple
 refine AA (Az ?_ (by size_fits))
 refine AA (m:=firstArgMember _ _) (wpAny_of_eq (a:=Value.none) (by first |rfl |(simp only [firstArgMember];rfl)) ?_)
 refine Az ?_ (by size_fits)
 have up:∀ {b o},s.heap.get? b=some o->((s.heap.push { cls := .type "tuple",data := .seq ([]:List Value).toArray }).push { cls := .type "StopIteration",data := .fields (#[.ref s.heap.objs.size,.none,.none,.none,.bool false,.none]++ownMembersOf (.type "StopIteration") []) }).get? b=some o:=fun q=>AE _ (AE _ q)
 refine Y4 (oe:={ cls := .type "StopIteration",data := .fields (#[.ref s.heap.objs.size,.none,.none,.none,.bool false,.none]++ownMembersOf (.type "StopIteration") []) }) ?_ (AU _ rfl) rfl (by simp [ownMembersOf]) (fun ea hea => ?_) fun h' o' sb ho' hc=>h h' _ (fun b o q => ?_) ⟨o',ho',hc⟩
 ·intro v hv
  obtain ⟨ea,oe,vs,e1,e2,e3⟩:=hn v hv
  exact ⟨ea,oe,vs,e1,up e2,e3⟩
 ·obtain ⟨ea',oe,vs,e1,e2,e3⟩:=hn _ hea
  cases e1
  exact AZ (Nat.lt_trans (AM e2) (by simp))
 ·exact (sb.2 b (AZ (Nat.lt_trans (AM q) (by simp)))).trans (up q)
theorem list_end {it l:Addr} {i:Nat} {items} {Q:Option Value->Shared->Prop} (hn:Hnd A s.heap) (z1:s.heap.IsListIter it l i) (z2:s.heap.IsList l items) (z3:items[i]? = none) (z4:∀ v,A.handled=some v->v ≠ .ref it)
  (hQ:∀ h',(∀ b o,b≠it->s.heap.get? b=some o->h'.get? b=some o)->Q none { s with heap:=h' }):wpAny (model prog w) A (pyNext (.ref it)) Q E s:=by
 obtain ⟨ob,g1,g2,g3⟩:=id z1
 obtain ⟨ol,g4,_,nl,g5⟩:=z2
 unfold pyNext
 refine AA (BP (Ax (name:=Str.ofString "__next__") z1.typeIs slot_listiter_next (Ay slot_listiter_next z1.typeIs entry_listiter_next ?_ (args_listiter_next _))))
 change wpAny _ A.in1 (field (Value.ref it) 0 >>= _) _ _ s
 refine AA (Aw g1 g3 (x:=Value.ref l) rfl ?_)
 change wpAny _ A.in1 (if (Value.ref l==Value.none)=true then _ else _) _ _ s
 rw [AO (fun z:(Value.ref l==Value.none)=true=>Ag z)]
 change wpAny _ A.in1 (field (Value.ref it) 1 >>= _) _ _ s
 refine AA (Aw g1 g3 (x:=Value.int i 0) rfl ?_)
 change wpAny _ A.in1 (seqItems? (Value.ref l) >>= _) _ _ s
 refine AA (wpAny_seqItems g4 g5 ?_)
 simp only [BN,z3]
 refine AA (BY (AA (BG g1 g3 (by simp) ?_)))
 refine w9 (A:=A.in1) ?_ fun h' e k ht => ?_
 ·intro v hv
  obtain ⟨ea,oe,vs,e1,e2,e3⟩:=hn v hv
  refine ⟨ea,oe,vs,e1,?_,e3⟩
  have hne:ea≠it:=fun z=>z4 v hv (by rw [e1,z])
  exact (Ab _ _ (Ne.symm hne)).trans e2
 ·refine AA (BB (T := "StopIteration") (b:=true) ht isSubtype_stop ?_)
  exact AB (hQ _ fun b o' hb q=>k b o' ((Ab _ _ (Ne.symm hb)).trans q))
theorem tuple_end {it l:Addr} {i:Nat} {items} {Q:Option Value->Shared->Prop} (hn:Hnd A s.heap) (z1:s.heap.IsTupleIter it l i) (z2:s.heap.IsTuple l items) (z3:items[i]? = none) (z4:∀ v,A.handled=some v->v ≠ .ref it)
  (hQ:∀ h',(∀ b o,b≠it->s.heap.get? b=some o->h'.get? b=some o)->Q none { s with heap:=h' }):wpAny (model prog w) A (pyNext (.ref it)) Q E s:=by
 obtain ⟨ob,g1,g2,g3⟩:=id z1
 obtain ⟨ol,g4,_,nl,g5⟩:=z2
 unfold pyNext
 refine AA (BP (Ax (name:=Str.ofString "__next__") z1.typeIs F.slot_tuple_iterator_next (Ay F.slot_tuple_iterator_next z1.typeIs F.entry_tuple_iterator_next ?_ (F.args_tuple_iterator_next_1 _))))
 change wpAny _ A.in1 (field (Value.ref it) 0 >>= _) _ _ s
 refine AA (Aw g1 g3 (x:=Value.ref l) rfl ?_)
 change wpAny _ A.in1 (if (Value.ref l==Value.none)=true then _ else _) _ _ s
 rw [AO (fun z:(Value.ref l==Value.none)=true=>Ag z)]
 change wpAny _ A.in1 (field (Value.ref it) 1 >>= _) _ _ s
 refine AA (Aw g1 g3 (x:=Value.int i 0) rfl ?_)
 change wpAny _ A.in1 (seqItems? (Value.ref l) >>= _) _ _ s
 refine AA (wpAny_seqItems g4 g5 ?_)
 simp only [BN,z3]
 refine AA (BY (AA (BG g1 g3 (by simp) ?_)))
 refine w9 (A:=A.in1) ?_ fun h' e k ht => ?_
 ·intro v hv
  obtain ⟨ea,oe,vs,e1,e2,e3⟩:=hn v hv
  refine ⟨ea,oe,vs,e1,?_,e3⟩
  have hne:ea≠it:=fun z=>z4 v hv (by rw [e1,z])
  exact (Ab _ _ (Ne.symm hne)).trans e2
 ·refine AA (BB (T := "StopIteration") (b:=true) ht isSubtype_stop ?_)
  exact AB (hQ _ fun b o' hb q=>k b o' ((Ab _ _ (Ne.symm hb)).trans q))
theorem range_end {it:Addr} {x left step:Int} {Q:Option Value->Shared->Prop} (hn:Hnd A s.heap) (z1:IsRangeIter s.heap it x left step) (z2:left≤0)
  (hQ:∀ h',(∀ b o,s.heap.get? b=some o->h'.get? b=some o)->Q none { s with heap:=h' }):wpAny (model prog w) A (pyNext (.ref it)) Q E s:=by
 have z0:s.TypeIs (.ref it) "range_iterator" := ⟨_,z1,rfl⟩
 unfold pyNext
 refine AA (BP (Ax (name:=Str.ofString "__next__") z0 F.slot_range_iterator_next (Ay F.slot_range_iterator_next z0 F.entry_range_iterator_next ?_ (F.args_range_iterator_next_1 _))))
 change wpAny _ A.in1 (field (Value.ref it) 0 >>= _) _ _ s
 refine AA (Aw z1 rfl (x:=rawInt x) rfl ?_)
 change wpAny _ A.in1 (field (Value.ref it) 1 >>= _) _ _ s
 refine AA (Aw z1 rfl (x:=rawInt left) rfl ?_)
 change wpAny _ A.in1 (field (Value.ref it) 2 >>= _) _ _ s
 refine AA (Aw z1 rfl (x:=rawInt step) rfl ?_)
 change wpAny _ A.in1 (if left≤0 then _ else _) _ _ s
 rw [AH z2]
 refine AA (BY (AA ?_))
 refine w9 (A:=A.in1) hn fun h' e k ht => ?_
 refine AA (BB (T := "StopIteration") (b:=true) ht isSubtype_stop ?_)
 exact AB (hQ _ k)
end
end EX
end
section
namespace EN
open PySem
variable {P:Program} {w:World} {K:Type} [DecidableEq K] {kd:KeyKind P w K} {A:Around} {E:Value->Shared->Prop} {s:Shared}
inductive Rows (kd:KeyKind P w K) (h:Heap):List (List K)->List Value->Prop
 |z:Rows kd h [] []
 |c {k v ks vs}:(∃ b,v = .ref b∧IsTupleKey kd h k b)->Rows kd h ks vs->Rows kd h (k::ks) (v::vs)
def Nest (kd:KeyKind P w K) (h:Heap) (ks:List (List K)) (a:Addr):Prop := ∃ o is n,h.get? a=some o∧o.cls = .type "tuple" ∧ o.data = .seq is n∧Rows kd h ks is.toList
theorem qAv {h:Heap} {x y:List (List K)} {vs:List Value} (a:Rows kd h x vs) (b:Rows kd h y vs):x=y:=by
 induction a generalizing y with
 |z=>cases b;rfl
 |c p _ ih =>
  cases b with
  |c q r =>
   obtain ⟨b1,e1,p⟩:=p
   obtain ⟨b2,e2,q⟩:=q
   rw [e1] at e2
   injection e2 with e2
   subst e2
   rw [p.inj q,ih r]
theorem Nest.cl {x:List (List K)} {a:Addr} (q:Nest kd s.heap x a):s.TypeIs (.ref a) "tuple" := ⟨q.choose,q.choose_spec.choose_spec.choose_spec.1,q.choose_spec.choose_spec.choose_spec.2.1⟩
theorem Nest.one {h:Heap} {a:Addr} {x y:List (List K)} (p:Nest kd h x a) (q:Nest kd h y a):x=y:=by
 obtain ⟨o,i,n,e1,_,e2,e3⟩:=p
 obtain ⟨o',i',n',f1,_,f2,f3⟩:=q
 rw [e1] at f1
 injection f1 with f1
 subst f1
 rw [e2] at f2
 injection f2 with f2 _
 subst f2
 exact qAv e3 f3
theorem Jt {h h':Heap} (g:∀ k b,IsTupleKey kd h k b->IsTupleKey kd h' k b) {x:List (List K)} {vs:List Value} (a:Rows kd h x vs):Rows kd h' x vs:=by
 induction a with
 |z=>exact .z
 |c p _ ih=>exact .c (let ⟨b,e,q⟩:=p;⟨b,e,g _ _ q⟩) ih
theorem Nest.kp {h h':Heap} {x:List (List K)} {a d:Addr} {o:Obj} {es ep} (q:Nest kd h x a) (e1:h.get? d=some o) (e2:o.data = .dict es ep) (e3:Heap.SameBut d h h'):Nest kd h' x a:=by
 obtain ⟨o',i,n,f1,fc,f2,f3⟩:=q
 have hn:a≠d:=fun z=>by
  subst z
  rw [e1] at f1
  injection f1 with f1
  subst f1
  rw [e2] at f2
  cases f2
 exact ⟨o',i,n,(e3.2 a hn).trans f1,fc,f2,Jt (fun _ _ z=>z.keeps e1 e2 e3) f3⟩
def qBF (kd:KeyKind P w K) (ks:List (List K)):Int:=reduceHash (Builtin.Tuple.tupleHashOf (ks.map (tupleKeyHash kd)))
def zE (ks:List (List K)):Nat:=(ks.map fun k=>k.length + 1).sum
theorem J9 {x y:List (List K)}:zE (x++y)=zE x + zE y:=by unfold zE;rw [Bg,List.sum_append]
theorem Nest.hash {x:List (List K)} {a:Addr} {Q:Int->Shared->Prop} (hu:A.units + 2 < cLine) (q:Nest kd s.heap x a) (h:Q (qBF kd x) { s with toks:=s.toks + (zE x + 1) }):wpAny (model P w) A (PySem.pyHash (.ref a)) Q E s:=by
 have T:=q.cl
 obtain ⟨o,is,n,e1,_,e2,e3⟩:=q
 show wpAny _ _ (pyHashByItsType (.ref a)) Q E s
 refine W.pyHash_slot (T := "tuple") T F.slot_tuple_hash F.entry_tuple_hash (F.args_tuple_hash_1 _) (beq_builtin_none _) (.inr (by omega)) ?_
 refine AA (m:=Builtin.Tuple.tupleItemsOf (.ref a)) (wpAny_tupleItemsOf e1 e2 (AA ?_))
 rw [← Array.forIn_toList]
 refine wpAny_forIn_list _ (fun rest (b:Array Int) t => ∃ u v,x=u++v∧Rows kd s.heap v rest∧b.toList=u.map (tupleKeyHash kd)∧t={ s with toks:=s.toks + zE u }) _ ?_ ?_ _ _ ⟨[],x,rfl,e3,rfl,rfl⟩
 ·rintro y rest b t ⟨u,v,rfl,hv,hb,rfl⟩
  cases hv with
  | @c k _ ks _ p r =>
   obtain ⟨d,rfl,p⟩:=p
   refine AA (wpAny_pyHash_tuple (show A.units + 1 < cLine by omega) p ?_)
   have g:zE (u++[k])=zE u + (k.length + 1):=by rw [J9];rfl
   first
    |exact AB ⟨u++[k],ks,by simp,r,by simp [hb],by simp [g,Nat.add_assoc]⟩
    |exact AA (AB (AB ⟨u++[k],ks,by simp,r,by simp [hb],by simp [g,Nat.add_assoc]⟩))
 ·rintro b t ⟨u,v,rfl,hv,hb,rfl⟩
  cases hv
  rw [BS] at h
  dsimp only
  rw [hb];unfold retInt
  refine AA (wpAny_mkInt (AB ⟨_,_,rfl,?_⟩))
  simpa [qBF,Nat.add_assoc] using h
theorem qAB {x y:List (List K)} {a b:Addr} {R:Fin->Shared->Prop} (hu:A.units < cLine) (p:Nest kd s.heap x a) (q:Nest kd s.heap y b) (h:R (.done (.ret (.bool (decide (x=y))))) s) :
  wpAny (model P w) A (Builtin.«tuple.__eq__» ⟨[.ref a,.ref b],[]⟩) R E s:=by
 have T:=q.cl
 obtain ⟨o1,i1,n1,e1,_,f1,g1⟩:=p
 obtain ⟨o2,i2,n2,e2,_,f2,g2⟩:=q
 refine AA (m:=isInstance (.ref b) (.type "tuple")) (BB T isSubtype_tuple_tuple ?_)
 simp only [Ar,Bb,A4]
 refine AA (wpAny_tupleItemsOf e1 f1 (AA (wpAny_tupleItemsOf e2 f2 (AA ?_))))
 refine wpAny_forIn_list _ (fun rest r t=>r.1=none∧t=s ∧ ∃ x1 y1 v1 v2,rest=List.zip v1 v2∧Rows kd s.heap x1 v1∧Rows kd s.heap y1 v2∧decide (x1=y1)=decide (x=y)∧(v1.length==v2.length)=(i1.size==i2.size)) _ ?_ ?_ _ _ ⟨rfl,rfl,x,y,i1.toList,i2.toList,rfl,g1,g2,rfl,by simp⟩
 ·rintro ⟨u,v⟩ rest r t ⟨hr,rfl,x1,y1,v1,v2,hz,k1,k2,hd,hl⟩
  cases k1 with
  |z=>simp at hz
  | @c c1 u1 x2 v3 m1 k1 =>
   cases k2 with
   |z=>simp at hz
   | @c c2 u2 y2 v4 m2 k2 =>
    rw [List.zip_cons_cons,List.cons.injEq,Prod.mk.injEq] at hz
    obtain ⟨⟨rfl,rfl⟩,hz⟩:=hz;subst hz
    obtain ⟨d1,rfl,m1⟩:=m1
    obtain ⟨d2,rfl,m2⟩:=m2
    refine AA (wpAny_eqBool_tuple hu m1 m2 ?_)
    by_cases hk:c1=c2
    ·subst hk
     rw [AW rfl]
     simp only [Ar,Bb,A4]
     refine AB ⟨rfl,rfl,x2,y2,v3,v4,rfl,k1,k2,?_,by simpa using hl⟩
     rw [← hd]
     exact decide_eq_decide.mpr ⟨(fun z=>by rw [z]),fun z=>by injection z⟩
    ·rw [AQ hk]
     simp only [if_true,Bool.not_false]
     have hf:decide (x=y)=false:=by rw [← hd];exact AQ fun z=>hk (by injection z)
     rw [hf] at h
     exact AA (by exact AB (AB (AB h)))
 ·rintro ⟨r1,r2⟩ t ⟨hr,rfl,x1,y1,v1,v2,hz,k1,k2,hd,hl⟩
  have hr:r1=none:=hr
  subst hr
  refine AB ?_
  have hf:(i1.size==i2.size)=decide (x=y):=by
   rw [← hd,← hl]
   cases k1 with
   |z=>cases k2 with
    |z=>simp
    |c _ _=>simp
   |c _ _=>cases k2 with
    |z=>simp
    |c _ _=>simp at hz
  show R (.done (.ret (.bool (i1.size==i2.size)))) t
  rw [hf];exact h
theorem Nest.eq {x y:List (List K)} {a b:Addr} {Q:Bool->Shared->Prop} (hu:A.units + 2 < cLine) (p:Nest kd s.heap x a) (q:Nest kd s.heap y b) (h:Q (decide (x=y)) s):wpAny (model P w) A (PySem.eqBool (.ref a) (.ref b)) Q E s:=by
 unfold eqBool
 (try with_reducible refine At ?_);show wpAny _ _ (if (Value.ref a == .ref b)=true then _ else _) Q E s
 by_cases e:(Value.ref a==Value.ref b)=true
 ·rw [AH e]
  have e:=eq_of_beq e
  injection e with e
  subst e
  have:=p.one q
  subst this
  exact AA (BY (AB (by rw [AW rfl] at h;exact h)))
 ·rw [AO e]
  exact AA (wpAny_richCompare_same_room (op := .Eq) p.cl q.cl F.slot_tuple_eq (Ay F.slot_tuple_eq p.cl F.entry_tuple_eq (qAB (show A.units + 1 < cLine by omega) p q ⟨_,rfl,(fun e=>nomatch e),A5 h⟩) (F.args_tuple_eq_2 _ _)) (by omega))
theorem qE8 {n:Nat} {ks:List K} {a:Addr} {Q:Bool->Shared->Prop} (hk:IsTupleKey kd s.heap ks a) (h:Q true s):wpAny (model P w) A (eqIsQuiet (n + 1) (.ref a)) Q E s:=by
 have T:=hk.typeIs
 obtain ⟨o,is,m,e1,_,e2,e3⟩:=hk
 unfold eqIsQuiet
 refine AA (wpAny_specialOf T F.slot_tuple_eq.lookup ?_)
 refine AA (m:=isInstance (.ref a) (.type "tuple")) (BB T isSubtype_tuple_tuple ?_)
 simp only [Ar,Bb,A4]
 refine AA (wpAny_seqItems e1 e2 (AA ?_))
 show wpAny _ _ (forIn is _ _) _ _ s
 rw [← Array.forIn_toList]
 refine wpAny_forIn_list _ (fun rest r t=>r.1=none∧t=s ∧ ∀ v∈rest,carriedByValue v=true) _ ?_ ?_ _ _ ⟨rfl,rfl,e3.byValue⟩
 ·rintro v rest r t ⟨hr,rfl,g⟩
  rw [eqIsQuiet_byValue _ (g v AF)]
  refine AA (AB ?_);simp only [Ar,Bb,A4]
  exact AB ⟨rfl,rfl,fun u hu=>g u (AD _ hu)⟩
 ·rintro ⟨r1,r2⟩ t ⟨hr,rfl,_⟩
  have hr:r1=none:=hr
  subst hr
  exact AB h
theorem qAb {h:Heap} {x:List (List K)} {vs:List Value} (a:Rows kd h x vs):∀ v∈vs,∃ k b,v = .ref b∧IsTupleKey kd h k b:=by
 induction a with
 |z=>intro v hv;cases hv
 | @c k v ks vs p _ ih =>
  intro u hu
  rcases AL.mp hu with z |z
  ·obtain ⟨b,e,p⟩:=p;exact ⟨k,b,z.trans e,p⟩
  ·exact ih u z
theorem Nest.quiet {x:List (List K)} {a:Addr} {Q:Bool->Shared->Prop} (q:Nest kd s.heap x a) (h:Q true s):wpAny (model P w) A (eqIsQuiet 8 (.ref a)) Q E s:=by
 have T:=q.cl
 obtain ⟨o,is,m,e1,_,e2,e3⟩:=q
 unfold eqIsQuiet
 refine AA (wpAny_specialOf T F.slot_tuple_eq.lookup ?_)
 refine AA (m:=isInstance (.ref a) (.type "tuple")) (BB T isSubtype_tuple_tuple ?_)
 simp only [Ar,Bb,A4]
 refine AA (wpAny_seqItems e1 e2 (AA ?_))
 show wpAny _ _ (forIn is _ _) _ _ s
 rw [← Array.forIn_toList]
 refine wpAny_forIn_list _ (fun rest r t=>r.1=none∧t=s ∧ ∀ v∈rest,∃ k b,v = .ref b∧IsTupleKey kd s.heap k b) _ ?_ ?_ _ _ ⟨rfl,rfl,qAb e3⟩
 ·rintro v rest r t ⟨hr,rfl,g⟩
  obtain ⟨k,b,rfl,p⟩:=g v AF
  refine AA (qE8 (n:=6) p ?_)
  simp only [Ar,Bb,A4]
  exact AB ⟨rfl,rfl,fun u hu=>g u (AD _ hu)⟩
 ·rintro ⟨r1,r2⟩ t ⟨hr,rfl,_⟩
  have hr:r1=none:=hr
  subst hr
  exact AB h
def nestKind (kd:KeyKind P w K):HeapKind P w (List (List K)) where
 is:=Nest kd
 hash:=qBF kd
 draws:=fun ks=>zE ks + 1
 room:=fun A=>A.units + 2 < cLine
 inj:=fun p q=>p.one q
 keeps:=fun q e1 e2 e3=>q.kp e1 e2 e3
 pyHash:=fun hu q h=>q.hash hu h
 eqBool:=fun hu p q h=>p.eq hu q h
 quiet:=fun q h=>q.quiet h
end EN
end
section
namespace L2
open PySem PySem.Spec PyProof.Rows
abbrev Key:=Sum Int Str
def Zq:Key->Value->Bool
 | .inl k,v=>Value.isInt k v
 | .inr x,v=>Value.isStrOf x v
def qGP (w:World):Key->Int
 | .inl k=>hashInt k
 | .inr x=>hashStr w x
theorem QD:∀ {k:Key} {v:Value},Zq k v=true->(∃ i t,k=Sum.inl i∧v=Value.int i t)∨(∃ x t,k=Sum.inr x∧v=Value.str x t)
 | .inl i,v,h=>by
  obtain ⟨t,e⟩:=Value.isInt_shape (k:=i) (v:=v) h
  exact .inl ⟨i,t,rfl,e⟩
 | .inr x,v,h=>by
  obtain ⟨t,e⟩:=Value.isStrOf_shape (x:=x) (v:=v) h
  exact .inr ⟨x,t,rfl,e⟩
theorem Jq (i:Int) (t:Tok):Zq (.inl i) (.int i t)=true:=by simp [Zq,Value.isInt]
theorem Jn (x:Str) (t:Tok):Zq (.inr x) (.str x t)=true:=by simp [Zq,Value.isStrOf]
theorem qDi (a b:Int):decide ((Sum.inl a:Key)=Sum.inl b)=(a==b):=by
 by_cases e:a=b
 ·subst e;simp
 ·have h:¬ (Sum.inl a:Key)=Sum.inl b:=fun q=>e (Sum.inl.inj q)
  rw [AQ h]
  exact (AC.mpr e).symm
theorem qEa (a b:Str):decide ((Sum.inr a:Key)=Sum.inr b)=decide (a=b):=by
 by_cases e:a=b
 ·subst e;simp
 ·have h:¬ (Sum.inr a:Key)=Sum.inr b:=fun q=>e (Sum.inr.inj q)
  rw [AQ h,AQ e]
theorem qDo (a:Int) (b:Str):decide ((Sum.inl a:Key)=Sum.inr b)=false:=AQ (fun q=>nomatch q)
theorem qEO (a:Str) (b:Int):decide ((Sum.inr a:Key)=Sum.inl b)=false:=AQ (fun q=>nomatch q)
def QP (prog:Program) (w:World):PySem.KeyKind prog w Key where
 is:=Zq
 hash:=qGP w
 inj:=fun v a b ha hb=>by
  rcases QD ha with ⟨i,t,rfl,rfl⟩ |⟨x,t,rfl,rfl⟩
  ·rcases QD hb with ⟨j,u,rfl,e⟩ |⟨y,u,rfl,e⟩
   ·injection e with e1 _;rw [e1]
   ·exact nomatch e
  ·rcases QD hb with ⟨j,u,rfl,e⟩ |⟨y,u,rfl,e⟩
   ·exact nomatch e
   ·injection e with e1 _;rw [e1]
 byValue:=fun k v h=>by
  rcases QD h with ⟨i,t,rfl,rfl⟩ |⟨x,t,rfl,rfl⟩ <;> rfl
 pyHash:=fun hv h=>by
  rcases QD hv with ⟨i,t,rfl,rfl⟩ |⟨x,t,rfl,rfl⟩
  ·exact wpAny_pyHash_int h
  ·exact wpAny_pyHash_str h
 eqBool:=fun hu hv h=>by
  rcases QD hu with ⟨i,t,rfl,rfl⟩ |⟨x,t,rfl,rfl⟩
  ·rcases QD hv with ⟨j,u,rfl,rfl⟩ |⟨y,u,rfl,rfl⟩
   ·rw [qDi] at h;exact wpAny_eqBool_int h
   ·rw [qDo] at h;exact SeqAt.EqAt.int_str i t y u _ _ _ _ h
  ·rcases QD hv with ⟨j,u,rfl,rfl⟩ |⟨y,u,rfl,rfl⟩
   ·rw [qEO] at h;exact SeqAt.EqAt.str_int x t j u _ _ _ _ h
   ·rw [qEa] at h;exact wpAny_eqBool_str h
 «strs» := fun k x t v h=>by
  rcases QD h with ⟨i,u,rfl,e⟩ |⟨y,u,rfl,e⟩
  ·exact nomatch e
  ·injection e with e1 _
   subst e1
   cases v <;> rfl
theorem yp (prog:Program) (w:World) (i:Int) (t:Tok):(QP prog w).is (.inl i) (.int i t)=true:=Jq i t
theorem Yp (prog:Program) (w:World) (x:Str) (t:Tok):(QP prog w).is (.inr x) (.str x t)=true:=Jn x t
end L2
namespace L2
open PySem PySem.Spec PyProof.Rows
inductive V where
 |non |bl (b:Bool) |int (i:Int) |str (x:Str) |byt (b:Array UInt8) |flt (b:UInt64) |ref (a:Addr) |ty (n:String)
 deriving DecidableEq
def RelV:V->Value->Prop
 | .non,u=>u=Value.none
 | .bl b,u=>u=Value.bool b
 | .int i,u => ∃ t,u=Value.int i t
 | .str x,u => ∃ t,u=Value.str x t
 | .byt b,u => ∃ t,u=Value.bytes b t
 | .flt b,u => ∃ t,u=Value.float b t
 | .ref a,u=>u=Value.ref a
 | .ty n,u=>u=Value.type n
abbrev Vals:List V->List Value->Prop:=Paired RelV
theorem Vals.length {xs:List V} {us:List Value} (r:Vals xs us):xs.length=us.length:=Paired.length r
theorem Vals.get:∀ {xs:List V} {us:List Value} {i:Nat} {x:V},Vals xs us->xs[i]? = some x -> ∃ u,us[i]? = some u∧RelV x u
 |_,_,_,_,.nil,e=>by simp at e
 |_,_,0,_,.cons r _,e=>by simp at e;subst e;exact ⟨_,rfl,r⟩
 |_,_,i + 1,x,.cons _ t,e=>by
  obtain ⟨u,h1,h2⟩:=Vals.get (i:=i) (x:=x) t (by simpa using e)
  exact ⟨u,by simpa using h1,h2⟩
theorem Vals.set {x:V} {u:Value} (r:RelV x u):∀ {xs:List V} {us:List Value} (i:Nat),Vals xs us->Vals (xs.set i x) (us.set i u)
 |_,_,_,.nil => .nil
 |_,_,0,.cons _ t => .cons r t
 |_,_,i + 1,.cons q t => .cons q (Vals.set r i t)
theorem Vals.append:∀ {xs ys:List V} {us ws:List Value},Vals xs us->Vals ys ws->Vals (xs++ys) (us++ws)
 |_,_,_,_,.nil,s=>s
 |_,_,_,_,.cons r t,s => .cons r (Vals.append t s)
theorem Vals.take:∀ {xs:List V} {us:List Value} (n:Nat),Vals xs us->Vals (xs.take n) (us.take n)
 |_,_,0,_ => .nil
 |_,_,_ + 1,.nil => .nil
 |_,_,n + 1,.cons r t => .cons r (Vals.take n t)
theorem Vals.drop:∀ {xs:List V} {us:List Value} (n:Nat),Vals xs us->Vals (xs.drop n) (us.drop n)
 |_,_,0,r=>r
 |_,_,_ + 1,.nil => .nil
 |_,_,n + 1,.cons _ t=>Vals.drop n t
def RelO:Option V->Option Value->Prop
 |some v,some u=>RelV v u
 |none,none=>True
 |_,_=>False
def KV {κ:Type}:List (κ×V)->List (κ×Value)->Prop:=Paired fun (p:κ×V) (q:κ×Value)=>p.1=q.1∧RelV p.2 q.2
def kV:Key->V
 | .inl i => .int i
 | .inr x => .str x
inductive HO where
 /-- a list -/
 |lst (xs:List V)
 /-- a tuple (never changes) -/
 |tup (xs:List V)
 /-- a dict whose keys are ints and texts;one whose keys are tuples of ints and texts (the empty one is both) -/
 |dK (kvs:List (Key×V)) |dT (kvs:List (List Key×V))
 /-- a dict whose keys are tuples of tuples -/
 |dN (kvs:List (List (List Key)×V))
 /-- a set of ints: its members,its size -/
 |set (S:Int->Bool) (n:Nat)
 /-- an instance of the class at C,its dict at dx,its attributes -/
 |ins (C dx:Addr) (fs:List (Str×V))
 /-- the dict of the instance at x -/
 |own (x:Addr)
 /-- the dict of an exception -/
 |xd (fs:List (Str×V))
 /-- a bound method,f of x -/
 |met (f x:Addr)
 /-- a range object lo,lo + 1,.. below hi -/
 |rng (lo hi:Int)
 /-- a thing that is known to the object (the script;a dict while a loop walks it): read,never written while it is so -/
 |frz (o:Obj) (u:HO)
 /-- a code object's table -/
 |tbl (ps:Array Value)
 /-- any other thing,by what is true of its one object (a def of one's own: SetO a S n:=HO.ext fun h => ..) -/
 |ext (φ:Heap->Prop)
abbrev Hp:=Addr->Option HO
def upd (H:Hp) (a:Addr) (o:HO):Hp:=fun b=>if b=a then some o else H b
theorem qb {H:Hp} {a:Addr} {o:HO}:upd H a o a=some o:=by unfold upd;rw [AH rfl]
theorem qK {H:Hp} {a b:Addr} {o:HO} (h:b≠a):upd H a o b=H b:=by unfold upd;rw [AO h]
theorem JN {H:Hp} {a b:Addr} {o u:HO} (h:H a=some o) (h':H b=some u) (d:o≠u):a≠b:=by
 intro e;subst e;rw [h] at h';exact d (AS h')
theorem qM {H:Hp} {a b:Addr} {o:HO} (h:H a=some o) (h':H b=none):a≠b:=by
 intro e;subst e;rw [h] at h';cases h'
def NK (H:Hp) (ks:List (List Key)) (a:Addr):Prop := ∃ bs:List Addr,H a=some (.tup (bs.map V.ref))∧Paired (fun k b=>H b=some (.tup (k.map kV))) ks bs
section
variable (P:Program) (w:World)
def ObjOk (H:Hp) (h:Heap) (a:Addr):HO->Prop
 | .lst xs=>xs.length≤sizeLine ∧ ∃ (its:List Value) (n:Nat),Vals xs its∧h.get? a=some { cls := .type "list",data := .seq its.toArray n }
 | .tup xs=>xs.length≤sizeLine ∧ ∃ its:List Value,Vals xs its∧IsTup h a its.toArray ∧ ∃ o,h.get? a=some o∧o.dict=none
 | .dK kvs=>kvs.length≤sizeLine∧(a==sysModules)=false ∧ ∃ vs,KV kvs vs∧h.DictOf (QP P w) a vs
 | .dT kvs=>kvs.length≤sizeLine∧(a==sysModules)=false ∧ ∃ xs:List (List Key×Addr×Value),
   Paired (fun (p:List Key×V) (q:List Key×Addr×Value)=>p.1=q.1∧H q.2.1=some (.tup (p.1.map kV))∧RelV p.2 q.2.2) kvs xs ∧
   ∃ o es ep,h.get? a=some o∧o.ExactDict∧o.data = .dict es ep∧es.toList=xs.map (entryOfKey (tupleKind (QP P w)))∧(xs.map (·.1)).Nodup
 | .dN kvs=>kvs.length≤sizeLine∧(a==sysModules)=false ∧ ∃ xs:List (List (List Key)×Addr×Value),Paired (fun (p:List (List Key)×V) (q:List (List Key)×Addr×Value)=>p.1=q.1∧NK H p.1 q.2.1∧RelV p.2 q.2.2) kvs xs ∧ ∃ o es ep,h.get? a=some o∧o.ExactDict∧o.data = .dict es ep∧es.toList=xs.map (entryOfKey (EN.nestKind (QP P w)))∧(xs.map (·.1)).Nodup
 | .set S n=>h.SetOf (intKind P w) a S n
 | .ins C dx fs=>H dx=some (.own a)∧fs.length≤1000∧dx≠a∧h.get? a=some (W.instObj C dx) ∧
   ∃ mA,h.Ns1 dx mA∧(∀ f,RelO (fs.lookup f) (mA f))∧PySem.Within mA (fs.map (·.1))
 | .own _ => ∃ o,h.get? a=some o
 | .xd fs => ∃ mA,h.Ns1 a mA ∧ ∀ f,RelO (fs.lookup f) (mA f)
 | .rng lo hi => ∃ t u v,h.get? a=some { cls := .type "range",data := .fields #[.int lo t,.int hi u,.int 1 v] }
 | .frz o u=>h.get? a=some o∧ObjOk H h a u
 | .tbl ps=>h.get? a=some { cls := .none,data := .fields ps }
 | .met f x=>h.get? a=some (W.methodObj (.ref f) (.ref x))
 | .ext φ=>φ h∧(∃ o,h.get? a=some o) ∧ ∀ h1 h2:Heap,φ h1->(∀ o,h1.get? a=some o->h2.get? a=some o)->φ h2
def HOk (H:Hp) (h:Heap):Prop := ∀ a o,H a=some o->ObjOk P w H h a o
end
section
variable {P:Program} {w:World} {H H':Hp} {h h':Heap} {a:Addr} {o:HO}
theorem ObjOk.lt (x:ObjOk P w H h a o):a < h.objs.size:=by
 cases o with
 |lst xs=>obtain ⟨_,_,_,_,e⟩:=x;exact AM e
 |tup xs=>obtain ⟨_,_,_,p,_⟩:=x;exact p.lt
 |dK kvs=>obtain ⟨_,_,_,_,o,_,_,e,_⟩:=x;exact AM e
 |dT kvs=>obtain ⟨_,_,_,_,o,_,_,e,_⟩:=x;exact AM e
 |dN kvs=>obtain ⟨_,_,_,_,o,_,_,e,_⟩:=x;exact AM e
 |set S n=>obtain ⟨o,_,_,_,e,_⟩:=x;exact AM e
 |ins C dx fs=>obtain ⟨_,_,_,e,_⟩:=x;exact AM e
 |own y=>obtain ⟨_,e⟩:=x;exact AM e
 |xd fs=>obtain ⟨_,⟨_,_,_,e,_⟩,_⟩:=x;exact AM e
 |rng lo hi=>obtain ⟨_,_,_,e⟩:=x;exact AM e
 |frz ob u=>obtain ⟨e,_⟩:=x;exact AM e
 |tbl ps=>exact AM (show h.get? a=some _ from x)
 |met f y=>exact AM (show h.get? a=some _ from x)
 |ext φ=>obtain ⟨_,⟨_,e⟩,_⟩:=x;exact AM e
theorem Paired.mapP {α β:Type} {F G:α->β->Prop}:∀ {l₁:List α} {l₂:List β},Paired F l₁ l₂->(∀ a b,F a b->G a b)->Paired G l₁ l₂
 |_,_,.nil,_ => .nil
 |_,_,.cons r t,f => .cons (f _ _ r) (Paired.mapP t f)
theorem NK.keeps {H H':Hp} {a:Addr} {ks:List (List Key)} (q:NK H ks a) (ht:∀ b ys,H b=some (.tup ys)->H' b=some (.tup ys)):NK H' ks a:=let ⟨bs,e,r⟩:=q;⟨bs,ht _ _ e,Paired.mapP r fun _ _ z=>ht _ _ z⟩
theorem ObjOk.stay (x:ObjOk P w H h a o) (k:∀ b u,(b=a∨H b=some (.own a))->h.get? b=some u->h'.get? b=some u)
  (ho:∀ b,H b=some (.own a)->H' b=some (.own a)) (ht:∀ b xs,H b=some (.tup xs)->H' b=some (.tup xs)):ObjOk P w H' h' a o:=by
 induction o with
 |lst xs=>obtain ⟨z,its,n,r,e⟩:=x;exact ⟨z,its,n,r,k _ _ (.inl rfl) e⟩
 |tup xs=>obtain ⟨z,its,r,⟨ob,e,c⟩,o,e2,c2⟩:=x;exact ⟨z,its,r,⟨ob,k _ _ (.inl rfl) e,c⟩,o,k _ _ (.inl rfl) e2,c2⟩
 |dK kvs=>obtain ⟨z,y,vs,r,ob,es,ep,e,c⟩:=x;exact ⟨z,y,vs,r,ob,es,ep,k _ _ (.inl rfl) e,c⟩
 |dT kvs =>
  obtain ⟨z,y,xs,r,ob,es,ep,e,c⟩:=x
  exact ⟨z,y,xs,Paired.mapP r fun p q z=>⟨z.1,ht _ _ z.2.1,z.2.2⟩,ob,es,ep,k _ _ (.inl rfl) e,c⟩
 |dN kvs =>
  obtain ⟨z,y,xs,r,ob,es,ep,e,c⟩:=x
  exact ⟨z,y,xs,Paired.mapP r fun p q z=>⟨z.1,z.2.1.keeps ht,z.2.2⟩,ob,es,ep,k _ _ (.inl rfl) e,c⟩
 |set S n=>obtain ⟨ob,es,ep,t,e,c⟩:=x;exact ⟨ob,es,ep,t,k _ _ (.inl rfl) e,c⟩
 |ins C dx fs =>
  obtain ⟨d,z,ne,e,mA,⟨od,es,ep,e2,c⟩,r⟩:=x
  exact ⟨ho _ d,z,ne,k _ _ (.inl rfl) e,mA,⟨od,es,ep,k _ _ (.inr d) e2,c⟩,r⟩
 |own y=>obtain ⟨ob,e⟩:=x;exact ⟨ob,k _ _ (.inl rfl) e⟩
 |xd fs=>obtain ⟨mA,⟨od,es,ep,e,c⟩,r⟩:=x;exact ⟨mA,⟨od,es,ep,k _ _ (.inl rfl) e,c⟩,r⟩
 |rng lo hi=>obtain ⟨t,u,v,e⟩:=x;exact ⟨t,u,v,k _ _ (.inl rfl) e⟩
 |frz ob u ih=>obtain ⟨e,q⟩:=x;exact ⟨k _ _ (.inl rfl) e,ih q⟩
 |tbl ps =>
  have e:h.get? a=some { cls := .none,data := .fields ps }:=x
  show h'.get? a=some { cls := .none,data := .fields ps }
  exact k a _ (.inl rfl) e
 |met f y =>
  have e:h.get? a=some (W.methodObj (.ref f) (.ref y)):=x
  show h'.get? a=some (W.methodObj (.ref f) (.ref y))
  exact k a _ (.inl rfl) e
 |ext φ=>obtain ⟨p,⟨o,e⟩,st⟩:=x;exact ⟨st _ _ p fun o q=>k _ _ (.inl rfl) q,⟨o,k _ _ (.inl rfl) e⟩,st⟩
theorem HOk.lt (x:HOk P w H h) (e:H a=some o):a < h.objs.size:=(x a o e).lt
theorem HOk.fresh (x:HOk P w H h) (e:h.objs.size≤a):H a=none:=by
 cases q:H a with
 |none=>rfl
 |some u=>exact absurd (AY (x.lt q) e) (BQ _)
theorem HOk.kept (x:HOk P w H h) (k:∀ b u,h.get? b=some u->h'.get? b=some u):HOk P w H h':=fun a o e =>
 (x a o e).stay (fun b u _ q=>k b u q) (fun _ q=>q) fun _ _ q=>q
theorem HOk.laid (x:HOk P w H h) (k:∀ b u,h.get? b=some u->h'.get? b=some u) (hp:h.objs.size≤a) (new:ObjOk P w (upd H a o) h' a o):HOk P w (upd H a o) h':=fun b u e=>by
 have hn:=x.fresh hp
 by_cases hb:b=a
 ·subst hb;rw [qb] at e;cases e;exact new
 ·rw [qK hb] at e
  exact (x b u e).stay (fun c v _ q=>k c v q) (fun c q=>by rw [qK (qM q hn)];exact q) fun c xs q=>by rw [qK (qM q hn)];exact q
end
def Rd (H:Hp) (a:Addr) (u:HO):Prop:=H a=some u ∨ ∃ o,H a=some (.frz o u)
theorem Rd.ok {P:Program} {w:World} {H:Hp} {h:Heap} {a:Addr} {u:HO} (r:Rd H a u) (x:HOk P w H h):ObjOk P w H h a u:=by
 rcases r with r |⟨o,r⟩
 ·exact x a u r
 ·obtain ⟨_,q⟩:=x a _ r
  exact q
def Mut:Option HO->Prop
 |some (.lst _)=>True
 |some (.dK _)=>True
 |some (.dT _)=>True
 |some (.dN _)=>True
 |some (.set _ _)=>True
 |some (.ins _ _ _)=>True
 |some (.ext _)=>True
 |_=>False
section
variable {P:Program} {w:World} {H:Hp} {h h':Heap} {x e:Addr} {o':HO}
theorem HOk.write (ok:HOk P w H h) (mu:Mut (H x)) (he:e=x∨H e=some (.own x)) (k:∀ b u,b≠e->h.get? b=some u->h'.get? b=some u) (heo:∃ u,h'.get? e=some u)
  (new:ObjOk P w (upd H x o') h' x o'):HOk P w (upd H x o') h':=fun b u q=>by
 have nown:∀ c y,H c=some (.own y)->c≠x:=fun c y r z=>by subst z;rw [r] at mu;exact mu
 have ntup:∀ c xs,H c=some (.tup xs)->c≠x:=fun c xs r z=>by subst z;rw [r] at mu;exact mu
 by_cases hb:b=x
 ·subst hb;rw [qb] at q;cases q;exact new
 ·rw [qK hb] at q
  by_cases hbe:b=e
  ·have q':H b=some (.own x):=by
    rcases he with z |z
    ·exact absurd (hbe.trans z) hb
    ·rw [hbe];exact z
   rw [q] at q';cases q'
   obtain ⟨v,hv⟩:=heo
   exact ⟨v,by rw [hbe];exact hv⟩
  ·refine (ok b u q).stay (fun c v hc r=>k c v ?_ r) (fun c r=>by rw [qK (nown c b r)];exact r) fun c xs r=>by rw [qK (ntup c xs r)];exact r
   rcases hc with rfl |hc
   ·exact hbe
   ·rintro rfl
    rcases he with z |z
    ·exact nown c b hc z
    ·rw [hc] at z;cases z;exact hb rfl
end
structure Un (fs ex:List Addr) (H H':Hp) (h h':Heap):Prop where
 keep:∀ b o,h.get? b=some o->H b=none->b ∉ fs->b ∉ ex->h'.get? b=some o
 slot:∀ b o,h.get? b=some o->H b=none->b∈fs->b ∉ ex -> ∃ sl,h'.get? b=some { o with slots:=sl }
 free:∀ b o,h.get? b=some o->H b=none->b ∉ ex->H' b=none
 there:∀ b o,h.get? b=some o->b ∉ ex -> ∃ o',h'.get? b=some o'
 tups:∀ b xs,H b=some (.tup xs)->H' b=some (.tup xs)
 frzs:∀ b o u,H b=some (.frz o u)->H' b=some (.frz o u)
 tbls:∀ b ps,H b=some (.tbl ps) -> ∃ more,H' b=some (.tbl (ps++more))
section
variable {fs fs' ex ex':List Addr} {H H1 H2:Hp} {h h1 h2 h':Heap} {a x e:Addr} {o:HO}
theorem Un.any (u:Un fs ex H H1 h h1) {b:Addr} {ob:Obj} (q:h.get? b=some ob) (n:H b=none) (hx:b ∉ ex):∃ sl,h1.get? b=some { ob with slots:=sl }:=by
 by_cases hb:b∈fs
 ·exact u.slot b ob q n hb hx
 ·exact ⟨ob.slots,u.keep b ob q n hb hx⟩
theorem Un.kept (k:∀ b u,h.get? b=some u->h'.get? b=some u):Un fs ex H H h h' :=
 ⟨fun b ob q _ _ _=>k b ob q,fun b ob q _ _ _=>⟨ob.slots,k b ob q⟩,fun _ _ _ n _=>n,fun b ob q _=>⟨ob,k b ob q⟩,fun _ _ q=>q,fun _ _ _ q=>q,fun _ ps q=>⟨#[],by rw [q];simp⟩⟩
theorem Un.refl:Un fs ex H H h h:=Un.kept fun _ _ q=>q
theorem Un.laid (k:∀ b u,h.get? b=some u->h'.get? b=some u) (hp:h.objs.size≤a) (hn:H a=none):Un fs ex H (upd H a o) h h' where
 keep:=fun b u q _ _ _=>k b u q
 slot:=fun b u q _ _ _=>⟨u.slots,k b u q⟩
 free:=fun b u q n _=>by rw [qK (AZ (AY (AM q) hp))];exact n
 there:=fun b u q _=>⟨u,k b u q⟩
 tups:=fun b xs q=>by rw [qK (qM q hn)];exact q
 frzs:=fun b u xs q=>by rw [qK (qM q hn)];exact q
 tbls:=fun b ps q=>⟨#[],by rw [qK (qM q hn),q];simp⟩
theorem Un.write (mu:Mut (H x)) (he:e=x∨H e=some (.own x)) (k:∀ b u,b≠e->h.get? b=some u->h'.get? b=some u) (heo:∃ u,h'.get? e=some u):Un fs ex H (upd H x o) h h':=by
 have hx:∀ b,H b=none->b≠x:=fun b n z=>by subst z;rw [n] at mu;exact mu
 have hb:∀ b,H b=none->b≠e:=fun b n z=>by
  subst z
  rcases he with r |r
  ·exact hx b n r
  ·rw [n] at r;cases r
 have hm:∀ b u,H b=some u -> ¬ Mut (some u)->b≠x:=fun b u q nm z=>by subst z;rw [q] at mu;exact nm mu
 refine ⟨fun b u q n _ _=>k b u (hb b n) q,fun b u q n _ _=>⟨u.slots,k b u (hb b n) q⟩,fun b u q n _=>by rw [qK (hx b n)];exact n,fun b u q _ => ?_,
  fun b xs q=>by rw [qK (hm b _ q fun z=>z)];exact q,fun b u xs q=>by rw [qK (hm b _ q fun z=>z)];exact q,fun b ps q=>⟨#[],by rw [qK (hm b _ q fun z=>z),q];simp⟩⟩
 by_cases hbe:b=e
 ·subst hbe;exact heo
 ·exact ⟨u,k b u hbe q⟩
end
def trk (h:Heap) (H:Hp):List Addr:=(List.range h.objs.size).filter fun a=>(H a).isSome
def yB (h:Heap) (H:Hp):Heap:=W.hideAll h (trk h H)
theorem qAG (h:Heap) (H:Hp):(yB h H).objs.size=h.objs.size:=W.hideAll_size _ _
theorem qBC {h:Heap} {H:Hp} {b:Addr} {o:Obj} (e:h.get? b=some o) (n:H b=none):(yB h H).get? b=some o :=
 W.hideAll_get _ e fun hm=>by
  have q:(H b).isSome=true:=(List.mem_filter.mp hm).2
  rw [n] at q;simp at q
theorem qDD {h:Heap} {H:Hp} {b:Addr} {o:Obj} (e:(yB h H).get? b=some o):h.get? b=some o∧H b=none:=by
 have e':h.get? b=some o:=W.of_hideAll (trk h H) e
 refine ⟨e',?_⟩
 cases q:H b with
 |none=>rfl
 |some x =>
  have hm:b∈trk h H:=List.mem_filter.mpr ⟨List.mem_range.mpr (AM e'),by simp [q]⟩
  have z:(yB h H).get? b=none:=W.hideAll_none (trk h H) hm
  rw [z] at e;cases e
end L2
namespace L2
open PySem PySem.Spec PyProof.Rows
structure Mod (K:W.Frag) (mg:Str->Option Value) (base:Heap):Prop where
 kin:K.In base
 glob:base.Ns mainGlobals mg
 blt:∃ mb,base.Ns builtinsNs mb ∧ ∀ x:Str,x ≠ "__name__" -> mb x=bootBuiltins x
 nolimit:base.NoLimit
structure Cx where
 prog:Program
 w:World
 K:W.Frag
 mg:Str->Option Value
 base:Heap
 A:Around
 N:List Str
 s₀:Shared
 H₀:Hp
 env:Env
 outer:List Env
 stack:List Env
 ex:List Addr
 fn:Str->Bool
 calm:Bool
 pn:List (Addr×Obj)
 xe:Value->Shared->Prop
def frs (l:List Env):List Addr:=l.filterMap (·.frame)
abbrev Cx.fs (X:Cx):List Addr:=frs X.outer
def Vis (sc:Scope) (x:Str):Prop:=sc.names.lookup x=some .local∨sc.names.lookup x=some .cell∨sc.names.lookup x=some .free
def Loc (sc:Scope) (x:Str):Prop:=sc.names.lookup x=some .local∨sc.names.lookup x=some .cell
def qFo (env:Env) (h:Heap) (m:Str->Option Value) (x:Str) (u:Value):Prop :=
 (env.kindOf x=some .local∧m x=some u)∨((env.kindOf x=some .cell∨env.kindOf x=some .free) ∧ ∃ c,env.cells.lookup x=some c∧h.IsCell c (some u))
structure Cx.Ok (X:Cx):Prop where
 mod:Mod X.K X.mg X.base
 kind:X.env.scope.kind = .function
 glob:X.env.globals=mainGlobals
 blt:X.env.builtins=builtinsNs
 above:X.s₀.heap.objs.size≤X.env.locals
 inj:∀ x y c,X.env.cells.lookup x=some c->X.env.cells.lookup y=some c->x=y
 has:∀ x,(X.env.kindOf x=some .cell∨X.env.kindOf x=some .free) -> ∃ c,X.env.cells.lookup x=some c
 cab:∀ x c,X.fn x=true->X.env.cells.lookup x=some c->X.s₀.heap.objs.size≤c
 hd:X.calm=true->X.A.handled=none
 frames:X.A.frames=some X.stack
 stk:X.stack=X.outer∨(X.stack=X.env::X.outer∧X.env.frame=some X.env.locals)
 exf:∀ b∈X.ex,b≠X.env.locals ∧ ∀ x c,X.env.cells.lookup x=some c->c≠b
 bs:∀ b o,X.base.get? b=some o->X.s₀.heap.get? b=some o∧X.H₀ b=none
 bsz:X.base.objs.size≤X.s₀.heap.objs.size
 noex:∀ b o,X.base.get? b=some o->b ∉ X.ex
 exfs:∀ b∈X.ex,b ∉ X.fs
 funs:X.s₀.heap.FunFrames X.base X.outer
 frf:∀ b∈X.fs,X.H₀ b=none
def HndH (A:Around) (H:Hp):Prop := ∀ v,A.handled=some v -> ∃ ea oe u vs,v=Value.ref ea∧H ea=some (.frz oe u)∧oe.data = .fields vs∧vs[2]? = some .none
theorem HndH.none {A:Around} {H:Hp} (h:A.handled=none):HndH A H:=fun v e=>by rw [h] at e;cases e
structure Inv (X:Cx) (pins:List (Addr×Obj)) (σ:List (Option V)) (H:Hp) (s:Shared):Prop where
 ok:X.Ok
 os:s.os=X.s₀.os
 bare:AllBare s.gens
 base:Un X.fs X.ex X.H₀ H X.s₀.heap s.heap
 loc:∃ m,s.heap.Ns X.env.locals m ∧ ∀ (i:Nat) (x:Str) (v:V),X.N[i]? = some x->σ[i]? = some (some v)->Vis X.env.scope x -> ∃ u,RelV v u∧qFo X.env s.heap m x u
 cell:∀ x c,X.env.cells.lookup x=some c -> ∃ v,s.heap.IsCell c v
 free:H X.env.locals=none
 freeC:∀ x c,X.env.cells.lookup x=some c->H c=none
 pin:∀ p∈X.pn++pins,s.heap.get? p.1=some p.2∧H p.1=none∧p.1≠X.env.locals∧p.1 ∉ X.fs ∧ ∀ v,p.2.data ≠ .cell v
 hok:HOk X.prog X.w H s.heap
 len:σ.length=X.N.length
 hnd:HndH X.A H
section
variable {X:Cx} {pins:List (Addr×Obj)} {σ:List (Option V)} {H H':Hp} {s:Shared} {h':Heap}
theorem Cx.Ok.nofr (ok:X.Ok) {b:Addr} {o:Obj} (e:X.base.get? b=some o):b ∉ X.fs:=fun hb=>by
 have:=(ok.funs.mem hb).1
 rw [e] at this;cases this
theorem Inv.bs (I:Inv X pins σ H s):∀ b o,X.base.get? b=some o->s.heap.get? b=some o∧H b=none:=fun b o e =>
 ⟨I.base.keep b o (I.ok.bs b o e).1 (I.ok.bs b o e).2 (I.ok.nofr e) (I.ok.noex b o e),I.base.free b o (I.ok.bs b o e).1 (I.ok.bs b o e).2 (I.ok.noex b o e)⟩
theorem Inv.bk (I:Inv X pins σ H s):∀ b o,X.base.get? b=some o->s.heap.get? b=some o:=fun b o e=>(I.bs b o e).1
theorem Inv.mod (I:Inv X pins σ H s):Mod X.K X.mg X.base:=I.ok.mod
theorem Inv.kIn (I:Inv X pins σ H s):X.K.In s.heap:=I.ok.mod.kin.keeps I.bk
theorem Inv.lt (I:Inv X pins σ H s):X.env.locals < s.heap.objs.size:=let ⟨_,hn,_⟩:=I.loc;hn.lt
theorem Inv.sz (I:Inv X pins σ H s):X.s₀.heap.objs.size≤s.heap.objs.size:=AV I.ok.above (Nat.le_of_lt I.lt)
theorem Inv.nofs (I:Inv X pins σ H s) {a:Addr} (h:s.heap.objs.size≤a):a ∉ X.fs:=fun hb=>by
 obtain ⟨_,o,ho,_⟩:=I.ok.funs.mem hb
 exact absurd (AY (AM ho) (AV I.sz h)) (BQ _)
theorem Inv.cne (I:Inv X pins σ H s):∀ x c,X.env.cells.lookup x=some c->c≠X.env.locals:=fun x c e z=>by
 obtain ⟨v,o,ho,hd⟩:=I.cell x c e
 obtain ⟨m,⟨o',es,ep,ho',hd',_⟩,_⟩:=I.loc
 rw [z,ho'] at ho;cases ho;rw [hd'] at hd;cases hd
theorem Inv.funs (I:Inv X pins σ H s):s.heap.FunFrames X.base X.outer:=by
 have all:∀ (l:List Env),(∀ b∈frs l,b∈X.fs)->X.s₀.heap.FunFrames X.base l->s.heap.FunFrames X.base l:=by
  intro l
  induction l with
  |nil=>intro _ _;trivial
  |cons env r ih =>
   intro hs hl
   obtain ⟨hk,⟨L,o,hf,hn,ho,hd⟩,hr⟩:=hl
   have hL:L∈X.fs:=hs L (by unfold frs;rw [Bd,hf];exact AF)
   obtain ⟨sl,e⟩:=I.base.slot L o ho (I.ok.frf L hL) hL fun z=>I.ok.exfs L z hL
   exact ⟨hk,⟨L,_,hf,hn,e,hd⟩,ih (fun b hb=>hs b (by unfold frs;rw [Bd,hf];exact AD _ hb)) hr⟩
 exact all X.outer (fun _ hb=>hb) I.ok.funs
theorem Inv.stack (I:Inv X pins σ H s):s.heap.FunFrames X.base X.stack:=by
 rcases I.ok.stk with e |⟨e,hf⟩
 ·rw [e];exact I.funs
 ·rw [e]
  obtain ⟨m,hn,_⟩:=I.loc
  refine .cons (by rw [I.ok.kind];decide) hf hn ?_ I.funs
  exact Heap.get?_none_of_le (AV I.ok.bsz I.ok.above)
theorem Inv.stkSub (I:Inv X pins σ H s):∀ b∈frs X.stack,b∈X.env.locals::X.fs:=fun b hb=>by
 rcases I.ok.stk with e |⟨e,hf⟩
 ·rw [e] at hb;exact AD _ hb
 ·rw [e] at hb
  unfold frs at hb
  rw [Bd,hf] at hb
  exact hb
theorem Inv.stkFree (I:Inv X pins σ H s):∀ b∈frs X.stack,H b=none:=fun b hb=>by
 rcases AL.mp (I.stkSub b hb) with e |hb
 ·rw [e];exact I.free
 ·obtain ⟨_,o,ho,_⟩:=I.ok.funs.mem hb
  exact I.base.free b o ho (I.ok.frf b hb) fun z=>I.ok.exfs b z hb
theorem Inv.step {g':Array GenState} {t':Nat} {d':Drawn} {ch:List Addr} (I:Inv X pins σ H s)
  (hch:∀ b∈ch,(b∈X.ex∨X.s₀.heap.objs.size≤b)∧b≠X.env.locals∧(∀ x c,X.env.cells.lookup x=some c->c≠b) ∧ ∀ p∈X.pn++pins,p.1≠b)
  (keep:∀ b o,b≠X.env.locals->b ∉ X.fs->b ∉ ch->s.heap.get? b=some o->H b=none->h'.get? b=some o)
  (slot:∀ b o,b≠X.env.locals->b∈X.fs->b ∉ ch->s.heap.get? b=some o->H b=none -> ∃ sl,h'.get? b=some { o with slots:=sl }) (free:∀ b o,b ∉ ch->s.heap.get? b=some o->H b=none->H' b=none)
  (there:∀ b o,b ∉ ch->s.heap.get? b=some o -> ∃ o',h'.get? b=some o')
  (tups:∀ b xs,H b=some (.tup xs)->H' b=some (.tup xs)) (frzs:∀ b o u,H b=some (.frz o u)->H' b=some (.frz o u)) (tbls:∀ b ps,H b=some (.tbl ps) -> ∃ more,H' b=some (.tbl (ps++more)))
  (ns:∀ m,s.heap.Ns X.env.locals m->h'.Ns X.env.locals m) (hok:HOk X.prog X.w H' h') (hg:AllBare g') :
  Inv X pins σ H' { s with heap:=h',gens:=g',drawn:=d',toks:=t' }:=by
 have neL:∀ b o,X.s₀.heap.get? b=some o->b≠X.env.locals:=fun b o e=>AZ (AY (AM e) I.ok.above)
 have neC:∀ b o,X.s₀.heap.get? b=some o->b ∉ X.ex->b ∉ ch:=fun b o e hx hb=>by
  rcases (hch b hb).1 with z |z
  ·exact hx z
  ·exact absurd (AY (AM e) z) (BQ _)
 have cellK:∀ x c,X.env.cells.lookup x=some c -> ∀ v,s.heap.IsCell c v->h'.IsCell c v:=fun x c e v ⟨o,ho,hd⟩=>by
  have nch:c ∉ ch:=fun z=>(hch c z).2.2.1 x c e rfl
  by_cases hc:c∈X.fs
  ·obtain ⟨sl,q⟩:=slot c o (I.cne x c e) hc nch ho (I.freeC x c e)
   exact ⟨_,q,hd⟩
  ·exact ⟨o,keep c o (I.cne x c e) hc nch ho (I.freeC x c e),hd⟩
 refine ⟨I.ok,I.os,hg,⟨fun b o e n hb hx => ?_,fun b o e n hb hx => ?_,fun b o e n hx => ?_,fun b o e hx => ?_,fun b xs e=>tups b xs (I.base.tups b xs e),fun b o xs e=>frzs b o xs (I.base.frzs b o xs e),fun b ps e => ?_⟩,?_,fun x c e => ?_,?_,fun x c e => ?_,fun p hp => ?_,hok,I.len,fun v hv=>(let ⟨ea,oe,u,vs,e1,e2,e3⟩:=I.hnd v hv;⟨ea,oe,u,vs,e1,frzs _ _ _ e2,e3⟩)⟩
 ·exact keep b o (neL b o e) hb (neC b o e hx) (I.base.keep b o e n hb hx) (I.base.free b o e n hx)
 ·obtain ⟨sl,e1⟩:=I.base.slot b o e n hb hx
  obtain ⟨sl',e2⟩:=slot b _ (neL b o e) hb (neC b o e hx) e1 (I.base.free b o e n hx)
  exact ⟨sl',e2⟩
 ·obtain ⟨o',e1⟩:=I.base.there b o e hx
  exact free b o' (neC b o e hx) e1 (I.base.free b o e n hx)
 ·obtain ⟨o',e1⟩:=I.base.there b o e hx
  exact there b o' (neC b o e hx) e1
 ·obtain ⟨m1,e1⟩:=I.base.tbls b ps e
  obtain ⟨m2,e2⟩:=tbls b _ e1
  exact ⟨m1++m2,by rw [e2,Array.append_assoc]⟩
 ·obtain ⟨m,hn,hl⟩:=I.loc
  refine ⟨m,ns m hn,fun i x v e1 e2 e3 => ?_⟩
  obtain ⟨u,r,l⟩:=hl i x v e1 e2 e3
  refine ⟨u,r,?_⟩
  rcases l with l |⟨k,c,e,z⟩
  ·exact .inl l
  ·exact .inr ⟨k,c,e,cellK x c e _ z⟩
 ·obtain ⟨v,z⟩:=I.cell x c e
  exact ⟨v,cellK x c e v z⟩
 ·obtain ⟨m,⟨o,_,_,ho,_⟩,_⟩:=I.loc
  exact free _ o (fun z=>(hch _ z).2.1 rfl) ho I.free
 ·obtain ⟨v,o,ho,hd⟩:=I.cell x c e
  exact free c o (fun z=>(hch c z).2.2.1 x c e rfl) ho (I.freeC x c e)
 ·obtain ⟨e,n,ne,nf,d⟩:=I.pin p hp
  have nch:p.1 ∉ ch:=fun z=>(hch p.1 z).2.2.2 p hp rfl
  exact ⟨keep p.1 p.2 ne nf nch e n,free p.1 p.2 nch e n,ne,nf,d⟩
theorem Inv.un {t':Nat} (I:Inv X pins σ H s) (u:Un X.fs [] H H' s.heap h') (hok:HOk X.prog X.w H' h'):Inv X pins σ H' { s with heap:=h',toks:=t' }:=by
 obtain ⟨m,⟨o,es,ep,ho,r⟩,_⟩:=id I.loc
 obtain ⟨sl,hL⟩:=u.any ho I.free (by simp)
 exact I.step (g':=s.gens) (d':=s.drawn) (ch:=[]) (fun _ z=>nomatch z) (fun b o _ hb _ e n=>u.keep b o e n hb (by simp)) (fun b o _ hb _ e n=>u.slot b o e n hb (by simp)) (fun b o _ e n=>u.free b o e n (by simp)) (fun b o _ e=>u.there b o e (by simp)) u.tups u.frzs u.tbls (fun m' hm=>by
  obtain ⟨o',es',ep',ho',r'⟩:=hm
  rw [ho] at ho';cases ho'
  exact ⟨_,es',ep',hL,r'⟩) hok I.bare
theorem Inv.call {g':Array GenState} {t':Nat} {d':Drawn} {ch:List Addr} (I:Inv X pins σ H s) (u:Un (frs X.stack) ch H H' s.heap h') (hok:HOk X.prog X.w H' h') (hg:AllBare g')
  (hch:∀ b∈ch,(b∈X.ex∨X.s₀.heap.objs.size≤b)∧b≠X.env.locals∧(∀ x c,X.env.cells.lookup x=some c->c≠b) ∧ ∀ p∈X.pn++pins,p.1≠b) :
  Inv X pins σ H' { s with heap:=h',gens:=g',drawn:=d',toks:=t' }:=by
 obtain ⟨m,⟨o,es,ep,ho,r⟩,_⟩:=id I.loc
 obtain ⟨sl,hL⟩:=u.any ho I.free fun z=>(hch _ z).2.1 rfl
 exact I.step (ch:=ch) hch (fun b o hL hb hc e n=>u.keep b o e n (fun z=>(AL.mp (I.stkSub b z)).elim hL hb) hc) (fun b o _ _ hc e n=>u.any e n hc) (fun b o hc e n=>u.free b o e n hc) (fun b o hc e=>u.there b o e hc) u.tups u.frzs u.tbls (fun m' hm=>by
  obtain ⟨o',es',ep',ho',r'⟩:=hm
  rw [ho] at ho';cases ho'
  exact ⟨_,es',ep',hL,r'⟩) hok hg
theorem Inv.turned {t':Nat} {it:Addr} (I:Inv X pins σ H s) (k:∀ b o,b≠it->s.heap.get? b=some o->h'.get? b=some o) (hn:H it=none) (hL:it≠X.env.locals)
  (h1:it∈X.ex∨X.s₀.heap.objs.size≤it) (h2:∀ x c,X.env.cells.lookup x=some c->c≠it) (h3:∀ p∈X.pn++pins,p.1≠it):Inv X pins σ H { s with heap:=h',toks:=t' }:=by
 have nit:∀ b u,H b=some u->b≠it:=fun b u e z=>by rw [z,hn] at e;cases e
 refine I.step (g':=s.gens) (d':=s.drawn) (ch:=[it]) (fun b hb => ?_) (fun b o _ _ hc e _=>k b o (fun z=>hc (by simp [z])) e) (fun b o _ _ hc e _=>⟨o.slots,k b o (fun z=>hc (by simp [z])) e⟩) (fun _ _ _ _ n=>n)
  (fun b o hc e=>⟨o,k b o (fun z=>hc (by simp [z])) e⟩) (fun _ _ e=>e) (fun _ _ _ e=>e) (fun b ps e=>⟨#[],by rw [e];simp⟩) (fun m hm => ?_) (fun b u e => ?_) I.bare
 ·have e:b=it:=by simpa using hb
  subst e
  exact ⟨h1,hL,h2,h3⟩
 ·obtain ⟨o,es,ep,ho,r⟩:=hm
  exact ⟨o,es,ep,k _ o (Ne.symm hL) ho,r⟩
 ·refine (I.hok b u e).stay (fun c v hc q=>k c v ?_ q) (fun _ q=>q) fun _ _ q=>q
  rcases hc with z |z
  ·rw [z];exact nit b u e
  ·exact nit c _ z
theorem Inv.tok (I:Inv X pins σ H s) (t:Nat):Inv X pins σ H { s with toks:=t }:=I.un (h':=s.heap) (t':=t) Un.refl I.hok
theorem Inv.kept {t':Nat} (I:Inv X pins σ H s) (k:∀ b u,s.heap.get? b=some u->h'.get? b=some u):Inv X pins σ H { s with heap:=h',toks:=t' }:=I.un (Un.kept k) (I.hok.kept k)
theorem Inv.laid {a:Addr} {o:HO} {t':Nat} (I:Inv X pins σ H s) (k:∀ b u,s.heap.get? b=some u->h'.get? b=some u) (hp:s.heap.objs.size≤a) (new:ObjOk X.prog X.w (upd H a o) h' a o) :
  Inv X pins σ (upd H a o) { s with heap:=h',toks:=t' }:=I.un (Un.laid k hp (I.hok.fresh hp)) (I.hok.laid k hp new)
theorem Inv.write {x e:Addr} {o:HO} {t':Nat} (I:Inv X pins σ H s) (mu:Mut (H x)) (he:e=x∨H e=some (.own x)) (k:∀ b u,b≠e->s.heap.get? b=some u->h'.get? b=some u) (heo:∃ u,h'.get? e=some u)
  (new:ObjOk X.prog X.w (upd H x o) h' x o):Inv X pins σ (upd H x o) { s with heap:=h',toks:=t' }:=I.un (Un.write mu he k heo) (I.hok.write mu he k heo new)
theorem Inv.pins_of {pins':List (Addr×Obj)} (I:Inv X pins σ H s) (h:∀ p∈pins',s.heap.get? p.1=some p.2∧H p.1=none∧p.1≠X.env.locals∧p.1 ∉ X.fs ∧ ∀ v,p.2.data ≠ .cell v):Inv X pins' σ H s :=
 ⟨I.ok,I.os,I.bare,I.base,I.loc,I.cell,I.free,I.freeC,fun p hp=>(A1.mp hp).elim (fun z=>I.pin p (List.mem_append_left _ z)) (h p),I.hok,I.len,I.hnd⟩
theorem ZI {N:List Str} (hN:N.Nodup) {i j:Nat} {x:Str} (a:N[i]? = some x) (b:N[j]? = some x):i=j:=by
 obtain ⟨h1,e1⟩:=AG.mp a
 obtain ⟨h2,e2⟩:=AG.mp b
 exact (List.getElem_inj hN).mp (e1.trans e2.symm)
theorem Jp {M:Model} {A:Around} {E:Value->Shared->Prop} {i:Nat} {x:Str} {v:V} {u:Value} {Q:Unit->Shared->Prop} (I:Inv X pins σ H s) (hN:X.N.Nodup) (hi:X.N[i]? = some x) (hx:Loc X.env.scope x) (r:RelV v u)
  (h:∀ s',Inv X pins (σ.set i (some v)) H s'->(∃ a,Heap.SameBut a s.heap s'.heap∧(a=X.env.locals∨X.env.cells.lookup x=some a))->Q () s') (hf:X.fn x=true∨X.env.scope.names.lookup x=some .local:=by first |exact .inl rfl |exact .inr rfl |assumption):wpAny M A (storeName X.env x u) Q E s:=by
 obtain ⟨m,hn,hl⟩:=id I.loc
 have hcls:(X.env.scope.kind == .class || (X.env.scope.kind == .module&&X.env.locals != X.env.globals))=false:=by rw [I.ok.kind];rfl
 have hiσ:i < σ.length:=by rw [I.len];exact (AG.mp hi).1
 have cne:=I.cne
 have tracked:∀ {a:Addr} {h':Heap},(∃ o,s.heap.get? a=some o∧H a=none)->Heap.SameBut a s.heap h'->HOk X.prog X.w H h':=fun {a h'} ha hs b ob e=>by
  obtain ⟨_,_,hfree⟩:=ha
  refine (I.hok b ob e).stay (fun c w' hc q=>(hs.2 c ?_).trans q) (fun _ q=>q) fun _ _ q=>q
  rintro rfl
  rcases hc with rfl |hc
  ·rw [hfree] at e;cases e
  ·rw [hfree] at hc;cases hc
 rcases hx with hk |hk
 ·refine wpAny_storeName_local hk hn (fun h' hn' hs => ?_) hcls
  obtain ⟨oL,_,_,hoL,_⟩:=id hn
  refine h _ ⟨I.ok,I.os,I.bare,⟨fun b o e n hb hx => ?_,fun b o e n hb hx => ?_,I.base.free,fun b o e hx => ?_,I.base.tups,I.base.frzs,I.base.tbls⟩,⟨_,hn',fun j y v' e1 e2 e3 => ?_⟩,fun y c e => ?_,I.free,I.freeC,fun p hp => ?_,tracked ⟨oL,hoL,I.free⟩ hs,by simpa using I.len,I.hnd⟩ ⟨_,hs,.inl rfl⟩
  ·exact (hs.2 b (AZ (AY (AM e) I.ok.above))).trans (I.base.keep b o e n hb hx)
  ·obtain ⟨sl,e1⟩:=I.base.slot b o e n hb hx
   exact ⟨sl,(hs.2 b (AZ (AY (AM e) I.ok.above))).trans e1⟩
  ·obtain ⟨o',e1⟩:=I.base.there b o e hx
   exact ⟨o',(hs.2 b (AZ (AY (AM e) I.ok.above))).trans e1⟩
  ·by_cases hj:j=i
   ·subst hj
    rw [hi] at e1;cases e1
    rw [Ac hiσ] at e2
    cases e2
    exact ⟨u,r,.inl ⟨hk,by simp⟩⟩
   ·rw [Af (Ne.symm hj)] at e2
    obtain ⟨u',r',q⟩:=hl j y v' e1 e2 e3
    refine ⟨u',r',?_⟩
    rcases q with ⟨k,e⟩ |⟨k,c,e,z⟩
    ·refine .inl ⟨k,?_⟩
     have:y≠x:=fun e=>hj (ZI hN e1 (e ▸ hi))
     simp [this,e]
    ·exact .inr ⟨k,c,e,z.sameBut hs (cne y c e)⟩
  ·obtain ⟨w',z⟩:=I.cell y c e
   exact ⟨w',z.sameBut hs (cne y c e)⟩
  ·obtain ⟨e,n,ne,nf,d⟩:=I.pin p hp
   exact ⟨(hs.2 p.1 ne).trans e,n,ne,nf,d⟩
 ·have hfn:X.fn x=true:=by
   rcases hf with z |z
   ·exact z
   ·rw [z] at hk;cases hk
  obtain ⟨c,hc⟩:=I.ok.has x (.inl hk)
  obtain ⟨w',z⟩:=I.cell x c hc
  refine wpAny_storeName_cell I.ok.kind hk hc z (fun h' hc' hs => ?_)
  obtain ⟨oc,hoc,hocd⟩:=id z
  refine h { s with heap:=h' } ⟨I.ok,I.os,I.bare,⟨fun b o e n hb hx => ?_,fun b o e n hb hx => ?_,I.base.free,fun b o e hx => ?_,I.base.tups,I.base.frzs,I.base.tbls⟩,⟨m,hn.sameBut hs (Ne.symm (cne x c hc)),fun j y v' e1 e2 e3 => ?_⟩,fun y c' e => ?_,I.free,I.freeC,fun p hp => ?_,tracked ⟨oc,hoc,I.freeC x c hc⟩ hs,by simpa using I.len,I.hnd⟩ ⟨c,hs,.inr hc⟩
  ·exact (hs.2 b (AZ (AY (AM e) (I.ok.cab x c hfn hc)))).trans (I.base.keep b o e n hb hx)
  ·obtain ⟨sl,e1⟩:=I.base.slot b o e n hb hx
   exact ⟨sl,(hs.2 b (AZ (AY (AM e) (I.ok.cab x c hfn hc)))).trans e1⟩
  ·obtain ⟨o',e1⟩:=I.base.there b o e hx
   exact ⟨o',(hs.2 b (AZ (AY (AM e) (I.ok.cab x c hfn hc)))).trans e1⟩
  ·by_cases hj:j=i
   ·subst hj
    rw [hi] at e1;cases e1
    rw [Ac hiσ] at e2
    cases e2
    exact ⟨u,r,.inr ⟨.inl hk,c,hc,hc'⟩⟩
   ·rw [Af (Ne.symm hj)] at e2
    obtain ⟨u',r',q⟩:=hl j y v' e1 e2 e3
    refine ⟨u',r',?_⟩
    rcases q with q |⟨k,c',e,z'⟩
    ·exact .inl q
    ·refine .inr ⟨k,c',e,z'.sameBut hs ?_⟩
     rintro rfl
     exact hj (ZI hN e1 (I.ok.inj _ _ _ e hc ▸ hi))
  ·by_cases hcc:c'=c
   ·subst hcc;exact ⟨_,hc'⟩
   ·obtain ⟨w2,z2⟩:=I.cell y c' e
    exact ⟨w2,z2.sameBut hs hcc⟩
  ·obtain ⟨e,n,ne,nf,d⟩:=I.pin p hp
   refine ⟨(hs.2 p.1 ?_).trans e,n,ne,nf,d⟩
   intro q
   rw [q,hoc] at e
   have q':oc=p.2:=AS e
   exact d w' (by rw [← q'];exact hocd)
theorem wq {M:Model} {A:Around} {E:Value->Shared->Prop} {i:Nat} {x:Str} {v:V} {u:Value} {Q:Unit->Shared->Prop} (I:Inv X pins σ H s) (hN:X.N.Nodup) (hi:X.N[i]? = some x) (hx:Loc X.env.scope x) (r:RelV v u)
  (h:∀ s',Inv X pins (σ.set i (some v)) H s'->Q () s') (hf:X.fn x=true∨X.env.scope.names.lookup x=some .local:=by first |exact .inl rfl |exact .inr rfl |assumption):wpAny M A (storeName X.env x u) Q E s :=
 Jp I hN hi hx r (fun s' I' _=>h s' I') hf
theorem Inv.call' {s':Shared} {ch:List Addr} (I:Inv X pins σ H s) (ho:s'.os=s.os) (u:Un (frs X.stack) ch H H' s.heap s'.heap) (hok:HOk X.prog X.w H' s'.heap) (hg:AllBare s'.gens)
  (hch:∀ b∈ch,(b∈X.ex∨X.s₀.heap.objs.size≤b)∧b≠X.env.locals∧(∀ x c,X.env.cells.lookup x=some c->c≠b) ∧ ∀ p∈X.pn++pins,p.1≠b):Inv X pins σ H' s':=by
 obtain ⟨h',g',d',t',o'⟩:=s'
 have e:o'=s.os:=ho
 subst e
 exact I.call (g':=g') (t':=t') (d':=d') u hok hg hch
end
abbrev XK:=Value->Option Addr->Hp->Prop
abbrev St:=List (Option V)
abbrev VK:=V->Hp->Prop
abbrev TE:=St->Hp->VK->Prop
abbrev TT:=St->Hp->(Bool->Hp->Prop)->Prop
abbrev TA:=St->Hp->(List V->Hp->Prop)->Prop
structure Ends where
 nx:St->Hp->Prop
 rt:VK
 bk:St->Hp->Prop:=fun _ _=>False
 ct:St->Hp->Prop:=fun _ _=>False
abbrev TS:=Ends->St->Hp->Prop
def EP (X:Cx) (pins:List (Addr×Obj)) (σ:St) (Q:VK) (u:Value) (s':Shared):Prop := ∃ v H',Inv X pins σ H' s'∧RelV v u∧Q v H'
def TP (X:Cx) (pins:List (Addr×Obj)) (σ:St) (Q:Bool->Hp->Prop) (b:Bool) (s':Shared):Prop := ∃ H',Inv X pins σ H' s'∧Q b H'
def AP (X:Cx) (pins:List (Addr×Obj)) (σ:St) (Q:List V->Hp->Prop) (us:List Value) (s':Shared):Prop := ∃ vs H',Inv X pins σ H' s'∧Vals vs us∧Q vs H'
def SP (X:Cx) (pins:List (Addr×Obj)) (D:Ends) (f:Flow) (s':Shared):Prop :=
 match f with
 | .next => ∃ σ' H',Inv X pins σ' H' s'∧D.nx σ' H'
 | .brk => ∃ σ' H',Inv X pins σ' H' s'∧D.bk σ' H'
 | .cont => ∃ σ' H',Inv X pins σ' H' s'∧D.ct σ' H'
 | .ret u => ∃ v σ' H',Inv X pins σ' H' s'∧RelV v u∧D.rt v H'
def PE (X:Cx) (e:Expr) (t:TE):Prop :=
 ∀ (pins:List (Addr×Obj)) (s:Shared) (σ:St) (H:Hp) (Q:VK),Inv X pins σ H s->t σ H Q->wpAny (model X.prog X.w) X.A (eval e X.env) (EP X pins σ Q) X.xe s
def PT (X:Cx) (e:Expr) (t:TT):Prop :=
 ∀ (pins:List (Addr×Obj)) (s:Shared) (σ:St) (H:Hp) (Q:Bool->Hp->Prop),Inv X pins σ H s->t σ H Q->wpAny (model X.prog X.w) X.A (isTrue e X.env (eval e X.env)) (TP X pins σ Q) X.xe s
def PW (X:Cx) (e:Expr) (t:TT):Prop :=
 ∀ (whole:Sem Value) (pins:List (Addr×Obj)) (s:Shared) (σ:St) (H:Hp) (Q:Bool->Hp->Prop),Inv X pins σ H s->t σ H Q->wpAny (model X.prog X.w) X.A (isTrue e X.env whole) (TP X pins σ Q) X.xe s
theorem PW.pt {X:Cx} {e:Expr} {t:TT} (h:PW X e t):PT X e t:=h _
def PA (X:Cx) (es:List Expr) (t:TA):Prop :=
 ∀ (pos:Pos) (pins:List (Addr×Obj)) (s:Shared) (σ:St) (H:Hp) (Q:List V->Hp->Prop),Inv X pins σ H s->t σ H Q->wpAny (model X.prog X.w) X.A (spliced (backTo pos (starEach es X.env))) (AP X pins σ Q) X.xe s
def PS (X:Cx) (st:Stmt) (t:TS):Prop :=
 ∀ (pins:List (Addr×Obj)) (s:Shared) (σ:St) (H:Hp) (D:Ends),Inv X pins σ H s->t D σ H->wpAny (model X.prog X.w) X.A (exec st X.env) (SP X pins D) X.xe s
def PSs (X:Cx) (st:List Stmt) (t:TS):Prop :=
 ∀ (pins:List (Addr×Obj)) (s:Shared) (σ:St) (H:Hp) (D:Ends),Inv X pins σ H s->t D σ H->wpAny (model X.prog X.w) X.A (execs st X.env) (SP X pins D) X.xe s
theorem thn {α:Type} {t:Sem α} {Q Q':α->Shared->Prop} {M:Model} {A:Around} {E:Value->Shared->Prop} {s:Shared} (h:wpAny M A t Q E s) (hQ:∀ a s,Q a s->Q' a s):wpAny M A t Q' E s:=A2 h hQ fun _ _ x=>x
end L2
namespace L2
open PySem PySem.Spec PyProof.Rows
section
variable {X:Cx}
def qFD (i:Nat):TE:=fun σ H Q => ∃ v,σ[i]? = some (some v)∧Q v H
def tC (v:V):TE:=fun _ H Q=>Q v H
theorem qE5 {i:Nat} {x:Str} {pos:Pos} (hN:X.N[i]? = some x) (hv:Vis X.env.scope x) (hd:(x==("__debug__":Str))=false:=by decide) (hcd:(x==("__classdict__":Str))=false:=by decide):PE X (.Name x pos) (qFD i):=by
 intro pins s σ H Q I h
 obtain ⟨v,e,h⟩:=h
 obtain ⟨m,hn,hl⟩:=I.loc
 obtain ⟨u,r,l⟩:=hl i x v hN e hv
 have fin:EP X pins σ Q u s:=⟨v,H,I,r,h⟩
 rcases l with ⟨hk,hm⟩ |⟨hk,c,hc,hcell⟩
 ·exact wpAny_Name (wpAny_loadName_local I.ok.kind hk hn hm fin) hd
 ·rcases hk with hk |hk
  ·exact wpAny_Name (wpAny_loadName_cell I.ok.kind hk hc hcell fin) hd
  ·exact wpAny_Name (wpAny_loadName_free I.ok.kind hk hc hcell fin hcd) hd
theorem qEH {i j pos}:PE X (.Constant (.int i) j pos) (tC (.int i)):=fun _ _ _ H _ I h=>wpAny_Constant_int ⟨.int i,H,I.tok _,⟨_,rfl⟩,h⟩
theorem qFg {b j pos}:PE X (.Constant (.bool b) j pos) (tC (.bl b)):=fun _ _ _ H _ I h=>Constant_bool ⟨.bl b,H,I,rfl,h⟩
theorem qE9 {j pos}:PE X (.Constant .none j pos) (tC .non):=fun _ _ _ H _ I h=>Constant_none ⟨.non,H,I,rfl,h⟩
theorem qEh {x j pos}:PE X (.Constant (.str x) j pos) (tC (.str x)):=fun _ _ _ H _ I h=>Calls.Constant_str ⟨.str x,H,I.tok _,⟨_,rfl⟩,h⟩
def Gl (X:Cx) (x:Str):Prop:=X.env.kindOf x=some .globalImplicit
theorem yI {E:Value->Shared->Prop} {pins:List (Addr×Obj)} {s:Shared} {σ:St} {H:Hp} {x:Str} {u:Value} {pos:Pos} {Q:Value->Shared->Prop} (I:Inv X pins σ H s) (hg:Gl X x) (hm:X.mg x=some u) (h:Q u s)
  (hd:(x==("__debug__":Str))=false:=by decide):wpAny (model X.prog X.w) X.A (eval (.Name x pos) X.env) Q E s :=
 Calls.Name_function_global I.ok.kind hg (Calls.loadGlobal_global (by rw [I.ok.glob];exact I.mod.glob.keeps I.bk) hm h) hd
theorem Z9 {E:Value->Shared->Prop} {pins:List (Addr×Obj)} {s:Shared} {σ:St} {H:Hp} {x:Str} {u:Value} {pos:Pos} {Q:Value->Shared->Prop} (I:Inv X pins σ H s) (hg:Gl X x) (hm:X.mg x=none) (hv:bootBuiltins x=some u) (h:Q u s)
  (hn:x ≠ "__name__" := by decide) (hd:(x==("__debug__":Str))=false:=by decide):wpAny (model X.prog X.w) X.A (eval (.Name x pos) X.env) Q E s:=by
 obtain ⟨mb,h1,h2⟩:=I.mod.blt
 exact Calls.Name_function_global I.ok.kind hg (Calls.loadGlobal_builtin (by rw [I.ok.glob];exact I.mod.glob.keeps I.bk) hm (by rw [I.ok.blt];exact h1.keeps I.bk) ((h2 x hn).trans hv) h) hd
theorem JB {x:Str} {v:V} {u:Value} {pos:Pos} (hg:Gl X x) (hm:X.mg x=some u) (r:RelV v u) (hd:(x==("__debug__":Str))=false:=by decide):PE X (.Name x pos) (tC v) :=
 fun _ _ _ H _ I h=>yI I hg hm ⟨v,H,I,r,h⟩ hd
theorem qCA {x:Str} {v:V} {u:Value} {pos:Pos} (hg:Gl X x) (hm:X.mg x=none) (hv:bootBuiltins x=some u) (r:RelV v u) (hn:x ≠ "__name__" := by decide) (hd:(x==("__debug__":Str))=false:=by decide):PE X (.Name x pos) (tC v) :=
 fun _ _ _ H _ I h=>Z9 I hg hm hv ⟨v,H,I,r,h⟩ hn hd
variable {a b:Expr} {ta tb:TE} {pos:Pos}
variable {tA tB':TT} {rest:List Expr}
def qGX (t u:TT):TT:=fun σ H Q=>t σ H fun c H1=>if c=true then u σ H1 Q else Q false H1
def tOr (t u:TT):TT:=fun σ H Q=>t σ H fun c H1=>if c=true then Q true H1 else u σ H1 Q
def qHL (t:TT):TT:=fun σ H Q=>t σ H fun c H1=>Q (!c) H1
theorem qCw (ha:PT X a tA):PW X (.BoolOp .And [a] pos) tA:=by
 intro wh pins s σ H Q I h
 refine isTrue_and (thn (ha pins s σ H Q I h) fun c s1 e => ?_)
 cases c with
 |true=>exact isTrue_and_nil e
 |false=>exact e
theorem qEI (ha:PT X a tA):PW X (.BoolOp .Or [a] pos) tA:=by
 intro wh pins s σ H Q I h
 refine isTrue_or (thn (ha pins s σ H Q I h) fun c s1 e => ?_)
 cases c with
 |false=>exact isTrue_or_nil e
 |true=>exact e
theorem qEu (ha:PT X a tA) (hb:PW X (.BoolOp .And (b::rest) pos) tB'):PW X (.BoolOp .And (a::b::rest) pos) (qGX tA tB'):=by
 intro wh pins s σ H Q I h
 refine isTrue_and (thn (ha pins s σ H _ I h) fun c s1 ⟨H1,I1,q1⟩ => ?_)
 cases c with
 |true=>exact hb wh pins s1 σ H1 Q I1 q1
 |false=>exact ⟨H1,I1,q1⟩
theorem qFt (ha:PT X a tA) (hb:PW X (.BoolOp .Or (b::rest) pos) tB'):PW X (.BoolOp .Or (a::b::rest) pos) (tOr tA tB'):=by
 intro wh pins s σ H Q I h
 refine isTrue_or (thn (ha pins s σ H _ I h) fun c s1 ⟨H1,I1,q1⟩ => ?_)
 cases c with
 |true=>exact ⟨H1,I1,q1⟩
 |false=>exact hb wh pins s1 σ H1 Q I1 q1
theorem qDk (ha:PT X a tA):PT X (.UnaryOp .Not a pos) (qHL tA):=by
 intro pins s σ H Q I h
 exact isTrue_not (ha pins s σ H (fun c H1=>Q (!c) H1) I h)
def qFY (ta tb:TE):TE:=fun σ H Q=>ta σ H fun x H1 => ∃ c,x = .bl c∧if c=true then tb σ H1 Q else Q (.bl false) H1
def qGF (ta:TE):TE:=fun σ H Q=>ta σ H fun x H1 => ∃ c,x = .bl c∧Q (.bl (!c)) H1
theorem qD8 {op} {t:TE} (h:PE X a t):PE X (.BoolOp op [a] pos) t:=fun pins s σ H Q I hw=>BoolOp_one (h pins s σ H Q I hw)
theorem qEE (ha:PE X a ta) (hb:PE X (.BoolOp .And (b::rest) pos) tb):PE X (.BoolOp .And (a::b::rest) pos) (qFY ta tb):=by
 intro pins s σ H Q I h
 refine BoolOp_and (thn (ha pins s σ H _ I h) fun v s1 ⟨x,H1,I1,r1,q1⟩ => ?_)
 obtain ⟨c,rfl,q1⟩:=q1
 cases r1
 refine A5 ?_
 cases c with
 |true=>exact hb pins s1 σ H1 Q I1 q1
 |false=>exact ⟨.bl false,H1,I1,rfl,q1⟩
theorem qFM (ha:PE X a ta):PE X (.UnaryOp .Not a pos) (qGF ta):=by
 intro pins s σ H Q I h
 refine UnaryOp_ (thn (ha pins s σ H _ I h) fun v s1 ⟨x,H1,I1,r1,q1⟩ => ?_)
 obtain ⟨c,rfl,q1⟩:=q1
 cases r1
 exact not_of (A5 ⟨.bl (!c),H1,I1,rfl,q1⟩)
end
end L2
namespace L2
open PySem PySem.Spec PyProof.Rows
def SqL (K:W.Frag) (H:Hp) (a:Addr) (xs:List V):Prop :=
 Rd H a (.lst xs) ∨
  ∃ (o:Obj) (its:Array Value) (n:Nat),K.lookup a=some o∧o.cls = .type "list" ∧ o.dict=none∧o.data = .seq its n∧its.size≤sizeLine∧Vals xs its.toList
def SqT (K:W.Frag) (H:Hp) (a:Addr) (xs:List V):Prop :=
 Rd H a (.tup xs) ∨
  ∃ (o:Obj) (its:Array Value) (n:Nat),K.lookup a=some o∧o.cls = .type "tuple" ∧ o.data = .seq its n∧its.size≤sizeLine∧Vals xs its.toList
def qGw:Value->Option V
 | .none=>some .non
 | .bool b=>some (.bl b)
 | .int i _=>some (.int i)
 | .str x _=>some (.str x)
 | .bytes b _=>some (.byt b)
 | .float b _=>some (.flt b)
 | .ref a=>some (.ref a)
 | .type n=>some (.ty n)
 |_=>none
theorem RelV.abs {x:V} {u:Value} (r:RelV x u):qGw u=some x:=by
 cases x with
 |non=>cases r;rfl
 |bl _=>cases r;rfl
 |int _=>obtain ⟨t,rfl⟩:=r;rfl
 |str _=>obtain ⟨t,rfl⟩:=r;rfl
 |byt _=>obtain ⟨t,rfl⟩:=r;rfl
 |flt _=>obtain ⟨t,rfl⟩:=r;rfl
 |ref _=>cases r;rfl
 |ty _=>cases r;rfl
theorem RelV.inj {x y:V} {u:Value} (r:RelV x u) (q:RelV y u):x=y:=AS (r.abs.symm.trans q.abs)
theorem Vals.inj:∀ {xs ys:List V} {us:List Value},Vals xs us->Vals ys us->xs=ys
 |_,_,_,.nil,.nil=>rfl
 |_,_,_,.cons r t,.cons r' t'=>by rw [r.inj r',Vals.inj t t']
section
variable {X:Cx} {pins:List (Addr×Obj)} {σ:St} {H:Hp} {s:Shared} {a:Addr} {xs ys:List V}
theorem SqL.of {K:W.Frag} (h:H a=some (.lst xs)):SqL K H a xs := .inl (.inl h)
theorem Inv.list (I:Inv X pins σ H s) (h:SqL X.K H a xs):∃ its:List Value,Vals xs its∧PlainL s.heap a its.toArray∧xs.length≤sizeLine:=by
 rcases h with h |⟨o,its,n,hk,hc,hd,hs,hz,r⟩
 ·obtain ⟨z,its,n,r,e⟩:=h.ok I.hok
  exact ⟨its,r,⟨_,n,e,rfl,rfl,rfl⟩,z⟩
 ·refine ⟨its.toList,r,⟨o,n,I.kIn a o hk,hc,hd,by simpa using hs⟩,?_⟩
  have e:=r.length
  simp only [BF] at e
  omega
theorem Inv.tuple (I:Inv X pins σ H s) (h:SqT X.K H a xs):∃ its:List Value,Vals xs its∧IsTup s.heap a its.toArray∧xs.length≤sizeLine:=by
 rcases h with h |⟨o,its,n,hk,hc,hs,hz,r⟩
 ·obtain ⟨z,its,r,p,_⟩:=h.ok I.hok
  exact ⟨its,r,p,z⟩
 ·refine ⟨its.toList,r,⟨o,I.kIn a o hk,hc,n,by simpa using hs⟩,?_⟩
  have e:=r.length
  simp only [BF] at e
  omega
theorem Inv.list_inj (I:Inv X pins σ H s) (h:SqL X.K H a xs) (h':SqL X.K H a ys):xs=ys:=by
 obtain ⟨its,r,⟨o,n,e,_,_,d⟩,_⟩:=I.list h
 obtain ⟨its',r',⟨o',n',e',_,_,d'⟩,_⟩:=I.list h'
 rw [e] at e';cases e'
 rw [d] at d'
 injection d' with d1 _
 have:its=its':=by simpa using Bm Array.toList d1
 subst this
 exact r.inj r'
theorem Inv.tuple_inj (I:Inv X pins σ H s) (h:SqT X.K H a xs) (h':SqT X.K H a ys):xs=ys:=by
 obtain ⟨its,r,⟨o,e,_,n,d⟩,_⟩:=I.tuple h
 obtain ⟨its',r',⟨o',e',_,n',d'⟩,_⟩:=I.tuple h'
 rw [e] at e';cases e'
 rw [d] at d'
 injection d' with d1 _
 have:its=its':=by simpa using Bm Array.toList d1
 subst this
 exact r.inj r'
end
abbrev Cx.wish (X:Cx) (E:Value->Shared->Prop):Cx:={ X with xe:=E }
abbrev Cx.nox (X:Cx):Cx:=X.wish fun _ _=>False
theorem Cx.Ok.wish {X:Cx} (ok:X.Ok) (E:Value->Shared->Prop):(X.wish E).Ok :=
 ⟨ok.mod,ok.kind,ok.glob,ok.blt,ok.above,ok.inj,ok.has,ok.cab,ok.hd,ok.frames,ok.stk,ok.exf,ok.bs,ok.bsz,ok.noex,ok.exfs,ok.funs,ok.frf⟩
theorem Cx.Ok.unwish {X:Cx} {E:Value->Shared->Prop} (ok:(X.wish E).Ok):X.Ok :=
 ⟨ok.mod,ok.kind,ok.glob,ok.blt,ok.above,ok.inj,ok.has,ok.cab,ok.hd,ok.frames,ok.stk,ok.exf,ok.bs,ok.bsz,ok.noex,ok.exfs,ok.funs,ok.frf⟩
section
variable {X:Cx} {pins:List (Addr×Obj)} {σ:St} {H:Hp} {s:Shared} {E:Value->Shared->Prop}
theorem Inv.wish (I:Inv X pins σ H s) (E:Value->Shared->Prop):Inv (X.wish E) pins σ H s:=⟨I.ok.wish E,I.os,I.bare,I.base,I.loc,I.cell,I.free,I.freeC,I.pin,I.hok,I.len,I.hnd⟩
theorem Inv.unwish (I:Inv (X.wish E) pins σ H s):Inv X pins σ H s:=⟨I.ok.unwish,I.os,I.bare,I.base,I.loc,I.cell,I.free,I.freeC,I.pin,I.hok,I.len,I.hnd⟩
theorem SP.unwish {D:Ends} {f:Flow} {s':Shared} (h:SP (X.wish E) pins D f s'):SP X pins D f s':=by
 cases f with
 |next=>obtain ⟨σ',H',I,q⟩:=h;exact ⟨σ',H',I.unwish,q⟩
 |brk=>obtain ⟨σ',H',I,q⟩:=h;exact ⟨σ',H',I.unwish,q⟩
 |cont=>obtain ⟨σ',H',I,q⟩:=h;exact ⟨σ',H',I.unwish,q⟩
 |ret u=>obtain ⟨v,σ',H',I,r,q⟩:=h;exact ⟨v,σ',H',I.unwish,r,q⟩
end
section
variable {X:Cx} {st:Stmt} {rest:List Stmt} {t u:TS} {e:Expr} {te:TE} {pos:Pos}
def qFV:TS:=fun D σ H=>D.nx σ H
def qHC (t u:TS):TS:=fun D σ H=>t { D with nx:=u D } σ H
theorem qCd:PSs X [] qFV:=fun _ _ σ H _ I h=>Bh ⟨σ,H,I,h⟩
theorem qAh (h1:PS X st t) (h2:PSs X rest u):PSs X (st::rest) (qHC t u):=by
 intro pins s σ H D I h
 refine wpAny_execs_cons (thn (h1 pins s σ H { D with nx:=u D } I h) fun f s1 q => ?_)
 cases f with
 |next =>
  obtain ⟨σ',H',I',q⟩:=q
  exact h2 pins s1 σ' H' D I' q
 |ret v=>exact q
 |brk=>exact q
 |cont=>exact q
theorem qC4 (h1:PS X st t):PSs X [st] t:=by
 intro pins s σ H D I h
 refine wpAny_execs_cons (thn (h1 pins s σ H D I h) fun f s1 q => ?_)
 cases f with
 |next=>exact Bh q
 |ret v=>exact q
 |brk=>exact q
 |cont=>exact q
theorem Inv.quiet {pins:List (Addr×Obj)} {σ:St} {H:Hp} {s:Shared} (I:Inv X pins σ H s):interactive X.env=false:=by simp [interactive,I.ok.kind]
def qFv (te:TE):TS:=fun D σ H=>te σ H fun _ H1=>D.nx σ H1
theorem qCg (he:PE X e te) (hs:swapsWith e none pos.line X.env=pure false:=by rfl):PS X (.Expr e pos) (qFv te):=by
 intro pins s σ H D I h
 exact wpAny_Expr_any (thn (he pins s σ H _ I h) fun v s1 ⟨x,H1,I1,r1,q1⟩=>⟨σ,H1,I1,q1⟩) I.quiet hs
def qGm (te:TE):TS:=fun D σ H=>te σ H D.rt
theorem qB7 (he:PE X e te):PS X (.Return (some e) pos) (qGm te):=by
 intro pins s σ H D I h
 exact wpAny_Return_some (thn (he pins s σ H _ I h) fun v s1 ⟨x,H1,I1,r1,q1⟩=>⟨x,σ,H1,I1,r1,q1⟩)
def qGL (c:TT) (t u:TS):TS:=fun D σ H=>c σ H fun b H1=>if b=true then t D σ H1 else u D σ H1
theorem qFW {c:Expr} {a b:List Stmt} {tc:TT} (hc:PT X c tc) (ha:PSs X a t) (hb:PSs X b u):PS X (.If c a b pos) (qGL tc t u):=by
 intro pins s σ H D I h
 refine wpAny_If (thn (hc pins s σ H _ I h) fun d s1 ⟨H1,I1,q1⟩ => ?_)
 cases d with
 |true=>exact ha pins s1 σ H1 D I1 q1
 |false=>exact hb pins s1 σ H1 D I1 q1
def qD6:TS:=fun _ _ _=>False
theorem qBa:PS X st qD6:=fun _ _ _ _ _ _ h=>h.elim
end
abbrev TG:=V->St->Hp->(St->Hp->Prop)->Prop
abbrev TGs:=List V->St->Hp->(St->Hp->Prop)->Prop
def PG (X:Cx) (target:Expr) (t:TG):Prop :=
 ∀ (pins:List (Addr×Obj)) (s:Shared) (σ:St) (H:Hp) (v:V) (u:Value) (Q:St->Hp->Prop),Inv X pins σ H s->RelV v u->t v σ H Q ->
  wpAny (model X.prog X.w) X.A (assign target X.env u) (fun _ s' => ∃ σ' H',Inv X pins σ' H' s'∧Q σ' H') X.xe s
def PGs (X:Cx) (ts:List Expr) (t:TGs):Prop :=
 ∀ (pins:List (Addr×Obj)) (s:Shared) (σ:St) (H:Hp) (vs:List V) (us:List Value) (Q:St->Hp->Prop),Inv X pins σ H s->Vals vs us->t vs σ H Q ->
  wpAny (model X.prog X.w) X.A (assignInOrder ((assignEach ts X.env).map (·.2)) us) (fun _ s' => ∃ σ' H',Inv X pins σ' H' s'∧Q σ' H') X.xe s
abbrev qEm:=V->V->V->Hp->(Hp->Prop)->Prop
def qFs (X:Cx) (t:qEm):Prop :=
 ∀ (pins:List (Addr×Obj)) (s:Shared) (σ:St) (H:Hp) (o i v:V) (ov iv u:Value) (Q:Hp->Prop),Inv X pins σ H s->RelV o ov->RelV i iv->RelV v u->t o i v H Q ->
  wpAny (model X.prog X.w) X.A (setItem ov iv u) (fun _ s' => ∃ H',Inv X pins σ H' s'∧Q H') X.xe s
section
variable {X:Cx} {pos:Pos}
def qA4 (i:Nat):TG:=fun v σ H Q=>Q (σ.set i (some v)) H
theorem qCp {i:Nat} {x:Str} (hN:X.N.Nodup) (hi:X.N[i]? = some x) (hx:Loc X.env.scope x) (hf:X.fn x=true∨X.env.scope.names.lookup x=some .local:=by first |exact .inl rfl |exact .inr rfl |assumption):PG X (.Name x pos) (qA4 i):=by
 intro pins s σ H v u Q I r h
 exact wpAny_assign_Name (wq I hN hi hx r (fun s' I'=>⟨_,H,I',h⟩) hf)
def qGg:TGs:=fun vs σ H Q=>vs=[]∧Q σ H
def qFf (t:TG) (u:TGs):TGs:=fun vs σ H Q => ∃ v r,vs=v::r∧t v σ H fun σ' H'=>u r σ' H' Q
theorem qDJ:PGs X [] qGg:=by
 intro pins s σ H vs us Q I r h
 obtain ⟨e,h⟩:=h
 subst e
 cases r
 exact assignInOrder_nil ⟨σ,H,I,h⟩
theorem qBr {e:Expr} {es:List Expr} {t:TG} {u:TGs} (h1:PG X e t) (h2:PGs X es u)
  (hs:(assignEach (e::es) X.env).map (·.2)=assign e X.env::(assignEach es X.env).map (·.2):=by rfl):PGs X (e::es) (qFf t u):=by
 intro pins s σ H vs us Q I r h
 obtain ⟨v,vr,e1,h⟩:=h
 subst e1
 cases r with
 |cons r rr =>
  rw [hs]
  refine assignInOrder_cons (thn (h1 pins s σ H _ _ _ I r h) fun _ s1 ⟨σ1,H1,I1,q1⟩ => ?_)
  exact h2 pins s1 σ1 H1 _ _ Q I1 rr q1
def qGO (K:W.Frag) (n:Nat) (t:TGs):TG:=fun v σ H Q => ∃ a xs,v = .ref a∧SqT K H a xs∧xs.length=n∧t xs σ H Q
theorem qE0 {es:List Expr} {k:Nat} {t:TGs} {n:Nat} (hc:X.calm=true) (h:PGs X es t)
  (hn:(assignEach es X.env).length=n:=by rfl) (hst:(assignEach es X.env).findIdx? (·.1)=none:=by rfl):PG X (.Tuple es k pos) (qGO X.K n t):=by
 intro pins s σ H v u Q I r hw
 obtain ⟨a,xs,e1,hq,hl,hw⟩:=hw
 subst e1
 cases r
 obtain ⟨its,rv,ht,hz⟩:=I.tuple hq
 refine assign_Tuple_tuple (I.ok.hd hc) ht (by simp [hn,← hl,rv.length]) hst fun h' hx => ?_
 have I1:Inv X pins σ H { s with heap:=h' }:=I.kept (t':=s.toks) fun b o e=>hx b o (AZ (AM e)) e
 exact h pins _ σ H xs _ Q I1 (by simpa using rv) hw
def zA (to ti:TE) (t:qEm):TG:=fun v σ H Q=>to σ H fun o H1=>ti σ H1 fun i H2=>t o i v H2 fun H3=>Q σ H3
theorem qEg {o i:Expr} {to ti:TE} {t:qEm} (ho:PE X o to) (hi:PE X i ti) (hs:qFs X t)
  (ha:∀ v,assign (.Subscript o i pos) X.env v=(do
   let ov ← holding [v] (eval o X.env)
   let iv ← holding [v,ov] (eval i X.env)
   standAt pos
   holding [v,ov,iv] (setItem ov iv v)
   release [v,ov,iv] []):=by intro _;rfl):PG X (.Subscript o i pos) (zA to ti t):=by
 intro pins s σ H v u Q I r h
 rw [ha]
 refine AA (At (thn (ho pins s σ H _ I h) fun ov s1 ⟨x,H1,I1,r1,q1⟩ => ?_))
 refine AA (At (thn (hi pins s1 σ H1 _ I1 q1) fun iv s2 ⟨y,H2,I2,r2,q2⟩ => ?_))
 refine AA (BR (AA (At (thn (hs pins s2 σ H2 x y v ov iv u _ I2 r1 r2 r q2) fun _ s3 ⟨H3,I3,q3⟩ => ?_))))
 exact wpAny_release ⟨σ,H3,I3,q3⟩
def qDn (te:TE) (g:TG):TS:=fun D σ H=>te σ H fun x H1=>g x σ H1 D.nx
theorem qA7 {tg e:Expr} {te:TE} {g:TG} (he:PE X e te) (hg:PG X tg g) (hs:swapsWithSole [tg] e pos.line X.env=pure false:=by rfl) (hw:swappedStores [tg] e X.env=pure none:=by rfl)
  (h1:(assignEach [tg] X.env).map (·.2)=[assign tg X.env]:=by rfl):PS X (.Assign [tg] e pos) (qDn te g):=by
 intro pins s σ H D I h
 refine wpAny_Assign_stores (thn (he pins s σ H _ I h) fun v s1 ⟨x,H1,I1,r1,q1⟩ => ?_) hs hw
 rw [h1]
 exact thn (hg pins s1 σ H1 x v _ I1 r1 q1) fun _ s2 q=>q
theorem qE6 {i:Nat} {x:Str} {e:Expr} {te:TE} {pos':Pos} (hN:X.N.Nodup) (hi:X.N[i]? = some x) (hx:Loc X.env.scope x) (he:PE X e te) (hs:swapsWith e (some (.Name x pos')) pos.line X.env=pure false:=by rfl) (hf:X.fn x=true∨X.env.scope.names.lookup x=some .local:=by first |exact .inl rfl |exact .inr rfl |assumption) :
  PS X (.Assign [.Name x pos'] e pos) (qDn te (qA4 i)):=by
 intro pins s σ H D I h
 refine wpAny_Assign_Name (thn (he pins s σ H _ I h) fun v s1 ⟨y,H1,I1,r1,q1⟩ => ?_) hs
 exact wq I1 hN hi hx r1 (fun s2 I2=>⟨_,H1,I2,q1⟩) hf
def qGN (i j:Nat) (ta:TA):TS:=fun D σ H=>ta σ H fun vs H1 => ∃ v w,vs=[v,w]∧D.nx ((σ.set i (some v)).set j (some w)) H1
theorem qEi {i j:Nat} {x y:Str} {a b:Expr} {ta:TA} {px py pt:Pos} {kt k2 pt2} (hc:X.calm=true) (hN:X.N.Nodup) (hi:X.N[i]? = some x) (hj:X.N[j]? = some y) (hij:i≠j)
  (hx:X.env.scope.names.lookup x=some .local) (hy:X.env.scope.names.lookup y=some .local) (ha:PA X [a,b] ta)
  (hw:swappedStores [.Tuple [.Name x px,.Name y py] kt pt] (.Tuple [a,b] k2 pt2) X.env=pure (some [x,y]))
  (hs:swapsWithSole [.Tuple [.Name x px,.Name y py] kt pt] (.Tuple [a,b] k2 pt2) pos.line X.env=pure false:=by rfl) :
  PS X (.Assign [.Tuple [.Name x px,.Name y py] kt pt] (.Tuple [a,b] k2 pt2) pos) (qGN i j ta):=by
 intro pins s σ H D I h
 rw [exec_Assign_arm]
 refine AA (BR ?_)
 rw [hs]
 refine AA (AB ?_)
 rw [AO (by decide)]
 refine AA (Tuple_ (thn (ha _ pins s σ H _ I h) fun us s1 ⟨vs,H1,I1,r1,q1⟩ => ?_))
 obtain ⟨v,w,e1,q1⟩:=q1
 subst e1
 obtain ⟨u1,u2,rfl,rv,rw'⟩:∃ u1 u2,us=[u1,u2]∧RelV v u1∧RelV w u2:=by
  cases r1 with
  |cons p q =>
   cases q with
   |cons p' q' =>
    cases q'
    exact ⟨_,_,rfl,p,p'⟩
 refine Az ?_ (by show 2≤sizeLine;decide)
 have I2:Inv X pins σ H1 { s1 with heap:=s1.heap.push { cls := .type "tuple",data := .seq [u1,u2].toArray } }:=I1.kept (t':=s1.toks) fun b o e=>AE _ e
 rw [hw]
 refine AA (AB ?_)
 show wpAny (model X.prog X.w) X.A (do rule "assign.swapped-stores";let items ← unpackItems (.ref s1.heap.objs.size) 2 none;assignInOrder [fun v=>bindName X.env y v,fun v=>bindName X.env x v] items.reverse;pure Flow.next) _ _ _
 refine AA (BY (AA (unpackItems_tuple (items := #[u1,u2]) (I.ok.hd hc) (IsTup.new s1.heap _) fun h' hx' => ?_)))
 have I3:=I2.kept (h':=h') (t':=s1.toks) fun b o e=>hx' b o (AZ (AM e)) e
 show wpAny _ _ (assignInOrder [fun v=>bindName X.env y v,fun v=>bindName X.env x v] [u2,u1] >>= fun _=>pure Flow.next) _ _ _
 refine AA (assignInOrder_cons (wpAny_bindName (wq I3 hN hj (.inl hy) rw' (fun s2 I4 => ?_) (.inr hy))))
 refine assignInOrder_cons (wpAny_bindName (wq I4 hN hi (.inl hx) rv (fun s3 I5=>assignInOrder_nil (AB ?_)) (.inr hx)))
 rw [List.set_comm _ _ (Ne.symm hij)] at I5
 exact ⟨_,H1,I5,q1⟩
def qEz (c:TT) (tb:TS):TS:=fun D σ H => ∃ W:Nat->St->Hp->Prop,(∃ m,W m σ H) ∧ ∀ m σ H,W m σ H ->
 c σ H fun b H1=>if b=true then ∃ N:St->Hp->Prop,(∀ σ' H',N σ' H' -> ∃ m',m' < m∧W m' σ' H')∧tb { D with nx:=N,ct:=N,bk:=D.nx } σ H1 else D.nx σ H1
end
structure It where
 go:Nat->Hp->Prop
 yld:Nat->Hp->V->Hp->Prop
 stop:Nat->Hp->Prop
def Wz (X:Cx) (pins:List (Addr×Obj)) (H:Hp) (b:Addr):Prop :=
 H b=none∧b≠X.env.locals∧b ∉ X.fs∧(b∈X.ex∨X.s₀.heap.objs.size≤b)∧(∀ x c,X.env.cells.lookup x=some c->c≠b) ∧ ∀ p∈X.pn++pins,p.1≠b
theorem Inv.fpOk {X:Cx} {pins:List (Addr×Obj)} {σ:St} {H H':Hp} {s:Shared} {b:Addr} (I:Inv X pins σ H s) (hb:s.heap.objs.size≤b) (hn:H' b=none):Wz X pins H' b:=by
 refine ⟨hn,Nat.ne_of_gt (AY I.lt hb),I.nofs hb,.inr (AV I.sz hb),fun x c e z => ?_,fun p hp z => ?_⟩
 ·obtain ⟨v,q⟩:=I.cell x c e
  exact absurd (AY q.lt (by rw [z];exact hb)) (BQ _)
 ·exact absurd (AY (AM (I.pin p hp).1) (by rw [z];exact hb)) (BQ _)
theorem Inv.hndH {X:Cx} {pins:List (Addr×Obj)} {σ:St} {H:Hp} {s:Shared} (I:Inv X pins σ H s):EX.Hnd X.A s.heap:=fun v hv=>by
 obtain ⟨ea,oe,u,vs,e1,e2,e3⟩:=I.hnd v hv
 exact ⟨ea,oe,vs,e1,(I.hok _ _ e2).1,e3⟩
theorem Inv.hndNe {X:Cx} {pins:List (Addr×Obj)} {σ:St} {H:Hp} {s:Shared} (I:Inv X pins σ H s) {it:Addr} (hn:H it=none):∀ v,X.A.handled=some v->v ≠ .ref it:=fun v hv z=>by
 obtain ⟨ea,oe,u,vs,e1,e2,e3⟩:=I.hnd v hv
 rw [e1] at z;cases z;rw [hn] at e2;cases e2
structure Turn (P:Program) (w:World) (K:W.Frag) (A:Around) (tg:Expr) (J:It) (fp:List Addr) (it:Addr) (tn:Nat->Heap->Prop):Prop where
 mem:it∈fp
 obj:∀ i h,tn i h -> ∀ b∈fp,∃ o,h.get? b=some o ∧ ∀ v,o.data ≠ .cell v
 keep:∀ i h h',tn i h->(∀ b∈fp,∀ o,h.get? b=some o->h'.get? b=some o)->tn i h'
 item:∀ (X:Cx),X.prog=P->X.w=w->X.K=K->X.A=A -> ∀ (i:Nat) (pins:List (Addr×Obj)) (s:Shared) (σ:St) (H:Hp) (E:Value->Shared->Prop),Inv X pins σ H s->(∀ b∈fp,Wz X pins H b)->tn i s.heap->J.go i H ->
  wpAny (model P w) X.A (pyNext (.ref it)) (fun r s1 => ∃ u,r=some u ∧
   wpAny (model P w) X.A (letOwnedTupleGo tg (.ref it) u) (fun _ s2 => ∃ x H',Inv X pins σ H' s2∧RelV x u∧J.yld i H x H'∧tn (i + 1) s2.heap ∧ ∀ b∈fp,H' b=none) E s1) E s
 done:∀ (X:Cx),X.prog=P->X.w=w->X.K=K->X.A=A -> ∀ (i:Nat) (pins:List (Addr×Obj)) (s:Shared) (σ:St) (H:Hp) (E:Value->Shared->Prop),Inv X pins σ H s->(∀ b∈fp,Wz X pins H b)->tn i s.heap->J.stop i H ->
  wpAny (model P w) X.A (pyNext (.ref it)) (fun r s1=>r=none∧Inv X pins σ H s1) E s
 self:∀ (A:Around) (i:Nat) (s:Shared) (Q:Value->Shared->Prop) (E:Value->Shared->Prop),tn i s.heap->Q (.ref it) s->wpAny (model P w) A (pyIter (.ref it)) Q E s
abbrev TI:=St->Hp->(It->Hp->Prop)->Prop
def PIE (X:Cx) (pins:List (Addr×Obj)) (σ:St) (tg:Expr) (R:It->Hp->Prop) (itv:Value) (s2:Shared):Prop :=
 ∃ (it:Addr) (fp:List Addr) (tn:Nat->Heap->Prop) (J:It) (H':Hp),itv = .ref it∧Inv X pins σ H' s2∧Turn X.prog X.w X.K X.A tg J fp it tn∧tn 0 s2.heap∧(∀ b∈fp,Wz X pins H' b)∧R J H'
def PI (X:Cx) (tg iter:Expr) (wi:TI):Prop :=
 ∀ (pins:List (Addr×Obj)) (s:Shared) (σ:St) (H:Hp) (R:It->Hp->Prop),Inv X pins σ H s->wi σ H R ->
  wpAny (model X.prog X.w) X.A (eval iter X.env) (fun v s1=>wpAny (model X.prog X.w) X.A (pyIter v) (PIE X pins σ tg R) X.xe s1) X.xe s
theorem JK {M : Model} {A : Around} {E : Value->Shared->Prop} {s : Shared} {tg : Expr} {it : Addr} {u : Value} {o : Obj} {n : String} {vs : Array Value} {Q : Unit->Shared->Prop} (ho : s.heap.get? it=some o) (hc : o.cls = .type n) (hd : o.data = .fields vs)
    (hn : ["enumerate", "zip", "dict_itemiterator", "dict_reverseitemiterator", "odict_iterator", "itertools.zip_longest", "itertools.pairwise"].contains n=false) (hQ : Q () s) : wpAny M A (letOwnedTupleGo tg (.ref it) u) Q E s:=by
  unfold letOwnedTupleGo
  cases tg <;> first
    |exact AB hQ
    |(cases u <;> first
        |exact AB hQ
        | (refine AA (wpAny_load ho ?_)
           rw [hc, hd]
           show wpAny M A (if (["enumerate", "zip", "dict_itemiterator", "dict_reverseitemiterator", "odict_iterator", "itertools.zip_longest", "itertools.pairwise"].contains n&&vs[0]? == some (rawInt _))=true then _ else _) Q E s
           rw [AO (by intro h; rw [hn, Bool.false_and] at h; cases h)]
           exact AB hQ))
def Itl (K:W.Frag) (a:Addr):It :=
 ⟨fun i H => ∃ xs x,SqL K H a xs∧xs[i]? = some x,fun i H x H'=>H'=H ∧ ∀ xs,SqL K H a xs->xs[i]? = some x,fun i H => ∃ xs,SqL K H a xs∧xs.length≤i⟩
def Itt (K:W.Frag) (a:Addr):It :=
 ⟨fun i H => ∃ xs x,SqT K H a xs∧xs[i]? = some x,fun i H x H'=>H'=H ∧ ∀ xs,SqT K H a xs->xs[i]? = some x,fun i H => ∃ xs,SqT K H a xs∧xs.length≤i⟩
def Itr (lo:Int) (n:Nat):It:=⟨fun i _=>i < n,fun i H x H'=>H'=H∧x = .int (lo + i),fun i _=>n≤i⟩
theorem Ju {P:Program} {w:World} {K:W.Frag} {A:Around} {tg:Expr} (a it:Addr):Turn P w K A tg (Itl K a) [it] it (fun i h=>h.IsListIter it a i) where
 mem:=by simp
 obj:=fun i h st b hb=>by
  have e:b=it:=by simpa using hb
  subst e
  obtain ⟨o,e,c,d⟩:=st
  exact ⟨o,e,fun v z=>by rw [d] at z;cases z⟩
 keep:=fun i h h' st k=>st.at fun o e=>k it (by simp) o e
 item:=by
  intro X hP hw hK _ i pins s σ H E I hf st hg
  subst hP hw hK
  obtain ⟨xs,x,hq,hx⟩:=hg
  obtain ⟨its,rv,p,hz⟩:=I.list hq
  obtain ⟨u,hu,ru⟩:=rv.get hx
  obtain ⟨f0,f1,f2,f3,f4,f5⟩:=hf it (by simp)
  refine wpAny_pyNext_list_item st p.isList (x:=u) (by simpa using hu) fun h' st' sb => ?_
  have I1:Inv X pins σ H { s with heap:=h' }:=I.turned (t':=s.toks) (fun b o hb e=>(sb.2 b hb).trans e) f0 f1 f3 f4 f5
  obtain ⟨o,e,c,d⟩:=id st'
  exact ⟨u,rfl,JK (s:={ s with heap:=h' }) e c d (by decide) ⟨x,H,I1,ru,⟨rfl,fun ys hy=>by rw [I.list_inj hy hq];exact hx⟩,st',fun b hb=>(hf b hb).1⟩⟩
 done:=by
  intro X hP hw hK _ i pins s σ H E I hf st hg
  subst hP hw hK
  obtain ⟨xs,hq,hx⟩:=hg
  obtain ⟨its,rv,p,hz⟩:=I.list hq
  obtain ⟨f0,f1,f2,f3,f4,f5⟩:=hf it (by simp)
  have hl:=rv.length
  exact EX.list_end I.hndH st p.isList (by simp;omega) (I.hndNe f0) fun h' eb=>⟨rfl,I.turned (t':=s.toks) (fun b o hb e=>eb b o hb e) f0 f1 f3 f4 f5⟩
 self:=fun _ _ _ _ _ st h=>wpAny_pyIter_listiter st h
theorem ja {P:Program} {w:World} {K:W.Frag} {A:Around} {tg:Expr} (a it:Addr):Turn P w K A tg (Itt K a) [it] it (fun i h=>h.IsTupleIter it a i) where
 mem:=by simp
 obj:=fun i h st b hb=>by
  have e:b=it:=by simpa using hb
  subst e
  obtain ⟨o,e,c,d⟩:=st
  exact ⟨o,e,fun v z=>by rw [d] at z;cases z⟩
 keep:=fun i h h' st k=>st.at fun o e=>k it (by simp) o e
 item:=by
  intro X hP hw hK _ i pins s σ H E I hf st hg
  subst hP hw hK
  obtain ⟨xs,x,hq,hx⟩:=hg
  obtain ⟨its,rv,p,hz⟩:=I.tuple hq
  obtain ⟨u,hu,ru⟩:=rv.get hx
  obtain ⟨f0,f1,f2,f3,f4,f5⟩:=hf it (by simp)
  refine wpAny_pyNext_tuple_item st (show s.heap.IsTuple a its.toArray from p) (x:=u) (by simpa using hu) fun h' st' sb => ?_
  have I1:Inv X pins σ H { s with heap:=h' }:=I.turned (t':=s.toks) (fun b o hb e=>(sb.2 b hb).trans e) f0 f1 f3 f4 f5
  obtain ⟨o,e,c,d⟩:=id st'
  exact ⟨u,rfl,JK (s:={ s with heap:=h' }) e c d (by decide) ⟨x,H,I1,ru,⟨rfl,fun ys hy=>by rw [I.tuple_inj hy hq];exact hx⟩,st',fun b hb=>(hf b hb).1⟩⟩
 done:=by
  intro X hP hw hK _ i pins s σ H E I hf st hg
  subst hP hw hK
  obtain ⟨xs,hq,hx⟩:=hg
  obtain ⟨its,rv,p,hz⟩:=I.tuple hq
  obtain ⟨f0,f1,f2,f3,f4,f5⟩:=hf it (by simp)
  have hl:=rv.length
  exact EX.tuple_end I.hndH st (show s.heap.IsTuple a its.toArray from p) (by simp;omega) (I.hndNe f0) fun h' eb=>⟨rfl,I.turned (t':=s.toks) (fun b o hb e=>eb b o hb e) f0 f1 f3 f4 f5⟩
 self:=fun _ _ _ _ _ st h=>wpAny_pyIter_tupleiter st h
theorem jF {P:Program} {w:World} {K:W.Frag} {A:Around} {tg:Expr} (it:Addr) (lo:Int) (n:Nat):Turn P w K A tg (Itr lo n) [it] it (fun i h=>IsRangeIter h it (lo + (i:Nat) * 1) ((n:Int) - (i:Nat)) 1) where
 mem:=by simp
 obj:=fun i h st b hb=>by
  have e:b=it:=by simpa using hb
  subst e
  exact ⟨_,st,fun v z=>by
   have z':Data.fields _=Data.cell v:=z
   cases z'⟩
 keep:=fun i h h' st k=>k it (by simp) _ st
 item:=by
  intro X hP hw hK _ i pins s σ H E I hf st hg
  subst hP hw hK
  obtain ⟨f0,f1,f2,f3,f4,f5⟩:=hf it (by simp)
  refine wpAny_pyNext_range_item st (by have:i < n:=hg;omega) fun h' st' sb => ?_
  have I1:Inv X pins σ H { s with heap:=h',toks:=s.toks + 1 }:=I.turned (fun b o hb e=>(sb.2 b hb).trans e) f0 f1 f3 f4 f5
  have st2:IsRangeIter h' it (lo + ((i + 1:Nat):Int) * 1) ((n:Int) - ((i + 1:Nat):Int)) 1:=by
   have q1:lo + (i:Int) * 1 + 1=lo + ((i + 1:Nat):Int) * 1:=by omega
   have q2:(n:Int) - (i:Int) - 1=(n:Int) - ((i + 1:Nat):Int):=by omega
   rw [← q1,← q2];exact st'
  refine ⟨_,rfl,JK (s:={ s with heap:=h',toks:=s.toks + 1 }) (n := "range_iterator") st2 rfl rfl (by decide) ⟨.int (lo + i),H,I1,⟨s.toks,?_⟩,⟨rfl,rfl⟩,st2,fun b hb=>(hf b hb).1⟩⟩
  rw [Int.mul_one]
 done:=by
  intro X hP hw hK _ i pins s σ H E I hf st hg
  subst hP hw hK
  obtain ⟨f0,f1,f2,f3,f4,f5⟩:=hf it (by simp)
  exact EX.range_end I.hndH st (by have:n≤i:=hg;omega) fun h' eb=>⟨rfl,I.turned (t':=s.toks) (fun b o hb e=>eb b o e) f0 f1 f3 f4 f5⟩
 self:=fun _ _ _ _ _ st h=>wpAny_pyIter_rangeiter st h
end L2
namespace L2
open PySem PySem.Spec PyProof.Rows
section
variable {X:Cx} {tg:Expr}
theorem qAW {pins:List (Addr×Obj)} {σ:St} {H:Hp} {s:Shared} {R:It->Hp->Prop} {E:Value->Shared->Prop} {lo hi:Int} {t u v:Tok} {tk:Nat} (I:Inv X pins σ H s) (h1:-(2 ^ 62)≤lo) (h2:lo < 2 ^ 62) (h3:-(2 ^ 62)≤hi) (h4:hi < 2 ^ 62)
  (q:R (Itr lo (hi - lo).toNat) H):wpAny (model X.prog X.w) X.A (pyIter (.ref s.heap.objs.size)) (PIE X pins σ tg R) E { s with heap:=s.heap.push { cls := .type "range",data := .fields #[.int lo t,.int hi u,.int 1 v] },toks:=tk }:=by
 refine wpAny_pyIter_range (IsRange.new ..) (small_one h1 h2 h3 h4) ?_
 have I1:Inv X pins σ H { s with heap:=s.heap.push { cls := .type "range",data := .fields #[.int lo t,.int hi u,.int 1 v] },toks:=tk }:=I.kept fun b o e=>AE _ e
 refine ⟨(s.heap.push { cls := .type "range",data := .fields #[.int lo t,.int hi u,.int 1 v] }).objs.size,[(s.heap.push { cls := .type "range",data := .fields #[.int lo t,.int hi u,.int 1 v] }).objs.size],_,_,H,rfl,
  I1.kept (t':=tk) fun b o e=>AE _ e,jF _ lo (hi - lo).toNat,?_,fun b hb => ?_,q⟩
 ·have e1:lo + ((0:Nat):Int) * 1=lo:=by simp
  have e2:(((hi - lo).toNat:Nat):Int) - ((0:Nat):Int)=Builtin.Range.rangeSize lo hi 1:=by rw [rangeSize_one];split <;> omega
  show IsRangeIter _ _ (lo + ((0:Nat):Int) * 1) ((((hi - lo).toNat:Nat):Int) - ((0:Nat):Int)) 1
  rw [e1,e2]
  exact AU _ rfl
 ·have e:b=(s.heap.push { cls := .type "range",data := .fields #[.int lo t,.int hi u,.int 1 v] }).objs.size:=by simpa using hb
  subst e
  exact I1.fpOk (AI _) (I1.hok.fresh (AI _))
def qFc (ta:TA):TI:=fun σ H R=>ta σ H fun vs H1 => ∃ j:Int,vs=[.int j] ∧ -(2 ^ 62)≤j∧j < 2 ^ 62∧R (Itr 0 j.toNat) H1
theorem Jk {a:Expr} {ta:TA} {p pos:Pos} (hg:Gl X "range") (hm:X.mg "range" = none) (ha:PA X [a] ta) (hs:starEach [a] X.env=[(false,eval a X.env)]:=by rfl):PI X tg (.Call (.Name "range" p) [a] [] pos) (qFc ta):=by
 intro pins s σ H R I h
 refine Call_ (Z9 I hg hm boot_range (PyProof.Rows.callWith_type1 (thn (ha pos pins s σ H _ I h) fun us s1 ⟨vs,H1,I1,r1,q1⟩ => ?_) hs rfl))
 obtain ⟨j,e,q1,q2,q⟩:=q1
 subst e
 cases r1 with
 |cons r rr =>
  cases rr
  obtain ⟨t,rfl⟩:=r
  exact call_range_1 (qAW I1 (by omega) (by omega) q1 q2 (by simpa using q))
def qGe (wi:TI) (g:TG) (tb:TS):TS:=fun D σ H=>wi σ H fun J H1 => ∃ W:Nat->Nat->St->Hp->Prop,(∃ m,W 0 m σ H1) ∧ ∀ i m σ H,W i m σ H ->
 (J.stop i H∧D.nx σ H)∨(J.go i H ∧ ∃ N:St->Hp->Prop,(∀ σ' H',N σ' H' -> ∃ m',m' < m∧W (i + 1) m' σ' H') ∧ ∀ x H',J.yld i H x H'->g x σ H' fun σ2 H2=>tb { D with nx:=N,ct:=N,bk:=D.nx } σ2 H2)
def Ww (fp:List Addr) (h:Heap):List (Addr×Obj):=fp.filterMap fun b=>(h.get? b).map fun o=>(b,o)
theorem WG {fp:List Addr} {h:Heap} {b:Addr} {o:Obj} (hb:b∈fp) (e:h.get? b=some o):(b,o)∈Ww fp h:=List.mem_filterMap.mpr ⟨b,hb,by rw [e];rfl⟩
theorem qAD {fp:List Addr} {h:Heap} {p:Addr×Obj} (hp:p∈Ww fp h):p.1∈fp∧h.get? p.1=some p.2:=by
 obtain ⟨b,hb,e⟩:=List.mem_filterMap.mp hp
 cases q:h.get? b with
 |none=>rw [q] at e;cases e
 |some o =>
  rw [q] at e
  have e':(b,o)=p:=AS e
  subst e'
  exact ⟨hb,q⟩
theorem Inv.pinned {pins:List (Addr×Obj)} {σ:St} {H:Hp} {s:Shared} {fp:List Addr} (I:Inv X pins σ H s) (hf:∀ b∈fp,Wz X pins H b) (ho:∀ b∈fp,∃ o,s.heap.get? b=some o ∧ ∀ v,o.data ≠ .cell v):Inv X (pins++Ww fp s.heap) σ H s :=
 I.pins_of fun p hp=>(A1.mp hp).elim (fun z=>I.pin p (Ap _ z)) fun z=>by
  obtain ⟨hb,e⟩:=qAD z
  obtain ⟨f0,f1,f2,_⟩:=hf p.1 hb
  obtain ⟨o,e',d⟩:=ho p.1 hb
  rw [e] at e';cases e'
  exact ⟨e,f0,f1,f2,d⟩
theorem Inv.unpinned {pins pl:List (Addr×Obj)} {σ:St} {H:Hp} {s:Shared} (I:Inv X (pins++pl) σ H s):Inv X pins σ H s:=I.pins_of fun p hp=>I.pin p (Ap _ (List.mem_append_left _ hp))
end
end L2
namespace L2
open PySem PySem.Spec PyProof.Rows
abbrev R2:=V->V->Hp->VK->Prop
def OpR (X:Cx) (f:Value->Value->Sem Value) (r:R2):Prop :=
 ∀ (pins:List (Addr×Obj)) (s:Shared) (σ:St) (H:Hp) (x y:V) (v u:Value) (Q:VK),Inv X pins σ H s->RelV x v->RelV y u->r x y H Q ->
  wpAny (model X.prog X.w) X.A (f v u) (EP X pins σ Q) X.xe s
def UnR (X:Cx) (f:Value->Sem Value) (r:V->Hp->VK->Prop):Prop :=
 ∀ (pins:List (Addr×Obj)) (s:Shared) (σ:St) (H:Hp) (x:V) (v:Value) (Q:VK),Inv X pins σ H s->RelV x v->r x H Q ->
  wpAny (model X.prog X.w) X.A (f v) (EP X pins σ Q) X.xe s
def Wj (X:Cx) (f:Value) (r:List V->Hp->VK->Prop):Prop :=
 ∀ (pins:List (Addr×Obj)) (s:Shared) (σ:St) (H:Hp) (xs:List V) (us:List Value) (Q:VK),Inv X pins σ H s->Vals xs us->r xs H Q ->
  wpAny (model X.prog X.w) X.A (call f us) (EP X pins σ Q) X.xe s
def qGk (X:Cx) (r:V->Hp->(Bool->Hp->Prop)->Prop):Prop :=
 ∀ (pins:List (Addr×Obj)) (s:Shared) (σ:St) (H:Hp) (x:V) (v:Value) (Q:Bool->Hp->Prop),Inv X pins σ H s->RelV x v->r x H Q ->
  wpAny (model X.prog X.w) X.A (truthy v) (TP X pins σ Q) X.xe s
def tOp (r:R2) (ta tb:TE):TE:=fun σ H Q=>ta σ H fun x H1=>tb σ H1 fun y H2=>r x y H2 Q
def tUn (r:V->Hp->VK->Prop) (ta:TE):TE:=fun σ H Q=>ta σ H fun x H1=>r x H1 Q
def rI (C:Int->Int->Prop) (g:Int->Int->V):R2:=fun x y H Q => ∃ i j,x = .int i∧y = .int j∧C i j∧Q (g i j) H
def rI0 (g:Int->Int->V):R2:=fun x y H Q => ∃ i j,x = .int i∧y = .int j∧Q (g i j) H
def rU (g:Int->V):V->Hp->VK->Prop:=fun x H Q => ∃ i,x = .int i∧Q (g i) H
section
variable {X:Cx} {a b c:Expr} {ta tb tc:TE} {pos:Pos}
theorem qFa (ha:PE X a ta) (hb:PE X b tb) {pins:List (Addr×Obj)} {s:Shared} {σ:St} {H:Hp} {R:V->V->Hp->Prop} (I:Inv X pins σ H s)
  (h:ta σ H fun x H1=>tb σ H1 fun y H2=>R x y H2) {Q:Value->Shared->Prop} {f:Value->Value->Sem Value}
  (hf:∀ v u s2 x y H2,Inv X pins σ H2 s2->RelV x v->RelV y u->R x y H2->wpAny (model X.prog X.w) X.A (f v u) Q X.xe s2) :
  wpAny (model X.prog X.w) X.A (eval a X.env) (fun v s₁=>wpAny (model X.prog X.w) X.A (eval b X.env) (fun u s₂=>wpAny (model X.prog X.w) X.A (f v u) Q X.xe s₂) X.xe s₁) X.xe s:=by
 refine thn (ha pins s σ H _ I h) fun v s1 ⟨x,H1,I1,r1,q1⟩ => ?_
 refine thn (hb pins s1 σ H1 _ I1 q1) fun u s2 ⟨y,H2,I2,r2,q2⟩ => ?_
 exact hf v u s2 x y H2 I2 r1 r2 q2
theorem qDU {op:Operator} {r:R2} (ho:OpR X (binaryOp op) r) (ha:PE X a ta) (hb:PE X b tb):PE X (.BinOp a op b pos) (tOp r ta tb):=by
 intro pins s σ H Q I h
 exact wpAny_BinOp (qFa ha hb I h fun v u s2 x y H2 I2 rx ry q=>ho pins s2 σ H2 x y v u Q I2 rx ry q)
theorem qF6 {op:UnaryOp} {r:V->Hp->VK->Prop} (ho:UnR X (unaryOp op) r) (ha:PE X a ta):PE X (.UnaryOp op a pos) (tUn r ta):=by
 intro pins s σ H Q I h
 exact UnaryOp_ (thn (ha pins s σ H _ I h) fun v s1 ⟨x,H1,I1,r1,q1⟩=>ho pins s1 σ H1 x v Q I1 r1 q1)
theorem opI {f:Value->Value->Sem Value} {C:Int->Int->Prop} {g:Int->Int->Int}
  (rule:∀ (i j:Int) (t u:Tok) (s:Shared) (Q:Value->Shared->Prop) (E:Value->Shared->Prop),C i j->Q (.int (g i j) s.toks) { s with toks:=s.toks + 1 }->wpAny (model X.prog X.w) X.A (f (.int i t) (.int j u)) Q E s) :
  OpR X f (rI C fun i j => .int (g i j)):=by
 intro pins s σ H x y v u Q I rx ry h
 obtain ⟨i,j,rfl,rfl,hc,q⟩:=h
 obtain ⟨t,rfl⟩:=rx
 obtain ⟨t',rfl⟩:=ry
 exact rule i j t t' s _ _ hc ⟨.int (g i j),H,I.tok _,⟨_,rfl⟩,q⟩
theorem qFj {f:Value->Value->Sem Value} {g:Int->Int->Int}
  (rule:∀ (i j:Int) (t u:Tok) (s:Shared) (Q:Value->Shared->Prop) (E:Value->Shared->Prop),Q (.int (g i j) s.toks) { s with toks:=s.toks + 1 }->wpAny (model X.prog X.w) X.A (f (.int i t) (.int j u)) Q E s) :
  OpR X f (rI0 fun i j => .int (g i j)):=by
 intro pins s σ H x y v u Q I rx ry h
 obtain ⟨i,j,rfl,rfl,q⟩:=h
 obtain ⟨t,rfl⟩:=rx
 obtain ⟨t',rfl⟩:=ry
 exact rule i j t t' s _ _ ⟨.int (g i j),H,I.tok _,⟨_,rfl⟩,q⟩
theorem qFL {f:Value->Value->Sem Value} {g:Int->Int->Bool}
  (rule:∀ (i j:Int) (t u:Tok) (s:Shared) (Q:Value->Shared->Prop) (E:Value->Shared->Prop),Q (.bool (g i j)) s->wpAny (model X.prog X.w) X.A (f (.int i t) (.int j u)) Q E s) :
  OpR X f (rI0 fun i j => .bl (g i j)):=by
 intro pins s σ H x y v u Q I rx ry h
 obtain ⟨i,j,rfl,rfl,q⟩:=h
 obtain ⟨t,rfl⟩:=rx
 obtain ⟨t',rfl⟩:=ry
 exact rule i j t t' s _ _ ⟨.bl (g i j),H,I,rfl,q⟩
def qGs (i j:Int):Prop:=0 < j∧j < 1073741824
def qGK (i j:Int):Prop:=0≤j∧j≤1000000∧i.natAbs < 2 ^ 64
def CMul (i j:Int):Prop:=(-(2 ^ 64) < i∧i < 2 ^ 64)∨(-(2 ^ 64) < j∧j < 2 ^ 64)
theorem CMul.ok {i j:Int} (h:CMul i j):IntMulOk i j:=by
 rcases h with ⟨h1,h2⟩ |⟨h1,h2⟩
 ·exact .of_left (intBits_le_64 h1 h2)
 ·exact .of_right (intBits_le_64 h1 h2)
theorem qEV:OpR X (binaryOp .Add) (rI0 fun i j => .int (i + j)):=qFj fun _ _ _ _ _ _ _ q=>add_int q
theorem qEP:OpR X (binaryOp .Sub) (rI0 fun i j => .int (i - j)):=qFj fun _ _ _ _ _ _ _ q=>sub_int q
theorem qEo:OpR X (binaryOp .Mult) (rI CMul fun i j => .int (i * j)):=opI fun _ _ _ _ _ _ _ hc q=>mul_int q hc.ok
theorem qCf:OpR X (binaryOp .FloorDiv) (rI qGs fun i j => .int (i / j)):=opI fun i j _ _ _ _ _ hc q=>by
 have h1:(0:Int) < j:=hc.1
 have h2:j < 1073741824:=hc.2
 exact floordiv_int (by omega) (by rw [Int.fdiv_eq_ediv_of_nonneg i (by omega)];exact q) (.inl (PyProof.noPylong_small (by omega)))
theorem qEq:OpR X (binaryOp .Mod) (rI (fun _ j=>0 < j) fun i j => .int (i % j)):=opI fun i j _ _ _ _ _ hc q=>by
 have h1:(0:Int) < j:=hc
 exact mod_int' (by omega) (by rw [Int.fmod_eq_emod_of_nonneg i (by omega)];exact q)
theorem qD4:OpR X (binaryOp .Pow) (rI qGK fun i j => .int (i ^ j.toNat)):=opI fun _ _ _ _ _ _ _ hc q=>pow_int_small hc.1 hc.2.1 hc.2.2 q
theorem unI {f:Value->Sem Value} {g:Int->Int}
  (rule:∀ (i:Int) (t:Tok) (s:Shared) (Q:Value->Shared->Prop) (E:Value->Shared->Prop),Q (.int (g i) s.toks) { s with toks:=s.toks + 1 }->wpAny (model X.prog X.w) X.A (f (.int i t)) Q E s) :
  UnR X f (rU fun i => .int (g i)):=by
 intro pins s σ H x v Q I rx h
 obtain ⟨i,rfl,q⟩:=h
 obtain ⟨t,rfl⟩:=rx
 exact rule i t s _ _ ⟨.int (g i),H,I.tok _,⟨_,rfl⟩,q⟩
theorem qFJ:UnR X (unaryOp .USub) (rU fun i => .int (-i)):=unI fun _ _ _ _ _ q=>neg_int q
theorem qAS:OpR X (compareOp .Lt) (rI0 fun i j => .bl (decide (i < j))):=qFL fun _ _ _ _ _ _ _ q=>lt_int q
theorem j5:OpR X (compareOp .LtE) (rI0 fun i j => .bl (decide (i≤j))):=qFL fun _ _ _ _ _ _ _ q=>le_int q
theorem YV:OpR X (compareOp .GtE) (rI0 fun i j => .bl (decide (j≤i))):=qFL fun _ _ _ _ _ _ _ q=>ge_int q
theorem QJ (b:Expr) {op:CmpOp} (h:op ≠ .In:=by decide) (h2:op ≠ .NotIn:=by decide):behindInMarks op b=false:=by
 have e1:(op==CmpOp.In)=false:=by cases op <;> first |rfl |exact absurd rfl h
 have e2:(op==CmpOp.NotIn)=false:=by cases op <;> first |rfl |exact absurd rfl h2
 cases b <;> simp [behindInMarks,e1,e2]
def qDW (t:TE):TT:=fun σ H Q=>t σ H fun x H' => ∃ k,x = .bl k∧Q k H'
theorem qC5 {op:CmpOp} {r:R2} (ho:OpR X (compareOp op) r) (ha:PE X a ta) (hb:PE X b tb) (hm:behindInMarks op b=false):PT X (.Compare a [op] [b] pos) (qDW (tOp r ta tb)):=by
 intro pins s σ H Q I h
 refine wpAny_isTrue_Compare1 (thn (ha pins s σ H _ I h) fun v s1 ⟨x,H1,I1,r1,q1⟩=>thn (hb pins s1 σ H1 _ I1 q1) fun u s2 ⟨y,H2,I2,r2,q2⟩ =>
  thn (ho pins s2 σ H2 x y v u _ I2 r1 r2 q2) fun c s3 ⟨z,H3,I3,r3,k,e,q3⟩ => ?_) hm
 subst e
 cases r3
 exact A5 ⟨H3,I3,q3⟩
def qAT (r r':R2) (ta tb tc:TE):TE:=fun σ H Q=>ta σ H fun x H1=>tb σ H1 fun y H2=>r x y H2 fun z H3 => ∃ k,z = .bl k ∧
 (if k=true then tc σ H3 fun w' H4=>r' y w' H4 Q else Q (.bl false) H3)
theorem qBX {op op':CmpOp} {r r':R2} (ho:OpR X (compareOp op) r) (ho':OpR X (compareOp op') r') (ha:PE X a ta) (hb:PE X b tb) (hc:PE X c tc)
  (hm:lastMarks [op,op'] [b,c]=false:=by with_unfolding_all rfl):PE X (.Compare a [op,op'] [b,c] pos) (qAT r r' ta tb tc):=by
 intro pins s σ H Q I h
 refine Compare_chain (thn (ha pins s σ H _ I h) fun v s1 ⟨x,H1,I1,r1,q1⟩=>chain_link (thn (hb pins s1 σ H1 _ I1 q1) fun u s2 ⟨y,H2,I2,r2,q2⟩ =>
  thn (ho pins s2 σ H2 x y v u _ I2 r1 r2 q2) fun d s3 ⟨z,H3,I3,r3,k,e,q3⟩ => ?_)) hm
 subst e
 cases r3
 refine A5 ?_
 cases k with
 |false=>exact ite_ff ⟨.bl false,H3,I3,rfl,q3⟩
 |true=>exact ite_tt (chain_last (thn (hc pins s3 σ H3 _ I3 q3) fun w' s4 ⟨z',H4,I4,r4,q4⟩=>ho' pins s4 σ H4 y z' u w' Q I4 r2 r4 q4))
theorem qAc {op op':CmpOp} {r r':R2} (ho:OpR X (compareOp op) r) (ho':OpR X (compareOp op') r') (ha:PE X a ta) (hb:PE X b tb) (hc:PE X c tc)
  (hm:lastMarks [op,op'] [b,c]=false:=by with_unfolding_all rfl):PT X (.Compare a [op,op'] [b,c] pos) (qDW (qAT r r' ta tb tc)):=by
 intro pins s σ H Q I h
 refine isTrue_chain (thn (ha pins s σ H _ I h) fun v s1 ⟨x,H1,I1,r1,q1⟩=>test_link (thn (hb pins s1 σ H1 _ I1 q1) fun u s2 ⟨y,H2,I2,r2,q2⟩ =>
  thn (ho pins s2 σ H2 x y v u _ I2 r1 r2 q2) fun d s3 ⟨z,H3,I3,r3,k,e,q3⟩ => ?_)) hm
 subst e
 cases r3
 refine A5 ?_
 cases k with
 |false =>
  obtain ⟨k',e',q'⟩:=q3
  cases e'
  exact ite_ff ⟨H3,I3,q'⟩
 |true =>
  refine ite_tt (test_last (thn (hc pins s3 σ H3 _ I3 q3) fun w' s4 ⟨z',H4,I4,r4,q4⟩=>thn (ho' pins s4 σ H4 y z' u w' _ I4 r2 r4 q4) fun d' s5 ⟨z2,H5,I5,r5,k2,e2,q5⟩ => ?_))
  subst e2
  cases r5
  exact A5 ⟨H5,I5,q5⟩
def qCL (K:W.Frag) (x:V) (H:Hp) (k:Bool):Prop :=
 match x with
 | .non=>k=false
 | .bl b=>k=b
 | .int i=>k=(i != 0)
 | .str y=>y.length≤sizeLine∧k=((y.length:Int) != 0)
 | .byt y=>y.size≤sizeLine∧k=((y.size:Int) != 0)
 | .ref p=>(∃ xs,SqL K H p xs∧k = !xs.isEmpty)∨(∃ xs,SqT K H p xs∧k = !xs.isEmpty) ∨ ∃ kvs,H p=some (.dK kvs)∧k = !kvs.isEmpty
 |_=>False
theorem je {κ:Type} {kvs:List (κ×V)} {vs:List (κ×Value)} (r:KV kvs vs):(!vs.isEmpty) = !kvs.isEmpty:=by
 cases r <;> rfl
theorem zt {xs:List V} {its:List Value} (r:Vals xs its):(!its.toArray.isEmpty) = !xs.isEmpty:=by
 cases r <;> simp
theorem zL:(sizeLine:Nat) < 2 ^ 63:=by rw [sizeLine_eq];decide
theorem qEY:qGk X (fun x H Q => ∃ k,qCL X.K x H k∧Q k H):=by
 intro pins s σ H x v Q I rx h
 obtain ⟨k,e,q⟩:=h
 have hl:=zL
 have hs:sizeLine=16777216:=sizeLine_eq
 cases x with
 |non =>
  cases rx
  have e':k=false:=e
  subst e'
  exact truthy_none ⟨H,I,q⟩
 |bl b =>
  cases rx
  have e':k=b:=e
  subst e'
  exact A5 ⟨H,I,q⟩
 |int i =>
  obtain ⟨t,rfl⟩:=rx
  have e':k=(i != 0):=e
  subst e'
  exact PySem.P.truthy_int ⟨H,I,q⟩
 |str y =>
  obtain ⟨t,rfl⟩:=rx
  obtain ⟨hy,e'⟩:y.length≤sizeLine∧k=((y.length:Int) != 0):=e
  subst e'
  exact PySem.P.truthy_str (by omega) ⟨H,I.tok _,q⟩
 |byt y =>
  obtain ⟨t,rfl⟩:=rx
  obtain ⟨hy,e'⟩:y.size≤sizeLine∧k=((y.size:Int) != 0):=e
  subst e'
  exact W.truthy_bytes (by omega) ⟨H,I.tok _,q⟩
 |ref p =>
  cases rx
  have e':(∃ xs,SqL X.K H p xs∧k = !xs.isEmpty)∨(∃ xs,SqT X.K H p xs∧k = !xs.isEmpty) ∨ ∃ kvs,H p=some (.dK kvs)∧k = !kvs.isEmpty:=e
  rcases e' with ⟨xs,hx,e'⟩ |⟨xs,hx,e'⟩ |⟨kvs,hx,e'⟩
  ·subst e'
   obtain ⟨its,r,pl,hz⟩:=I.list hx
   have hlen:=r.length
   exact wpAny_truthy_list pl.isList (by simp only [AK];omega) ⟨H,I.tok _,by rw [zt r];exact q⟩
  ·subst e'
   obtain ⟨its,r,pl,hz⟩:=I.tuple hx
   have hlen:=r.length
   exact truthy_tuple pl (by simp only [AK];omega) ⟨H,I.tok _,by rw [zt r];exact q⟩
  ·subst e'
   obtain ⟨hz,hS,vs,r,m⟩:kvs.length≤sizeLine∧(p==sysModules)=false ∧ ∃ vs,KV kvs vs∧s.heap.DictOf (QP X.prog X.w) p vs:=I.hok p _ hx
   have hlen:kvs.length=vs.length:=Paired.length r
   exact wpAny_truthy_dict hS m (by omega) ⟨H,I.tok _,by rw [je r];exact q⟩
 |_=>exact (show False from e).elim
theorem qBm (ha:PE X a ta) (he:∀ whole,isTrue a X.env whole=(do let v ← whole;standAt a.pos;holding [v] (truthy v))) :
  PT X a (fun σ H Q=>ta σ H fun x H' => ∃ k,qCL X.K x H' k∧Q k H'):=by
 intro pins s σ H Q I h
 exact isTrue_plain (thn (ha pins s σ H _ I h) fun v s1 ⟨x,H1,I1,r1,q1⟩=>qEY pins s1 σ H1 x v Q I1 r1 q1) (he _)
theorem jX:OpR X (binaryOp .Add) (fun x y H Q => ∃ i j,x = .str i∧y = .str j∧i.length + j.length≤sizeLine∧Q (.str (i++j)) H):=by
 intro pins s σ H x y v u Q I rx ry h
 obtain ⟨i,j,rfl,rfl,hz,q⟩:=h
 obtain ⟨t,rfl⟩:=rx
 obtain ⟨t',rfl⟩:=ry
 exact add_str (fun t' tk=>⟨.str (i++j),H,I.tok _,⟨_,rfl⟩,q⟩) hz
theorem qDV {x:V} {us:List Value} (r:Vals [x] us):∃ u,us=[u]∧RelV x u:=by
 cases r with
 |cons r1 r2=>cases r2;exact ⟨_,rfl,r1⟩
theorem jo {x y:V} {us:List Value} (r:Vals [x,y] us):∃ u w',us=[u,w']∧RelV x u∧RelV y w':=by
 cases r with
 |cons r1 r2 =>
  cases r2 with
  |cons r3 r4=>cases r4;exact ⟨_,_,rfl,r1,r3⟩
theorem JY (hc:X.calm=true):Wj X (.builtin "max") (fun xs H Q => ∃ i j,xs=[.int i,.int j]∧Q (.int (if j > i then j else i)) H):=by
 intro pins s σ H xs us Q I r h
 obtain ⟨i,j,rfl,q⟩:=h
 obtain ⟨u,w',rfl,⟨t,rfl⟩,⟨t',rfl⟩⟩:=jo r
 refine max_two_ints (I.ok.hd hc) fun h' tk k=>⟨_,H,I.kept k,?_,q⟩
 by_cases hj:j > i
 ·rw [AH hj,AH hj];exact ⟨_,rfl⟩
 ·rw [AO hj,AO hj];exact ⟨_,rfl⟩
theorem Jj (hc:X.calm=true):Wj X (.builtin "min") (fun xs H Q => ∃ i j,xs=[.int i,.int j]∧Q (.int (if j < i then j else i)) H):=by
 intro pins s σ H xs us Q I r h
 obtain ⟨i,j,rfl,q⟩:=h
 obtain ⟨u,w',rfl,⟨t,rfl⟩,⟨t',rfl⟩⟩:=jo r
 refine min_two_ints (I.ok.hd hc) fun h' tk k=>⟨_,H,I.kept k,?_,q⟩
 by_cases hj:j < i
 ·rw [AH hj,AH hj];exact ⟨_,rfl⟩
 ·rw [AO hj,AO hj];exact ⟨_,rfl⟩
end
end L2
namespace L2
open PySem PySem.Spec PyProof.Rows
theorem RelO.some_of {v:V} {o:Option Value} (r:RelO (some v) o):∃ u,o=some u∧RelV v u:=by
 cases o with
 |none=>exact (show False from r).elim
 |some u=>exact ⟨u,rfl,r⟩
end L2
namespace L2
open PySem PySem.Spec PyProof.Rows
structure Room (k:Nat) (A:Around):Prop where
 hd:1 < k->A.handled=none
 dp:A.depth + 3 * k + 5 < recursionLimit
 un:A.units + 16 * k + 200 < cLine
 gd:A.guards=some []
theorem Room.mono {j k:Nat} {A:Around} (r:Room k A) (h:j≤k):Room j A:=⟨fun z=>r.hd (by omega),by have:=r.dp;omega,by have:=r.un;omega,r.gd⟩
theorem Room.deeper {k:Nat} {A:Around} (r:Room (k + 1) A) (env:Env):Room k (A.deeper env) :=
 ⟨fun z=>r.hd (by omega),by have:=r.dp;show A.depth + 1 + 3 * k + 5 < _;omega,by have:=r.un;show A.units + 3 + 16 * k + 200 < _;omega,r.gd⟩
theorem Room.depth {k:Nat} {A:Around} (r:Room k A):A.depth < recursionLimit:=by have:=r.dp;omega
theorem Room.units {k:Nat} {A:Around} (r:Room k A):A.units + 64 < cLine:=by have:=r.un;omega
def qGy:TA:=fun _ H Q=>Q [] H
def qFP (ta:TE) (tr:TA):TA:=fun σ H Q=>ta σ H fun x H1=>tr σ H1 fun xs H2=>Q (x::xs) H2
section
variable {X:Cx} {e:Expr} {es:List Expr} {te:TE} {t:TA} {pos:Pos}
theorem jY:PA X [] qGy:=fun _ _ _ _ H Q I h=>Calls.spliced_nil ⟨[],H,I,.nil,h⟩
theorem yN (ha:PE X e te) (hr:PA X es t) (hs:starEach (e::es) X.env=(false,eval e X.env)::starEach es X.env:=by rfl):PA X (e::es) (qFP te t):=by
 intro pos pins s σ H Q I h
 rw [hs]
 show wpAny _ _ (spliced ((false,eval e X.env)::backTo pos (starEach es X.env))) _ _ s
 refine Calls.spliced_cons (thn (ha pins s σ H _ I h) fun u s1 ⟨x,H1,I1,r1,q1⟩ => ?_)
 exact thn (hr pos pins s1 σ H1 _ I1 q1) fun us s2 ⟨xs,H2,I2,r2,q2⟩=>⟨x::xs,H2,I2,.cons r1 r2,q2⟩
def qGS (t:TA):TE:=fun σ H Q=>t σ H fun xs H1=>xs.length≤sizeLine ∧ ∀ p,H1 p=none->Q (.ref p) (upd H1 p (.tup xs))
def qG5 (t:TA):TE:=fun σ H Q=>t σ H fun xs H1=>xs.length≤sizeLine ∧ ∀ p,H1 p=none->Q (.ref p) (upd H1 p (.lst xs))
theorem qEl {x1} (h:PA X es t):PE X (.Tuple es x1 pos) (qGS t):=by
 intro pins s σ H Q I hq
 refine wpAny_Tuple_spliced (thn (h pos pins s σ H _ I hq) fun us s1 ⟨xs,H1,I1,r,z,q⟩=>⟨by rw [← r.length];exact z,?_⟩)
 have hf:H1 s1.heap.objs.size=none:=I1.hok.fresh (AI _)
 refine ⟨.ref s1.heap.objs.size,upd H1 s1.heap.objs.size (.tup xs),I1.laid (t':=s1.toks) (fun b u e=>AE _ e) (AI _) ?_,rfl,q _ hf⟩
 exact ⟨z,us,r,⟨_,AU _ rfl,rfl,_,rfl⟩,_,AU _ rfl,rfl⟩
theorem qDh (h:PA X es t):PE X (.List es pos) (qG5 t):=by
 intro pins s σ H Q I hq
 refine wpAny_List_spliced (thn (h pos pins s σ H _ I hq) fun us s1 ⟨xs,H1,I1,r,z,q⟩=>⟨by rw [← r.length];exact z,?_⟩)
 have hf:H1 s1.heap.objs.size=none:=I1.hok.fresh (AI _)
 refine ⟨.ref s1.heap.objs.size,upd H1 s1.heap.objs.size (.lst xs),I1.laid (t':=s1.toks) (fun b u e=>AE _ e) (AI _) ?_,rfl,q _ hf⟩
 exact ⟨z,us,0,r,AU _ rfl⟩
end
abbrev Sp:=List V->Hp->VK->XK->Prop
abbrev CXT:=List Env->Hp->Shared->XK->Value->Shared->Prop
structure Env0 (P:Program) (w:World) (K:W.Frag) (mg:Str->Option Value) (base:Heap) (A:Around) (outer:List Env) (s:Shared) (H:Hp):Prop where
 frames:A.frames=some outer
 mod:Mod K mg base
 bs:∀ b o,base.get? b=some o->s.heap.get? b=some o∧H b=none
 bsz:base.objs.size≤s.heap.objs.size
 funs:s.heap.FunFrames base outer
 frf:∀ b∈frs outer,H b=none
 hok:HOk P w H s.heap
 bare:AllBare s.gens
 hnd:HndH A H
def CE (outer:List Env) (P:Program) (w:World) (H:Hp) (s:Shared) (Q:VK) (u:Value) (s':Shared):Prop :=
 ∃ v H',s'.os=s.os∧AllBare s'.gens∧Un (frs outer) [] H H' s.heap s'.heap∧HOk P w H' s'.heap∧RelV v u∧Q v H'
def CR (CX:CXT) (outer:List Env) (P:Program) (w:World) (H:Hp) (s:Shared) (Q:VK) (E:XK) (r:Result) (s':Shared):Prop :=
 match r with
 | .ok (.ret u)=>CE outer P w H s Q u s'
 | .ok _=>False
 | .error e=>CX outer H s E e s'
structure FnOk (P:Program) (w:World) (K:W.Frag) (mg:Str->Option Value) (base:Heap) (CX:CXT) (k:Nat) (f:Addr) (fd:FuncData) (ps:List Str) (sp:Sp):Prop where
 len:∀ vs H Q E,sp vs H Q E->vs.length=ps.length
 run:∀ (A:Around) (outer:List Env) (s:Shared) (H:Hp) (args:Args) (us:List Value) (vs:List V) (Q:VK) (E:XK),Room k A->Env0 P w K mg base A outer s H->BindsTo s fd args (ps.zip us)->Vals vs us->sp vs H Q E ->
  codeAny (model P w) A (.call (.ref f) args) (CR CX outer P w H s Q E) s
section
variable {X:Cx} {pins:List (Addr×Obj)} {σ:St} {H:Hp} {s s':Shared}
theorem Inv.env0 (I:Inv X pins σ H s):Env0 X.prog X.w X.K X.mg X.base X.A X.stack s H :=
 ⟨I.ok.frames,I.ok.mod,I.bs,AV I.ok.bsz I.sz,I.stack,I.stkFree,I.hok,I.bare,I.hnd⟩
theorem Inv.after {Q:VK} {u:Value} (I:Inv X pins σ H s) (h:CE X.stack X.prog X.w H s Q u s'):EP X pins σ Q u s':=by
 obtain ⟨v,H',os,bare,un,hok,r,q⟩:=h
 obtain ⟨hh,g,d,t,os'⟩:=s'
 obtain rfl:os'=s.os:=os
 exact ⟨v,H',I.call (h':=hh) (g':=g) (d':=d) (t':=t) (ch:=[]) un hok bare (fun b z=>absurd z (by simp)),r,q⟩
end
def qF9 (sp:Sp) (dvs:List V) (E:XK) (t:TA):TE:=fun σ H Q=>t σ H fun vs H1=>sp (vs++dvs) H1 Q E
def Binds (K:W.Frag) (fd:FuncData) (ps:List Str) (ds:List Value):Prop :=
 ∀ (s:Shared) (us:List Value),K.In s.heap->(us++ds).length=ps.length->BindsTo s fd ⟨us,[]⟩ (ps.zip (us++ds))
theorem Binds.all {K:W.Frag} {fd:FuncData} {ps:List Str} (h:∀ us:List Value,us.length=ps.length->bindArgs fd ⟨us,[]⟩=pure (ps.zip us)):Binds K fd ps []:=fun s us _ hl=>by
 rw [BS] at hl ⊢
 exact .of_eq (h us hl)
def WR (CX:CXT) (X:Cx) (E:XK):Prop := ∀ (pins:List (Addr×Obj)) (σ:St) (H:Hp) (s:Shared) (e:Value) (s':Shared),Inv X pins σ H s->CX X.stack H s E e s'->X.xe e s'
section
variable {X:Cx} {CX:CXT} {k:Nat} {f C:Addr} {fd:FuncData} {ps:List Str} {sp:Sp} {dvs:List V} {ds:List Value} {E:XK} {x m:Str} {p pos apos:Pos} {e o:Expr} {es:List Expr} {ta:TE} {t:TA}
theorem qEr {pins:List (Addr×Obj)} {σ:St} {H:Hp} {s:Shared} {Q:VK} {us:List Value} {vs:List V} (F:FnOk X.prog X.w X.K X.mg X.base CX k f fd ps sp) (hr:Room k X.A) (hb:Binds X.K fd ps ds) (hd:Vals dvs ds) (hx:WR CX X E)
  (I:Inv X pins σ H s) (r:Vals vs us) (h:sp (vs++dvs) H Q E):wpAny (model X.prog X.w) X.A (call (.ref f) us) (EP X pins σ Q) X.xe s:=by
 have r2:Vals (vs++dvs) (us++ds):=r.append hd
 have hl:(us++ds).length=ps.length:=by rw [← r2.length];exact F.len _ _ _ _ h
 refine wpAny_call (codeAny_mono (F.run X.A X.stack s H ⟨us,[]⟩ (us++ds) (vs++dvs) Q E hr I.env0 (hb s us I.kIn hl) r2 h) fun r s' hq => ?_)
 cases r with
 |error e=>exact hx pins σ H s e s' I hq
 |ok fl =>
  cases fl with
  |ret u=>exact I.after hq
  |next=>exact False.elim hq
  |brk=>exact False.elim hq
  |cont=>exact False.elim hq
theorem qC3 (F:FnOk X.prog X.w X.K X.mg X.base CX k f fd ps sp) (hr:Room k X.A) (hg:Gl X x) (hm:X.mg x=some (.ref f)) (hk:W.keepIn X.K (.ref f)=true) (hb:Binds X.K fd ps ds) (hd:Vals dvs ds) (hx:WR CX X E)
  (ha:PA X (e::es) t) (hdb:(x==("__debug__":Str))=false:=by decide) (he:starEach (e::es) X.env=(false,eval e X.env)::starEach es X.env:=by rfl) (hpl:(backTo pos (starEach es X.env)).any (·.1)=false:=by rfl) :
  PE X (.Call (.Name x p) (e::es) [] pos) (qF9 sp dvs E t):=by
 intro pins s σ H Q I h
 refine wpAny_Call_Name_kw (yI I hg hm ?_ hdb)
 refine W.callWith_K (h₀:=X.base) I.ok.mod.kin hk (thn (ha pos pins s σ H _ I h) fun us s1 ⟨vs,H1,I1,r,q⟩=>⟨I1.kIn,?_⟩) he hpl
 exact qEr F hr hb hd hx I1 r q
end
structure FnScope (N P:List Str) (sc:Scope):Prop where
 kind:sc.kind = .function
 co:sc.isCoroutine=false
 gen:sc.isGenerator=false
 nd:N.Nodup
 pre:N.take P.length=P
 par:∀ x∈P,sc.names.lookup x=some .local∨sc.names.lookup x=some .cell
 nofree:∀ y∈sc.names,y.2 ≠ .free
theorem ZY {kindOf:Str->Option NameKind} {x:Str}:∀ {binds:List (Str×Value)} {m:Str->Option Value},(∀ v,(x,v) ∉ binds)->bindL kindOf binds m x=m x
 |[],_,_=>rfl
 |(n,v)::r,m,h=>by
  unfold bindL
  rw [ZY fun w hw=>h w (AD _ hw)]
  split
  ·have:x≠n:=by rintro rfl;exact h v AF
   simp [this]
  ·rfl
theorem Z4 {kindOf:Str->Option NameKind} {x:Str}:∀ {binds:List (Str×Value)} {m:Str->Option Value},(∀ v,(x,v) ∉ binds)->bindC kindOf binds m x=m x
 |[],_,_=>rfl
 |(n,v)::r,m,h=>by
  unfold bindC
  rw [Z4 fun w hw=>h w (AD _ hw)]
  split
  ·rfl
  ·have:x≠n:=by rintro rfl;exact h v AF
   simp [this]
theorem Zx {kindOf:Str->Option NameKind} {x:Str} {v:Value}:∀ {P:List Str} {vs:List Value} {i:Nat} {m:Str->Option Value},P.Nodup->P[i]? = some x->vs[i]? = some v->kindOf x=some .local ->
  bindL kindOf (P.zip vs) m x=some v
 |[],_,_,_,_,h,_,_=>by simp at h
 |_::_,[],_,_,_,_,h,_=>by simp at h
 |p::P,w::vs,0,m,nd,h1,h2,hk=>by
  simp at h1 h2;subst h1;subst h2
  show bindL kindOf ((p,w)::P.zip vs) m p=_
  unfold bindL
  rw [ZY fun v hv=>(Ak.mp nd).1 (List.of_mem_zip hv).1,AH hk]
  simp
 |p::P,w::vs,i + 1,m,nd,h1,h2,hk=>by
  show bindL kindOf ((p,w)::P.zip vs) m x=_
  unfold bindL
  exact Zx (i:=i) (Ak.mp nd).2 (by simpa using h1) (by simpa using h2) hk
theorem Zj {kindOf:Str->Option NameKind} {x:Str} {v:Value}:∀ {P:List Str} {vs:List Value} {i:Nat} {m:Str->Option Value},P.Nodup->P[i]? = some x->vs[i]? = some v->kindOf x≠some .local ->
  bindC kindOf (P.zip vs) m x=some v
 |[],_,_,_,_,h,_,_=>by simp at h
 |_::_,[],_,_,_,_,h,_=>by simp at h
 |p::P,w::vs,0,m,nd,h1,h2,hk=>by
  simp at h1 h2;subst h1;subst h2
  show bindC kindOf ((p,w)::P.zip vs) m p=_
  unfold bindC
  rw [Z4 fun v hv=>(Ak.mp nd).1 (List.of_mem_zip hv).1,AO hk]
  simp
 |p::P,w::vs,i + 1,m,nd,h1,h2,hk=>by
  show bindC kindOf ((p,w)::P.zip vs) m x=_
  unfold bindC
  exact Zj (i:=i) (Ak.mp nd).2 (by simpa using h1) (by simpa using h2) hk
def start (N:List Str) (vs:List V):St:=vs.map some++List.replicate (N.length - vs.length) none
def wB (CX:CXT) (P:Program) (w:World) (K:W.Frag) (mg:Str->Option Value) (base:Heap) (N:List Str) (qual:Str) (scope:Scope) (f:Addr) (cd:Value) (A:Around) (outer:List Env) (s:Shared) (H:Hp) (E:XK):Cx where
 prog:=P
 w:=w
 K:=K
 mg:=mg
 base:=base
 A:=A.deeper (envOfC qual scope s.heap.objs.size f cd)
 N:=N
 s₀:=s
 H₀:=H
 env:=envOfC qual scope s.heap.objs.size f cd
 outer:=outer
 stack:=envOfC qual scope s.heap.objs.size f cd::outer
 ex:=[]
 calm:=A.handled.isNone
 fn:=fun _=>true
 pn:=[]
 xe:=fun e s'=>wpAny (model P w) (A.deeper (envOfC qual scope s.heap.objs.size f cd)) (leaving (envOfC qual scope s.heap.objs.size f cd) e) (fun _ s''=>CX outer H s E e s'') (fun e' s''=>CX outer H s E e' s'') s'
theorem YT {sc:Scope} {n:Nat} {x:Str} (h:sc.names.lookup x=some .cell):∃ c,(cellsFrom n sc.names []).lookup x=some c:=by
 have q:=W.cellsFrom_some sc.names n [] (.inl h)
 exact Option.isSome_iff_exists.mp q
theorem Jo {CX:CXT} {P:Program} {w:World} {K:W.Frag} {mg:Str->Option Value} {base:Heap} {N ps:List Str} {qual:Str} {scope:Scope} {f:Addr} {cd:Value} {A:Around} {outer:List Env} {s s1:Shared} {H:Hp} {E:XK} {us:List Value} {vs:List V}
  (S:FnScope N ps scope) (e0:Env0 P w K mg base A outer s H) (hl:vs.length=ps.length) (r:Vals vs us)
  (x:InCallC s s.heap.objs.size (bindL (envOfC qual scope s.heap.objs.size f cd).kindOf (ps.zip us) fun _=>none) (cellsFrom (s.heap.objs.size + 1) scope.names []) (bindC (envOfC qual scope s.heap.objs.size f cd).kindOf (ps.zip us) fun _=>none) s1) :
  Inv (wB CX P w K mg base N qual scope f cd A outer s H E) [] (start N vs) H s1:=by
 have hpl:ps.length≤N.length:=by have:=Bm List.length S.pre;rw [List.length_take] at this;omega
 obtain ⟨h1,tk,rfl,hk⟩:=x.done
 have noA:∀ b:Addr,b ∉ (wB CX P w K mg base N qual scope f cd A outer s H E).ex:=fun b z=>absurd (show b∈([]:List Addr) from z) (by simp)
 refine ⟨⟨e0.mod,S.kind,rfl,rfl,AI _,fun y z c h1 h2 => ?_,fun y hy => ?_,fun y c _ h => ?_,fun z=>Option.isNone_iff_eq_none.mp z,Around.frames_deeper e0.frames,.inr ⟨rfl,rfl⟩,fun b z=>absurd z (noA b),e0.bs,e0.bsz,fun b _ _=>noA b,fun b z=>absurd z (noA b),e0.funs,e0.frf⟩,
  rfl,e0.bare,Un.kept hk,⟨_,x.toInCall.ns,fun i y v h1 h2 h3 => ?_⟩,fun y c h=>⟨_,x.cell y c h⟩,e0.hok.fresh (AI _),fun y c h => ?_,fun p hp=>absurd (show p∈([]:List (Addr×Obj)) from hp) (by simp),e0.hok.kept hk,?_,e0.hnd⟩
 ·exact name_of_addr x.apart (A7 h1) (A7 h2)
 ·have hy:scope.names.lookup y=some .cell∨scope.names.lookup y=some .free:=hy
  rcases hy with hy |hy
  ·exact YT hy
  ·exact absurd rfl (S.nofree _ (A7 hy))
 ·exact Nat.le_of_lt (x.above y c (A7 h))
 ·have hi:i < vs.length:=by
   unfold start at h2
   by_cases hi:i < vs.length
   ·exact hi
   ·rw [BM (by simpa using hi)] at h2
    rw [BE] at h2
    split at h2 <;> cases h2
  have ha:vs[i]? = some v:=by
   unfold start at h2
   rw [AT (by simpa using hi),Ai] at h2
   cases e:vs[i]? with
   |none=>rw [e] at h2;cases h2
   |some a=>rw [e] at h2;cases h2;rfl
  obtain ⟨u,hu,rv⟩:=r.get ha
  have hp:ps[i]? = some y:=by
   rw [← S.pre,List.getElem?_take_of_lt (by omega)];exact h1
  have ndP:ps.Nodup:=by rw [← S.pre];exact S.nd.sublist (List.take_sublist _ _)
  refine ⟨u,rv,?_⟩
  rcases S.par y (Am hp) with k |k
  ·exact .inl ⟨k,Zx ndP hp hu k⟩
  ·obtain ⟨c,e⟩:=YT (n:=s.heap.objs.size + 1) k
   refine .inr ⟨.inl k,c,e,?_⟩
   have q:=x.cell y c e
   rw [Zj ndP hp hu (by show scope.names.lookup y≠_;rw [k];decide)] at q
   exact q
 ·exact e0.hok.fresh (Nat.le_of_lt (x.above y c (A7 h)))
 ·unfold start
  show _=N.length
  rw [Aa,AX,List.length_replicate]
  omega
theorem qFR {CX:CXT} {P:Program} {w:World} {K:W.Frag} {mg:Str->Option Value} {base:Heap} {k:Nat} {f:Addr} {name qual:Str} {params:Arguments} {body:List Stmt} {scope:Scope} {dV kV doc pm cdv ct oc:Value} {an od:Option Addr}
  {osl:Array (Option Value)} {N ps:List Str} {sp:Sp} (lk:K.lookup f=some ⟨oc,od,.func (W.fnOf name qual params body scope dV kV doc pm an cdv ct),osl⟩) (hcd:W.codeIn K cdv qual=true) (S:FnScope N ps scope)
  (len:∀ vs H Q E,sp vs H Q E->vs.length=ps.length)
  (hbody:∀ (A:Around) (outer:List Env) (s:Shared) (H:Hp) (vs:List V) (Q:VK) (E:XK),Room k (A.deeper (envOfC qual scope s.heap.objs.size f cdv))->(0 < k->A.handled=none)->sp vs H Q E ->
   ∃ t,PSs (wB CX P w K mg base N qual scope f cdv A outer s H E) body t∧t { nx:=fun _ H'=>Q .non H',rt:=Q } (start N vs) H) :
  FnOk P w K mg base CX (k + 1) f (W.fnOf name qual params body scope dV kV doc pm an cdv ct) ps sp:=by
 refine ⟨len,fun A outer s H args us vs Q E hr e0 hb r hsp => ?_⟩
 have hl:=len _ _ _ _ hsp
 have KX:K.In s.heap:=e0.mod.kin.keeps fun b o e=>(e0.bs b o e).1
 have lim:s.heap.NoLimit:=e0.mod.nolimit.keeps fun b o e=>(e0.bs b o e).1
 have hkind:∀ y∈ps.zip us,scope.names.lookup y.1=some .local∨(scope.names.lookup y.1=some .cell∧((cellsFrom (s.heap.objs.size + 1) scope.names []).lookup y.1).isSome=true):=fun ⟨n,v⟩ hy=>by
  rcases S.par n (List.of_mem_zip hy).1 with q |q
  ·exact .inl q
  ·exact .inr ⟨q,W.cellsFrom_some _ _ _ (.inl q)⟩
 refine codeAny_call_function hr.depth (KX _ _ lk) rfl S.co S.gen rfl (W.codeRec_of KX hcd) (hb _ _ _ _ ?_)
 refine wpAny_newFunctionEnv_cells S.kind hkind fun env he s1 x => ?_
 subst he
 refine ⟨lim.keeps x.toInCall.keep,codeAny_func ?_⟩
 obtain ⟨t,ht,hq⟩:=hbody A outer s H vs Q E (hr.deeper _) (fun z=>hr.hd (by omega)) hsp
 have I:Inv (wB CX P w K mg base N qual scope f cdv A outer s H E) [] (start N vs) H s1:=Jo S e0 hl r x
 refine A2 (ht [] s1 (start N vs) H _ I hq) (fun fl s' hs => ?_) fun e s' hs=>hs
 have fin:∀ {σ':St} {H':Hp} {v:V} {u:Value},Inv (wB CX P w K mg base N qual scope f cdv A outer s H E) [] σ' H' s'->RelV v u->Q v H'->CE outer P w H s Q u s' :=
  fun {σ' H' v u} J rv q=>⟨v,H',J.os,J.bare,J.base,J.hok,rv,q⟩
 cases fl with
 |ret u =>
  obtain ⟨v,σ',H',J,rv,q⟩:=hs
  exact fin J rv q
 |next =>
  obtain ⟨σ',H',J,q⟩:=hs
  exact fin (v:=V.non) (u:=Value.none) J rfl q
 |brk =>
  obtain ⟨_,_,_,q⟩:=hs
  exact False.elim q
 |cont =>
  obtain ⟨_,_,_,q⟩:=hs
  exact False.elim q
end L2
namespace L2
open PySem PySem.Spec PyProof.Rows
section
variable {X:Cx} {x:Str} {p pos:Pos} {e:Expr} {es:List Expr} {t:TA} {id T:String} {r:List V->Hp->VK->Prop}
def tCB (r:List V->Hp->VK->Prop) (t:TA):TE:=fun σ H Q=>t σ H fun vs H1=>r vs H1 Q
theorem qBf (hc:Wj X (.builtin id) r) (hg:Gl X x) (hm:X.mg x=none) (hv:bootBuiltins x=some (.builtin id)) (ha:PA X (e::es) t) (hn:x ≠ "__name__" := by decide) (hdb:(x==("__debug__":Str))=false:=by decide)
  (he:starEach (e::es) X.env=(false,eval e X.env)::starEach es X.env:=by rfl) (hpl:(backTo pos (starEach es X.env)).any (·.1)=false:=by rfl):PE X (.Call (.Name x p) (e::es) [] pos) (tCB r t):=by
 intro pins s σ H Q I h
 refine wpAny_Call_Name_kw (Z9 I hg hm hv ?_ hn hdb)
 exact PyProof.Rows.callWith_builtin1 (thn (ha pos pins s σ H _ I h) fun us s1 ⟨vs,H1,I1,r1,q1⟩=>hc pins s1 σ H1 vs us Q I1 r1 q1) he hpl
theorem JZ (hc:Wj X (.type T) r) (hg:Gl X x) (hm:X.mg x=none) (hv:bootBuiltins x=some (.type T)) (ha:PA X (e::es) t) (hn:x ≠ "__name__" := by decide) (hdb:(x==("__debug__":Str))=false:=by decide)
  (he:starEach (e::es) X.env=(false,eval e X.env)::starEach es X.env:=by rfl) (hpl:(backTo pos (starEach es X.env)).any (·.1)=false:=by rfl):PE X (.Call (.Name x p) (e::es) [] pos) (tCB r t):=by
 intro pins s σ H Q I h
 refine wpAny_Call_Name_kw (Z9 I hg hm hv ?_ hn hdb)
 exact PyProof.Rows.callWith_type1 (thn (ha pos pins s σ H _ I h) fun us s1 ⟨vs,H1,I1,r1,q1⟩=>hc pins s1 σ H1 vs us Q I1 r1 q1) he hpl
end
end L2
namespace HT
open PySem PyProof.Rows
section
variable {prog:Program} {w:World} {A:Around} {E:Value->Shared->Prop} {s:Shared}
theorem cat_tup {t b:Addr} {vs ws:List Value} {Q:Value->Shared->Prop} (ht:IsTup s.heap t vs.toArray) (hb:IsTup s.heap b ws.toArray) (hv:vs≠[])
  (h1:ws=[]->Q (.ref t) s) (h2:ws≠[]->Q (.ref s.heap.objs.size) { s with heap:=s.heap.push { cls := .type "tuple",data := .seq (vs++ws).toArray } })
  (hsz:vs.length + ws.length≤sizeLine):wpAny (model prog w) A (binaryOp .Add (.ref t) (.ref b)) Q E s:=by
 obtain ⟨⟨cls,dd,data,sl⟩,ho,hc,n,hd⟩:=id ht
 obtain ⟨⟨cls2,dd2,data2,sl2⟩,ho2,hc2,n2,hd2⟩:=id hb
 simp only at hc hd hc2 hd2
 subst hc hd hc2 hd2
 have e:vs.toArray++ws.toArray=(vs++ws).toArray:=by simp
 by_cases hw:ws=[]
 ·exact concat_meets ⟨_,ho,rfl⟩ ⟨_,ho2,rfl⟩ noFill_tuple_add seq_tuple_add PySem.F.slot_tuple_add PySem.F.entry_tuple_add (PySem.F.args_tuple_add_2 _ _)
   (tuple_addW1 t b vs.toArray ws.toArray n n2 dd dd2 sl sl2 (by simpa using hv) (by simp [hw])) ⟨ho,ho2,h1 hw⟩
 ·refine concat_meets ⟨_,ho,rfl⟩ ⟨_,ho2,rfl⟩ noFill_tuple_add seq_tuple_add PySem.F.slot_tuple_add PySem.F.entry_tuple_add (PySem.F.args_tuple_add_2 _ _)
   (tuple_addW2 t b vs.toArray ws.toArray n n2 dd dd2 sl sl2 (by simpa using hv) (by simpa using hw) (by rw [AK,AK];exact hsz)) ⟨ho,ho2,?_⟩
  rw [e]
  exact h2 hw
def sIx (n d:Nat):Option Int->Nat
 |none=>d
 |some v=>if v < 0 then (v + (n:Int)).toNat else min v.toNat n
theorem sIx_nat (n d k:Nat):sIx n d (some (k:Int))=min k n:=by
 show (if (k:Int) < 0 then ((k:Int) + (n:Int)).toNat else min (k:Int).toNat n)=min k n
 rw [AO (by omega),BN]
theorem qD5 (n d:Nat) (hd:d≤n) (o:Option Int):sIx n d o≤n:=by
 cases o with
 |none=>exact hd
 |some v =>
  show (if v < 0 then (v + (n:Int)).toNat else min v.toNat n)≤n
  by_cases hv:v < 0
  ·rw [AH hv];omega
  ·rw [AO hv];exact Nat.min_le_right _ _
theorem jh (v:Int) (n d:Nat):(if v < 0 then max (v + (n:Int)) 0 else min v (n:Int))=((sIx n d (some v):Nat):Int):=by
 show (if v < 0 then max (v + (n:Int)) 0 else min v (n:Int))=(((if v < 0 then (v + (n:Int)).toNat else min v.toNat n):Nat):Int)
 by_cases hv:v < 0
 ·simp only [AH hv];omega
 ·simp only [AO hv];omega
theorem jU (lo hi:Option Int) (n:Nat):Builtin.Slice.sliceAdjust lo hi 1 (n:Int)=(((sIx n 0 lo:Nat):Int),((sIx n n hi:Nat):Int)):=by
 have h1:¬ ((1:Int) < 0):=by omega
 unfold Builtin.Slice.sliceAdjust
 simp only [h1,A4]
 refine Prod.ext ?_ ?_
 ·cases lo with
  |none=>rfl
  |some v=>exact jh v n 0
 ·cases hi with
  |none=>rfl
  |some v=>exact jh v n n
theorem jL (i j:Nat):Builtin.Slice.slicePlaces (i:Int) (j:Int) 1=j - i:=by
 unfold Builtin.Slice.slicePlaces
 have h1:(1:Int) > 0:=by omega
 simp only [h1,if_true,Int.ediv_one]
 split <;> omega
theorem ZK {v:Value} {o:Option Int} {Q:Option Int->Shared->Prop} (p:IsPart v o) (h:Q o s):wpAny (model prog w) A (Builtin.Slice.slicePartIndex v) Q E s:=by
 cases p with
 |none=>exact slicePart_none h
 |int i t=>exact slicePart_int h
theorem sliceApplied_gen {sl:Addr} {vl vu:Value} {lo hi:Option Int} {n:Nat} {Q:Int×Int×Nat->Shared->Prop} (hs:s.heap.IsSliceOf sl vl vu .none) (pl:IsPart vl lo) (pu:IsPart vu hi)
  (h:Q (((sIx n 0 lo:Nat):Int),1,sIx n n hi - sIx n 0 lo) s):wpAny (model prog w) A (Builtin.Slice.sliceApplied (.ref sl) (pure (n:Int))) Q E s:=by
 obtain ⟨os,hos,hcs,hds⟩:=id hs
 unfold Builtin.Slice.sliceApplied Builtin.Slice.sliceFields
 refine AA (AA (Aw hos hds (x:=vl) rfl (AA (Aw hos hds (x:=vu) rfl (AA (Aw hos hds (x := .none) rfl (AB ?_)))))))
 refine AA (slicePart_none ?_)
 show wpAny _ _ (if ((1:Int)==0)=true then _ else _) _ _ s
 rw [AO (by decide)]
 refine AA (ZK pl (AA (ZK pu (AA (AB ?_)))))
 show wpAny _ _ (match Builtin.Slice.sliceAdjust lo hi 1 (n:Int) with |(lo,hi)=>pure (lo,(1:Int),Builtin.Slice.slicePlaces lo hi 1)) _ _ s
 rw [jU lo hi n]
 show wpAny _ _ (pure (((sIx n 0 lo:Nat):Int),(1:Int),Builtin.Slice.slicePlaces ((sIx n 0 lo:Nat):Int) ((sIx n n hi:Nat):Int) 1)) _ _ s
 rw [jL]
 exact AB h
theorem qBP (xs:Array Value) (i k:Nat):((List.range k).filterMap fun (m:Nat)=>xs[((i:Int) + (m:Int) * 1).toNat]?).toArray=((xs.toList.drop i).take k).toArray:=by
 have e:(fun (m:Nat)=>xs[((i:Int) + (m:Int) * 1).toNat]?)=fun m=>xs[i + m]? := by
  funext m
  have:((i:Int) + (m:Int) * 1).toNat=i + m:=by omega
  rw [this]
 rw [e]
 have:=pick_run xs i k
 rw [List.filterMap_map] at this
 have e2:((fun x=>xs[x]?) ∘ fun x=>i + x)=fun m=>xs[i + m]? := rfl
 rw [e2] at this
 rw [this]
theorem getItem_tuple_cut {t sl:Addr} {items:Array Value} {vl vu:Value} {lo hi:Option Int} {Q:Value->Shared->Prop} (ht:IsTup s.heap t items) (hs:s.heap.IsSliceOf sl vl vu .none) (pl:IsPart vl lo) (pu:IsPart vu hi)
  (hw:¬ (sIx items.size 0 lo=0∧sIx items.size items.size hi=items.size))
  (h:Q (.ref s.heap.objs.size) { s with heap:=s.heap.push { cls := .type "tuple",data := .seq ((items.toList.drop (sIx items.size 0 lo)).take (sIx items.size items.size hi - sIx items.size 0 lo)).toArray } })
  (hsz:items.size≤sizeLine):wpAny (model prog w) A (getItem (.ref t) (.ref sl)) Q E s:=by
 have htake:sizeOk (.seq ((items.toList.drop (sIx items.size 0 lo)).take (sIx items.size items.size hi - sIx items.size 0 lo)).toArray):=by
  show ((items.toList.drop (sIx items.size 0 lo)).take (sIx items.size items.size hi - sIx items.size 0 lo)).toArray.size≤sizeLine
  rw [AK,List.length_take,List.length_drop,BF]
  omega
 have hj:sIx items.size items.size hi≤items.size:=qD5 _ _ (AI _) hi
 obtain ⟨os,hos,hcs,hds⟩:=id hs
 have hTs:s.TypeIs (.ref sl) "slice" := ⟨os,hos,hcs⟩
 unfold getItem
 try with_reducible refine At ?_
 first |refine AA (AB ?_) |skip
 refine AA (wpAny_sequenceKey ht.typeIs (by decide) ?_)
 refine AA (Ax (name:=Str.ofString "__getitem__") ht.typeIs BC
  (Ay BC ht.typeIs entry_tuple_getitem ?_ (args_tuple_getitem _ _)))
 show wpAny _ _ (Builtin.Tuple.tupleItemsOf (.ref t) >>= _) _ _ s
 refine AA (tupleItemsOf_ ht ?_)
 refine AA (wpAny_typeOf hTs ?_)
 rw [AH (by decide)]
 refine AA (sliceApplied_gen hs pl pu ?_)
 have hno:¬ ((((sIx items.size 0 lo:Nat):Int)==0&&(1:Int)==1&&(sIx items.size items.size hi - sIx items.size 0 lo)==items.size)=true):=by
  intro q
  rw [Av,Av] at q
  have q1:((sIx items.size 0 lo:Nat):Int)=0:=eq_of_beq q.1.1
  have q2:sIx items.size items.size hi - sIx items.size 0 lo=items.size:=eq_of_beq q.2
  exact hw ⟨by omega,by omega⟩
 show wpAny _ _ (if (((sIx items.size 0 lo:Nat):Int)==0&&(1:Int)==1&&(sIx items.size items.size hi - sIx items.size 0 lo)==items.size)=true then _ else _) _ _ s
 rw [AO hno,qBP]
 first
  |exact AA (m:=Builtin.Tuple.tupleExact _) (Az (AB ⟨_,rfl,AB h⟩) htake)
  |exact AA (m:=Builtin.Tuple.tupleExact _) (Az (AA (AB (AB ⟨_,rfl,AB h⟩))) htake)
  |exact AA (AA (m:=Builtin.Tuple.tupleExact _) (Az (AB (AB ⟨_,rfl,AB h⟩)) htake))
  |exact AA (AA (m:=Builtin.Tuple.tupleExact _) (Az (AB ⟨_,rfl,AB h⟩) htake))
end
end HT
namespace L2
open PySem PySem.Spec PyProof.Rows
abbrev TO:=St->Hp->(Option Int->Hp->Prop)->Prop
def PO (X:Cx) (e:Option Expr) (t:TO):Prop :=
 ∀ (pins:List (Addr×Obj)) (s:Shared) (σ:St) (H:Hp) (Q:Option Int->Hp->Prop),Inv X pins σ H s->t σ H Q ->
  wpAny (model X.prog X.w) X.A (evalPart e X.env) (fun u s' => ∃ o H',Inv X pins σ H' s'∧IsPart u o∧Q o H') X.xe s
def qC8:TO:=fun _ H Q=>Q none H
def qF1 (t:TE):TO:=fun σ H Q=>t σ H fun x H1 => ∃ i,x = .int i∧Q (some i) H1
section
variable {X:Cx} {e:Expr} {te:TE} {lo hi:Option Expr} {tl th:TO} {pos p2:Pos}
theorem qCt:PO X none qC8:=by
 intro pins s σ H Q I h
 rw [evalPart_none]
 exact AB ⟨none,H,I,.none,h⟩
theorem qC6 (h:PE X e te):PO X (some e) (qF1 te):=by
 intro pins s σ H Q I hw
 rw [evalPart_some]
 refine thn (h pins s σ H _ I hw) fun u s1 ⟨x,H1,I1,r1,q1⟩ => ?_
 obtain ⟨i,rfl,q⟩:=q1
 obtain ⟨t,rfl⟩:=r1
 exact ⟨some i,H1,I1,.int i t,q⟩
def SlR (X:Cx) (r:V->Option Int->Option Int->Hp->VK->Prop):Prop :=
 ∀ (pins:List (Addr×Obj)) (s:Shared) (σ:St) (H:Hp) (x:V) (v vl vu:Value) (lo hi:Option Int) (sl:Addr) (Q:VK),Inv X pins σ H s->RelV x v->s.heap.IsSliceOf sl vl vu .none->IsPart vl lo->IsPart vu hi->r x lo hi H Q ->
  ∃ T id,typeLookup (.type T) "__getitem__" = pure (some (.builtin id))∧s.TypeIs v T∧wpAny (model X.prog X.w) X.A (getItem v (.ref sl)) (EP X pins σ Q) X.xe s
theorem SlR.or {r r':V->Option Int->Option Int->Hp->VK->Prop} (h:SlR X r) (h':SlR X r'):SlR X (fun x lo hi H Q=>r x lo hi H Q∨r' x lo hi H Q):=by
 intro pins s σ H x v vl vu lo hi sl Q I rx hs pl pu q
 rcases q with q |q
 ·exact h pins s σ H x v vl vu lo hi sl Q I rx hs pl pu q
 ·exact h' pins s σ H x v vl vu lo hi sl Q I rx hs pl pu q
def tSl (r:V->Option Int->Option Int->Hp->VK->Prop) (te:TE) (tl th:TO):TE:=fun σ H Q=>te σ H fun x H1=>tl σ H1 fun l H2=>th σ H2 fun u H3=>r x l u H3 Q
theorem qA6 {r:V->Option Int->Option Int->Hp->VK->Prop} (hr:SlR X r) (he:PE X e te) (hl:PO X lo tl) (hu:PO X hi th):PE X (.Subscript e (.Slice lo hi none p2) pos) (tSl r te tl th):=by
 intro pins s σ H Q I h
 refine Subscript_ (thn (he pins s σ H _ I h) fun v s1 ⟨x,H1,I1,r1,q1⟩ => ?_)
 refine wpAny_Slice (thn (hl pins s1 σ H1 _ I1 q1) fun vl s2 ⟨l,H2,I2,pl,q2⟩=>thn (hu pins s2 σ H2 _ I2 q2) fun vu s3 ⟨u,H3,I3,pu,q3⟩ => ?_)
 rw [evalPart_none]
 refine AB ?_
 have I4:Inv X pins σ H3 { s3 with heap:=s3.heap.push { cls := .type "slice",data := .fields #[vl,vu,.none] } }:=I3.kept (t':=s3.toks) fun b ob q=>AE _ q
 obtain ⟨T,id,hT,ht,hg⟩:=hr pins { s3 with heap:=s3.heap.push { cls := .type "slice",data := .fields #[vl,vu,.none] } } σ H3 x v vl vu l u s3.heap.objs.size Q I4 r1 (Heap.IsSliceOf.new ..) pl pu q3
 show wpAny (model X.prog X.w) X.A (subscriptTail e (.Slice lo hi none p2) v (.ref s3.heap.objs.size)) (EP X pins σ Q) X.xe { s3 with heap:=s3.heap.push { cls := .type "slice",data := .fields #[vl,vu,.none] } }
 exact tail_any (ops:=[.ref s3.heap.objs.size,v]) ht hT hg (by with_unfolding_all rfl)
def J1 (xs:List V) (lo hi:Option Int):List V:=(xs.drop (HT.sIx xs.length 0 lo)).take (HT.sIx xs.length xs.length hi - HT.sIx xs.length 0 lo)
theorem ye (xs:List V) (lo hi:Option Int):(J1 xs lo hi).length≤xs.length:=by
 unfold J1
 rw [List.length_take,List.length_drop]
 omega
def qHJ (K:W.Frag):V->Option Int->Option Int->Hp->VK->Prop:=fun x lo hi H Q => ∃ a xs,x = .ref a∧SqT K H a xs ∧
 ¬ (HT.sIx xs.length 0 lo=0∧HT.sIx xs.length xs.length hi=xs.length) ∧ ∀ p,H p=none->Q (.ref p) (upd H p (.tup (J1 xs lo hi)))
theorem sl_tup:SlR X (qHJ X.K):=by
 intro pins s σ H x v vl vu lo hi sl Q I rx hs pl pu h
 obtain ⟨a,xs,rfl,hx,hw,q⟩:=h
 cases rx
 obtain ⟨its,r,ht,hz⟩:=I.tuple hx
 have hlen:its.toArray.size=xs.length:=by rw [AK];exact r.length.symm
 refine ⟨"tuple",_,PyProof.Rows.slot_tuple_getitem.lookup,ht.typeIs,?_⟩
 refine HT.getItem_tuple_cut ht hs pl pu (by rw [hlen];exact hw) ?_ (by rw [hlen];exact hz)
 rw [hlen]
 refine ⟨.ref s.heap.objs.size,_,I.laid (t':=s.toks) (o := .tup (J1 xs lo hi)) (fun b ob q=>AE _ q) (AI _) ?_,rfl,q _ (I.hok.fresh (AI _))⟩
 exact ⟨AV (ye xs lo hi) hz,_,(r.drop (HT.sIx xs.length 0 lo)).take (HT.sIx xs.length xs.length hi - HT.sIx xs.length 0 lo),IsTup.new _ _,_,AU _ rfl,rfl⟩
def qFw (K:W.Frag):R2:=fun x y H Q => ∃ a b xs ys,x = .ref a∧y = .ref b∧SqT K H a xs∧SqT K H b ys∧xs≠[]∧xs.length + ys.length≤sizeLine ∧
 (ys=[]->Q (.ref a) H)∧(ys≠[] -> ∀ p,H p=none->Q (.ref p) (upd H p (.tup (xs++ys))))
theorem Vals.nil_iff {xs:List V} {us:List Value} (r:Vals xs us):us=[] ↔ xs=[]:=by
 cases r with
 |nil=>simp
 |cons _ _=>simp
theorem qDF:OpR X (binaryOp .Add) (qFw X.K):=by
 intro pins s σ H x y v u Q I rx ry h
 obtain ⟨a,b,xs,ys,rfl,rfl,ha,hb,hx,hz,q1,q2⟩:=h
 cases rx
 cases ry
 obtain ⟨its,r1,p1,_⟩:=I.tuple ha
 obtain ⟨its2,r2,p2,_⟩:=I.tuple hb
 refine HT.cat_tup p1 p2 (fun z=>hx (r1.nil_iff.mp z)) (fun z=>⟨.ref a,H,I,rfl,q1 (r2.nil_iff.mp z)⟩) (fun z => ?_) (by rw [← r1.length,← r2.length];exact hz)
 refine ⟨.ref s.heap.objs.size,_,I.laid (t':=s.toks) (o := .tup (xs++ys)) (fun b ob q=>AE _ q) (AI _) ?_,rfl,q2 (fun w=>z (r2.nil_iff.mpr w)) _ (I.hok.fresh (AI _))⟩
 exact ⟨by rw [Aa];exact hz,_,r1.append r2,IsTup.new _ _,_,AU _ rfl,rfl⟩
end
end L2
namespace L2
open PySem PySem.Spec PyProof.Rows
def ixN (n:Nat) (i:Int):Option Nat:=if 0≤i then (if i < n then some i.toNat else none) else if -(n:Int)≤i then some (i + n).toNat else none
def atI {α:Type} (xs:List α) (i:Int):Option α:=(ixN xs.length i).bind fun j=>xs[j]?
theorem JA {n:Nat} {i:Int} {j:Nat} (h:ixN n i=some j):seqIndex? i n=some j∧j < n ∧ -(n:Int)≤i∧i < n:=by
 unfold ixN at h
 by_cases h0:0≤i
 ·rw [AH h0] at h
  by_cases h1:i < n
  ·rw [AH h1] at h
   have e:i.toNat=j:=AS h
   exact ⟨by rw [seqIndex_of h0 h1,e],by omega,by omega,h1⟩
  ·rw [AO h1] at h;cases h
 ·rw [AO h0] at h
  by_cases h1:-(n:Int)≤i
  ·rw [AH h1] at h
   have e:(i + n).toNat=j:=AS h
   exact ⟨by rw [seqIndex_neg (by omega) h1,e],by omega,h1,by omega⟩
  ·rw [AO h1] at h;cases h
theorem yS {α:Type} {xs:List α} {i:Int} {v:α} (h:atI xs i=some v):∃ j,seqIndex? i xs.length=some j∧xs[j]? = some v∧j < xs.length ∧ -(xs.length:Int)≤i∧i < xs.length:=by
 unfold atI at h
 cases e:ixN xs.length i with
 |none=>rw [e] at h;cases h
 |some j =>
  rw [e] at h
  obtain ⟨h1,h2,h3,h4⟩:=JA e
  exact ⟨j,h1,h,h2,h3,h4⟩
def jg (b:Expr):Prop := ∀ o i,subscripted b false o i=operate [o,i] (getItem o i)
def IxR (X:Cx) (r:R2):Prop :=
 ∀ (value slice:Expr) (pins:List (Addr×Obj)) (s:Shared) (σ:St) (H:Hp) (x y:V) (v u:Value) (Q:VK),Inv X pins σ H s->RelV x v->RelV y u->r x y H Q ->
  subscripted slice false v u=operate [v,u] (getItem v u)->wpAny (model X.prog X.w) X.A (subscriptTail value slice v u) (EP X pins σ Q) X.xe s
def MtR (X:Cx) (id:String) (r:V->List V->Hp->VK->Prop):Prop :=
 ∀ (pins:List (Addr×Obj)) (s:Shared) (σ:St) (H:Hp) (x:V) (xs:List V) (v:Value) (us:List Value) (Q:VK),Inv X pins σ H s->RelV x v->Vals xs us->r x xs H Q ->
  wpAny (model X.prog X.w) X.A (call (.builtin id) (v::us)) (EP X pins σ Q) X.xe s
section
variable {X:Cx} {a b:Expr} {ta tb:TE} {pos:Pos}
theorem IxR.or {r r':R2} (h:IxR X r) (h':IxR X r'):IxR X (fun x y H Q=>r x y H Q∨r' x y H Q):=by
 intro value slice pins s σ H x y v u Q I rx ry q hs
 rcases q with q |q
 ·exact h value slice pins s σ H x y v u Q I rx ry q hs
 ·exact h' value slice pins s σ H x y v u Q I rx ry q hs
theorem qF2 {r:R2} (hr:IxR X r) (ha:PE X a ta) (hb:PE X b tb) (hs:jg b):PE X (.Subscript a b pos) (tOp r ta tb):=by
 intro pins s σ H Q I h
 exact Subscript_ (qFa ha hb I h fun v u s2 x y H2 I2 rx ry q=>hr a b pins s2 σ H2 x y v u Q I2 rx ry q (hs _ _))
def qGG (K:W.Frag):R2:=fun x y H Q => ∃ p xs i v,x = .ref p∧y = .int i∧SqL K H p xs∧atI xs i=some v∧Q v H
def qF3 (K:W.Frag):R2:=fun x y H Q => ∃ p xs i v,x = .ref p∧y = .int i∧SqT K H p xs∧atI xs i=some v∧Q v H
def qFd:R2:=fun x y H Q => ∃ z i c,x = .str z∧y = .int i∧z.length≤sizeLine∧atI z.cps.toList i=some c∧Q (.str ⟨#[c]⟩) H
theorem ix_list:IxR X (qGG X.K):=by
 intro value slice pins s σ H x y v u Q I rx ry h hs
 obtain ⟨p,xs,i,z,rfl,rfl,hq,he,q⟩:=h
 cases rx
 obtain ⟨t,rfl⟩:=ry
 obtain ⟨its,r,pl,hz⟩:=I.list hq
 obtain ⟨j,h1,h2,h3,h4,h5⟩:=yS he
 obtain ⟨w,ew,rw'⟩:=r.get h2
 have hl:=r.length
 have hn:=zL
 have fin:EP X pins σ Q w s:=⟨z,H,I,rw',q⟩
 by_cases h0:0≤i
 ·have hj:i.toNat=j:=by
   rw [seqIndex_of h0 h5] at h1
   exact AS h1
  exact item_listR pl.isList h0 (by omega) (by rw [hj];simpa using ew) fin hs
 ·have hj:(i + (its.toArray.size:Int)).toNat=j:=by
   rw [seqIndex_neg (by omega) h4] at h1
   rw [AK,← hl]
   exact AS h1
  exact subscriptTail_builtinR (x:=w) pl.isList.typeIs slot_list_getitem.lookup
   (wpAny_getItem_list_neg (Q:=fun r s'=>r=w∧EP X pins σ Q r s') pl.isList (by omega) (by rw [AK] <;> omega) (by omega) (by rw [hj];simpa using ew) ⟨rfl,fin⟩) hs
theorem ix_tup:IxR X (qF3 X.K):=by
 intro value slice pins s σ H x y v u Q I rx ry h hs
 obtain ⟨p,xs,i,z,rfl,rfl,hq,he,q⟩:=h
 cases rx
 obtain ⟨t,rfl⟩:=ry
 obtain ⟨its,r,pl,hz⟩:=I.tuple hq
 obtain ⟨j,h1,h2,h3,h4,h5⟩:=yS he
 obtain ⟨w,ew,rw'⟩:=r.get h2
 have hl:=r.length
 have hn:=zL
 have fin:EP X pins σ Q w s:=⟨z,H,I,rw',q⟩
 exact subscriptTail_builtinR (x:=w) pl.typeIs slot_tuple_getitem.lookup
  (getItem_tuple (j:=j) (Q:=fun r s'=>r=w∧EP X pins σ Q r s') pl (by omega) (by omega) (by rw [AK,← hl];exact h1) (by simpa using ew) ⟨rfl,fin⟩) hs
theorem qEv:IxR X qFd:=by
 intro value slice pins s σ H x y v u Q I rx ry h hs
 obtain ⟨z,i,c,rfl,rfl,hz,he,q⟩:=h
 obtain ⟨t,rfl⟩:=rx
 obtain ⟨t',rfl⟩:=ry
 obtain ⟨j,h1,h2,h3,h4,h5⟩:=yS he
 have hl:z.cps.toList.length=z.length:=by simp [Str.length]
 rw [hl] at h1 h4 h5
 have hn:=zL
 exact tail_any (typeIs_str s z t) slot_str_getitem.lookup (getItem_str (c:=c) (by
  have e1:decide (i < -(2 ^ 63:Int))=false:=AQ (by omega)
  have e2:decide (i ≥ 2 ^ 63)=false:=AQ (by omega)
  rw [e1,e2,Bool.or_false]) (by rw [h1];simpa using h2) ⟨.str ⟨#[c]⟩,H,I.tok _,⟨_,rfl⟩,q⟩) hs
def rIx (K:W.Frag):R2:=fun x y H Q=>qGG K x y H Q∨qF3 K x y H Q∨qFd x y H Q
theorem qET:IxR X (rIx X.K):=ix_list.or (ix_tup.or qEv)
theorem jB (its:List Value) (n j:Nat) (u:Value):Obj.mapSeq (·.setIfInBounds j u) { cls := .type "list",data := .seq its.toArray n }={ cls := .type "list",data := .seq (its.set j u).toArray n }:=by
 simp [Obj.mapSeq]
theorem Inv.lst {pins:List (Addr×Obj)} {σ:St} {H:Hp} {s:Shared} {p:Addr} {xs:List V} (I:Inv X pins σ H s) (h:H p=some (.lst xs)) :
  ∃ (its:List Value) (n:Nat),Vals xs its∧s.heap.get? p=some { cls := .type "list",data := .seq its.toArray n }∧xs.length≤sizeLine:=by
 obtain ⟨z,its,n,r,e⟩:=I.hok p _ h
 exact ⟨its,n,r,e,z⟩
theorem Inv.lstUpd {pins:List (Addr×Obj)} {σ:St} {H:Hp} {s:Shared} {p:Addr} {xs ys:List V} {its its':List Value} {n n':Nat} {f:Obj->Obj} (I:Inv X pins σ H s) (h:H p=some (.lst xs))
  (ho:s.heap.get? p=some { cls := .type "list",data := .seq its.toArray n }) (hf:f { cls := .type "list",data := .seq its.toArray n }={ cls := .type "list",data := .seq its'.toArray n' }) (r:Vals ys its') (hz:ys.length≤sizeLine) (t:Nat) :
  Inv X pins σ (upd H p (.lst ys)) { s with heap:=s.heap.update p f,toks:=t }:=by
 have e:(s.heap.update p f).get? p=some { cls := .type "list",data := .seq its'.toArray n' }:=by
  rw [BK f ho (by rw [hf] <;> rfl),hf]
 refine I.write (x:=p) (e:=p) (by rw [h];trivial) (.inl rfl) (fun b u hb q=>(Ab _ _ (Ne.symm hb)).trans q) ⟨_,e⟩ ?_
 exact ⟨hz,its',n',r,e⟩
def qDc:V->V->V->Hp->(Hp->Prop)->Prop:=fun o i v H Q => ∃ p xs k j,o = .ref p∧i = .int k∧H p=some (.lst xs)∧ixN xs.length k=some j∧Q (upd H p (.lst (xs.set j v)))
theorem qA5:qFs X qDc:=by
 intro pins s σ H o i v ov iv u Q I ro ri rv h
 obtain ⟨p,xs,k,j,rfl,rfl,hp,hj,q⟩:=h
 cases ro
 obtain ⟨t,rfl⟩:=ri
 obtain ⟨its,n,r,ho,hz⟩:=I.lst hp
 obtain ⟨h1,h2,h3,h4⟩:=JA hj
 have hl:=r.length
 have hn:=zL
 have I':Inv X pins σ (upd H p (.lst (xs.set j v))) { s with heap:=s.heap.update p (Obj.mapSeq (·.setIfInBounds j u)) } :=
  I.lstUpd hp ho (jB its n j u) (r.set rv j) (by rw [List.length_set];exact hz) s.toks
 by_cases h0:0≤k
 ·have hk:k.toNat=j:=by
   rw [seqIndex_of h0 h4] at h1
   exact AS h1
  exact W.ki_setAt ho h0 (by omega) (by rw [AK,← hl];exact h4) (by rw [hk];exact ⟨_,I',q⟩)
 ·have hk:(k + (its.toArray.size:Int)).toNat=j:=by
   rw [seqIndex_neg (by omega) h3] at h1
   rw [AK,← hl]
   exact AS h1
  exact W.ki_setBack ho (by omega) (by rw [AK,← hl];exact h3) (by omega) (by rw [hk];exact ⟨_,I',q⟩)
theorem yG:Wj X (.builtin "len") (fun xs H Q => ∃ p ys,xs=[.ref p]∧(SqL X.K H p ys∨SqT X.K H p ys)∧Q (.int ys.length) H):=by
 intro pins s σ H xs us Q I r h
 obtain ⟨p,ys,rfl,hq,q⟩:=h
 obtain ⟨u,rfl,rx⟩:=qDV r
 cases rx
 have hn:=zL
 rcases hq with hq |hq
 ·obtain ⟨its,r',pl,hz⟩:=I.list hq
  have hlen:=r'.length
  exact Calls.call_len_list pl.isList (by simp only [AK] <;> omega) ⟨.int ys.length,H,I.tok _,⟨s.toks + 1,by rw [AK,hlen]⟩,q⟩
 ·obtain ⟨its,r',pl,hz⟩:=I.tuple hq
  have hlen:=r'.length
  exact len_tuple pl (by simp only [AK] <;> omega) ⟨.int ys.length,H,I.tok _,⟨s.toks + 1,by rw [AK,hlen]⟩,q⟩
theorem ZU:Wj X (.type "tuple") (fun xs H Q => ∃ p ys,xs=[.ref p]∧((SqL X.K H p ys ∧ ∀ l,H l=none->Q (.ref l) (upd H l (.tup ys)))∨(SqT X.K H p ys∧Q (.ref p) H))):=by
 intro pins s σ H xs us Q I r h
 obtain ⟨p,ys,rfl,h⟩:=h
 obtain ⟨u,rfl,rx⟩:=qDV r
 cases rx
 rcases h with ⟨hq,q⟩ |⟨hq,q⟩
 ·obtain ⟨its,r',pl,hz⟩:=I.list hq
  have hlen:=r'.length
  refine call_tuple_list pl.isList (fun h' kp => ?_) (by simp only [AK] <;> omega)
  have I1:Inv X pins σ H { s with heap:=h' }:=I.kept (t':=s.toks) kp
  have I2:Inv X pins σ (upd H h'.objs.size (.tup ys)) { s with heap:=h'.push { cls := .type "tuple",data := .seq its.toArray } } :=
   I1.laid (t':=s.toks) (fun b o e=>AE _ e) (AI _) (show ObjOk X.prog X.w _ _ _ (.tup ys) from ⟨hz,its,r',IsTup.new _ _,_,AU _ rfl,rfl⟩)
  exact ⟨.ref h'.objs.size,_,I2,rfl,q _ (I1.hok.fresh (AI _))⟩
 ·obtain ⟨its,r',pl,hz⟩:=I.tuple hq
  exact call_tuple_same pl ⟨.ref p,H,I,rfl,q⟩
def tyV (K:W.Frag) (T:String) (x:V) (H:Hp):Prop:=match x with
 | .str _=>T = "str"
 | .int _=>T = "int"
 | .ref p=>(T = "list" ∧ ∃ xs,SqL K H p xs)∨(T = "tuple" ∧ ∃ o,K.lookup p=some o∧o.cls = .type "tuple" ∧ o.dict=none) ∨
   (T = "dict" ∧ ((∃ kvs,H p=some (.dK kvs))∨(∃ kvs,H p=some (.dT kvs)) ∨ ∃ kvs,H p=some (.dN kvs)))∨(T = "set" ∧ ∃ S n,H p=some (.set S n))
 |_=>False
theorem qEN {pins:List (Addr×Obj)} {σ:St} {H:Hp} {s:Shared} {T:String} {x:V} {v:Value} (I:Inv X pins σ H s) (r:RelV x v) (ty:tyV X.K T x H) :
  s.TypeIs v T ∧ ∀ a,v = .ref a -> ∃ ob,s.heap.get? a=some ob∧ob.dict=none:=by
 cases x with
 |str z =>
  obtain ⟨t,rfl⟩:=r
  cases (show T = "str" from ty)
  exact ⟨typeIs_str s z t,fun _ e=>nomatch e⟩
 |int i =>
  obtain ⟨t,rfl⟩:=r
  cases (show T = "int" from ty)
  exact ⟨typeIs_int s i t,fun _ e=>nomatch e⟩
 |ref p =>
  cases r
  rcases ty with ⟨rfl,xs,hq⟩ |⟨rfl,o,hk,hc,hd⟩ |⟨rfl,hk⟩ |⟨rfl,S,n,hk⟩
  ·obtain ⟨its,_,pl,_⟩:=I.list hq
   refine ⟨pl.isList.typeIs,fun a e => ?_⟩
   cases e
   obtain ⟨o,n,e,c,hd,_⟩:=pl
   exact ⟨o,e,hd⟩
  ·refine ⟨⟨o,I.kIn p o hk,hc⟩,fun a e => ?_⟩
   cases e
   exact ⟨o,I.kIn _ o hk,hd⟩
  ·have z:∃ o,s.heap.get? p=some o∧o.ExactDict:=by
    rcases hk with ⟨kvs,hk⟩ |⟨kvs,hk⟩ |⟨kvs,hk⟩
    ·obtain ⟨_,_,_,_,o,_,_,e,ex,_⟩:=I.hok p _ hk
     exact ⟨o,e,ex⟩
    ·obtain ⟨_,_,_,_,o,_,_,e,ex,_⟩:=I.hok p _ hk
     exact ⟨o,e,ex⟩
    ·obtain ⟨_,_,_,_,o,_,_,e,ex,_⟩:=I.hok p _ hk
     exact ⟨o,e,ex⟩
   obtain ⟨o,e,ex⟩:=z
   refine ⟨⟨o,e,ex.1⟩,fun a e2 => ?_⟩
   cases e2
   exact ⟨o,e,ex.2.1⟩
  ·obtain ⟨o,_,_,_,e,ex,_⟩:=I.hok p _ hk
   refine ⟨⟨o,e,ex.1⟩,fun a e2 => ?_⟩
   cases e2
   exact ⟨o,e,ex.2.1⟩
 |_=>exact False.elim ty
def tBM (K:W.Frag) (T:String) (r:V->List V->Hp->VK->Prop) (to:TE) (t:TA):TE:=fun σ H Q=>to σ H fun x H1=>tyV K T x H1∧t σ H1 fun xs H2=>r x xs H2 Q
variable {o e:Expr} {es:List Expr} {to:TE} {t:TA} {name:Str} {apos cpos:Pos} {T id:String} {r:V->List V->Hp->VK->Prop}
theorem qDZ (pa:PlainAttrs T) (slot:Slot T name id) (hty:typeOf (.builtin id)=pure (.type "method_descriptor")) (hm:MtR X id r) (ho:PE X o to) (ha:PA X (e::es) t)
  (hbase:attributeBase o name X.env (eval o X.env)=eval o X.env:=by rfl)
  (hfew:((backTo cpos (starEach (e::es) X.env)).all (fun x => !x.1)&&(backToKw cpos (keywordEach [] X.env)).all (fun x=>x.1.isSome)
   && decide ((e::es).length + ([]:List Keyword).length + (if ([]:List Keyword).isEmpty then 0 else 1) < 30))=true:=by rfl)
  (hline:(apos.endLine==cpos.line)=true:=by rfl) (hs:starEach (e::es) X.env=(false,eval e X.env)::starEach es X.env:=by rfl) (hplain:(backTo cpos (starEach es X.env)).any (·.1)=false:=by rfl) :
  PE X (.Call (.Attribute o name apos) (e::es) [] cpos) (tBM X.K T r to t):=by
 intro pins s σ H Q I h
 refine wpAny_Call_method_late hbase hfew hline rfl (thn (ho pins s σ H _ I h) fun v s1 ⟨x,H1,I1,r1,ty,q1⟩ => ?_)
 obtain ⟨h1,h2⟩:=qEN I1 r1 ty
 refine ⟨T,id,pa,slot,hty,h1,h2,?_⟩
 have hA:=ha cpos pins s1 σ H1 _ I1 q1
 rw [hs] at hA ⊢
 refine Calls.callWith_builtin (by show (false || (backTo cpos (starEach es X.env)).any (·.1))=false;rw [hplain] <;> rfl) (Calls.evalArgs_plain ?_)
 exact thn hA fun us s2 ⟨vs,H2,I2,r2,q2⟩=>hm pins s2 σ H2 x vs v us Q I2 r1 r2 q2
end
end L2
namespace L2
open PySem PySem.Spec PyProof.Rows
def MtM (X:Cx) (id:String) (r:V->List V->Hp->VK->Prop):Prop :=
 ∀ (pins:List (Addr×Obj)) (s:Shared) (σ:St) (H:Hp) (x:V) (xs:List V) (v:Value) (us:List Value) (Q:VK),Inv X pins σ H s->RelV x v->Vals xs us->r x xs H Q ->
  wpAny (model X.prog X.w) X.A (call (.builtin id) (v::us)) (EP X pins σ Q) X.xe s
theorem Vals.one:∀ {x:V} {us:List Value},Vals [x] us -> ∃ u,us=[u]∧RelV x u
 |_,_,.cons r .nil=>⟨_,rfl,r⟩
section
variable {X:Cx} {pins:List (Addr×Obj)} {σ:St} {H:Hp} {s:Shared} {l b:Addr} {xs ys zs:List V}
theorem Inv.lset {its its':List Value} {n:Nat} {f:Array Value->Array Value} {t':Nat} (I:Inv X pins σ H s) (hH:H l=some (.lst xs))
  (e:s.heap.get? l=some { cls := .type "list",data := .seq its.toArray n }) (hf:f its.toArray=its'.toArray) (hv:Vals ys its') (hz:ys.length≤sizeLine) :
  Inv X pins σ (upd H l (.lst ys)) { s with heap:=s.heap.update l (Obj.mapSeq f),toks:=t' }:=by
 have q:=PySem.IsL.update e f
 rw [hf] at q
 refine I.write (x:=l) (e:=l) (by rw [hH];exact trivial) (.inl rfl) (fun b' u hb hu=>(Ab s.heap (Obj.mapSeq f) (Ne.symm hb)).trans hu) ⟨_,q⟩ ?_
 exact ⟨hz,its',_,hv,q⟩
theorem Inv.lnew {its:List Value} {t':Nat} (I:Inv X pins σ H s) (hv:Vals ys its) (hz:ys.length≤sizeLine) :
  Inv X pins σ (upd H s.heap.objs.size (.lst ys)) { s with heap:=s.heap.push { cls := .type "list",data := .seq its.toArray },toks:=t' } :=
 I.laid (fun _ _ q=>AE _ q) (AI _) ⟨hz,its,0,hv,AU _ rfl⟩
theorem Inv.fresh (I:Inv X pins σ H s):H s.heap.objs.size=none:=I.hok.fresh (AI _)
theorem Inv.lstM (I:Inv X pins σ H s) (hH:H l=some (.lst xs)):xs.length≤sizeLine ∧ ∃ (its:List Value) (n:Nat),Vals xs its∧xs.length=its.length∧s.heap.get? l=some { cls := .type "list",data := .seq its.toArray n }:=by
 obtain ⟨z,its,n,r,e⟩:=I.hok l _ hH
 exact ⟨z,its,n,r,r.length,e⟩
end
section
variable {X:Cx}
def qDO:V->List V->Hp->VK->Prop:=fun x vs H Q => ∃ l xs y,x = .ref l∧vs=[y]∧H l=some (.lst xs)∧xs.length < sizeLine∧Q .non (upd H l (.lst (xs++[y])))
theorem Jw:MtM X "list.append" qDO:=by
 intro pins s σ H x vs v us Q I rx rv h
 obtain ⟨l,xs,y,rfl,rfl,hH,hz,q⟩:=h
 cases rx
 obtain ⟨u,rfl,ru⟩:=rv.one
 obtain ⟨z,its,n,r,hl,e⟩:=I.lstM hH
 refine call_meets F.slot_list_append ⟨_,e,rfl⟩ F.entry_list_append (F.args_list_append_2 _ _) (PySem.list_append l its.toArray n u (by rw [AK];omega)) ⟨e,?_⟩
 refine ⟨.non,_,I.lset (its':=its++[u]) hH e (by simp) (r.append (.cons ru .nil)) ?_,rfl,q⟩
 rw [Aa,BW]
 omega
end
end L2
namespace Att
open PySem PySem.W PySem.Calls PyProof.Rows
theorem za {P:Params} {h:Heap}:∀ (ns:List Int) (vs:List Value),WellAll P h vs (ns.map WData.int)->IntsAre vs ns:=by
 intro ns
 induction ns with
 |nil =>
  intro vs w
  rw [List.map_nil] at w
  cases w
  exact .nil
 |cons n ns ih =>
  intro vs w
  rw [AN] at w
  cases w with
  |cons a b =>
   cases a
   exact .cons _ _ (ih _ b)
theorem Jf {l:OpenLaw} {n:Nat} (hn:l.most=some n) {P:Params} {h:Heap} {args:List WData} {vals:List Value}
  (hpre:l.row.toRowW.claim.pre args=true) (hwl:WellAll P h vals args) :
  ∃ a vs ns,vals=[Value.ref a]∧args=[WData.list (ns.map WData.int)]∧h.get? a=some { cls := .type "list",data := .seq vs.toArray }∧IntsAre vs ns∧ns.length≤n:=by
 have hsh:WShape.hasAll [] args [.list .int]=true:=(pre_splitW hpre).1
 have hc:l.pre.holds [] { args:=args }=true:=(pre_splitW hpre).2
 obtain ⟨d,r,rfl,h1,h2⟩:=hasAllW_cons hsh
 obtain rfl:=hasAllW_nil h2
 obtain ⟨xs,rfl,h3⟩:=hasW_list h1
 obtain ⟨ns,rfl⟩:=items_int h3
 have hlen:ns.length≤n:=by
  unfold OpenLaw.pre at hc
  have h4:(WTm.not (.lt (.lit (.int (n:Int))) (.len (.arg 0)))).holds [] { args:=[.list (ns.map .int)] }=true:=by
   have h4:=(holds_andW hc).1
   rw [hn] at h4
   exact h4
  have h5:=condW_of h4 (w_not (w_lt w_lit (w_len_list (w_arg rfl))))
  rw [AX] at h5
  refine Nat.le_of_not_lt fun q => ?_
  have q':(n:Int) < ((ns.length:Nat):Int):=by omega
  first
   |(rw [AW q'] at h5;exact absurd h5 (by decide))
   |(simp at h5;omega)
 cases hwl with
 |cons w1 w2 =>
  cases w2
  cases w1 with
  |list ho hall=>exact ⟨_,_,ns,rfl,rfl,ho,za ns _ hall,hlen⟩
theorem Jv (l:OpenLaw) (args:List WData):l.row.toRowW.claim.post args (.bool true) args=true :=
 postW_of (r:=l.row.toRowW) (X:=(true==true))
  (show WShape.has [] (.bool true) .bool=true by first |rfl |decide |simp [WShape.has,WShape.arms,WShape.armsAll])
  (show (WTm.eq .res (.lit (.bool true))).value [] { args:=args,res:=some (.bool true),after:=args }=some (.bool (true==true)) from w_eq_bool (w_res rfl) w_lit) rfl
end Att
namespace L2
open PySem PySem.Spec PyProof.Rows
theorem Zs:∀ {vs:List Value} {ns:List Int},IntsAre vs ns->Vals (ns.map V.int) vs
 |_,_,.nil => .nil
 |_,_,.cons n t h => .cons ⟨t,rfl⟩ (Zs h)
def qDj (H:Hp):Prop := ∀ b,H b=none ∨ ∃ o xs,H b=some (.frz o (.lst xs))
theorem qAY {P:Program} {w:World} {K:W.Frag} {mg mb:Str->Option Value} {CX:CXT} {k:Nat} {fa a:Addr} {fd:FuncData} {x:Str} {sp:Sp} {s₁:Shared} {vs:List Value} {ns:List Int}
  (KX:K.In s₁.heap) (hns:s₁.heap.Ns mainGlobals mg) (hb:s₁.heap.Ns builtinsNs mb) (hbb:∀ x:Str,x ≠ "__name__" -> mb x=bootBuiltins x) (hlim:s₁.heap.NoLimit) (hg:s₁.gens = #[])
  (ha:s₁.heap.get? a=some { cls := .type "list",data := .seq vs.toArray }) (hi:IntsAre vs ns) (hl:ns.length≤sizeLine) (hr:Room k callerA)
  (F:∀ base:Heap,K.In base->base.Ns mainGlobals mg->FnOk P w K mg base CX k fa fd [x] sp) (hbind:∀ (s:Shared) (u:Value),BindsTo s fd ⟨[u],[]⟩ [(x,u)])
  (hsp:∀ H:Hp,qDj H->SqL K H a (ns.map V.int)->sp [.ref a] H (fun v _=>v = .bl true) fun _ _ _=>False)
  (hCX:∀ H e s',CX [] H s₁ (fun _ _ _=>False) e s'->False) :
  codeAny (model P w) callerA (.call (.ref fa) ⟨[.ref a],[]⟩) (fun r s'=>r = .ok (.ret (.bool true))∧OldK s₁.heap s'.heap∧s'.os=s₁.os∧AllBare s'.gens) s₁:=by
 have rv:=Zs hi
 have lenV:=hi.length
 -- from an abstract heap in which nothing but the script may be tracked
 have core:∀ H:Hp,qDj H->SqL K H a (ns.map V.int)->HOk P w H s₁.heap->(∀ b,H b≠none->b=a)->(H a≠none->K.lookup a=none) ->
   codeAny (model P w) callerA (.call (.ref fa) ⟨[.ref a],[]⟩) (fun r s'=>r = .ok (.ret (.bool true))∧OldK s₁.heap s'.heap∧s'.os=s₁.os∧AllBare s'.gens) s₁:=by
  intro H hO hS hok hA hK
  have base_of:∀ {b:Addr} {o:Obj},s₁.heap.get? b=some o->H b=none->(yB s₁.heap H).get? b=some o:=fun e n=>qBC e n
  have noA:∀ {b:Addr} {o:Obj} {es:Array DictEntry} {ep:Nat},s₁.heap.get? b=some o->o.data = .dict es ep->H b=none:=fun {b o es ep} e d=>by
   cases q:H b with
   |none=>rfl
   |some u =>
    have e':b=a:=hA b (by rw [q];simp)
    subst e'
    rw [ha] at e;cases e
    have d':Data.seq vs.toArray _=Data.dict es ep:=d
    cases d'
  have nsK:∀ {b:Addr} {m:Str->Option Value},s₁.heap.Ns b m->(yB s₁.heap H).Ns b m:=fun {b m} ⟨o,es,ep,e,d,r⟩=>⟨o,es,ep,base_of e (noA e d),d,r⟩
  have hKb:K.In (yB s₁.heap H):=fun b o e=>base_of (KX b o e) (by
   cases q:H b with
   |none=>rfl
   |some u =>
    have e':b=a:=hA b (by rw [q];simp)
    subst e'
    rw [hK (by rw [q];simp)] at e;cases e)
  have hM:Mod K mg (yB s₁.heap H):=⟨hKb,nsK hns,⟨mb,nsK hb,hbb⟩,let ⟨mc,h1,h2⟩:=hlim;⟨mc,nsK h1,h2⟩⟩
  have e0:Env0 P w K mg (yB s₁.heap H) callerA [] s₁ H:=⟨rfl,hM,fun b o e=>qDD e,Nat.le_of_eq (qAG _ _),trivial,fun b hb=>absurd (show b∈([]:List Addr) from hb) (by simp),hok,.of_eq hg,HndH.none rfl⟩
  refine codeAny_mono ((F _ hKb (nsK hns)).run callerA [] s₁ H ⟨[.ref a],[]⟩ [.ref a] [.ref a] _ _ hr e0 (hbind s₁ (.ref a)) (.cons rfl .nil) (hsp H hO hS)) fun r s' h => ?_
  cases r with
  |error e=>exact (hCX H e s' h).elim
  |ok fl =>
   cases fl with
   |next=>exact False.elim h
   |brk=>exact False.elim h
   |cont=>exact False.elim h
   |ret u =>
    obtain ⟨v,H',os,bare,un,hok',r',q⟩:=h
    have q':v = .bl true:=q
    subst q'
    obtain rfl:u=Value.bool true:=r'
    refine ⟨rfl,OldK.of_keep fun b o e => ?_,os,bare⟩
    cases q:H b with
    |none=>exact un.keep b o e q (by intro z;exact absurd (show b∈([]:List Addr) from z) (by simp)) (by simp)
    |some u =>
     rcases hO b with z |⟨ob,xs,z⟩
     ·rw [q] at z;cases z
     ·have z2:=un.frzs b ob _ z
      obtain ⟨e1,_⟩:=hok b _ z
      obtain ⟨e2,_⟩:=hok' b _ z2
      rw [e] at e1;cases e1
      exact e2
 cases hk:K.lookup a with
 |some o =>
  -- the script is one of the module's own objects
  have e:=KX a o hk
  rw [ha] at e
  cases e
  refine core (fun _=>none) (fun _ => .inl rfl) (.inr ⟨_,vs.toArray,_,hk,rfl,rfl,rfl,by rw [AK,lenV];exact hl,by simpa using rv⟩) (fun b u z=>by have z':(none:Option HO)=some u:=z;cases z') (fun b z=>absurd rfl z) fun z=>absurd rfl z
 |none =>
  refine core (fun b=>if b=a then some (.frz { cls := .type "list",data := .seq vs.toArray } (.lst (ns.map V.int))) else none) (fun b => ?_) (.inl (.inr ⟨{ cls := .type "list",data := .seq vs.toArray },AH rfl⟩)) (fun b u z => ?_) (fun b z => ?_) fun _=>hk
  ·by_cases hb:b=a
   ·exact .inr ⟨_,_,AH hb⟩
   ·exact .inl (AO hb)
  ·by_cases hb:b=a
   ·have z':=(AH hb).symm.trans z
    cases z'
    subst hb
    exact ⟨ha,by rw [AX];exact hl,vs,_,rv,ha⟩
   ·have z':=(AO hb).symm.trans z
    cases z'
  ·by_cases hb:b=a
   ·exact hb
   ·exact absurd (AO hb) z
end L2
namespace L2
open PySem PySem.Spec PyProof.Rows
end L2
namespace L2
open PySem PySem.Spec PyProof.Rows
def qk (s:Stmt):Arguments:=match s with
 | .FunctionDef _ a _ _ _ _ _ _ _ _=>a
 |_=>{ posonlyargs:=[],args:=[],vararg:=none,kwonlyargs:=[],kw_defaults:=[],kwarg:=none,defaults:=[] }
def qe (s:Stmt):List Stmt:=match s with
 | .FunctionDef _ _ b _ _ _ _ _ _ _=>b
 |_=>[]
def qN (s:Stmt):Scope:=match s with
 | .FunctionDef _ _ _ _ _ _ sc _ _ _=>sc
 |_=>{ kind := .function,names:=[],isGenerator:=false,isCoroutine:=false }
abbrev E0:XK:=fun _ _ _=>False
structure Fun (K:W.Frag) (x qual:Str) (st:Stmt) (f:Addr) (fd:FuncData):Prop where
 ex:∃ (oc:Value) (od:Option Addr) (kV doc pm:Value) (an:Option Addr) (cdv ct:Value) (osl:Array (Option Value)),
  fd=W.fnOf x qual (qk st) (qe st) (qN st) .none kV doc pm an cdv ct∧K.lookup f=some ⟨oc,od,.func fd,osl⟩∧W.codeIn K cdv qual=true
 kp:W.keepIn K (.ref f)=true
section
variable {P:Program} {w:World} {K:W.Frag} {mg:Str->Option Value} {base:Heap}
theorem Fun.binds {x qual:Str} {st:Stmt} {f:Addr} {fd:FuncData} {ps:List Str} (F:Fun K x qual st f fd)
  (h:∀ (kV doc pm:Value) (an:Option Addr) (cdv ct:Value) (us:List Value),us.length=ps.length->bindArgs (W.fnOf x qual (qk st) (qe st) (qN st) .none kV doc pm an cdv ct) ⟨us,[]⟩=pure (ps.zip us)):Binds K fd ps []:=by
 obtain ⟨oc,od,kV,doc,pm,an,cdv,ct,osl,rfl,lk,hcd⟩:=F.ex
 exact .all (h kV doc pm an cdv ct)
theorem QQ {x qual:Str} {st:Stmt} {f:Addr} {oc:Value} {od an:Option Addr} {osl:Array (Option Value)} {kV doc pm cdv ct:Value} (l:K.lookup f=some ⟨oc,od,.func (W.fnOf x qual (qk st) (qe st) (qN st) .none kV doc pm an cdv ct),osl⟩)
  (c:W.codeIn K cdv qual=true) (k:W.keepIn K (.ref f)=true):Fun K x qual st f (W.fnOf x qual (qk st) (qe st) (qN st) .none kV doc pm an cdv ct):=⟨⟨oc,od,kV,doc,pm,an,cdv,ct,osl,rfl,l,c⟩,k⟩
end
section
variable {X:Cx}
theorem pv (i:Nat) {x:Str} {pos:Pos} (hN:X.N[i]? = some x:=by rfl) (hv:Vis X.env.scope x:=by first |exact Or.inl rfl |exact Or.inr (Or.inl rfl) |exact Or.inr (Or.inr rfl)) (hd:(x==("__debug__":Str))=false:=by decide)
  (hcd:(x==("__classdict__":Str))=false:=by decide):PE X (.Name x pos) (qFD i):=qE5 hN hv hd hcd
end
theorem Yu {A B:Prop} (h:B):if false=true then A else B:=by
 rw [AO Ag]
 exact h
theorem jR {A B:Prop} (h:A):if true=true then A else B:=by
 rw [AH rfl]
 exact h
def Same (H H':Hp):Prop := ∀ b o,H b=some o->H' b=some o
theorem Same.refl (H:Hp):Same H H:=fun _ _ h=>h
end L2
end
section
namespace L2
open PySem PySem.Spec PyProof.Rows
section
variable {κ:Type} [DecidableEq κ]
def Wo (kvs:List (κ×V)) (k:κ):Option V:=(kvs.find? fun kv=>decide (kv.1=k)).map (·.2)
def ZJ (kvs:List (κ×V)) (k:κ) (v:V):List (κ×V) :=
 if (kvs.any fun kv=>decide (kv.1=k))=true then kvs.map (fun kv=>if kv.1=k then (kv.1,v) else kv) else kvs++[(k,v)]
theorem yw {p:κ×V} {r:List (κ×V)} {k:κ} (e:p.1=k):Wo (p::r) k=some p.2:=by simp [Wo,A6,e]
theorem Yr {p:κ×V} {r:List (κ×V)} {k:κ} (e:¬ p.1=k):Wo (p::r) k=Wo r k:=by simp [Wo,A6,e]
theorem Yq (k:κ):∀ kvs:List (κ×V),(kvs.any fun kv=>decide (kv.1=k))=(Wo kvs k).isSome
 |[]=>rfl
 |p::r=>by
  rw [List.any_cons]
  by_cases e:p.1=k
  ·simp only [yw e,AW e,Bool.true_or,Option.isSome_some]
  ·rw [Yr e,AQ e,Bool.false_or];exact Yq k r
theorem YY (kvs:List (κ×V)) (k:κ) (v:V):(ZJ kvs k v).length≤kvs.length + 1:=by
 unfold ZJ
 split
 ·rw [AX];omega
 ·rw [Aa,Ae,List.length_nil];omega
theorem RelO.isSome_eq {o:Option V} {u:Option Value} (r:RelO o u):o.isSome=u.isSome:=by
 cases o with
 |none=>cases u with
  |none=>rfl
  |some _=>exact (show False from r).elim
 |some _=>cases u with
  |none=>exact (show False from r).elim
  |some _=>rfl
theorem RelO.getD {o:Option V} {u:Option Value} {d:V} {d':Value} (r:RelO o u) (rd:RelV d d'):RelV (o.getD d) (u.getD d'):=by
 cases o with
 |none=>cases u with
  |none=>exact rd
  |some _=>exact (show False from r).elim
 |some _=>cases u with
  |none=>exact (show False from r).elim
  |some _=>exact r
end
theorem qFk {P:Program} {w:World} {k:Key} {u:Value} (r:RelV (kV k) u):(QP P w).is k u=true:=by
 cases k with
 |inl i=>obtain ⟨t,e⟩:=(show ∃ t,u=Value.int i t from r);subst e;exact yp P w i t
 |inr x=>obtain ⟨t,e⟩:=(show ∃ t,u=Value.str x t from r);subst e;exact Yp P w x t
theorem Ze {P:Program} {w:World}:∀ {ks:List Key} {us:List Value},Vals (ks.map kV) us->ItemsAre (QP P w) ks us
 |[],_,r=>by rw [List.map_nil] at r;cases r;exact .nil
 |k::ks,_,r=>by
  rw [AN] at r
  cases r with
  |cons h t=>exact .cons (qFk h) (Ze t)
section
variable {P:Program} {w:World} {H:Hp} {h:Heap} {a:Addr}
theorem qA1 {u:HO} (ok:HOk P w H h) (e:Rd H a u):ObjOk P w H h a u:=e.ok ok
theorem qEJ {ks:List Key} (ok:HOk P w H h) (e:H a=some (.tup (ks.map kV))):(tupleKind (QP P w)).is h ks a:=by
 obtain ⟨_,its,r,⟨o,h1,h2,n,h3⟩,_⟩:=(show ObjOk P w H h a (.tup (ks.map kV)) from ok a _ e)
 exact ⟨o,its.toArray,n,h1,h2,h3,by simpa using Ze r⟩
end
section
variable {X:Cx} {pins:List (Addr×Obj)} {σ:St} {H:Hp} {s:Shared} {a:Addr} {y v:V} {u r:Value} {o:Option V} {A:Around} {E:Value->Shared->Prop}
theorem Inv.big (I:Inv X pins σ H s):sysModules < s.heap.objs.size:=by
 have h:mainGlobals < s.heap.objs.size:=(I.mod.glob.keeps I.bk).lt
 exact Nat.lt_trans (by decide) h
theorem jk {h':Heap} {t':Nat} {ob:HO} (I:Inv X pins σ H s) (mu:Mut (H a)) (hs:Heap.SameBut a s.heap h') (he:∃ q,h'.get? a=some q) (new:ObjOk X.prog X.w (upd H a ob) h' a ob) :
  Inv X pins σ (upd H a ob) { s with heap:=h',toks:=t' } :=
 I.write (x:=a) (e:=a) mu (.inl rfl) (fun b q hb z=>(hs.2 b hb).trans z) he new
end
def qEc (i:Expr):Prop := ∀ ov iv,subscripted i false ov iv=operate [ov,iv] (getItem ov iv)
theorem qCz {prog:Program} {w:World} {A:Around} {E:Value->Shared->Prop} {s:Shared} {env:Env} {value slice:Expr} {pos:Pos} {T id:String} {Q:Value->Shared->Prop}
  (hl:typeLookup (.type T) "__getitem__" = pure (some (.builtin id))) (hs:qEc slice)
  (h:wpAny (model prog w) A (eval value env) (fun o s₁=>wpAny (model prog w) A (eval slice env) (fun i s₂=>s₂.TypeIs o T∧wpAny (model prog w) A (getItem o i) Q E s₂) E s₁) E s) :
  wpAny (model prog w) A (eval (.Subscript value slice pos) env) Q E s:=by
 refine Subscript_ (A2 h (fun o s₁ h₁=>A2 h₁ (fun i s₂ h₂ => ?_) fun _ _ x=>x) fun _ _ x=>x)
 obtain ⟨hT,h₂⟩:=h₂
 unfold subscriptTail
 refine AA ?_
 rw [getitemInPython_of_ne hT.not_modules]
 refine AA (wpAny_specialOf hT hl ?_)
 have fin:wpAny (model prog w) A (subscripted slice false o i) (fun r s₃=>wpAny (model prog w) A (letTemporaryGo value o r >>= fun _=>pure r) Q E s₃) E s₂:=by
  rw [hs o i]
  exact wpAny_operating (A2 h₂ (fun r s₃ h₃=>AA (wpAny_letTemporaryGo (AB h₃))) fun _ _ x=>x)
 first
  |exact AB (AA fin)
  |exact AA (AB (AA fin))
  |exact AA fin
theorem qBI {P:Program} {w:World} {H:Hp} (h:Heap) (hb:sysModules < h.objs.size):ObjOk P w H (h.push { cls := .type "dict",data := .dict #[] }) h.objs.size (.dK []) :=
 ⟨A3 _,AC.mpr (Ne.symm (AZ hb)),[],.nil,Heap.DictOf.new h⟩
def qEf:TE:=fun _ H Q => ∀ p,H p=none->Q (.ref p) (upd H p (.dK []))
section
variable {X:Cx} {pos:Pos}
theorem qBe:PE X (.Dict [] [] pos) qEf:=fun pins s σ H Q I h =>
 wpAny_Dict_empty ⟨.ref s.heap.objs.size,_,I.laid (a:=s.heap.objs.size) (o := .dK []) (t':=s.toks) (fun _ _ q=>AE _ q) (AI _) (qBI s.heap I.big),rfl,h _ (I.hok.fresh (AI _))⟩
end
def qAR:List (TE×TE)->St->Hp->(List (V×V)->Hp->Prop)->Prop
 |[],_,H,Q=>Q [] H
 |(tk,tv)::r,σ,H,Q=>tk σ H fun x H1=>tv σ H1 fun y H2=>qAR r σ H2 fun ps H3=>Q ((x,y)::ps) H3
abbrev VV:List (V×V)->List (Value×Value)->Prop:=Paired fun p q=>RelV p.1 q.1∧RelV p.2 q.2
def PPs (X:Cx) (pos:Pos) (keys:List (Option Expr)) (values:List Expr) (trs:List (TE×TE)):Prop :=
 ∀ (pins:List (Addr×Obj)) (s:Shared) (σ:St) (H:Hp) (Q:List (V×V)->Hp->Prop),Inv X pins σ H s->qAR trs σ H Q ->
  wpAny (model X.prog X.w) X.A (evalPairs (pairTrees keys values X.env pos)) (fun vs s' => ∃ ps H',Inv X pins σ H' s'∧VV ps vs∧Q ps H') X.xe s
theorem qC7 {X:Cx} {pos:Pos}:PPs X pos [] [] []:=fun pins s σ H Q I h=>pairTrees_nil_walk ⟨[],H,I,.nil,h⟩
theorem qBz {X:Cx} {pos:Pos} {k v:Expr} {ks:List (Option Expr)} {vs:List Expr} {tk tv:TE} {trs:List (TE×TE)} (hk:PE X k tk) (hv:PE X v tv) (hr:PPs X pos ks vs trs) :
  PPs X pos (some k::ks) (v::vs) ((tk,tv)::trs):=fun pins s σ H Q I h =>
 pairTrees_cons_walk (thn (hk pins s σ H _ I h) fun u s1 ⟨x,H1,I1,rx,q1⟩=>thn (hv pins s1 σ H1 _ I1 q1) fun w2 s2 ⟨y,H2,I2,ry,q2⟩ =>
  thn (hr pins s2 σ H2 _ I2 q2) fun ws s3 ⟨ps,H3,I3,rel,q3⟩=>⟨(x,y)::ps,H3,I3,.cons ⟨rx,ry⟩ rel,q3⟩)
structure M2 (X:Cx) (o:Expr) (m:Str) (apos:Pos) (e f:Expr) (cpos:Pos):Prop where
 base:attributeBase o m X.env (eval o X.env)=eval o X.env
 few:((backTo cpos (starEach [e,f] X.env)).all (fun x => !x.1)&&(backToKw cpos (keywordEach [] X.env)).all (fun x=>x.1.isSome)
  && decide (([e,f]:List Expr).length + ([]:List Keyword).length + (if ([]:List Keyword).isEmpty then 0 else 1) < 30))=true
 line:(apos.endLine==cpos.line)=true
 trees:backTo cpos (starEach [e,f] X.env)=[(false,eval e X.env),(false,eval f X.env)]
end L2
namespace L2
open PySem PySem.Spec PyProof.Rows
end L2
end
section
namespace EX
open PySem PySem.Spec PyProof.Rows
def Trc (h B:Heap) (e:Addr) (cls:Value) (dd:Option Addr) (fl:Value):Prop :=
 ∃ oe vs T oT ts,h.get? e=some oe∧oe.cls=cls∧oe.dict=dd∧oe.data = .fields vs∧vs[1]? = some (Value.ref T)∧vs[2]? = some Value.none∧B.get? T=none∧T≠e∧h.get? T=some oT∧oT.data = .fields ts∧ts[3]? = some fl
def Fly (B:Heap) (l:List Env) (e:Addr) (cls:Value) (dd:Option Addr) (fl:Value) (h:Heap):Prop:=B.StaysIn h∧B.get? e=none∧h.FunFrames B l∧Trc h B e cls dd fl
theorem Fly.tail {B h:Heap} {env:Env} {l:List Env} {e:Addr} {cls fl:Value} {dd:Option Addr} (x:Fly B (env::l) e cls dd fl h):Fly B l e cls dd fl h:=⟨x.1,x.2.1,x.2.2.1.2.2,x.2.2.2⟩
section
variable {M:Model} {A:Around} {E:Value->Shared->Prop} {s:Shared} {B:Heap} {env:Env} {outer:List Env} {L e:Addr} {cls:Value} {dd:Option Addr} {Q:Unit->Shared->Prop}
theorem Yl {oe:Obj} {vs:Array Value} {head:Value} {nx:Bool} (f1:A.frames=some (env::outer)) (f2:s.heap.FunFrames B (env::outer)) (f3:env.frame=some L) (k1:B.StaysIn s.heap) (k2:B.get? e=none)
  (g1:s.heap.get? e=some oe) (g2:oe.data = .fields vs) (g3:1 < vs.size) (g4:vs[2]? = some Value.none) (h:∀ h',Fly B (env::outer) e oe.cls oe.dict (rawInt L) h'->s.heap.UpToSlots h'->Q () { s with heap:=h' }) :
  wpAny M A (do let a ← frameOf env;let pl ← entryPlaceOf L nx;let b ← EntryCells.newEntry head a .none (rawInt L) .none pl;setField (.ref e) 1 b) Q E s:=by
 have nfr:e ∉ (env::outer).filterMap (·.frame):=fun hm=>by
  obtain ⟨_,o,ho,hnf⟩:=f2.mem hm
  rw [g1] at ho;cases ho;exact hnf vs g2
 refine AA (wpAny_frameOf_fun f1 f2 f3 fun h1 so=>AA (wpAny_entryPlaceOf fun pl hpl => ?_))
 unfold EntryCells.newEntry newFields
 refine AA (Az ?_ (hpl.sizeOk5 _ _ _ _ _))
 generalize hts:([head,Value.ref L,.none,rawInt L,.none]++(if pl.isEmpty then List.replicate 6 Value.none else pl)).toArray=ts
 have ht3:ts[3]? = some (rawInt L):=by rw [← hts];first |(simp;done) |(rcases hpl with rfl |⟨_,_,_,_,_,_,_,rfl⟩ <;> simp)
 have a1:h1.get? e=some oe:=(so.2.1 e nfr).trans g1
 have kb:B.StaysIn h1:=fun b o q=>(so.2.1 b fun hm=>by rw [(f2.mem hm).1] at q;cases q).trans (k1 b o q)
 have a2:=AE (h:=h1) { cls := .type "traceback",dict:=none,data := .fields ts } a1
 refine BG a2 g2 g3 (h _ ?_ ?_)
 ·have ne1:h1.objs.size≠e:=Nat.ne_of_gt (AM a1)
  have d3:=BJ g2 (·.setIfInBounds 1 (Value.ref h1.objs.size))
  have a3:=BK (Obj.mapFields (·.setIfInBounds 1 (Value.ref h1.objs.size))) a2 (BV d3)
  have a4:=(Ab (h1.push { cls := .type "traceback",dict:=none,data := .fields ts }) (Obj.mapFields (·.setIfInBounds 1 (Value.ref h1.objs.size))) (Ne.symm ne1)).trans (AU h1 rfl)
  have kp:∀ b o,b≠e->h1.get? b=some o->((h1.push { cls := .type "traceback",dict:=none,data := .fields ts }).update e (Obj.mapFields (·.setIfInBounds 1 (Value.ref h1.objs.size)))).get? b=some o:=fun b o hb q =>
   (Ab _ _ (Ne.symm hb)).trans (AE _ q)
  refine ⟨fun b o q=>kp b o (fun z=>by rw [z,k2] at q;cases q) (kb b o q),k2,f2.of_keeps fun b o q nf => ?_,_,_,h1.objs.size,_,ts,a3,Obj.cls_mapFields _ _,?_,d3,?_,?_,kb.fresh,ne1,a4,rfl,ht3⟩
  ·obtain ⟨sl,q2⟩:=so.2.2 b o q
   exact ⟨_,kp b _ (fun z=>by rw [z,g1] at q;cases q;exact nf vs g2) q2,rfl⟩
  ·obtain ⟨c,d,dt,sl⟩:=oe
   have g2:dt = .fields vs:=g2
   subst g2;rfl
  ·simp [g3]
  ·rw [Array.getElem?_setIfInBounds_ne (by decide)];exact g4
 ·intro b o q nf
  have hb:b≠e:=fun z=>by rw [z,g1] at q;cases q;exact nf vs g2
  obtain ⟨sl,q2⟩:=so.2.2 b o q
  exact ⟨sl,(Ab _ _ (Ne.symm hb)).trans (AE _ q2)⟩
theorem Yv {oe:Obj} {vs:Array Value} (f1:A.frames=some (env::outer)) (f2:s.heap.FunFrames B (env::outer)) (f3:env.frame=some L) (k1:B.StaysIn s.heap) (k2:B.get? e=none)
  (g1:s.heap.get? e=some oe) (g2:oe.data = .fields vs) (g3:vs[1]? = some Value.none) (g4:vs[2]? = some Value.none) (h:∀ h',Fly B (env::outer) e oe.cls oe.dict (rawInt L) h'->s.heap.UpToSlots h'->Q () { s with heap:=h' }) :
  wpAny M A (noteFrame (.ref e) env) Q E s:=by
 unfold noteFrame
 simp only [f3]
 refine AA (Aw g1 g2 g3 ?_)
 rw [AO (show ¬ ((Value.none != Value.none)=true) by decide)]
 exact Yl f1 f2 f3 k1 k2 g1 g2 (BA.mp g3).1 g4 h
theorem Zd (f1:A.frames=some (env::outer)) (f3:env.frame=some L) (x:Fly B (env::outer) e cls dd .none s.heap) (h:∀ h',Fly B (env::outer) e cls dd (rawInt L) h'->s.heap.UpToSlots h'->Q () { s with heap:=h' }) :
  wpAny M A (noteFrame (.ref e) env) Q E s:=by
 obtain ⟨k1,k2,f2,oe,vs,T,oT,ts,g1,rfl,rfl,g2,g3,g4,t1,t2,t3,t4,t5⟩:=x
 unfold noteFrame
 simp only [f3]
 refine AA (Aw g1 g2 g3 ?_)
 rw [AH (show (Value.ref T != Value.none)=true by simp)]
 refine AA (Aw t3 t4 t5 ?_)
 rw [AO (show ¬ ((Value.none==rawInt L)=true) by simp [rawInt])]
 refine AA (BG t3 t4 (BA.mp t5).1 ?_)
 have ot:∀ b,b≠T->(s.heap.update T (Obj.mapFields (·.setIfInBounds 3 Value.none))).get? b=s.heap.get? b:=fun b hb=>Ab _ _ (Ne.symm hb)
 have nr:∀ b o,s.heap.get? b=some o->(∀ us,o.data ≠ .fields us)->b≠T:=fun b o q nf z=>by rw [z,t3] at q;cases q;exact nf ts t4
 refine Yl f1 (f2.of_keeps fun b o q nf=>⟨o,(ot b (nr b o q nf)).trans q,rfl⟩) f3 (fun b o q=>(ot b fun z=>by rw [z,t1] at q;cases q).trans (k1 b o q)) k2 ((ot e (Ne.symm t2)).trans g1) g2 (BA.mp g3).1 g4 fun h' x u=>h h' x fun b o q nf => ?_
 exact u b o ((ot b (nr b o q nf)).trans q) nf
theorem JH {l:List Env} {fl:Value} (x:Fly B l e cls dd fl s.heap) (h:∀ h',Fly B l e cls dd .none h'->s.heap.UpToSlots h'->Q () { s with heap:=h' }):wpAny M A (setFlight (.ref e) none) Q E s:=by
 obtain ⟨k1,k2,f2,oe,vs,T,oT,ts,g1,g0,g00,g2,g3,g4,t1,t2,t3,t4,t5⟩:=x
 have t6:3 < ts.size:=(BA.mp t5).1
 have ot:∀ b,b≠T->(s.heap.update T (Obj.mapFields (·.setIfInBounds 3 ((none:Option Addr).elim Value.none fun f=>rawInt f)))).get? b=s.heap.get? b:=fun b hb=>Ab _ _ (Ne.symm hb)
 have nr:∀ b o,s.heap.get? b=some o->(∀ us,o.data ≠ .fields us)->b≠T:=fun b o q nf z=>by rw [z,t3] at q;cases q;exact nf ts t4
 unfold setFlight
 refine AA (Aw g1 g2 g3 ?_)
 rw [AH (show (Value.ref T != Value.none)=true by simp)]
 refine BG t3 t4 t6 (h _ ⟨fun b o q=>(ot b fun z=>by rw [z,t1] at q;cases q).trans (k1 b o q),k2,f2.of_keeps fun b o q nf=>⟨o,(ot b (nr b o q nf)).trans q,rfl⟩,?_⟩ fun b o q nf=>⟨o.slots,(ot b (nr b o q nf)).trans q⟩)
 exact ⟨oe,vs,T,_,_,(ot e (Ne.symm t2)).trans g1,g0,g00,g2,g3,g4,t1,t2,BK _ t3 (BV (BJ t4 _)),BJ t4 _,by simp [t6]⟩
theorem ya {oe:Obj} {vs:Array Value} (f1:A.frames=some (env::outer)) (f2:s.heap.FunFrames B (env::outer)) (f3:env.frame=some L) (k1:B.StaysIn s.heap) (k2:B.get? e=none)
  (g1:s.heap.get? e=some oe) (g2:oe.data = .fields vs) (g3:vs[1]? = some Value.none) (g4:vs[2]? = some Value.none) (h:∀ h',Fly B outer e oe.cls oe.dict .none h'->s.heap.UpToSlots h'->Q () { s with heap:=h' }) :
  wpAny M A (leaving env (.ref e)) Q E s:=by
 unfold leaving
 exact AA (Yv f1 f2 f3 k1 k2 g1 g2 g3 g4 fun h1 x1 u1=>JH x1 fun h2 x2 u2=>h h2 x2.tail (u1.trans u2))
theorem yy (f1:A.frames=some (env::outer)) (f3:env.frame=some L) (x:Fly B (env::outer) e cls dd .none s.heap) (h:∀ h',Fly B outer e cls dd .none h'->s.heap.UpToSlots h'->Q () { s with heap:=h' }) :
  wpAny M A (leaving env (.ref e)) Q E s:=by
 unfold leaving
 exact AA (Zd f1 f3 x fun h1 x1 u1=>JH x1 fun h2 x2 u2=>h h2 x2.tail (u1.trans u2))
end
end EX
end
section
namespace EX
open PySem PySem.Spec PyProof.Rows L2
structure UnB (fs:List Addr) (H H1:Hp) (h B:Heap):Prop where
 keep:∀ b o,h.get? b=some o->H b=none->b ∉ fs->B.get? b=some o
 free:∀ b o,h.get? b=some o->H b=none->H1 b=none
 there:∀ b o,h.get? b=some o->b ∉ fs -> ∃ o',B.get? b=some o'
 tups:∀ b xs,H b=some (.tup xs)->H1 b=some (.tup xs)
 frzs:∀ b o u,H b=some (.frz o u)->H1 b=some (.frz o u)
 tbls:∀ b ps,H b=some (.tbl ps) -> ∃ more,H1 b=some (.tbl (ps++more))
def CXF (P:Program) (w:World):CXT:=fun outer H s E e s' =>
 ∃ ea cls dd B H1,e=Value.ref ea∧Fly B outer ea cls dd .none s'.heap∧HOk P w H1 B∧s'.os=s.os∧AllBare s'.gens∧UnB (frs outer) H H1 s.heap B ∧
  (∀ b∈frs outer,∀ o,s.heap.get? b=some o -> ∃ sl,s'.heap.get? b=some { o with slots:=sl })∧E cls dd H1
theorem YO {env:Env} {outer:List Env} {L:Addr} (h:env.frame=some L):frs (env::outer)=L::frs outer:=by
 unfold frs;rw [Bd,h]
theorem CXF.un {P:Program} {w:World} {outer:List Env} {H H1:Hp} {s s':Shared} {B:Heap} (hs:B.StaysIn s'.heap) (un:UnB (frs outer) H H1 s.heap B) (sl:∀ b∈frs outer,∀ o,s.heap.get? b=some o -> ∃ sl,s'.heap.get? b=some { o with slots:=sl }) :
  Un (frs outer) [] H H1 s.heap s'.heap where
 keep:=fun b o e n hb _=>hs b o (un.keep b o e n hb)
 slot:=fun b o e n hb _=>sl b hb o e
 free:=fun b o e n _=>un.free b o e n
 there:=fun b o e _=>by
  by_cases hb:b∈frs outer
  ·obtain ⟨x,q⟩:=sl b hb o e;exact ⟨_,q⟩
  ·obtain ⟨o',q⟩:=un.there b o e hb;exact ⟨o',hs b o' q⟩
 tups:=un.tups
 frzs:=un.frzs
 tbls:=un.tbls
section
variable {P:Program} {w:World} {K:W.Frag} {mg:Str->Option Value} {base:Heap} {N:List Str} {qual:Str} {scope:Scope} {f:Addr} {cd:Value} {A:Around} {outer:List Env} {s₀:Shared} {H₀:Hp} {E:XK}
theorem Qi:WR (CXF P w) (wB (CXF P w) P w K mg base N qual scope f cd A outer s₀ H₀ E) E:=by
 intro pins σ H s e s' I c
 obtain ⟨ea,cls,dd,B,H1,rfl,fl,hok,os,bare,un,sl,q⟩:=c
 have hfr:(envOfC qual scope s₀.heap.objs.size f cd).frame=some s₀.heap.objs.size:=rfl
 have ef:frs (wB (CXF P w) P w K mg base N qual scope f cd A outer s₀ H₀ E).stack=s₀.heap.objs.size::frs outer:=YO hfr
 have Ib:Un (frs outer) [] H₀ H s₀.heap s.heap:=I.base
 have ne:∀ b o,s₀.heap.get? b=some o->b≠s₀.heap.objs.size:=fun b o e=>AZ (AM e)
 refine yy I.ok.frames hfr fl fun h' x u=>⟨ea,cls,dd,B,H1,rfl,x,hok,os.trans I.os,bare,?_,fun b hb o e => ?_,q⟩
 ·refine ⟨fun b o e n hb => ?_,fun b o e n => ?_,fun b o e hb => ?_,fun b xs e=>un.tups b xs (Ib.tups b xs e),fun b o u e=>un.frzs b o u (Ib.frzs b o u e),fun b ps e => ?_⟩
  ·exact un.keep b o (Ib.keep b o e n hb (by simp)) (Ib.free b o e n (by simp)) (by rw [ef];intro z;exact (AL.mp z).elim (ne b o e) hb)
  ·obtain ⟨o',e'⟩:=Ib.there b o e (by simp)
   exact un.free b o' e' (Ib.free b o e n (by simp))
  ·obtain ⟨o',e'⟩:=Ib.there b o e (by simp)
   exact un.there b o' e' (by rw [ef];intro z;exact (AL.mp z).elim (ne b o e) hb)
  ·obtain ⟨m1,e1⟩:=Ib.tbls b ps e
   obtain ⟨m2,e2⟩:=un.tbls b _ e1
   exact ⟨m1++m2,by rw [e2,Array.append_assoc]⟩
 ·obtain ⟨sl1,e1⟩:=Ib.slot b o e (I.ok.frf b hb) hb (by simp)
  obtain ⟨sl2,e2⟩:=sl b (by rw [ef];exact AD _ hb) _ e1
  have nf:∀ vs,o.data ≠ .fields vs:=by
   obtain ⟨_,o2,ho2,nf⟩:=I.ok.funs.mem hb
   have e:(wB (CXF P w) P w K mg base N qual scope f cd A outer s₀ H₀ E).s₀.heap.get? b=some o:=e
   rw [e] at ho2;cases ho2;exact nf
  obtain ⟨sl3,e3⟩:=u b _ e2 nf
  exact ⟨sl3,e3⟩
theorem J5 {pins:List (Addr×Obj)} {σ:L2.St} {H:Hp} {s:Shared} {h':Heap} {e:Addr} {oe:Obj} {vs:Array Value} {H1:Hp} {B0:Heap} (I:L2.Inv (wB (CXF P w) P w K mg base N qual scope f cd A outer s₀ H₀ E) pins σ H s) (k:∀ b o,s.heap.get? b=some o->h'.get? b=some o) (hn:s.heap.get? e=none)
  (g1:h'.get? e=some oe) (g2:oe.data = .fields vs) (g3:vs[1]? = some Value.none) (g4:vs[2]? = some Value.none) (q:E oe.cls oe.dict H):(wB (CXF P w) P w K mg base N qual scope f cd A outer s₀ H₀ E).xe (.ref e) { s with heap:=h' }:=by
 have hfr:(envOfC qual scope s₀.heap.objs.size f cd).frame=some s₀.heap.objs.size:=rfl
 have ef:frs (wB (CXF P w) P w K mg base N qual scope f cd A outer s₀ H₀ E).stack=s₀.heap.objs.size::frs outer:=YO hfr
 have Ib:Un (frs outer) [] H₀ H s₀.heap s.heap:=I.base
 have ne:∀ b o,s₀.heap.get? b=some o->b≠s₀.heap.objs.size:=fun b o e=>AZ (AM e)
 generalize hB:W.hideAll s.heap (frs (wB (CXF P w) P w K mg base N qual scope f cd A outer s₀ H₀ E).stack)=B
 have toB:∀ b o,s.heap.get? b=some o->b ∉ frs (wB (CXF P w) P w K mg base N qual scope f cd A outer s₀ H₀ E).stack->B.get? b=some o:=fun b o e hb=>by rw [← hB];exact W.hideAll_get _ e hb
 have ofB:∀ b o,B.get? b=some o->s.heap.get? b=some o:=fun b o e=>by rw [← hB] at e;exact W.of_hideAll _ e
 have trk:∀ b u,H b=some u->b ∉ frs (wB (CXF P w) P w K mg base N qual scope f cd A outer s₀ H₀ E).stack:=fun b u e z=>by rw [I.stkFree b z] at e;cases e
 have fun1:h'.FunFrames B (wB (CXF P w) P w K mg base N qual scope f cd A outer s₀ H₀ E).stack:=by
  have:=W.funFrames_hide (as:=frs (wB (CXF P w) P w K mg base N qual scope f cd A outer s₀ H₀ E).stack) I.stack fun env he a ha=>List.mem_filterMap.mpr ⟨env,he,ha⟩
  rw [hB] at this
  exact this.of_keeps fun b o e _=>⟨o,k b o e,rfl⟩
 have eB:B.get? e=none:=by
  cases z:B.get? e with
  |none=>rfl
  |some o=>have:=ofB e o z;rw [hn] at this;cases this
 refine ya (s:={ s with heap:=h' }) I.ok.frames fun1 hfr (fun b o z=>k b o (ofB b o z)) eB g1 g2 g3 g4 fun h2 x u=>⟨e,oe.cls,oe.dict,B,H,rfl,x,?_,I.os,I.bare,?_,fun b hb o e1 => ?_,q⟩
 ·exact fun b u e1=>(I.hok b u e1).stay (fun c v hc z=>toB c v z (hc.elim (fun z=>by rw [z];exact trk b u e1) fun z=>trk c _ z)) (fun _ z=>z) fun _ _ z=>z
 ·refine ⟨fun b o e n hb => ?_,fun b o e n=>Ib.free b o e n (by simp),fun b o e hb => ?_,fun b xs e=>Ib.tups b xs e,fun b o u e=>Ib.frzs b o u e,fun b ps e=>Ib.tbls b ps e⟩
  ·exact toB b o (Ib.keep b o e n hb (by simp)) (by rw [ef];intro z;exact (AL.mp z).elim (ne b o e) hb)
  ·obtain ⟨o',e'⟩:=Ib.there b o e (by simp)
   exact ⟨o',toB b o' e' (by rw [ef];intro z;exact (AL.mp z).elim (ne b o e) hb)⟩
 ·obtain ⟨sl1,e2⟩:=Ib.slot b o e1 (I.ok.frf b hb) hb (by simp)
  have nf:∀ vs,o.data ≠ .fields vs:=by
   obtain ⟨_,o2,ho2,nf⟩:=I.ok.funs.mem hb
   have e1:(wB (CXF P w) P w K mg base N qual scope f cd A outer s₀ H₀ E).s₀.heap.get? b=some o:=e1
   rw [e1] at ho2;cases ho2;exact nf
  obtain ⟨sl3,e3⟩:=u b _ (k b _ e2) nf
  exact ⟨sl3,e3⟩
end
section
variable {prog:Program} {w:World} {A:Around} {E:Value->Shared->Prop} {s:Shared} {K:W.Frag} {x D:Addr} {ox:Obj} {od:Option Obj}
structure ExcK (K:W.Frag) (D:Addr):Prop where
 ga:W.findIn K (.ref D) "__getattribute__" = some (some (.builtin "BaseException.__getattribute__"))
 gn:W.findIn K (.ref D) "__getattr__" = some none
 fo:∀ od,W.findObj K D od "__class__" = some (.bind (.builtin "getset_descriptor.__get__") (.builtin "object.__class__"))
 mo:W.mroIn K D (.type "object")=some true
 mb:W.mroIn K D (.type "BaseException")=some true
theorem qAE {Q:Option Value->Shared->Prop} (C:ExcK K D) (X:K.In s.heap) (I:W.InstAt s.heap x ox D od) (h:Q (some (.ref D)) { s with toks:=s.toks + 1 }):wpAny (model prog w) A (getAttr? (.ref x) "__class__") Q E s:=by
 obtain ⟨hh,g,d,t,os⟩:=s
 have L0:=I.type (M:=model prog w)
 have L1:=W.looks_findIn (M:=model prog w) X C.ga
 have L2:=W.looks_findIn (M:=model prog w) X C.gn
 have L3:=W.looks_find (M:=model prog w) X I (C.fo od)
 have L4:=W.looks_mroIn (M:=model prog w) X C.mb
 have LI:W.Looks (model prog w) hh (isInstance (.ref x) (.type "BaseException")) true:=L0.andThen L4
 have f3:=F.attr_ValueError.ga.bind (.ref x)
 unfold getAttr? getAttrBy? getAttrBy
 refine AA (wpAny_mkText (AA (BP (At (AA (L0.at (AA (L1.at ?_))))))))
 show wpAny _ _ (getAttrByItsOwn _ _ _ _ _ _) _ _ _
 unfold getAttrByItsOwn
 refine AA (L2.at (AA (BP (At ?_))))
 show wpAny _ _ (boundAndCalled _ _ _) _ _ _
 unfold boundAndCalled
 refine AA (wpAny_of_eq f3 ?_)
 refine wpAny_call (codeAny_call_builtin F.attr_ValueError.ga.plain F.entry_bexc_ga ?_)
 have hk:builtinKind "BaseException.__getattribute__" = some .slot:=by decide +kernel
 have hsp:splitId "BaseException.__getattribute__" = some ("BaseException","__getattribute__"):=by decide +kernel
 have ha:=F.args_bexc_ga (.ref x) (.str "__class__" t)
 simp only [checkBuiltinCall,hk,hsp]
 refine AA (LI.at ?_)
 rw [AO (show ¬ ((!true)=true) by decide)]
 refine wpAny_of_eq (a:=()) ha ?_
 show wpAny _ A.in1 (Builtin.«object.__getattribute__» ⟨[.ref x,.str "__class__" t],[]⟩) _ _ _
 unfold Builtin.«object.__getattribute__»
 refine AA (AB ?_)
 refine AA (AB ?_)
 refine AA (L0.at (AA (L3.at ?_)))
 show wpAny _ A.in1 (holding [Value.builtin "object.__class__"] (call (.builtin "getset_descriptor.__get__") [.builtin "object.__class__",.ref x,.ref D]) >>= ret) _ _ _
 refine AA (At (wpAny_call (W.class_get X I C.mo ?_)))
 exact AB (AB (AB h))
end
theorem qCF {K:W.Frag} {h:Heap} {C:Addr} {bmB:List Value} {newId:String} (X:K.In h) (q:W.excIn K C bmB newId=true) :
  ∃ bm N nm qn bs hd sn sb ab co dd k0 k1 k2 k3 k5 mN,h.get? C=some (excClassObj nm qn C N bs bm hd sn sb ab co dd k0 k1 k2 k3 k5 newId)∧h.Ns N mN∧mN "__init__" = none∧OwnTail h bmB bm:=by
 unfold W.excIn at q
 split at q
 ·rename_i dd cd sl ho
  split at q
  ·rename_i C' bm k0 k1 k2 k3 n k5 hm hs
   simp only [Av,beq_iff_eq,Bool.not_eq_true'] at q
   obtain ⟨⟨⟨⟨⟨e1,e2⟩,e3⟩,e4⟩,e5⟩,e6⟩:=q
   subst e1;subst e2
   cases cd with
   |mk nm bs mro ns qn hd sn sb ab co del =>
    have hm:mro=_:=hm
    have e3:del=false:=e3
    subst hm;subst e3
    have hsl:sl = #[k0,k1,k2,k3,some (.builtin n),k5]:=by cases sl with |mk l=>rw [show l=_ from hs]
    subst hsl
    exact ⟨bm,ns,nm,qn,bs,hd,sn,sb,ab,co,dd,k0,k1,k2,k3,k5,_,X _ _ ho,.of_isNs (W.isNs_of_in X e5),W.nsMap_none_of_in X e5 e6,W.tail_of_in X e4⟩
  ·cases q
 ·cases q
def Rz (X:Cx) (E:XK):Prop := ∀ (pins:List (Addr×Obj)) (σ:L2.St) (H:Hp) (s:Shared) (h':Heap) (e:Addr) (oe:Obj) (vs:Array Value),L2.Inv X pins σ H s->(∀ b o,s.heap.get? b=some o->h'.get? b=some o)->s.heap.get? e=none ->
 h'.get? e=some oe->oe.data = .fields vs->vs[1]? = some Value.none->vs[2]? = some Value.none->E oe.cls oe.dict H->X.xe (.ref e) { s with heap:=h' }
theorem qDY {P:Program} {w:World} {K:W.Frag} {mg:Str->Option Value} {base:Heap} {N:List Str} {qual:Str} {scope:Scope} {f:Addr} {cd:Value} {A:Around} {outer:List Env} {s₀:Shared} {H₀:Hp} {E:XK} :
  Rz (wB (CXF P w) P w K mg base N qual scope f cd A outer s₀ H₀ E) E:=fun _ _ _ _ _ _ _ _ I k hn g1 g2 g3 g4 q=>J5 (H1:=H₀) (B0:=base) I k hn g1 g2 g3 g4 q
abbrev bmV:List Value:=[.type "ValueError",.type "Exception",.type "BaseException",.type "object"]
section
variable {X:Cx} {E:XK} {x:Str} {C:Addr} {e:Expr} {es:List Expr} {t:TA} {np cpos pos:Pos}
theorem qB3 (hz:Rz X E) (hc:X.calm=true) (hg:Gl X x) (hm:X.mg x=some (.ref C)) (q:W.excIn X.K C bmV "ValueError.__new__" = true) (ha:PA X (e::es) t) (hdb:(x==("__debug__":Str))=false:=by decide)
  (he:starEach (e::es) X.env=(false,eval e X.env)::starEach es X.env:=by rfl) (hpl:(backTo cpos (starEach es X.env)).any (·.1)=false:=by rfl) :
  PS X (.Raise (some (.Call (.Name x np) (e::es) [] cpos)) none pos) (fun D σ H=>t σ H fun vs H1=>vs.length≤sizeLine∧E (.ref C) none H1):=by
 intro pins s σ H D I h
 obtain ⟨bm,N,nm,qn,bs,hd,sn,sb,ab,co,dd,k0,k1,k2,k3,k5,mN,o1,o2,o3,o4⟩:=qCF I.ok.mod.kin q
 refine wpAny_Raise_call_subU (C:=C) (nm:=nm) (q:=qn) (N:=N) (bs:=bs) (bm:=bm) (hdct:=hd) (sn:=sn) (sub:=sb) (ab:=ab) (col:=co) (dd:=dd) (k0:=k0) (k1:=k1) (k2:=k2) (k3:=k3) (k5:=k5) (mN:=mN)
  F.excBase_ValueError F.excBase_ValueError.hasB F.excBase_ValueError (o4.hasType F.excBase_ValueError.hasBase) (I.ok.hd hc) (by rw [he];show (false || (backTo cpos (starEach es X.env)).any (·.1))=false;rw [hpl];rfl) o3 (yI I hg hm ⟨rfl,?_⟩ hdb)
 have ha':=ha cpos pins s σ H _ I h
 rw [he] at ha' ⊢
 refine Calls.evalArgs_plain (thn ha' fun us s1 ⟨vs,H1,I1,r1,q1,q2⟩=>⟨rfl,by rw [← r1.length];exact q1,I1.bk _ _ o1,o2.keeps I1.bk,o4.keeps I1.bk,fun h' ea hx => ?_⟩)
 obtain ⟨tt,h1,_,_⟩:=hx.there
 exact hz pins σ H1 s1 h' ea _ _ I1 hx.keeps hx.new h1 rfl rfl rfl q2
end
section
variable {M:Model} {A:Around} {E:Value->Shared->Prop} {K:W.Frag} {h:Heap} {g:Array GenState} {d:Drawn} {t:Nat} {os:OsState} {e Bx C:Addr} {oe:Obj} {dd:Option Addr} {cd:ClassData} {sl:Array (Option Value)} {Q:Bool->Shared->Prop}
theorem YB (X:K.In h) (o1:K.lookup Bx=some ⟨.type "type",dd,.cls cd,sl⟩) (m1:W.mroIn K Bx (.type "BaseException")=some true) (he:h.get? e=some oe) (hc:oe.cls = .ref C) (m2:W.mroIn K C (.ref Bx)=some true)
  (hq:Q true ⟨h,g,d,t,os⟩):wpAny M A (excMatches (.ref e) (.ref Bx)) Q E ⟨h,g,d,t,os⟩:=by
 have hB:=X _ _ o1
 have L4:=W.looks_mroIn (M:=M) X m1
 have L5:=W.looks_mroIn (M:=M) X m2
 have f:=tc_notTuple
 unfold excMatches
 repeat (first |(with_reducible refine wpAny_loadPart_at he ?_;rw [hc]) |with_reducible refine wpAny_loadPart_at hB ?_ |with_reducible refine L4.at ?_ |with_reducible refine L5.at ?_ |wp_step)
 exact hq
end
def Yn (X:Cx) (pins:List (Addr×Obj)) (xe:Value->Shared->Prop):Cx:={ X with xe:=xe,pn:=X.pn++pins }
def suX (X:Cx) (ea:Addr):Cx:={ X with A:=X.A.mark (some (.ref ea)),calm:=false,xe:=fun _ _=>False }
abbrev qA3:HO := .ext fun _=>True
section
variable {X:Cx} {pins:List (Addr×Obj)} {σ:L2.St} {H:Hp} {s:Shared} {xe:Value->Shared->Prop}
theorem qDN (I:L2.Inv X pins σ H s):L2.Inv (Yn X pins xe) [] σ H s :=
 ⟨⟨I.ok.mod,I.ok.kind,I.ok.glob,I.ok.blt,I.ok.above,I.ok.inj,I.ok.has,I.ok.cab,I.ok.hd,I.ok.frames,I.ok.stk,I.ok.exf,I.ok.bs,I.ok.bsz,I.ok.noex,I.ok.exfs,I.ok.funs,I.ok.frf⟩,I.os,I.bare,I.base,I.loc,I.cell,I.free,I.freeC,
  fun p hp=>I.pin p (by simpa [Yn] using hp),I.hok,I.len,I.hnd⟩
theorem ww {pins':List (Addr×Obj)} (I:L2.Inv (Yn X pins xe) pins' σ H s):L2.Inv X pins σ H s :=
 ⟨⟨I.ok.mod,I.ok.kind,I.ok.glob,I.ok.blt,I.ok.above,I.ok.inj,I.ok.has,I.ok.cab,I.ok.hd,I.ok.frames,I.ok.stk,I.ok.exf,I.ok.bs,I.ok.bsz,I.ok.noex,I.ok.exfs,I.ok.funs,I.ok.frf⟩,I.os,I.bare,I.base,I.loc,I.cell,I.free,I.freeC,
  fun p hp=>I.pin p (List.mem_append_left _ hp),I.hok,I.len,I.hnd⟩
theorem qAs {D:Ends} {f:Flow} (q:SP (Yn X pins xe) [] D f s):SP X pins D f s:=by
 cases f with
 |next=>obtain ⟨a,b,c,d⟩:=q;exact ⟨a,b,ww c,d⟩
 |brk=>obtain ⟨a,b,c,d⟩:=q;exact ⟨a,b,ww c,d⟩
 |cont=>obtain ⟨a,b,c,d⟩:=q;exact ⟨a,b,ww c,d⟩
 |ret u=>obtain ⟨v,a,b,c,d⟩:=q;exact ⟨v,a,b,ww c,d⟩
theorem Jh (I:L2.Inv X pins σ H s) {ea:Addr} {oe:Obj} (hn:H ea=none) (ho:s.heap.get? ea=some oe) (h0:X.s₀.heap.get? ea=none) (hL:ea≠X.env.locals) (hC:∀ x c,X.env.cells.lookup x=some c->c≠ea) (hP:∀ p∈X.pn++pins,p.1≠ea) :
  L2.Inv X pins σ (upd H ea (.frz oe qA3)) s:=by
 have ne:∀ b u,H b=some u->b≠ea:=fun b u e z=>by rw [z,hn] at e;cases e
 have nb:∀ b o,X.s₀.heap.get? b=some o->b≠ea:=fun b o e z=>by rw [z,h0] at e;cases e
 refine ⟨I.ok,I.os,I.bare,⟨I.base.keep,I.base.slot,fun b o e n hx => ?_,I.base.there,fun b xs e => ?_,fun b o u e => ?_,fun b ps e => ?_⟩,I.loc,I.cell,?_,fun x c e => ?_,fun p hp => ?_,fun b u e => ?_,I.len,fun v hv => ?_⟩
 ·rw [qK (nb b o e)];exact I.base.free b o e n hx
 ·have:=I.base.tups b xs e;rw [qK (ne b _ this)];exact this
 ·have:=I.base.frzs b o u e;rw [qK (ne b _ this)];exact this
 ·obtain ⟨m,this⟩:=I.base.tbls b ps e;exact ⟨m,by rw [qK (ne b _ this)];exact this⟩
 ·rw [qK (Ne.symm hL)];exact I.free
 ·rw [qK (hC x c e)];exact I.freeC x c e
 ·obtain ⟨a,b,c,d⟩:=I.pin p hp
  exact ⟨a,by rw [qK (hP p hp)];exact b,c,d⟩
 ·by_cases hb:b=ea
  ·subst hb
   rw [qb] at e;cases e
   exact ⟨ho,trivial,⟨oe,ho⟩,fun _ _ z _=>z⟩
  ·rw [qK hb] at e
   exact (I.hok b u e).stay (fun _ _ _ z=>z) (fun c z=>by rw [qK (ne c _ z)];exact z) fun c xs z=>by rw [qK (ne c _ z)];exact z
 ·obtain ⟨a,o,u,vs,e1,e2,e3⟩:=I.hnd v hv
  exact ⟨a,o,u,vs,e1,by rw [qK (ne a _ e2)];exact e2,e3⟩
theorem J3 (I:L2.Inv X pins σ H s) {ea:Addr} {oe:Obj} {u:HO} {vs:Array Value} (h1:H ea=some (.frz oe u)) (h2:oe.data = .fields vs) (h3:vs[2]? = some Value.none):L2.Inv (suX X ea) pins σ H s :=
 ⟨⟨I.ok.mod,I.ok.kind,I.ok.glob,I.ok.blt,I.ok.above,I.ok.inj,I.ok.has,I.ok.cab,(fun z=>absurd (show false=true from z) Ag),I.ok.frames,I.ok.stk,I.ok.exf,I.ok.bs,I.ok.bsz,I.ok.noex,I.ok.exfs,I.ok.funs,I.ok.frf⟩,I.os,I.bare,I.base,I.loc,I.cell,I.free,I.freeC,
  I.pin,I.hok,I.len,fun v hv=>by
   have hv:some (Value.ref ea)=some v:=hv
   cases hv
   exact ⟨ea,oe,u,vs,rfl,h1,h2,h3⟩⟩
theorem YE {ea:Addr} (ok:X.Ok) (hc:X.calm=true) (I:L2.Inv (suX X ea) pins σ H s):L2.Inv X pins σ H s :=
 ⟨ok,I.os,I.bare,I.base,I.loc,I.cell,I.free,I.freeC,I.pin,I.hok,I.len,HndH.none (ok.hd hc)⟩
theorem qA9 (I:L2.Inv X pins σ H s) (hN:X.N.Nodup) {i:Nat} {n:Str} (hi:X.N[i]? = some n) {m:Str->Option Value} {v:Option Value} {h':Heap} {tk:Nat} (hm:∀ (j:Nat) (x:Str) (w:V),X.N[j]? = some x->σ[j]? = some (some w)->Vis X.env.scope x -> ∃ u,RelV w u∧qFo X.env s.heap m x u)
  (hn:h'.Ns X.env.locals (fun x=>if x=n then v else m x)) (hs:Heap.SameBut X.env.locals s.heap h'):L2.Inv X pins (σ.set i none) H { s with heap:=h',toks:=tk }:=by
 have cne:=I.cne
 refine ⟨I.ok,I.os,I.bare,⟨fun b o e n hb hx => ?_,fun b o e n hb hx => ?_,I.base.free,fun b o e hx => ?_,I.base.tups,I.base.frzs,I.base.tbls⟩,⟨_,hn,fun j y w e1 e2 e3 => ?_⟩,fun y c e => ?_,I.free,I.freeC,fun p hp => ?_,fun b ob e => ?_,by simpa using I.len,I.hnd⟩
 ·exact (hs.2 b (AZ (AY (AM e) I.ok.above))).trans (I.base.keep b o e n hb hx)
 ·obtain ⟨sl,e1⟩:=I.base.slot b o e n hb hx
  exact ⟨sl,(hs.2 b (AZ (AY (AM e) I.ok.above))).trans e1⟩
 ·obtain ⟨o',e1⟩:=I.base.there b o e hx
  exact ⟨o',(hs.2 b (AZ (AY (AM e) I.ok.above))).trans e1⟩
 ·have hj:j≠i:=fun z=>by
   subst z
   by_cases hl:j < σ.length
   ·rw [Ac hl] at e2;cases e2
   ·rw [List.getElem?_eq_none (by simpa using hl)] at e2;cases e2
  rw [Af (Ne.symm hj)] at e2
  obtain ⟨u,r,l⟩:=hm j y w e1 e2 e3
  refine ⟨u,r,?_⟩
  rcases l with ⟨k,l⟩ |⟨k,c,e,z⟩
  ·refine .inl ⟨k,?_⟩
   have:y≠n:=fun e=>hj (ZI hN e1 (e ▸ hi))
   simp [this,l]
  ·exact .inr ⟨k,c,e,z.sameBut hs (cne y c e)⟩
 ·obtain ⟨w',z⟩:=I.cell y c e
  exact ⟨w',z.sameBut hs (cne y c e)⟩
 ·obtain ⟨e,n,ne,nf,d⟩:=I.pin p hp
  exact ⟨(hs.2 p.1 ne).trans e,n,ne,nf,d⟩
 ·refine (I.hok b ob e).stay (fun c w' hc q=>(hs.2 c ?_).trans q) (fun _ q=>q) fun _ _ q=>q
  rintro rfl
  rcases hc with rfl |hc
  ·rw [I.free] at e;cases e
  ·rw [I.free] at hc;cases hc
def qGc (i k:Nat) (ok:Value->Prop) (tb:XK->TS) (th:TS):TS:=fun D σ H=>tb (fun cls dd H1=>ok cls ∧ ∀ (σ':L2.St) (ea:Addr) (oe:Obj),σ'.length=k->H1 ea=none->oe.cls=cls->oe.dict=dd->(∃ vs,oe.data = .fields vs) ->
 th { nx:=fun σ2 H2=>D.nx (σ2.set i none) H2,rt:=D.rt,bk:=fun σ2 H2=>D.bk (σ2.set i none) H2,ct:=fun σ2 H2=>D.ct (σ2.set i none) H2 } (σ'.set i (some (.ref ea))) (upd H1 ea (.frz oe qA3))) D σ H
structure FrameX (X:Cx):Prop where
 stk:X.stack=X.env::X.outer
 fr:X.env.frame=some X.env.locals
 ex:X.ex=[]
theorem got {P:Program} {w:World} {H:Hp} {h:Heap} {a:Addr} {o:HO} (x:ObjOk P w H h a o):∃ u,h.get? a=some u:=by
 cases o with
 |lst xs=>obtain ⟨_,_,_,_,e⟩:=x;exact ⟨_,e⟩
 |tup xs=>obtain ⟨_,_,_,⟨o,e,_⟩,_⟩:=x;exact ⟨_,e⟩
 |dK kvs=>obtain ⟨_,_,_,_,o,_,_,e,_⟩:=x;exact ⟨_,e⟩
 |dT kvs=>obtain ⟨_,_,_,_,o,_,_,e,_⟩:=x;exact ⟨_,e⟩
 |dN kvs=>obtain ⟨_,_,_,_,o,_,_,e,_⟩:=x;exact ⟨_,e⟩
 |set S n=>obtain ⟨o,_,_,_,e,_⟩:=x;exact ⟨_,e⟩
 |ins C dx fs=>obtain ⟨_,_,_,e,_⟩:=x;exact ⟨_,e⟩
 |own y=>exact x
 |xd fs=>obtain ⟨_,⟨_,_,_,e,_⟩,_⟩:=x;exact ⟨_,e⟩
 |rng lo hi=>obtain ⟨_,_,_,e⟩:=x;exact ⟨_,e⟩
 |frz ob u=>obtain ⟨e,_⟩:=x;exact ⟨_,e⟩
 |tbl ps=>exact ⟨_,x⟩
 |met f y=>exact ⟨_,x⟩
 |ext φ=>obtain ⟨_,e,_⟩:=x;exact e
theorem qEC {X:Cx} {x n:Str} {i:Nat} {Bx:Addr} {dd:Option Addr} {cd:ClassData} {sl:Array (Option Value)} {body:List Stmt} {b0:Stmt} {suite:List Stmt} {np hpos pos:Pos} {ok:Value->Prop} {tb:XK->TS} {th:TS} (FX:FrameX X) (hc:X.calm=true) (hN:X.N.Nodup) (hi:X.N[i]? = some n) (hl:X.env.scope.names.lookup n=some .local)
  (hg:Gl X x) (hm:X.mg x=some (.ref Bx)) (o1:X.K.lookup Bx=some ⟨.type "type",dd,.cls cd,sl⟩) (m1:W.mroIn X.K Bx (.type "BaseException")=some true) (hok:∀ v,ok v -> ∃ C,v = .ref C∧W.mroIn X.K C (.ref Bx)=some true)
  (hb:∀ (pins:List (Addr×Obj)) (xe:Value->Shared->Prop) (E':XK),WR (CXF X.prog X.w) (Yn X pins xe) E'->PSs (Yn X pins xe) body (tb E')) (hh:∀ ea,PSs (suX X ea) (b0::suite) th) (hdb:(x==("__debug__":Str))=false:=by decide) :
  PS X (.Try body [.ExceptHandler (some (.Name x np)) (some n) (b0::suite) hpos] [] [] pos) (qGc i X.N.length ok tb th):=by
 intro pins s σ H D I h
 refine wpAny_Try_except ?_
 generalize hE:(fun (cls:Value) (dd:Option Addr) (H1:Hp)=>ok cls ∧ ∀ (σ':L2.St) (ea:Addr) (oe:Obj),σ'.length=X.N.length->H1 ea=none->oe.cls=cls->oe.dict=dd->(∃ vs,oe.data = .fields vs) ->
  th { nx:=fun σ2 H2=>D.nx (σ2.set i none) H2,rt:=D.rt,bk:=fun σ2 H2=>D.bk (σ2.set i none) H2,ct:=fun σ2 H2=>D.ct (σ2.set i none) H2 } (σ'.set i (some (.ref ea))) (upd H1 ea (.frz oe qA3)))=E'
 have h:tb E' D σ H:=by rw [← hE];exact h
 refine A2 (hb pins _ E' ?_ [] s σ H D (qDN I) h) (fun f s1 q => ?_) fun e s1 q=>q
 rotate_left
 ·have q:=qAs q
  cases f with
  |next=>exact Bh q
  |brk=>exact q
  |cont=>exact q
  |ret u=>exact q
 ·intro pins' σ' H' s1 e s2 J c
  obtain ⟨ea,cls,d2,B,H1,rfl,fl,hok1,os,bare,un,sl1,qE⟩:=c
  have J':=ww J
  rw [← hE] at qE
  obtain ⟨q1,q2⟩:=qE
  obtain ⟨C,rfl,m2⟩:=hok cls q1
  have fr':X.A.frames=some (X.env::X.outer):=by rw [← FX.stk];exact I.ok.frames
  have fl':Fly B (X.env::X.outer) ea (.ref C) d2 .none s2.heap:=by rw [← FX.stk];exact fl
  have un:UnB (frs X.stack) H' H1 s1.heap B:=un
  have sl1:∀ b∈frs X.stack,∀ o,s1.heap.get? b=some o -> ∃ sl,s2.heap.get? b=some { o with slots:=sl }:=sl1
  have stk1:s1.heap.FunFrames X.base X.stack:=J'.stack
  have baseB:∀ b o,X.base.get? b=some o->B.get? b=some o:=fun b o z=>un.keep b o (J'.bs b o z).1 (J'.bs b o z).2 fun hm=>by rw [(stk1.mem hm).1] at z;cases z
  refine Zd (A:=X.A) fr' FX.fr fl' fun h4 x4 u4=>JH x4 fun h5 x5 u5 => ?_
  have ns5:h5.Ns X.env.globals X.mg:=by rw [I.ok.glob];exact I.mod.glob.keeps fun b o z=>x5.1 b o (baseB b o z)
  have k5:X.K.In h5:=I.ok.mod.kin.keeps fun b o z=>x5.1 b o (baseB b o z)
  obtain ⟨_,_,_,oe5,_,_,_,_,he5,hc5,_⟩:=id x5
  refine wpAny_handleBy_cons (codeAny_handlers_test (Calls.Name_function_global I.ok.kind hg (Calls.loadGlobal_global ns5 hm ?_) hdb)) (by intro q;cases q)
  refine YB k5 o1 m1 he5 hc5 m2 (codeAny_handlers_suite_as (JH x5 fun h6 x6 u6 => ?_))
  have u26:s2.heap.UpToSlots h6:=(u4.trans u5).trans u6
  obtain ⟨k1,k2,k3,oe,vs,T,oT,ts,g1,g2,g3,g4,g5,g6,g7⟩:=x6
  have nf:∀ b∈frs X.stack,∀ o,s1.heap.get? b=some o -> ∀ vs,o.data ≠ .fields vs:=fun b hb o z=>by
   obtain ⟨_,o2,ho2,nf⟩:=stk1.mem hb
   rw [z] at ho2;cases ho2;exact nf
  have slN:∀ b∈frs X.stack,∀ o,s1.heap.get? b=some o -> ∃ sl,h6.get? b=some { o with slots:=sl }:=fun b hb o z=>by
   obtain ⟨sl2,z2⟩:=sl1 b hb o z
   obtain ⟨sl3,z3⟩:=u26 b _ z2 (nf b hb o z)
   exact ⟨sl3,z3⟩
  have I6:L2.Inv X pins σ' H1 { s2 with heap:=h6 }:=J'.call' (s':={ s2 with heap:=h6 }) (ch:=[]) os (CXF.un (P:=X.prog) (w:=X.w) (s:=s1) (s':={ s2 with heap:=h6 }) k1 un slN) (hok1.kept k1) bare fun b z=>by cases z
  have neW:∀ b o,s1.heap.get? b=some o->b≠ea:=fun b o z hz=>by
   subst hz
   by_cases hb:b∈frs X.stack
   ·obtain ⟨sl2,z2⟩:=slN b hb o z
    rw [g1] at z2;cases z2
    exact nf b hb o z vs g4
   ·obtain ⟨o',z'⟩:=un.there b o z hb
    rw [k2] at z';cases z'
  have hn1:H1 ea=none:=by
   cases z:H1 ea with
   |none=>rfl
   |some u=>obtain ⟨o',z'⟩:=got (hok1 ea u z);rw [k2] at z';cases z'
  have I7:L2.Inv X pins σ' (upd H1 ea (.frz oe qA3)) { s2 with heap:=h6 }:=by
   refine Jh I6 hn1 g1 ?_ ?_ (fun x c z => ?_) fun p hp => ?_
   ·cases z:X.s₀.heap.get? ea with
    |none=>rfl
    |some o=>obtain ⟨o',z'⟩:=J'.base.there ea o z (by rw [FX.ex];simp);exact (neW ea o' z' rfl).elim
   ·obtain ⟨m,⟨o,_,_,z,_⟩,_⟩:=J'.loc
    exact Ne.symm (neW _ o z)
   ·obtain ⟨v,o,z',_⟩:=J'.cell x c z
    exact neW c o z'
   ·exact neW p.1 p.2 (J'.pin p hp).1
  have I8:=J3 I7 qb g4 g6
  refine wq (X:=suX X ea) (v := .ref ea) I8 hN hi (.inl hl) (show RelV (.ref ea) (.ref ea) from rfl) (fun s7 I9 => ?_) (.inr hl)
  have hlen:σ'.length=X.N.length:=J'.len
  refine wpAny_noRaise (thn (hh ea pins s7 _ _ _ I9 (q2 σ' ea oe hlen hn1 g2 g3 ⟨vs,g4⟩)) fun f s8 q => ?_)
  have hp:(X.env.scope.kind == .class || (X.env.scope.kind == .module&&X.env.locals != X.env.globals))=false:=by rw [I.ok.kind];rfl
  have goes:∀ {σ8:L2.St} {H8:Hp} {Q:Shared->Prop},L2.Inv (suX X ea) pins σ8 H8 s8->(∀ s9,L2.Inv X pins (σ8.set i none) H8 s9->Q s9)->wpAny (model X.prog X.w) X.A (do bindName X.env n .none;unbindBehindTheSuite X.env n hpos) (fun _ s9=>Q s9) X.xe s8:=fun {σ8 H8 Q} I8 hQ=>by
   have I9:=YE I.ok hc I8
   obtain ⟨m,hn,hl'⟩:=id I9.loc
   exact wpAny_nameGoes_keeps hl hn hp fun h9 v hn9 hs9=>hQ _ (qA9 I9 hN hi hl' hn9 hs9)
  cases f with
  |next=>obtain ⟨σ8,H8,I8,q8⟩:=q;exact goes I8 fun s9 I9=>⟨_,H8,I9,q8⟩
  |brk=>obtain ⟨σ8,H8,I8,q8⟩:=q;exact goes I8 fun s9 I9=>⟨_,H8,I9,q8⟩
  |cont=>obtain ⟨σ8,H8,I8,q8⟩:=q;exact goes I8 fun s9 I9=>⟨_,H8,I9,q8⟩
  |ret u=>obtain ⟨v,σ8,H8,I8,r8,q8⟩:=q;exact goes I8 fun s9 I9=>⟨v,_,H8,I9,r8,q8⟩
end
theorem qAO {K:W.Frag} {x D:Addr} (C:ExcK K D):W.KitX K (.ref x) (.ref D) (fun h => ∃ ox od,W.InstAt h x ox D od):=by
 obtain ⟨cd,hcd,_⟩:=Option.bind_eq_some_iff.mp (C.fo none)
 unfold W.clsIn at hcd
 split at hcd
 ·rename_i c' d' cd' sl' ho
  refine ⟨fun _ _ _ ⟨ox,od,I⟩=>I.type,fun M h X p => ?_,fun h tp dd its n sl X htp => ?_,fun {prog w A E Q s} X ⟨ox,od,I⟩ k=>qAE C X I k⟩
  ·intro A' Q' E' s' k q
   unfold isType loadHead
   exact AA (wpAny_loadPart (k _ _ (X _ _ ho)) (AB q))
  ·refine Bool.eq_false_iff.mpr fun q => ?_
   have e:D=tp:=Value.ref.inj (beq_iff_eq.mp q)
   subst e
   have z:=(X _ _ ho).symm.trans htp
   cases z
 ·cases hcd
end EX
end
section
namespace EV
open PySem PySem.Spec PyProof.Rows L2
inductive PV where
 |non |bl (b:Bool) |int (i:Int) |str (x:Str) |tup (l:List PV) |lst (l:List PV) |ref (i:Nat) |dct |ty (n:String) |fn (a:Addr) |exc (c:Addr) (fs:List (Str×Int))
inductive SO where
 |l (xs:List PV)
 |d (kvs:List (List L2.Key×PV))
 |z (kvs:List (List L2.Key×PV))
 |k (kvs:List (L2.Key×PV))
 |y (kvs:List (L2.Key×PV))
 |n (kvs:List (List (List L2.Key)×PV))
 |w (kvs:List (List (List L2.Key)×PV))
 |o (C:Addr) (fs:List (Str×PV))
abbrev qC:=List SO
structure Exc where
 cls:Addr
 fs:List (Str×Int)
inductive Rs (α:Type) where
 |ok (a:α) (st:qC) |ex (x:Exc) (st:qC) |no
def Rs.bind {α β:Type} (r:Rs α) (k:α->qC->Rs β):Rs β:=match r with
 | .ok a st=>k a st
 | .ex x st => .ex x st
 | .no => .no
abbrev ql:=List (Option PV)
abbrev FE:=ql->qC->Rs PV
abbrev FA:=ql->qC->Rs (List PV)
abbrev FT:=ql->qC->Rs Bool
inductive RS where
 |nx (e:ql) (st:qC) |rt (v:PV) (st:qC) |bk (e:ql) (st:qC) |ct (e:ql) (st:qC) |ex (x:Exc) (st:qC) |no
abbrev FS:=ql->qC->RS
structure Bz where
 b:List Addr
 z:List Addr
def Bz.out (b:Bz) (a:Addr):Prop:=a ∉ b.b∧a ∉ b.z
def KL (K:W.Frag) (a:Addr) (xs:List V):Prop :=
 ∃ (o:Obj) (its:Array Value) (n:Nat),K.lookup a=some o∧o.cls = .type "list" ∧ o.dict=none∧o.data = .seq its n∧its.size≤sizeLine∧Vals xs its.toList
def KT0 (K:W.Frag) (a:Addr) (xs:List V):Prop :=
 ∃ (o:Obj) (its:Array Value) (n:Nat),K.lookup a=some o∧o.cls = .type "tuple" ∧ o.data = .seq its n∧its.size≤sizeLine∧Vals xs its.toList
def KT (K:W.Frag) (a:Addr) (xs:List V):Prop:=KT0 K a xs∧False
def LA (K:W.Frag) (H:Hp) (b:Bz) (a:Addr) (xs:List V):Prop:=(Rd H a (.lst xs)∧b.out a)∨KL K a xs
def TA' (K:W.Frag) (H:Hp) (b:Bz) (a:Addr) (xs:List V):Prop:=(H a=some (.tup xs)∧b.out a)∨KT K a xs
mutual
def RV (K:W.Frag) (H:Hp) (b:Bz):PV->V->Prop
 | .non,v=>v = .non
 | .bl x,v=>v = .bl x
 | .int i,v=>v = .int i
 | .str x,v=>v = .str x
 | .tup l,v => ∃ a xs,v = .ref a∧TA' K H b a xs∧RVs K H b l xs
 | .lst l,v => ∃ a xs,v = .ref a∧LA K H b a xs∧RVs K H b l xs
 | .ref i,v => ∃ a,v = .ref a∧b.b[i]? = some a
 | .dct,v => ∃ a,v = .ref a∧H a=some (.dK [])∧b.out a
 | .ty n,v=>v = .ty n
 | .fn a,v=>v = .ref a
 | .exc c fs,v => ∃ a o u,v = .ref a∧H a=some (.frz o u)∧b.out a∧o.cls = .ref c∧(∃ vs,o.data = .fields vs)∧((fs=[]∧o.dict=none) ∨ ∃ d,o.dict=some d∧H d=some (.xd (fs.map fun p=>(p.1,V.int p.2)))∧b.out d)
def RVs (K:W.Frag) (H:Hp) (b:Bz):List PV->List V->Prop
 |[],xs=>xs=[]
 |p::ps,xs => ∃ x r,xs=x::r∧RV K H b p x∧RVs K H b ps r
end
def SOk (K:W.Frag) (H:Hp) (b:Bz):SO->HO->Prop
 | .l xs,o => ∃ vs,o = .lst vs∧RVs K H b xs vs
 | .d kvs,o => ∃ vs,o = .dT vs∧kvs.map (·.1)=vs.map (·.1)∧RVs K H b (kvs.map (·.2)) (vs.map (·.2))
 | .z kvs,o => ∃ od vs,o = .frz od (.dT vs)∧kvs.map (·.1)=vs.map (·.1)∧RVs K H b (kvs.map (·.2)) (vs.map (·.2))
 | .k kvs,o => ∃ vs,o = .dK vs∧kvs.map (·.1)=vs.map (·.1)∧RVs K H b (kvs.map (·.2)) (vs.map (·.2))
 | .y kvs,o => ∃ od vs,o = .frz od (.dK vs)∧kvs.map (·.1)=vs.map (·.1)∧RVs K H b (kvs.map (·.2)) (vs.map (·.2))
 | .n kvs,o => ∃ vs,o = .dN vs∧kvs.map (·.1)=vs.map (·.1)∧RVs K H b (kvs.map (·.2)) (vs.map (·.2))
 | .w kvs,o => ∃ od vs,o = .frz od (.dN vs)∧kvs.map (·.1)=vs.map (·.1)∧RVs K H b (kvs.map (·.2)) (vs.map (·.2))
 | .o C fs,o => ∃ dx vs,o = .ins C dx vs∧fs.map (·.1)=vs.map (·.1)∧RVs K H b (fs.map (·.2)) (vs.map (·.2))
structure SR (K:W.Frag) (H:Hp) (b:Bz) (st:qC):Prop where
 len:b.b.length=st.length
 nd:b.b.Nodup
 at_:∀ (i:Nat) (x:SO),st[i]? = some x -> ∃ a o,b.b[i]? = some a∧H a=some o∧SOk K H b x o
 zo:∀ a∈b.z,∃ xs,H a=some (.lst xs)
 zb:∀ a∈b.z,a ∉ b.b
structure WE (H:Hp) (b:Bz) (H':Hp) (b':Bz):Prop where
 more:∃ n,b'.b=b.b++n ∧ ∀ a∈n,H a=none
 zm:∃ y,b'.z=y++b.z ∧ ∀ a∈y,H a=none
 keep:∀ a o,H a=some o->b.out a->H' a=some o
 dom:∀ a o,H a=some o -> ∃ o',H' a=some o'
theorem WE.refl (H:Hp) (b:Bz):WE H b H b:=⟨⟨[],by simp,by simp⟩,⟨[],rfl,by simp⟩,fun _ _ h _=>h,fun _ o h=>⟨o,h⟩⟩
theorem WE.none_of {H H':Hp} {b b':Bz} (e:WE H b H' b') {a:Addr} (h:H' a=none):H a=none:=by
 cases q:H a with
 |none=>rfl
 |some o=>obtain ⟨o',e'⟩:=e.dom a o q;rw [h] at e';cases e'
theorem WE.not_in {H H':Hp} {b b':Bz} (e:WE H b H' b') {a:Addr} {o:HO} (h:H a=some o) (hn:b.out a):b'.out a:=by
 obtain ⟨n,hb,hh⟩:=e.more
 obtain ⟨y,hz,hy⟩:=e.zm
 refine ⟨fun hm => ?_,fun hm => ?_⟩
 ·rw [hb] at hm
  rcases A1.mp hm with hm |hm
  ·exact hn.1 hm
  ·rw [hh a hm] at h;cases h
 ·rw [hz] at hm
  rcases A1.mp hm with hm |hm
  ·rw [hy a hm] at h;cases h
  ·exact hn.2 hm
theorem WE.trans {H H1 H2:Hp} {b b1 b2:Bz} (e:WE H b H1 b1) (f:WE H1 b1 H2 b2):WE H b H2 b2:=by
 obtain ⟨n,hn,hh⟩:=e.more
 obtain ⟨m,hm,hk⟩:=f.more
 obtain ⟨y,hz,hy⟩:=e.zm
 obtain ⟨x,hx,hw⟩:=f.zm
 refine ⟨⟨n++m,by rw [hm,hn,Aj],fun a ha => ?_⟩,⟨x++y,by rw [hx,hz,Aj],fun a ha => ?_⟩,fun a o h hb=>f.keep a o (e.keep a o h hb) (e.not_in h hb),fun a o h => ?_⟩
 ·rcases A1.mp ha with ha |ha
  ·exact hh a ha
  ·exact e.none_of (hk a ha)
 ·rcases A1.mp ha with ha |ha
  ·exact e.none_of (hw a ha)
  ·exact hy a ha
 ·obtain ⟨o',h'⟩:=e.dom a o h
  exact f.dom a o' h'
theorem WE.ix {H H':Hp} {b b':Bz} (e:WE H b H' b') {i:Nat} {a:Addr} (h:b.b[i]? = some a):b'.b[i]? = some a:=by
 obtain ⟨n,hb,_⟩:=e.more
 have hi:i < b.b.length:=(AG.mp h).1
 rw [hb,AT hi];exact h
theorem WE.new {H:Hp} {b:Bz} {p:Addr} {o:HO} (h:H p=none):WE H b (upd H p o) b :=
 ⟨⟨[],by simp,by simp⟩,⟨[],rfl,by simp⟩,fun a u e _=>by rw [qK (qM e h)];exact e,fun a u e=>⟨u,by rw [qK (qM e h)];exact e⟩⟩
theorem WE.hide {H:Hp} {b:Bz} {p:Addr} {o:HO} (h:H p=none):WE H b (upd H p o) ⟨b.b,p::b.z⟩ :=
 ⟨⟨[],by simp,by simp⟩,⟨[p],rfl,fun a ha=>by rw [An.mp ha];exact h⟩,fun a u e _=>by rw [qK (qM e h)];exact e,fun a u e=>⟨u,by rw [qK (qM e h)];exact e⟩⟩
theorem WE.wr {H:Hp} {b:Bz} {p:Addr} {o:HO} (h:p∈b.b∨p∈b.z):WE H b (upd H p o) b :=
 ⟨⟨[],by simp,by simp⟩,⟨[],rfl,by simp⟩,fun a u e hb=>by rw [qK (fun z=>h.elim (fun q=>hb.1 (by rw [z];exact q)) fun q=>hb.2 (by rw [z];exact q))];exact e,fun a u e=>by
  by_cases hz:a=p
  ·exact ⟨o,by rw [hz];exact qb⟩
  ·exact ⟨u,by rw [qK hz];exact e⟩⟩
theorem Rd.some_of {H:Hp} {a:Addr} {u:HO} (h:Rd H a u):∃ o,H a=some o:=h.elim (fun h=>⟨_,h⟩) fun ⟨_,h⟩=>⟨_,h⟩
theorem Rd.wext {H H':Hp} {b b':Bz} {a:Addr} {u:HO} (e:WE H b H' b') (h:Rd H a u∧b.out a):Rd H' a u∧b'.out a:=by
 obtain ⟨o,ho⟩:=Rd.some_of h.1
 refine ⟨?_,e.not_in ho h.2⟩
 rcases h.1 with q |⟨o',q⟩
 ·exact .inl (e.keep _ _ q h.2)
 ·exact .inr ⟨o',e.keep _ _ q h.2⟩
theorem LA.wext {K:W.Frag} {H H':Hp} {b b':Bz} {a:Addr} {xs:List V} (e:WE H b H' b') (h:LA K H b a xs):LA K H' b' a xs:=h.elim (fun h => .inl (Rd.wext e h)) .inr
theorem TA'.wext {K:W.Frag} {H H':Hp} {b b':Bz} {a:Addr} {xs:List V} (e:WE H b H' b') (h:TA' K H b a xs):TA' K H' b' a xs:=h.elim (fun h => .inl ⟨e.keep _ _ h.1 h.2,e.not_in h.1 h.2⟩) .inr
theorem LA.sq {K:W.Frag} {H:Hp} {b:Bz} {a:Addr} {xs:List V} (h:LA K H b a xs):SqL K H a xs:=h.elim (fun h => .inl h.1) .inr
theorem TA'.sq {K:W.Frag} {H:Hp} {b:Bz} {a:Addr} {xs:List V} (h:TA' K H b a xs):SqT K H a xs:=h.elim (fun h => .inl (.inl h.1)) fun h => .inr h.1
mutual
theorem RV.wext {K:W.Frag} {H H':Hp} {b b':Bz} (e:WE H b H' b'):∀ (p:PV) {v:V},RV K H b p v->RV K H' b' p v
 | .non,_,h=>by unfold RV at h ⊢;exact h
 | .bl _,_,h=>by unfold RV at h ⊢;exact h
 | .int _,_,h=>by unfold RV at h ⊢;exact h
 | .str _,_,h=>by unfold RV at h ⊢;exact h
 | .tup l,_,h=>by
  unfold RV at h ⊢
  obtain ⟨a,xs,h1,h2,h3⟩:=h
  exact ⟨a,xs,h1,h2.wext e,RVs.wext e l h3⟩
 | .lst l,_,h=>by
  unfold RV at h ⊢
  obtain ⟨a,xs,h1,h2,h3⟩:=h
  exact ⟨a,xs,h1,h2.wext e,RVs.wext e l h3⟩
 | .ref i,_,h=>by
  unfold RV at h ⊢
  obtain ⟨a,h1,h2⟩:=h
  exact ⟨a,h1,e.ix h2⟩
 | .ty _,_,h=>by unfold RV at h ⊢;exact h
 | .fn _,_,h=>by unfold RV at h ⊢;exact h
 | .exc _ _,_,h=>by
  unfold RV at h ⊢
  obtain ⟨a,o,u,h1,h2,h3,h4,h6,h5⟩:=h
  exact ⟨a,o,u,h1,e.keep _ _ h2 h3,e.not_in h2 h3,h4,h6,h5.imp id fun ⟨d,q1,q2,q3⟩=>⟨d,q1,e.keep _ _ q2 q3,e.not_in q2 q3⟩⟩
 | .dct,_,h=>by
  unfold RV at h ⊢
  obtain ⟨a,h1,h2,h3⟩:=h
  exact ⟨a,h1,e.keep _ _ h2 h3,e.not_in h2 h3⟩
theorem RVs.wext {K:W.Frag} {H H':Hp} {b b':Bz} (e:WE H b H' b'):∀ (l:List PV) {xs:List V},RVs K H b l xs->RVs K H' b' l xs
 |[],_,h=>by unfold RVs at h ⊢;exact h
 |p::ps,_,h=>by
  unfold RVs at h ⊢
  obtain ⟨x,r,h1,h2,h3⟩:=h
  exact ⟨x,r,h1,RV.wext e p h2,RVs.wext e ps h3⟩
end
structure Ext (H:Hp) (b:Bz) (H':Hp) (b':Bz):Prop extends WE H b H' b' where
 same:b'.z=b.z
 hid:∀ a o,a∈b.z->H a=some o->H' a=some o
 fz:∀ a o u,H a=some (.frz o u)->H' a=some (.frz o u)
theorem Ext.refl (H:Hp) (b:Bz):Ext H b H b:=⟨WE.refl H b,rfl,fun _ _ _ h=>h,fun _ _ _ h=>h⟩
theorem Ext.none_of {H H':Hp} {b b':Bz} (e:Ext H b H' b') {a:Addr} (h:H' a=none):H a=none:=e.toWE.none_of h
theorem Ext.trans {H H1 H2:Hp} {b b1 b2:Bz} (e:Ext H b H1 b1) (f:Ext H1 b1 H2 b2):Ext H b H2 b2:=⟨e.toWE.trans f.toWE,f.same.trans e.same,fun a o ha h=>f.hid a o (by rw [e.same];exact ha) (e.hid a o ha h),fun a o u h=>f.fz a o u (e.fz a o u h)⟩
theorem Ext.ix {H H':Hp} {b b':Bz} (e:Ext H b H' b') {i:Nat} {a:Addr} (h:b.b[i]? = some a):b'.b[i]? = some a:=e.toWE.ix h
theorem Ext.new {H:Hp} {b:Bz} {p:Addr} {o:HO} (h:H p=none):Ext H b (upd H p o) b:=⟨WE.new h,rfl,fun a u _ e=>by rw [qK (qM e h)];exact e,fun a u _ e=>by rw [qK (qM e h)];exact e⟩
theorem Ext.wr {H:Hp} {b:Bz} {p:Addr} {o:HO} (h:p∈b.b) (hz:∀ a∈b.z,a ∉ b.b) (hf:∀ o u,H p≠some (.frz o u)):Ext H b (upd H p o) b:=⟨WE.wr (.inl h),rfl,fun a u ha e=>by rw [qK (fun z=>hz a ha (by rw [z];exact h))];exact e,fun a u v e=>by rw [qK (fun z=>hf u v (by rw [← z];exact e))];exact e⟩
theorem nfz {H:Hp} {p:Addr} {u:HO} (h:H p=some u) (hu:∀ o v,u ≠ .frz o v):∀ o v,H p≠some (.frz o v):=fun o v z=>by rw [h] at z;cases z;exact hu _ _ rfl
theorem qF0 {H:Hp} {p:Addr} {xs:List V} (h:H p=some (.lst xs)):∀ o v,H p≠some (.frz o v):=nfz h fun _ _ z=>nomatch z
theorem Ext.of_same {H H':Hp} {b:Bz} (h:Same H H'):Ext H b H' b:=⟨⟨⟨[],by simp,by simp⟩,⟨[],rfl,by simp⟩,fun a o e _=>h a o e,fun a o e=>⟨o,h a o e⟩⟩,rfl,fun a o _ e=>h a o e,fun a o u e=>h a _ e⟩
theorem RV.ext {K:W.Frag} {H H':Hp} {b b':Bz} (e:Ext H b H' b') (p:PV) {v:V} (h:RV K H b p v):RV K H' b' p v:=RV.wext e.toWE p h
theorem RVs.ext {K:W.Frag} {H H':Hp} {b b':Bz} (e:Ext H b H' b') (l:List PV) {xs:List V} (h:RVs K H b l xs):RVs K H' b' l xs:=RVs.wext e.toWE l h
theorem RVs.length {K:W.Frag} {H:Hp} {b:Bz}:∀ {l:List PV} {xs:List V},RVs K H b l xs->l.length=xs.length
 |[],_,h=>by unfold RVs at h;rw [h];rfl
 |p::ps,_,h=>by
  unfold RVs at h
  obtain ⟨x,r,rfl,_,h3⟩:=h
  rw [Ae,Ae,RVs.length h3]
theorem RVs.nil {K:W.Frag} {H:Hp} {b:Bz}:RVs K H b [] []:=by unfold RVs;rfl
theorem RVs.cons {K:W.Frag} {H:Hp} {b:Bz} {p:PV} {ps:List PV} {x:V} {r:List V} (h:RV K H b p x) (t:RVs K H b ps r):RVs K H b (p::ps) (x::r):=by
 unfold RVs;exact ⟨x,r,rfl,h,t⟩
theorem RVs.get {K:W.Frag} {H:Hp} {b:Bz}:∀ {l:List PV} {xs:List V} {i:Nat} {p:PV},RVs K H b l xs->l[i]? = some p -> ∃ x,xs[i]? = some x∧RV K H b p x
 |[],_,_,_,_,h=>by simp at h
 |q::ps,_,0,p,r,h=>by
  unfold RVs at r
  obtain ⟨x,t,rfl,h2,h3⟩:=r
  simp at h;subst h
  exact ⟨x,rfl,h2⟩
 |q::ps,_,i + 1,p,r,h=>by
  unfold RVs at r
  obtain ⟨x,t,rfl,h2,h3⟩:=r
  obtain ⟨y,e,hy⟩:=RVs.get (i:=i) h3 (by simpa using h)
  exact ⟨y,by simpa using e,hy⟩
theorem RVs.append {K:W.Frag} {H:Hp} {b:Bz}:∀ {l m:List PV} {xs ys:List V},RVs K H b l xs->RVs K H b m ys->RVs K H b (l++m) (xs++ys)
 |[],_,_,_,h,g=>by unfold RVs at h;subst h;exact g
 |p::ps,_,_,_,h,g=>by
  unfold RVs at h
  obtain ⟨x,r,rfl,h2,h3⟩:=h
  exact RVs.cons h2 (RVs.append h3 g)
theorem RVs.take {K:W.Frag} {H:Hp} {b:Bz}:∀ {l:List PV} {xs:List V} (n:Nat),RVs K H b l xs->RVs K H b (l.take n) (xs.take n)
 |_,_,0,_=>RVs.nil
 |[],_,_ + 1,h=>by unfold RVs at h;subst h;exact RVs.nil
 |p::ps,_,n + 1,h=>by
  unfold RVs at h
  obtain ⟨x,r,rfl,h2,h3⟩:=h
  exact RVs.cons h2 (RVs.take n h3)
theorem RVs.drop {K:W.Frag} {H:Hp} {b:Bz}:∀ {l:List PV} {xs:List V} (n:Nat),RVs K H b l xs->RVs K H b (l.drop n) (xs.drop n)
 |_,_,0,h=>h
 |[],_,_ + 1,h=>by unfold RVs at h;subst h;exact RVs.nil
 |p::ps,_,n + 1,h=>by
  unfold RVs at h
  obtain ⟨x,r,rfl,h2,h3⟩:=h
  exact RVs.drop n h3
theorem RVs.set {K:W.Frag} {H:Hp} {b:Bz} {p:PV} {x:V} (hp:RV K H b p x):∀ {l:List PV} {xs:List V} (n:Nat),RVs K H b l xs->RVs K H b (l.set n p) (xs.set n x)
 |[],_,_,h=>by unfold RVs at h;subst h;exact RVs.nil
 |q::ps,_,0,h=>by
  unfold RVs at h
  obtain ⟨y,r,rfl,h2,h3⟩:=h
  exact RVs.cons hp h3
 |q::ps,_,n + 1,h=>by
  unfold RVs at h
  obtain ⟨y,r,rfl,h2,h3⟩:=h
  exact RVs.cons h2 (RVs.set hp n h3)
theorem SOk.wext {K:W.Frag} {H H':Hp} {b b':Bz} (e:WE H b H' b'):∀ {x:SO} {o:HO},SOk K H b x o->SOk K H' b' x o
 | .l xs,_,⟨vs,h,r⟩=>⟨vs,h,RVs.wext e xs r⟩
 | .d kvs,_,⟨vs,h,q,r⟩=>⟨vs,h,q,RVs.wext e _ r⟩
 | .z kvs,_,⟨od,vs,h,q,r⟩=>⟨od,vs,h,q,RVs.wext e _ r⟩
 | .k kvs,_,⟨vs,h,q,r⟩=>⟨vs,h,q,RVs.wext e _ r⟩
 | .y kvs,_,⟨od,vs,h,q,r⟩=>⟨od,vs,h,q,RVs.wext e _ r⟩
 | .n kvs,_,⟨vs,h,q,r⟩=>⟨vs,h,q,RVs.wext e _ r⟩
 | .w kvs,_,⟨od,vs,h,q,r⟩=>⟨od,vs,h,q,RVs.wext e _ r⟩
 | .o C fs,_,⟨dx,vs,h,q,r⟩=>⟨dx,vs,h,q,RVs.wext e _ r⟩
theorem SOk.ext {K:W.Frag} {H H':Hp} {b b':Bz} (e:Ext H b H' b') {x:SO} {o:HO} (h:SOk K H b x o):SOk K H' b' x o:=h.wext e.toWE
theorem SR.mem {K:W.Frag} {H:Hp} {b:Bz} {st:qC} (S:SR K H b st) {a:Addr} (h:a∈b.b):∃ o,H a=some o:=by
 obtain ⟨i,hi⟩:=BZ h
 have hl:i < b.b.length:=(AG.mp hi).1
 have hs:st[i]? = some (st[i]'(by rw [← S.len];exact hl)):=AJ _
 obtain ⟨a',o,h1,h2,_⟩:=S.at_ i _ hs
 rw [hi] at h1;cases h1
 exact ⟨o,h2⟩
theorem SR.new_notin {K:W.Frag} {H:Hp} {b:Bz} {st:qC} (S:SR K H b st) {p:Addr} (h:H p=none):b.out p :=
 ⟨fun hm=>(by obtain ⟨o,e⟩:=S.mem hm;rw [h] at e;cases e),fun hm=>(by obtain ⟨o,e⟩:=S.zo p hm;rw [h] at e;cases e)⟩
theorem SR.new {K:W.Frag} {H:Hp} {b:Bz} {st:qC} (S:SR K H b st) {p:Addr} {o:HO} (h:H p=none):SR K (upd H p o) b st :=
 ⟨S.len,S.nd,fun i x hx=>by
  obtain ⟨a,u,h1,h2,h3⟩:=S.at_ i x hx
  exact ⟨a,u,h1,by rw [qK (qM h2 h)];exact h2,h3.ext (Ext.new h)⟩,fun a ha=>by
  obtain ⟨u,e⟩:=S.zo a ha
  exact ⟨u,by rw [qK (qM e h)];exact e⟩,S.zb⟩
theorem qGJ {b:List Addr} (nd:b.Nodup) {i j:Nat} {x:Addr} (h1:b[i]? = some x) (h2:b[j]? = some x):i=j:=by
 obtain ⟨hi,e1⟩:=AG.mp h1
 obtain ⟨hj,e2⟩:=AG.mp h2
 exact (List.getElem_inj nd).mp (e1.trans e2.symm)
theorem SR.wr {K:W.Frag} {H:Hp} {b:Bz} {st:qC} (S:SR K H b st) {i:Nat} {p:Addr} {x:SO} {o:HO} (hp:b.b[i]? = some p) (hx:SOk K (upd H p o) b x o):SR K (upd H p o) b (st.set i x):=by
 have hm:p∈b.b:=Am hp
 refine ⟨by simp [S.len],S.nd,fun j y hy => ?_,fun a ha => ?_,S.zb⟩
 ·have hl:i < b.b.length:=(AG.mp hp).1
  by_cases hj:j=i
  ·subst hj
   rw [Ac (by rw [← S.len];exact hl)] at hy
   cases hy
   exact ⟨p,o,hp,qb,hx⟩
  ·rw [Af (Ne.symm hj)] at hy
   obtain ⟨a,u,h1,h2,h3⟩:=S.at_ j y hy
   have hne:a≠p:=fun z=>hj (by subst z;exact qGJ S.nd h1 hp)
   exact ⟨a,u,h1,by rw [qK hne];exact h2,h3.wext (WE.wr (.inl hm))⟩
 ·obtain ⟨u,e⟩:=S.zo a ha
  have hz:a≠p:=fun z=>S.zb a ha (by rw [z];exact hm)
  exact ⟨u,by rw [qK hz];exact e⟩
theorem SR.wrz {K:W.Frag} {H:Hp} {b:Bz} {st:qC} (S:SR K H b st) {p:Addr} {ys:List V} (hp:p∈b.z):SR K (upd H p (.lst ys)) b st:=by
 refine ⟨S.len,S.nd,fun j y hy => ?_,fun a ha => ?_,S.zb⟩
 ·obtain ⟨a,u,h1,h2,h3⟩:=S.at_ j y hy
  have hne:a≠p:=fun z=>by subst z;exact S.zb a hp (Am h1)
  exact ⟨a,u,h1,by rw [qK hne];exact h2,h3.wext (WE.wr (.inr hp))⟩
 ·obtain ⟨u,e⟩:=S.zo a ha
  by_cases hz:a=p
  ·exact ⟨ys,by rw [hz];exact qb⟩
  ·exact ⟨u,by rw [qK hz];exact e⟩
structure Sh (b b':Bz):Prop where
 ix:∀ (i:Nat) (a:Addr),b.b[i]? = some a->b'.b[i]? = some a
 out:∀ a,b.out a->b'.out a
mutual
theorem RV.sh {K:W.Frag} {H:Hp} {b b':Bz} (e:Sh b b'):∀ (p:PV) {v:V},RV K H b p v->RV K H b' p v
 | .non,_,h=>by unfold RV at h ⊢;exact h
 | .bl _,_,h=>by unfold RV at h ⊢;exact h
 | .int _,_,h=>by unfold RV at h ⊢;exact h
 | .str _,_,h=>by unfold RV at h ⊢;exact h
 | .tup l,_,h=>by
  unfold RV at h ⊢
  obtain ⟨a,xs,h1,h2,h3⟩:=h
  exact ⟨a,xs,h1,h2.elim (fun q => .inl ⟨q.1,e.out a q.2⟩) .inr,RVs.sh e l h3⟩
 | .lst l,_,h=>by
  unfold RV at h ⊢
  obtain ⟨a,xs,h1,h2,h3⟩:=h
  exact ⟨a,xs,h1,h2.elim (fun q => .inl ⟨q.1,e.out a q.2⟩) .inr,RVs.sh e l h3⟩
 | .ref i,_,h=>by
  unfold RV at h ⊢
  obtain ⟨a,h1,h2⟩:=h
  exact ⟨a,h1,e.ix i a h2⟩
 | .ty _,_,h=>by unfold RV at h ⊢;exact h
 | .fn _,_,h=>by unfold RV at h ⊢;exact h
 | .exc _ _,_,h=>by
  unfold RV at h ⊢
  obtain ⟨a,o,u,h1,h2,h3,h4,h6,h5⟩:=h
  exact ⟨a,o,u,h1,h2,e.out a h3,h4,h6,h5.imp id fun ⟨d,q1,q2,q3⟩=>⟨d,q1,q2,e.out d q3⟩⟩
 | .dct,_,h=>by
  unfold RV at h ⊢
  obtain ⟨a,h1,h2,h3⟩:=h
  exact ⟨a,h1,h2,e.out a h3⟩
theorem RVs.sh {K:W.Frag} {H:Hp} {b b':Bz} (e:Sh b b'):∀ (l:List PV) {xs:List V},RVs K H b l xs->RVs K H b' l xs
 |[],_,h=>by unfold RVs at h ⊢;exact h
 |p::ps,_,h=>by
  unfold RVs at h ⊢
  obtain ⟨x,r,h1,h2,h3⟩:=h
  exact ⟨x,r,h1,RV.sh e p h2,RVs.sh e ps h3⟩
end
theorem SOk.sh {K:W.Frag} {H:Hp} {b b':Bz} (e:Sh b b'):∀ {x:SO} {o:HO},SOk K H b x o->SOk K H b' x o
 | .l xs,_,⟨vs,h,r⟩=>⟨vs,h,RVs.sh e xs r⟩
 | .d kvs,_,⟨vs,h,q,r⟩=>⟨vs,h,q,RVs.sh e _ r⟩
 | .z kvs,_,⟨od,vs,h,q,r⟩=>⟨od,vs,h,q,RVs.sh e _ r⟩
 | .k kvs,_,⟨vs,h,q,r⟩=>⟨vs,h,q,RVs.sh e _ r⟩
 | .y kvs,_,⟨od,vs,h,q,r⟩=>⟨od,vs,h,q,RVs.sh e _ r⟩
 | .n kvs,_,⟨vs,h,q,r⟩=>⟨vs,h,q,RVs.sh e _ r⟩
 | .w kvs,_,⟨od,vs,h,q,r⟩=>⟨od,vs,h,q,RVs.sh e _ r⟩
 | .o C fs,_,⟨dx,vs,h,q,r⟩=>⟨dx,vs,h,q,RVs.sh e _ r⟩
theorem Sh.bare {b:List Addr} {p:Addr} {z:List Addr}:Sh ⟨b,p::z⟩ ⟨b,z⟩:=⟨fun _ _ h=>h,fun a h=>⟨h.1,fun q=>h.2 (AD _ q)⟩⟩
theorem Sh.slot {b:List Addr} {p:Addr} {z:List Addr}:Sh ⟨b,p::z⟩ ⟨b++[p],z⟩:=⟨fun i a h=>by
  rw [AT (AG.mp h).1];exact h,fun a h=>⟨fun q=>(A1.mp q).elim h.1 fun q=>h.2 (by rw [An.mp q];exact AF),fun q=>h.2 (AD _ q)⟩⟩
theorem RV.hide {K:W.Frag} {H:Hp} {b z:List Addr} {p:Addr} {o:HO} (hp:H p=none) (q:PV) {v:V} (h:RV K H ⟨b,z⟩ q v):RV K (upd H p o) ⟨b,p::z⟩ q v:=hd q h
where
 outp {a:Addr} {u:HO} (e:H a=some u) (h:Bz.out ⟨b,z⟩ a):Bz.out ⟨b,p::z⟩ a:=⟨h.1,fun q=>(AL.mp q).elim (fun q=>by subst q;rw [hp] at e;cases e) h.2⟩
 rdd {a:Addr} {u:HO} (h:Rd H a u∧Bz.out ⟨b,z⟩ a):Rd (upd H p o) a u∧Bz.out ⟨b,p::z⟩ a:=by
  obtain ⟨w,hw⟩:=Rd.some_of h.1
  refine ⟨?_,outp hw h.2⟩
  rcases h.1 with q |⟨o',q⟩
  ·exact .inl (by rw [qK (qM q hp)];exact q)
  ·exact .inr ⟨o',by rw [qK (qM q hp)];exact q⟩
 hd:∀ (q:PV) {v:V},RV K H ⟨b,z⟩ q v->RV K (upd H p o) ⟨b,p::z⟩ q v
 | .non,_,h=>by unfold RV at h ⊢;exact h
 | .bl _,_,h=>by unfold RV at h ⊢;exact h
 | .int _,_,h=>by unfold RV at h ⊢;exact h
 | .str _,_,h=>by unfold RV at h ⊢;exact h
 | .tup l,_,h=>by
  unfold RV at h ⊢
  obtain ⟨a,xs,h1,h2,h3⟩:=h
  exact ⟨a,xs,h1,h2.elim (fun q => .inl ⟨by rw [qK (qM q.1 hp)];exact q.1,outp q.1 q.2⟩) .inr,hds l h3⟩
 | .lst l,_,h=>by
  unfold RV at h ⊢
  obtain ⟨a,xs,h1,h2,h3⟩:=h
  exact ⟨a,xs,h1,h2.elim (fun q => .inl (rdd q)) .inr,hds l h3⟩
 | .ref i,_,h=>by
  unfold RV at h ⊢
  exact h
 | .ty _,_,h=>by unfold RV at h ⊢;exact h
 | .fn _,_,h=>by unfold RV at h ⊢;exact h
 | .exc _ _,_,h=>by
  unfold RV at h ⊢
  obtain ⟨a,o',u,h1,h2,h3,h4,h6,h5⟩:=h
  exact ⟨a,o',u,h1,by rw [qK (qM h2 hp)];exact h2,outp h2 h3,h4,h6,h5.imp id fun ⟨d,q1,q2,q3⟩=>⟨d,q1,by rw [qK (qM q2 hp)];exact q2,outp q2 q3⟩⟩
 | .dct,_,h=>by
  unfold RV at h ⊢
  obtain ⟨a,h1,h2,h3⟩:=h
  exact ⟨a,h1,by rw [qK (qM h2 hp)];exact h2,outp h2 h3⟩
 hds:∀ (l:List PV) {xs:List V},RVs K H ⟨b,z⟩ l xs->RVs K (upd H p o) ⟨b,p::z⟩ l xs
 |[],_,h=>by unfold RVs at h ⊢;exact h
 |q::ps,_,h=>by
  unfold RVs at h ⊢
  obtain ⟨x,r,h1,h2,h3⟩:=h
  exact ⟨x,r,h1,hd q h2,hds ps h3⟩
theorem SR.hide {K:W.Frag} {H:Hp} {b z:List Addr} {st:qC} (S:SR K H ⟨b,z⟩ st) {p:Addr} {ys:List V} (hp:H p=none):SR K (upd H p (.lst ys)) ⟨b,p::z⟩ st:=by
 have hn:=S.new_notin hp
 refine ⟨S.len,S.nd,fun i x hx => ?_,fun a ha => ?_,fun a ha => ?_⟩
 ·obtain ⟨a,u,h1,h2,h3⟩:=S.at_ i x hx
  refine ⟨a,u,h1,by rw [qK (qM h2 hp)];exact h2,?_⟩
  cases x with
  |l xs =>
   obtain ⟨vs,e1,e2⟩:=h3
   exact ⟨vs,e1,RV.hide.hds hp xs e2⟩
  |d kvs =>
   obtain ⟨vs,e1,e2,e3⟩:=h3
   exact ⟨vs,e1,e2,RV.hide.hds hp _ e3⟩
  |z kvs =>
   obtain ⟨od,vs,e1,e2,e3⟩:=h3
   exact ⟨od,vs,e1,e2,RV.hide.hds hp _ e3⟩
  |k kvs =>
   obtain ⟨vs,e1,e2,e3⟩:=h3
   exact ⟨vs,e1,e2,RV.hide.hds hp _ e3⟩
  |y kvs =>
   obtain ⟨od,vs,e1,e2,e3⟩:=h3
   exact ⟨od,vs,e1,e2,RV.hide.hds hp _ e3⟩
  |n kvs =>
   obtain ⟨vs,e1,e2,e3⟩:=h3
   exact ⟨vs,e1,e2,RV.hide.hds hp _ e3⟩
  |w kvs =>
   obtain ⟨od,vs,e1,e2,e3⟩:=h3
   exact ⟨od,vs,e1,e2,RV.hide.hds hp _ e3⟩
  |o C fs =>
   obtain ⟨dx,vs,e1,e2,e3⟩:=h3
   exact ⟨dx,vs,e1,e2,RV.hide.hds hp _ e3⟩
 ·rcases AL.mp ha with rfl |ha
  ·exact ⟨ys,qb⟩
  ·obtain ⟨u,e⟩:=S.zo a ha
   exact ⟨u,by rw [qK (qM e hp)];exact e⟩
 ·rcases AL.mp ha with rfl |ha
  ·exact hn.1
  ·exact S.zb a ha
theorem SR.bare {K:W.Frag} {H:Hp} {b z:List Addr} {st:qC} {p:Addr} (S:SR K H ⟨b,p::z⟩ st):SR K H ⟨b,z⟩ st :=
 ⟨S.len,S.nd,fun i x hx=>by
  obtain ⟨a,u,h1,h2,h3⟩:=S.at_ i x hx
  exact ⟨a,u,h1,h2,h3.sh Sh.bare⟩,fun a ha=>S.zo a (AD _ ha),fun a ha=>S.zb a (AD _ ha)⟩
theorem SR.slot {K:W.Frag} {H:Hp} {b z:List Addr} {st:qC} {p:Addr} {x:SO} {o:HO} (S:SR K H ⟨b,p::z⟩ st) (hz:p ∉ z) (ho:H p=some o) (hx:SOk K H ⟨b,p::z⟩ x o):SR K H ⟨b++[p],z⟩ (st++[x]):=by
 have hp:p ∉ b:=S.zb p AF
 refine ⟨by simp [show b.length=st.length from S.len],?_,fun i y hy => ?_,fun a ha=>S.zo a (AD _ ha),fun a ha hm => ?_⟩
 ·exact List.nodup_append.mpr ⟨S.nd,by simp,fun a ha c hc=>by rw [An.mp hc];intro z;subst z;exact hp ha⟩
 ·by_cases hi:i < st.length
  ·rw [AT hi] at hy
   obtain ⟨a,u,h1,h2,h3⟩:=S.at_ i y hy
   exact ⟨a,u,Sh.slot.ix i a h1,h2,h3.sh Sh.slot⟩
  ·have hi':i=st.length:=by
    have:=(AG.mp hy).1
    rw [Aa,BW] at this;omega
   subst hi'
   have e1:(st++[x])[st.length]? = some x:=by simp
   rw [e1] at hy;cases hy
   have hl:b.length=st.length:=S.len
   exact ⟨p,o,by show (b++[p])[st.length]? = some p;rw [← hl];simp,ho,hx.sh Sh.slot⟩
 ·rcases A1.mp hm with q |q
  ·exact S.zb a (AD _ ha) q
  ·rw [An.mp q] at ha;exact hz ha
def REnv (K:W.Frag) (H:Hp) (b:Bz) (r:ql) (s:L2.St):Prop:=r.length=s.length ∧ ∀ (i:Nat) (p:PV),r[i]? = some (some p) -> ∃ v,s[i]? = some (some v)∧RV K H b p v
theorem REnv.wext {K:W.Frag} {H H':Hp} {b b':Bz} {r:ql} {s:L2.St} (h:REnv K H b r s) (e:WE H b H' b'):REnv K H' b' r s:=⟨h.1,fun i p q=>by
 obtain ⟨v,h1,h2⟩:=h.2 i p q
 exact ⟨v,h1,RV.wext e p h2⟩⟩
theorem REnv.ext {K:W.Frag} {H H':Hp} {b b':Bz} {r:ql} {s:L2.St} (h:REnv K H b r s) (e:Ext H b H' b'):REnv K H' b' r s:=⟨h.1,fun i p q=>by
 obtain ⟨v,h1,h2⟩:=h.2 i p q
 exact ⟨v,h1,RV.ext e p h2⟩⟩
theorem REnv.set {K:W.Frag} {H:Hp} {b:Bz} {r:ql} {s:L2.St} {p:PV} {v:V} (h:REnv K H b r s) (hv:RV K H b p v) (i:Nat):REnv K H b (r.set i (some p)) (s.set i (some v)):=by
 refine ⟨by simp [h.1],fun j q hq => ?_⟩
 by_cases hj:i=j
 ·subst hj
  have hl:i < r.length:=by
   have:=(AG.mp hq).1
   simpa using this
  rw [Ac hl] at hq
  cases hq
  exact ⟨v,by rw [Ac (by rw [← h.1];exact hl)],hv⟩
 ·rw [Af hj] at hq
  obtain ⟨w,h1,h2⟩:=h.2 j q hq
  exact ⟨w,by rw [Af hj];exact h1,h2⟩
def RX (K:W.Frag) (H:Hp) (b:Bz) (x:Exc) (c:Value) (d:Option Addr):Prop :=
 c = .ref x.cls∧((x.fs=[]∧d=none) ∨ ∃ a,d=some a∧H a=some (.xd (x.fs.map fun p=>(p.1,V.int p.2)))∧b.out a)
def XP (K:W.Frag) (E:XK) (H:Hp) (b:Bz) (x:Exc) (st:qC):Prop := ∀ c d H' b',Ext H b H' b'->SR K H' b' st->RX K H' b' x c d->E c d H'
theorem XP.ext {K:W.Frag} {E:XK} {H H1:Hp} {b b1:Bz} {x:Exc} {st:qC} (h:XP K E H b x st) (e:Ext H b H1 b1):XP K E H1 b1 x st:=fun c d H' b' e' S r=>h c d H' b' (e.trans e') S r
def PostE (K:W.Frag) (E:XK) (H:Hp) (b:Bz) (r:Rs PV) (Q:VK):Prop:=match r with
 | .ok p st => ∀ v H' b',Ext H b H' b'->SR K H' b' st->RV K H' b' p v->Q v H'
 | .ex x st=>XP K E H b x st
 | .no=>False
def PostA (K:W.Frag) (E:XK) (H:Hp) (b:Bz) (r:Rs (List PV)) (Q:List V->Hp->Prop):Prop:=match r with
 | .ok ps st => ∀ vs H' b',Ext H b H' b'->SR K H' b' st->RVs K H' b' ps vs->Q vs H'
 | .ex x st=>XP K E H b x st
 | .no=>False
def PostT (K:W.Frag) (E:XK) (H:Hp) (b:Bz) (r:Rs Bool) (Q:Bool->Hp->Prop):Prop:=match r with
 | .ok k st => ∀ H' b',Ext H b H' b'->SR K H' b' st->Q k H'
 | .ex x st=>XP K E H b x st
 | .no=>False
def PostS (K:W.Frag) (E:XK) (H:Hp) (b:Bz) (r:RS) (D:Ends):Prop:=match r with
 | .nx e st => ∀ s H' b',Ext H b H' b'->SR K H' b' st->REnv K H' b' e s->D.nx s H'
 | .bk e st => ∀ s H' b',Ext H b H' b'->SR K H' b' st->REnv K H' b' e s->D.bk s H'
 | .ct e st => ∀ s H' b',Ext H b H' b'->SR K H' b' st->REnv K H' b' e s->D.ct s H'
 | .rt p st => ∀ v H' b',Ext H b H' b'->SR K H' b' st->RV K H' b' p v->D.rt v H'
 | .ex x st=>XP K E H b x st
 | .no=>False
theorem PostE.ext {K:W.Frag} {E:XK} {H H1:Hp} {b b1:Bz} {r:Rs PV} {Q:VK} (h:PostE K E H b r Q) (e:Ext H b H1 b1):PostE K E H1 b1 r Q:=by
 cases r with
 |ok p st=>exact fun v H' b' e'=>h v H' b' (e.trans e')
 |ex x st=>exact XP.ext h e
 |no=>exact h
theorem PostA.ext {K:W.Frag} {E:XK} {H H1:Hp} {b b1:Bz} {r:Rs (List PV)} {Q:List V->Hp->Prop} (h:PostA K E H b r Q) (e:Ext H b H1 b1):PostA K E H1 b1 r Q:=by
 cases r with
 |ok p st=>exact fun v H' b' e'=>h v H' b' (e.trans e')
 |ex x st=>exact XP.ext h e
 |no=>exact h
theorem PostT.ext {K:W.Frag} {E:XK} {H H1:Hp} {b b1:Bz} {r:Rs Bool} {Q:Bool->Hp->Prop} (h:PostT K E H b r Q) (e:Ext H b H1 b1):PostT K E H1 b1 r Q:=by
 cases r with
 |ok p st=>exact fun H' b' e'=>h H' b' (e.trans e')
 |ex x st=>exact XP.ext h e
 |no=>exact h
theorem PostS.ext {K:W.Frag} {E:XK} {H H1:Hp} {b b1:Bz} {r:RS} {D:Ends} (h:PostS K E H b r D) (e:Ext H b H1 b1):PostS K E H1 b1 r D:=by
 cases r with
 |nx p st=>exact fun v H' b' e'=>h v H' b' (e.trans e')
 |bk p st=>exact fun v H' b' e'=>h v H' b' (e.trans e')
 |ct p st=>exact fun v H' b' e'=>h v H' b' (e.trans e')
 |rt p st=>exact fun v H' b' e'=>h v H' b' (e.trans e')
 |ex x st=>exact XP.ext h e
 |no=>exact h
def rd (K:W.Frag) (E:XK) (f:FE):TE:=fun s H Q => ∃ b r st,SR K H b st∧REnv K H b r s∧PostE K E H b (f r st) Q
def rdA (K:W.Frag) (E:XK) (f:FA):L2.TA:=fun s H Q => ∃ b r st,SR K H b st∧REnv K H b r s∧PostA K E H b (f r st) Q
def rdT (K:W.Frag) (E:XK) (f:FT):TT:=fun s H Q => ∃ b r st,SR K H b st∧REnv K H b r s∧PostT K E H b (f r st) Q
def rdS (K:W.Frag) (E:XK) (f:FS):TS:=fun D s H => ∃ b r st,SR K H b st∧REnv K H b r s∧PostS K E H b (f r st) D
abbrev VE (X:Cx) (E:XK) (e:Expr) (f:FE):Prop:=PE X e (rd X.K E f)
abbrev VA (X:Cx) (E:XK) (e:List Expr) (f:FA):Prop:=PA X e (rdA X.K E f)
abbrev VT (X:Cx) (E:XK) (e:Expr) (f:FT):Prop:=PT X e (rdT X.K E f)
abbrev VS (X:Cx) (E:XK) (e:Stmt) (f:FS):Prop:=PS X e (rdS X.K E f)
abbrev VSs (X:Cx) (E:XK) (e:List Stmt) (f:FS):Prop:=PSs X e (rdS X.K E f)
theorem PE.imp {X:Cx} {e:Expr} {t t':TE} (h:PE X e t) (i:∀ s H Q,t' s H Q->t s H Q):PE X e t':=fun pins s σ H Q I q=>h pins s σ H Q I (i _ _ _ q)
theorem PT.imp {X:Cx} {e:Expr} {t t':TT} (h:PT X e t) (i:∀ s H Q,t' s H Q->t s H Q):PT X e t':=fun pins s σ H Q I q=>h pins s σ H Q I (i _ _ _ q)
theorem PA.imp {X:Cx} {e:List Expr} {t t':L2.TA} (h:PA X e t) (i:∀ s H Q,t' s H Q->t s H Q):PA X e t':=fun pos pins s σ H Q I q=>h pos pins s σ H Q I (i _ _ _ q)
theorem PS.imp {X:Cx} {e:Stmt} {t t':TS} (h:PS X e t) (i:∀ D s H,t' D s H->t D s H):PS X e t':=fun pins s σ H D I q=>h pins s σ H D I (i _ _ _ q)
theorem PSs.imp {X:Cx} {e:List Stmt} {t t':TS} (h:PSs X e t) (i:∀ D s H,t' D s H->t D s H):PSs X e t':=fun pins s σ H D I q=>h pins s σ H D I (i _ _ _ q)
theorem PostE.bind {K:W.Frag} {E:XK} {H:Hp} {b:Bz} {r:Rs PV} {k:PV->qC->Rs PV} {Q R:VK} (P:PostE K E H b (r.bind k) Q)
  (h:∀ p st v H1 b1,Ext H b H1 b1->SR K H1 b1 st->RV K H1 b1 p v->PostE K E H1 b1 (k p st) Q->R v H1):PostE K E H b r R:=by
 cases r with
 |ok p st=>exact fun v H1 b1 e S r=>h p st v H1 b1 e S r (PostE.ext (show PostE K E H b (k p st) Q from P) e)
 |ex x st=>exact P
 |no=>exact P
theorem PostE.bindT {K:W.Frag} {E:XK} {H:Hp} {b:Bz} {r:Rs PV} {k:PV->qC->Rs Bool} {Q:Bool->Hp->Prop} {R:VK} (P:PostT K E H b (r.bind k) Q)
  (h:∀ p st v H1 b1,Ext H b H1 b1->SR K H1 b1 st->RV K H1 b1 p v->PostT K E H1 b1 (k p st) Q->R v H1):PostE K E H b r R:=by
 cases r with
 |ok p st=>exact fun v H1 b1 e S r=>h p st v H1 b1 e S r (PostT.ext (show PostT K E H b (k p st) Q from P) e)
 |ex x st=>exact P
 |no=>exact P
theorem PostT.bindT {K:W.Frag} {E:XK} {H:Hp} {b:Bz} {r:Rs Bool} {k:Bool->qC->Rs Bool} {Q R:Bool->Hp->Prop} (P:PostT K E H b (r.bind k) Q)
  (h:∀ p st H1 b1,Ext H b H1 b1->SR K H1 b1 st->PostT K E H1 b1 (k p st) Q->R p H1):PostT K E H b r R:=by
 cases r with
 |ok p st=>exact fun H1 b1 e S=>h p st H1 b1 e S (PostT.ext (show PostT K E H b (k p st) Q from P) e)
 |ex x st=>exact P
 |no=>exact P
theorem PostA.bind {K:W.Frag} {E:XK} {H:Hp} {b:Bz} {r:Rs (List PV)} {k:List PV->qC->Rs PV} {Q:VK} {R:List V->Hp->Prop} (P:PostE K E H b (r.bind k) Q)
  (h:∀ p st v H1 b1,Ext H b H1 b1->SR K H1 b1 st->RVs K H1 b1 p v->PostE K E H1 b1 (k p st) Q->R v H1):PostA K E H b r R:=by
 cases r with
 |ok p st=>exact fun v H1 b1 e S r=>h p st v H1 b1 e S r (PostE.ext (show PostE K E H b (k p st) Q from P) e)
 |ex x st=>exact P
 |no=>exact P
theorem PostE.bindA {K:W.Frag} {E:XK} {H:Hp} {b:Bz} {r:Rs PV} {k:PV->qC->Rs (List PV)} {Q:List V->Hp->Prop} {R:VK} (P:PostA K E H b (r.bind k) Q)
  (h:∀ p st v H1 b1,Ext H b H1 b1->SR K H1 b1 st->RV K H1 b1 p v->PostA K E H1 b1 (k p st) Q->R v H1):PostE K E H b r R:=by
 cases r with
 |ok p st=>exact fun v H1 b1 e S r=>h p st v H1 b1 e S r (PostA.ext (show PostA K E H b (k p st) Q from P) e)
 |ex x st=>exact P
 |no=>exact P
theorem PostA.bindA {K:W.Frag} {E:XK} {H:Hp} {b:Bz} {r:Rs (List PV)} {k:List PV->qC->Rs (List PV)} {Q R:List V->Hp->Prop} (P:PostA K E H b (r.bind k) Q)
  (h:∀ p st v H1 b1,Ext H b H1 b1->SR K H1 b1 st->RVs K H1 b1 p v->PostA K E H1 b1 (k p st) Q->R v H1):PostA K E H b r R:=by
 cases r with
 |ok p st=>exact fun v H1 b1 e S r=>h p st v H1 b1 e S r (PostA.ext (show PostA K E H b (k p st) Q from P) e)
 |ex x st=>exact P
 |no=>exact P
def Rs.bindS {α:Type} (r:Rs α) (k:α->qC->RS):RS:=match r with
 | .ok a st=>k a st
 | .ex x st => .ex x st
 | .no => .no
theorem PostE.bindS {K:W.Frag} {E:XK} {H:Hp} {b:Bz} {r:Rs PV} {k:PV->qC->RS} {D:Ends} {R:VK} (P:PostS K E H b (r.bindS k) D)
  (h:∀ p st v H1 b1,Ext H b H1 b1->SR K H1 b1 st->RV K H1 b1 p v->PostS K E H1 b1 (k p st) D->R v H1):PostE K E H b r R:=by
 cases r with
 |ok p st=>exact fun v H1 b1 e S r=>h p st v H1 b1 e S r (PostS.ext (show PostS K E H b (k p st) D from P) e)
 |ex x st=>exact P
 |no=>exact P
theorem PostT.bindS {K:W.Frag} {E:XK} {H:Hp} {b:Bz} {r:Rs Bool} {k:Bool->qC->RS} {D:Ends} {R:Bool->Hp->Prop} (P:PostS K E H b (r.bindS k) D)
  (h:∀ p st H1 b1,Ext H b H1 b1->SR K H1 b1 st->PostS K E H1 b1 (k p st) D->R p H1):PostT K E H b r R:=by
 cases r with
 |ok p st=>exact fun H1 b1 e S=>h p st H1 b1 e S (PostS.ext (show PostS K E H b (k p st) D from P) e)
 |ex x st=>exact P
 |no=>exact P
theorem PostA.bindS {K:W.Frag} {E:XK} {H:Hp} {b:Bz} {r:Rs (List PV)} {k:List PV->qC->RS} {D:Ends} {R:List V->Hp->Prop} (P:PostS K E H b (r.bindS k) D)
  (h:∀ p st v H1 b1,Ext H b H1 b1->SR K H1 b1 st->RVs K H1 b1 p v->PostS K E H1 b1 (k p st) D->R v H1):PostA K E H b r R:=by
 cases r with
 |ok p st=>exact fun v H1 b1 e S r=>h p st v H1 b1 e S r (PostS.ext (show PostS K E H b (k p st) D from P) e)
 |ex x st=>exact P
 |no=>exact P
def asL (st:qC):PV->Option (List PV)
 | .lst l=>some l
 | .ref i=>match st[i]? with
  |some (.l xs)=>some xs
  |_=>none
 |_=>none
def asT:PV->Option (List PV)
 | .tup l=>some l
 |_=>none
def zM (st:qC) (p:PV):Option (List PV):=match p with
 | .tup l=>some l
 |p=>asL st p
section
variable {K:W.Frag} {H:Hp} {b:Bz} {st:qC} {p:PV} {v:V} {l:List PV}
theorem Q6 (S:SR K H b st) (r:RV K H b p v) (h:asL st p=some l):∃ a xs,v = .ref a∧SqL K H a xs∧RVs K H b l xs:=by
 cases p with
 |lst m =>
  unfold RV at r
  obtain ⟨a,xs,h1,h2,h3⟩:=r
  have e:m=l:=AS h
  subst e
  exact ⟨a,xs,h1,h2.sq,h3⟩
 |ref i =>
  unfold RV at r
  obtain ⟨a,h1,h2⟩:=r
  unfold asL at h
  dsimp only at h
  cases q:st[i]? with
  |none=>rw [q] at h;cases h
  |some o =>
   cases o with
   |l ys =>
    rw [q] at h
    have e:ys=l:=AS h
    subst e
    obtain ⟨a',o,e1,e2,vs,e3,e4⟩:=S.at_ i _ q
    rw [h2] at e1;cases e1
    subst e3
    exact ⟨a,vs,h1,SqL.of e2,e4⟩
   |d ys=>rw [q] at h;cases h
   |z ys=>rw [q] at h;cases h
   |k ys=>rw [q] at h;cases h
   |y ys=>rw [q] at h;cases h
   |n ys=>rw [q] at h;cases h
   |w ys=>rw [q] at h;cases h
   |o C ys=>rw [q] at h;cases h
 |_=>cases h
theorem yD (S:SR K H b st) (r:RV K H b p v) (h:zM st p=some l):∃ a xs,v = .ref a∧(SqL K H a xs∨SqT K H a xs)∧RVs K H b l xs:=by
 cases p with
 |tup m =>
  unfold RV at r
  obtain ⟨a,xs,h1,h2,h3⟩:=r
  have e:m=l:=AS h
  subst e
  exact ⟨a,xs,h1,.inr h2.sq,h3⟩
 |lst m =>
  obtain ⟨a,xs,h1,h2,h3⟩:=Q6 S r h
  exact ⟨a,xs,h1,.inl h2,h3⟩
 |ref i =>
  obtain ⟨a,xs,h1,h2,h3⟩:=Q6 S r h
  exact ⟨a,xs,h1,.inl h2,h3⟩
 |_=>cases h
end
abbrev FL:=ql->qC->Rs (List PV)
def PostN (K:W.Frag) (E:XK) (H:Hp) (b:Bz) (r:Rs (List PV)) (Q:VK):Prop:=match r with
 | .ok l st => ∀ p xs H' b',Ext H b H' b'->H p=none->H' p=some (.lst xs)->p ∉ b'.z->SR K H' ⟨b'.b,p::b'.z⟩ st->RVs K H' ⟨b'.b,p::b'.z⟩ l xs->Q (.ref p) H'
 | .ex x st=>XP K E H b x st
 | .no=>False
def rdN (K:W.Frag) (E:XK) (f:FL):TE:=fun s H Q => ∃ b r st,SR K H b st∧REnv K H b r s∧PostN K E H b (f r st) Q
abbrev VN (X:Cx) (E:XK) (e:Expr) (f:FL):Prop:=PE X e (rdN X.K E f)
def vFz (f:FL):FE:=fun r st=>(f r st).bind fun l s => .ok (.lst l) s
theorem PostN.of {K:W.Frag} {E:XK} {H:Hp} {b:Bz} {r:Rs (List PV)} {Q:VK} (P:PostE K E H b (r.bind fun l s => .ok (.lst l) s) Q):PostN K E H b r Q:=by
 cases r with
 |ok l st=>exact fun p xs H' b' e hn hp hz S r=>P _ H' b' e S.bare (by unfold RV;exact ⟨p,xs,rfl,.inl ⟨.inl hp,S.zb p AF,hz⟩,RVs.sh Sh.bare l r⟩)
 |ex x st=>exact P
 |no=>exact P
theorem PostN.ext {K:W.Frag} {E:XK} {H H1:Hp} {b b1:Bz} {r:Rs (List PV)} {Q:VK} (h:PostN K E H b r Q) (e:Ext H b H1 b1):PostN K E H1 b1 r Q:=by
 cases r with
 |ok p st=>exact fun p xs H' b' e' hn=>h p xs H' b' (e.trans e') (e.none_of hn)
 |ex x st=>exact XP.ext h e
 |no=>exact h
theorem PostN.lay {K:W.Frag} {E:XK} {H:Hp} {b:Bz} {st:qC} {l:List PV} {xs:List V} {Q:VK} (P:PostN K E H b (.ok l st) Q) (S:SR K H b st) (r:RVs K H b l xs) {p:Addr} (h:H p=none):Q (.ref p) (upd H p (.lst xs)) :=
 P p xs _ b (Ext.new h) h qb (S.new_notin h).2 (SR.hide S h) (RV.hide.hds h l r)
theorem PostE.layT {K:W.Frag} {E:XK} {H:Hp} {b:Bz} {st:qC} {l:List PV} {xs:List V} {Q:VK} (P:PostE K E H b (.ok (.tup l) st) Q) (S:SR K H b st) (r:RVs K H b l xs) {p:Addr} (h:H p=none):Q (.ref p) (upd H p (.tup xs)) :=
 P _ _ b (Ext.new h) (S.new h) (by unfold RV;exact ⟨p,xs,rfl,.inl ⟨qb,S.new_notin h⟩,RVs.ext (Ext.new h) l r⟩)
theorem PostE.here {K:W.Frag} {E:XK} {H:Hp} {b:Bz} {st:qC} {p:PV} {v:V} {Q:VK} (P:PostE K E H b (.ok p st) Q) (S:SR K H b st) (r:RV K H b p v):Q v H:=P v H b (Ext.refl H b) S r
section
variable {X:Cx} {E:XK} {e a c d:Expr} {es:List Expr} {f fa fb fc:FE} {pos:Pos}
theorem Qr {f:FL} (h:VN X E e f):VE X E e (vFz f):=PE.imp h fun s H Q ⟨b,r,st,S,R,P⟩=>⟨b,r,st,S,R,PostN.of P⟩
def vC (p:PV):FE:=fun _ st => .ok p st
def qB (i:Nat):FE:=fun r st=>match r[i]? with
 |some (some p) => .ok p st
 |_ => .no
theorem jM {p:PV} {v:V} (h:PE X e (tC v)) (hv:∀ H b,RV X.K H b p v):VE X E e (vC p):=PE.imp h fun s H Q ⟨b,r,st,S,R,P⟩=>PostE.here P S (hv H b)
theorem qI {i:Int} {j pos}:VE X E (.Constant (.int i) j pos) (vC (.int i)):=jM qEH fun _ _=>by unfold RV;rfl
theorem WK {i:Bool} {j pos}:VE X E (.Constant (.bool i) j pos) (vC (.bl i)):=jM qFg fun _ _=>by unfold RV;rfl
theorem Yx {j pos}:VE X E (.Constant .none j pos) (vC .non):=jM qE9 fun _ _=>by unfold RV;rfl
theorem qz {x:Str} {j pos}:VE X E (.Constant (.str x) j pos) (vC (.str x)):=jM qEh fun _ _=>by unfold RV;rfl
theorem Wc {x:Str} {i:Int} {t:Tok} {pos:Pos} (hg:Gl X x) (hm:X.mg x=some (.int i t)) (hd:(x==("__debug__":Str))=false:=by decide):VE X E (.Name x pos) (vC (.int i)) :=
 jM (JB (v := .int i) hg hm ⟨t,rfl⟩ hd) fun _ _=>by unfold RV;rfl
theorem qFO {i:Nat} (h:PE X e (qFD i)):VE X E e (qB i):=PE.imp h fun s H Q ⟨b,r,st,S,R,P⟩=>by
 unfold qB at P
 cases q:r[i]? with
 |none=>rw [q] at P;exact False.elim P
 |some o =>
  cases o with
  |none=>rw [q] at P;exact False.elim P
  |some p =>
   rw [q] at P
   obtain ⟨v,h1,h2⟩:=R.2 i p q
   exact ⟨v,h1,PostE.here P S h2⟩
def qH (g:PV->PV->qC->Rs PV) (fa fb:FE):FE:=fun r st=>(fa r st).bind fun p s1=>(fb r s1).bind fun q s2=>g p q s2
def OpG (X:Cx) (E:XK) (t:R2) (g:PV->PV->qC->Rs PV):Prop :=
 ∀ (H:Hp) (b:Bz) (st:qC) (p q:PV) (u v:V) (Q:VK),SR X.K H b st->RV X.K H b p u->RV X.K H b q v->PostE X.K E H b (g p q st) Q->t u v H Q
theorem jP {t:R2} {g:PV->PV->qC->Rs PV} (hg:OpG X E t g):∀ s H Q,rd X.K E (qH g fa fb) s H Q->tOp t (rd X.K E fa) (rd X.K E fb) s H Q:=fun s H Q ⟨b,r,st,S,R,P⟩ =>
 ⟨b,r,st,S,R,PostE.bind P fun p s1 u H1 b1 e1 S1 r1 P1=>⟨b1,r,s1,S1,R.ext e1,PostE.bind P1 fun q s2 v H2 b2 e2 S2 r2 P2=>hg H2 b2 s2 p q u v Q S2 (RV.ext e2 p r1) r2 P2⟩⟩
theorem W6 {op:Operator} {t:R2} {g:PV->PV->qC->Rs PV} (ho:OpR X (binaryOp op) t) (hg:OpG X E t g) (ha:VE X E a fa) (hb:VE X E c fb):VE X E (.BinOp a op c pos) (qH g fa fb):=PE.imp (qDU ho ha hb) (jP hg)
def gI (g:Int->Int->Option PV):PV->PV->qC->Rs PV:=fun p q st=>match p,q with
 | .int i,.int j=>match g i j with
  |some z => .ok z st
  |none => .no
 |_,_ => .no
theorem qB5 {C:Int->Int->Prop} {h:Int->Int->V} {g:Int->Int->Option PV} (hg:∀ i j z,g i j=some z->C i j ∧ ∀ H b,RV X.K H b z (h i j)):OpG X E (rI C h) (gI g):=by
 intro H b st p q u v Q S rp rq P
 unfold gI at P
 split at P
 ·rename_i i j
  unfold RV at rp rq
  split at P
  ·rename_i z e
   obtain ⟨c,r⟩:=hg i j z e
   exact ⟨i,j,rp,rq,c,PostE.here P S (r H b)⟩
  ·exact P.elim
 ·exact P.elim
theorem YU {h:Int->Int->V} {g:Int->Int->PV} (hg:∀ i j H b,RV X.K H b (g i j) (h i j)):OpG X E (rI0 h) (gI fun i j=>some (g i j)):=by
 intro H b st p q u v Q S rp rq P
 unfold gI at P
 split at P
 ·rename_i i j
  unfold RV at rp rq
  exact ⟨i,j,rp,rq,PostE.here P S (hg i j H b)⟩
 ·exact P.elim
theorem Qe {K:W.Frag} {H:Hp} {b:Bz} {i:Int}:RV K H b (.int i) (.int i):=by unfold RV;rfl
theorem WL {K:W.Frag} {H:Hp} {b:Bz} {i:Bool}:RV K H b (.bl i) (.bl i):=by unfold RV;rfl
def zA:=gI fun i j=>some (.int (i - j))
def Qs:=gI fun i j=>if (-(2 ^ 64) < i∧i < 2 ^ 64)∨(-(2 ^ 64) < j∧j < 2 ^ 64) then some (.int (i * j)) else none
def yW:=gI fun i j=>if 0 < j∧j < 1073741824 then some (.int (i / j)) else none
def WO:=gI fun i j=>if 0 < j then some (.int (i % j)) else none
def WC:=gI fun i j=>if 0≤j∧j≤1000000∧i.natAbs < 2 ^ 64 then some (.int (i ^ j.toNat)) else none
theorem Wv (ha:VE X E a fa) (hb:VE X E c fb):VE X E (.BinOp a .Sub c pos) (qH zA fa fb):=W6 qEP (YU fun _ _ _ _=>Qe) ha hb
theorem QN (ha:VE X E a fa) (hb:VE X E c fb):VE X E (.BinOp a .Mult c pos) (qH Qs fa fb):=W6 qEo (qB5 fun i j z e=>by
 split at e
 ·rename_i h;cases e;exact ⟨h,fun _ _=>Qe⟩
 ·cases e) ha hb
theorem jZ (ha:VE X E a fa) (hb:VE X E c fb):VE X E (.BinOp a .FloorDiv c pos) (qH yW fa fb):=W6 qCf (qB5 fun i j z e=>by
 split at e
 ·rename_i h;cases e;exact ⟨h,fun _ _=>Qe⟩
 ·cases e) ha hb
theorem Wa (ha:VE X E a fa) (hb:VE X E c fb):VE X E (.BinOp a .Mod c pos) (qH WO fa fb):=W6 qEq (qB5 fun i j z e=>by
 split at e
 ·rename_i h;cases e;exact ⟨h,fun _ _=>Qe⟩
 ·cases e) ha hb
theorem Wt (ha:VE X E a fa) (hb:VE X E c fb):VE X E (.BinOp a .Pow c pos) (qH WC fa fb):=W6 qD4 (qB5 fun i j z e=>by
 split at e
 ·rename_i h;cases e;exact ⟨h,fun _ _=>Qe⟩
 ·cases e) ha hb
def q9:=gI fun i j=>some (.int (i + j))
theorem QY (ha:VE X E a fa) (hb:VE X E c fb):VE X E (.BinOp a .Add c pos) (qH q9 fa fb):=W6 qEV (YU fun _ _ _ _=>Qe) ha hb
def qDM:PV->PV->qC->Rs PV:=fun p q st=>match p,q with
 | .str x,.str y=>if x.length + y.length≤sizeLine then .ok (.str (x++y)) st else .no
 |_,_ => .no
theorem qCS (ha:VE X E a fa) (hb:VE X E c fb):VE X E (.BinOp a .Add c pos) (qH qDM fa fb):=W6 jX (fun H b st p q u v Q S rp rq P=>by
 unfold qDM at P
 split at P
 ·rename_i x y
  unfold RV at rp rq
  split at P
  ·rename_i h;exact ⟨x,y,rp,rq,h,PostE.here P S (by unfold RV;rfl)⟩
  ·exact P.elim
 ·exact P.elim) ha hb
def gLt:=gI fun i j=>some (.bl (decide (i < j)))
def gLe:=gI fun i j=>some (.bl (decide (i≤j)))
def gGe:=gI fun i j=>some (.bl (decide (j≤i)))
theorem qBj:OpG X E (rI0 fun i j => .bl (decide (i < j))) gLt:=YU fun _ _ _ _=>WL
theorem JL:OpG X E (rI0 fun i j => .bl (decide (i≤j))) gLe:=YU fun _ _ _ _=>WL
theorem YR:OpG X E (rI0 fun i j => .bl (decide (j≤i))) gGe:=YU fun _ _ _ _=>WL
def WD (g g':PV->PV->qC->Rs PV) (fa fb fc:FE):FE:=fun r st=>(fa r st).bind fun p s1=>(fb r s1).bind fun q s2=>(g p q s2).bind fun z s3=>match z with
 | .bl true=>(fc r s3).bind fun w s4=>g' q w s4
 | .bl false => .ok (.bl false) s3
 |_ => .no
theorem qAm {op op':CmpOp} {t t':R2} {g g':PV->PV->qC->Rs PV} (ho:OpR X (compareOp op) t) (ho':OpR X (compareOp op') t') (hg:OpG X E t g) (hg':OpG X E t' g') (ha:VE X E a fa) (hb:VE X E c fb) (hc:VE X E d fc)
  (hm:lastMarks [op,op'] [c,d]=false:=by with_unfolding_all rfl):VE X E (.Compare a [op,op'] [c,d] pos) (WD g g' fa fb fc):=by
 refine PE.imp (qBX ho ho' ha hb hc hm) fun s H Q ⟨b,r,st,S,R,P⟩ => ?_
 refine ⟨b,r,st,S,R,PostE.bind P fun p s1 u H1 b1 e1 S1 r1 P1=>⟨b1,r,s1,S1,R.ext e1,PostE.bind P1 fun q s2 v H2 b2 e2 S2 r2 P2 => ?_⟩⟩
 refine hg H2 b2 s2 p q u v _ S2 (RV.ext e2 p r1) r2 (PostE.bind P2 fun z s3 zv H3 b3 e3 S3 r3 P3 => ?_)
 split at P3
 ·unfold RV at r3
  refine ⟨true,r3,jR ⟨b3,r,s3,S3,((R.ext e1).ext e2).ext e3,PostE.bind P3 fun w s4 wv H4 b4 e4 S4 r4 P4 => ?_⟩⟩
  exact hg' H4 b4 s4 q w v wv Q S4 (RV.ext e4 q (RV.ext e3 q r2)) r4 P4
 ·unfold RV at r3
  exact ⟨false,r3,Yu (PostE.here P3 S3 WL)⟩
 ·exact P3.elim
def qAV (st:qC):PV->Option Bool
 | .non=>some false
 | .bl x=>some x
 | .int i=>some (i != 0)
 | .tup l=>some (!l.isEmpty)
 | .lst l=>some (!l.isEmpty)
 | .ref i=>(asL st (.ref i)).map fun l => !l.isEmpty
 |_=>none
theorem qBy {K:W.Frag} {H:Hp} {b:Bz} {st:qC} {p:PV} {v:V} {k:Bool} (S:SR K H b st) (r:RV K H b p v) (h:qAV st p=some k):qCL K v H k:=by
 have emp:∀ {l:List PV} {xs:List V},RVs K H b l xs->(!l.isEmpty) = !xs.isEmpty:=fun {l xs} q=>by
  have:=q.length
  cases l <;> cases xs <;> first |rfl |(simp at this)
 cases p with
 |non=>unfold RV at r;subst r;exact (AS h).symm
 |bl x=>unfold RV at r;subst r;exact (AS h).symm
 |int x=>unfold RV at r;subst r;exact (AS h).symm
 |tup l =>
  unfold RV at r
  obtain ⟨a,xs,rfl,h2,h3⟩:=r
  exact .inr (.inl ⟨xs,h2.sq,by rw [← emp h3];exact (AS h).symm⟩)
 |lst l =>
  obtain ⟨a,xs,rfl,h2,h3⟩:=Q6 S r rfl
  exact .inl ⟨xs,h2,by rw [← emp h3];exact (AS h).symm⟩
 |ref i =>
  unfold qAV at h
  dsimp only at h
  cases q:asL st (.ref i) with
  |none=>rw [q] at h;cases h
  |some l =>
   rw [q] at h
   obtain ⟨a,xs,rfl,h2,h3⟩:=Q6 S r q
   exact .inl ⟨xs,h2,by rw [← emp h3];exact (AS h).symm⟩
 |_=>cases h
def qy (f:FE):FT:=fun r st=>(f r st).bind fun p s=>match qAV s p with
 |some k => .ok k s
 |none => .no
theorem qBd {R:Bool->Hp->Prop} {s:L2.St} {H:Hp} (h:rdT X.K E (qy f) s H R):rd X.K E f s H fun x H' => ∃ k,qCL X.K x H' k∧R k H':=by
 obtain ⟨b,r,st,S,RE,P⟩:=h
 refine ⟨b,r,st,S,RE,PostE.bindT P fun p s1 u H1 b1 e1 S1 r1 P1 => ?_⟩
 split at P1
 ·rename_i k e;exact ⟨k,qBy S1 r1 e,P1 H1 b1 (Ext.refl _ _) S1⟩
 ·exact P1.elim
theorem Wq (h:VE X E e f) (he:∀ whole,isTrue e X.env whole=(do let v ← whole;standAt e.pos;holding [v] (truthy v)):=by intro _;rfl):VT X E e (qy f):=PT.imp (qBm h he) fun s H Q q=>qBd q
def vTB (f:FE):FT:=fun r st=>(f r st).bind fun p s=>match p with
 | .bl k => .ok k s
 |_ => .no
theorem qDe {R:Bool->Hp->Prop} {s:L2.St} {H:Hp} (h:rdT X.K E (vTB f) s H R):rd X.K E f s H fun x H' => ∃ k,x = .bl k∧R k H':=by
 obtain ⟨b,r,st,S,RE,P⟩:=h
 refine ⟨b,r,st,S,RE,PostE.bindT P fun p s1 u H1 b1 e1 S1 r1 P1 => ?_⟩
 split at P1
 ·rename_i k;unfold RV at r1;exact ⟨k,r1,P1 H1 b1 (Ext.refl _ _) S1⟩
 ·exact P1.elim
theorem QL {op:CmpOp} {t:R2} {g:PV->PV->qC->Rs PV} (ho:OpR X (compareOp op) t) (hg:OpG X E t g) (ha:VE X E a fa) (hb:VE X E c fb) (hm:behindInMarks op c=false:=by first |exact QJ _ |with_unfolding_all rfl):VT X E (.Compare a [op] [c] pos) (vTB (qH g fa fb)) :=
 PT.imp (qC5 ho ha hb hm) fun s H Q q=>jP hg s H _ (qDe q)
theorem qBq {op op':CmpOp} {t t':R2} {g g':PV->PV->qC->Rs PV} (ho:OpR X (compareOp op) t) (ho':OpR X (compareOp op') t') (hg:OpG X E t g) (hg':OpG X E t' g') (ha:VE X E a fa) (hb:VE X E c fb) (hc:VE X E d fc)
  (hm:lastMarks [op,op'] [c,d]=false:=by with_unfolding_all rfl):VT X E (.Compare a [op,op'] [c,d] pos) (vTB (WD g g' fa fb fc)):=by
 refine PT.imp (qAc ho ho' ha hb hc hm) fun s H Q q => ?_
 obtain ⟨b,r,st,S,R,P⟩:=qDe q
 refine ⟨b,r,st,S,R,PostE.bind P fun p s1 u H1 b1 e1 S1 r1 P1=>⟨b1,r,s1,S1,R.ext e1,PostE.bind P1 fun q s2 v H2 b2 e2 S2 r2 P2 => ?_⟩⟩
 refine hg H2 b2 s2 p q u v _ S2 (RV.ext e2 p r1) r2 (PostE.bind P2 fun z s3 zv H3 b3 e3 S3 r3 P3 => ?_)
 split at P3
 ·unfold RV at r3
  refine ⟨true,r3,jR ⟨b3,r,s3,S3,((R.ext e1).ext e2).ext e3,PostE.bind P3 fun w s4 wv H4 b4 e4 S4 r4 P4 => ?_⟩⟩
  exact hg' H4 b4 s4 q w v wv _ S4 (RV.ext e4 q (RV.ext e3 q r2)) r4 P4
 ·unfold RV at r3
  exact ⟨false,r3,Yu (PostE.here P3 S3 WL)⟩
 ·exact P3.elim
def QW (f:FT):FT:=fun r st=>(f r st).bind fun k s => .ok (!k) s
theorem Wu {f:FT} (h:VT X E a f):VT X E (.UnaryOp .Not a pos) (QW f):=PT.imp (qDk h) fun s H Q ⟨b,r,st,S,R,P⟩=>⟨b,r,st,S,R,PostT.bindT P fun k s1 H1 b1 e1 S1 P1=>P1 H1 b1 (Ext.refl _ _) S1⟩
abbrev VW (X:Cx) (E:XK) (e:Expr) (f:FT):Prop:=PW X e (rdT X.K E f)
theorem PW.imp {X:Cx} {e:Expr} {t t':TT} (h:PW X e t) (i:∀ s H Q,t' s H Q->t s H Q):PW X e t':=fun w pins s σ H Q I q=>h w pins s σ H Q I (i _ _ _ q)
def Z2 (f g:FT):FT:=fun r st=>(f r st).bind fun k s=>if k=true then g r s else .ok false s
def WM (f g:FT):FT:=fun r st=>(f r st).bind fun k s=>if k=true then .ok true s else g r s
theorem qCK {f:FT} (h:VT X E a f):VW X E (.BoolOp .And [a] pos) f:=qCw h
theorem zp {f:FT} (h:VT X E a f):VW X E (.BoolOp .Or [a] pos) f:=qEI h
theorem qEG {f g:FT} {rest:List Expr} (h:VT X E a f) (h2:VW X E (.BoolOp .And (c::rest) pos) g):VW X E (.BoolOp .And (a::c::rest) pos) (Z2 f g):=PW.imp (qEu h h2) fun s H Q ⟨b,r,st,S,R,P⟩ =>
 ⟨b,r,st,S,R,PostT.bindT P fun k s1 H1 b1 e1 S1 P1=>by
  cases k with
  |true=>exact jR ⟨b1,r,s1,S1,R.ext e1,P1⟩
  |false=>exact Yu (P1 H1 b1 (Ext.refl _ _) S1)⟩
theorem YM {f g:FT} {rest:List Expr} (h:VT X E a f) (h2:VW X E (.BoolOp .Or (c::rest) pos) g):VW X E (.BoolOp .Or (a::c::rest) pos) (WM f g):=PW.imp (qFt h h2) fun s H Q ⟨b,r,st,S,R,P⟩ =>
 ⟨b,r,st,S,R,PostT.bindT P fun k s1 H1 b1 e1 S1 P1=>by
  cases k with
  |true=>exact jR (P1 H1 b1 (Ext.refl _ _) S1)
  |false=>exact Yu ⟨b1,r,s1,S1,R.ext e1,P1⟩⟩
theorem qAK {f:FT} (h:VW X E e f):VT X E e f:=h.pt
def qER (f:FE):FE:=fun r st=>(f r st).bind fun p s=>match p with
 | .bl k => .ok (.bl (!k)) s
 |_ => .no
theorem qB9 (h:VE X E a fa):VE X E (.UnaryOp .Not a pos) (qER fa):=PE.imp (qFM h) fun s H Q ⟨b,r,st,S,R,P⟩ =>
 ⟨b,r,st,S,R,PostE.bind P fun p s1 u H1 b1 e1 S1 r1 P1=>by
  split at P1
  ·rename_i k;unfold RV at r1;exact ⟨k,r1,PostE.here P1 S1 WL⟩
  ·exact P1.elim⟩
def qA8 (f g:FE):FE:=fun r st=>(f r st).bind fun p s=>match p with
 | .bl true=>g r s
 | .bl false => .ok (.bl false) s
 |_ => .no
theorem jA {op} (h:VE X E a fa):VE X E (.BoolOp op [a] pos) fa:=qD8 h
theorem Yt {rest:List Expr} (h:VE X E a fa) (h2:VE X E (.BoolOp .And (c::rest) pos) fb):VE X E (.BoolOp .And (a::c::rest) pos) (qA8 fa fb):=PE.imp (qEE h h2) fun s H Q ⟨b,r,st,S,R,P⟩ =>
 ⟨b,r,st,S,R,PostE.bind P fun p s1 u H1 b1 e1 S1 r1 P1=>by
  split at P1
  ·unfold RV at r1;exact ⟨true,r1,jR ⟨b1,r,s1,S1,R.ext e1,P1⟩⟩
  ·unfold RV at r1;exact ⟨false,r1,Yu (PostE.here P1 S1 WL)⟩
  ·exact P1.elim⟩
def qD:FA:=fun _ st => .ok [] st
def qA (f:FE) (g:FA):FA:=fun r st=>(f r st).bind fun p s=>(g r s).bind fun ps s' => .ok (p::ps) s'
theorem qF:VA X E [] qD:=PA.imp jY fun s H Q ⟨b,r,st,S,R,P⟩=>P [] H b (Ext.refl _ _) S RVs.nil
theorem QR {f:FE} {g:FA} (h:VE X E e f) (h2:VA X E es g) (hs:starEach (e::es) X.env=(false,eval e X.env)::starEach es X.env:=by rfl):VA X E (e::es) (qA f g):=PA.imp (yN h h2 hs) fun s H Q ⟨b,r,st,S,R,P⟩ =>
 ⟨b,r,st,S,R,PostE.bindA P fun p s1 u H1 b1 e1 S1 r1 P1=>⟨b1,r,s1,S1,R.ext e1,PostA.bindA P1 fun ps s2 us H2 b2 e2 S2 r2 P2=>P2 (u::us) H2 b2 (Ext.refl _ _) S2 (RVs.cons (RV.ext e2 p r1) r2)⟩⟩
def QM (g:FA):FE:=fun r st=>(g r st).bind fun ps s=>if ps.length≤sizeLine then .ok (.tup ps) s else .no
theorem qv {g:FA} {x1} (h:VA X E es g):VE X E (.Tuple es x1 pos) (QM g):=PE.imp (qEl h) fun s H Q ⟨b,r,st,S,R,P⟩ =>
 ⟨b,r,st,S,R,PostA.bind P fun ps s1 us H1 b1 e1 S1 r1 P1=>by
  split at P1
  ·rename_i hl;exact ⟨by rw [← r1.length];exact hl,fun p hp=>PostE.layT P1 S1 r1 hp⟩
  ·exact P1.elim⟩
def Qt (g:FA):FL:=fun r st=>(g r st).bind fun ps s=>if ps.length≤sizeLine then .ok ps s else .no
theorem PostA.bindN {K:W.Frag} {E:XK} {H:Hp} {b:Bz} {r:Rs (List PV)} {k:List PV->qC->Rs (List PV)} {Q:VK} {R:List V->Hp->Prop} (P:PostN K E H b (r.bind k) Q)
  (h:∀ p st v H1 b1,Ext H b H1 b1->SR K H1 b1 st->RVs K H1 b1 p v->PostN K E H1 b1 (k p st) Q->R v H1):PostA K E H b r R:=by
 cases r with
 |ok p st=>exact fun v H1 b1 e S r=>h p st v H1 b1 e S r (PostN.ext (show PostN K E H b (k p st) Q from P) e)
 |ex x st=>exact P
 |no=>exact P
theorem PostE.bindN {K:W.Frag} {E:XK} {H:Hp} {b:Bz} {r:Rs PV} {k:PV->qC->Rs (List PV)} {Q:VK} {R:VK} (P:PostN K E H b (r.bind k) Q)
  (h:∀ p st v H1 b1,Ext H b H1 b1->SR K H1 b1 st->RV K H1 b1 p v->PostN K E H1 b1 (k p st) Q->R v H1):PostE K E H b r R:=by
 cases r with
 |ok p st=>exact fun v H1 b1 e S r=>h p st v H1 b1 e S r (PostN.ext (show PostN K E H b (k p st) Q from P) e)
 |ex x st=>exact P
 |no=>exact P
theorem Qo {g:FA} (h:VA X E es g):VN X E (.List es pos) (Qt g):=PE.imp (qDh h) fun s H Q ⟨b,r,st,S,R,P⟩ =>
 ⟨b,r,st,S,R,PostA.bindN P fun ps s1 us H1 b1 e1 S1 r1 P1=>by
  split at P1
  ·rename_i hl;exact ⟨by rw [← r1.length];exact hl,fun p hp=>PostN.lay P1 S1 r1 hp⟩
  ·exact P1.elim⟩
theorem qCx {K:W.Frag} {H:Hp} {b:Bz} {l:List PV} {xs:List V} {i:Int} {p:PV} (r:RVs K H b l xs) (h:atI l i=some p):∃ x,atI xs i=some x∧RV K H b p x:=by
 unfold atI at h ⊢
 rw [← r.length]
 cases q:ixN l.length i with
 |none=>rw [q] at h;cases h
 |some j=>rw [q] at h;exact r.get h
def gIx:PV->PV->qC->Rs PV:=fun p q st=>match q with
 | .int i=>match zM st p with
  |some l=>match atI l i with
   |some z => .ok z st
   |none => .no
  |none => .no
 |_ => .no
theorem WJ (ha:VE X E a fa) (hb:VE X E c fb) (hs:jg c:=by exact fun _ _=>rfl):VE X E (.Subscript a c pos) (qH gIx fa fb):=PE.imp (qF2 qET ha hb hs) (jP fun H b st p q u v Q S rp rq P=>by
 unfold gIx at P
 split at P
 ·rename_i i
  unfold RV at rq
  split at P
  ·rename_i l e
   split at P
   ·rename_i z ez
    obtain ⟨x1,xs,h1,h2,h3⟩:=yD S rp e
    obtain ⟨x,h4,h5⟩:=qCx h3 ez
    rcases h2 with h2 |h2
    ·exact .inl ⟨x1,xs,i,x,h1,rq,h2,h4,PostE.here P S h5⟩
    ·exact .inr (.inl ⟨x1,xs,i,x,h1,rq,h2,h4,PostE.here P S h5⟩)
   ·exact P.elim
  ·exact P.elim
 ·exact P.elim)
def qG (g:List PV->qC->Rs PV) (t:FA):FE:=fun r st=>(t r st).bind fun ps s=>g ps s
def spG (K:W.Frag) (n:Nat) (g:List PV->qC->Rs PV):Sp:=fun vs H Q E=>vs.length=n ∧ ∃ b ps st,SR K H b st∧RVs K H b ps vs∧PostE K E H b (g ps st) Q
def qFG (X:Cx) (E:XK) (x:Str) (g:List PV->qC->Rs PV):Prop := ∀ (p pos:Pos) (e:Expr) (es:List Expr) (t:FA),VA X E (e::es) t->starEach (e::es) X.env=(false,eval e X.env)::starEach es X.env->(backTo pos (starEach es X.env)).any (·.1)=false->VE X E (.Call (.Name x p) (e::es) [] pos) (qG g t)
theorem qY {x:Str} {g:List PV->qC->Rs PV} {t:FA} {p:Pos} (hc:qFG X E x g) (ha:VA X E (e::es) t) (he:starEach (e::es) X.env=(false,eval e X.env)::starEach es X.env:=by rfl) (hpl:(backTo pos (starEach es X.env)).any (·.1)=false:=by rfl):VE X E (.Call (.Name x p) (e::es) [] pos) (qG g t):=hc p pos e es t ha he hpl
theorem qHB {CX:CXT} {k n:Nat} {fa:Addr} {fd:FuncData} {ps:List Str} {x:Str} {g:List PV->qC->Rs PV} (F:FnOk X.prog X.w X.K X.mg X.base CX k fa fd ps (spG X.K ps.length g)) (hr:Room k X.A) (hg:Gl X x) (hm:X.mg x=some (.ref fa)) (hk:W.keepIn X.K (.ref fa)=true)
  (hb:Binds X.K fd ps []) (hx:WR CX X E) (hlen:∀ l st,g l st ≠ .no->l.length=ps.length) (hdb:(x==("__debug__":Str))=false:=by decide):qFG X E x g:=fun p pos e es t ha he hpl =>
 PE.imp (qC3 F hr hg hm hk hb .nil hx ha hdb he hpl) fun s H Q ⟨b,r,st,S,R,P⟩=>⟨b,r,st,S,R,PostA.bind P fun l s1 us H1 b1 e1 S1 r1 P1=>by
  have hne:g l s1 ≠ .no:=fun z=>by rw [z] at P1;exact P1
  rw [BS]
  exact ⟨by rw [← r1.length];exact hlen l s1 hne,b1,l,s1,S1,r1,P1⟩⟩
def Z3 (X:Cx) (E:XK) (t:List V->Hp->VK->Prop) (g:List PV->qC->Rs PV):Prop :=
 ∀ (H:Hp) (b:Bz) (st:qC) (ps:List PV) (vs:List V) (Q:VK),SR X.K H b st->RVs X.K H b ps vs->PostE X.K E H b (g ps st) Q->t vs H Q
theorem WQ {x:Str} {id:String} {t:List V->Hp->VK->Prop} {g:List PV->qC->Rs PV} {ta:FA} {p:Pos} (hc:Wj X (.builtin id) t) (hG:Z3 X E t g) (hg:Gl X x) (hm:X.mg x=none) (hv:bootBuiltins x=some (.builtin id)) (ha:VA X E (e::es) ta) (hn:x ≠ "__name__" := by decide) (hdb:(x==("__debug__":Str))=false:=by decide)
  (he:starEach (e::es) X.env=(false,eval e X.env)::starEach es X.env:=by rfl) (hpl:(backTo pos (starEach es X.env)).any (·.1)=false:=by rfl):VE X E (.Call (.Name x p) (e::es) [] pos) (qG g ta) :=
 PE.imp (qBf hc hg hm hv ha hn hdb he hpl) fun s H Q ⟨b,r,st,S,R,P⟩=>⟨b,r,st,S,R,PostA.bind P fun l s1 us H1 b1 e1 S1 r1 P1=>hG H1 b1 s1 l us Q S1 r1 P1⟩
theorem Ji {x:Str} {T:String} {t:List V->Hp->VK->Prop} {g:List PV->qC->Rs PV} {ta:FA} {p:Pos} (hc:Wj X (.type T) t) (hG:Z3 X E t g) (hg:Gl X x) (hm:X.mg x=none) (hv:bootBuiltins x=some (.type T)) (ha:VA X E (e::es) ta) (hn:x ≠ "__name__" := by decide) (hdb:(x==("__debug__":Str))=false:=by decide)
  (he:starEach (e::es) X.env=(false,eval e X.env)::starEach es X.env:=by rfl) (hpl:(backTo pos (starEach es X.env)).any (·.1)=false:=by rfl):VE X E (.Call (.Name x p) (e::es) [] pos) (qG g ta) :=
 PE.imp (JZ hc hg hm hv ha hn hdb he hpl) fun s H Q ⟨b,r,st,S,R,P⟩=>⟨b,r,st,S,R,PostA.bind P fun l s1 us H1 b1 e1 S1 r1 P1=>hG H1 b1 s1 l us Q S1 r1 P1⟩
theorem RVs.one {K:W.Frag} {H:Hp} {b:Bz} {p:PV} {vs:List V} (h:RVs K H b [p] vs):∃ v,vs=[v]∧RV K H b p v:=by
 unfold RVs at h
 obtain ⟨x,r,rfl,h2,h3⟩:=h
 unfold RVs at h3;subst h3
 exact ⟨x,rfl,h2⟩
theorem RVs.two {K:W.Frag} {H:Hp} {b:Bz} {p q:PV} {vs:List V} (h:RVs K H b [p,q] vs):∃ v w,vs=[v,w]∧RV K H b p v∧RV K H b q w:=by
 unfold RVs at h
 obtain ⟨x,r,rfl,h2,h3⟩:=h
 obtain ⟨y,rfl,h4⟩:=RVs.one h3
 exact ⟨x,y,rfl,h2,h4⟩
def ZS:List PV->qC->Rs PV:=fun ps st=>match ps with
 |[p]=>match zM st p with
  |some l => .ok (.int l.length) st
  |none => .no
 |_ => .no
theorem qDz:Z3 X E (fun xs H Q => ∃ p ys,xs=[.ref p]∧(SqL X.K H p ys∨SqT X.K H p ys)∧Q (.int ys.length) H) ZS:=by
 intro H b st ps vs Q S r P
 unfold ZS at P
 split at P
 ·rename_i p
  obtain ⟨v,rfl,r1⟩:=RVs.one r
  split at P
  ·rename_i l e
   obtain ⟨a,xs,rfl,h2,h3⟩:=yD S r1 e
   refine ⟨a,xs,rfl,h2,?_⟩
   rw [← h3.length]
   exact PostE.here P S Qe
  ·exact P.elim
 ·exact P.elim
def Q7:List PV->qC->Rs PV:=fun ps st=>match ps with
 |[p]=>match zM st p with
  |some l => .ok (.tup l) st
  |none => .no
 |_ => .no
theorem qBK:Z3 X E (fun xs H Q => ∃ p ys,xs=[.ref p]∧((SqL X.K H p ys ∧ ∀ l,H l=none->Q (.ref l) (upd H l (.tup ys)))∨(SqT X.K H p ys∧Q (.ref p) H))) Q7:=by
 intro H b st ps vs Q S r P
 unfold Q7 at P
 split at P
 ·rename_i p
  obtain ⟨v,rfl,r1⟩:=RVs.one r
  split at P
  ·rename_i l e
   cases p with
   |tup m =>
    have e':m=l:=AS e
    subst e'
    have r0:=r1
    unfold RV at r1
    obtain ⟨a,xs,rfl,h2,h3⟩:=r1
    exact ⟨a,xs,rfl,.inr ⟨h2.sq,PostE.here P S r0⟩⟩
   |lst m =>
    obtain ⟨a,xs,rfl,h2,h3⟩:=Q6 S r1 e
    exact ⟨a,xs,rfl,.inl ⟨h2,fun p hp=>PostE.layT P S h3 hp⟩⟩
   |ref i =>
    obtain ⟨a,xs,rfl,h2,h3⟩:=Q6 S r1 e
    exact ⟨a,xs,rfl,.inl ⟨h2,fun p hp=>PostE.layT P S h3 hp⟩⟩
   |_=>cases e
  ·exact P.elim
 ·exact P.elim
def wt:List PV->qC->Rs PV:=fun ps st=>match ps with
 |[.int i,.int j] => .ok (.int (if j > i then j else i)) st
 |_ => .no
def zZ:List PV->qC->Rs PV:=fun ps st=>match ps with
 |[.int i,.int j] => .ok (.int (if j < i then j else i)) st
 |_ => .no
theorem qEs:Z3 X E (fun xs H Q => ∃ i j,xs=[.int i,.int j]∧Q (.int (if j > i then j else i)) H) wt:=by
 intro H b st ps vs Q S r P
 unfold wt at P
 split at P
 ·obtain ⟨v,w,rfl,r1,r2⟩:=RVs.two r
  unfold RV at r1 r2;subst r1;subst r2
  exact ⟨_,_,rfl,PostE.here P S Qe⟩
 ·exact P.elim
theorem qDv:Z3 X E (fun xs H Q => ∃ i j,xs=[.int i,.int j]∧Q (.int (if j < i then j else i)) H) zZ:=by
 intro H b st ps vs Q S r P
 unfold zZ at P
 split at P
 ·obtain ⟨v,w,rfl,r1,r2⟩:=RVs.two r
  unfold RV at r1 r2;subst r1;subst r2
  exact ⟨_,_,rfl,PostE.here P S Qe⟩
 ·exact P.elim
end
def qp:FS:=fun r st => .nx r st
def qP (F G:FS):FS:=fun r st=>match F r st with
 | .nx r' st'=>G r' st'
 |o=>o
section
variable {X:Cx} {E:XK} {e a c d:Expr} {es:List Expr} {f fa fb fc:FE} {pos:Pos} {F G:FS} {s1:Stmt} {ss:List Stmt}
theorem qw:VSs X E [] qp:=PSs.imp qCd fun D s H ⟨b,r,st,S,R,P⟩=>P s H b (Ext.refl _ _) S R
theorem PostS.seq {K:W.Frag} {E:XK} {H:Hp} {b:Bz} {o:RS} {G:FS} {D:Ends} (P:PostS K E H b (match o with | .nx r' st'=>G r' st' |o=>o) D):PostS K E H b o { D with nx:=rdS K E G D }:=by
 cases o with
 |nx r st=>exact fun s H' b' e S R=>⟨b',r,st,S,R,PostS.ext (show PostS K E H b (G r st) D from P) e⟩
 |rt p st=>exact P
 |bk p st=>exact P
 |ct p st=>exact P
 |ex x st=>exact P
 |no=>exact P
theorem qO (h1:VS X E s1 F) (h2:VSs X E ss G):VSs X E (s1::ss) (qP F G):=PSs.imp (qAh h1 h2) fun D s H ⟨b,r,st,S,R,P⟩=>⟨b,r,st,S,R,PostS.seq P⟩
theorem qR (h1:VS X E s1 F):VSs X E [s1] F:=qC4 h1
def WH (f:FE):FS:=fun r st=>(f r st).bindS fun _ s => .nx r s
theorem qCQ (h:VE X E e f) (hs:swapsWith e none pos.line X.env=pure false:=by rfl):VS X E (.Expr e pos) (WH f):=PS.imp (qCg h hs) fun D s H ⟨b,r,st,S,R,P⟩ =>
 ⟨b,r,st,S,R,PostE.bindS P fun p s1 u H1 b1 e1 S1 r1 P1=>P1 s H1 b1 (Ext.refl _ _) S1 (R.ext e1)⟩
def qj (f:FE):FS:=fun r st=>(f r st).bindS fun p s => .rt p s
theorem qm (h:VE X E e f):VS X E (.Return (some e) pos) (qj f):=PS.imp (qB7 h) fun D s H ⟨b,r,st,S,R,P⟩ =>
 ⟨b,r,st,S,R,PostE.bindS P fun p s1 u H1 b1 e1 S1 r1 P1=>P1 u H1 b1 (Ext.refl _ _) S1 r1⟩
def zK (f:FL):FS:=fun r st=>(f r st).bindS fun l s => .rt (.ref s.length) (s++[.l l])
def QK (t:FT) (F G:FS):FS:=fun r st=>(t r st).bindS fun k s=>if k=true then F r s else G r s
theorem Q9 {t:FT} {bs cs:List Stmt} (hc:VT X E e t) (ha:VSs X E bs F) (hb:VSs X E cs G):VS X E (.If e bs cs pos) (QK t F G):=PS.imp (qFW hc ha hb) fun D s H ⟨b,r,st,S,R,P⟩ =>
 ⟨b,r,st,S,R,PostT.bindS P fun k s1 H1 b1 e1 S1 P1=>by
  cases k with
  |true=>exact jR ⟨b1,r,s1,S1,R.ext e1,P1⟩
  |false=>exact Yu ⟨b1,r,s1,S1,R.ext e1,P1⟩⟩
def qU (i:Nat) (f:FE):FS:=fun r st=>(f r st).bindS fun p s => .nx (r.set i (some p)) s
theorem qh (i:Nat) {x:Str} {p':Pos} (hN:X.N.Nodup) (h:VE X E e f) (hi:X.N[i]? = some x:=by rfl) (hx:Loc X.env.scope x:=by first |exact Or.inl rfl |exact Or.inr rfl) (hs:swapsWith e (some (.Name x p')) pos.line X.env=pure false:=by rfl) (hf:X.fn x=true∨X.env.scope.names.lookup x=some .local:=by first |exact .inl rfl |exact .inr rfl |assumption) :
  VS X E (.Assign [.Name x p'] e pos) (qU i f):=PS.imp (qE6 hN hi hx h hs hf) fun D s H ⟨b,r,st,S,R,P⟩ =>
 ⟨b,r,st,S,R,PostE.bindS P fun p s1 u H1 b1 e1 S1 r1 P1=>P1 _ H1 b1 (Ext.refl _ _) S1 ((R.ext e1).set r1 i)⟩
theorem Ext.adopt {H H':Hp} {b b':Bz} {p:Addr} (e:Ext H b H' b') (hn:H p=none):Ext H b H' ⟨b'.b++[p],b'.z⟩:=by
 obtain ⟨n,hb,hh⟩:=e.more
 refine ⟨⟨⟨n++[p],by rw [hb,Aj],fun a ha => ?_⟩,e.zm,e.keep,e.dom⟩,e.same,e.hid,e.fz⟩
 rcases A1.mp ha with ha |ha
 ·exact hh a ha
 ·rw [An.mp ha];exact hn
theorem PostN.bindS {K:W.Frag} {E:XK} {H:Hp} {b:Bz} {r:Rs (List PV)} {k:PV->qC->RS} {D:Ends} {R:VK} (P:PostS K E H b (r.bindS fun l s=>k (.ref s.length) (s++[.l l])) D)
  (h:∀ q st v H1 b1,Ext H b H1 b1->SR K H1 b1 st->RV K H1 b1 q v->PostS K E H1 b1 (k q st) D->R v H1):PostN K E H b r R:=by
 cases r with
 |ok l st =>
  intro p xs H' b' e hn hp hz S rs
  have e':=e.adopt hn
  have hl:b'.b.length=st.length:=S.len
  refine h (.ref st.length) (st++[.l l]) (.ref p) H' ⟨b'.b++[p],b'.z⟩ e' (S.slot (x := .l l) hz hp ⟨xs,rfl,rs⟩) ?_ (PostS.ext (show PostS K E H b (k (.ref st.length) (st++[.l l])) D from P) e')
  unfold RV
  exact ⟨p,rfl,by show (b'.b++[p])[st.length]? = some p;rw [← hl];simp⟩
 |ex x st=>exact P
 |no=>exact P
theorem jz {f:FL} (h:VN X E e f):VS X E (.Return (some e) pos) (zK f):=PS.imp (qB7 h) fun D s H ⟨b,r,st,S,R,P⟩ =>
 ⟨b,r,st,S,R,PostN.bindS (k:=fun q s => .rt q s) P fun p s1 u H1 b1 e1 S1 r1 P1=>P1 u H1 b1 (Ext.refl _ _) S1 r1⟩
abbrev FG:=PV->ql->Option ql
abbrev FGs:=List PV->ql->Option ql
def rdG (K:W.Frag) (g:FG):TG:=fun v s H Q => ∃ b r p st,SR K H b st∧REnv K H b r s∧RV K H b p v ∧ ∃ r',g p r=some r' ∧ ∀ s',REnv K H b r' s'->Q s' H
def qGU (K:W.Frag) (g:FGs):TGs:=fun v s H Q => ∃ b r p st,SR K H b st∧REnv K H b r s∧RVs K H b p v ∧ ∃ r',g p r=some r' ∧ ∀ s',REnv K H b r' s'->Q s' H
abbrev VG (X:Cx) (e:Expr) (g:FG):Prop:=PG X e (rdG X.K g)
abbrev VGs (X:Cx) (e:List Expr) (g:FGs):Prop:=PGs X e (qGU X.K g)
theorem PG.imp {X:Cx} {e:Expr} {t t':TG} (h:PG X e t) (i:∀ v s H Q,t' v s H Q->t v s H Q):PG X e t':=fun pins s σ H v u Q I r q=>h pins s σ H v u Q I r (i _ _ _ _ q)
theorem PGs.imp {X:Cx} {e:List Expr} {t t':TGs} (h:PGs X e t) (i:∀ v s H Q,t' v s H Q->t v s H Q):PGs X e t':=fun pins s σ H v u Q I r q=>h pins s σ H v u Q I r (i _ _ _ _ q)
def QO (i:Nat):FG:=fun p r=>some (r.set i (some p))
theorem QV (i:Nat) {x:Str} (hN:X.N.Nodup) (hi:X.N[i]? = some x:=by rfl) (hx:Loc X.env.scope x:=by first |exact Or.inl rfl |exact Or.inr rfl) (hf:X.fn x=true∨X.env.scope.names.lookup x=some .local:=by first |exact .inl rfl |exact .inr rfl |assumption):VG X (.Name x pos) (QO i) :=
 PG.imp (qCp hN hi hx hf) fun v s H Q ⟨b,r,p,st,S,R,rv,r',e,q⟩=>q _ (by cases e;exact R.set rv i)
def qAP:FGs:=fun l r=>match l with
 |[]=>some r
 |_=>none
def WY (g:FG) (gs:FGs):FGs:=fun l r=>match l with
 |p::ps=>match g p r with
  |some r'=>gs ps r'
  |none=>none
 |[]=>none
theorem yV:VGs X [] qAP:=PGs.imp qDJ fun v s H Q ⟨b,r,p,st,S,R,rv,r',e,q⟩=>by
 cases p with
 |nil=>unfold RVs at rv;subst rv;cases e;exact ⟨rfl,q s R⟩
 |cons _ _=>cases e
theorem wY {g:FG} {gs:FGs} (h1:VG X e g) (h2:VGs X es gs) (hs:(assignEach (e::es) X.env).map (·.2)=assign e X.env::(assignEach es X.env).map (·.2):=by rfl):VGs X (e::es) (WY g gs) :=
 PGs.imp (qBr h1 h2 hs) fun v s H Q ⟨b,r,p,st,S,R,rv,r',e,q⟩=>by
  cases p with
  |nil=>cases e
  |cons p ps =>
   unfold RVs at rv
   obtain ⟨x,xr,rfl,h3,h4⟩:=rv
   unfold WY at e
   dsimp only at e
   cases e2:g p r with
   |none=>rw [e2] at e;cases e
   |some r2 =>
    rw [e2] at e
    exact ⟨x,xr,rfl,b,r,p,st,S,R,h3,r2,e2,fun s' R'=>⟨b,r2,ps,st,S,R',h4,r',e,q⟩⟩
def Jc (n:Nat) (gs:FGs):FG:=fun p r=>match p with
 | .tup l=>if l.length=n then gs l r else none
 |_=>none
theorem Yy {k:Nat} {n:Nat} {gs:FGs} (hc:X.calm=true) (h:VGs X es gs) (hn:(assignEach es X.env).length=n:=by rfl) (hst:(assignEach es X.env).findIdx? (·.1)=none:=by rfl):VG X (.Tuple es k pos) (Jc n gs) :=
 PG.imp (qE0 hc h hn hst) fun v s H Q ⟨b,r,p,st,S,R,rv,r',e,q⟩=>by
  unfold Jc at e
  split at e
  ·rename_i l
   split at e
   ·rename_i hl
    unfold RV at rv
    obtain ⟨a,xs,rfl,h2,h3⟩:=rv
    exact ⟨a,xs,rfl,h2.sq,by rw [← h3.length];exact hl,b,r,l,st,S,R,h3,r',e,q⟩
   ·cases e
  ·cases e
def Yk (f:FE) (g:FG):FS:=fun r st=>(f r st).bindS fun p s=>match g p r with
 |some r' => .nx r' s
 |none => .no
theorem qAo {g:FG} (h:VE X E e f) (hg:VG X d g) (hs:swapsWithSole [d] e pos.line X.env=pure false:=by rfl) (hw:swappedStores [d] e X.env=pure none:=by rfl)
  (h1:(assignEach [d] X.env).map (·.2)=[assign d X.env]:=by rfl):VS X E (.Assign [d] e pos) (Yk f g):=PS.imp (qA7 h hg hs hw h1) fun D s H ⟨b,r,st,S,R,P⟩ =>
 ⟨b,r,st,S,R,PostE.bindS P fun p s1 u H1 b1 e1 S1 r1 P1=>by
  cases e2:g p r with
  |none=>rw [e2] at P1;exact P1.elim
  |some r'=>rw [e2] at P1;exact ⟨b1,r,p,s1,S1,R.ext e1,r1,r',e2,fun s' R'=>P1 s' H1 b1 (Ext.refl _ _) S1 R'⟩⟩
def yk (i j:Nat) (t:FA):FS:=fun r st=>(t r st).bindS fun l s=>match l with
 |[p,q] => .nx ((r.set i (some p)).set j (some q)) s
 |_ => .no
theorem qFF (i j:Nat) {x y:Str} {t:FA} {px py pt:Pos} {kt k2 pt2} (hc:X.calm=true) (hN:X.N.Nodup) (ha:VA X E [a,c] t) (hw:swappedStores [.Tuple [.Name x px,.Name y py] kt pt] (.Tuple [a,c] k2 pt2) X.env=pure (some [x,y]):=by rfl)
  (hi:X.N[i]? = some x:=by rfl) (hj:X.N[j]? = some y:=by rfl) (hij:i≠j:=by decide) (hx:X.env.scope.names.lookup x=some .local:=by rfl) (hy:X.env.scope.names.lookup y=some .local:=by rfl)
  (hs:swapsWithSole [.Tuple [.Name x px,.Name y py] kt pt] (.Tuple [a,c] k2 pt2) pos.line X.env=pure false:=by rfl):VS X E (.Assign [.Tuple [.Name x px,.Name y py] kt pt] (.Tuple [a,c] k2 pt2) pos) (yk i j t) :=
 PS.imp (qEi hc hN hi hj hij hx hy ha hw hs) fun D s H ⟨b,r,st,S,R,P⟩=>⟨b,r,st,S,R,PostA.bindS P fun l s1 us H1 b1 e1 S1 r1 P1=>by
  split at P1
  ·obtain ⟨u,v,rfl,h1,h2⟩:=RVs.two r1
   exact ⟨u,v,rfl,P1 _ H1 b1 (Ext.refl _ _) S1 (((R.ext e1).set h1 i).set h2 j)⟩
  ·exact P1.elim⟩
def Zw (st:qC) (o i v:PV):Option qC:=match o,i with
 | .ref n,.int k=>match st[n]? with
  |some (.l xs)=>match ixN xs.length k with
   |some j=>some (st.set n (.l (xs.set j v)))
   |none=>none
  |_=>none
 |_,_=>none
def jw (fo fi f:FE):FS:=fun r st=>(f r st).bindS fun p s1=>(fo r s1).bindS fun o s2=>(fi r s2).bindS fun i s3=>match Zw s3 o i p with
 |some s4 => .nx r s4
 |none => .no
theorem qAa {K:W.Frag} {H:Hp} {b:Bz} {st st':qC} {o i p:PV} {ov iv v:V} {Q:Hp->Prop} (S:SR K H b st) (ro:RV K H b o ov) (ri:RV K H b i iv) (rp:RV K H b p v) (e:Zw st o i p=some st')
  (q:∀ H' b',Ext H b H' b'->SR K H' b' st'->Q H'):qDc ov iv v H Q:=by
 unfold Zw at e
 split at e
 ·rename_i n k
  split at e
  ·rename_i xs e1
   split at e
   ·rename_i j e2
    cases e
    unfold RV at ro ri
    obtain ⟨a,rfl,ha⟩:=ro
    obtain ⟨a',o',h1,h2,vs,rfl,h4⟩:=S.at_ n _ e1
    rw [ha] at h1;cases h1
    have hm:a∈b.b:=Am ha
    refine ⟨a,vs,k,j,rfl,ri,h2,by rw [← h4.length];exact e2,q _ b (Ext.wr hm S.zb (qF0 h2)) (S.wr (x := .l (xs.set j p)) ha ⟨_,rfl,?_⟩)⟩
    have ew:Ext H b (upd H a (.lst (vs.set j v))) b:=Ext.wr hm S.zb (qF0 h2)
    exact RVs.set (RV.ext ew p rp) j (RVs.ext ew xs h4)
   ·cases e
  ·cases e
 ·cases e
theorem qEw {fo fi:FE} {o i:Expr} {tpos:Pos} (ho:VE X E o fo) (hi:VE X E i fi) (h:VE X E e f)
  (hs:swapsWithSole [.Subscript o i tpos] e pos.line X.env=pure false:=by rfl) (hw:swappedStores [.Subscript o i tpos] e X.env=pure none:=by rfl) (h1:(assignEach [.Subscript o i tpos] X.env).map (·.2)=[assign (.Subscript o i tpos) X.env]:=by rfl)
  (ha:∀ v,assign (.Subscript o i tpos) X.env v=(do
   let ov ← holding [v] (eval o X.env)
   let iv ← holding [v,ov] (eval i X.env)
   standAt tpos
   holding [v,ov,iv] (setItem ov iv v)
   release [v,ov,iv] []):=by intro _;rfl):VS X E (.Assign [.Subscript o i tpos] e pos) (jw fo fi f) :=
 PS.imp (qA7 h (qEg ho hi qA5 ha) hs hw h1) fun D s H ⟨b,r,st,S,R,P⟩=>⟨b,r,st,S,R,PostE.bindS P fun p s1 u H1 b1 e1 S1 r1 P1 =>
  ⟨b1,r,s1,S1,R.ext e1,PostE.bindS P1 fun o s2 ou H2 b2 e2 S2 r2 P2=>⟨b2,r,s2,S2,(R.ext e1).ext e2,PostE.bindS P2 fun i s3 iu H3 b3 e3 S3 r3 P3=>by
   split at P3
   ·rename_i s4 e4
    exact qAa S3 (RV.ext e3 o r2) r3 (RV.ext e3 p (RV.ext e2 p r1)) e4 fun H' b' e' S'=>P3 s H' b' e' S' ((((R.ext e1).ext e2).ext e3).ext e')
   ·exact P3.elim⟩⟩⟩
structure ItP where
 l:List PV
 G:qC->Prop
def Fz (H H':Hp):Prop := ∀ a o u,H a=some (.frz o u)->H' a=some (.frz o u)
def zc (K:W.Frag) (H0:Hp) (b0:Bz) (J:It) (w:ItP):Prop := ∀ H1 b1 st1,WE H0 b0 H1 b1->Fz H0 H1->SR K H1 b1 st1->w.G st1 ->
 (∀ (i:Nat) (p:PV),w.l[i]? = some p->J.go i H1 ∧ ∀ x H2,J.yld i H1 x H2->Same H1 H2∧SR K H2 b1 st1∧RV K H2 b1 p x) ∧ ∀ i,w.l.length≤i->J.stop i H1
def PostI (K:W.Frag) (E:XK) (H:Hp) (b:Bz) (r:Rs ItP) (R:It->Hp->Prop):Prop:=match r with
 | .ok w st => ∀ J H' b',Ext H b H' b'->SR K H' b' st->zc K H' b' J w->R J H'
 | .ex x st=>XP K E H b x st
 | .no=>False
abbrev FI:=ql->qC->Rs ItP
def rdI (K:W.Frag) (E:XK) (f:FI):TI:=fun s H R => ∃ b r st,SR K H b st∧REnv K H b r s∧PostI K E H b (f r st) R
abbrev VI (X:Cx) (E:XK) (tg e:Expr) (f:FI):Prop:=PI X tg e (rdI X.K E f)
theorem PostI.ext {K:W.Frag} {E:XK} {H H1:Hp} {b b1:Bz} {r:Rs ItP} {R:It->Hp->Prop} (h:PostI K E H b r R) (e:Ext H b H1 b1):PostI K E H1 b1 r R:=by
 cases r with
 |ok p st=>exact fun J H' b' e'=>h J H' b' (e.trans e')
 |ex x st=>exact XP.ext h e
 |no=>exact h
theorem PostE.bindI {K:W.Frag} {E:XK} {H:Hp} {b:Bz} {r:Rs PV} {k:PV->qC->Rs ItP} {Q:It->Hp->Prop} {R:VK} (P:PostI K E H b (r.bind k) Q)
  (h:∀ p st v H1 b1,Ext H b H1 b1->SR K H1 b1 st->RV K H1 b1 p v->PostI K E H1 b1 (k p st) Q->R v H1):PostE K E H b r R:=by
 cases r with
 |ok p st=>exact fun v H1 b1 e S r=>h p st v H1 b1 e S r (PostI.ext (show PostI K E H b (k p st) Q from P) e)
 |ex x st=>exact P
 |no=>exact P
theorem PostA.bindI {K:W.Frag} {E:XK} {H:Hp} {b:Bz} {r:Rs (List PV)} {k:List PV->qC->Rs ItP} {Q:It->Hp->Prop} {R:List V->Hp->Prop} (P:PostI K E H b (r.bind k) Q)
  (h:∀ p st v H1 b1,Ext H b H1 b1->SR K H1 b1 st->RVs K H1 b1 p v->PostI K E H1 b1 (k p st) Q->R v H1):PostA K E H b r R:=by
 cases r with
 |ok p st=>exact fun v H1 b1 e S r=>h p st v H1 b1 e S r (PostI.ext (show PostI K E H b (k p st) Q from P) e)
 |ex x st=>exact P
 |no=>exact P
def qGH (p:PV) (st:qC):Rs ItP:=match p with
 | .ref i=>match asL st (.ref i) with
  |some l => .ok ⟨l,fun s=>s[i]? = some (.l l)⟩ st
  |none => .no
 |p=>match zM st p with
  |some l => .ok ⟨l,fun _=>True⟩ st
  |none => .no
def Qf (f:FE):FI:=fun r st=>(f r st).bind qGH
theorem qD1 {l tg:Expr} {tl:TE} (hl:PE X l tl):PI X tg l (fun σ H R=>tl σ H fun x H1 => ∃ a,x = .ref a∧(((∃ xs,SqL X.K H1 a xs)∧R (Itl X.K a) H1)∨((∃ xs,SqT X.K H1 a xs)∧R (Itt X.K a) H1))):=by
 intro pins s σ H R I h
 refine thn (hl pins s σ H _ I h) fun v s1 ⟨x,H1,I1,r1,q1⟩ => ?_
 obtain ⟨a,e,q⟩:=q1
 subst e
 cases r1
 rcases q with ⟨⟨xs,hq⟩,q⟩ |⟨⟨xs,hq⟩,q⟩
 ·obtain ⟨its,rv,p,hz⟩:=I1.list hq
  refine wpAny_pyIter_list p.isList ?_
  refine ⟨s1.heap.objs.size,[s1.heap.objs.size],_,_,H1,rfl,I1.kept (t':=s1.toks) fun b o e=>AE _ e,Ju a _,⟨_,AU _ rfl,rfl,rfl⟩,fun b hb => ?_,q⟩
  have e:b=s1.heap.objs.size:=by simpa using hb
  subst e
  exact I1.fpOk (AI _) (I1.hok.fresh (AI _))
 ·obtain ⟨its,rv,p,hz⟩:=I1.tuple hq
  refine wpAny_pyIter_tuple (show s1.heap.IsTuple a its.toArray from p) ?_
  refine ⟨s1.heap.objs.size,[s1.heap.objs.size],_,_,H1,rfl,I1.kept (t':=s1.toks) fun b o e=>AE _ e,ja a _,⟨_,AU _ rfl,rfl,rfl⟩,fun b hb => ?_,q⟩
  have e:b=s1.heap.objs.size:=by simpa using hb
  subst e
  exact I1.fpOk (AI _) (I1.hok.fresh (AI _))
theorem Z5 {K:W.Frag} {H0:Hp} {b0:Bz} {a:Addr} {l:List PV} {G:qC->Prop}
  (h:∀ H1 b1 st1,WE H0 b0 H1 b1->SR K H1 b1 st1->G st1 -> ∃ xs,SqL K H1 a xs∧RVs K H1 b1 l xs):zc K H0 b0 (Itl K a) ⟨l,G⟩:=by
 intro H1 b1 st1 e _ S g
 obtain ⟨xs,hq,r⟩:=h H1 b1 st1 e S g
 refine ⟨fun i p hp => ?_,fun i hi=>⟨xs,hq,by rw [← r.length];exact hi⟩⟩
 obtain ⟨x,hx,rx⟩:=r.get hp
 exact ⟨⟨xs,x,hq,hx⟩,fun y H2 ⟨e2,hy⟩=>by
  subst e2
  have:=hy xs hq
  rw [hx] at this;cases this
  exact ⟨Same.refl _,S,rx⟩⟩
theorem qBG {K:W.Frag} {H0:Hp} {b0:Bz} {a:Addr} {l:List PV} {G:qC->Prop}
  (h:∀ H1 b1 st1,WE H0 b0 H1 b1->SR K H1 b1 st1->G st1 -> ∃ xs,SqT K H1 a xs∧RVs K H1 b1 l xs):zc K H0 b0 (Itt K a) ⟨l,G⟩:=by
 intro H1 b1 st1 e _ S g
 obtain ⟨xs,hq,r⟩:=h H1 b1 st1 e S g
 refine ⟨fun i p hp => ?_,fun i hi=>⟨xs,hq,by rw [← r.length];exact hi⟩⟩
 obtain ⟨x,hx,rx⟩:=r.get hp
 exact ⟨⟨xs,x,hq,hx⟩,fun y H2 ⟨e2,hy⟩=>by
  subst e2
  have:=hy xs hq
  rw [hx] at this;cases this
  exact ⟨Same.refl _,S,rx⟩⟩
theorem z6 {tg:Expr} (h:VE X E e f):VI X E tg e (Qf f):=fun pins s σ H R I q=>qD1 h pins s σ H R I (by
 obtain ⟨b,r,st,S,RE,P⟩:=q
 refine ⟨b,r,st,S,RE,PostE.bindI P fun p s1 u H1 b1 e1 S1 r1 P1 => ?_⟩
 unfold qGH at P1
 split at P1
 ·rename_i i
  split at P1
  ·rename_i l el
   have r0:=r1
   unfold RV at r1
   obtain ⟨a,rfl,ha⟩:=r1
   obtain ⟨a',xs,e2,hq,hr⟩:=Q6 S1 r0 el
   cases e2
   refine ⟨a,rfl,.inl ⟨⟨xs,hq⟩,P1 _ H1 b1 (Ext.refl _ _) S1 (Z5 fun H2 b2 st2 e2 S2 g2 => ?_)⟩⟩
   obtain ⟨a'',o,k1,k2,vs,rfl,k4⟩:=S2.at_ i _ g2
   rw [e2.ix ha] at k1;cases k1
   exact ⟨vs,SqL.of k2,k4⟩
  ·exact P1.elim
 ·split at P1
  ·rename_i l el
   cases p with
   |tup m =>
    have em:m=l:=AS el
    subst em
    unfold RV at r1
    obtain ⟨a,xs,rfl,h2,h3⟩:=r1
    exact ⟨a,rfl,.inr ⟨⟨xs,h2.sq⟩,P1 _ H1 b1 (Ext.refl _ _) S1 (qBG fun H2 b2 st2 e2 S2 _=>⟨xs,(h2.wext e2).sq,RVs.wext e2 m h3⟩)⟩⟩
   |lst m =>
    have em:m=l:=AS el
    subst em
    unfold RV at r1
    obtain ⟨a,xs,rfl,h2,h3⟩:=r1
    exact ⟨a,rfl,.inl ⟨⟨xs,h2.sq⟩,P1 _ H1 b1 (Ext.refl _ _) S1 (Z5 fun H2 b2 st2 e2 S2 _=>⟨xs,(h2.wext e2).sq,RVs.wext e2 m h3⟩)⟩⟩
   |ref i=>rename_i hx;exact (hx i rfl).elim
   |_=>cases el
  ·exact P1.elim)
def YH (lo hi:Int):List PV:=(List.range (hi - lo).toNat).map fun (i:Nat)=>PV.int (lo + (i:Int))
def yU (l:List PV) (st:qC):Rs ItP:=match l with
 |[.int j]=>if -(2 ^ 62)≤j∧j < 2 ^ 62 then .ok ⟨YH 0 j,fun _=>True⟩ st else .no
 |_ => .no
theorem qBh {K:W.Frag} {H0:Hp} {b0:Bz} {lo hi:Int}:zc K H0 b0 (Itr lo (hi - lo).toNat) ⟨YH lo hi,fun _=>True⟩:=by
 intro H1 b1 st1 e _ S g
 have hl:(YH lo hi).length=(hi - lo).toNat:=by simp [YH]
 refine ⟨fun i p hp => ?_,fun i hi'=>by rw [show (ItP.mk (YH lo hi) fun _=>True).l.length=(hi - lo).toNat from hl] at hi';exact hi'⟩
 have hi':i < (hi - lo).toNat:=by
  have:=(AG.mp hp).1
  rw [← hl];exact this
 unfold YH at hp
 dsimp only at hp
 rw [Ai,List.getElem?_range hi'] at hp
 cases hp
 exact ⟨hi',fun x H2 ⟨e1,e2⟩=>by subst e1;subst e2;exact ⟨Same.refl _,S,Qe⟩⟩
def wQ (t:FA):FI:=fun r st=>(t r st).bind yU
theorem wW {tg:Expr} {t:FA} {p:Pos} (hg:Gl X "range") (hm:X.mg "range" = none) (ha:VA X E [a] t) (hs:starEach [a] X.env=[(false,eval a X.env)]:=by rfl):VI X E tg (.Call (.Name "range" p) [a] [] pos) (wQ t):=fun pins s σ H R I q=>Jk hg hm ha hs pins s σ H R I (by
 obtain ⟨b,r,st,S,RE,P⟩:=q
 refine ⟨b,r,st,S,RE,PostA.bindI P fun l s1 us H1 b1 e1 S1 r1 P1 => ?_⟩
 unfold yU at P1
 split at P1
 ·obtain ⟨u,rfl,h1⟩:=RVs.one r1
  unfold RV at h1;subst h1
  split at P1
  ·rename_i j hj
   refine ⟨j,rfl,hj.1,hj.2,?_⟩
   have:=P1 (Itr 0 (j - 0).toNat) H1 b1 (Ext.refl _ _) S1 qBh
   rw [Int.sub_zero] at this
   exact this
  ·exact P1.elim
 ·exact P1.elim)
theorem PSs.unbare {X:Cx} {st:List Stmt} {t:TS} (h:PSs X.nox st t) {pins:List (Addr×Obj)} {s:Shared} {σ:L2.St} {H:Hp} {D:Ends} {E:Value->Shared->Prop} (I:L2.Inv X pins σ H s) (q:t D σ H):wpAny (model X.prog X.w) X.A (execs st X.env) (SP X pins D) E s :=
 wpAny_noRaise (thn (h pins s σ H D (I.wish _) q) fun f s' hs=>hs.unwish)
theorem PT.unbare {X:Cx} {e:Expr} {t:TT} (h:PT X.nox e t) {pins:List (Addr×Obj)} {s:Shared} {σ:L2.St} {H:Hp} {Q:Bool->Hp->Prop} {E:Value->Shared->Prop} (I:L2.Inv X pins σ H s) (q:t σ H Q):wpAny (model X.prog X.w) X.A (isTrue e X.env (eval e X.env)) (TP X pins σ Q) E s :=
 wpAny_noRaise (thn (h pins s σ H Q (I.wish _) q) fun f s' ⟨H',I',q'⟩=>⟨H',I'.unwish,q'⟩)
theorem PG.unbare {X:Cx} {tg:Expr} {t:TG} (h:PG X.nox tg t) {pins:List (Addr×Obj)} {s:Shared} {σ:L2.St} {H:Hp} {v:V} {u:Value} {Q:L2.St->Hp->Prop} {E:Value->Shared->Prop} (I:L2.Inv X pins σ H s) (r:RelV v u) (q:t v σ H Q):wpAny (model X.prog X.w) X.A (assign tg X.env u) (fun _ s' => ∃ σ' H',L2.Inv X pins σ' H' s'∧Q σ' H') E s :=
 wpAny_noRaise (thn (h pins s σ H v u Q (I.wish _) r q) fun f s' ⟨σ',H',I',q'⟩=>⟨σ',H',I'.unwish,q'⟩)
theorem jy {tg iter:Expr} {body:List Stmt} {wi:TI} {g:TG} {tb:TS} {pos:Pos} (hi:PI X tg iter wi) (hg:PG X.nox tg g) (hb:PSs X.nox body tb)
  (hs:∀ x,foldedSetIterable iter X.env x=pure x:=by intro _;rfl):PS X (.For tg iter body [] pos) (qGe wi g tb):=by
 intro pins s σ H D I h
 refine wpAny_For (thn (hi pins s σ H _ I h) fun v s1 h1=>thn h1 fun itv s2 h2 => ?_) hs
 obtain ⟨it,fp,tn,J,H2,e,I2,T,st2,f2,W,⟨m0,w0⟩,turn⟩:=h2
 subst e
 have stat:∀ {H':Hp},(∀ b∈fp,H' b=none) -> ∀ b∈fp,Wz X pins H' b:=fun hn b hb=>⟨hn b hb,(f2 b hb).2⟩
 refine codeAny_forLoop_any (fun n s' => ∃ i σ' H',L2.Inv X pins σ' H' s'∧tn i s'.heap∧(∀ b∈fp,H' b=none)∧W i n σ' H') ?_ m0 ⟨0,σ,H2,I2,st2,fun b hb=>(f2 b hb).1,w0⟩
 rintro n s3 ⟨i,σ3,H3,I3,st3,fr3,w3⟩
 rcases turn i n σ3 H3 w3 with ⟨stop,qn⟩ |⟨go,N,hN,step⟩
 ·refine thn (T.done X rfl rfl rfl rfl i pins s3 σ3 H3 _ I3 (stat fr3) st3 stop) fun r s4 ⟨hr,I4⟩ => ?_
  subst hr
  exact Bh ⟨σ3,H3,I4,qn⟩
 ·refine thn (T.item X rfl rfl rfl rfl i pins s3 σ3 H3 _ I3 (stat fr3) st3 go) fun r s4 ⟨u,hr,h4⟩ => ?_
  subst hr
  refine thn h4 fun _ s5 ⟨x,H5,I5,r5,y5,st5,fr5⟩ => ?_
  have I5':=I5.pinned (stat fr5) (T.obj _ _ st5)
  refine thn (PG.unbare hg I5' r5 (step x H5 y5)) fun _ s6 ⟨σ6,H6,I6,q6⟩ => ?_
  refine thn (PSs.unbare hb I6 q6) fun f s7 q7 => ?_
  have again:∀ {σ7:L2.St} {H7:Hp},L2.Inv X (pins++Ww fp s5.heap) σ7 H7 s7->N σ7 H7 -> ∃ m,m < n ∧ ∃ i σ' H',L2.Inv X pins σ' H' s7∧tn i s7.heap∧(∀ b∈fp,H' b=none)∧W i m σ' H':=fun {σ7 H7} I7 n7=>by
   obtain ⟨m',hm,w7⟩:=hN σ7 H7 n7
   refine ⟨m',hm,i + 1,σ7,H7,I7.unpinned,T.keep _ _ _ st5 fun b hb o e=>(I7.pin (b,o) (Ap _ (Ap _ (WG hb e)))).1,fun b hb => ?_,w7⟩
   obtain ⟨o,e,d⟩:=T.obj _ _ st5 b hb
   exact (I7.pin (b,o) (Ap _ (Ap _ (WG hb e)))).2.1
  cases f with
  |next=>obtain ⟨σ7,H7,I7,n7⟩:=q7;exact again I7 n7
  |cont=>obtain ⟨σ7,H7,I7,n7⟩:=q7;exact again I7 n7
  |brk=>obtain ⟨σ7,H7,I7,q7⟩:=q7;exact ⟨σ7,H7,I7.unpinned,q7⟩
  |ret v=>obtain ⟨x7,σ7,H7,I7,r7,q7⟩:=q7;exact ⟨x7,σ7,H7,I7.unpinned,r7,q7⟩
theorem Jz {c:Expr} {body:List Stmt} {tc:TT} {tb:TS} (hc:PT X.nox c tc) (hb:PSs X.nox body tb):PS X (.While c body [] pos) (qEz tc tb):=by
 intro pins s σ H D I h
 obtain ⟨W,⟨m0,w0⟩,turn⟩:=h
 refine wpAny_While (codeAny_whileLoop (fun n s' => ∃ σ' H',L2.Inv X pins σ' H' s'∧W n σ' H') ?_ m0 ⟨σ,H,I,w0⟩)
 rintro n s1 ⟨σ1,H1,I1,w1⟩
 refine thn (PT.unbare hc I1 (turn n σ1 H1 w1)) fun b s2 ⟨H2,I2,q2⟩ => ?_
 cases b with
 |true =>
  obtain ⟨N,hN,q2⟩:=q2
  rw [AH rfl]
  refine thn (PSs.unbare hb I2 q2) fun f s3 q3 => ?_
  cases f with
  |next =>
   obtain ⟨σ3,H3,I3,n3⟩:=q3
   obtain ⟨m',hm,w3⟩:=hN σ3 H3 n3
   exact ⟨m',hm,σ3,H3,I3,w3⟩
  |cont =>
   obtain ⟨σ3,H3,I3,n3⟩:=q3
   obtain ⟨m',hm,w3⟩:=hN σ3 H3 n3
   exact ⟨m',hm,σ3,H3,I3,w3⟩
  |brk=>exact q3
  |ret v=>exact q3
 |false =>
  rw [AO Ag]
  exact Bh ⟨σ1,H2,I2,q2⟩
open Classical in
noncomputable def QA (G:qC->Prop) (g:FG) (F:FS):List PV->ql->qC->RS
 |[],r,st=>if G st then .nx r st else .no
 |p::ps,r,st=>if G st then
   match g p r with
   |none => .no
   |some r1=>match F r1 st with
    | .nx r2 s2=>QA G g F ps r2 s2
    | .ct r2 s2=>QA G g F ps r2 s2
    | .bk r2 s2 => .nx r2 s2
    | .rt v s2 => .rt v s2
    | .ex _ _ => .no
    | .no => .no
  else .no
noncomputable def wR (fi:FI) (g:FG) (F:FS):FS:=fun r st=>(fi r st).bindS fun w s=>QA w.G g F w.l r s
theorem PostI.bindS {K:W.Frag} {E:XK} {H:Hp} {b:Bz} {r:Rs ItP} {k:ItP->qC->RS} {D:Ends} {R:It->Hp->Prop} (P:PostS K E H b (r.bindS k) D)
  (h:∀ w st J H1 b1,Ext H b H1 b1->SR K H1 b1 st->zc K H1 b1 J w->PostS K E H1 b1 (k w st) D->R J H1):PostI K E H b r R:=by
 cases r with
 |ok p st=>exact fun J H1 b1 e S r=>h p st J H1 b1 e S r (PostS.ext (show PostS K E H b (k p st) D from P) e)
 |ex x st=>exact P
 |no=>exact P
theorem zQ {tg iter:Expr} {body:List Stmt} {fi:FI} {g:FG} (hi:VI X E tg iter fi) (hg:VG X.nox tg g) (hb:VSs X.nox E0 body F) (hs:∀ x,foldedSetIterable iter X.env x=pure x:=by intro _;rfl):VS X E (.For tg iter body [] pos) (wR fi g F):=by
 refine PS.imp (jy hi hg hb hs) fun D s H ⟨b,r,st,S,R,P⟩ => ?_
 refine ⟨b,r,st,S,R,PostI.bindS P fun w st1 J H1 b1 e1 S1 it P1 => ?_⟩
 refine ⟨fun i m σ' H' => ∃ b2 r2 st2,Ext H1 b1 H' b2∧SR X.K H' b2 st2∧REnv X.K H' b2 r2 σ'∧m=w.l.length + 1 - i∧i≤w.l.length∧PostS X.K E H' b2 (QA w.G g F (w.l.drop i) r2 st2) D,⟨w.l.length + 1,b1,r,st1,Ext.refl _ _,S1,R.ext e1,by omega,A3 _,by simpa using P1⟩,?_⟩
 rintro i m σ' H' ⟨b2,r2,st2,e2,S2,R2,hm,hi',P2⟩
 by_cases hlt:i < w.l.length
 ·have hd:w.l.drop i=w.l[i]::w.l.drop (i + 1):=List.drop_eq_getElem_cons hlt
  rw [hd] at P2
  unfold QA at P2
  by_cases hG:w.G st2
  ·rw [AH hG] at P2
   obtain ⟨h1,h2⟩:=it H' b2 st2 e2.toWE e2.fz S2 hG
   obtain ⟨go,yl⟩:=h1 i w.l[i] (AJ hlt)
   refine .inr ⟨go,fun σ3 H3 => ∃ b3 r3 st3,Ext H1 b1 H3 b3∧SR X.K H3 b3 st3∧REnv X.K H3 b3 r3 σ3∧PostS X.K E H3 b3 (QA w.G g F (w.l.drop (i + 1)) r3 st3) D,?_,?_⟩
   ·rintro σ3 H3 ⟨b3,r3,st3,k1,k2,k3,k4⟩
    exact ⟨w.l.length + 1 - (i + 1),by omega,b3,r3,st3,k1,k2,k3,rfl,hlt,k4⟩
   ·intro x H3 hx
    obtain ⟨e3',S3,r3⟩:=yl x H3 hx
    have e3:Ext H' b2 H3 b2:=Ext.of_same e3'
    cases eg:g w.l[i] r2 with
    |none=>rw [eg] at P2;exact P2.elim
    |some r4 =>
     rw [eg] at P2
     refine ⟨b2,r2,w.l[i],st2,S3,R2.ext e3,r3,r4,eg,fun s4 R4=>⟨b2,r4,st2,S3,R4,?_⟩⟩
     have P3:=PostS.ext P2 e3
     dsimp only at P3
     have e13:=e2.trans e3
     cases eF:F r4 st2 with
     |nx r5 s5=>rw [eF] at P3;exact fun s6 H6 b6 e6 S6 R6=>⟨b6,r5,s5,e13.trans e6,S6,R6,PostS.ext P3 e6⟩
     |ct r5 s5=>rw [eF] at P3;exact fun s6 H6 b6 e6 S6 R6=>⟨b6,r5,s5,e13.trans e6,S6,R6,PostS.ext P3 e6⟩
     |bk r5 s5=>rw [eF] at P3;exact P3
     |rt v s5=>rw [eF] at P3;exact P3
     |ex x s5=>rw [eF] at P3;exact P3.elim
     |no=>rw [eF] at P3;exact P3.elim
  ·rw [AO hG] at P2;exact P2.elim
 ·have hl:i=w.l.length:=by omega
  subst hl
  rw [List.drop_length] at P2
  unfold QA at P2
  by_cases hG:w.G st2
  ·rw [AH hG] at P2
   obtain ⟨h1,h2⟩:=it H' b2 st2 e2.toWE e2.fz S2 hG
   exact .inl ⟨h2 _ (AI _),P2 σ' H' b2 (Ext.refl _ _) S2 R2⟩
  ·rw [AO hG] at P2;exact P2.elim
def wC (c:FT) (F:FS):Nat->ql->qC->RS
 |0,_,_ => .no
 |n + 1,r,st=>match c r st with
  | .ok true s=>match F r s with
   | .nx r2 s2=>wC c F n r2 s2
   | .ct r2 s2=>wC c F n r2 s2
   | .bk r2 s2 => .nx r2 s2
   | .rt v s2 => .rt v s2
   | .ex _ _ => .no
   | .no => .no
  | .ok false s => .nx r s
  | .ex _ _ => .no
  | .no => .no
theorem qBY (n:Nat) {body:List Stmt} {c:FT} (hc:VT X.nox E0 e c) (hb:VSs X.nox E0 body F):VS X E (.While e body [] pos) (wC c F n):=by
 refine PS.imp (Jz hc hb) fun D s H ⟨b,r,st,S,R,P⟩ => ?_
 refine ⟨fun m σ' H' => ∃ b2 r2 st2,SR X.K H' b2 st2∧REnv X.K H' b2 r2 σ'∧PostS X.K E H' b2 (wC c F m r2 st2) D,⟨n,b,r,st,S,R,P⟩,?_⟩
 rintro m σ' H' ⟨b2,r2,st2,S2,R2,P2⟩
 cases m with
 |zero=>exact P2.elim
 |succ m =>
  unfold wC at P2
  refine ⟨b2,r2,st2,S2,R2,?_⟩
  cases ec:c r2 st2 with
  |no=>rw [ec] at P2;exact P2.elim
  |ex x s3=>rw [ec] at P2;exact P2.elim
  |ok k s3 =>
   rw [ec] at P2
   intro H3 b3 e3 S3
   cases k with
   |false=>exact Yu (P2 σ' H3 b3 e3 S3 (R2.ext e3))
   |true =>
    refine jR ⟨fun σ4 H4 => ∃ b4 r4 st4,SR X.K H4 b4 st4∧REnv X.K H4 b4 r4 σ4∧PostS X.K E H4 b4 (wC c F m r4 st4) D,fun σ4 H4 h4=>⟨m,Nat.lt_succ_self m,h4⟩,b3,r2,s3,S3,R2.ext e3,?_⟩
    have P3:=PostS.ext P2 e3
    dsimp only at P3
    cases eF:F r2 s3 with
    |nx r5 s5=>rw [eF] at P3;exact fun s6 H6 b6 e6 S6 R6=>⟨b6,r5,s5,S6,R6,PostS.ext P3 e6⟩
    |ct r5 s5=>rw [eF] at P3;exact fun s6 H6 b6 e6 S6 R6=>⟨b6,r5,s5,S6,R6,PostS.ext P3 e6⟩
    |bk r5 s5=>rw [eF] at P3;exact P3
    |rt v s5=>rw [eF] at P3;exact P3
    |ex x s5=>rw [eF] at P3;exact P3.elim
    |no=>rw [eF] at P3;exact P3.elim
end
theorem qt {x n:Str} {a c:Addr} {r:List (Str×Addr)} (h:List.lookup x ((n,a)::r)=some c):(x=n∧a=c)∨(x≠n∧List.lookup x r=some c):=by
 rw [Ah] at h
 cases hb:x==n with
 |true=>rw [hb] at h;exact .inl ⟨beq_iff_eq.mp hb,AS h⟩
 |false=>rw [hb] at h;exact .inr ⟨fun z=>(by rw [beq_iff_eq.mpr z] at hb;cases hb),h⟩
theorem QS {x:Str} {c:Addr}:∀ {names:List (Str×NameKind)} {n:Nat} {acc:List (Str×Addr)},(cellsFrom n names acc).lookup x=some c->(n≤c∧(x,NameKind.cell)∈names)∨acc.lookup x=some c
 |[],_,_,h => .inr h
 |(nm,k)::r,n,acc,h=>by
  unfold cellsFrom at h
  split at h
  ·rename_i hk
   have hk':k = .cell:=by simpa using hk
   rcases QS h with ⟨h1,h2⟩ |h1
   ·exact .inl ⟨Nat.le_of_succ_le h1,AD _ h2⟩
   ·rcases qt h1 with ⟨e1,e2⟩ |⟨_,e2⟩
    ·exact .inl ⟨Nat.le_of_eq e2,by rw [e1,hk'];exact AF⟩
    ·exact .inr e2
  ·rcases QS h with ⟨h1,h2⟩ |h1
   ·exact .inl ⟨h1,AD _ h2⟩
   ·exact .inr h1
theorem wk {x:Str} {c:Addr} {n0:Nat}:∀ {names:List (Str×NameKind)} {n:Nat} {acc:List (Str×Addr)},n0≤n->((∃ a,acc.lookup x=some a∧n0≤a)∨(x,NameKind.cell)∈names)->(cellsFrom n names acc).lookup x=some c->n0≤c
 |[],_,acc,_,h,e=>by
  rcases h with ⟨a,h1,h2⟩ |h
  ·have:acc.lookup x=some c:=e
   rw [h1] at this;cases this;exact h2
  ·exact absurd h (by simp)
 |(nm,k)::r,n,acc,hn,h,e=>by
  unfold cellsFrom at e
  split at e
  ·rename_i hk
   refine wk (n:=n + 1) (Nat.le_succ_of_le hn) ?_ e
   by_cases hx:x=nm
   ·exact .inl ⟨n,by rw [Ah,hx,Al],hn⟩
   ·rcases h with ⟨a,h1,h2⟩ |h
    ·exact .inl ⟨a,by rw [Ah,BL hx];exact h1,h2⟩
    ·rcases AL.mp h with q |q
     ·exact absurd (Bc q).1 hx
     ·exact .inr q
  ·rename_i hk
   refine wk hn ?_ e
   rcases h with h |h
   ·exact .inl h
   ·rcases AL.mp h with q |q
    ·exact absurd (by rw [← (Bc q).2];rfl) hk
    ·exact .inr q
theorem wo {x y:Str} {c:Addr}:∀ {names:List (Str×NameKind)} {n:Nat} {acc:List (Str×Addr)},(∀ z a,acc.lookup z=some a->a < n)->(cellsFrom n names acc).lookup x=some c->(cellsFrom n names acc).lookup y=some c ->
  x=y∨(acc.lookup x=some c∧acc.lookup y=some c)
 |[],_,_,_,h1,h2 => .inr ⟨h1,h2⟩
 |(nm,k)::r,n,acc,hb,h1,h2=>by
  unfold cellsFrom at h1 h2
  split at h1
  ·rename_i hk
   rw [AH hk] at h2
   have hb':∀ z a,List.lookup z ((nm,n)::acc)=some a->a < n + 1:=fun z a h=>by
    rcases qt h with ⟨_,e⟩ |⟨_,e⟩
    ·rw [← e];exact Nat.lt_succ_self _
    ·exact Nat.lt_succ_of_lt (hb z a e)
   rcases wo hb' h1 h2 with e |⟨e1,e2⟩
   ·exact .inl e
   ·rcases qt e1 with ⟨p1,p2⟩ |⟨p1,p2⟩ <;> rcases qt e2 with ⟨q1,q2⟩ |⟨q1,q2⟩
    ·exact .inl (p1.trans q1.symm)
    ·exact absurd (hb y c q2) (by rw [← p2];exact BQ _)
    ·exact absurd (hb x c p2) (by rw [← q2];exact BQ _)
    ·exact .inr ⟨p2,q2⟩
  ·rename_i hk
   rw [AO hk] at h2
   exact wo hb h1 h2
theorem wK {x:Str}:∀ {names:List (Str×NameKind)} {n:Nat} {acc:List (Str×Addr)},((∃ a,acc.lookup x=some a)∨(x,NameKind.cell)∈names) -> ∃ c,(cellsFrom n names acc).lookup x=some c
 |[],_,_,h=>h.elim (fun h=>h) fun h=>absurd h (by simp)
 |(nm,k)::r,n,acc,h=>by
  unfold cellsFrom
  split
  ·rename_i hk
   refine wK ?_
   by_cases hx:x=nm
   ·exact .inl ⟨n,by rw [Ah,hx,Al]⟩
   ·rcases h with ⟨a,h1⟩ |h
    ·exact .inl ⟨a,by rw [Ah,BL hx];exact h1⟩
    ·rcases AL.mp h with q |q
     ·exact absurd (Bc q).1 hx
     ·exact .inr q
  ·rename_i hk
   refine wK ?_
   rcases h with h |h
   ·exact .inl h
   ·rcases AL.mp h with q |q
    ·exact absurd (by rw [← (Bc q).2];rfl) hk
    ·exact .inr q
theorem wb {x:Str} {c:Addr}:∀ {names:List (Str×NameKind)} {h:Heap} {acc:List (Str×Addr)},(cellsFrom h.objs.size names acc).lookup x=some c->(∃ o,acc.lookup x=some c∧o=())∨(pushCells h names).IsCell c none
 |[],_,_,e => .inl ⟨(),e,rfl⟩
 |(nm,k)::r,h,acc,e=>by
  unfold cellsFrom at e
  unfold pushCells
  split at e
  ·rename_i hk
   rw [AH hk]
   have e':(cellsFrom (h.push { cls := .type "cell",data := .cell none }).objs.size r ((nm,h.objs.size)::acc)).lookup x=some c:=by rw [Heap.size_push];exact e
   rcases wb e' with ⟨_,q,_⟩ |q
   ·rcases qt q with ⟨_,e2⟩ |⟨_,e2⟩
    ·subst e2
     exact .inr ⟨_,Bi _ _ _ _ (AU _ rfl),rfl⟩
    ·exact .inl ⟨(),e2,rfl⟩
   ·exact .inr q
  ·rename_i hk
   rw [AO hk]
   exact wb e
def clF (env:Env):List (Str×NameKind)->List (Str×Addr)->List (Str×Addr)
 |[],acc=>acc
 |(n,k)::r,acc=>if k == .free then clF env r ((n,(env.cells.lookup n).getD 0)::acc) else clF env r acc
theorem qBO {env:Env} (f:Str×NameKind->List (Str×Addr)->Sem (ForInStep (List (Str×Addr))))
  (hf:∀ n k acc,f (n,k) acc=if k == .free then (do let a ← cellOf env n;pure (.yield ((n,a)::acc))) else pure (.yield acc)) :
  ∀ (names:List (Str×NameKind)) (acc:List (Str×Addr)),(∀ x∈names,x.2 = .free -> ∃ c,env.cells.lookup x.1=some c)->forIn names acc f=(pure (clF env names acc):Sem _)
 |[],acc,_=>by rw [List.forIn_nil];rfl
 |(n,k)::r,acc,h=>by
  rw [List.forIn_cons,hf]
  unfold clF
  have ih:=fun a=>qBO f hf r a fun x hx=>h x (AD _ hx)
  split
  ·rename_i hk
   have hk':k = .free:=by simpa using hk
   obtain ⟨c,e⟩:=h (n,k) AF hk'
   have ec:cellOf env n=pure c:=by unfold cellOf;rw [show env.cells.lookup n=some c from e]
   rw [ec]
   simp only [pure_bind]
   rw [ih,show env.cells.lookup n=some c from e];rfl
  ·simp only [pure_bind]
   exact ih acc
theorem ZE {scope:Scope} {env:Env} (h:∀ x∈scope.names,x.2 = .free -> ∃ c,env.cells.lookup x.1=some c):closureFor scope env=pure (clF env scope.names []):=by
 unfold closureFor
 dsimp only
 rw [qBO _ (fun n k acc=>by cases hk:k==NameKind.free <;> simp [hk]) _ _ h]
 rfl
theorem ZM {env:Env} {x:Str} {c:Addr}:∀ {names:List (Str×NameKind)} {acc:List (Str×Addr)},(∀ y∈names,y.2 = .free -> ∃ c,env.cells.lookup y.1=some c)->(clF env names acc).lookup x=some c->env.cells.lookup x=some c∨acc.lookup x=some c
 |[],_,_,e => .inr e
 |(n,k)::r,acc,h,e=>by
  unfold clF at e
  have h':=fun y hy=>h y (AD _ hy)
  split at e
  ·rename_i hk
   have hk':k = .free:=by simpa using hk
   obtain ⟨a,ea⟩:=h (n,k) AF hk'
   rcases ZM h' e with q |q
   ·exact .inl q
   ·rcases qt q with ⟨e1,e2⟩ |⟨_,e2⟩
    ·rw [show env.cells.lookup n=some a from ea] at e2
     exact .inl (by rw [e1,show env.cells.lookup n=some a from ea];exact Bm some e2)
    ·exact .inr e2
  ·exact ZM h' e
theorem ze {env:Env} {x:Str}:∀ {names:List (Str×NameKind)} {acc:List (Str×Addr)},((x,NameKind.free)∈names ∨ ∃ a,acc.lookup x=some a) -> ∃ c,(clF env names acc).lookup x=some c
 |[],_,h=>h.elim (fun h=>absurd h (by simp)) fun h=>h
 |(n,k)::r,acc,h=>by
  unfold clF
  split
  ·refine ze ?_
   by_cases hx:x=n
   ·exact .inr ⟨_,by rw [Ah,hx,Al]⟩
   ·rcases h with h |⟨a,h⟩
    ·rcases AL.mp h with q |q
     ·exact absurd (Bc q).1 hx
     ·exact .inl q
    ·exact .inr ⟨a,by rw [Ah,BL hx];exact h⟩
  ·rename_i hk
   refine ze ?_
   rcases h with h |h
   ·rcases AL.mp h with q |q
    ·exact absurd (by rw [← (Bc q).2];rfl) hk
    ·exact .inl q
   ·exact .inr h
def qG0 (X:Cx) (scope:Scope) (C:Addr):Env :=
 { scope:=relabel scope X.env,locals:=C,globals:=X.env.globals,cells:=cellsFrom (C + 1) scope.names (clF X.env scope.names []),qual:=X.env.qual,func:=none,code:=X.env.code,frame:=X.env.frame,builtins:=X.env.builtins }
def cCx (X:Cx) (scope:Scope) (N:List Str) (s:Shared) (H:Hp) (fp:List Addr) (pn:List (Addr×Obj)):Cx where
 prog:=X.prog
 w:=X.w
 K:=X.K
 mg:=X.mg
 base:=X.base
 A:=X.A
 N:=N
 s₀:=s
 H₀:=H
 env:=qG0 X scope s.heap.objs.size
 outer:=X.stack
 stack:=X.stack
 ex:=fp
 fn:=fun x=>scope.names.lookup x==some .cell
 calm:=X.calm
 pn:=pn
 xe:=fun _ _=>False
structure CSc (X:Cx) (scope:Scope) (capN locN:List Str) (caps:List Nat):Prop where
 kind:scope.kind = .function
 nd:(scope.names.map (·.1)).Nodup
 fr:∀ x∈scope.names,x.2 = .free->(X.env.kindOf x.1=some .cell∨X.env.kindOf x.1=some .free)
 len:capN.length=caps.length
 cap:∀ (i:Nat) (x:Str) (j:Nat),capN[i]? = some x->caps[i]? = some j->X.N[j]? = some x∧(x,NameKind.free)∈scope.names
theorem wX {x:Str} {k:NameKind}:∀ {names:List (Str×NameKind)},(names.map (·.1)).Nodup->(x,k)∈names->names.lookup x=some k
 |(n,k')::r,nd,h=>by
  rw [AN,Ak] at nd
  rw [Ah]
  rcases AL.mp h with q |q
  ·obtain ⟨rfl,rfl⟩:=Bc q
   rw [Al]
  ·have hne:x≠n:=fun z=>nd.1 (by rw [← z];exact A8.mpr ⟨(x,k),q,rfl⟩)
   rw [BL hne]
   exact wX nd.2 q
theorem Q5 {env:Env} {x:Str}:∀ {names:List (Str×NameKind)},
  (names.map fun (n,k)=>if (k==NameKind.free&&env.scope.kind == .function&&env.kindOf n==some .cell) then (n,NameKind.cell) else (n,k)).lookup x=(names.lookup x).map fun k=>if (k==NameKind.free&&env.scope.kind == .function&&env.kindOf x==some .cell) then NameKind.cell else k
 |[]=>rfl
 |(n,k)::r=>by
  rw [AN,Ah]
  show List.lookup x ((if (k==NameKind.free&&env.scope.kind == .function&&env.kindOf n==some .cell)=true then (n,NameKind.cell) else (n,k))::_)=_
  cases hx:x==n with
  |true =>
   have hx':x=n:=beq_iff_eq.mp hx
   subst hx'
   by_cases hc:(k==NameKind.free&&env.scope.kind == .function&&env.kindOf x==some .cell)=true
   ·rw [AH hc]
    simp only [Ah,Al,Option.map_some]
    rw [AH hc]
   ·rw [AO hc]
    simp only [Ah,Al,Option.map_some]
    rw [AO hc]
  |false =>
   by_cases hc:(k==NameKind.free&&env.scope.kind == .function&&env.kindOf n==some .cell)=true
   ·rw [AH hc]
    simp only [Ah,hx]
    exact Q5
   ·rw [AO hc]
    simp only [Ah,hx]
    exact Q5
theorem ZG {X:Cx} {scope:Scope} {capN locN:List Str} {caps:List Nat} (cs:CSc X scope capN locN caps) {pins:List (Addr×Obj)} {σ:L2.St} {H:Hp} {s s4:Shared} {fp:List Addr} (I:L2.Inv X pins σ H s) (hf:∀ b∈fp,Wz X pins H b) (hlt:∀ b∈fp,b < s.heap.objs.size)
  (h4:s4={ s with heap:=pushCells (s.heap.push { cls := .type "dict",data := .dict #[] }) scope.names }) :
  L2.Inv (cCx X scope (capN++locN) s H fp (X.pn++pins)) [] ((caps.map fun j=>(σ[j]?).join)++List.replicate locN.length none) H s4:=by
 have hfree:∀ x∈scope.names,x.2 = .free -> ∃ c,X.env.cells.lookup x.1=some c:=fun x hx hk=>I.ok.has x.1 (cs.fr x hx hk)
 have keep:∀ b o,s.heap.get? b=some o->s4.heap.get? b=some o:=fun b o e=>by subst h4;exact Bi _ _ _ _ (AE _ e)
 have clook:∀ x c,(clF X.env scope.names []).lookup x=some c->X.env.cells.lookup x=some c:=fun x c e=>(ZM hfree e).elim (fun q=>q) fun q=>by cases q
 have clt:∀ x c,(clF X.env scope.names []).lookup x=some c->c < s.heap.objs.size:=fun x c e=>by
  obtain ⟨v,q⟩:=I.cell x c (clook x c e)
  exact q.lt
 have cases':∀ x c,(cellsFrom (s.heap.objs.size + 1) scope.names (clF X.env scope.names [])).lookup x=some c->(s.heap.objs.size + 1≤c)∨(c < s.heap.objs.size∧X.env.cells.lookup x=some c):=fun x c e=>by
  rcases QS e with ⟨q,_⟩ |q
  ·exact .inl q
  ·exact .inr ⟨clt x c q,clook x c q⟩
 have isfree:∀ x,(X.env.kindOf x=some .cell∨X.env.kindOf x=some .free)->True:=fun _ _=>trivial
 refine ⟨⟨I.ok.mod,cs.kind,I.ok.glob,I.ok.blt,AI _,fun x y c h1 h2 => ?_,fun x hx => ?_,fun x c hx e => ?_,I.ok.hd,I.ok.frames,.inl rfl,fun b hb=>⟨AZ (hlt b hb),fun x c e => ?_⟩,fun b o e=>I.bs b o e,AV I.ok.bsz I.sz,fun b o e hb => ?_,fun b hb hm => ?_,I.stack,I.stkFree⟩,
  by subst h4;rfl,by subst h4;exact I.bare,Un.kept keep,?_,fun x c e => ?_,I.hok.fresh (AI _),fun x c e => ?_,fun p hp => ?_,I.hok.kept keep,?_,I.hnd⟩
 ·rcases wo (fun z a e=>Nat.lt_succ_of_lt (clt z a e)) h1 h2 with e |⟨e1,e2⟩
  ·exact e
  ·exact I.ok.inj x y c (clook x c e1) (clook y c e2)
 ·refine wK ?_
  have hx':(relabel scope X.env).names.lookup x=some .cell∨(relabel scope X.env).names.lookup x=some .free:=hx
  have e:(relabel scope X.env).names.lookup x=(scope.names.lookup x).map fun k=>if (k==NameKind.free&&X.env.scope.kind == .function&&X.env.kindOf x==some .cell) then NameKind.cell else k:=Q5
  rw [e] at hx'
  cases q:scope.names.lookup x with
  |none=>rw [q] at hx';rcases hx' with z |z <;> cases z
  |some k =>
   rw [q] at hx'
   have hm:=A7 q
   by_cases hk:k = .free
   ·subst hk
    exact .inl (ze (.inl hm))
   ·have hkf:(k==NameKind.free)=false:=by simpa using hk
    simp only [Option.map_some,hkf,Bool.false_and,Ar,A4] at hx'
    rcases hx' with z |z
    ·cases z;exact .inr hm
    ·cases z;exact absurd rfl hk
 ·have hx':scope.names.lookup x=some .cell:=by simpa [cCx] using hx
  exact Nat.le_of_succ_le (wk (n0:=s.heap.objs.size + 1) (AI _) (.inr (A7 hx')) e)
 ·rcases cases' x c e with q |⟨q,q'⟩
  ·exact fun z=>by rw [z] at q;exact absurd (hlt b hb) (Nat.not_lt.mpr (Nat.le_of_succ_le q))
  ·exact (hf b hb).2.2.2.2.1 x c q'
 ·obtain ⟨_,_,_,h3,_⟩:=hf b hb
  rcases h3 with q |q
  ·exact I.ok.noex b o e q
  ·exact absurd (AM e) (Nat.not_lt.mpr (AV I.ok.bsz q))
 ·obtain ⟨_,h1,h2,_⟩:=hf b hb
  exact (AL.mp (I.stkSub b hm)).elim h1 h2
 ·refine ⟨fun _=>none,?_,fun i x v e1 e2 e3 => ?_⟩
  ·subst h4
   exact (Heap.Ns.new s.heap (.type "dict")).keeps (Bi _ _)
  ·have hi:i < caps.length:=by
    by_cases hi:i < caps.length
    ·exact hi
    ·rw [BM (by simpa using hi),BE] at e2
     split at e2 <;> cases e2
   rw [AT (by simpa using hi),Ai] at e2
   have e1':(capN++locN)[i]? = some x:=e1
   rw [AT (by rw [cs.len];exact hi)] at e1'
   cases ej:caps[i]? with
   |none=>rw [ej] at e2;cases e2
   |some j =>
    rw [ej] at e2
    obtain ⟨k1,k2⟩:=cs.cap i x j e1' ej
    have e2':σ[j]? = some (some v):=by
     have e2'':(σ[j]?).join=some v:=AS e2
     cases q:σ[j]? with
     |none=>rw [q] at e2'';cases e2''
     |some o=>rw [q] at e2'';exact Bm some e2''
    have hk:=cs.fr _ k2 rfl
    obtain ⟨m,hn,hl⟩:=I.loc
    obtain ⟨u,ru,lu⟩:=hl j x v k1 e2' (hk.elim (fun z => .inr (.inl z)) fun z => .inr (.inr z))
    refine ⟨u,ru,.inr ?_⟩
    have hc:∃ c,X.env.cells.lookup x=some c∧s.heap.IsCell c (some u):=by
     rcases lu with ⟨z,_⟩ |⟨_,z⟩
     ·rcases hk with y |y <;> · rw [z] at y;cases y
     ·exact z
    obtain ⟨c,c1,c2⟩:=hc
    obtain ⟨c',e'⟩:=ze (env:=X.env) (acc:=[]) (.inl k2)
    have e2:=clook x c' e'
    rw [c1] at e2;cases e2
    have hlk:scope.names.lookup x=some .free:=wX cs.nd k2
    refine ⟨?_,c,?_,c2.keeps keep⟩
    ·show (relabel scope X.env).names.lookup x=some .cell∨(relabel scope X.env).names.lookup x=some .free
     have e:(relabel scope X.env).names.lookup x=(scope.names.lookup x).map fun k=>if (k==NameKind.free&&X.env.scope.kind == .function&&X.env.kindOf x==some .cell) then NameKind.cell else k:=Q5
     rw [e,hlk]
     simp only [Option.map_some]
     split
     ·exact .inl rfl
     ·exact .inr rfl
    ·obtain ⟨d,hd⟩:=wK (names:=scope.names) (n:=s.heap.objs.size + 1) (acc:=clF X.env scope.names []) (x:=x) (.inl ⟨c,e'⟩)
     rcases QS hd with ⟨q,q'⟩ |q
     ·have:=wX cs.nd q'
      rw [hlk] at this;cases this
     ·rw [e'] at q;cases q;exact hd
 ·rcases QS e with ⟨q,_⟩ |q
  ·have e':(cellsFrom (s.heap.push { cls := .type "dict",data := .dict #[] }).objs.size scope.names (clF X.env scope.names [])).lookup x=some c:=by rw [Heap.size_push];exact e
   rcases wb e' with ⟨_,z,_⟩ |z
   ·obtain ⟨v,y⟩:=I.cell x c (clook x c z)
    exact ⟨v,y.keeps keep⟩
   ·subst h4;exact ⟨none,z⟩
  ·obtain ⟨v,y⟩:=I.cell x c (clook x c q)
   exact ⟨v,y.keeps keep⟩
 ·rcases cases' x c e with q |⟨q,q'⟩
  ·exact I.hok.fresh (Nat.le_of_succ_le q)
  ·exact I.freeC x c q'
 ·have hp':p∈X.pn++pins:=by simpa [cCx] using hp
  obtain ⟨k1,k2,k3,k4,k5⟩:=I.pin p hp'
  exact ⟨keep _ _ k1,k2,AZ (AM k1),fun z=>(AL.mp (I.stkSub p.1 z)).elim k3 k4,k5⟩
 ·show ((caps.map fun j=>(σ[j]?).join)++List.replicate locN.length none).length=(capN++locN).length
  rw [Aa,AX,List.length_replicate,Aa,cs.len]
theorem Yh {X:Cx} {scope:Scope} {N:List Str} {pins:List (Addr×Obj)} {σ σ':L2.St} {H H':Hp} {s s':Shared} {h'':Heap} {fp:List Addr} (I:L2.Inv X pins σ H s) (hf:∀ b∈fp,Wz X pins H b)
  (J:L2.Inv (cCx X scope N s H fp (X.pn++pins)) [] σ' H' s') (sb:Heap.SameBut s.heap.objs.size s'.heap h''):L2.Inv X pins σ H' { s' with heap:=h'' }:=by
 have hos:s'.os=s.os:=J.os
 have hC:∀ b o,s.heap.get? b=some o->b≠s.heap.objs.size:=fun b o e=>AZ (AM e)
 have u:Un (frs X.stack) fp H H' s.heap h'':=by
  have u0:=J.base
  exact ⟨fun b o e n h1 h2=>sb.extBut b o (hC b o e) (u0.keep b o e n h1 h2),fun b o e n h1 h2=>(u0.slot b o e n h1 h2).elim fun sl q=>⟨sl,sb.extBut b _ (hC b o e) q⟩,u0.free,fun b o e h2=>(u0.there b o e h2).elim fun o' q=>⟨o',sb.extBut b o' (hC b o e) q⟩,u0.tups,u0.frzs,u0.tbls⟩
 have hok:HOk X.prog X.w H' h'':=fun a o e=>by
  refine (J.hok a o e).stay (fun b v hb q=>sb.extBut b v ?_ q) (fun _ q=>q) fun _ _ q=>q
  have hn:H' s.heap.objs.size=none:=J.free
  rcases hb with z |z
  ·rw [z];exact qM e hn
  ·exact qM z hn
 obtain ⟨hh,g,d,t,os'⟩:=s'
 obtain rfl:os'=s.os:=hos
 have fin:=L2.Inv.call (s:=s) (h':=h'') (g':=g) (d':=d) (t':=t) (ch:=fp) I u hok J.bare fun b hb=>by
  obtain ⟨k0,k1,k2,k3,k4,k5⟩:=hf b hb
  exact ⟨k3,k1,k4,k5⟩
 exact fin
theorem ZV {elt:Expr} {gens:List Comprehension} {scope:Scope} {pos:Pos} {d:Nat} {it acc:Value} {env:Env} {g:Comprehension} (hg:gens[d]? = some g) (ha:g.is_async=0) (hn:gens[d + 1]? = none) :
  compTurn (.ListComp elt gens scope pos) d it acc env=(standAt g.iter.pos >>= fun _=>pyNext it >>= fun r=>match r with
   |none=>pure (.done .next)
   |some v=>letOwnedTupleGo g.target it v >>= fun _=>assign g.target env v >>= fun _ =>
    (forIn g.ifs true fun c r=>if r=true then do let ok ← isTrue c env (eval c env);pure (ForInStep.yield ok) else pure (ForInStep.yield r)) >>= fun ok =>
    if ok=true then (eval elt env >>= fun x=>call (.builtin "list.append") [acc,x] >>= fun _=>pure ()) >>= fun _=>again (.compLoop (.ListComp elt gens scope pos) d it acc env)
    else again (.compLoop (.ListComp elt gens scope pos) d it acc env)):=by
 unfold compTurn
 dsimp only
 rw [hg]
 dsimp only
 rw [hn,ha]
 rfl
theorem ZW {elt:Expr} {gens:List Comprehension} {scope:Scope} {pos:Pos} {d:Nat} {it acc:Value} {env:Env} {g g':Comprehension} (hg:gens[d]? = some g) (ha:g.is_async=0) (hn:gens[d + 1]? = some g') (ha':g'.is_async=0) :
  compTurn (.ListComp elt gens scope pos) d it acc env=(standAt g.iter.pos >>= fun _=>pyNext it >>= fun r=>match r with
   |none=>pure (.done .next)
   |some v=>letOwnedTupleGo g.target it v >>= fun _=>assign g.target env v >>= fun _ =>
    (forIn g.ifs true fun c r=>if r=true then do let ok ← isTrue c env (eval c env);pure (ForInStep.yield ok) else pure (ForInStep.yield r)) >>= fun ok =>
    if ok=true then (eval g'.iter env >>= fun x=>standAt g'.iter.pos >>= fun _=>foldedSetIterable g'.iter env x >>= fun x=>holding [x] (pyIter x) >>= fun it'=>runOwn (.compStart (.ListComp elt gens scope pos) (d + 1) it' acc env) env >>= fun _=>again (.compLoop (.ListComp elt gens scope pos) d it acc env))
    else again (.compLoop (.ListComp elt gens scope pos) d it acc env)):=by
 unfold compTurn
 dsimp only
 rw [hg]
 dsimp only
 rw [hn,ha]
 dsimp only
 rw [ha']
 rfl
theorem w6 {prog:Program} {w:World} {A:Around} {R:Result->Shared->Prop} {s:Shared} {elt:Expr} {gens:List Comprehension} {scope:Scope} {pos:Pos} {d:Nat} {it acc:Value} {env:Env} {g:Comprehension} (hg:gens[d]? = some g) (ha:g.is_async=0)
  (h0:codeAny (model prog w) A (.compLoop (.ListComp elt gens scope pos) d it acc env) R s)
  (h:wpAny (model prog w) A (pyIter it) (fun it' s'=>codeAny (model prog w) A (.compLoop (.ListComp elt gens scope pos) d it' acc env) R s') (notedBy (model prog w) A env fun x s'=>R (.error x) s') s) :
  codeAny (model prog w) A (.compStart (.ListComp elt gens scope pos) d it acc env) R s:=by
 refine codeAny_of_tree ?_
 show wpAny _ _ ((compStart (.ListComp elt gens scope pos) d it acc env).onRaise (fun x=>do noteFrame x env;standAt theWindowsPlace)) _ _ s
 refine wpAny_notedAt ?_
 unfold compStart
 have e1:(clausesOf (.ListComp elt gens scope pos))[d]? = some g:=hg
 rw [e1]
 simp only [Option.elim_some,ha]
 refine AA (wpAny_askSetting (wpAny_ite ?_))
 split
 ·exact AA (AB (AB (And.intro rfl h0)))
 ·exact AA (BY (AA (BR (AA (A2 h (fun it' s' h'=>AB (And.intro rfl h')) fun _ _ x=>x)))))
structure GenF where
 fi:FI
 g:FG
 ts:List FT
def wp:List FT->FT
 |[],_,st => .ok true st
 |t::ts,r,st=>(t r st).bind fun k s=>if k=true then wp ts r s else .ok false s
open Classical in
noncomputable def qf (G:qC->Prop) (k:PV->qC->Rs (List PV)):List PV->qC->Rs (List PV)
 |[],st=>if G st then .ok [] st else .no
 |p::ps,st=>if G st then (k p st).bind fun l s=>(qf G k ps s).bind fun m s' => .ok (l++m) s' else .no
def QX (g:GenF) (rest:FL) (r:ql) (p:PV) (s:qC):Rs (List PV):=match g.g p r with
 |none => .no
 |some r'=>(wp g.ts r' s).bind fun k s1=>if k=true then rest r' s1 else .ok [] s1
noncomputable def Q2:List GenF->FE->FL
 |[],f=>fun r st=>(f r st).bind fun p s => .ok [p] s
 |g::gs,f=>fun r st=>(g.fi r st).bind fun w s=>qf w.G (QX g (Q2 gs f) r) w.l s
def Le (r r':ql):Prop:=r.length=r'.length ∧ ∀ (i:Nat) (p:PV),r[i]? = some (some p)->r'[i]? = some (some p)
theorem REnv.le {K:W.Frag} {H:Hp} {b:Bz} {r r':ql} {s:L2.St} (h:REnv K H b r' s) (l:Le r r'):REnv K H b r s:=⟨l.1.trans h.1,fun i p e=>h.2 i p (l.2 i p e)⟩
def qDT (g:FG):Prop := ∀ p r r',g p r=some r'->Le r r'
inductive TsOk (X:Cx):List Expr->List FT->Prop where
 |nil:TsOk X [] []
 |cons {e:Expr} {t:FT} {es:List Expr} {ts:List FT} (h:VT X E0 e t) (r:TsOk X es ts):TsOk X (e::es) (t::ts)
theorem YJ {X:Cx} (hx:∀ e s,X.xe e s->False):∀ {es:List Expr} {ts:List FT},TsOk X es ts -> ∀ {pins:List (Addr×Obj)} {s:Shared} {σ:L2.St} {H:Hp} {b:Bz} {r:ql} {st st':qC} {k:Bool} {Q:Bool->Shared->Prop} {E:Value->Shared->Prop},L2.Inv X pins σ H s->SR X.K H b st->REnv X.K H b r σ->wp ts r st = .ok k st' ->
  (∀ s' H' b',L2.Inv X pins σ H' s'->Ext H b H' b'->SR X.K H' b' st'->Q k s') ->
  wpAny (model X.prog X.w) X.A (forIn es true fun c r=>if r=true then do let ok ← isTrue c X.env (eval c X.env);pure (ForInStep.yield ok) else pure (ForInStep.yield r)) Q E s
 |_,_,.nil,pins,s,σ,H,b,r,st,st',k,Q,E,I,S,R,e,q=>by
  cases e
  exact wpAny_tests_nil (q s H b I (Ext.refl _ _) S)
 |_,_,@TsOk.cons _ c t es ts h hr,pins,s,σ,H,b,r,st,st',k,Q,E,I,S,R,e,q=>by
  rw [List.forIn_cons]
  simp only [if_true]
  unfold wp at e
  cases et:t r st with
  |no=>rw [et] at e;cases e
  |ex x s1=>rw [et] at e;cases e
  |ok k1 s1 =>
   rw [et] at e
   have e:(if k1=true then wp ts r s1 else .ok false s1) = .ok k st':=e
   refine AA (AA (A2 (h pins s σ H (fun k' H'=>k'=k1 ∧ ∃ b',Ext H b H' b'∧SR X.K H' b' s1) I ⟨b,r,st,S,R,by rw [et];exact fun H' b' e' S'=>⟨rfl,b',e',S'⟩⟩) (fun k' s2 hq => ?_) fun e' s' z=>(hx e' s' z).elim))
   obtain ⟨H2,I2,rfl,b2,e2,S2⟩:=hq
   refine AB ?_
   dsimp only
   cases k' with
   |true =>
    rw [AH rfl] at e
    exact YJ hx hr I2 S2 (R.ext e2) e fun s' H' b' I' e' S'=>q s' H' b' I' (e2.trans e') S'
   |false =>
    rw [AO Ag] at e
    cases e
    have skip:∀ (es:List Expr),wpAny (model X.prog X.w) X.A (forIn es false fun c r=>if r=true then do let ok ← isTrue c X.env (eval c X.env);pure (ForInStep.yield ok) else pure (ForInStep.yield r)) Q E s2:=by
     intro es
     induction es with
     |nil=>rw [List.forIn_nil];exact AB (q s2 H2 b2 I2 e2 S2)
     |cons c es ih =>
      rw [List.forIn_cons]
      simp only [Ar,A4]
      exact AA (AB ih)
    exact skip es
structure GOk (X:Cx) (c:Comprehension) (g:GenF):Prop where
 tg:VG X c.target g.g
 fr:qDT g.g
 ts:TsOk X c.ifs g.ts
 asy:c.is_async=0
structure GOk' (X:Cx) (c:Comprehension) (g:GenF):Prop extends GOk X c g where
 it:VI X E0 c.target c.iter g.fi
 fold:∀ x,foldedSetIterable c.iter X.env x=pure x
inductive GsOk (X:Cx):List Comprehension->List GenF->Prop where
 |nil:GsOk X [] []
 |cons {c:Comprehension} {g:GenF} {cs:List Comprehension} {gs:List GenF} (h:GOk' X c g) (r:GsOk X cs gs):GsOk X (c::cs) (g::gs)
theorem J7 {X:Cx} (hx:∀ e s,X.xe e s->False) {pins:List (Addr×Obj)} {s:Shared} {σ:L2.St} {H:Hp} {D:Addr} {xs:List V} {y:V} {u:Value} {Q:Value->Shared->Prop} {E:Value->Shared->Prop} (I:L2.Inv X pins σ H s) (hD:H D=some (.lst xs)) (hl:xs.length < sizeLine) (ry:RelV y u)
  (q:∀ v s',L2.Inv X pins σ (upd H D (.lst (xs++[y]))) s'->Q v s'):wpAny (model X.prog X.w) X.A (call (.builtin "list.append") [.ref D,u]) Q E s :=
 A2 (Jw pins s σ H (.ref D) [y] (.ref D) [u] (fun v H'=>H'=upd H D (.lst (xs++[y]))) I rfl (.cons ry .nil) ⟨D,xs,y,rfl,rfl,hD,hl,rfl⟩) (fun v s' ⟨x,H',I',r',e⟩=>by subst e;exact q v s' I') fun e' s' z=>(hx e' s' z).elim
structure DE (D:Addr) (H:Hp) (b:Bz) (H':Hp) (b':Bz):Prop extends WE H b H' b' where
 same:b'.z=b.z
 hid:∀ a o,a∈b.z->a≠D->H a=some o->H' a=some o
 fz:∀ a o u,a≠D->H a=some (.frz o u)->H' a=some (.frz o u)
theorem DE.of {D:Addr} {H H':Hp} {b b':Bz} (e:Ext H b H' b'):DE D H b H' b':=⟨e.toWE,e.same,fun a o ha _ h=>e.hid a o ha h,fun a o u _ h=>e.fz a o u h⟩
theorem DE.trans {D:Addr} {H H1 H2:Hp} {b b1 b2:Bz} (e:DE D H b H1 b1) (f:DE D H1 b1 H2 b2):DE D H b H2 b2:=⟨e.toWE.trans f.toWE,f.same.trans e.same,fun a o ha hn h=>f.hid a o (by rw [e.same];exact ha) hn (e.hid a o ha hn h),fun a o u n h=>f.fz a o u n (e.fz a o u n h)⟩
theorem DE.wr {D:Addr} {H:Hp} {b:Bz} {o:HO} (h:D∈b.z):DE D H b (upd H D o) b:=⟨WE.wr (.inr h),rfl,fun a u ha hn e=>by rw [qK hn];exact e,fun a u v hn e=>by rw [qK hn];exact e⟩
def qHK (X:Cx) (D:Addr) (c:Code) (inner:Sem Fin) (rest:FL):Prop :=
 ∀ (pins:List (Addr×Obj)) (s:Shared) (σ:L2.St) (H:Hp) (b:Bz) (r:ql) (st st':qC) (l:List PV) (accV:List V) (QF:Fin->Shared->Prop) (E:Value->Shared->Prop),L2.Inv X pins σ H s->SR X.K H b st->REnv X.K H b r σ->D∈b.z->H D=some (.lst accV) ->
  rest r st = .ok l st'->accV.length + l.length≤sizeLine ->
  (∀ s' σ' H' b' lV,L2.Inv X pins σ' H' s'->DE D H b H' b'->SR X.K H' b' st'->REnv X.K H' b' r σ'->H' D=some (.lst (accV++lV))->RVs X.K H' b' l lV->QF (.again c) s')->wpAny (model X.prog X.w) X.A inner QF E s
theorem Ya {X:Cx} (hx:∀ e s,X.xe e s->False) {elt:Expr} {gens:List Comprehension} {scope:Scope} {pos:Pos} {d:Nat} {it D:Addr} {c:Comprehension} {g:GenF} (hg:GOk X c g) {inner:Sem Fin} {rest:FL} (hin:qHK X D (.compLoop (.ListComp elt gens scope pos) d (.ref it) (.ref D) X.env) inner rest)
  (hturn:compTurn (.ListComp elt gens scope pos) d (.ref it) (.ref D) X.env=(standAt c.iter.pos >>= fun _=>pyNext (.ref it) >>= fun r=>match r with
   |none=>pure (.done .next)
   |some v=>letOwnedTupleGo c.target (.ref it) v >>= fun _=>assign c.target X.env v >>= fun _ =>
    (forIn c.ifs true fun c r=>if r=true then do let ok ← isTrue c X.env (eval c X.env);pure (ForInStep.yield ok) else pure (ForInStep.yield r)) >>= fun ok =>
    if ok=true then inner else again (.compLoop (.ListComp elt gens scope pos) d (.ref it) (.ref D) X.env)))
  {pins:List (Addr×Obj)} {s:Shared} {σ:L2.St} {H:Hp} {b:Bz} {r:ql} {st st':qC} {fp:List Addr} {tn:Nat->Heap->Prop} {J:It} {w:ItP} {accV:List V} {l:List PV} {R:Result->Shared->Prop}
  (I:L2.Inv X pins σ H s) (S:SR X.K H b st) (RE:REnv X.K H b r σ) (hDz:D∈b.z) (hD:H D=some (.lst accV)) (T:Turn X.prog X.w X.K X.A c.target J fp it tn) (t0:tn 0 s.heap) (hf:∀ a∈fp,Wz X pins H a)
  (hit:zc X.K H b J w)
  (hv:qf w.G (QX g rest r) w.l st = .ok l st') (hsz:accV.length + l.length≤sizeLine)
  (hR:∀ s' σ' H' b' lV,L2.Inv X pins σ' H' s'->DE D H b H' b'->SR X.K H' b' st'->REnv X.K H' b' r σ'->H' D=some (.lst (accV++lV))->RVs X.K H' b' l lV->R (.ok .next) s') :
  codeAny (model X.prog X.w) X.A (.compLoop (.ListComp elt gens scope pos) d (.ref it) (.ref D) X.env) R s:=by
 have stat:∀ {H':Hp},(∀ a∈fp,H' a=none) -> ∀ a∈fp,Wz X pins H' a:=fun hn a ha=>⟨hn a ha,(hf a ha).2⟩
 refine codeAny_loop rfl (fun n s1 => ∃ i σ1 H1 b1 st1 done doneV m,n=w.l.length + 1 - i∧i≤w.l.length∧L2.Inv X pins σ1 H1 s1∧DE D H b H1 b1∧SR X.K H1 b1 st1∧REnv X.K H1 b1 r σ1∧H1 D=some (.lst (accV++doneV))∧RVs X.K H1 b1 done doneV∧tn i s1.heap∧(∀ a∈fp,H1 a=none) ∧
  qf w.G (QX g rest r) (w.l.drop i) st1 = .ok m st'∧done++m=l) ?_ (w.l.length + 1)
  ⟨0,σ,H,b,st,[],[],l,by omega,A3 _,I,DE.of (Ext.refl _ _),S,RE,by simpa using hD,RVs.nil,t0,fun a ha=>(hf a ha).1,by simpa using hv,rfl⟩
 rintro n s1 ⟨i,σ1,H1,b1,st1,done,doneV,m,hn,hi,I1,e1,S1,R1,hD1,rd1,t1,fr1,hv1,hm⟩
 show wpAny _ X.A ((compTurn (.ListComp elt gens scope pos) d (.ref it) (.ref D) X.env).onRaise (fun x=>do noteFrame x X.env;theTreesLotGoes x)) _ _ s1
 refine wpAny_noted ?_
 rw [hturn]
 refine AA (BR (AA ?_))
 have hz1:D∈b1.z:=by rw [e1.same];exact hDz
 by_cases hlt:i < w.l.length
 ·have hd:w.l.drop i=w.l[i]::w.l.drop (i + 1):=List.drop_eq_getElem_cons hlt
  rw [hd] at hv1
  unfold qf at hv1
  by_cases hG:w.G st1
  ·rw [AH hG] at hv1
   obtain ⟨h1,h2⟩:=hit H1 b1 st1 e1.toWE (fun a o u h=>e1.fz a o u (fun z=>by rw [z,hD] at h;cases h) h) S1 hG
   obtain ⟨go,yl⟩:=h1 i w.l[i] (AJ hlt)
   cases ek:QX g rest r w.l[i] st1 with
   |no=>rw [ek] at hv1;cases hv1
   |ex x s5=>rw [ek] at hv1;cases hv1
   |ok l1 s5 =>
    rw [ek] at hv1
    have hv1:(qf w.G (QX g rest r) (w.l.drop (i + 1)) s5).bind (fun m s' => .ok (l1++m) s') = .ok m st':=hv1
    cases ek2:qf w.G (QX g rest r) (w.l.drop (i + 1)) s5 with
    |no=>rw [ek2] at hv1;cases hv1
    |ex x s6=>rw [ek2] at hv1;cases hv1
    |ok m2 s6 =>
     rw [ek2] at hv1
     have hv1:Rs.ok (l1++m2) s6 = .ok m st':=hv1
     injection hv1 with hv1a hv1b
     subst hv1a;subst hv1b
     refine thn (T.item X rfl rfl rfl rfl i pins s1 σ1 H1 _ I1 (stat fr1) t1 go) fun rr s2 ⟨u,hr,h4⟩ => ?_
     subst hr
     refine AA (thn h4 fun _ s3 ⟨x,H3,I3,r3,y3,t3,fr3⟩ => ?_)
     obtain ⟨sm3,S3,rx3⟩:=yl x H3 y3
     have e3:Ext H1 b1 H3 b1:=Ext.of_same sm3
     have hD3:=sm3 _ _ hD1
     unfold QX at ek
     cases eg:g.g w.l[i] r with
     |none=>rw [eg] at ek;cases ek
     |some r' =>
      rw [eg] at ek
      have ek:(wp g.ts r' st1).bind (fun k s1=>if k=true then rest r' s1 else .ok [] s1) = .ok l1 s5:=ek
      cases et:wp g.ts r' st1 with
      |no=>rw [et] at ek;cases ek
      |ex x s7=>rw [et] at ek;cases ek
      |ok k s7 =>
       rw [et] at ek
       have ek:(if k=true then rest r' s7 else .ok [] s7) = .ok l1 s5:=ek
       have I3':=I3.pinned (stat fr3) (T.obj _ _ t3)
       refine AA (A2 (hg.tg _ s3 σ1 H3 x u (fun σ' H'=>H'=H3∧REnv X.K H3 b1 r' σ') I3' r3 ⟨b1,r,w.l[i],st1,S3,R1.ext e3,rx3,r',eg,fun s' R'=>⟨rfl,R'⟩⟩) (fun _ s4 hq => ?_) fun e' s' z=>(hx e' s' z).elim)
       obtain ⟨σ4,H4,I4,rfl,R4⟩:=hq
       refine AA (YJ hx hg.ts I4 S3 R4 et fun s5' H5 b5 I5 e5 S5 => ?_)
       have hz5:D∈b5.z:=by rw [e5.same];exact hz1
       have hD5:=e5.hid _ _ hz1 hD3
       have e15:DE D H b H5 b5:=(e1.trans (DE.of e3)).trans (DE.of e5)
       have back:∀ {s7':Shared} {σ7:L2.St} {H7:Hp} {b7:Bz} {l1V:List V},L2.Inv X (pins++Ww fp s3.heap) σ7 H7 s7'->DE D H5 b5 H7 b7->SR X.K H7 b7 s5->REnv X.K H7 b7 r' σ7->H7 D=some (.lst (accV++doneV++l1V))->RVs X.K H7 b7 l1 l1V ->
         ∃ m,m < n ∧ ∃ i σ1 H1 b1 st1 done doneV mm,m=w.l.length + 1 - i∧i≤w.l.length∧L2.Inv X pins σ1 H1 s7'∧DE D H b H1 b1∧SR X.K H1 b1 st1∧REnv X.K H1 b1 r σ1∧H1 D=some (.lst (accV++doneV))∧RVs X.K H1 b1 done doneV∧tn i s7'.heap∧(∀ a∈fp,H1 a=none) ∧
         qf w.G (QX g rest r) (w.l.drop i) st1 = .ok mm s6∧done++mm=l:=fun {s7' σ7 H7 b7 l1V} I7 e7 S7 R7 hD7 rl7=>by
        refine ⟨w.l.length + 1 - (i + 1),by omega,i + 1,σ7,H7,b7,s5,done++l1,doneV++l1V,m2,rfl,hlt,I7.unpinned,e15.trans e7,S7,R7.le (hg.fr _ _ _ eg),by rw [hD7,Aj],?_,T.keep _ _ _ t3 fun a ha o e=>(I7.pin (a,o) (Ap _ (Ap _ (WG ha e)))).1,fun a ha => ?_,ek2,by rw [Aj];exact hm⟩
        ·exact RVs.append (RVs.wext e7.toWE done (RVs.ext e5 done (RVs.ext e3 done rd1))) rl7
        ·obtain ⟨o,e,_⟩:=T.obj _ _ t3 a ha
         exact (I7.pin (a,o) (Ap _ (Ap _ (WG ha e)))).2.1
       cases k with
       |false =>
        rw [AO Ag] at ek ⊢
        injection ek with ek1 ek2'
        subst ek1;subst ek2'
        refine AB ⟨rfl,back I5 (DE.of (Ext.refl _ _)) S5 (R4.ext e5) (by rw [BS];exact hD5) RVs.nil⟩
       |true =>
        rw [AH rfl] at ek ⊢
        refine hin _ s5' σ4 H5 b5 r' s7 s5 l1 (accV++doneV) _ _ I5 S5 (R4.ext e5) hz5 hD5 ek ?_ fun s8 σ8 H8 b8 lV I8 e8 S8 R8 hD8 r8=>⟨rfl,back I8 e8 S8 R8 hD8 r8⟩
        have h1:=rd1.length
        have h2:l.length=done.length + (l1.length + m2.length):=by rw [← hm,Aa,Aa]
        rw [Aa];omega
  ·rw [AO hG] at hv1;cases hv1
 ·have hl:i=w.l.length:=by omega
  subst hl
  rw [List.drop_length] at hv1
  unfold qf at hv1
  by_cases hG:w.G st1
  ·rw [AH hG] at hv1
   injection hv1 with k1 k2
   subst k1;subst k2
   obtain ⟨h1,h2⟩:=hit H1 b1 st1 e1.toWE (fun a o u h=>e1.fz a o u (fun z=>by rw [z,hD] at h;cases h) h) S1 hG
   refine thn (T.done X rfl rfl rfl rfl _ pins s1 σ1 H1 _ I1 (stat fr1) t1 (h2 _ (AI _))) fun r2 s2 ⟨hr,I2⟩ => ?_
   subst hr
   rw [BS] at hm
   subst hm
   exact AB (hR s2 σ1 H1 b1 doneV I2 e1 S1 R1 hD1 rd1)
  ·rw [AO hG] at hv1;cases hv1
theorem Z7 {X:Cx} (hx:∀ e s,X.xe e s->False) {elt:Expr} {gens:List Comprehension} {scope:Scope} {pos:Pos} {f:FE} {D:Addr} (he:VE X E0 elt f) :
  ∀ (gs:List GenF) (cs:List Comprehension) (d:Nat) (c:Comprehension) (g:GenF),gens.drop d=c::cs->GOk X c g->GsOk X cs gs ->
  ∀ (pins:List (Addr×Obj)) (s:Shared) (σ:L2.St) (H:Hp) (b:Bz) (r:ql) (st st':qC) (it:Addr) (fp:List Addr) (tn:Nat->Heap->Prop) (J:It) (w:ItP) (accV:List V) (l:List PV) (R:Result->Shared->Prop),
  L2.Inv X pins σ H s->SR X.K H b st->REnv X.K H b r σ->D∈b.z->H D=some (.lst accV)->Turn X.prog X.w X.K X.A c.target J fp it tn->tn 0 s.heap->(∀ a∈fp,Wz X pins H a)->zc X.K H b J w ->
  qf w.G (QX g (Q2 gs f) r) w.l st = .ok l st'->accV.length + l.length≤sizeLine ->
  (∀ s' σ' H' b' lV,L2.Inv X pins σ' H' s'->DE D H b H' b'->SR X.K H' b' st'->REnv X.K H' b' r σ'->H' D=some (.lst (accV++lV))->RVs X.K H' b' l lV->R (.ok .next) s') ->
  codeAny (model X.prog X.w) X.A (.compLoop (.ListComp elt gens scope pos) d (.ref it) (.ref D) X.env) R s:=by
 intro gs
 induction gs with
 |nil =>
  intro cs d c g hdr hg hgs pins s σ H b r st st' it fp tn J w accV l R I S RE hDz hD T t0 hf hit hv hsz hR
  cases hgs
  have hgd:gens[d]? = some c:=by
   have:(gens.drop d)[0]? = some c:=by rw [hdr];rfl
   simpa using this
  have hgn:gens[d + 1]? = none:=by
   have:(gens.drop d)[1]? = none:=by rw [hdr];rfl
   simpa using this
  refine Ya hx hg ?_ (ZV hgd hg.asy hgn) I S RE hDz hD T t0 hf hit hv hsz hR
  intro pins s σ H b r st st' l accV QF E I S RE hDz hD hv hsz q
  have hv:(f r st).bind (fun p s => .ok [p] s) = .ok l st':=hv
  cases ef:f r st with
  |no=>rw [ef] at hv;cases hv
  |ex x s1=>rw [ef] at hv;cases hv
  |ok p s1 =>
   rw [ef] at hv
   have hv:Rs.ok [p] s1 = .ok l st':=hv
   injection hv with h1 h2
   subst h1;subst h2
   refine AA (AA (A2 (he pins s σ H (fun v H' => ∃ b',Ext H b H' b'∧SR X.K H' b' s1∧RV X.K H' b' p v) I ⟨b,r,st,S,RE,by rw [ef];exact fun v H' b' e' S' r'=>⟨b',e',S',r'⟩⟩) (fun u s2 hq => ?_) fun e' s' z=>(hx e' s' z).elim))
   obtain ⟨v,H2,I2,rv,b2,e2,S2,r2⟩:=hq
   have hz2:D∈b2.z:=by rw [e2.same];exact hDz
   refine AA (J7 hx I2 (e2.hid _ _ hDz hD) (by rw [BW] at hsz;omega) rv fun _ s3 I3=>AB (AB ?_))
   have dw:DE D H2 b2 (upd H2 D (.lst (accV++[v]))) b2:=DE.wr hz2
   exact q s3 σ _ b2 [v] I3 ((DE.of e2).trans dw) (SR.wrz S2 hz2) ((RE.ext e2).wext dw.toWE) qb (RVs.cons (RV.wext dw.toWE p r2) RVs.nil)
 |cons g2 gs ih =>
  intro cs d c g hdr hg hgs pins s σ H b r st st' it fp tn J w accV l R I S RE hDz hD T t0 hf hit hv hsz hR
  cases hgs with
  | @cons c2 _ cs _ h2 hr2 =>
   have hgd:gens[d]? = some c:=by
    have:(gens.drop d)[0]? = some c:=by rw [hdr];rfl
    simpa using this
   have hgn:gens[d + 1]? = some c2:=by
    have:(gens.drop d)[1]? = some c2:=by rw [hdr];rfl
    simpa using this
   have hdr2:gens.drop (d + 1)=c2::cs:=by
    have:(gens.drop d).drop 1=c2::cs:=by rw [hdr];rfl
    rwa [List.drop_drop] at this
   refine Ya hx hg ?_ (ZW hgd hg.asy hgn h2.asy) I S RE hDz hD T t0 hf hit hv hsz hR
   intro pins s σ H b r st st' l accV QF E I S RE hDz hD hv hsz q
   have hv:(g2.fi r st).bind (fun w s=>qf w.G (QX g2 (Q2 gs f) r) w.l s) = .ok l st':=hv
   cases ef:g2.fi r st with
   |no=>rw [ef] at hv;cases hv
   |ex x s1=>rw [ef] at hv;cases hv
   |ok w2 s1 =>
    rw [ef] at hv
    have hv:qf w2.G (QX g2 (Q2 gs f) r) w2.l s1 = .ok l st':=hv
    have hi:=h2.it pins s σ H (fun J H' => ∃ b',Ext H b H' b'∧SR X.K H' b' s1∧zc X.K H' b' J w2) I ⟨b,r,st,S,RE,by rw [ef];exact fun J H' b' e' S' i'=>⟨b',e',S',i'⟩⟩
    refine AA (A2 hi (fun u s2 hq => ?_) fun e' s' z=>(hx e' s' z).elim)
    refine AA (BR (AA (wpAny_of_eq (h2.fold u) (AA (At (A2 hq (fun itv s3 hq3 => ?_) fun e' s' z=>(hx e' s' z).elim))))))
    obtain ⟨it2,fp2,tn2,J2,H3,rfl,I3,T2,t2,f2,b3,e3,S3,i3⟩:=hq3
    have hz3:D∈b3.z:=by rw [e3.same];exact hDz
    have hD3:=e3.hid _ _ hDz hD
    refine AA (wpAny_runOwn ?_)
    have loop:=ih cs (d + 1) c2 g2 hdr2 h2.toGOk hr2 pins s3 σ H3 b3 r s1 st' it2 fp2 tn2 J2 w2 accV l (fun r s'=>match r with
     | .ok f=>wpAny (model X.prog X.w) X.A (again (.compLoop (.ListComp elt gens scope pos) d (.ref it) (.ref D) X.env)) QF E s'
     | .error e=>cameBackBy (model X.prog X.w) X.A X.env E e s') I3 S3 (RE.ext e3) hz3 hD3 T2 t2 f2 i3 hv hsz
     fun s' σ' H' b' lV I' e' S' R' hD' r'=>AB (q s' σ' H' b' lV I' ((DE.of e3).trans e') S' R' hD' r')
    exact w6 hgn h2.asy loop (T2.self X.A 0 s3 _ _ t2 loop)
theorem YX {M:Model} {A:Around} {E:Value->Shared->Prop} {s:Shared} {scope:Scope} {env:Env} {cl:List (Str×Addr)} {Q:Env->Shared->Prop}
  (h:Q { scope:=scope,locals:=s.heap.objs.size,globals:=env.globals,cells:=cellsFrom (s.heap.objs.size + 1) scope.names cl,qual:=env.qual,func:=none,code:=env.code,frame:=env.frame,builtins:=env.builtins } { s with heap:=pushCells (s.heap.push { cls := .type "dict",data := .dict #[] }) scope.names }) :
  wpAny M A (newFunctionEnv scope env.globals cl [] env.qual none .none (some env)) Q E s:=by
 simp only [newFunctionEnv,Option.isSome_some,if_true]
 refine AA (wpAny_alloc ?_)
 refine AA (wpAny_layCells _ (fun name kind cells=>by cases hkc:kind==NameKind.cell <;> simp [hkc]) _ _ _ _ ?_)
 rw [show ({ s with heap:=s.heap.push { cls := .type "dict",data := .dict #[] } }:Shared).heap.objs.size=s.heap.objs.size + 1 from Heap.size_push ..]
 exact AA (AB (AB h))
def wN (caps:List Nat) (n:Nat) (r:ql):ql:=(caps.map fun j=>(r[j]?).join)++List.replicate n none
noncomputable def QC (caps:List Nat) (n:Nat) (fi:FI) (g:FG) (ts:List FT) (gs:List GenF) (f:FE):FL:=fun r st=>(fi r st).bind fun w s=>match qf w.G (QX ⟨fi,g,ts⟩ (Q2 gs f) (wN caps n r)) w.l s with
 | .ok l s'=>if l.length≤sizeLine then .ok l s' else .no
 |_ => .no
theorem yg {K:W.Frag} {H:Hp} {b:Bz} {r:ql} {σ:L2.St} {caps:List Nat} {n:Nat} (R:REnv K H b r σ):REnv K H b (wN caps n r) ((caps.map fun j=>(σ[j]?).join)++List.replicate n none):=by
 refine ⟨by simp [wN],fun i p e => ?_⟩
 unfold wN at e
 by_cases hi:i < caps.length
 ·rw [AT (by simpa using hi),Ai] at e
  rw [AT (by simpa using hi),Ai]
  cases ej:caps[i]? with
  |none=>rw [ej] at e;cases e
  |some j =>
   rw [ej] at e
   have e':(r[j]?).join=some p:=AS e
   have e2:r[j]? = some (some p):=by
    cases q:r[j]? with
    |none=>rw [q] at e';cases e'
    |some o=>rw [q] at e';exact Bm some e'
   obtain ⟨v,h1,h2⟩:=R.2 j p e2
   refine ⟨v,?_,h2⟩
   show some (σ[j]?).join=some (some v)
   rw [h1];rfl
 ·rw [BM (by simpa using hi),BE] at e
  split at e <;> cases e
theorem Zg {K:W.Frag} {H:Hp} {b:Bz} {J:It} {w:ItP} {D:Addr} {o:HO} (h:zc K H b J w) (hD:H D=none):zc K (upd H D o) ⟨b.b,D::b.z⟩ J w:=fun H1 b1 st1 e f S g=>h H1 b1 st1 ((WE.hide hD).trans e) (fun a o u q=>f a o u (by rw [qK (qM q hD)];exact q)) S g
theorem zh {X:Cx} {E:XK} {elt:Expr} {c:Comprehension} {cs:List Comprehension} {scope:Scope} {pos:Pos} {capN locN:List Str} {caps:List Nat} {fi:FI} {g:FG} {ts:List FT} {gs:List GenF} {f:FE} (hcs:CSc X scope capN locN caps)
  (hi:VI X E c.target c.iter fi) (sub:∀ s H fp pn,VE (cCx X scope (capN++locN) s H fp pn) E0 elt f∧GOk (cCx X scope (capN++locN) s H fp pn) c ⟨fi,g,ts⟩∧GsOk (cCx X scope (capN++locN) s H fp pn) cs gs)
  (hs:∀ x,foldedSetIterable c.iter X.env x=pure x:=by intro _;rfl):VN X E (.ListComp elt (c::cs) scope pos) (QC caps locN.length fi g ts gs f):=by
 intro pins s σ H Q I hq
 obtain ⟨b,r,st,S,RE,P⟩:=hq
 have hfree:∀ x∈scope.names,x.2 = .free -> ∃ c,X.env.cells.lookup x.1=some c:=fun x hx hk=>I.ok.has x.1 (hcs.fr x hx hk)
 obtain ⟨c1,c2,c3,c4⟩:=c
 have hasy:c4=0:=(sub s H [] []).2.1.asy
 subst hasy
 rw [eval_ListComp]
 refine wpAny_comprehension_free (use:=none) rfl hs (ZE hfree) hcs.kind (fun x hx hl=>wX hcs.nd (by rw [← hl];exact hx)) ?_
 show wpAny _ _ (eval c2 X.env) _ _ s
 unfold QC at P
 cases ef:fi r st with
 |no=>rw [ef] at P;exact P.elim
 |ex x s1 =>
  rw [ef] at P
  refine thn (hi pins s σ H (fun _ _=>False) I ⟨b,r,st,S,RE,by rw [ef];exact P⟩) fun v s2 h2=>thn h2 fun itv s3 h3 => ?_
  obtain ⟨_,_,_,_,_,_,_,_,_,_,z⟩:=h3
  exact z.elim
 |ok w s1 =>
  rw [ef] at P
  refine thn (hi pins s σ H (fun J H' => ∃ b',Ext H b H' b'∧SR X.K H' b' s1∧zc X.K H' b' J w) I ⟨b,r,st,S,RE,by rw [ef];exact fun J H' b' e' S' i'=>⟨b',e',S',i'⟩⟩) fun v s2 h2=>thn h2 fun itv s3 h3 => ?_
  obtain ⟨it,fp,tn,J,H2,rfl,I2,T,t2,f2,b2,e2,S2,i2⟩:=h3
  have P:PostN X.K E H b (match qf w.G (QX ⟨fi,g,ts⟩ (Q2 gs f) (wN caps locN.length r)) w.l s1 with | .ok l s'=>if l.length≤sizeLine then .ok l s' else .no |_ => .no) Q:=P
  cases ev:qf w.G (QX ⟨fi,g,ts⟩ (Q2 gs f) (wN caps locN.length r)) w.l s1 with
  |no=>rw [ev] at P;exact P.elim
  |ex x s4=>rw [ev] at P;exact P.elim
  |ok l st' =>
   rw [ev] at P
   have P:PostN X.K E H b (if l.length≤sizeLine then .ok l st' else .no) Q:=P
   by_cases hl:l.length≤sizeLine
   ·rw [AH hl] at P
    have hfr:H2 s3.heap.objs.size=none:=I2.hok.fresh (AI _)
    refine wpAny_newList ?_
    generalize hs3:({ s3 with heap:=s3.heap.push { cls := .type "list",data := .seq ([]:List Value).toArray } }:Shared)=s3'
    have I3:L2.Inv X pins σ (upd H2 s3.heap.objs.size (.lst [])) s3':=by
     rw [← hs3]
     exact I2.laid (t':=s3.toks) (fun a u e=>AE _ e) (AI _) (show ObjOk X.prog X.w _ _ _ (.lst []) from ⟨A3 _,[],0,.nil,AU _ rfl⟩)
    have k3:∀ a o,s3.heap.get? a=some o->s3'.heap.get? a=some o:=fun a o e=>by rw [← hs3];exact AE _ e
    have hlt:∀ a∈fp,a < s3.heap.objs.size:=fun a ha=>by
     obtain ⟨o,e,_⟩:=T.obj _ _ t2 a ha
     exact AM e
    have f3:∀ a∈fp,Wz X pins (upd H2 s3.heap.objs.size (.lst [])) a:=fun a ha=>⟨by rw [qK (AZ (hlt a ha))];exact (f2 a ha).1,(f2 a ha).2⟩
    have hlt3:∀ a∈fp,a < s3'.heap.objs.size:=fun a ha=>by
     obtain ⟨o,e,_⟩:=T.obj _ _ t2 a ha
     exact AM (k3 a o e)
    generalize hD:s3.heap.objs.size=D at I3 f3 hfr
    refine YX ?_
    have J0:=ZG hcs I3 f3 hlt3 rfl
    obtain ⟨he,hg,hgs⟩:=sub s3' (upd H2 D (.lst [])) fp (X.pn++pins)
    have k4:∀ a o,s3'.heap.get? a=some o->(pushCells (s3'.heap.push { cls := .type "dict",data := .dict #[] }) scope.names).get? a=some o:=fun a o e=>Bi _ _ _ _ (AE _ e)
    have hDz:D ∉ b2.z:=(S2.new_notin hfr).2
    have loop:=Z7 (X:=cCx X scope (capN++locN) s3' (upd H2 D (.lst [])) fp (X.pn++pins)) (fun _ _ z=>z) (gens:=⟨c1,c2,c3,0⟩::cs) (scope:=scope) (pos:=pos) (D:=D) he gs cs 0 ⟨c1,c2,c3,0⟩ ⟨fi,g,ts⟩ rfl hg hgs [] _ _ _ ⟨b2.b,D::b2.z⟩ (wN caps locN.length r) s1 st' it fp tn J w [] l
     (compPost (model X.prog X.w) X.A X.xe none (EP X pins σ Q) (.ref D) s3'.heap.objs.size) J0 (SR.hide S2 hfr) (yg ((RE.ext e2).wext (WE.hide hfr))) AF qb T (T.keep _ _ _ t2 fun a ha o e=>k4 a o (k3 a o e))
     (fun a ha=>⟨(f3 a ha).1,(J0.ok.exf a ha).1,J0.ok.exfs a ha,.inl ha,(J0.ok.exf a ha).2,fun p hp=>(f3 a ha).2.2.2.2.2 p (by simpa [cCx] using hp)⟩) (Zg i2 hfr) ev (by simpa using hl)
     (fun s' σ' H' b' lV I' e' S' R' hD' r'=>by
      obtain ⟨m,hn,_⟩:=I'.loc
      refine ⟨m,hn,fun h'' sb => ?_⟩
      have fin:=Yh I3 f3 I' sb
      have hz':b'.z=D::b2.z:=e'.same
      refine ⟨.ref D,H',fin,rfl,?_⟩
      have ex:Ext H2 b2 H' ⟨b'.b,b2.z⟩:=by
       refine ⟨⟨?_,⟨[],rfl,by simp⟩,fun a o ha ho => ?_,fun a o ha => ?_⟩,rfl,fun a o hz ha => ?_,fun a o u ha=>e'.fz a o u (qM ha hfr) (by rw [qK (qM ha hfr)];exact ha)⟩
       ·obtain ⟨n,hb,hh⟩:=e'.more
        exact ⟨n,hb,fun a ha=>by
         have:=hh a ha
         by_cases q:a=D
         ·rw [q];exact hfr
         ·rwa [qK q] at this⟩
       ·have hne:a≠D:=qM ha hfr
        exact e'.keep a o (by rw [qK hne];exact ha) ⟨ho.1,fun z=>(AL.mp z).elim hne ho.2⟩
       ·have hne:a≠D:=qM ha hfr
        exact e'.dom a o (by rw [qK hne];exact ha)
       ·have hne:a≠D:=qM ha hfr
        exact e'.hid a o (AD _ hz) hne (by rw [qK hne];exact ha)
      have hb':(⟨b'.b,D::b2.z⟩:Bz)=b':=by rw [← hz']
      refine P D lV H' ⟨b'.b,b2.z⟩ (e2.trans ex) (e2.none_of hfr) (by simpa using hD') hDz ?_ ?_
      ·show SR X.K H' ⟨b'.b,D::b2.z⟩ st'
       rw [hb'];exact S'
      ·show RVs X.K H' ⟨b'.b,D::b2.z⟩ l lV
       rw [hb'];exact r')
    exact w6 rfl rfl loop (T.self X.A 0 _ _ _ (T.keep _ _ _ t2 fun a ha o e=>k4 a o (k3 a o e)) loop)
   ·rw [AO hl] at P;exact P.elim
def Ql (n:Nat) (l:List PV):ql:=l.map some++List.replicate (n - l.length) none
def qCZ:RS->Rs PV
 | .nx _ st => .ok .non st
 | .rt v st => .ok v st
 | .ex x st => .ex x st
 |_ => .no
def Refn (n:Nat) (r r':Rs PV):Prop := ∀ (K:W.Frag) (E:XK) (H:Hp) (b:Bz) (Q:VK),b.b.length=n->PostE K E H b r' Q->PostE K E H b r Q
theorem Refn.refl {n:Nat} {r:Rs PV}:Refn n r r:=fun _ _ _ _ _ _ h=>h
theorem REnv.init {K:W.Frag} {H:Hp} {b:Bz} {N:List Str} {l:List PV} {vs:List V} (h:RVs K H b l vs):REnv K H b (Ql N.length l) (start N vs):=by
 have hl:=h.length
 refine ⟨by simp [Ql,L2.start,hl],fun i p e => ?_⟩
 unfold Ql at e
 unfold L2.start
 by_cases hi:i < l.length
 ·rw [AT (by simpa using hi),Ai] at e
  rw [AT (by simpa [← hl] using hi),Ai]
  cases q:l[i]? with
  |none=>rw [q] at e;cases e
  |some p' =>
   rw [q] at e
   cases e
   obtain ⟨v,h1,h2⟩:=h.get q
   exact ⟨v,by rw [h1];rfl,h2⟩
 ·rw [BM (by simpa using hi),BE] at e
  split at e <;> cases e
section
variable {P:Program} {w:World} {K:W.Frag} {mg:Str->Option Value} {base:Heap}
theorem okV {CX:CXT} {x qual:Str} {st:Stmt} {f:Addr} {fd:FuncData} {N ps:List Str} {k:Nat} {g:List PV->qC->Rs PV} (F:Fun K x qual st f fd) (S:FnScope N ps (qN st))
  (body:∀ (cdv:Value) (A:Around) (outer:List Env) (s:Shared) (H:Hp) (E:XK),Room k (A.deeper (envOfC qual (qN st) s.heap.objs.size f cdv))->(0 < k->A.handled=none) ->
   ∃ B:FS,VSs (wB CX P w K mg base N qual (qN st) f cdv A outer s H E) E (qe st) B ∧ ∀ l s0,l.length=ps.length->g l s0 ≠ .no->Refn s0.length (qCZ (B (Ql N.length l) s0)) (g l s0)):FnOk P w K mg base CX (k + 1) f fd ps (spG K ps.length g):=by
 obtain ⟨oc,od,kV,doc,pm,an,cdv,ct,osl,rfl,lk,hcd⟩:=F.ex
 refine qFR lk hcd S (fun vs H Q E h=>h.1) fun A outer s H vs Q E hr hcm hsp => ?_
 obtain ⟨B,hB,hg⟩:=body cdv A outer s H E hr hcm
 obtain ⟨hl,b,l,st0,S0,r0,P0⟩:=hsp
 refine ⟨_,hB,b,Ql N.length l,st0,S0,REnv.init r0,?_⟩
 have hne:g l st0 ≠ .no:=fun z=>by rw [z] at P0;exact P0
 have P1:=hg l st0 (by rw [r0.length];exact hl) hne K E H b Q S0.len P0
 cases e:B (Ql N.length l) st0 with
 |nx r st=>rw [e] at P1;exact fun s H' b' e' S' R'=>P1 .non H' b' e' S' (by unfold RV;rfl)
 |rt v st=>rw [e] at P1;exact P1
 |bk r st=>rw [e] at P1;exact P1.elim
 |ct r st=>rw [e] at P1;exact P1.elim
 |ex x st=>rw [e] at P1;exact P1
 |no=>rw [e] at P1;exact P1.elim
end
mutual
def peq:PV->PV->Bool
 | .non,.non=>true
 | .bl a,.bl c=>a==c
 | .int a,.int c=>a==c
 | .bl a,.int c=>(if a then 1 else 0)==c
 | .int a,.bl c=>a==(if c then 1 else 0)
 | .str a,.str c=>a==c
 | .tup l,.tup m=>peqs l m
 | .lst l,.lst m=>peqs l m
 |_,_=>false
def peqs:List PV->List PV->Bool
 |[],[]=>true
 |p::ps,q::qs=>peq p q&&peqs ps qs
 |_,_=>false
end
mutual
def nr:PV->Bool
 | .tup l=>nrs l
 | .lst l=>nrs l
 | .ref _=>false
 | .dct=>false
 | .ty _=>false
 | .fn _=>false
 | .exc _ _=>false
 |_=>true
def nrs:List PV->Bool
 |[]=>true
 |p::ps=>nr p&&nrs ps
end
mutual
def dep:PV->Nat
 | .tup l=>deps l + 1
 | .lst l=>deps l + 1
 |_=>0
def deps:List PV->Nat
 |[]=>0
 |p::ps=>max (dep p) (deps ps)
end
mutual
def RW (K:W.Frag) (H:Hp):PV->V->Prop
 | .non,v=>v = .non
 | .bl x,v=>v = .bl x
 | .int i,v=>v = .int i
 | .str x,v=>v = .str x
 | .tup l,v => ∃ a xs,v = .ref a∧SqT K H a xs∧RWs K H l xs
 | .lst l,v => ∃ a xs,v = .ref a∧SqL K H a xs∧RWs K H l xs
 |_,_=>False
def RWs (K:W.Frag) (H:Hp):List PV->List V->Prop
 |[],xs=>xs=[]
 |p::ps,xs => ∃ x r,xs=x::r∧RW K H p x∧RWs K H ps r
end
mutual
theorem RV.rw {K:W.Frag} {H:Hp} {b:Bz}:∀ (p:PV) {v:V},nr p=true->RV K H b p v->RW K H p v
 | .non,_,_,h=>by unfold RV at h;unfold RW;exact h
 | .bl _,_,_,h=>by unfold RV at h;unfold RW;exact h
 | .int _,_,_,h=>by unfold RV at h;unfold RW;exact h
 | .str _,_,_,h=>by unfold RV at h;unfold RW;exact h
 | .tup l,_,n,h=>by
  unfold RV at h;unfold RW;unfold nr at n
  obtain ⟨a,xs,h1,h2,h3⟩:=h
  exact ⟨a,xs,h1,h2.sq,RVs.rws l n h3⟩
 | .lst l,_,n,h=>by
  unfold RV at h;unfold RW;unfold nr at n
  obtain ⟨a,xs,h1,h2,h3⟩:=h
  exact ⟨a,xs,h1,h2.sq,RVs.rws l n h3⟩
 | .ref _,_,n,_=>by unfold nr at n;cases n
 | .dct,_,n,_=>by unfold nr at n;cases n
 | .ty _,_,n,_=>by unfold nr at n;cases n
 | .fn _,_,n,_=>by unfold nr at n;cases n
 | .exc _ _,_,n,_=>by unfold nr at n;cases n
theorem RVs.rws {K:W.Frag} {H:Hp} {b:Bz}:∀ (l:List PV) {xs:List V},nrs l=true->RVs K H b l xs->RWs K H l xs
 |[],_,_,h=>by unfold RVs at h;unfold RWs;exact h
 |p::ps,_,n,h=>by
  unfold RVs at h;unfold RWs;unfold nrs at n
  rw [Av] at n
  obtain ⟨x,r,h1,h2,h3⟩:=h
  exact ⟨x,r,h1,RV.rw p n.1 h2,RVs.rws ps n.2 h3⟩
end
theorem RWs.length {K:W.Frag} {H:Hp}:∀ {l:List PV} {xs:List V},RWs K H l xs->l.length=xs.length
 |[],_,h=>by unfold RWs at h;rw [h];rfl
 |p::ps,_,h=>by
  unfold RWs at h
  obtain ⟨x,r,rfl,_,h3⟩:=h
  rw [Ae,Ae,RWs.length h3]
section
variable {X:Cx} {pins:List (Addr×Obj)} {σ:L2.St} {H:Hp} {s:Shared}
theorem W7 (I:L2.Inv X pins σ H s) {a:Addr} {xs ys:List V} (h1:SqL X.K H a xs) (h2:SqT X.K H a ys):False:=by
 obtain ⟨its,_,p,_⟩:=I.list h1
 obtain ⟨its',_,q,_⟩:=I.tuple h2
 obtain ⟨o,ho,hc,n,hd⟩:=p.isList
 obtain ⟨o',ho',hc',_⟩:=q
 rw [ho] at ho';cases ho'
 rw [hc] at hc'
 injection hc' with z
 exact absurd z (by decide)
mutual
theorem RW.same (I:L2.Inv X pins σ H s):∀ (p q:PV) {v:V},RW X.K H p v->RW X.K H q v->peq p q=true
 | .non,q,v,h,g=>by
  unfold RW at h;subst h
  cases q <;> unfold RW at g <;> first |rfl |exact (g:False).elim |(obtain ⟨_,_,e,_⟩:=g;cases e) |cases g
 | .bl x,q,v,h,g=>by
  unfold RW at h;subst h
  cases q <;> unfold RW at g <;> first |(obtain ⟨_,_,e,_⟩:=g;cases e) |(cases g;simp [peq];done) |exact (g:False).elim |cases g
 | .int x,q,v,h,g=>by
  unfold RW at h;subst h
  cases q <;> unfold RW at g <;> first |(obtain ⟨_,_,e,_⟩:=g;cases e) |(cases g;simp [peq];done) |exact (g:False).elim |cases g
 | .str x,q,v,h,g=>by
  unfold RW at h;subst h
  cases q <;> unfold RW at g <;> first |(obtain ⟨_,_,e,_⟩:=g;cases e) |(cases g;simp [peq];done) |exact (g:False).elim |cases g
 | .tup l,q,v,h,g=>by
  unfold RW at h
  obtain ⟨a,xs,rfl,h2,h3⟩:=h
  cases q with
  |tup m =>
   unfold RW at g
   obtain ⟨a',ys,e,g2,g3⟩:=g
   cases e
   have:=I.tuple_inj h2 g2
   subst this
   unfold peq
   exact RWs.same I l m h3 g3
  |lst m =>
   unfold RW at g
   obtain ⟨a',ys,e,g2,g3⟩:=g
   cases e
   exact (W7 I g2 h2).elim
  |ref _=>unfold RW at g;exact g.elim
  |dct=>unfold RW at g;exact g.elim
  |ty _=>unfold RW at g;exact g.elim
  |fn _=>unfold RW at g;exact g.elim
  |exc _ _=>unfold RW at g;exact g.elim
  |non=>unfold RW at g;cases g
  |bl _=>unfold RW at g;cases g
  |int _=>unfold RW at g;cases g
  |str _=>unfold RW at g;cases g
 | .lst l,q,v,h,g=>by
  unfold RW at h
  obtain ⟨a,xs,rfl,h2,h3⟩:=h
  cases q with
  |lst m =>
   unfold RW at g
   obtain ⟨a',ys,e,g2,g3⟩:=g
   cases e
   have:=I.list_inj h2 g2
   subst this
   unfold peq
   exact RWs.same I l m h3 g3
  |tup m =>
   unfold RW at g
   obtain ⟨a',ys,e,g2,g3⟩:=g
   cases e
   exact (W7 I h2 g2).elim
  |ref _=>unfold RW at g;exact g.elim
  |dct=>unfold RW at g;exact g.elim
  |ty _=>unfold RW at g;exact g.elim
  |fn _=>unfold RW at g;exact g.elim
  |exc _ _=>unfold RW at g;exact g.elim
  |non=>unfold RW at g;cases g
  |bl _=>unfold RW at g;cases g
  |int _=>unfold RW at g;cases g
  |str _=>unfold RW at g;cases g
 | .ref _,_,_,h,_=>by unfold RW at h;exact h.elim
 | .dct,_,_,h,_=>by unfold RW at h;exact h.elim
 | .ty _,_,_,h,_=>by unfold RW at h;exact h.elim
 | .fn _,_,_,h,_=>by unfold RW at h;exact h.elim
 | .exc _ _,_,_,h,_=>by unfold RW at h;exact h.elim
theorem RWs.same (I:L2.Inv X pins σ H s):∀ (l m:List PV) {xs:List V},RWs X.K H l xs->RWs X.K H m xs->peqs l m=true
 |[],m,xs,h,g=>by
  unfold RWs at h;subst h
  cases m with
  |nil=>rfl
  |cons _ _=>unfold RWs at g;obtain ⟨_,_,e,_⟩:=g;cases e
 |p::ps,m,xs,h,g=>by
  unfold RWs at h
  obtain ⟨x,r,rfl,h2,h3⟩:=h
  cases m with
  |nil=>unfold RWs at g;cases g
  |cons q qs =>
   unfold RWs at g
   obtain ⟨y,t,e,g2,g3⟩:=g
   cases e
   unfold peqs
   rw [RW.same I p q h2 g2,RWs.same I ps qs h3 g3];rfl
end
def eqN (l m:List PV) (j:Nat):Bool:=match l[j]?,m[j]? with
 |some p,some q=>peq p q
 |_,_=>false
theorem w8:∀ (l m:List PV),l.length=m.length->(List.range l.length).all (eqN l m)=peqs l m
 |[],[],_=>rfl
 |p::ps,q::qs,h=>by
  have ih:=w8 ps qs (by simpa using h)
  rw [Ae,List.range_succ_eq_map,List.all_cons,List.all_map]
  unfold peqs
  have e0:eqN (p::ps) (q::qs) 0=peq p q:=rfl
  have e1:(eqN (p::ps) (q::qs) ∘ Nat.succ)=eqN ps qs:=by funext j;rfl
  rw [e0,e1,ih]
 |[],_::_,h=>by simp at h
 |_::_,[],h=>by simp at h
theorem we:∀ (l m:List PV),l.length≠m.length->peqs l m=false
 |[],[],h=>absurd rfl h
 |[],_::_,_=>rfl
 |_::_,[],_=>rfl
 |p::ps,q::qs,h=>by
  unfold peqs
  rw [we ps qs (by intro z;apply h;rw [Ae,Ae,z]),BX]
theorem RWs.get' {K:W.Frag} {H:Hp}:∀ {l:List PV} {xs:List V} {i:Nat} {x:V},RWs K H l xs->xs[i]? = some x -> ∃ p,l[i]? = some p∧RW K H p x
 |[],_,_,_,h,e=>by unfold RWs at h;subst h;simp at e
 |p::ps,_,0,x,h,e=>by
  unfold RWs at h
  obtain ⟨y,r,rfl,h2,h3⟩:=h
  simp at e;subst e
  exact ⟨p,rfl,h2⟩
 |p::ps,_,i + 1,x,h,e=>by
  unfold RWs at h
  obtain ⟨y,r,rfl,h2,h3⟩:=h
  obtain ⟨q,e1,e2⟩:=RWs.get' (i:=i) h3 (by simpa using e)
  exact ⟨q,by simpa using e1,e2⟩
theorem Vals.get2:∀ {xs:List V} {us:List Value} {i:Nat} {u:Value},Vals xs us->us[i]? = some u -> ∃ x,xs[i]? = some x∧RelV x u
 |_,_,_,_,.nil,e=>by simp at e
 |_,_,0,_,.cons r _,e=>by simp at e;subst e;exact ⟨_,rfl,r⟩
 |_,_,i + 1,u,.cons _ t,e=>by
  obtain ⟨x,h1,h2⟩:=Vals.get2 (i:=i) (u:=u) t (by simpa using e)
  exact ⟨x,by simpa using h1,h2⟩
theorem QT (I:L2.Inv X pins σ H s) (p q:PV) {v u:V} {uv uu:Value} {A:Around} (hd:dep p=0) (hu':A.units < cLine) (hp:RW X.K H p v) (hq:RW X.K H q u) (rv:RelV v uv) (ru:RelV u uu):SeqAt.EqAt A s uv uu (peq p q):=by
 cases p with
 |tup l=>unfold dep at hd;omega
 |lst l=>unfold dep at hd;omega
 |ref _=>unfold RW at hp;exact hp.elim
 |dct=>unfold RW at hp;exact hp.elim
 |ty _=>unfold RW at hp;exact hp.elim
 |fn _=>unfold RW at hp;exact hp.elim
 |exc _ _=>unfold RW at hp;exact hp.elim
 |non =>
  unfold RW at hp;subst hp;cases rv
  cases q with
  |non=>unfold RW at hq;subst hq;cases ru;exact SeqAt.EqAt.same _
  |bl _=>unfold RW at hq;subst hq;cases ru;exact SeqAt.EqAt.none_bool _
  |int _=>unfold RW at hq;subst hq;obtain ⟨t,rfl⟩:=ru;exact SeqAt.EqAt.none_int _ _
  |str _=>unfold RW at hq;subst hq;obtain ⟨t,rfl⟩:=ru;exact SeqAt.EqAt.none_str _ _
  |tup _=>unfold RW at hq;obtain ⟨a,xs,rfl,h2,_⟩:=hq;cases ru;obtain ⟨its,_,t,_⟩:=I.tuple h2;exact SeqAt.EqAt.none_tuple t hu'
  |lst _=>unfold RW at hq;obtain ⟨a,xs,rfl,h2,_⟩:=hq;cases ru;obtain ⟨its,_,t,_⟩:=I.list h2;exact SeqAt.EqAt.none_list t.isList hu'
  |ref _=>unfold RW at hq;exact hq.elim
  |dct=>unfold RW at hq;exact hq.elim
  |ty _=>unfold RW at hq;exact hq.elim
  |fn _=>unfold RW at hq;exact hq.elim
  |exc _ _=>unfold RW at hq;exact hq.elim
 |bl x =>
  unfold RW at hp;subst hp;cases rv
  cases q with
  |non=>unfold RW at hq;subst hq;cases ru;exact SeqAt.EqAt.bool_none _
  |bl _=>unfold RW at hq;subst hq;cases ru;exact SeqAt.EqAt.bool_bool _ _
  |int _=>unfold RW at hq;subst hq;obtain ⟨t,rfl⟩:=ru;exact SeqAt.EqAt.bool_int _ _ _
  |str _=>unfold RW at hq;subst hq;obtain ⟨t,rfl⟩:=ru;exact SeqAt.EqAt.bool_str _ _ _
  |tup _=>unfold RW at hq;obtain ⟨a,xs,rfl,h2,_⟩:=hq;cases ru;obtain ⟨its,_,t,_⟩:=I.tuple h2;exact SeqAt.EqAt.bool_tuple _ t hu'
  |lst _=>unfold RW at hq;obtain ⟨a,xs,rfl,h2,_⟩:=hq;cases ru;obtain ⟨its,_,t,_⟩:=I.list h2;exact SeqAt.EqAt.bool_list _ t.isList hu'
  |ref _=>unfold RW at hq;exact hq.elim
  |dct=>unfold RW at hq;exact hq.elim
  |ty _=>unfold RW at hq;exact hq.elim
  |fn _=>unfold RW at hq;exact hq.elim
  |exc _ _=>unfold RW at hq;exact hq.elim
 |int x =>
  unfold RW at hp;subst hp;obtain ⟨t0,rfl⟩:=rv
  cases q with
  |non=>unfold RW at hq;subst hq;cases ru;exact SeqAt.EqAt.int_none _ _
  |bl _=>unfold RW at hq;subst hq;cases ru;exact SeqAt.EqAt.int_bool _ _ _
  |int _=>unfold RW at hq;subst hq;obtain ⟨t,rfl⟩:=ru;exact SeqAt.EqAt.int_int _ _ _ _
  |str _=>unfold RW at hq;subst hq;obtain ⟨t,rfl⟩:=ru;exact SeqAt.EqAt.int_str _ _ _ _
  |tup _=>unfold RW at hq;obtain ⟨a,xs,rfl,h2,_⟩:=hq;cases ru;obtain ⟨its,_,t,_⟩:=I.tuple h2;exact SeqAt.EqAt.int_tuple _ _ t hu'
  |lst _=>unfold RW at hq;obtain ⟨a,xs,rfl,h2,_⟩:=hq;cases ru;obtain ⟨its,_,t,_⟩:=I.list h2;exact SeqAt.EqAt.int_list _ _ t.isList hu'
  |ref _=>unfold RW at hq;exact hq.elim
  |dct=>unfold RW at hq;exact hq.elim
  |ty _=>unfold RW at hq;exact hq.elim
  |fn _=>unfold RW at hq;exact hq.elim
  |exc _ _=>unfold RW at hq;exact hq.elim
 |str x =>
  unfold RW at hp;subst hp;obtain ⟨t0,rfl⟩:=rv
  cases q with
  |non=>unfold RW at hq;subst hq;cases ru;exact SeqAt.EqAt.str_none _ _
  |bl _=>unfold RW at hq;subst hq;cases ru;exact SeqAt.EqAt.str_bool _ _ _
  |int _=>unfold RW at hq;subst hq;obtain ⟨t,rfl⟩:=ru;exact SeqAt.EqAt.str_int _ _ _ _
  |str _=>unfold RW at hq;subst hq;obtain ⟨t,rfl⟩:=ru;exact SeqAt.EqAt.str_str _ _ _ _
  |tup _=>unfold RW at hq;obtain ⟨a,xs,rfl,h2,_⟩:=hq;cases ru;obtain ⟨its,_,t,_⟩:=I.tuple h2;exact SeqAt.EqAt.str_tuple _ _ t hu'
  |lst _=>unfold RW at hq;obtain ⟨a,xs,rfl,h2,_⟩:=hq;cases ru;obtain ⟨its,_,t,_⟩:=I.list h2;exact SeqAt.EqAt.str_list _ _ t.isList hu'
  |ref _=>unfold RW at hq;exact hq.elim
  |dct=>unfold RW at hq;exact hq.elim
  |ty _=>unfold RW at hq;exact hq.elim
  |fn _=>unfold RW at hq;exact hq.elim
  |exc _ _=>unfold RW at hq;exact hq.elim
theorem wz:∀ {l:List PV} {i:Nat} {p:PV},l[i]? = some p->dep p≤deps l
 |[],_,_,h=>by simp at h
 |q::qs,0,p,h=>by simp at h;subst h;unfold deps;exact Nat.le_max_left _ _
 |q::qs,i + 1,p,h=>by unfold deps;exact AV (wz (l:=qs) (i:=i) (by simpa using h)) (Nat.le_max_right _ _)
theorem ju (I:L2.Inv X pins σ H s):∀ (n:Nat) (p q:PV) (v u:V) (uv uu:Value) (A:Around),dep p≤n->A.units + n < cLine->RW X.K H p v->RW X.K H q u->RelV v uv->RelV u uu->SeqAt.EqAt A s uv uu (peq p q):=by
 intro n
 induction n with
 |zero=>intro p q v u uv uu A hd hu hp hq rv ru;exact QT I p q (Nat.le_zero.mp hd) hu hp hq rv ru
 |succ n ih =>
  intro p q v u uv uu A hd hu hp hq rv ru
  have hu':A.units < cLine:=Ao (Ba _ _) hu
  have hin:A.in1.units + n < cLine:=by show A.units + 1 + n < cLine;omega
  have elt:∀ {l m:List PV} {xs ys:List V} {its its2:List Value},deps l≤n->RWs X.K H l xs->RWs X.K H m ys->Vals xs its->Vals ys its2 -> ∀ j (h1:j < its.toArray.size) (h2:j < its2.toArray.size),SeqAt.EqAt A.in1 s its.toArray[j] its2.toArray[j] (eqN l m j):=fun {l m xs ys its its2} hdl hl hm vl vm j h1 h2=>by
   have e1:its[j]? = some its.toArray[j]:=by simp
   have e2:its2[j]? = some its2.toArray[j]:=by simp
   obtain ⟨x,hx,rx⟩:=Vals.get2 vl e1
   obtain ⟨y,hy,ry⟩:=Vals.get2 vm e2
   obtain ⟨p',hp',rp'⟩:=RWs.get' hl hx
   obtain ⟨q',hq',rq'⟩:=RWs.get' hm hy
   have:eqN l m j=peq p' q':=by unfold eqN;rw [hp',hq']
   rw [this]
   exact ih p' q' x y _ _ A.in1 (AV (wz hp') hdl) hin rp' rq' rx ry
  cases p with
  |tup l =>
   have hp0:=hp
   unfold RW at hp
   unfold dep at hd
   obtain ⟨a,xs,rfl,h2,h3⟩:=hp
   cases rv
   obtain ⟨its,vl,tl,_⟩:=I.tuple h2
   cases q with
   |non=>unfold RW at hq;subst hq;cases ru;exact SeqAt.EqAt.tuple_none tl hu'
   |bl _=>unfold RW at hq;subst hq;cases ru;exact SeqAt.EqAt.tuple_bool _ tl hu'
   |int _=>unfold RW at hq;subst hq;obtain ⟨t,rfl⟩:=ru;exact SeqAt.EqAt.tuple_int _ _ tl hu'
   |str _=>unfold RW at hq;subst hq;obtain ⟨t,rfl⟩:=ru;exact SeqAt.EqAt.tuple_str _ _ tl hu'
   |lst _=>unfold RW at hq;obtain ⟨a,xs,rfl,h2,_⟩:=hq;cases ru;obtain ⟨its,_,t,_⟩:=I.list h2;exact SeqAt.EqAt.tuple_list tl t.isList hu'
   |ref _=>unfold RW at hq;exact hq.elim
   |dct=>unfold RW at hq;exact hq.elim
   |ty _=>unfold RW at hq;exact hq.elim
   |fn _=>unfold RW at hq;exact hq.elim
   |exc _ _=>unfold RW at hq;exact hq.elim
   |tup m =>
    have hq0:=hq
    unfold RW at hq
    obtain ⟨a2,ys,rfl,g2,g3⟩:=hq
    cases ru
    obtain ⟨its2,vm,tm,_⟩:=I.tuple g2
    by_cases ha:a=a2
    ·subst ha
     rw [RW.same I _ _ hp0 hq0]
     exact SeqAt.EqAt.same _
    ·refine SeqAt.EqAt.of_refs ha ?_
     have rc:=SeqAt.RcAt.tuples (e:=eqN l m) tl tm hu' (elt (by omega) h3 g3 vl vm)
     have hl1:its.toArray.size=l.length:=by rw [AK,← vl.length,h3.length]
     have hl2:its2.toArray.size=m.length:=by rw [AK,← vm.length,g3.length]
     rw [hl1,hl2] at rc
     have e:((List.range (min l.length m.length)).all (eqN l m)&&l.length==m.length)=peq (.tup l) (.tup m):=by
      unfold peq
      by_cases hlm:l.length=m.length
      ·rw [← hlm,Nat.min_self,w8 l m hlm,Al,Bool.and_true]
      ·rw [we l m hlm,BL hlm,BX]
     rw [e] at rc
     exact rc
  |lst l =>
   have hp0:=hp
   unfold RW at hp
   unfold dep at hd
   obtain ⟨a,xs,rfl,h2,h3⟩:=hp
   cases rv
   obtain ⟨its,vl,tl',_⟩:=I.list h2
   have tl:=tl'.isList
   cases q with
   |non=>unfold RW at hq;subst hq;cases ru;exact SeqAt.EqAt.list_none tl hu'
   |bl _=>unfold RW at hq;subst hq;cases ru;exact SeqAt.EqAt.list_bool _ tl hu'
   |int _=>unfold RW at hq;subst hq;obtain ⟨t,rfl⟩:=ru;exact SeqAt.EqAt.list_int _ _ tl hu'
   |str _=>unfold RW at hq;subst hq;obtain ⟨t,rfl⟩:=ru;exact SeqAt.EqAt.list_str _ _ tl hu'
   |tup _=>unfold RW at hq;obtain ⟨a,xs,rfl,h2,_⟩:=hq;cases ru;obtain ⟨its,_,t,_⟩:=I.tuple h2;exact SeqAt.EqAt.list_tuple tl t hu'
   |ref _=>unfold RW at hq;exact hq.elim
   |dct=>unfold RW at hq;exact hq.elim
   |ty _=>unfold RW at hq;exact hq.elim
   |fn _=>unfold RW at hq;exact hq.elim
   |exc _ _=>unfold RW at hq;exact hq.elim
   |lst m =>
    have hq0:=hq
    unfold RW at hq
    obtain ⟨a2,ys,rfl,g2,g3⟩:=hq
    cases ru
    obtain ⟨its2,vm,tm',_⟩:=I.list g2
    have tm:=tm'.isList
    by_cases ha:a=a2
    ·subst ha
     rw [RW.same I _ _ hp0 hq0]
     exact SeqAt.EqAt.same _
    ·refine SeqAt.EqAt.of_refs ha ?_
     have hl1:its.toArray.size=l.length:=by rw [AK,← vl.length,h3.length]
     have hl2:its2.toArray.size=m.length:=by rw [AK,← vm.length,g3.length]
     unfold peq
     by_cases hlm:l.length=m.length
     ·have rc:=SeqAt.RcAt.lists (e:=eqN l m) tl tm (by rw [hl1,hl2,hlm]) hu' (elt (by omega) h3 g3 vl vm)
      rw [hl1,w8 l m hlm] at rc
      exact rc
     ·rw [we l m hlm]
      exact SeqAt.RcAt.lists_lengths tl tm (by rw [hl1,hl2];exact bne_iff_ne.mpr hlm) hu'
  |non=>exact QT I _ q rfl hu' hp hq rv ru
  |bl _=>exact QT I _ q rfl hu' hp hq rv ru
  |int _=>exact QT I _ q rfl hu' hp hq rv ru
  |str _=>exact QT I _ q rfl hu' hp hq rv ru
  |ref _=>exact QT I _ q rfl hu' hp hq rv ru
  |dct=>exact QT I _ q rfl hu' hp hq rv ru
  |ty _=>exact QT I _ q rfl hu' hp hq rv ru
  |fn _=>exact QT I _ q rfl hu' hp hq rv ru
  |exc _ _=>exact QT I _ q rfl hu' hp hq rv ru
end
section
variable {X:Cx} {pins:List (Addr×Obj)} {σ:L2.St} {H:Hp} {s:Shared}
mutual
theorem RW.det (I:L2.Inv X pins σ H s):∀ (p q:PV) {v:V},RW X.K H p v->RW X.K H q v->p=q
 | .non,q,v,h,g=>by
  unfold RW at h;subst h
  cases q <;> unfold RW at g <;> first |rfl |exact (g:False).elim |(obtain ⟨_,_,e,_⟩:=g;cases e) |cases g
 | .bl x,q,v,h,g=>by
  unfold RW at h;subst h
  cases q <;> unfold RW at g <;> first |(obtain ⟨_,_,e,_⟩:=g;cases e) |(cases g;rfl) |exact (g:False).elim |cases g
 | .int x,q,v,h,g=>by
  unfold RW at h;subst h
  cases q <;> unfold RW at g <;> first |(obtain ⟨_,_,e,_⟩:=g;cases e) |(cases g;rfl) |exact (g:False).elim |cases g
 | .str x,q,v,h,g=>by
  unfold RW at h;subst h
  cases q <;> unfold RW at g <;> first |(obtain ⟨_,_,e,_⟩:=g;cases e) |(cases g;rfl) |exact (g:False).elim |cases g
 | .tup l,q,v,h,g=>by
  unfold RW at h
  obtain ⟨a,xs,rfl,h2,h3⟩:=h
  cases q with
  |tup m =>
   unfold RW at g
   obtain ⟨a',ys,e,g2,g3⟩:=g
   cases e
   have:=I.tuple_inj h2 g2
   subst this
   rw [RWs.det I l m h3 g3]
  |lst m =>
   unfold RW at g
   obtain ⟨a',ys,e,g2,g3⟩:=g
   cases e
   exact (W7 I g2 h2).elim
  |ref _=>unfold RW at g;exact g.elim
  |dct=>unfold RW at g;exact g.elim
  |ty _=>unfold RW at g;exact g.elim
  |fn _=>unfold RW at g;exact g.elim
  |exc _ _=>unfold RW at g;exact g.elim
  |non=>unfold RW at g;cases g
  |bl _=>unfold RW at g;cases g
  |int _=>unfold RW at g;cases g
  |str _=>unfold RW at g;cases g
 | .lst l,q,v,h,g=>by
  unfold RW at h
  obtain ⟨a,xs,rfl,h2,h3⟩:=h
  cases q with
  |lst m =>
   unfold RW at g
   obtain ⟨a',ys,e,g2,g3⟩:=g
   cases e
   have:=I.list_inj h2 g2
   subst this
   rw [RWs.det I l m h3 g3]
  |tup m =>
   unfold RW at g
   obtain ⟨a',ys,e,g2,g3⟩:=g
   cases e
   exact (W7 I h2 g2).elim
  |ref _=>unfold RW at g;exact g.elim
  |dct=>unfold RW at g;exact g.elim
  |ty _=>unfold RW at g;exact g.elim
  |fn _=>unfold RW at g;exact g.elim
  |exc _ _=>unfold RW at g;exact g.elim
  |non=>unfold RW at g;cases g
  |bl _=>unfold RW at g;cases g
  |int _=>unfold RW at g;cases g
  |str _=>unfold RW at g;cases g
 | .ref _,_,_,h,_=>by unfold RW at h;exact h.elim
 | .dct,_,_,h,_=>by unfold RW at h;exact h.elim
 | .ty _,_,_,h,_=>by unfold RW at h;exact h.elim
 | .fn _,_,_,h,_=>by unfold RW at h;exact h.elim
 | .exc _ _,_,_,h,_=>by unfold RW at h;exact h.elim
theorem RWs.det (I:L2.Inv X pins σ H s):∀ (l m:List PV) {xs:List V},RWs X.K H l xs->RWs X.K H m xs->l=m
 |[],m,xs,h,g=>by
  unfold RWs at h;subst h
  cases m with
  |nil=>rfl
  |cons _ _=>unfold RWs at g;obtain ⟨_,_,e,_⟩:=g;cases e
 |p::ps,m,xs,h,g=>by
  unfold RWs at h
  obtain ⟨x,r,rfl,h2,h3⟩:=h
  cases m with
  |nil=>unfold RWs at g;cases g
  |cons q qs =>
   unfold RWs at g
   obtain ⟨y,t,e,g2,g3⟩:=g
   cases e
   rw [RW.det I p q h2 g2,RWs.det I ps qs h3 g3]
end
theorem Qj (I:L2.Inv X pins σ H s) (p q:PV) {v u:V} {uv uu:Value} {A:Around} (hd:dep p=0) (hu':A.units < cLine) (hp:RW X.K H p v) (hq:RW X.K H q u) (rv:RelV v uv) (ru:RelV u uu):SeqAt.RcAt A s uv uu (peq p q):=by
 cases p with
 |tup l=>unfold dep at hd;omega
 |lst l=>unfold dep at hd;omega
 |ref _=>unfold RW at hp;exact hp.elim
 |dct=>unfold RW at hp;exact hp.elim
 |ty _=>unfold RW at hp;exact hp.elim
 |fn _=>unfold RW at hp;exact hp.elim
 |exc _ _=>unfold RW at hp;exact hp.elim
 |non =>
  unfold RW at hp;subst hp;cases rv
  cases q with
  |non=>unfold RW at hq;subst hq;cases ru;exact SeqAt.RcAt.none_none
  |bl _=>unfold RW at hq;subst hq;cases ru;exact SeqAt.RcAt.none_bool _
  |int _=>unfold RW at hq;subst hq;obtain ⟨t,rfl⟩:=ru;exact SeqAt.RcAt.none_int _ _
  |str _=>unfold RW at hq;subst hq;obtain ⟨t,rfl⟩:=ru;exact SeqAt.RcAt.none_str _ _
  |tup _=>unfold RW at hq;obtain ⟨a,xs,rfl,h2,_⟩:=hq;cases ru;obtain ⟨its,_,t,_⟩:=I.tuple h2;exact SeqAt.RcAt.none_tuple t hu'
  |lst _=>unfold RW at hq;obtain ⟨a,xs,rfl,h2,_⟩:=hq;cases ru;obtain ⟨its,_,t,_⟩:=I.list h2;exact SeqAt.RcAt.none_list t.isList hu'
  |ref _=>unfold RW at hq;exact hq.elim
  |dct=>unfold RW at hq;exact hq.elim
  |ty _=>unfold RW at hq;exact hq.elim
  |fn _=>unfold RW at hq;exact hq.elim
  |exc _ _=>unfold RW at hq;exact hq.elim
 |bl x =>
  unfold RW at hp;subst hp;cases rv
  cases q with
  |non=>unfold RW at hq;subst hq;cases ru;exact SeqAt.RcAt.bool_none _
  |bl _=>unfold RW at hq;subst hq;cases ru;exact SeqAt.RcAt.bool_bool _ _
  |int _=>unfold RW at hq;subst hq;obtain ⟨t,rfl⟩:=ru;exact SeqAt.RcAt.bool_int _ _ _
  |str _=>unfold RW at hq;subst hq;obtain ⟨t,rfl⟩:=ru;exact SeqAt.RcAt.bool_str _ _ _
  |tup _=>unfold RW at hq;obtain ⟨a,xs,rfl,h2,_⟩:=hq;cases ru;obtain ⟨its,_,t,_⟩:=I.tuple h2;exact SeqAt.RcAt.bool_tuple _ t hu'
  |lst _=>unfold RW at hq;obtain ⟨a,xs,rfl,h2,_⟩:=hq;cases ru;obtain ⟨its,_,t,_⟩:=I.list h2;exact SeqAt.RcAt.bool_list _ t.isList hu'
  |ref _=>unfold RW at hq;exact hq.elim
  |dct=>unfold RW at hq;exact hq.elim
  |ty _=>unfold RW at hq;exact hq.elim
  |fn _=>unfold RW at hq;exact hq.elim
  |exc _ _=>unfold RW at hq;exact hq.elim
 |int x =>
  unfold RW at hp;subst hp;obtain ⟨t0,rfl⟩:=rv
  cases q with
  |non=>unfold RW at hq;subst hq;cases ru;exact SeqAt.RcAt.int_none _ _
  |bl _=>unfold RW at hq;subst hq;cases ru;exact SeqAt.RcAt.int_bool _ _ _
  |int _=>unfold RW at hq;subst hq;obtain ⟨t,rfl⟩:=ru;exact SeqAt.RcAt.int_int _ _ _ _
  |str _=>unfold RW at hq;subst hq;obtain ⟨t,rfl⟩:=ru;exact SeqAt.RcAt.int_str _ _ _ _
  |tup _=>unfold RW at hq;obtain ⟨a,xs,rfl,h2,_⟩:=hq;cases ru;obtain ⟨its,_,t,_⟩:=I.tuple h2;exact SeqAt.RcAt.int_tuple _ _ t hu'
  |lst _=>unfold RW at hq;obtain ⟨a,xs,rfl,h2,_⟩:=hq;cases ru;obtain ⟨its,_,t,_⟩:=I.list h2;exact SeqAt.RcAt.int_list _ _ t.isList hu'
  |ref _=>unfold RW at hq;exact hq.elim
  |dct=>unfold RW at hq;exact hq.elim
  |ty _=>unfold RW at hq;exact hq.elim
  |fn _=>unfold RW at hq;exact hq.elim
  |exc _ _=>unfold RW at hq;exact hq.elim
 |str x =>
  unfold RW at hp;subst hp;obtain ⟨t0,rfl⟩:=rv
  cases q with
  |non=>unfold RW at hq;subst hq;cases ru;exact SeqAt.RcAt.str_none _ _
  |bl _=>unfold RW at hq;subst hq;cases ru;exact SeqAt.RcAt.str_bool _ _ _
  |int _=>unfold RW at hq;subst hq;obtain ⟨t,rfl⟩:=ru;exact SeqAt.RcAt.str_int _ _ _ _
  |str _=>unfold RW at hq;subst hq;obtain ⟨t,rfl⟩:=ru;exact SeqAt.RcAt.str_str _ _ _ _
  |tup _=>unfold RW at hq;obtain ⟨a,xs,rfl,h2,_⟩:=hq;cases ru;obtain ⟨its,_,t,_⟩:=I.tuple h2;exact SeqAt.RcAt.str_tuple _ _ t hu'
  |lst _=>unfold RW at hq;obtain ⟨a,xs,rfl,h2,_⟩:=hq;cases ru;obtain ⟨its,_,t,_⟩:=I.list h2;exact SeqAt.RcAt.str_list _ _ t.isList hu'
  |ref _=>unfold RW at hq;exact hq.elim
  |dct=>unfold RW at hq;exact hq.elim
  |ty _=>unfold RW at hq;exact hq.elim
  |fn _=>unfold RW at hq;exact hq.elim
  |exc _ _=>unfold RW at hq;exact hq.elim
theorem Qh (I:L2.Inv X pins σ H s) (p q:PV) {v u:V} {uv uu:Value} {A:Around} (hd:dep p=0) (hu':A.units < cLine) (hp:RW X.K H p v) (hq:RW X.K H q u) (rv:RelV v uv) (ru:RelV u uu):SeqAt.RcNeAt A s uv uu (!peq p q):=by
 cases p with
 |tup l=>unfold dep at hd;omega
 |lst l=>unfold dep at hd;omega
 |ref _=>unfold RW at hp;exact hp.elim
 |dct=>unfold RW at hp;exact hp.elim
 |ty _=>unfold RW at hp;exact hp.elim
 |fn _=>unfold RW at hp;exact hp.elim
 |exc _ _=>unfold RW at hp;exact hp.elim
 |non =>
  unfold RW at hp;subst hp;cases rv
  cases q with
  |non=>unfold RW at hq;subst hq;cases ru;exact SeqAt.RcNeAt.none_none
  |bl _=>unfold RW at hq;subst hq;cases ru;exact SeqAt.RcNeAt.none_bool _
  |int _=>unfold RW at hq;subst hq;obtain ⟨t,rfl⟩:=ru;exact SeqAt.RcNeAt.none_int _ _
  |str _=>unfold RW at hq;subst hq;obtain ⟨t,rfl⟩:=ru;exact SeqAt.RcNeAt.none_str _ _
  |tup _=>unfold RW at hq;obtain ⟨a,xs,rfl,h2,_⟩:=hq;cases ru;obtain ⟨its,_,t,_⟩:=I.tuple h2;exact SeqAt.RcNeAt.none_tuple t hu'
  |lst _=>unfold RW at hq;obtain ⟨a,xs,rfl,h2,_⟩:=hq;cases ru;obtain ⟨its,_,t,_⟩:=I.list h2;exact SeqAt.RcNeAt.none_list t.isList hu'
  |ref _=>unfold RW at hq;exact hq.elim
  |dct=>unfold RW at hq;exact hq.elim
  |ty _=>unfold RW at hq;exact hq.elim
  |fn _=>unfold RW at hq;exact hq.elim
  |exc _ _=>unfold RW at hq;exact hq.elim
 |bl x =>
  unfold RW at hp;subst hp;cases rv
  cases q with
  |non=>unfold RW at hq;subst hq;cases ru;exact SeqAt.RcNeAt.bool_none _
  |bl _=>unfold RW at hq;subst hq;cases ru;exact SeqAt.RcNeAt.bool_bool _ _
  |int _=>unfold RW at hq;subst hq;obtain ⟨t,rfl⟩:=ru;exact SeqAt.RcNeAt.bool_int _ _ _
  |str _=>unfold RW at hq;subst hq;obtain ⟨t,rfl⟩:=ru;exact SeqAt.RcNeAt.bool_str _ _ _
  |tup _=>unfold RW at hq;obtain ⟨a,xs,rfl,h2,_⟩:=hq;cases ru;obtain ⟨its,_,t,_⟩:=I.tuple h2;exact SeqAt.RcNeAt.bool_tuple _ t hu'
  |lst _=>unfold RW at hq;obtain ⟨a,xs,rfl,h2,_⟩:=hq;cases ru;obtain ⟨its,_,t,_⟩:=I.list h2;exact SeqAt.RcNeAt.bool_list _ t.isList hu'
  |ref _=>unfold RW at hq;exact hq.elim
  |dct=>unfold RW at hq;exact hq.elim
  |ty _=>unfold RW at hq;exact hq.elim
  |fn _=>unfold RW at hq;exact hq.elim
  |exc _ _=>unfold RW at hq;exact hq.elim
 |int x =>
  unfold RW at hp;subst hp;obtain ⟨t0,rfl⟩:=rv
  cases q with
  |non=>unfold RW at hq;subst hq;cases ru;exact SeqAt.RcNeAt.int_none _ _
  |bl _=>unfold RW at hq;subst hq;cases ru;exact SeqAt.RcNeAt.int_bool _ _ _
  |int _=>unfold RW at hq;subst hq;obtain ⟨t,rfl⟩:=ru;exact SeqAt.RcNeAt.int_int _ _ _ _
  |str _=>unfold RW at hq;subst hq;obtain ⟨t,rfl⟩:=ru;exact SeqAt.RcNeAt.int_str _ _ _ _
  |tup _=>unfold RW at hq;obtain ⟨a,xs,rfl,h2,_⟩:=hq;cases ru;obtain ⟨its,_,t,_⟩:=I.tuple h2;exact SeqAt.RcNeAt.int_tuple _ _ t hu'
  |lst _=>unfold RW at hq;obtain ⟨a,xs,rfl,h2,_⟩:=hq;cases ru;obtain ⟨its,_,t,_⟩:=I.list h2;exact SeqAt.RcNeAt.int_list _ _ t.isList hu'
  |ref _=>unfold RW at hq;exact hq.elim
  |dct=>unfold RW at hq;exact hq.elim
  |ty _=>unfold RW at hq;exact hq.elim
  |fn _=>unfold RW at hq;exact hq.elim
  |exc _ _=>unfold RW at hq;exact hq.elim
 |str x =>
  unfold RW at hp;subst hp;obtain ⟨t0,rfl⟩:=rv
  cases q with
  |non=>unfold RW at hq;subst hq;cases ru;exact SeqAt.RcNeAt.str_none _ _
  |bl _=>unfold RW at hq;subst hq;cases ru;exact SeqAt.RcNeAt.str_bool _ _ _
  |int _=>unfold RW at hq;subst hq;obtain ⟨t,rfl⟩:=ru;exact SeqAt.RcNeAt.str_int _ _ _ _
  |str _=>unfold RW at hq;subst hq;obtain ⟨t,rfl⟩:=ru;exact SeqAt.RcNeAt.str_str _ _ _ _
  |tup _=>unfold RW at hq;obtain ⟨a,xs,rfl,h2,_⟩:=hq;cases ru;obtain ⟨its,_,t,_⟩:=I.tuple h2;exact SeqAt.RcNeAt.str_tuple _ _ t hu'
  |lst _=>unfold RW at hq;obtain ⟨a,xs,rfl,h2,_⟩:=hq;cases ru;obtain ⟨its,_,t,_⟩:=I.list h2;exact SeqAt.RcNeAt.str_list _ _ t.isList hu'
  |ref _=>unfold RW at hq;exact hq.elim
  |dct=>unfold RW at hq;exact hq.elim
  |ty _=>unfold RW at hq;exact hq.elim
  |fn _=>unfold RW at hq;exact hq.elim
  |exc _ _=>unfold RW at hq;exact hq.elim
theorem qFu (I:L2.Inv X pins σ H s) (p q:PV) {v u:V} {uv uu:Value} {A:Around} (hu:A.units + (dep p + 1) < cLine) (hp:RW X.K H p v) (hq:RW X.K H q u) (rv:RelV v uv) (ru:RelV u uu):SeqAt.RcAt A s uv uu (peq p q):=by
 have hu':A.units < cLine:=Ao (Ba _ _) hu
 have elt:∀ {n:Nat} {l m:List PV} {xs ys:List V} {its its2:List Value},A.in1.units + n < cLine->deps l≤n->RWs X.K H l xs->RWs X.K H m ys->Vals xs its->Vals ys its2 -> ∀ j (h1:j < its.toArray.size) (h2:j < its2.toArray.size),SeqAt.EqAt A.in1 s its.toArray[j] its2.toArray[j] (eqN l m j):=fun {n l m xs ys its its2} hin hdl hl hm vl vm j h1 h2=>by
  have e1:its[j]? = some its.toArray[j]:=by simp
  have e2:its2[j]? = some its2.toArray[j]:=by simp
  obtain ⟨x,hx,rx⟩:=Vals.get2 vl e1
  obtain ⟨y,hy,ry⟩:=Vals.get2 vm e2
  obtain ⟨p',hp',rp'⟩:=RWs.get' hl hx
  obtain ⟨q',hq',rq'⟩:=RWs.get' hm hy
  have:eqN l m j=peq p' q':=by unfold eqN;rw [hp',hq']
  rw [this]
  exact ju I n p' q' x y _ _ A.in1 (AV (wz hp') hdl) hin rp' rq' rx ry
 cases p with
 |tup l =>
  have hp0:=hp
  unfold RW at hp
  obtain ⟨a,xs,rfl,h2,h3⟩:=hp
  cases rv
  obtain ⟨its,vl,tl,_⟩:=I.tuple h2
  unfold dep at hu
  cases q with
  |non=>unfold RW at hq;subst hq;cases ru;exact SeqAt.RcAt.tuple_none tl hu'
  |bl _=>unfold RW at hq;subst hq;cases ru;exact SeqAt.RcAt.tuple_bool _ tl hu'
  |int _=>unfold RW at hq;subst hq;obtain ⟨t,rfl⟩:=ru;exact SeqAt.RcAt.tuple_int _ _ tl hu'
  |str _=>unfold RW at hq;subst hq;obtain ⟨t,rfl⟩:=ru;exact SeqAt.RcAt.tuple_str _ _ tl hu'
  |lst _=>unfold RW at hq;obtain ⟨a,xs,rfl,h2,_⟩:=hq;cases ru;obtain ⟨its,_,t,_⟩:=I.list h2;exact SeqAt.RcAt.tuple_list tl t.isList hu'
  |ref _=>unfold RW at hq;exact hq.elim
  |dct=>unfold RW at hq;exact hq.elim
  |ty _=>unfold RW at hq;exact hq.elim
  |fn _=>unfold RW at hq;exact hq.elim
  |exc _ _=>unfold RW at hq;exact hq.elim
  |tup m =>
   unfold RW at hq
   obtain ⟨a2,ys,rfl,g2,g3⟩:=hq
   cases ru
   obtain ⟨its2,vm,tm,_⟩:=I.tuple g2
   have rc:=SeqAt.RcAt.tuples (e:=eqN l m) tl tm hu' (elt (n:=deps l) (by show A.units + 1 + deps l < cLine;omega) (AI _) h3 g3 vl vm)
   have hl1:its.toArray.size=l.length:=by rw [AK,← vl.length,h3.length]
   have hl2:its2.toArray.size=m.length:=by rw [AK,← vm.length,g3.length]
   rw [hl1,hl2] at rc
   have e:((List.range (min l.length m.length)).all (eqN l m)&&l.length==m.length)=peq (.tup l) (.tup m):=by
    unfold peq
    by_cases hlm:l.length=m.length
    ·rw [← hlm,Nat.min_self,w8 l m hlm,Al,Bool.and_true]
    ·rw [we l m hlm,BL hlm,BX]
   rw [e] at rc
   exact rc
 |lst l =>
  have hp0:=hp
  unfold RW at hp
  obtain ⟨a,xs,rfl,h2,h3⟩:=hp
  cases rv
  obtain ⟨its,vl,tl',_⟩:=I.list h2
  have tl:=tl'.isList
  unfold dep at hu
  cases q with
  |non=>unfold RW at hq;subst hq;cases ru;exact SeqAt.RcAt.list_none tl hu'
  |bl _=>unfold RW at hq;subst hq;cases ru;exact SeqAt.RcAt.list_bool _ tl hu'
  |int _=>unfold RW at hq;subst hq;obtain ⟨t,rfl⟩:=ru;exact SeqAt.RcAt.list_int _ _ tl hu'
  |str _=>unfold RW at hq;subst hq;obtain ⟨t,rfl⟩:=ru;exact SeqAt.RcAt.list_str _ _ tl hu'
  |tup _=>unfold RW at hq;obtain ⟨a,xs,rfl,h2,_⟩:=hq;cases ru;obtain ⟨its,_,t,_⟩:=I.tuple h2;exact SeqAt.RcAt.list_tuple tl t hu'
  |ref _=>unfold RW at hq;exact hq.elim
  |dct=>unfold RW at hq;exact hq.elim
  |ty _=>unfold RW at hq;exact hq.elim
  |fn _=>unfold RW at hq;exact hq.elim
  |exc _ _=>unfold RW at hq;exact hq.elim
  |lst m =>
   unfold RW at hq
   obtain ⟨a2,ys,rfl,g2,g3⟩:=hq
   cases ru
   obtain ⟨its2,vm,tm',_⟩:=I.list g2
   have tm:=tm'.isList
   have hl1:its.toArray.size=l.length:=by rw [AK,← vl.length,h3.length]
   have hl2:its2.toArray.size=m.length:=by rw [AK,← vm.length,g3.length]
   unfold peq
   by_cases hlm:l.length=m.length
   ·have rc:=SeqAt.RcAt.lists (e:=eqN l m) tl tm (by rw [hl1,hl2,hlm]) hu' (elt (n:=deps l) (by show A.units + 1 + deps l < cLine;omega) (AI _) h3 g3 vl vm)
    rw [hl1,w8 l m hlm] at rc
    exact rc
   ·rw [we l m hlm]
    exact SeqAt.RcAt.lists_lengths tl tm (by rw [hl1,hl2];exact bne_iff_ne.mpr hlm) hu'
 |non=>exact Qj I _ q rfl hu' hp hq rv ru
 |bl _=>exact Qj I _ q rfl hu' hp hq rv ru
 |int _=>exact Qj I _ q rfl hu' hp hq rv ru
 |str _=>exact Qj I _ q rfl hu' hp hq rv ru
 |ref _=>exact Qj I _ q rfl hu' hp hq rv ru
 |dct=>exact Qj I _ q rfl hu' hp hq rv ru
 |ty _=>exact Qj I _ q rfl hu' hp hq rv ru
 |fn _=>exact Qj I _ q rfl hu' hp hq rv ru
 |exc _ _=>exact Qj I _ q rfl hu' hp hq rv ru
theorem qFX (I:L2.Inv X pins σ H s) (p q:PV) {v u:V} {uv uu:Value} {A:Around} (hu:A.units + (dep p + 1) < cLine) (hp:RW X.K H p v) (hq:RW X.K H q u) (rv:RelV v uv) (ru:RelV u uu):SeqAt.RcNeAt A s uv uu (!peq p q):=by
 have hu':A.units < cLine:=Ao (Ba _ _) hu
 have elt:∀ {n:Nat} {l m:List PV} {xs ys:List V} {its its2:List Value},A.in1.units + n < cLine->deps l≤n->RWs X.K H l xs->RWs X.K H m ys->Vals xs its->Vals ys its2 -> ∀ j (h1:j < its.toArray.size) (h2:j < its2.toArray.size),SeqAt.EqAt A.in1 s its.toArray[j] its2.toArray[j] (eqN l m j):=fun {n l m xs ys its its2} hin hdl hl hm vl vm j h1 h2=>by
  have e1:its[j]? = some its.toArray[j]:=by simp
  have e2:its2[j]? = some its2.toArray[j]:=by simp
  obtain ⟨x,hx,rx⟩:=Vals.get2 vl e1
  obtain ⟨y,hy,ry⟩:=Vals.get2 vm e2
  obtain ⟨p',hp',rp'⟩:=RWs.get' hl hx
  obtain ⟨q',hq',rq'⟩:=RWs.get' hm hy
  have:eqN l m j=peq p' q':=by unfold eqN;rw [hp',hq']
  rw [this]
  exact ju I n p' q' x y _ _ A.in1 (AV (wz hp') hdl) hin rp' rq' rx ry
 cases p with
 |tup l =>
  have hp0:=hp
  unfold RW at hp
  obtain ⟨a,xs,rfl,h2,h3⟩:=hp
  cases rv
  obtain ⟨its,vl,tl,_⟩:=I.tuple h2
  unfold dep at hu
  cases q with
  |non=>unfold RW at hq;subst hq;cases ru;exact SeqAt.RcNeAt.tuple_none tl hu'
  |bl _=>unfold RW at hq;subst hq;cases ru;exact SeqAt.RcNeAt.tuple_bool _ tl hu'
  |int _=>unfold RW at hq;subst hq;obtain ⟨t,rfl⟩:=ru;exact SeqAt.RcNeAt.tuple_int _ _ tl hu'
  |str _=>unfold RW at hq;subst hq;obtain ⟨t,rfl⟩:=ru;exact SeqAt.RcNeAt.tuple_str _ _ tl hu'
  |lst _=>unfold RW at hq;obtain ⟨a,xs,rfl,h2,_⟩:=hq;cases ru;obtain ⟨its,_,t,_⟩:=I.list h2;exact SeqAt.RcNeAt.tuple_list tl t.isList hu'
  |ref _=>unfold RW at hq;exact hq.elim
  |dct=>unfold RW at hq;exact hq.elim
  |ty _=>unfold RW at hq;exact hq.elim
  |fn _=>unfold RW at hq;exact hq.elim
  |exc _ _=>unfold RW at hq;exact hq.elim
  |tup m =>
   unfold RW at hq
   obtain ⟨a2,ys,rfl,g2,g3⟩:=hq
   cases ru
   obtain ⟨its2,vm,tm,_⟩:=I.tuple g2
   have rc:=SeqAt.RcNeAt.tuples (e:=eqN l m) tl tm hu' (elt (n:=deps l) (by show A.units + 1 + deps l < cLine;omega) (AI _) h3 g3 vl vm)
   have hl1:its.toArray.size=l.length:=by rw [AK,← vl.length,h3.length]
   have hl2:its2.toArray.size=m.length:=by rw [AK,← vm.length,g3.length]
   rw [hl1,hl2] at rc
   have e:((List.range (min l.length m.length)).all (eqN l m)&&l.length==m.length)=peq (.tup l) (.tup m):=by
    unfold peq
    by_cases hlm:l.length=m.length
    ·rw [← hlm,Nat.min_self,w8 l m hlm,Al,Bool.and_true]
    ·rw [we l m hlm,BL hlm,BX]
   rw [e] at rc
   exact rc
 |lst l =>
  have hp0:=hp
  unfold RW at hp
  obtain ⟨a,xs,rfl,h2,h3⟩:=hp
  cases rv
  obtain ⟨its,vl,tl',_⟩:=I.list h2
  have tl:=tl'.isList
  unfold dep at hu
  cases q with
  |non=>unfold RW at hq;subst hq;cases ru;exact SeqAt.RcNeAt.list_none tl hu'
  |bl _=>unfold RW at hq;subst hq;cases ru;exact SeqAt.RcNeAt.list_bool _ tl hu'
  |int _=>unfold RW at hq;subst hq;obtain ⟨t,rfl⟩:=ru;exact SeqAt.RcNeAt.list_int _ _ tl hu'
  |str _=>unfold RW at hq;subst hq;obtain ⟨t,rfl⟩:=ru;exact SeqAt.RcNeAt.list_str _ _ tl hu'
  |tup _=>unfold RW at hq;obtain ⟨a,xs,rfl,h2,_⟩:=hq;cases ru;obtain ⟨its,_,t,_⟩:=I.tuple h2;exact SeqAt.RcNeAt.list_tuple tl t hu'
  |ref _=>unfold RW at hq;exact hq.elim
  |dct=>unfold RW at hq;exact hq.elim
  |ty _=>unfold RW at hq;exact hq.elim
  |fn _=>unfold RW at hq;exact hq.elim
  |exc _ _=>unfold RW at hq;exact hq.elim
  |lst m =>
   unfold RW at hq
   obtain ⟨a2,ys,rfl,g2,g3⟩:=hq
   cases ru
   obtain ⟨its2,vm,tm',_⟩:=I.list g2
   have tm:=tm'.isList
   have hl1:its.toArray.size=l.length:=by rw [AK,← vl.length,h3.length]
   have hl2:its2.toArray.size=m.length:=by rw [AK,← vm.length,g3.length]
   unfold peq
   by_cases hlm:l.length=m.length
   ·have rc:=SeqAt.RcNeAt.lists (e:=eqN l m) tl tm (by rw [hl1,hl2,hlm]) hu' (elt (n:=deps l) (by show A.units + 1 + deps l < cLine;omega) (AI _) h3 g3 vl vm)
    rw [hl1,w8 l m hlm] at rc
    exact rc
   ·rw [we l m hlm]
    exact SeqAt.RcNeAt.lists_lengths tl tm (by rw [hl1,hl2];exact bne_iff_ne.mpr hlm) hu'
 |non=>exact Qh I _ q rfl hu' hp hq rv ru
 |bl _=>exact Qh I _ q rfl hu' hp hq rv ru
 |int _=>exact Qh I _ q rfl hu' hp hq rv ru
 |str _=>exact Qh I _ q rfl hu' hp hq rv ru
 |ref _=>exact Qh I _ q rfl hu' hp hq rv ru
 |dct=>exact Qh I _ q rfl hu' hp hq rv ru
 |ty _=>exact Qh I _ q rfl hu' hp hq rv ru
 |fn _=>exact Qh I _ q rfl hu' hp hq rv ru
 |exc _ _=>exact Qh I _ q rfl hu' hp hq rv ru
end
def res (st:qC) (p:PV):PV:=match asL st p with
 |some l => .lst l
 |none=>p
theorem ZQ {K:W.Frag} {H:Hp} {b:Bz} {st:qC} {p:PV} {v:V} (S:SR K H b st) (r:RV K H b p v) (h:nr (res st p)=true):RW K H (res st p) v:=by
 unfold res at h ⊢
 cases e:asL st p with
 |none=>rw [e] at h;exact RV.rw p h r
 |some l =>
  rw [e] at h
  obtain ⟨a,xs,rfl,h2,h3⟩:=Q6 S r e
  dsimp only at h ⊢
  unfold nr at h
  unfold RW
  exact ⟨a,xs,rfl,h2,RVs.rws l h h3⟩
abbrev zP:Nat:=60
def yb (p q:PV):Bool:=nr p&&nr q&&decide (dep p≤zP)
def gEq:PV->PV->qC->Rs PV:=fun p q st=>if yb (res st p) (res st q)=true then .ok (.bl (peq (res st p) (res st q))) st else .no
def gNe:PV->PV->qC->Rs PV:=fun p q st=>if yb (res st p) (res st q)=true then .ok (.bl (!peq (res st p) (res st q))) st else .no
section
variable {X:Cx} {E:XK} {e a c d:Expr} {es:List Expr} {f fa fb fc:FE} {pos:Pos}
def qCh (K:W.Frag) (neg:Bool):R2:=fun u v H Q => ∃ p q,RW K H p u∧RW K H q v∧dep p≤zP∧Q (.bl (if neg then !peq p q else peq p q)) H
theorem qAd (hr:X.A.units + 64 < cLine):OpR X (compareOp .Eq) (qCh X.K false):=by
 intro pins s σ H x y v u Q I rx ry h
 obtain ⟨p,q,hp,hq,hd,h⟩:=h
 exact qFu I p q (by have:dep p≤60:=hd;omega) hp hq rx ry _ _ _ _ ⟨.bl _,H,I,rfl,h⟩
theorem Wp (hr:X.A.units + 64 < cLine):OpR X (compareOp .NotEq) (qCh X.K true):=by
 intro pins s σ H x y v u Q I rx ry h
 obtain ⟨p,q,hp,hq,hd,h⟩:=h
 exact qFX I p q (by have:dep p≤60:=hd;omega) hp hq rx ry _ _ _ _ ⟨.bl _,H,I,rfl,h⟩
theorem Yf {p q:PV} (h:yb p q=true):nr p=true∧nr q=true∧dep p≤zP:=by
 unfold yb at h
 rw [Av,Av] at h
 exact ⟨h.1.1,h.1.2,of_decide_eq_true h.2⟩
theorem qDX:OpG X E (qCh X.K false) gEq:=by
 intro H b st p q u v Q S rp rq P
 unfold gEq at P
 split at P
 ·rename_i h
  obtain ⟨h1,h2,h3⟩:=Yf h
  exact ⟨_,_,ZQ S rp h1,ZQ S rq h2,h3,PostE.here P S WL⟩
 ·exact P.elim
theorem zn:OpG X E (qCh X.K true) gNe:=by
 intro H b st p q u v Q S rp rq P
 unfold gNe at P
 split at P
 ·rename_i h
  obtain ⟨h1,h2,h3⟩:=Yf h
  exact ⟨_,_,ZQ S rp h1,ZQ S rq h2,h3,PostE.here P S WL⟩
 ·exact P.elim
def pin (x:PV):List PV->Bool
 |[]=>false
 |y::ys=>peq y x || pin x ys
def gIn (neg:Bool):PV->PV->qC->Rs PV:=fun p q st=>match zM st q with
 |some l=>if nrs l=true∧nr (res st p)=true∧deps l≤zP then .ok (.bl (if neg then !pin (res st p) l else pin (res st p) l)) st else .no
 |none => .no
def qGC (K:W.Frag) (neg:Bool):R2:=fun u v H Q => ∃ p l a xs,v = .ref a∧(SqL K H a xs∨SqT K H a xs)∧RW K H p u∧RWs K H l xs∧deps l≤zP∧Q (.bl (if neg then !pin p l else pin p l)) H
theorem j6 {X:Cx} {pins:List (Addr×Obj)} {σ:L2.St} {H:Hp} {s:Shared} (I:L2.Inv X pins σ H s) {A:Around} {p:PV} {u:V} {uu:Value} (hp:RW X.K H p u) (ru:RelV u uu) (hA:A.units + 60 < cLine)
  {l:List PV} {xs:List V} {its:List Value} (hl:RWs X.K H l xs) (vl:Vals xs its) (hd:deps l≤zP):∃ g:Value->Bool,(∀ y∈its,SeqAt.EqAt A s y uu (g y))∧its.any g=pin p l:=by
 classical
 have key:∀ (q:PV) (x:V) (y:Value),RW X.K H q x->RelV x y->decide (∃ q x,RW X.K H q x∧RelV x y∧peq q p=true)=peq q p:=fun q x y h1 h2=>by
  by_cases hb:peq q p=true
  ·rw [hb];exact AW ⟨q,x,h1,h2,hb⟩
  ·rw [show peq q p=false by simpa using hb]
   refine AQ fun ⟨q',x',k1,k2,k3⟩=>hb ?_
   have ex:x'=x:=k2.inj h2
   subst ex
   rw [RW.det I q q' h1 k1];exact k3
 refine ⟨fun y=>decide (∃ q x,RW X.K H q x∧RelV x y∧peq q p=true),fun y hy => ?_,?_⟩
 ·obtain ⟨i,hi⟩:=BZ hy
  obtain ⟨x,hx,rx⟩:=Vals.get2 vl hi
  obtain ⟨q,hq,rq⟩:=RWs.get' hl hx
  dsimp only
  rw [key q x y rq rx]
  exact ju I 60 q p x u y uu A (AV (wz hq) hd) hA rq hp rx ru
 ·have go:∀ (l:List PV) (xs:List V) (its:List Value),RWs X.K H l xs->Vals xs its->its.any (fun y=>decide (∃ q x,RW X.K H q x∧RelV x y∧peq q p=true))=pin p l:=by
   intro l
   induction l with
   |nil=>intro xs its h v;unfold RWs at h;subst h;cases v;rfl
   |cons q qs ih =>
    intro xs its h v
    unfold RWs at h
    obtain ⟨x,r,rfl,h2,h3⟩:=h
    cases v with
    |cons rv vr =>
     rw [List.any_cons,key q x _ h2 rv,ih _ _ h3 vr]
     rfl
  exact go l xs its hl vl
theorem Z0 (hr:X.A.units + 64 < cLine):OpR X (compareOp .NotIn) (qGC X.K true):=by
 intro pins s σ H x y v u Q I rx ry h
 obtain ⟨p,l,a,xs,rfl,hs,hp,hl,hd,h⟩:=h
 cases ry
 have hA:X.A.in1.units + 60 < cLine:=by show X.A.units + 1 + 60 < cLine;omega
 rcases hs with hs |hs
 ·obtain ⟨its,vl,t,_⟩:=I.list hs
  obtain ⟨g,h1,h2⟩:=j6 I hp rx hA hl vl hd
  exact SeqAt.notIn_listAt g t.isList (fun y hy=>h1 y (by simpa using hy)) ⟨.bl _,H,I,by show _=_;rw [List.any_toArray,h2];rfl,h⟩
 ·obtain ⟨its,vl,t,_⟩:=I.tuple hs
  obtain ⟨g,h1,h2⟩:=j6 I hp rx hA hl vl hd
  exact SeqAt.notIn_tupleAt g t (fun y hy=>h1 y (by simpa using hy)) ⟨.bl _,H,I,by show _=_;rw [List.any_toArray,h2];rfl,h⟩
theorem qDb {neg:Bool}:OpG X E (qGC X.K neg) (gIn neg):=by
 intro H b st p q u v Q S rp rq P
 unfold gIn at P
 split at P
 ·rename_i l el
  split at P
  ·rename_i hh
   obtain ⟨h1,h2,h3⟩:=hh
   obtain ⟨a,xs,rfl,k2,k3⟩:=yD S rq el
   exact ⟨_,l,a,xs,rfl,k2,ZQ S rp h2,RVs.rws l h1 k3,h3,PostE.here P S WL⟩
  ·exact P.elim
 ·exact P.elim
end
end EV
end
section
namespace EV
open PySem PySem.Spec PyProof.Rows L2 EX
section
variable {X:Cx} {E:XK} {e a c d:Expr} {es:List Expr} {f fa fb fc:FE} {pos:Pos} {F G:FS}
def qDp:FS:=fun _ _ => .no
theorem qFp {st:Stmt}:VS X E st qDp:=PS.imp qBa fun D s H ⟨b,r,st,S,R,P⟩=>P.elim
def zB (C:Addr) (t:FA):FS:=fun r st=>match t r st with
 | .ok ps s=>if ps.length≤sizeLine then .ex ⟨C,[]⟩ s else .no
 | .ex x s => .ex x s
 | .no => .no
theorem Ym {x:Str} {C:Addr} {t:FA} {np cpos:Pos} (hz:Rz X E) (hc:X.calm=true) (hg:Gl X x) (hm:X.mg x=some (.ref C)) (q:W.excIn X.K C bmV "ValueError.__new__" = true) (ha:VA X E (e::es) t) (hdb:(x==("__debug__":Str))=false:=by decide)
  (he:starEach (e::es) X.env=(false,eval e X.env)::starEach es X.env:=by rfl) (hpl:(backTo cpos (starEach es X.env)).any (·.1)=false:=by rfl):VS X E (.Raise (some (.Call (.Name x np) (e::es) [] cpos)) none pos) (zB C t) :=
 PS.imp (qB3 hz hc hg hm q ha hdb he hpl) fun D s H ⟨b,r,st,S,R,P⟩=>⟨b,r,st,S,R,by
  unfold zB at P
  cases ef:t r st with
  |no=>rw [ef] at P;exact P.elim
  |ex x s1=>rw [ef] at P;exact P
  |ok ps s1 =>
   rw [ef] at P
   dsimp only at P
   by_cases hl:ps.length≤sizeLine
   ·rw [AH hl] at P
    exact fun vs H' b' e' S' r'=>⟨by rw [← r'.length];exact hl,P (.ref C) none H' b' e' S' ⟨rfl,.inl ⟨rfl,rfl⟩⟩⟩
   ·rw [AO hl] at P;exact P.elim⟩
theorem REnv.lose {K:W.Frag} {H:Hp} {b:Bz} {r:ql} {s:L2.St} (h:REnv K H b r s) (i:Nat):REnv K H b (r.set i none) (s.set i none):=by
 refine ⟨by simp [h.1],fun j q hq => ?_⟩
 by_cases hj:i=j
 ·subst hj
  by_cases hl:i < r.length
  ·rw [Ac hl] at hq;cases hq
  ·rw [List.getElem?_eq_none (by simpa using hl)] at hq;cases hq
 ·rw [Af hj] at hq ⊢
  exact h.2 j q hq
def ZA (i n:Nat) (cs:List Addr) (Fb Fh:FS):FS:=fun r st=>match Fb r st with
 | .ex x s=>if x.cls∈cs then (match Fh ((List.replicate n none).set i (some (.exc x.cls x.fs))) s with
  | .nx r' s' => .nx (r'.set i none) s'
  | .bk r' s' => .bk (r'.set i none) s'
  | .ct r' s' => .ct (r'.set i none) s'
  | .rt v s' => .rt v s'
  | .ex _ _ => .no
  | .no => .no) else .no
 |o=>o
theorem qFA {x n:Str} {Bx:Addr} {dd:Option Addr} {cd:ClassData} {sl:Array (Option Value)} {body:List Stmt} {b0:Stmt} {suite:List Stmt} {np hpos:Pos} {cs:List Addr} {Fb Fh:FS} (i:Nat) (FX:FrameX X) (hc:X.calm=true) (hN:X.N.Nodup)
  (hg:Gl X x) (hm:X.mg x=some (.ref Bx)) (o1:X.K.lookup Bx=some ⟨.type "type",dd,.cls cd,sl⟩) (m1:W.mroIn X.K Bx (.type "BaseException")=some true) (hcs:∀ C∈cs,W.mroIn X.K C (.ref Bx)=some true)
  (hb:∀ (pins:List (Addr×Obj)) (xe:Value->Shared->Prop) (E':XK),WR (CXF X.prog X.w) (Yn X pins xe) E'->VSs (Yn X pins xe) E' body Fb) (hh:∀ ea,VSs (suX X ea) E0 (b0::suite) Fh)
  (hi:X.N[i]? = some n:=by rfl) (hl:X.env.scope.names.lookup n=some .local:=by rfl) (hdb:(x==("__debug__":Str))=false:=by decide) :
  VS X E (.Try body [.ExceptHandler (some (.Name x np)) (some n) (b0::suite) hpos] [] [] pos) (ZA i X.N.length cs Fb Fh):=by
 refine PS.imp (qEC (ok:=fun v => ∃ C∈cs,v = .ref C) (tb:=fun E'=>rdS X.K E' Fb) (th:=rdS X.K E0 Fh) FX hc hN hi hl hg hm o1 m1 (fun v ⟨C,hC,e⟩=>⟨C,e,hcs C hC⟩) hb hh hdb) fun D σ H ⟨b,r,st,S,R,P⟩=>⟨b,r,st,S,R,?_⟩
 unfold ZA at P
 cases eb:Fb r st with
 |nx r' s'=>rw [eb] at P;exact P
 |rt r' s'=>rw [eb] at P;exact P
 |bk r' s'=>rw [eb] at P;exact P
 |ct r' s'=>rw [eb] at P;exact P
 |no=>rw [eb] at P;exact P
 |ex x s1 =>
  rw [eb] at P
  dsimp only at P
  by_cases hx:x.cls∈cs
  ·rw [AH hx] at P
   intro c d H' b' e' S' rx
   obtain ⟨rc,rf⟩:=rx
   refine ⟨⟨x.cls,hx,rc⟩,fun σ' ea oe hlen hn hcls hdict hdata=>⟨b',(List.replicate X.N.length none).set i (some (.exc x.cls x.fs)),s1,S'.new hn,⟨by simp [hlen],fun j p hp => ?_⟩,?_⟩⟩
   ·by_cases hj:i=j
    ·subst hj
     have hl':i < X.N.length:=(AG.mp hi).1
     rw [Ac (by simpa using hl')] at hp
     cases hp
     refine ⟨.ref ea,by rw [Ac (by rw [hlen];exact hl')],?_⟩
     unfold RV
     refine ⟨ea,oe,_,rfl,qb,S'.new_notin hn,hcls.trans rc,hdata,rf.imp (fun q=>⟨q.1,hdict.trans q.2⟩) fun ⟨a,q1,q2,q3⟩=>⟨a,hdict.trans q1,by rw [qK (qM q2 hn)];exact q2,q3⟩⟩
    ·rw [Af hj,BE] at hp
     split at hp <;> cases hp
   ·have P2:=PostS.ext P (e'.trans (Ext.new (o := .frz oe qA3) hn))
    cases eh:Fh ((List.replicate X.N.length none).set i (some (.exc x.cls x.fs))) s1 with
    |nx r' s'=>rw [eh] at P2;exact fun s2 H2 b2 e2 S2 R2=>P2 _ H2 b2 e2 S2 (R2.lose i)
    |bk r' s'=>rw [eh] at P2;exact fun s2 H2 b2 e2 S2 R2=>P2 _ H2 b2 e2 S2 (R2.lose i)
    |ct r' s'=>rw [eh] at P2;exact fun s2 H2 b2 e2 S2 R2=>P2 _ H2 b2 e2 S2 (R2.lose i)
    |rt v s'=>rw [eh] at P2;exact P2
    |ex y s'=>rw [eh] at P2;exact P2.elim
    |no=>rw [eh] at P2;exact P2.elim
  ·rw [AO hx] at P;exact P.elim
def tyP:PV->Option Value
 | .non=>some (.type "NoneType")
 | .bl _=>some (.type "bool")
 | .int _=>some (.type "int")
 | .str _=>some (.type "str")
 | .tup _=>some (.type "tuple")
 | .lst _=>some (.type "list")
 | .ref _=>some (.type "list")
 | .dct=>some (.type "dict")
 | .exc c _=>some (.ref c)
 |_=>none
def clP:PV->Option Value
 | .ty n=>some (.type n)
 | .fn a=>some (.ref a)
 |_=>none
def Jb (kit:Value->Value->Option Bool) (p c:PV):Option Bool:=match tyP p,clP c with
 |some t,some c=>kit t c
 |_,_=>none
def YL (kit:Value->Value->Option Bool) (p:PV):List PV->Option Bool
 |[]=>some false
 |c::r=>match Jb kit p c with
  |some true=>some true
  |some false=>YL kit p r
  |none=>none
def qFh (kit:Value->Value->Option Bool) (p:PV):PV->Option Bool
 | .tup cs=>if (tyP p).isSome then YL kit p cs else none
 |c=>Jb kit p c
structure KitOk (K:W.Frag) (kit:Value->Value->Option Bool):Prop where
 one:∀ t c b,kit t c=some b->W.kitOne K t c=some b
 exc:∀ a c b,kit (.ref a) c=some b->ExcK K a
end
end EV
end
section
namespace EX
open PySem PySem.Spec PyProof.Rows L2
section
variable {X:Cx}
def qF5 (K:W.Frag):R2:=fun x y H Q => ∃ l b xs zs,x = .ref l∧y = .ref b∧SqL K H l xs∧SqL K H b zs∧xs.length + zs.length≤sizeLine ∧ ∀ p,H p=none->Q (.ref p) (upd H p (.lst (xs++zs)))
theorem qCO:OpR X (binaryOp .Add) (qF5 X.K):=by
 intro pins s σ H x y v u Q I rx ry h
 obtain ⟨l,b,xs,zs,rfl,rfl,h1,h2,hz,q⟩:=h
 cases rx
 cases ry
 obtain ⟨us,r1,p1,_⟩:=I.list h1
 obtain ⟨ws,r2,p2,_⟩:=I.list h2
 obtain ⟨⟨c1,d1,a1,s1⟩,o1,e1,m1,f1⟩:=id p1.isList
 obtain ⟨⟨c2,d2,a2,s2⟩,o2,e2,m2,f2⟩:=id p2.isList
 have e1:c1=_:=e1
 have e2:c2=_:=e2
 have f1:a1=_:=f1
 have f2:a2=_:=f2
 subst e1;subst e2;subst f1;subst f2
 have z:us.length + ws.length≤sizeLine:=by rw [← r1.length,← r2.length];exact hz
 refine concat_meets ⟨_,o1,rfl⟩ ⟨_,o2,rfl⟩ noFill_list_add seq_list_add F.slot_list_add F.entry_list_add (F.args_list_add_2 _ _) (list_addW l b us.toArray ws.toArray m1 m2 d1 d2 s1 s2 (by simpa using z)) ⟨o1,o2,?_⟩
 rw [show us.toArray++ws.toArray=(us++ws).toArray by simp]
 exact ⟨.ref _,_,I.lnew (t':=s.toks) (r1.append r2) (by rw [Aa];exact hz),rfl,q _ I.fresh⟩
def qEL (K:W.Frag):R2:=fun x y H Q => ∃ a b xs ys,x = .ref a∧y = .ref b∧SqT K H a xs∧SqT K H b ys∧xs.length + ys.length≤sizeLine ∧
 (xs=[]->Q (.ref b) H)∧(xs≠[]->ys=[]->Q (.ref a) H)∧(xs≠[]->ys≠[] -> ∀ p,H p=none->Q (.ref p) (upd H p (.tup (xs++ys))))
theorem qAX:OpR X (binaryOp .Add) (qEL X.K):=by
 intro pins s σ H x y v u Q I rx ry h
 obtain ⟨a,b,xs,ys,rfl,rfl,ha,hb,hz,q0,q1,q2⟩:=h
 by_cases hx:xs=[]
 ·cases rx
  cases ry
  obtain ⟨us,r1,p1,_⟩:=I.tuple ha
  obtain ⟨ws,r2,p2,_⟩:=I.tuple hb
  obtain ⟨⟨c1,d1,a1,s1⟩,o1,e1,m1,f1⟩:=id p1
  obtain ⟨⟨c2,d2,a2,s2⟩,o2,e2,m2,f2⟩:=id p2
  have e1:c1=_:=e1
  have e2:c2=_:=e2
  have f1:a1=_:=f1
  have f2:a2=_:=f2
  subst e1;subst e2;subst f1;subst f2
  exact concat_meets ⟨_,o1,rfl⟩ ⟨_,o2,rfl⟩ noFill_tuple_add seq_tuple_add F.slot_tuple_add F.entry_tuple_add (F.args_tuple_add_2 _ _) (tuple_addW0 a b us.toArray ws.toArray m1 m2 d1 d2 s1 s2 (by simp [r1.nil_iff.mpr hx])) ⟨o1,o2,.ref b,H,I,rfl,q0 hx⟩
 ·exact qDF pins s σ H _ _ v u Q I rx ry ⟨a,b,xs,ys,rfl,rfl,ha,hb,hx,hz,q1 hx,q2 hx⟩
def qHO (K:W.Frag):V->Option Int->Option Int->Hp->VK->Prop:=fun x lo hi H Q => ∃ a xs,x = .ref a∧SqT K H a xs∧HT.sIx xs.length 0 lo=0∧HT.sIx xs.length xs.length hi=xs.length∧Q (.ref a) H
theorem qBv:SlR X (qHO X.K):=by
 intro pins s σ H x v vl vu lo hi sl Q I rx hs pl pu h
 obtain ⟨a,xs,rfl,hx,w1,w2,q⟩:=h
 cases rx
 obtain ⟨its,r,ht,hz⟩:=I.tuple hx
 have hlen:its.toArray.size=xs.length:=by rw [AK];exact r.length.symm
 refine ⟨"tuple",_,PyProof.Rows.slot_tuple_getitem.lookup,ht.typeIs,?_⟩
 obtain ⟨os,hos,hcs,hds⟩:=id hs
 have hTs:s.TypeIs (.ref sl) "slice" := ⟨os,hos,hcs⟩
 unfold getItem
 try with_reducible refine At ?_
 first |refine AA (AB ?_) |skip
 refine AA (wpAny_sequenceKey ht.typeIs (by decide) ?_)
 refine AA (Ax (name:=Str.ofString "__getitem__") ht.typeIs BC (Ay BC ht.typeIs PyProof.Rows.entry_tuple_getitem ?_ (PyProof.Rows.args_tuple_getitem _ _)))
 show wpAny _ _ (Builtin.Tuple.tupleItemsOf (.ref a) >>= _) _ _ s
 refine AA (tupleItemsOf_ ht ?_)
 refine AA (wpAny_typeOf hTs ?_)
 rw [AH (by decide)]
 refine AA (HT.sliceApplied_gen hs pl pu ?_)
 rw [hlen,w1,w2]
 dsimp only
 rw [AH (show ((((0:Nat):Int)==0&&(1:Int)==1&&xs.length - 0==xs.length)=true) by simp)]
 unfold Builtin.Tuple.tupleIsExact
 refine AA (AA (wpAny_typeOf ht.typeIs (AB ?_)))
 rw [AH (by simp)]
 exact AA (BY (AB ⟨_,rfl,AB ⟨.ref a,H,I,rfl,q⟩⟩))
def PJ (X:Cx) (es:List Expr) (t:Str->L2.St->Hp->(Str->Hp->Prop)->Prop):Prop := ∀ (out:Str) (pins:List (Addr×Obj)) (s:Shared) (σ:L2.St) (H:Hp) (Q:Str->Hp->Prop),L2.Inv X pins σ H s->t out σ H Q ->
 wpAny (model X.prog X.w) X.A (joinParts out (evalEach es X.env)) (fun u s' => ∃ x H',L2.Inv X pins σ H' s'∧(∃ t,u = .str x t)∧Q x H') X.xe s
theorem qEy:PJ X [] (fun out _ H Q=>out.length≤sizeLine∧Q out H):=fun out pins s σ H Q I h=>joinParts_nil ⟨out,H,I.tok _,⟨_,rfl⟩,h.2⟩ h.1
theorem qCH {e:Expr} {es:List Expr} {te:TE} {t:Str->L2.St->Hp->(Str->Hp->Prop)->Prop} (h1:PE X e te) (h2:PJ X es t):PJ X (e::es) (fun out σ H Q=>te σ H fun v H1 => ∃ y,v = .str y∧(out++y).length≤sizeLine∧t (out++y) σ H1 Q) :=
 fun out pins s σ H Q I h=>joinParts_cons (thn (h1 pins s σ H _ I h) fun u s1 ⟨v,H1,I1,r1,y,e,z,q⟩=>by
  subst e
  obtain ⟨t',rfl⟩:=r1
  exact ⟨z,h2 (out++y) pins s1 σ H1 Q I1 q⟩)
theorem qD3 {e:Expr} {te:TE} {pos:Pos} (h:PE X e te):PE X (.FormattedValue e (-1) none pos) (fun σ H Q=>te σ H fun v H1 => ∃ i,v = .int i∧i.natAbs.log2 < 1920∧Q (.str (toString i)) H1) :=
 fun pins s σ H Q I q=>FormattedValue_plain (thn (h pins s σ H _ I q) fun u s1 ⟨v,H1,I1,r1,i,e,z,q⟩=>by
  subst e
  obtain ⟨t',rfl⟩:=r1
  exact wpAny_formatField_int z ⟨.str _,H1,I1.tok _,⟨_,rfl⟩,q⟩)
theorem qCi {e1 e2:Expr} {es:List Expr} {t:Str->L2.St->Hp->(Str->Hp->Prop)->Prop} {pos:Pos} (h:PJ X (e1::e2::es) t):PE X (.JoinedStr (e1::e2::es) pos) (fun σ H Q=>t Str.empty σ H fun x H1=>Q (.str x) H1) :=
 fun pins s σ H Q I q=>JoinedStr_many (thn (h Str.empty pins s σ H _ I q) fun u s1 ⟨x,H1,I1,r1,q1⟩=>⟨.str x,H1,I1,r1,q1⟩)
end
end EX
end
section
namespace EV
open PySem PySem.Spec PyProof.Rows L2 EX
section
variable {X:Cx} {E:XK} {e a c d:Expr} {es:List Expr} {f fa fb fc:FE} {pos:Pos} {F G:FS}
theorem Yd {x:Str} {n:String} {pos:Pos} (hg:Gl X x) (hm:X.mg x=none) (hv:bootBuiltins x=some (.type n)) (hn:x ≠ "__name__" := by decide) (hd:(x==("__debug__":Str))=false:=by decide):VE X E (.Name x pos) (vC (.ty n)) :=
 jM (qCA (v := .ty n) hg hm hv rfl hn hd) fun _ _=>by unfold RV;rfl
theorem WT {x:Str} {a:Addr} {pos:Pos} (hg:Gl X x) (hm:X.mg x=some (.ref a)) (hd:(x==("__debug__":Str))=false:=by decide):VE X E (.Name x pos) (vC (.fn a)) :=
 jM (JB (v := .ref a) hg hm rfl hd) fun _ _=>by unfold RV;rfl
def lk (st:qC):PV->Bool
 | .ref i=>match st[i]? with
  |some (.l _)=>true
  |_=>false
 |_=>true
theorem qBt {kit:Value->Value->Option Bool} (hk:KitOk X.K kit) {pins:List (Addr×Obj)} {σ:L2.St} {H:Hp} {s:Shared} (I:L2.Inv X pins σ H s) {b:Bz} {st:qC} (S:SR X.K H b st) {p:PV} {v:V} {u t:Value} (r:RV X.K H b p v) (ru:RelV v u) (ht:tyP p=some t) (hlk:lk st p=true) (hx:∀ a,t = .ref a->ExcK X.K a) :
  ∃ Hh,W.KitX X.K u t Hh∧Hh s.heap∧u ≠ .builtin "__main__.__loader__#opaque" := by
 cases p with
 |non=>unfold RV at r;subst r;cases ht;cases (show u=Value.none from ru);exact ⟨_,W.kitx_none,trivial,fun z=>nomatch z⟩
 |bl x=>unfold RV at r;subst r;cases ht;cases (show u=Value.bool x from ru);exact ⟨_,W.kitx_bool,trivial,fun z=>nomatch z⟩
 |int x=>unfold RV at r;subst r;cases ht;obtain ⟨t,rfl⟩:=(show ∃ t,u=Value.int x t from ru);exact ⟨_,W.kitx_int,trivial,fun z=>nomatch z⟩
 |str x=>unfold RV at r;subst r;cases ht;obtain ⟨t,rfl⟩:=(show ∃ t,u=Value.str x t from ru);exact ⟨_,W.kitx_str,trivial,fun z=>nomatch z⟩
 |tup l =>
  unfold RV at r
  obtain ⟨a,xs,rfl,h2,h3⟩:=r
  cases ht
  cases (show u=Value.ref a from ru)
  obtain ⟨its,_,⟨o,h4,h5,_⟩,_⟩:=I.tuple h2.sq
  exact ⟨_,W.kitx_tuple,⟨o,h4,h5⟩,fun z=>nomatch z⟩
 |lst l =>
  unfold RV at r
  obtain ⟨a,xs,rfl,h2,h3⟩:=r
  cases ht
  cases (show u=Value.ref a from ru)
  obtain ⟨its,_,⟨o,n,h4,h5,_⟩,_⟩:=I.list h2.sq
  exact ⟨_,W.kitx_list,⟨o,h4,h5⟩,fun z=>nomatch z⟩
 |ref i =>
  unfold RV at r
  obtain ⟨a,rfl,h2⟩:=r
  cases ht
  cases (show u=Value.ref a from ru)
  have hl:i < st.length:=by rw [← S.len];exact (AG.mp h2).1
  obtain ⟨a',o,h3,h4,h5⟩:=S.at_ i _ (AJ hl)
  rw [h2] at h3;cases h3
  have hq:∃ vs,o = .lst vs:=by
   cases hx:st[i] with
   |l xs=>rw [hx] at h5;obtain ⟨vs,e,_⟩:=h5;exact ⟨vs,e⟩
   |z xs=>unfold lk at hlk;dsimp only at hlk;rw [AJ hl,hx] at hlk;cases hlk
   |k xs=>unfold lk at hlk;dsimp only at hlk;rw [AJ hl,hx] at hlk;cases hlk
   |y xs=>unfold lk at hlk;dsimp only at hlk;rw [AJ hl,hx] at hlk;cases hlk
   |n xs=>unfold lk at hlk;dsimp only at hlk;rw [AJ hl,hx] at hlk;cases hlk
   |w xs=>unfold lk at hlk;dsimp only at hlk;rw [AJ hl,hx] at hlk;cases hlk
   |o C xs=>unfold lk at hlk;dsimp only at hlk;rw [AJ hl,hx] at hlk;cases hlk
   |d xs=>unfold lk at hlk;dsimp only at hlk;rw [AJ hl,hx] at hlk;cases hlk
  obtain ⟨vs,rfl⟩:=hq
  obtain ⟨its,_,⟨o,n,h6,h7,_⟩,_⟩:=I.list (SqL.of h4)
  exact ⟨_,W.kitx_list,⟨o,h6,h7⟩,fun z=>nomatch z⟩
 |dct =>
  unfold RV at r
  obtain ⟨a,rfl,h2,h3⟩:=r
  cases ht
  cases (show u=Value.ref a from ru)
  obtain ⟨_,_,vs,_,o,_,_,h4,h5,_⟩:=(show ObjOk X.prog X.w H s.heap a (.dK []) from I.hok a _ h2)
  exact ⟨_,W.kitx_dict,⟨o,h4,h5.1⟩,fun z=>nomatch z⟩
 |exc c fs =>
  unfold RV at r
  obtain ⟨a,o,w,rfl,h2,h3,h4,⟨vs,h6⟩,h5⟩:=r
  cases ht
  cases (show u=Value.ref a from ru)
  have ho:s.heap.get? a=some o:=(I.hok a _ h2).1
  have hn:W.notCls o=true:=by
   obtain ⟨c',d',dt,sl⟩:=o
   have h6:dt=_:=h6
   subst h6;rfl
  refine ⟨_,qAO (hx c rfl),?_,fun z=>nomatch z⟩
  rcases h5 with ⟨_,h5⟩ |⟨d,h5,h7,h8⟩
  ·exact ⟨o,none,ho,h4,hn,by rw [h5];trivial⟩
  ·obtain ⟨od,h9⟩:=got (I.hok d _ h7)
   exact ⟨o,some od,ho,h4,hn,by rw [h5];exact h9⟩
 |ty n=>cases ht
 |fn n=>cases ht
theorem qDg {K:W.Frag} {H:Hp} {b:Bz} {c:PV} {v:V} {u t:Value} (r:RV K H b c v) (ru:RelV v u) (ht:clP c=some t):u=t:=by
 cases c with
 |ty n=>unfold RV at r;subst r;cases ht;exact ru
 |fn a=>unfold RV at r;subst r;cases ht;exact ru
 |_=>cases ht
theorem Yo {kit:Value->Value->Option Bool} (hk:KitOk X.K kit) {H:Hp} {b:Bz} {p:PV} {t:Value} (ht:tyP p=some t):∀ {cs:List PV} {xs:List V} {us:List Value} {k:Bool},RVs X.K H b cs xs->Vals xs us->YL kit p cs=some k->W.kitAny X.K t us=some k
 |[],_,_,k,h,r,e=>by
  unfold RVs at h;subst h;cases r;exact e
 |c::cs,_,_,k,h,r,e=>by
  unfold RVs at h
  obtain ⟨x,xs,rfl,h1,h2⟩:=h
  cases r with
  | @cons _ u _ us r1 r2 =>
   unfold YL Jb at e
   rw [ht] at e
   cases hc:clP c with
   |none=>rw [hc] at e;cases e
   |some c' =>
    rw [hc] at e
    have eu:=qDg h1 r1 hc
    subst eu
    dsimp only at e
    unfold W.kitAny
    cases q:kit t u with
    |none=>rw [q] at e;cases e
    |some bb =>
     rw [q] at e
     rw [hk.one _ _ _ q]
     cases bb with
     |true=>exact e
     |false=>exact Yo hk ht h2 r2 e
theorem qB6 {kit:Value->Value->Option Bool} (hk:KitOk X.K kit) {p:PV} {t:Value} (ht:tyP p=some t):∀ {cs:List PV} {k:Bool},cs≠[]->YL kit p cs=some k -> ∀ a,t = .ref a->ExcK X.K a
 |[],_,h,_,_,_=>absurd rfl h
 |c::cs,k,_,e,a,ha=>by
  unfold YL Jb at e
  rw [ht] at e
  cases hc:clP c with
  |none=>rw [hc] at e;cases e
  |some c' =>
   rw [hc] at e
   dsimp only at e
   cases q:kit t c' with
   |none=>rw [q] at e;cases e
   |some bb=>subst ha;exact hk.exc _ _ _ q
theorem qAN {kit:Value->Value->Option Bool} (hk:KitOk X.K kit):Wj X (.builtin "isinstance") (fun vs H Q => ∃ b st p c k,SR X.K H b st∧RVs X.K H b [p,c] vs∧(∀ cs,c = .tup cs->cs≠[])∧lk st p=true∧qFh kit p c=some k∧Q (.bl k) H):=by
 intro pins s σ H xs us Q I r h
 obtain ⟨b,st,p,c,k,S,rs,hne,hlk,e,q⟩:=h
 obtain ⟨x,y,rfl,r1,r2⟩:=RVs.two rs
 obtain ⟨u,v,rfl,ru,rv⟩:=jo r
 by_cases hc:∃ cs,c = .tup cs
 ·obtain ⟨cs,rfl⟩:=hc
  have e:(if (tyP p).isSome then YL kit p cs else none)=some k:=e
  cases ht:tyP p with
  |none=>rw [ht] at e;cases e
  |some t =>
   rw [ht] at e
   have e:YL kit p cs=some k:=e
   obtain ⟨Hh,Z,hh,hx⟩:=qBt hk I S r1 ru ht hlk (qB6 hk ht (hne cs rfl) e)
   unfold RV at r2
   obtain ⟨a,ys,rfl,h2,h3⟩:=r2
   cases (show v=Value.ref a from rv)
   obtain ⟨its,r',⟨o,h4,h5,n,h6⟩,_⟩:=I.tuple h2.sq
   obtain ⟨c1,d1,dt,sl⟩:=o
   have h5:c1=_:=h5
   have h6:dt=_:=h6
   subst h5;subst h6
   exact W.kia_tup Z I.kIn hh h4 (Yo hk ht h3 r' e) hx fun tk=>⟨.bl k,H,I.tok _,rfl,q⟩
 ·have e:Jb kit p c=some k:=by
   cases c <;> first |exact e |exact (hc ⟨_,rfl⟩).elim
  unfold Jb at e
  cases ht:tyP p with
  |none=>rw [ht] at e;cases e
  |some t =>
   cases hc2:clP c with
   |none=>rw [ht,hc2] at e;cases e
   |some c' =>
    rw [ht,hc2] at e
    have eu:=qDg r2 rv hc2
    subst eu
    obtain ⟨Hh,Z,hh,hx⟩:=qBt hk I S r1 ru ht hlk (fun a ha=>by subst ha;exact hk.exc _ _ _ e)
    exact W.kia_one Z I.kIn hh (hk.one _ _ _ e) hx fun tk=>⟨.bl k,H,I.tok _,rfl,q⟩
def Q1 (kit:Value->Value->Option Bool):List PV->qC->Rs PV:=fun ps st=>match ps with
 |[p,c]=>match c with
  | .tup [] => .no
  |c=>match qFh kit p c with
   |some b=>if lk st p=true then .ok (.bl b) st else .no
   |none => .no
 |_ => .no
theorem Qn {kit:Value->Value->Option Bool} {ta:FA} {p:Pos} (hk:KitOk X.K kit) (hm:X.mg "isinstance" = none) (ha:VA X E (e::es) ta) (hg:Gl X "isinstance" := by rfl)
  (he:starEach (e::es) X.env=(false,eval e X.env)::starEach es X.env:=by rfl) (hpl:(backTo pos (starEach es X.env)).any (·.1)=false:=by rfl):VE X E (.Call (.Name "isinstance" p) (e::es) [] pos) (qG (Q1 kit) ta) :=
 WQ (qAN hk) (fun H b st ps vs Q S r P=>by
  unfold Q1 at P
  split at P
  ·rename_i p c
   split at P
   ·exact P.elim
   ·rename_i hc
    split at P
    ·rename_i k hk'
     split at P
     ·rename_i hlk
      exact ⟨b,st,p,c,k,S,r,fun cs e z=>by subst e;subst z;exact hc rfl,hlk,hk',PostE.here P S WL⟩
     ·exact P.elim
    ·exact P.elim
  ·exact P.elim) hg hm PyProof.Rows.boot_isinstance ha (he:=he) (hpl:=hpl)
end
def qEd:PV->Option Int
 | .int i=>some i
 |_=>none
def WZ {α:Type} (f:PV->Option α):List PV->Option (List α)
 |[]=>some []
 |p::ps=>match f p with
  |some a=>match WZ f ps with
   |some r=>some (a::r)
   |none=>none
  |none=>none
section
variable {X:Cx} {E:XK} {e a c d:Expr} {es:List Expr} {f fa fb fc:FE} {pos:Pos} {F G:FS}
theorem jt {K:W.Frag} {H:Hp} {b:Bz}:∀ {l:List PV} {xs:List V} {bs:List Int},RVs K H b l xs->WZ qEd l=some bs->xs=bs.map V.int
 |[],_,_,h,e=>by unfold RVs at h;subst h;cases e;rfl
 |p::ps,_,bs,h,e=>by
  unfold RVs at h
  obtain ⟨x,r,rfl,h1,h2⟩:=h
  unfold WZ at e
  cases p with
  |int k =>
   unfold RV at h1;subst h1
   cases q:WZ qEd ps with
   |none=>rw [q] at e;cases e
   |some r'=>rw [q] at e;cases e;rw [jt h2 q];rfl
  |_=>cases e
def qHP {α:Type} (k:PV->Option α) (g:List α->PV):List PV->qC->Rs PV:=fun ps st=>match ps with
 |[p]=>match asL st p with
  |some l=>match WZ k l with
   |some r => .ok (g r) st
   |none => .no
  |none => .no
 |_ => .no
section
variable {ta:FA} {p:Pos} (ha:VA X E (e::es) ta)
include ha
theorem yH (hm:X.mg "len" = none) (hg:Gl X "len" := by rfl) (he:starEach (e::es) X.env=(false,eval e X.env)::starEach es X.env:=by rfl) (hpl:(backTo pos (starEach es X.env)).any (·.1)=false:=by rfl):VE X E (.Call (.Name "len" p) (e::es) [] pos) (qG ZS ta) :=
 WQ yG qDz hg hm Boot.«len» ha (he:=he) (hpl:=hpl)
theorem W1 (hc:X.calm=true) (hm:X.mg "max" = none) (hg:Gl X "max" := by rfl) (he:starEach (e::es) X.env=(false,eval e X.env)::starEach es X.env:=by rfl) (hpl:(backTo pos (starEach es X.env)).any (·.1)=false:=by rfl):VE X E (.Call (.Name "max" p) (e::es) [] pos) (qG wt ta) :=
 WQ (JY hc) qEs hg hm Boot.«max» ha (he:=he) (hpl:=hpl)
theorem W9 (hc:X.calm=true) (hm:X.mg "min" = none) (hg:Gl X "min" := by rfl) (he:starEach (e::es) X.env=(false,eval e X.env)::starEach es X.env:=by rfl) (hpl:(backTo pos (starEach es X.env)).any (·.1)=false:=by rfl):VE X E (.Call (.Name "min" p) (e::es) [] pos) (qG zZ ta) :=
 WQ (Jj hc) qDv hg hm Boot.«min» ha (he:=he) (hpl:=hpl)
theorem zJ (hm:X.mg "tuple" = none) (hg:Gl X "tuple" := by rfl) (he:starEach (e::es) X.env=(false,eval e X.env)::starEach es X.env:=by rfl) (hpl:(backTo pos (starEach es X.env)).any (·.1)=false:=by rfl):VE X E (.Call (.Name "tuple" p) (e::es) [] pos) (qG Q7 ta) :=
 Ji ZU qBK hg hm Boot.«tuple» ha (he:=he) (hpl:=hpl)
end
def Jm (fa fb:FE):FL:=fun r st=>(fa r st).bind fun p s1=>(fb r s1).bind fun q s2=>match asL s2 p with
 |some l=>match asL s2 q with
  |some m=>if l.length + m.length≤sizeLine then .ok (l++m) s2 else .no
  |none => .no
 |none => .no
theorem jJ (ha:VE X E a fa) (hb:VE X E c fb):VN X E (.BinOp a .Add c pos) (Jm fa fb):=PE.imp (qDU qCO ha hb) fun s H Q ⟨b,r,st,S,R,P⟩ =>
 ⟨b,r,st,S,R,PostE.bindN P fun p s1 u H1 b1 e1 S1 r1 P1=>⟨b1,r,s1,S1,R.ext e1,PostE.bindN P1 fun q s2 v H2 b2 e2 S2 r2 P2=>by
  split at P2
  ·rename_i l el
   split at P2
   ·rename_i m em
    split at P2
    ·rename_i hl
     obtain ⟨x,xs,rfl,h2,h3⟩:=Q6 S2 (RV.ext e2 p r1) el
     obtain ⟨y,ys,rfl,h4,h5⟩:=Q6 S2 r2 em
     exact ⟨x,y,xs,ys,rfl,rfl,h2,h4,by rw [← h3.length,← h5.length];exact hl,fun z hz=>PostN.lay P2 S2 (h3.append h5) hz⟩
    ·exact P2.elim
   ·exact P2.elim
  ·exact P2.elim⟩⟩
end
section
variable {X:Cx} {E:XK} {e a c d:Expr} {es:List Expr} {f fa fb fc:FE} {fl:FL} {pos:Pos} {F G:FS}
def zD:PV->PV->qC->Rs PV:=fun p q st=>match p,q with
 | .tup l,.tup m=>if l.length + m.length≤sizeLine then .ok (.tup (l++m)) st else .no
 |_,_ => .no
theorem qCs (ha:VE X E a fa) (hb:VE X E c fb):VE X E (.BinOp a .Add c pos) (qH zD fa fb):=W6 qAX (fun H b st p q u v Q S rp rq P=>by
 unfold zD at P
 split at P
 ·rename_i l m
  split at P
  ·rename_i hl
   have rp0:=rp
   have rq0:=rq
   unfold RV at rp rq
   obtain ⟨x,xs,rfl,h2,h3⟩:=rp
   obtain ⟨y,ys,rfl,h4,h5⟩:=rq
   have n1:=h3.length
   have n2:=h5.length
   refine ⟨x,y,xs,ys,rfl,rfl,h2.sq,h4.sq,by rw [← n1,← n2];exact hl,fun z => ?_,fun _ z => ?_,fun _ _ w hw=>PostE.layT P S (h3.append h5) hw⟩
   ·have:l=[]:=As.mp (by rw [n1,z];rfl)
    subst this
    exact PostE.here P S rq0
   ·have:m=[]:=As.mp (by rw [n2,z];rfl)
    subst this
    rw [BS] at P
    exact PostE.here P S rp0
  ·exact P.elim
 ·exact P.elim) ha hb
abbrev FO:=ql->qC->Rs (Option Int)
def PostO (K:W.Frag) (E:XK) (H:Hp) (b:Bz) (r:Rs (Option Int)) (Q:Option Int->Hp->Prop):Prop:=match r with
 | .ok k st => ∀ H' b',Ext H b H' b'->SR K H' b' st->Q k H'
 | .ex x st=>XP K E H b x st
 | .no=>False
def rdO (K:W.Frag) (E:XK) (f:FO):TO:=fun s H Q => ∃ b r st,SR K H b st∧REnv K H b r s∧PostO K E H b (f r st) Q
abbrev VO (X:Cx) (E:XK) (e:Option Expr) (f:FO):Prop:=PO X e (rdO X.K E f)
def wm:FO:=fun _ st => .ok none st
def wZ (f:FE):FO:=fun r st=>(f r st).bind fun p s=>match p with
 | .int i => .ok (some i) s
 |_ => .no
theorem j9:VO X E none wm:=fun pins s σ H Q I ⟨b,r,st,S,R,P⟩=>qCt pins s σ H Q I (P H b (Ext.refl _ _) S)
theorem JG (h:VE X E e f):VO X E (some e) (wZ f):=fun pins s σ H Q I ⟨b,r,st,S,R,P⟩=>qC6 h pins s σ H Q I ⟨b,r,st,S,R,by
 unfold wZ at P
 cases ef:f r st with
 |no=>rw [ef] at P;exact P.elim
 |ex x s1=>rw [ef] at P;exact P
 |ok p s1 =>
  rw [ef] at P
  intro v H1 b1 e1 S1 r1
  dsimp only [Rs.bind] at P
  split at P
  ·rename_i i
   unfold RV at r1
   exact ⟨i,r1,P H1 b1 e1 S1⟩
  ·exact P.elim⟩
def yf (l:List PV) (lo hi:Option Int):List PV:=(l.drop (HT.sIx l.length 0 lo)).take (HT.sIx l.length l.length hi - HT.sIx l.length 0 lo)
def zd (f:FE) (lo hi:FO):FE:=fun r st=>(f r st).bind fun p s1=>(lo r s1).bind fun a s2=>(hi r s2).bind fun c s3=>match p with
 | .tup l => .ok (.tup (yf l a c)) s3
 |_ => .no
theorem PostO.bind {K:W.Frag} {E:XK} {H:Hp} {b:Bz} {r:Rs (Option Int)} {k:Option Int->qC->Rs PV} {Q:VK} {R:Option Int->Hp->Prop} (P:PostE K E H b (r.bind k) Q)
  (h:∀ p st H1 b1,Ext H b H1 b1->SR K H1 b1 st->PostE K E H1 b1 (k p st) Q->R p H1):PostO K E H b r R:=by
 cases r with
 |ok p st=>exact fun H1 b1 e S=>h p st H1 b1 e S (PostE.ext (show PostE K E H b (k p st) Q from P) e)
 |ex x st=>exact P
 |no=>exact P
theorem qBu {lo hi:Option Expr} {flo fhi:FO} {p2:Pos} (h:VE X E e f) (hl:VO X E lo flo) (hh:VO X E hi fhi):VE X E (.Subscript e (.Slice lo hi none p2) pos) (zd f flo fhi) :=
 PE.imp (qA6 (sl_tup.or qBv) h hl hh) fun s H Q ⟨b,r,st,S,R,P⟩=>⟨b,r,st,S,R,PostE.bind P fun p s1 u H1 b1 e1 S1 r1 P1=>⟨b1,r,s1,S1,R.ext e1,PostO.bind P1 fun k s2 H2 b2 e2 S2 P2=>⟨b2,r,s2,S2,(R.ext e1).ext e2,PostO.bind P2 fun m s3 H3 b3 e3 S3 P3=>by
  split at P3
  ·rename_i l
   have r3:=RV.ext e3 _ (RV.ext e2 _ r1)
   have r0:=r3
   unfold RV at r3
   obtain ⟨x,xs,rfl,h2,h3⟩:=r3
   have hlen:=h3.length
   by_cases hw:HT.sIx xs.length 0 k=0∧HT.sIx xs.length xs.length m=xs.length
   ·refine .inr ⟨x,xs,rfl,h2.sq,hw.1,hw.2,?_⟩
    have:yf l k m=l:=by
     unfold yf
     rw [hlen,hw.1,hw.2,List.drop_zero,Nat.sub_zero,← hlen,List.take_length]
    rw [this] at P3
    exact PostE.here P3 S3 r0
   ·refine .inl ⟨x,xs,rfl,h2.sq,hw,fun z hz => ?_⟩
    have hc:RVs X.K H3 b3 (yf l k m) (J1 xs k m):=by
     unfold yf J1
     rw [hlen]
     exact (h3.drop _).take _
    exact PostE.layT P3 S3 hc hz
  ·exact P3.elim⟩⟩⟩
def J4 (p:PV):List PV->Option Nat
 |[]=>none
 |q::qs=>if peq q p=true then some 0 else (J4 p qs).map (· + 1)
theorem Zz (p:PV):∀ {l:List PV} {j:Nat},J4 p l=some j->(∃ q,l[j]? = some q∧peq q p=true) ∧ ∀ m,m < j -> ∃ q,l[m]? = some q∧peq q p=false
 |[],_,h=>by cases h
 |q::qs,j,h=>by
  unfold J4 at h
  split at h
  ·rename_i hq;cases h;exact ⟨⟨q,rfl,hq⟩,fun m hm=>by omega⟩
  ·rename_i hq
   cases e:J4 p qs with
   |none=>rw [e] at h;cases h
   |some k =>
    rw [e] at h;cases h
    obtain ⟨⟨q',h1,h2⟩,h3⟩:=Zz p e
    refine ⟨⟨q',by simpa using h1,h2⟩,fun m hm => ?_⟩
    cases m with
    |zero=>exact ⟨q,rfl,by simpa using hq⟩
    |succ m=>obtain ⟨q2,h4,h5⟩:=h3 m (by have hm:m + 1 < k + 1:=hm;omega);exact ⟨q2,by simpa using h4,h5⟩
theorem qAw {pins:List (Addr×Obj)} {σ:L2.St} {H:Hp} {s:Shared} (I:L2.Inv X pins σ H s) {A:Around} {p:PV} {u:V} {uu:Value} (hp:RW X.K H p u) (ru:RelV u uu) (hA:A.units + 60 < cLine)
  {l:List PV} {xs:List V} {its:List Value} (hl:RWs X.K H l xs) (vl:Vals xs its) (hd:deps l≤zP):∃ g:Value->Bool,(∀ y∈its,SeqAt.EqAt A s y uu (g y)) ∧ ∀ (i:Nat) (q:PV) (y:Value),l[i]? = some q->its[i]? = some y->g y=peq q p:=by
 classical
 have key:∀ (q:PV) (x:V) (y:Value),RW X.K H q x->RelV x y->decide (∃ q x,RW X.K H q x∧RelV x y∧peq q p=true)=peq q p:=fun q x y h1 h2=>by
  by_cases hb:peq q p=true
  ·rw [hb];exact AW ⟨q,x,h1,h2,hb⟩
  ·rw [show peq q p=false by simpa using hb]
   refine AQ fun ⟨q',x',k1,k2,k3⟩=>hb ?_
   have ex:x'=x:=k2.inj h2
   subst ex
   rw [RW.det I q q' h1 k1];exact k3
 refine ⟨fun y=>decide (∃ q x,RW X.K H q x∧RelV x y∧peq q p=true),fun y hy => ?_,fun i q y hq hy => ?_⟩
 ·obtain ⟨i,hi⟩:=BZ hy
  obtain ⟨x,hx,rx⟩:=Vals.get2 vl hi
  obtain ⟨q,hq,rq⟩:=RWs.get' hl hx
  dsimp only
  rw [key q x y rq rx]
  exact ju I 60 q p x u y uu A (AV (wz hq) hd) hA rq hp rx ru
 ·obtain ⟨x,hx,rx⟩:=Vals.get2 vl hy
  obtain ⟨q',hq',rq⟩:=RWs.get' hl hx
  rw [hq] at hq';cases hq'
  exact key q x y rq rx
theorem qBb (hr:X.A.units + 64 < cLine):MtM X "list.index" (fun x vs H Q => ∃ l xs a p v j,x = .ref a∧vs=[v]∧SqL X.K H a xs∧RWs X.K H l xs∧RW X.K H p v∧deps l≤zP∧J4 p l=some j∧Q (.int j) H):=by
 intro pins s σ H x vs v us Q I rx rv h
 obtain ⟨l,xs,ad,p,y,j,rfl,rfl,hs,hl,hp,hd,hj,q⟩:=h
 cases rx
 obtain ⟨u,rfl,ru⟩:=rv.one
 obtain ⟨its,r',pl,hz⟩:=I.list hs
 obtain ⟨⟨c1,d1,a1,s1⟩,o1,e1,m1,f1⟩:=id pl.isList
 have e1:c1=_:=e1
 have f1:a1=_:=f1
 subst e1;subst f1
 have hA:X.A.in1.units + 60 < cLine:=by show X.A.units + 1 + 60 < cLine;omega
 obtain ⟨g,g1,g2⟩:=qAw I hp ru hA hl r' hd
 obtain ⟨⟨q1,k1,k2⟩,k3⟩:=Zz p hj
 have n1:l.length=its.length:=by rw [hl.length,r'.length]
 have jl:j < l.length:=(AG.mp k1).1
 have ji:j < its.length:=by rw [← n1];exact jl
 refine call_meets F.slot_list_index ⟨_,o1,rfl⟩ F.entry_list_index (F.args_list_index_2 _ _) (SeqAt.list_indexAt ad its.toArray m1 d1 s1 u g j (by simpa using ji) ?_ ?_ fun m hm hlt => ?_) ⟨o1,fun y hy=>g1 y (by simpa using hy),⟨.int j,H,I.tok _,⟨_,rfl⟩,q⟩⟩
 ·have:its.length≤sizeLine:=by rw [← r'.length];exact hz
  have h2:(sizeLine:Nat) < 2 ^ 62:=by decide
  omega
 ·rw [show its.toArray[j]=its[j] by simp,g2 j q1 _ k1 (AJ ji)];exact k2
 ·obtain ⟨q2,k4,k5⟩:=k3 m hlt
  have mi:m < its.length:=by simpa using hm
  rw [show its.toArray[m]=its[m] by simp,g2 m q2 _ k4 (AJ mi)];exact k5
def qFK (fo f:FE):FE:=fun r st=>(fo r st).bind fun o s1=>match asL s1 o with
 |some _=>(f r s1).bind fun p s2=>match asL s2 o with
  |some l=>if nrs l=true∧nr p=true∧deps l≤zP then (match J4 p l with |some j => .ok (.int j) s2 |none => .no) else .no
  |none => .no
 |none => .no
theorem qBg {fo:FE} {o:Expr} {apos cpos:Pos} (hr:X.A.units + 64 < cLine) (ho:VE X E o fo) (h:VE X E e f) (hbase:attributeBase o "index" X.env (eval o X.env)=eval o X.env:=by rfl)
  (hfew:((backTo cpos (starEach [e] X.env)).all (fun x => !x.1)&&(backToKw cpos (keywordEach [] X.env)).all (fun x=>x.1.isSome)&&decide ([e].length + ([]:List Keyword).length + (if ([]:List Keyword).isEmpty then 0 else 1) < 30))=true:=by rfl)
  (hline:(apos.endLine==cpos.line)=true:=by rfl) (h1:starEach [e] X.env=(false,eval e X.env)::starEach [] X.env:=by rfl) (hplain:(backTo cpos (starEach [] X.env)).any (·.1)=false:=by rfl) :
  VE X E (.Call (.Attribute o "index" apos) [e] [] cpos) (qFK fo f) :=
 PE.imp (qDZ PySem.F.plainAttrs_list PySem.F.slot_list_index PySem.F.type_list_index (qBb hr) ho (yN h jY h1) hbase hfew hline h1 hplain) fun s H Q ⟨b,r,st,S,R,P⟩=>⟨b,r,st,S,R,PostE.bind P fun o s1 u H1 b1 e1 S1 r1 P1=>by
  split at P1
  ·rename_i l1 el1
   obtain ⟨x,xs,rfl,h2,h3⟩:=Q6 S1 r1 el1
   refine ⟨.inl ⟨rfl,xs,h2⟩,b1,r,s1,S1,R.ext e1,PostE.bind P1 fun p s2 v H2 b2 e2 S2 r2 P2 => ?_⟩
   split at P2
   ·rename_i l el
    split at P2
    ·rename_i hc
     split at P2
     ·rename_i j hj
      obtain ⟨x',ys,ex,h4,h5⟩:=Q6 S2 (RV.ext e2 o r1) el
      cases ex
      exact ⟨l,ys,x,p,v,j,rfl,rfl,h4,RVs.rws l hc.1 h5,RV.rw p hc.2.1 r2,hc.2.2,hj,PostE.here P2 S2 Qe⟩
     ·exact P2.elim
    ·exact P2.elim
   ·exact P2.elim
  ·exact P1.elim⟩
def qGb (i:Int):Str:=toString i
def qAQ (f:FE):FE:=fun r st=>(f r st).bind fun p s=>match p with
 | .int i=>if i.natAbs.log2 < 1920 then .ok (.str (qGb i)) s else .no
 |_ => .no
theorem jC (h:VE X E e f):VE X E (.FormattedValue e (-1) none pos) (qAQ f):=PE.imp (qD3 h) fun s H Q ⟨b,r,st,S,R,P⟩=>⟨b,r,st,S,R,PostE.bind P fun p s1 u H1 b1 e1 S1 r1 P1=>by
 split at P1
 ·rename_i i
  split at P1
  ·rename_i hi
   unfold RV at r1
   exact ⟨i,r1,hi,PostE.here P1 S1 (by unfold RV;rfl)⟩
  ·exact P1.elim
 ·exact P1.elim⟩
def vJ:List FE->Str->ql->qC->Rs PV
 |[],out,_,st=>if out.length≤sizeLine then .ok (.str out) st else .no
 |f::fs,out,r,st=>(f r st).bind fun p s=>match p with
  | .str y=>if (out++y).length≤sizeLine then vJ fs (out++y) r s else .no
  |_ => .no
def VJ (X:Cx) (E:XK) (es:List Expr) (fs:List FE):Prop:=PJ X es (fun out σ H Q => ∃ b r st,SR X.K H b st∧REnv X.K H b r σ∧PostE X.K E H b (vJ fs out r st) (fun v H' => ∃ x,v = .str x∧Q x H'))
theorem qBN:VJ X E [] []:=fun out pins s σ H Q I ⟨b,r,st,S,R,P⟩=>qEy out pins s σ H Q I (by
 unfold vJ at P
 split at P
 ·rename_i h
  obtain ⟨x,e,q⟩:=PostE.here P S (by unfold RV;rfl)
  cases e
  exact ⟨h,q⟩
 ·exact P.elim)
theorem We {fs:List FE} (h1:VE X E e f) (h2:VJ X E es fs):VJ X E (e::es) (f::fs):=fun out pins s σ H Q I ⟨b,r,st,S,R,P⟩=>qCH h1 h2 out pins s σ H Q I (by
 unfold vJ at P
 refine ⟨b,r,st,S,R,PostE.bind P fun p s1 u H1 b1 e1 S1 r1 P1 => ?_⟩
 split at P1
 ·rename_i y
  split at P1
  ·rename_i h
   unfold RV at r1
   exact ⟨y,r1,h,b1,r,s1,S1,R.ext e1,P1⟩
  ·exact P1.elim
 ·exact P1.elim)
theorem jn {e1 e2:Expr} {fs:List FE} (h:VJ X E (e1::e2::es) fs):VE X E (.JoinedStr (e1::e2::es) pos) (vJ fs Str.empty):=fun pins s σ H Q I ⟨b,r,st,S,R,P⟩=>qCi h pins s σ H Q I ⟨b,r,st,S,R,by
 cases e:vJ fs Str.empty r st with
 |ex x s1=>rw [e] at P;exact P
 |no=>rw [e] at P;exact P
 |ok p s1 =>
  rw [e] at P
  intro v H' b' e' S' r'
  have q:=P v H' b' e' S' r'
  have hp:∃ y,p = .str y:=by
   have key:∀ (fs:List FE) (out:Str) (st:qC) (p:PV) (s1:qC),vJ fs out r st = .ok p s1 -> ∃ y,p = .str y:=by
    intro fs
    induction fs with
    |nil=>intro out st p s1 h;unfold vJ at h;split at h;(cases h;exact ⟨_,rfl⟩);cases h
    |cons g gs ih =>
     intro out st p s1 h
     unfold vJ at h
     cases eg:g r st with
     |no=>rw [eg] at h;cases h
     |ex x s2=>rw [eg] at h;cases h
     |ok p2 s2 =>
      rw [eg] at h
      dsimp only [Rs.bind] at h
      split at h
      ·split at h
       ·exact ih _ _ _ _ h
       ·cases h
      ·cases h
   exact key _ _ _ _ _ e
  obtain ⟨y,rfl⟩:=hp
  unfold RV at r'
  exact ⟨y,r',by rw [r'] at q;exact q⟩⟩
theorem qo {P:Program} {w:World} (X:Cx):WR (CXF P w) X E0:=fun pins σ H s e s' I h=>by
 obtain ⟨_,_,_,_,_,_,_,_,_,_,_,_,q⟩:=h
 exact q.elim
def wa (i:Nat):FG:=fun p r=>match r[i]? with
 |some none=>some (r.set i (some p))
 |_=>none
theorem j3 {i:Nat} {p:PV} {r r':ql} (h:wa i p r=some r'):r[i]? = some none∧r'=r.set i (some p):=by
 unfold wa at h
 split at h
 ·rename_i e;cases h;exact ⟨e,rfl⟩
 ·cases h
theorem zw (i:Nat) {x:Str} (hN:X.N.Nodup) (hi:X.N[i]? = some x:=by rfl) (hx:Loc X.env.scope x:=by first |exact Or.inl rfl |exact Or.inr rfl) (hf:X.fn x=true∨X.env.scope.names.lookup x=some .local:=by first |exact .inl rfl |exact .inr rfl |assumption):VG X (.Name x pos) (wa i) :=
 PG.imp (QV i hN hi hx hf) fun v s H Q ⟨b,r,p,st,S,R,rv,r',e,q⟩=>⟨b,r,p,st,S,R,rv,r',by rw [(j3 e).2];rfl,q⟩
theorem wy (i:Nat):qDT (wa i):=fun p r r' h=>by
 obtain ⟨h1,rfl⟩:=j3 h
 refine ⟨by simp,fun j q e => ?_⟩
 by_cases hj:i=j
 ·subst hj;rw [h1] at e;cases e
 ·rw [Af hj];exact e
end
structure DefG (P:Program) (w:World) (K:W.Frag) (mg:Str->Option Value) (base:Heap) (k:Nat) (x:Str) (fa:Addr) (n:Nat) (g:List PV->qC->Rs PV):Prop where
 ok:∃ fd ps,ps.length=n∧FnOk P w K mg base (CXF P w) k fa fd ps (spG K ps.length g)∧L2.Binds K fd ps [] ∧ ∀ l st,g l st ≠ .no->l.length=ps.length
 mg:mg x=some (.ref fa)
 kp:W.keepIn K (.ref fa)=true
section
variable {X:Cx} {E:XK} {e a c d:Expr} {es:List Expr} {f fa fb fc:FE} {fl:FL} {pos:Pos} {F G:FS}
theorem DefG.call {k n:Nat} {x:Str} {fa:Addr} {g:List PV->qC->Rs PV} (D:DefG X.prog X.w X.K X.mg X.base k x fa n g) (hr:Room k X.A) (hx:WR (CXF X.prog X.w) X E) (hg:Gl X x:=by rfl) (hdb:(x==("__debug__":Str))=false:=by decide):qFG X E x g:=by
 obtain ⟨fd,ps,_,F,B,hl⟩:=D.ok
 exact qHB (n:=n) F hr hg D.mg D.kp B hx hl hdb
end
def QB (n N:Nat) (B:FS):List PV->qC->Rs PV:=fun l st=>if l.length=n then qCZ (B (Ql N l) st) else .no
theorem qg {n N:Nat} {B:FS} {l:List PV} {st:qC} (h:QB n N B l st ≠ .no):l.length=n:=by
 unfold QB at h
 split at h
 ·assumption
 ·exact absurd rfl h
section
variable {X:Cx} {E:XK} {e a c d:Expr} {f fa fb fc:FE} {pos:Pos}
def qAe (f:FE):FE:=fun r st=>(f r st).bind fun p s=>match p with
 | .int i => .ok (.int (-i)) s
 |_ => .no
theorem jK (h:VE X E e f):VE X E (.UnaryOp .USub e pos) (qAe f):=PE.imp (qF6 qFJ h) fun s H Q ⟨b,r,st,S,R,P⟩=>⟨b,r,st,S,R,PostE.bind P fun p s1 u H1 b1 e1 S1 r1 P1=>by
 split at P1
 ·rename_i i
  unfold RV at r1
  exact ⟨i,r1,PostE.here P1 S1 Qe⟩
 ·exact P1.elim⟩
end
theorem qCk {k:Nat} {A:Around} {v:Option Value} (h:Room k A) (hk:1≤k:=by omega):Room 1 (A.mark v) :=
 ⟨fun z=>absurd z (by decide),by have:=h.dp;show A.depth + 3 * 1 + 5 < recursionLimit;omega,by have:=h.un;show A.units + 16 * 1 + 200 < cLine;omega,h.gd⟩
theorem qd {n N m:Nat} {B:FS} {l:List PV} {s0:qC} (hl:l.length=n):Refn m (qCZ (B (Ql N l) s0)) (QB n N B l s0):=by
 unfold QB;rw [AH hl];exact Refn.refl
section
variable {P:Program} {w:World} {K:W.Frag} {mg:Str->Option Value} {base:Heap}
theorem wM {x:Str} {st:Stmt} {fa:Addr} {fd:FuncData} {N ps:List Str} {k:Nat} {B:FS} {g:List PV->qC->Rs PV} (F:Fun K x x st fa fd) (S:FnScope N ps (qN st)) (b:L2.Binds K fd ps []) (m:mg x=some (.ref fa)) (hlen:∀ l s,g l s ≠ .no->l.length=ps.length)
  (body:∀ (cdv:Value) (A:Around) (outer:List Env) (s:Shared) (H:Hp) (E:XK),Room k (A.deeper (envOfC x (qN st) s.heap.objs.size fa cdv))->(0 < k->A.handled=none)->VSs (wB (CXF P w) P w K mg base N x (qN st) fa cdv A outer s H E) E (qe st) B)
  (hg:∀ l s0,l.length=ps.length->g l s0 ≠ .no->Refn s0.length (qCZ (B (Ql N.length l) s0)) (g l s0)):DefG P w K mg base (k + 1) x fa ps.length g :=
 ⟨⟨fd,ps,rfl,okV F S fun cdv A outer s H E hr hc=>⟨B,body cdv A outer s H E hr hc,hg⟩,b,hlen⟩,m,F.kp⟩
end
section
variable {X:Cx} {E:XK} {es:List Expr} {f:FE} {g:FA} {pos:Pos}
theorem qa {c:Const} {j:Nat} (h:VE X E (.Constant c j pos) f) (h2:VA X E es g):VA X E (.Constant c j pos::es) (qA f g):=QR h h2 rfl
theorem qS {x:Str} (h:VE X E (.Name x pos) f) (h2:VA X E es g):VA X E (.Name x pos::es) (qA f g):=QR h h2 rfl
theorem wf {a b c} (h:VE X E (.Call a b c pos) f) (h2:VA X E es g):VA X E (.Call a b c pos::es) (qA f g):=QR h h2 rfl
theorem wn {a b c} (h:VE X E (.BinOp a b c pos) f) (h2:VA X E es g):VA X E (.BinOp a b c pos::es) (qA f g):=QR h h2 rfl
theorem wx {a b} (h:VE X E (.Tuple a b pos) f) (h2:VA X E es g):VA X E (.Tuple a b pos::es) (qA f g):=QR h h2 rfl
theorem qGE {a} (h:VE X E (.List a pos) f) (h2:VA X E es g):VA X E (.List a pos::es) (qA f g):=QR h h2 rfl
theorem yJ {a b} (h:VE X E (.Subscript a b pos) f) (h2:VA X E es g):VA X E (.Subscript a b pos::es) (qA f g):=QR h h2 rfl
theorem qDt {a b} (h:VE X E (.UnaryOp a b pos) f) (h2:VA X E es g):VA X E (.UnaryOp a b pos::es) (qA f g):=QR h h2 rfl
theorem qHS {a b c} (h:VE X E (.Compare a b c pos) f) (h2:VA X E es g):VA X E (.Compare a b c pos::es) (qA f g):=QR h h2 rfl
theorem qFn {a b c} (h:VE X E (.ListComp a b c pos) f) (h2:VA X E es g):VA X E (.ListComp a b c pos::es) (qA f g):=QR h h2 rfl
theorem qFT {a} (h:VE X E (.JoinedStr a pos) f) (h2:VA X E es g):VA X E (.JoinedStr a pos::es) (qA f g):=QR h h2 rfl
theorem qHR {a b c} (h:VE X E (.IfExp a b c pos) f) (h2:VA X E es g):VA X E (.IfExp a b c pos::es) (qA f g):=QR h h2 rfl
theorem qHT {a b} (h:VE X E (.BoolOp a b pos) f) (h2:VA X E es g):VA X E (.BoolOp a b pos::es) (qA f g):=QR h h2 rfl
end
section
variable {X:Cx} {E:XK} {e a c d:Expr} {es:List Expr} {f fa fb fc:FE} {fl:FL} {pos:Pos} {F G:FS}
theorem yi:Wj X (.builtin "divmod") (fun xs H Q => ∃ i j:Int,xs=[.int i,.int j]∧0 < j∧j < 1073741824 ∧ ∀ p,H p=none->Q (.ref p) (upd H p (.tup [.int (i / j),.int (i % j)]))):=by
 intro pins s σ H xs us Q I r h
 obtain ⟨i,j,rfl,h1,h2,q⟩:=h
 obtain ⟨u,w',rfl,⟨t,rfl⟩,⟨t',rfl⟩⟩:=jo r
 refine divmod_int (by omega) ?_ (.inl (PyProof.noPylong_small (by omega)))
 rw [Int.fdiv_eq_ediv_of_nonneg i (by omega),Int.fmod_eq_emod_of_nonneg i (by omega)]
 refine ⟨.ref s.heap.objs.size,_,I.laid (t':=s.toks + 1 + 1) (o := .tup [.int (i / j),.int (i % j)]) (fun b ob q=>AE _ q) (AI _) ?_,rfl,q _ (I.hok.fresh (AI _))⟩
 exact ⟨show 2≤sizeLine by decide,_,.cons ⟨_,rfl⟩ (.cons ⟨_,rfl⟩ .nil),IsTup.new _ _,_,AU _ rfl,rfl⟩
def W2:List PV->qC->Rs PV:=fun ps st=>match ps with
 |[.int i,.int j]=>if 0 < j∧j < 1073741824 then .ok (.tup [.int (i / j),.int (i % j)]) st else .no
 |_ => .no
theorem qAF {ta:FA} {p:Pos} (ha:VA X E (e::es) ta) (hm:X.mg "divmod" = none) (hg:Gl X "divmod" := by rfl) (he:starEach (e::es) X.env=(false,eval e X.env)::starEach es X.env:=by rfl) (hpl:(backTo pos (starEach es X.env)).any (·.1)=false:=by rfl):VE X E (.Call (.Name "divmod" p) (e::es) [] pos) (qG W2 ta) :=
 WQ yi (fun H b st ps vs Q S r P=>by
  unfold W2 at P
  split at P
  ·rename_i i j
   split at P
   ·rename_i hc
    obtain ⟨v,w,rfl,r1,r2⟩:=RVs.two r
    unfold RV at r1 r2;subst r1;subst r2
    exact ⟨i,j,rfl,hc.1,hc.2,fun p hp=>PostE.layT P S (RVs.cons Qe (RVs.cons Qe RVs.nil)) hp⟩
   ·exact P.elim
  ·exact P.elim) hg hm PyProof.Rows.boot_divmod ha (he:=he) (hpl:=hpl)
def qAI (p:PV):List PV->Nat
 |[]=>0
 |q::qs=>(if peq q p=true then 1 else 0) + qAI p qs
theorem Z6 {p:PV} {g:Value->Bool}:∀ {l:List PV} {its:List Value},l.length=its.length->(∀ (i:Nat) (q:PV) (y:Value),l[i]? = some q->its[i]? = some y->g y=peq q p)->its.countP g=qAI p l
 |[],[],_,_=>rfl
 |q::qs,y::ys,hl,h=>by
  rw [List.countP_cons,Z6 (l:=qs) (its:=ys) (by simpa using hl) fun i q' y' h1 h2=>h (i + 1) q' y' (by simpa using h1) (by simpa using h2),h 0 q y rfl rfl]
  show _=(if peq q p=true then 1 else 0) + qAI p qs
  rw [Nat.add_comm]
 |[],_::_,hl,_=>by simp at hl
 |_::_,[],hl,_=>by simp at hl
theorem qBT (hr:X.A.units + 64 < cLine):MtM X "list.count" (fun x vs H Q => ∃ l xs a p v,x = .ref a∧vs=[v]∧SqL X.K H a xs∧RWs X.K H l xs∧RW X.K H p v∧deps l≤zP∧Q (.int (qAI p l)) H):=by
 intro pins s σ H x vs v us Q I rx rv h
 obtain ⟨l,xs,ad,p,y,rfl,rfl,hs,hl,hp,hd,q⟩:=h
 cases rx
 obtain ⟨u,rfl,ru⟩:=rv.one
 obtain ⟨its,r',pl,hz⟩:=I.list hs
 obtain ⟨⟨c1,d1,a1,s1⟩,o1,e1,m1,f1⟩:=id pl.isList
 have e1:c1=_:=e1
 have f1:a1=_:=f1
 subst e1;subst f1
 have hA:X.A.in1.units + 60 < cLine:=by show X.A.units + 1 + 60 < cLine;omega
 obtain ⟨g,g1,g2⟩:=qAw I hp ru hA hl r' hd
 have n1:l.length=its.length:=by rw [hl.length,r'.length]
 refine call_meets F.slot_list_count ⟨_,o1,rfl⟩ F.entry_list_count (F.args_list_count_2 _ _) (SeqAt.list_countAt ad its.toArray m1 d1 s1 u g) ⟨o1,fun y hy=>g1 y (by simpa using hy),⟨.int (qAI p l),H,I.tok _,⟨s.toks,?_⟩,q⟩⟩
 show Value.int ((its.toArray.toList.countP g:Nat):Int) s.toks=_
 rw [show its.toArray.toList=its from rfl,Z6 (its:=its) n1 g2]
def Yz (fo f:FE):FE:=fun r st=>(fo r st).bind fun o s1=>match asL s1 o with
 |some _=>(f r s1).bind fun p s2=>match asL s2 o with
  |some l=>if nrs l=true∧nr p=true∧deps l≤zP then .ok (.int (qAI p l)) s2 else .no
  |none => .no
 |none => .no
theorem qBp {fo:FE} {o:Expr} {apos cpos:Pos} (hr:X.A.units + 64 < cLine) (ho:VE X E o fo) (h:VE X E e f) (hbase:attributeBase o "count" X.env (eval o X.env)=eval o X.env:=by rfl)
  (hfew:((backTo cpos (starEach [e] X.env)).all (fun x => !x.1)&&(backToKw cpos (keywordEach [] X.env)).all (fun x=>x.1.isSome)&&decide ([e].length + ([]:List Keyword).length + (if ([]:List Keyword).isEmpty then 0 else 1) < 30))=true:=by rfl)
  (hline:(apos.endLine==cpos.line)=true:=by rfl) (h1:starEach [e] X.env=(false,eval e X.env)::starEach [] X.env:=by rfl) (hplain:(backTo cpos (starEach [] X.env)).any (·.1)=false:=by rfl) :
  VE X E (.Call (.Attribute o "count" apos) [e] [] cpos) (Yz fo f) :=
 PE.imp (qDZ PySem.F.plainAttrs_list PySem.F.slot_list_count PySem.F.type_list_count (qBT hr) ho (yN h jY h1) hbase hfew hline h1 hplain) fun s H Q ⟨b,r,st,S,R,P⟩=>⟨b,r,st,S,R,PostE.bind P fun o s1 u H1 b1 e1 S1 r1 P1=>by
  split at P1
  ·rename_i l1 el1
   obtain ⟨x,xs,rfl,h2,h3⟩:=Q6 S1 r1 el1
   refine ⟨.inl ⟨rfl,xs,h2⟩,b1,r,s1,S1,R.ext e1,PostE.bind P1 fun p s2 v H2 b2 e2 S2 r2 P2 => ?_⟩
   split at P2
   ·rename_i l el
    split at P2
    ·rename_i hc
     obtain ⟨x',ys,ex,h4,h5⟩:=Q6 S2 (RV.ext e2 o r1) el
     cases ex
     exact ⟨l,ys,x,p,v,rfl,rfl,h4,RVs.rws l hc.1 h5,RV.rw p hc.2.1 r2,hc.2.2,PostE.here P2 S2 Qe⟩
    ·exact P2.elim
   ·exact P2.elim
  ·exact P1.elim⟩
theorem qD2:VE X E (.Dict [] [] pos) (vC .dct):=PE.imp qBe fun s H Q ⟨b,r,st,S,R,P⟩ p hp=>by
 refine P (.ref p) _ b (Ext.new hp) (S.new hp) ?_
 unfold RV
 exact ⟨p,rfl,qb,S.new_notin hp⟩
end
section
variable {X:Cx} {E:XK} {es:List Expr} {f:FE} {g:FA} {pos:Pos}
theorem qHM {a b} (h:VE X E (.Dict a b pos) f) (h2:VA X E es g):VA X E (.Dict a b pos::es) (qA f g):=QR h h2 rfl
end
section
variable {X:Cx} {E:XK} {e a c d:Expr} {es:List Expr} {f fa fb fc:FE} {pos:Pos}
def CMulB (i j:Int):Prop:=Builtin.Int.intBits i + Builtin.Int.intBits j≤bitsLine
theorem CMulB.ok {i j:Int} (h:CMulB i j):IntMulOk i j:=by
 unfold IntMulOk Builtin.Int.intTooBig
 have h':¬ (((Builtin.Int.intBits i:Int) + (Builtin.Int.intBits j:Int)) > (bitsLine:Int)):=by unfold CMulB at h;omega
 rw [AQ h']
 simp
theorem qDK:OpR X (binaryOp .Mult) (rI CMulB fun i j => .int (i * j)):=opI fun _ _ _ _ _ _ _ hc q=>mul_int q hc.ok
def JV:=gI fun i j=>if Builtin.Int.intBits i + Builtin.Int.intBits j≤bitsLine then some (.int (i * j)) else none
theorem qCq (ha:VE X E a fa) (hb:VE X E c fb):VE X E (.BinOp a .Mult c pos) (qH JV fa fb):=W6 qDK (qB5 fun i j z e=>by
 split at e
 ·rename_i hc;cases e;exact ⟨hc,fun _ _=>Qe⟩
 ·cases e) ha hb
theorem qD9 {i j:Int} {st:qC} (h:Builtin.Int.intBits i + Builtin.Int.intBits j≤bitsLine):JV (.int i) (.int j) st = .ok (.int (i * j)) st:=by
 unfold JV gI;dsimp only;rw [AH h]
theorem qCb {x:Int} {n:Nat} (h:x.natAbs < 2 ^ n):Builtin.Int.intBits x≤n:=by
 unfold Builtin.Int.intBits
 by_cases h0:x=0
 ·subst h0;exact A3 _
 ·rw [AO (by simpa using h0)]
  have:x.natAbs≠0:=by omega
  exact (Nat.log2_lt this).mpr h
theorem qCC {x:Int} {n:Nat} (h:Builtin.Int.intBits x≤n):x.natAbs < 2 ^ n:=by
 unfold Builtin.Int.intBits at h
 by_cases h0:x=0
 ·subst h0;exact Nat.two_pow_pos n
 ·rw [AO (by simpa using h0)] at h
  have:x.natAbs≠0:=by omega
  exact (Nat.log2_lt this).mp (by omega)
end
end EV
end
section
namespace Att
open PySem PySem.W PySem.Calls PyProof.Rows
theorem zx:∀ {ns:List Int} {n:Int},n∈ns->WData.weight (.int n)≤WData.weightAll (ns.map WData.int)
 |m::ns,n,h=>by
  show _≤WData.weight (.int m) + 1 + WData.weightAll (ns.map WData.int)
  rcases AL.mp h with rfl |h
  ·omega
  ·have:=zx h;omega
theorem YC {ns:List Int} (h:WData.layableAll [WData.list (ns.map WData.int)]=true):∀ n∈ns,Builtin.Int.intBits n≤2 ^ 20:=by
 intro n hn
 unfold WData.layableAll at h
 have h1:WData.layable (WData.list (ns.map WData.int))=true:=by simpa using h
 unfold WData.layable at h1
 rw [Av] at h1
 have h2:WData.weight (WData.list (ns.map WData.int))≤2 ^ 20:=of_decide_eq_true h1.2
 have h3:WData.weightAll (ns.map WData.int)≤2 ^ 20:=h2
 exact AV (zx hn) h3
theorem attach_callB {l:OpenLaw} {n:Nat} {q:Program} {loose:List Str} {XP:(Str->Option Value)->Heap->Prop} {YP:World->Heap->Prop} {d:DefRec}
  (hn:l.most=some n) (hdf:d.params.defaults=[])
  (call:∀ (w:World) (s₀ s₁:Shared) (mg mb:Str->Option Value) (fa:Addr) (o:Obj) (pm cd doc:Value) (a:Addr) (vs:List Value) (ns:List Int),
   Ground q loose [] XP w s₀ mg mb s₁.heap->YP w s₁.heap ->
   s₁.heap.get? fa=some o->o.data = .func (docDef d.name d.params d.body d.scope pm cd doc)->s₁.heap.CodeRec cd d.name->mg d.name=some (.ref fa) ->
   s₁.heap.get? a=some { cls := .type "list",data := .seq vs.toArray }->IntsAre vs ns->ns.length≤n->(∀ k∈ns,Builtin.Int.intBits k≤2 ^ 20)->s₁.gens = #[] ->
   codeAny (model l.prog w) callerA (.call (.ref fa) ⟨[.ref a],[]⟩) (fun r s'=>r = .ok (.ret (.bool true))∧OldK s₁.heap s'.heap∧s'.os=s₁.os∧AllBare s'.gens) s₁) :
  WalkO q loose XP YP l.row.toRowW d [] (fun f vs=>PySem.call f vs):=by
 intro w s₀ s₁ mg mb G Y fa o pm cd doc dV kV ho hd hcd hD hmg hg args vals as hpre hlay hrd hwl hlo
 obtain rfl:dV = .none:=Dflts.none hD hdf
 obtain rfl:kV = .none:=Dflts.noKw hD
 obtain ⟨a,vs,ns,rfl,rfl,hobj,hints,hlen⟩:=Jf hn hpre hwl
 refine enter_call (codeAny_mono (call w s₀ s₁ mg mb fa o pm cd doc a vs ns G Y ho (fd_plain hd) hcd hmg hobj hints hlen (YC hlay) hg) fun r s' hq => ?_)
 obtain ⟨rfl,h2,h3,h4⟩:=hq
 exact ⟨.inl ⟨.bool true,.bool true,[],rfl,fun _=>rfl,.bool true,Jv l _,fun _=>⟨List.Pairwise.nil,fun _ hm=>(nomatch hm)⟩⟩,h2,h3,h4⟩
end Att
end
section
namespace EX
open PySem PySem.Spec PyProof.Rows L2
end EX
namespace EV
open PySem PySem.Spec PyProof.Rows L2 EX
end EV
end
section
namespace HT
open PySem PySem.Spec PyProof.Rows L2
end HT
namespace L2
open PySem PySem.Spec PyProof.Rows
end L2
end
section
namespace EV
open PySem PySem.Spec PyProof.Rows L2
theorem qC1 {X:Cx} {E:XK} (i:Nat) {x:Str} {p' pos2:Pos} {elt:Expr} {c:Comprehension} {cs:List Comprehension} {scope:Scope} {pos:Pos} {capN locN:List Str} {caps:List Nat} {fi:FI} {g:FG} {ts:List FT} {gs:List GenF} {f:FE} (hN:X.N.Nodup) (hi':X.N[i]? = some x) (hx:Loc X.env.scope x) (hf:X.fn x=true∨X.env.scope.names.lookup x=some .local) (hsw:swapsWith (.ListComp elt (c::cs) scope pos) (some (.Name x p')) pos2.line X.env=pure true) (hcs:CSc X scope capN locN caps)
  (hi:VI X E c.target c.iter fi) (sub:∀ s H fp pn,VE (cCx X scope (capN++locN) s H fp pn) E0 elt f∧GOk (cCx X scope (capN++locN) s H fp pn) c ⟨fi,g,ts⟩∧GsOk (cCx X scope (capN++locN) s H fp pn) cs gs)
  (hs:∀ x,foldedSetIterable c.iter X.env x=pure x):PS X (.Assign [.Name x p'] (.ListComp elt (c::cs) scope pos) pos2) (qDn (rdN X.K E (QC caps locN.length fi g ts gs f)) (qA4 i)):=by
 intro pins s σ H D0 I hq
 obtain ⟨b,r,st,S,RE,P⟩:=hq
 have hfree:∀ x∈scope.names,x.2 = .free -> ∃ c,X.env.cells.lookup x.1=some c:=fun x hx hk=>I.ok.has x.1 (hcs.fr x hx hk)
 obtain ⟨c1,c2,c3,c4⟩:=c
 have hasy:c4=0:=(sub s H [] []).2.1.asy
 subst hasy
 rw [exec_Assign_Name_used x p' _ pos2 hsw]
 refine AA (BR ?_)
 refine AA (A2 (Q:=fun _ s' => ∃ v H',L2.Inv X pins (σ.set i (some v)) H' s'∧D0.nx (σ.set i (some v)) H') ?_ (fun _ s' ⟨v,H',I',q'⟩=>AB ⟨_,H',I',q'⟩) fun _ _ z=>z)
 rw [arm_evalThenUse_ListComp]
 refine AA (A2 (Q:=fun _ s' => ∃ v H',L2.Inv X pins (σ.set i (some v)) H' s'∧D0.nx (σ.set i (some v)) H') ?_ (fun _ s' q'=>AB q') fun _ _ z=>z)
 refine wpAny_comprehension_free (e := .ListComp elt (⟨c1,c2,c3,0⟩::cs) scope pos) (use:=some (assign (.Name x p') X.env)) rfl hs (ZE hfree) hcs.kind (fun x hx hl=>wX hcs.nd (by rw [← hl];exact hx)) ?_
 show wpAny _ _ (eval c2 X.env) _ _ s
 unfold QC at P
 cases ef:fi r st with
 |no=>rw [ef] at P;exact P.elim
 |ex xx s1 =>
  rw [ef] at P
  refine thn (hi pins s σ H (fun _ _=>False) I ⟨b,r,st,S,RE,by rw [ef];exact P⟩) fun v s2 h2=>thn h2 fun itv s3 h3 => ?_
  obtain ⟨_,_,_,_,_,_,_,_,_,_,z⟩:=h3
  exact z.elim
 |ok w s1 =>
  rw [ef] at P
  refine thn (hi pins s σ H (fun J H' => ∃ b',Ext H b H' b'∧SR X.K H' b' s1∧zc X.K H' b' J w) I ⟨b,r,st,S,RE,by rw [ef];exact fun J H' b' e' S' i'=>⟨b',e',S',i'⟩⟩) fun v s2 h2=>thn h2 fun itv s3 h3 => ?_
  obtain ⟨it,fp,tn,J,H2,rfl,I2,T,t2,f2,b2,e2,S2,i2⟩:=h3
  have P:PostN X.K E H b (match qf w.G (QX ⟨fi,g,ts⟩ (Q2 gs f) (wN caps locN.length r)) w.l s1 with | .ok l s'=>if l.length≤sizeLine then .ok l s' else .no |_ => .no) (fun v H'=>D0.nx (σ.set i (some v)) H'):=P
  cases ev:qf w.G (QX ⟨fi,g,ts⟩ (Q2 gs f) (wN caps locN.length r)) w.l s1 with
  |no=>rw [ev] at P;exact P.elim
  |ex xx s4=>rw [ev] at P;exact P.elim
  |ok l st' =>
   rw [ev] at P
   have P:PostN X.K E H b (if l.length≤sizeLine then .ok l st' else .no) (fun v H'=>D0.nx (σ.set i (some v)) H'):=P
   by_cases hl:l.length≤sizeLine
   ·rw [AH hl] at P
    have hfr:H2 s3.heap.objs.size=none:=I2.hok.fresh (AI _)
    refine wpAny_newList ?_
    generalize hs3:({ s3 with heap:=s3.heap.push { cls := .type "list",data := .seq ([]:List Value).toArray } }:Shared)=s3'
    have I3:L2.Inv X pins σ (upd H2 s3.heap.objs.size (.lst [])) s3':=by
     rw [← hs3]
     exact I2.laid (t':=s3.toks) (fun a u e=>AE _ e) (AI _) (show ObjOk X.prog X.w _ _ _ (.lst []) from ⟨A3 _,[],0,.nil,AU _ rfl⟩)
    have k3:∀ a o,s3.heap.get? a=some o->s3'.heap.get? a=some o:=fun a o e=>by rw [← hs3];exact AE _ e
    have hlt:∀ a∈fp,a < s3.heap.objs.size:=fun a ha=>by
     obtain ⟨o,e,_⟩:=T.obj _ _ t2 a ha
     exact AM e
    have f3:∀ a∈fp,Wz X pins (upd H2 s3.heap.objs.size (.lst [])) a:=fun a ha=>⟨by rw [qK (AZ (hlt a ha))];exact (f2 a ha).1,(f2 a ha).2⟩
    have hlt3:∀ a∈fp,a < s3'.heap.objs.size:=fun a ha=>by
     obtain ⟨o,e,_⟩:=T.obj _ _ t2 a ha
     exact AM (k3 a o e)
    generalize hD:s3.heap.objs.size=D at I3 f3 hfr
    refine YX ?_
    have J0:=ZG hcs I3 f3 hlt3 rfl
    obtain ⟨he,hg,hgs⟩:=sub s3' (upd H2 D (.lst [])) fp (X.pn++pins)
    have k4:∀ a o,s3'.heap.get? a=some o->(pushCells (s3'.heap.push { cls := .type "dict",data := .dict #[] }) scope.names).get? a=some o:=fun a o e=>Bi _ _ _ _ (AE _ e)
    have hDz:D ∉ b2.z:=(S2.new_notin hfr).2
    have loop:=Z7 (X:=cCx X scope (capN++locN) s3' (upd H2 D (.lst [])) fp (X.pn++pins)) (fun _ _ z=>z) (gens:=⟨c1,c2,c3,0⟩::cs) (scope:=scope) (pos:=pos) (D:=D) he gs cs 0 ⟨c1,c2,c3,0⟩ ⟨fi,g,ts⟩ rfl hg hgs [] _ _ _ ⟨b2.b,D::b2.z⟩ (wN caps locN.length r) s1 st' it fp tn J w [] l
     (compPost (model X.prog X.w) X.A X.xe (some (assign (.Name x p') X.env)) (fun _ s' => ∃ v H',L2.Inv X pins (σ.set i (some v)) H' s'∧D0.nx (σ.set i (some v)) H') (.ref D) s3'.heap.objs.size) J0 (SR.hide S2 hfr) (yg ((RE.ext e2).wext (WE.hide hfr))) AF qb T (T.keep _ _ _ t2 fun a ha o e=>k4 a o (k3 a o e))
     (fun a ha=>⟨(f3 a ha).1,(J0.ok.exf a ha).1,J0.ok.exfs a ha,.inl ha,(J0.ok.exf a ha).2,fun p hp=>(f3 a ha).2.2.2.2.2 p (by simpa [cCx] using hp)⟩) (Zg i2 hfr) ev (by simpa using hl)
     (fun s' σ' H' b' lV I' e' S' R' hD' r'=>by
      obtain ⟨m,hn,_⟩:=I'.loc
      have hn:s'.heap.Ns s3'.heap.objs.size m:=hn
      have fin:L2.Inv X pins σ H' s':=Yh I3 f3 I' ⟨rfl,fun _ _=>rfl⟩
      have hC:H' s3'.heap.objs.size=none:=I'.free
      have fpC:Wz X pins H' s3'.heap.objs.size:=I3.fpOk (AI _) hC
      obtain ⟨oC,esC,epC,hoC,hdC,hkC⟩:=id hn
      have finp:=fin.pinned (fp:=[s3'.heap.objs.size]) (fun b hb=>by rw [An.mp hb];exact fpC) (fun b hb=>by rw [An.mp hb];exact ⟨oC,hoC,fun v z=>by rw [hdC] at z;cases z⟩)
      have hz':b'.z=D::b2.z:=e'.same
      show wpAny (model X.prog X.w) X.A (assign (.Name x p') X.env (.ref D)) _ _ s'
      refine wpAny_assign_Name ?_
      refine wq finp hN hi' hx (v := .ref D) rfl (fun s'' I'' => ?_) hf
      have hpin:s''.heap.get? s3'.heap.objs.size=some oC:=by
       have hm:(s3'.heap.objs.size,oC)∈X.pn++(pins++Ww [s3'.heap.objs.size] s'.heap):=by
        unfold Ww
        simp [hoC]
       exact (I''.pin _ hm).1
      refine ⟨m,⟨oC,esC,epC,hpin,hdC,hkC⟩,fun h'' sb=>⟨.ref D,H',(I''.unpinned).turned (t':=s''.toks) (fun b o hb e=>sb.extBut b o hb e) fpC.1 fpC.2.1 fpC.2.2.2.1 fpC.2.2.2.2.1 (fun p hp=>fpC.2.2.2.2.2 p hp),?_⟩⟩
      have ex:Ext H2 b2 H' ⟨b'.b,b2.z⟩:=by
       refine ⟨⟨?_,⟨[],rfl,by simp⟩,fun a o ha ho => ?_,fun a o ha => ?_⟩,rfl,fun a o hz ha => ?_,fun a o u ha=>e'.fz a o u (qM ha hfr) (by rw [qK (qM ha hfr)];exact ha)⟩
       ·obtain ⟨n,hb,hh⟩:=e'.more
        exact ⟨n,hb,fun a ha=>by
         have:=hh a ha
         by_cases q:a=D
         ·rw [q];exact hfr
         ·rwa [qK q] at this⟩
       ·have hne:a≠D:=qM ha hfr
        exact e'.keep a o (by rw [qK hne];exact ha) ⟨ho.1,fun z=>(AL.mp z).elim hne ho.2⟩
       ·have hne:a≠D:=qM ha hfr
        exact e'.dom a o (by rw [qK hne];exact ha)
       ·have hne:a≠D:=qM ha hfr
        exact e'.hid a o (AD _ hz) hne (by rw [qK hne];exact ha)
      have hb':(⟨b'.b,D::b2.z⟩:Bz)=b':=by rw [← hz']
      refine P D lV H' ⟨b'.b,b2.z⟩ (e2.trans ex) (e2.none_of hfr) (by simpa using hD') hDz ?_ ?_
      ·show SR X.K H' ⟨b'.b,D::b2.z⟩ st'
       rw [hb'];exact S'
      ·show RVs X.K H' ⟨b'.b,D::b2.z⟩ l lV
       rw [hb'];exact r')
    exact w6 rfl rfl loop (T.self X.A 0 _ _ _ (T.keep _ _ _ t2 fun a ha o e=>k4 a o (k3 a o e)) loop)
   ·rw [AO hl] at P;exact P.elim
end EV
namespace EV
open PySem PySem.Spec PyProof.Rows L2
section
variable {X:Cx} {E:XK} {x:Str} {p' pos2:Pos} {elt:Expr} {c:Comprehension} {cs:List Comprehension} {scope:Scope} {pos:Pos} {capN locN:List Str} {caps:List Nat} {fi:FI} {g:FG} {ts:List FT} {gs:List GenF} {f:FE}
theorem qCX (i:Nat) (hN:X.N.Nodup) (hcs:CSc X scope capN locN caps)
  (hi:VI X E c.target c.iter fi) (sub:∀ s H fp pn,VE (cCx X scope (capN++locN) s H fp pn) E0 elt f∧GOk (cCx X scope (capN++locN) s H fp pn) c ⟨fi,g,ts⟩∧GsOk (cCx X scope (capN++locN) s H fp pn) cs gs)
  (hi':X.N[i]? = some x:=by rfl) (hx:Loc X.env.scope x:=by first |exact Or.inl rfl |exact Or.inr rfl) (hf:X.fn x=true∨X.env.scope.names.lookup x=some .local:=by first |exact .inl rfl |exact .inr rfl |assumption)
  (hsw:swapsWith (.ListComp elt (c::cs) scope pos) (some (.Name x p')) pos2.line X.env=pure true:=by rfl) (hs:∀ x,foldedSetIterable c.iter X.env x=pure x:=by intro _;rfl) :
  VS X E (.Assign [.Name x p'] (.ListComp elt (c::cs) scope pos) pos2) (qU i (vFz (QC caps locN.length fi g ts gs f))) :=
 PS.imp (qC1 i hN hi' hx hf hsw hcs hi sub hs) fun D s H ⟨b,r,st,S,R,P⟩=>⟨b,r,st,S,R,PostN.of (PostE.bindS P fun p s1 u H1 b1 e1 S1 r1 P1=>P1 _ H1 b1 (Ext.refl _ _) S1 ((R.ext e1).set r1 i))⟩
end
end EV
end
section
namespace EX
open PySem PySem.Spec PyProof.Rows L2
end EX
namespace EV
open PySem PySem.Spec PyProof.Rows L2 EX
end EV
end
section
namespace EV
open PySem PySem.Spec PyProof.Rows L2 EX
section
variable {X:Cx} {E:XK}
def qE4 (sc:Scope) (x:Str):Bool:=match sc.names.lookup x with
 |some .local=>true
 |some .cell=>true
 |some .free=>true
 |_=>false
theorem qDs {sc:Scope} {x:Str} (h:qE4 sc x=true):Vis sc x:=by
 unfold qE4 at h
 unfold Vis
 split at h
 ·rename_i e;exact .inl e
 ·rename_i e;exact .inr (.inl e)
 ·rename_i e;exact .inr (.inr e)
 ·cases h
theorem qJ (i:Nat) {x:Str} {pos:Pos} (hN:X.N[i]? = some x:=by rfl) (hv:qE4 X.env.scope x=true:=by rfl) (hd:((x==("__debug__":Str)) || (x==("__classdict__":Str)))=false:=by rfl):VE X E (.Name x pos) (qB i):=by
 rw [Bool.or_eq_false_iff] at hd
 exact qFO (pv i hN (qDs hv) hd.1 hd.2)
def frB (X:Cx):List (Str×NameKind)->Bool
 |[]=>true
 |(x,.free)::l=>(match X.env.kindOf x with |some .cell=>true |some .free=>true |_=>false)&&frB X l
 |_::l=>frB X l
theorem qBM:∀ {l:List (Str×NameKind)},frB X l=true -> ∀ x∈l,x.2 = .free->(X.env.kindOf x.1=some .cell∨X.env.kindOf x.1=some .free)
 |[],_,x,hx,_=>by cases hx
 |(y,k)::l,h,x,hx,hk=>by
  rcases AL.mp hx with rfl |hx
  ·have hk:k = .free:=hk
   subst hk
   unfold frB at h
   rw [Av] at h
   have h:=h.1
   split at h
   ·rename_i e;exact .inl e
   ·rename_i e;exact .inr e
   ·cases h
  ·refine qBM (l:=l) ?_ x hx hk
   unfold frB at h
   split at h
   ·rename_i he;cases he
   ·rename_i he;cases he;rw [Av] at h;exact h.2
   ·rename_i he;cases he;exact h
def qDC (X:Cx) (l:List (Str×NameKind)):List Str->List Nat->Prop
 |x::xs,j::js=>(X.N[j]? = some x∧l.lookup x=some .free)∧qDC X l xs js
 |_,_=>True
theorem z9 {x:Str} {k:NameKind}:∀ {l:List (Str×NameKind)},l.lookup x=some k->(x,k)∈l
 |[],h=>by cases h
 |(y,q)::l,h=>by
  rw [Ah] at h
  split at h
  ·rename_i e;cases h;rw [eq_of_beq e];exact AF
  ·exact AD _ (z9 h)
theorem JI {l:List (Str×NameKind)}:∀ {xs:List Str} {js:List Nat},qDC X l xs js -> ∀ (i:Nat) (x:Str) (j:Nat),xs[i]? = some x->js[i]? = some j->X.N[j]? = some x∧(x,NameKind.free)∈l
 |[],_,_,i,x,j,h1,_=>by cases h1
 |_::_,[],_,i,x,j,_,h2=>by cases h2
 |a::xs,b::js,h,i,x,j,h1,h2=>by
  unfold qDC at h
  cases i with
  |zero=>cases h1;cases h2;exact ⟨h.1.1,z9 h.1.2⟩
  |succ i=>exact JI h.2 i x j h1 h2
theorem ZD {scope:Scope} {capN locN:List Str} {caps:List Nat} (h1:scope.kind = .function) (h2:(scope.names.map (·.1)).Nodup) (h3:frB X scope.names=true) (h4:capN.length=caps.length) (h5:qDC X scope.names capN caps):CSc X scope capN locN caps :=
 ⟨h1,h2,qBM h3,h4,JI h5⟩
end
end EV
end
section
namespace EX
open PySem PySem.Spec PyProof.Rows L2
end EX
namespace EV
open PySem PySem.Spec PyProof.Rows L2 EX
end EV
end
section
namespace EV
open PySem PySem.Spec PyProof.Rows L2 EX
section
variable {X:Cx} {E:XK} {e:Expr} {es:List Expr} {pos:Pos}
theorem qHQ {a:Expr} {n:Str} {f:FE} {g:FA} (h:VE X E (.Attribute a n pos) f) (h2:VA X E es g):VA X E (.Attribute a n pos::es) (qA f g):=QR h h2 rfl
end
end EV
end
section
namespace EX
open PySem PySem.Spec PyProof.Rows L2
structure RawAt (h:Heap) (d:Addr) (es:Array DictEntry) (ep:Nat):Prop where
 ex:∃ o,h.get? d=some o∧o.ExactDict∧o.data = .dict es ep
section
variable {prog:Program} {w:World} {A:Around} {E:Value->Shared->Prop} {s:Shared} {d it:Addr} {es:Array DictEntry} {ep i:Nat}
theorem RawAt.typeIs (m:RawAt s.heap d es ep):s.TypeIs (.ref d) "dict" := let ⟨o,h,c,_⟩:=m.ex;⟨o,h,c.1⟩
theorem qBc {Q:Value->Shared->Prop} (hd:(d==sysModules)=false) (m:RawAt s.heap d es ep)
  (hQ:Q (.ref s.heap.objs.size) { s with heap:=s.heap.push { cls := .type "dict_keyiterator",data := .fields #[.ref d,.int 0 0,.int es.size 0,.int ep 0] } }):wpAny (model prog w) A (pyIter (.ref d)) Q E s:=by
 obtain ⟨o,ho,hc,hdat⟩:=m.ex
 refine wpAny_pyIter_slot m.typeIs F.slot_dict_iter (Ay F.slot_dict_iter m.typeIs F.entry_dict_iter ?_ (F.args_dict_iter_1 _))
 unfold Builtin.«dict.__iter__» Builtin.Dict.dictSlotNone Builtin.Dict.showsAll
 refine AA (AA (wpAny_notOrdered_dict m.typeIs (AB ?_)))
 show wpAny _ _ ((if (d==sysModules)=true then _ else _) >>= _) _ _ s
 rw [AO (by rw [hd];exact Ag)]
 refine AA (AB (AA (BU ho hdat (AA (wpAny_dictEpoch ho hdat ?_)))))
 exact AA (Az (AB ⟨_,rfl,"dict_keyiterator",_,⟨_,AU _ rfl,rfl⟩,F.slot_dict_keyiterator_next.lookup,by simpa [rawInt] using hQ⟩))
theorem qAt {Q:Option Value->Shared->Prop} (hit:s.heap.IsKeyIter it d i es.size ep) (m:RawAt s.heap d es ep) {e:DictEntry} (hx:es[i]? = some e)
  (hQ:∀ h',h'.IsKeyIter it d (i + 1) es.size ep->Heap.SameBut it s.heap h'->Q (some e.key) { s with heap:=h' }):wpAny (model prog w) A (pyNext (.ref it)) Q E s:=by
 obtain ⟨o,ho,hc,hd⟩:=id hit
 obtain ⟨od,hod,hcd,hdd⟩:=m.ex
 have hown:Builtin.Dict_items.ownsTuple "dict_keyiterator" = false:=by decide
 obtain ⟨hlt,rfl⟩:=BA.mp hx
 unfold pyNext
 refine AA (BP (Ax (name:=Str.ofString "__next__") hit.typeIs BH (Ay BH hit.typeIs F.entry_dict_keyiterator_next ?_ (F.args_dict_keyiterator_next_1 _))))
 refine AA (AB (AA (AA ?_)))
 first |refine AA (BD hit.typeIs (AB (AA (wpAny_fieldsOf ho hd ?_)))) |refine AA (BO hit.typeIs (AB (AA (wpAny_fieldsOf ho hd ?_))))
 simp only [hown,Ar,A4]
 show wpAny _ _ (if (Value.ref d==Value.none)=true then _ else _) _ _ s
 rw [AO (show ¬ ((Value.ref d==Value.none)=true) from Ag)]
 refine AA (AB (AA (BU hod hdd ?_)))
 rw [AO (by simp)]
 refine AA (AB (AA (wpAny_dictEpoch hod hdd ?_)))
 rw [AO (by simp)]
 refine AB ?_
 simp only [show ¬ ((i:Int) < 0) from by omega,A4,BN,Array.getElem?_eq_getElem hlt]
 refine AA ?_
 first |refine AA (BD hit.typeIs (AB (AA (wpAny_isOneOf_keyiter hit.typeIs ?_)))) |refine AA (BO hit.typeIs (AB (AA (wpAny_isOneOf_keyiter hit.typeIs ?_))))
 show wpAny _ _ (setField (.ref it) 1 (rawInt ((i:Int) + 1)) >>= _) _ _ s
 refine AA (BG ho hd (by simp) ?_)
 have hit':(s.heap.update it (Obj.mapFields (·.setIfInBounds 1 (rawInt ((i:Int) + 1))))).IsKeyIter it d (i + 1) es.size ep:=⟨_,BK _ ho (BV (BJ hd _)),(Obj.cls_mapFields ..).trans hc,by rw [BJ hd];simp [rawInt]⟩
 refine AA (At (AA (wpAny_isOneOf_keyiter (s:={ s with heap:=s.heap.update it (Obj.mapFields (·.setIfInBounds 1 (rawInt ((i:Int) + 1)))) }) hit'.typeIs ?_)))
 exact AB (AB ⟨_,rfl,AB (hQ _ hit' (Heap.SameBut.update ..))⟩)
theorem qCn {Q:Option Value->Shared->Prop} (hn:Hnd A s.heap) (z4:∀ v,A.handled=some v->v ≠ .ref it) (hit:s.heap.IsKeyIter it d i es.size ep) (m:RawAt s.heap d es ep) (hx:es.size≤i)
  (hQ:∀ h',(∀ b o,b≠it->s.heap.get? b=some o->h'.get? b=some o)->Q none { s with heap:=h' }):wpAny (model prog w) A (pyNext (.ref it)) Q E s:=by
 obtain ⟨o,ho,hc,hd⟩:=id hit
 obtain ⟨od,hod,hcd,hdd⟩:=m.ex
 have hown:Builtin.Dict_items.ownsTuple "dict_keyiterator" = false:=by decide
 unfold pyNext
 refine AA (BP (Ax (name:=Str.ofString "__next__") hit.typeIs BH (Ay BH hit.typeIs F.entry_dict_keyiterator_next ?_ (F.args_dict_keyiterator_next_1 _))))
 refine AA (AB (AA (AA ?_)))
 first |refine AA (BD hit.typeIs (AB (AA (wpAny_fieldsOf ho hd ?_)))) |refine AA (BO hit.typeIs (AB (AA (wpAny_fieldsOf ho hd ?_))))
 simp only [hown,Ar,A4]
 show wpAny _ _ (if (Value.ref d==Value.none)=true then _ else _) _ _ s
 rw [AO (show ¬ ((Value.ref d==Value.none)=true) from Ag)]
 refine AA (AB (AA (BU hod hdd ?_)))
 rw [AO (by simp)]
 refine AA (AB (AA (wpAny_dictEpoch hod hdd ?_)))
 rw [AO (by simp)]
 refine AB ?_
 simp only [show ¬ ((i:Int) < 0) from by omega,A4,BN,Array.getElem?_eq_none hx]
 refine AA ?_
 first |refine AA (BD hit.typeIs (AB ?_)) |refine AA (BO hit.typeIs (AB ?_))
 show wpAny _ A.in1 (setField (.ref it) 0 .none >>= _) _ _ s
 refine AA (BG ho hd (by simp) ?_)
 refine w9 (A:=A.in1) ?_ fun h' e k ht => ?_
 ·intro v hv
  obtain ⟨ea,oe,vs,e1,e2,e3⟩:=hn v hv
  refine ⟨ea,oe,vs,e1,?_,e3⟩
  have hne:ea≠it:=fun z=>z4 v hv (by rw [e1,z])
  exact (Ab _ _ (Ne.symm hne)).trans e2
 ·refine AA (BB (T := "StopIteration") (b:=true) ht isSubtype_stop ?_)
  exact AB (hQ _ fun b o' hb q=>k b o' ((Ab _ _ (Ne.symm hb)).trans q))
end
theorem ZO {α β:Type} {F:α->β->Prop}:∀ {l:List α} {m:List β} {i:Nat} {x:α},Paired F l m->l[i]? = some x -> ∃ y,m[i]? = some y∧F x y
 |_,_,_,_,.nil,e=>by simp at e
 |_,_,0,_,.cons r _,e=>by simp at e;subst e;exact ⟨_,rfl,r⟩
 |_,_,i + 1,x,.cons _ t,e=>by
  obtain ⟨y,h1,h2⟩:=ZO (i:=i) (x:=x) t (by simpa using e)
  exact ⟨y,by simpa using h1,h2⟩
def NF (X:Cx) (a:Addr):Prop:=(∀ o u,X.H₀ a≠some (.frz o u)) ∧ ∀ v,X.A.handled=some v->v ≠ .ref a
end EX
end
section
namespace EV
open PySem PySem.Spec PyProof.Rows L2 EX
def YG:PV->Option (List L2.Key)
 | .tup (p::l)=>match WZ qEd (p::l) with
  |some ns=>some (ns.map Sum.inl)
  |none=>none
 |_=>none
def qFl (K:W.Frag):Prop := ∀ a ns,KT K a (ns.map V.int)->ns=[]
theorem qAl (K:W.Frag):qFl K:=fun _ _ h=>h.2.elim
section
variable {X:Cx} {E:XK} {e a c d o:Expr} {es:List Expr} {f fa fb fc fd fk fx:FE} {pos:Pos} {F G:FS}
theorem qEp {K:W.Frag} {H:Hp} {b:Bz} {p:PV} {v:V} {k:List L2.Key} (nk:qFl K) (r:RV K H b p v) (h:YG p=some k):∃ a,v = .ref a∧H a=some (.tup (k.map kV)):=by
 unfold YG at h
 split at h
 ·rename_i p l
  split at h
  ·rename_i ns hn
   cases h
   unfold RV at r
   obtain ⟨a,xs,rfl,h2,h3⟩:=r
   have:=jt h3 hn
   subst this
   refine ⟨a,rfl,?_⟩
   rcases h2 with q |q
   ·rw [q.1];congr 2;simp [kV]
   ·have:=nk a ns q
    subst this
    have:=h3.length
    cases this
  ·cases h
 ·cases h
theorem Ext.newS {H:Hp} {b:Bz} {p:Addr} {o:HO} (h:H p=none):Ext H b (upd H p o) ⟨b.b++[p],b.z⟩ :=
 ⟨⟨⟨[p],rfl,fun a ha=>by rw [An.mp ha];exact h⟩,⟨[],rfl,by simp⟩,fun a u e _=>by rw [qK (qM e h)];exact e,fun a u e=>⟨u,by rw [qK (qM e h)];exact e⟩⟩,rfl,fun a u _ e=>by rw [qK (qM e h)];exact e,fun a u _ e=>by rw [qK (qM e h)];exact e⟩
theorem SR.newS {K:W.Frag} {H:Hp} {b:Bz} {st:qC} (S:SR K H b st) {p:Addr} {o:HO} {x:SO} (h:H p=none) (hx:SOk K (upd H p o) ⟨b.b++[p],b.z⟩ x o):SR K (upd H p o) ⟨b.b++[p],b.z⟩ (st++[x]):=by
 have hn:=S.new_notin h
 refine ⟨by simp [S.len],?_,fun i y hy => ?_,fun a ha => ?_,fun a ha hm => ?_⟩
 ·exact List.nodup_append.mpr ⟨S.nd,by simp,fun a ha c hc=>by rw [An.mp hc];intro z;subst z;exact hn.1 ha⟩
 ·by_cases hi:i < st.length
  ·rw [AT hi] at hy
   obtain ⟨a,u,h1,h2,h3⟩:=S.at_ i y hy
   exact ⟨a,u,(Ext.newS (b:=b) (o:=o) h).ix h1,by rw [qK (qM h2 h)];exact h2,h3.ext (Ext.newS h)⟩
  ·have hi':i=st.length:=by
    have:=(AG.mp hy).1
    rw [Aa,BW] at this;omega
   subst hi'
   have e1:(st++[x])[st.length]? = some x:=by simp
   rw [e1] at hy;cases hy
   exact ⟨p,o,by show (b.b++[p])[st.length]? = some p;rw [← S.len];simp,qb,hx⟩
 ·obtain ⟨u,e⟩:=S.zo a ha
  exact ⟨u,by rw [qK (qM e h)];exact e⟩
 ·rcases A1.mp hm with q |q
  ·exact S.zb a ha q
  ·rw [An.mp q] at ha;exact hn.2 ha
theorem qCu {K:W.Frag} {H H':Hp} {b:Bz} {st:qC} (S:SR K H b st) {p:Addr}:RV K H' ⟨b.b++[p],b.z⟩ (.ref st.length) (.ref p):=by
 unfold RV
 exact ⟨p,rfl,by show (b.b++[p])[st.length]? = some p;rw [← S.len];simp⟩
def zN {κ:Type} [DecidableEq κ] (kvs:List (κ×PV)) (k:κ):Option PV:=(kvs.find? fun kv=>decide (kv.1=k)).map (·.2)
def zO {κ:Type} [DecidableEq κ] (kvs:List (κ×PV)) (k:κ) (v:PV):List (κ×PV) :=
 if (kvs.any fun kv=>decide (kv.1=k))=true then kvs.map (fun kv=>if kv.1=k then (kv.1,v) else kv) else kvs++[(k,v)]
theorem yM {K:W.Frag} {H:Hp} {b:Bz} {κ:Type} [DecidableEq κ] {k:κ}:∀ {kvs:List (κ×PV)} {vs:List (κ×V)},kvs.map (·.1)=vs.map (·.1)->RVs K H b (kvs.map (·.2)) (vs.map (·.2)) ->
  (∃ p v,zN kvs k=some p∧Wo vs k=some v∧RV K H b p v)∨(zN kvs k=none∧Wo vs k=none)
 |[],[],_,_ => .inr ⟨rfl,rfl⟩
 |[],_::_,h,_=>by cases h
 |_::_,[],h,_=>by cases h
 |(k1,p)::r,(k2,v)::vs,h,hr=>by
  rw [AN,AN] at h hr
  obtain ⟨h1,h2⟩:=Bl h
  unfold RVs at hr
  obtain ⟨x,xs,e1,e2,e3⟩:=hr
  obtain ⟨rfl,rfl⟩:=Bl e1
  by_cases e:k1=k
  ·exact .inl ⟨p,v,by simp [zN,A6,e],by simp [Wo,A6,← e,show k1=k2 from h1],e2⟩
  ·have e':¬ k2=k:=fun z=>e ((show k1=k2 from h1).trans z)
   have:=yM (k:=k) h2 e3
   simpa [zN,Wo,A6,e,e'] using this
theorem qCc {κ:Type} [DecidableEq κ] {k:κ} {kvs:List (κ×PV)} {vs:List (κ×V)} (h:kvs.map (·.1)=vs.map (·.1)):(kvs.any fun kv=>decide (kv.1=k))=(vs.any fun kv=>decide (kv.1=k)):=by
 have h1:(kvs.any fun kv=>decide (kv.1=k))=(kvs.map (·.1)).any fun x=>decide (x=k):=by rw [List.any_map];rfl
 have h2:(vs.any fun kv=>decide (kv.1=k))=(vs.map (·.1)).any fun x=>decide (x=k):=by rw [List.any_map];rfl
 rw [h1,h2,h]
theorem YS {K:W.Frag} {H:Hp} {b:Bz} {κ:Type} [DecidableEq κ] {k:κ} {p:PV} {v:V} (rp:RV K H b p v):∀ {kvs:List (κ×PV)} {vs:List (κ×V)},kvs.map (·.1)=vs.map (·.1)->RVs K H b (kvs.map (·.2)) (vs.map (·.2)) ->
  (kvs.map (fun kv=>if kv.1=k then (kv.1,p) else kv)).map (·.1)=(vs.map (fun kv=>if kv.1=k then (kv.1,v) else kv)).map (·.1) ∧
  RVs K H b ((kvs.map (fun kv=>if kv.1=k then (kv.1,p) else kv)).map (·.2)) ((vs.map (fun kv=>if kv.1=k then (kv.1,v) else kv)).map (·.2))
 |[],[],_,_=>⟨rfl,RVs.nil⟩
 |[],_::_,h,_=>by cases h
 |_::_,[],h,_=>by cases h
 |(k1,q)::r,(k2,w)::vs,h,hr=>by
  rw [AN,AN] at h hr
  obtain ⟨h1,h2⟩:=Bl h
  unfold RVs at hr
  obtain ⟨x,xs,e1,e2,e3⟩:=hr
  obtain ⟨rfl,rfl⟩:=Bl e1
  have h1:k1=k2:=h1
  subst h1
  obtain ⟨i1,i2⟩:=YS (k:=k) rp h2 e3
  by_cases e:k1=k
  ·exact ⟨by simp only [AN,e,if_true] at i1 ⊢;rw [i1],by simp only [AN,e,if_true];exact RVs.cons rp i2⟩
  ·exact ⟨by simp only [AN,e,A4] at i1 ⊢;rw [i1],by simp only [AN,e,A4];exact RVs.cons e2 i2⟩
theorem qCB {K:W.Frag} {H:Hp} {b:Bz} {κ:Type} [DecidableEq κ] {k:κ} {p:PV} {v:V} (rp:RV K H b p v) {kvs:List (κ×PV)} {vs:List (κ×V)} (h:kvs.map (·.1)=vs.map (·.1)) (hr:RVs K H b (kvs.map (·.2)) (vs.map (·.2))) :
  (zO kvs k p).map (·.1)=(ZJ vs k v).map (·.1)∧RVs K H b ((zO kvs k p).map (·.2)) ((ZJ vs k v).map (·.2)):=by
 unfold zO ZJ
 rw [qCc h]
 by_cases q:(vs.any fun kv=>decide (kv.1=k))=true
 ·rw [AH q,AH q];exact YS rp h hr
 ·rw [AO q,AO q]
  refine ⟨by rw [Bg,Bg,h];rfl,?_⟩
  rw [Bg,Bg]
  exact hr.append (RVs.cons rp RVs.nil)
theorem qC9 {g:FG} {D:Ends} {J:It} {G:qC->Prop} {l:List PV} {H1:Hp} {b1:Bz} {r:ql} {st1:qC} {s:L2.St} (S1:SR X.K H1 b1 st1) (R1:REnv X.K H1 b1 r s)
  (it:∀ H' b2 st2,Ext H1 b1 H' b2->SR X.K H' b2 st2->G st2->(∀ (i:Nat) (p:PV),l[i]? = some p->J.go i H' ∧ ∀ x H2,J.yld i H' x H2->Same H' H2∧SR X.K H2 b2 st2∧RV X.K H2 b2 p x) ∧ ∀ i,l.length≤i->J.stop i H')
  (P1:PostS X.K E H1 b1 (QA G g F l r st1) D) :
  ∃ W:Nat->Nat->L2.St->Hp->Prop,(∃ m0,W 0 m0 s H1) ∧ ∀ i m σ' H',W i m σ' H'->(J.stop i H'∧D.nx σ' H')∨(J.go i H' ∧ ∃ N:L2.St->Hp->Prop,(∀ σ'' H'',N σ'' H'' -> ∃ m',m' < m∧W (i + 1) m' σ'' H'') ∧ ∀ x H2,J.yld i H' x H2->rdG X.K g x σ' H2 fun σ'' H''=>rdS X.K E0 F { nx:=N,ct:=N,bk:=D.nx,rt:=D.rt } σ'' H''):=by
 refine ⟨fun i m σ' H' => ∃ b2 r2 st2,Ext H1 b1 H' b2∧SR X.K H' b2 st2∧REnv X.K H' b2 r2 σ'∧m=l.length + 1 - i∧i≤l.length∧PostS X.K E H' b2 (QA G g F (l.drop i) r2 st2) D,⟨l.length + 1,b1,r,st1,Ext.refl _ _,S1,R1,by omega,A3 _,by simpa using P1⟩,?_⟩
 rintro i m σ' H' ⟨b2,r2,st2,e2,S2,R2,hm,hi',P2⟩
 by_cases hlt:i < l.length
 ·have hd:l.drop i=l[i]::l.drop (i + 1):=List.drop_eq_getElem_cons hlt
  rw [hd] at P2
  unfold QA at P2
  by_cases hG:G st2
  ·rw [AH hG] at P2
   obtain ⟨h1,h2⟩:=it H' b2 st2 e2 S2 hG
   obtain ⟨go,yl⟩:=h1 i l[i] (AJ hlt)
   refine .inr ⟨go,fun σ3 H3 => ∃ b3 r3 st3,Ext H1 b1 H3 b3∧SR X.K H3 b3 st3∧REnv X.K H3 b3 r3 σ3∧PostS X.K E H3 b3 (QA G g F (l.drop (i + 1)) r3 st3) D,?_,?_⟩
   ·rintro σ3 H3 ⟨b3,r3,st3,k1,k2,k3,k4⟩
    exact ⟨l.length + 1 - (i + 1),by omega,b3,r3,st3,k1,k2,k3,rfl,hlt,k4⟩
   ·intro x H3 hx
    obtain ⟨e3',S3,r3⟩:=yl x H3 hx
    have e3:Ext H' b2 H3 b2:=Ext.of_same e3'
    cases eg:g l[i] r2 with
    |none=>rw [eg] at P2;exact P2.elim
    |some r4 =>
     rw [eg] at P2
     refine ⟨b2,r2,l[i],st2,S3,R2.ext e3,r3,r4,eg,fun s4 R4=>⟨b2,r4,st2,S3,R4,?_⟩⟩
     have P3:=PostS.ext P2 e3
     dsimp only at P3
     have e13:=e2.trans e3
     cases eF:F r4 st2 with
     |nx r5 s5=>rw [eF] at P3;exact fun s6 H6 b6 e6 S6 R6=>⟨b6,r5,s5,e13.trans e6,S6,R6,PostS.ext P3 e6⟩
     |ct r5 s5=>rw [eF] at P3;exact fun s6 H6 b6 e6 S6 R6=>⟨b6,r5,s5,e13.trans e6,S6,R6,PostS.ext P3 e6⟩
     |bk r5 s5=>rw [eF] at P3;exact P3
     |rt v s5=>rw [eF] at P3;exact P3
     |ex x s5=>rw [eF] at P3;exact P3.elim
     |no=>rw [eF] at P3;exact P3.elim
  ·rw [AO hG] at P2;exact P2.elim
 ·have hl:i=l.length:=by omega
  subst hl
  rw [List.drop_length] at P2
  unfold QA at P2
  by_cases hG:G st2
  ·rw [AH hG] at P2
   obtain ⟨h1,h2⟩:=it H' b2 st2 e2 S2 hG
   exact .inl ⟨h2 _ (AI _),P2 σ' H' b2 (Ext.refl _ _) S2 R2⟩
  ·rw [AO hG] at P2;exact P2.elim
theorem SR.tup_out {K:W.Frag} {H:Hp} {b:Bz} {st:qC} (S:SR K H b st) {x:Addr} {xs:List V} (h:H x=some (.tup xs)):b.out x:=by
 refine ⟨fun hm => ?_,fun hm => ?_⟩
 ·obtain ⟨i,hi⟩:=BZ hm
  have hl:i < b.b.length:=(AG.mp hi).1
  have hs:st[i]? = some (st[i]'(by rw [← S.len];exact hl)):=AJ _
  obtain ⟨a',o,h1,h2,h3⟩:=S.at_ i _ hs
  rw [hi] at h1;cases h1
  rw [h] at h2;cases h2
  cases hq:st[i]'(by rw [← S.len];exact hl) with
  |l xs=>rw [hq] at h3;obtain ⟨_,e,_⟩:=h3;cases e
  |d xs=>rw [hq] at h3;obtain ⟨_,e,_⟩:=h3;cases e
  |z xs=>rw [hq] at h3;obtain ⟨_,_,e,_⟩:=h3;cases e
  |k xs=>rw [hq] at h3;obtain ⟨_,e,_⟩:=h3;cases e
  |y xs=>rw [hq] at h3;obtain ⟨_,_,e,_⟩:=h3;cases e
  |n xs=>rw [hq] at h3;obtain ⟨_,e,_⟩:=h3;cases e
  |w xs=>rw [hq] at h3;obtain ⟨_,_,e,_⟩:=h3;cases e
  |o C xs=>rw [hq] at h3;obtain ⟨_,_,e,_⟩:=h3;cases e
 ·obtain ⟨ys,e⟩:=S.zo x hm
  rw [h] at e;cases e
def kp:L2.Key->PV
 | .inl i => .int i
 | .inr x => .str x
def JQ (k:List L2.Key):PV := .tup (k.map kp)
theorem jI {K:W.Frag} {H:Hp} {b:Bz}:∀ k:List L2.Key,RVs K H b (k.map kp) (k.map kV)
 |[]=>RVs.nil
 | .inl i::k=>RVs.cons (by show RV K H b (.int i) (.int i);unfold RV;rfl) (jI k)
 | .inr i::k=>RVs.cons (by show RV K H b (.str i) (.str i);unfold RV;rfl) (jI k)
theorem qDx {K:W.Frag} {H:Hp} {b:Bz} {st:qC} (S:SR K H b st) {x:Addr} {k:List L2.Key} (h:H x=some (.tup (k.map kV))):RV K H b (JQ k) (.ref x):=by
 unfold JQ RV
 exact ⟨x,_,rfl,.inl ⟨h,S.tup_out h⟩,jI k⟩
end
end EV
end
section
namespace EX
open PySem PySem.Spec PyProof.Rows L2
end EX
namespace EV
open PySem PySem.Spec PyProof.Rows L2 EX
end EV
end
section
namespace EX
open PySem PySem.Spec PyProof.Rows L2
end EX
namespace EV
open PySem PySem.Spec PyProof.Rows L2 EX
end EV
end
section
namespace EX
open PySem PySem.Spec PyProof.Rows L2
end EX
namespace EV
open PySem PySem.Spec PyProof.Rows L2 EX
end EV
end
section
namespace EX
open PySem PySem.Spec PyProof.Rows L2
end EX
namespace EV
open PySem PySem.Spec PyProof.Rows L2 EX
end EV
end
section
namespace EX
open PySem PySem.Spec PyProof.Rows L2
end EX
namespace EV
open PySem PySem.Spec PyProof.Rows L2 EX
end EV
end
section
namespace EX
open PySem PySem.Spec PyProof.Rows L2
end EX
namespace EV
open PySem PySem.Spec PyProof.Rows L2 EX
end EV
end
section
namespace ET
open PySem PySem.Spec PyProof.Rows L2 PySem.W
open EX
end ET
namespace EV
open PySem PySem.Spec PyProof.Rows L2 EX ET
end EV
end
section
namespace EJ
open PySem PySem.Spec PyProof.Rows L2 PySem.W EX ET
end EJ
namespace EV
open PySem PySem.Spec PyProof.Rows L2 EX ET EJ
end EV
end
section
namespace EX
open PySem PySem.Spec PyProof.Rows L2 PySem.W
end EX
namespace EX
open PySem PySem.Spec PyProof.Rows L2 PySem.W
end EX
namespace EV
open PySem PySem.Spec PyProof.Rows L2 EX
end EV
end
section
namespace EX
open PySem PySem.Spec PyProof.Rows L2 PySem.W
end EX
namespace EV
open PySem PySem.Spec PyProof.Rows L2 EX ET
end EV
end
section
namespace EX
open PySem PySem.Spec PyProof.Rows L2
end EX
namespace EV
open PySem PySem.Spec PyProof.Rows L2 EX
end EV
end
section
namespace EX
open PySem PySem.Spec PyProof.Rows L2 PySem.W
end EX
namespace EV
open PySem PySem.Spec PyProof.Rows L2 EX
end EV
end
section
namespace EX
open PySem PySem.Spec PyProof.Rows L2 PySem.W
end EX
namespace EV
open PySem PySem.Spec PyProof.Rows L2 EX
end EV
end
section
namespace EX
open PySem PySem.Spec PyProof.Rows L2
end EX
namespace EV
open PySem PySem.Spec PyProof.Rows L2 EX
end EV
end
section
namespace ET
open PySem PySem.Spec PyProof.Rows L2 PySem.W
open EX
end ET
namespace EV
open PySem PySem.Spec PyProof.Rows L2 EX ET
end EV
end
section
namespace EX
open PySem PySem.Spec PyProof.Rows L2
end EX
namespace EV
open PySem PySem.Spec PyProof.Rows L2 EX
end EV
end
section
namespace EX
open PySem PySem.Spec PyProof.Rows L2
end EX
namespace EV
open PySem PySem.Spec PyProof.Rows L2 EX
end EV
end
section
namespace ET
open PySem PySem.Spec PyProof.Rows L2 EX PySem.W
end ET
namespace EV
open PySem PySem.Spec PyProof.Rows L2 EX ET PySem.W
end EV
end
section
namespace EN
open PySem PySem.Spec PyProof.Rows L2
abbrev Kn:=List (List Key)
abbrev Kvs:=List (Kn×V)
abbrev Ens:=List (Kn×Addr×Value)
abbrev KN (H:Hp):Kvs->Ens->Prop:=Paired fun p q=>p.1=q.1∧NK H p.1 q.2.1∧RelV p.2 q.2.2
section
variable {P:Program} {w:World} {H H':Hp} {h:Heap} {a:Addr}
theorem JR (ok:HOk P w H h):∀ {ks:Kn} {bs:List Addr} {us:List Value},Paired (fun k b=>H b=some (.tup (k.map kV))) ks bs->Vals (bs.map V.ref) us->Rows (QP P w) h ks us
 |_,_,_,.nil,r=>by cases r;exact .z
 |_,_,_,.cons e t,r=>by
  rw [AN] at r
  cases r with
  |cons q r=>exact .c ⟨_,q,qEJ ok e⟩ (JR ok t r)
theorem zH {ks:Kn} (ok:HOk P w H h) (q:NK H ks a):(nestKind (QP P w)).is h ks a:=by
 obtain ⟨bs,e,r⟩:=q
 obtain ⟨_,its,v,⟨o,h1,h2,n,h3⟩,_⟩:=(show ObjOk P w H h a (.tup (bs.map V.ref)) from ok a _ e)
 exact ⟨o,its.toArray,n,h1,h2,h3,by simpa using JR ok r v⟩
theorem yo {kvs:Kvs} (ok:HOk P w H h) (e:Rd H a (.dN kvs)):kvs.length≤sizeLine∧(a==sysModules)=false ∧ ∃ xs,KN H kvs xs∧h.DictOfH (nestKind (QP P w)) a xs:=by
 obtain ⟨z,y,xs,r,o,es,ep,h1,h2,h3,h4,h5⟩:=(show ObjOk P w H h a (.dN kvs) from qA1 ok e)
 refine ⟨z,y,xs,r,o,es,ep,h1,h2,h3,h4,fun x hx => ?_,h5⟩
 have all:∀ {l:Kvs} {m:Ens},KN H l m -> ∀ x∈m,(nestKind (QP P w)).is h x.1 x.2.1:=by
  intro l m q
  induction q with
  |nil=>intro x hx;exact nomatch hx
  |cons hq t ih =>
   intro x hx
   rcases AL.mp hx with e |hx
   ·subst e
    exact zH ok (by rw [← hq.1];exact hq.2.1)
   ·exact ih x hx
 exact all r x hx
end
theorem Y2 {H:Hp} {kvs:Kvs} {xs:Ens} (r:KN H kvs xs) (k:Kn):RelO (Wo kvs k) ((atKey xs k).map (·.2)):=by
 induction r with
 |nil=>exact True.intro
 | @cons p q ps qs z t ih =>
  have z1:=z.1
  by_cases e:p.1=k
  ·rw [yw e,show atKey (q::qs) k=some q.2 by simp [atKey,A6,z1.symm.trans e]];exact z.2.2
  ·rw [Yr e,show atKey (q::qs) k=atKey qs k by simp [atKey,A6,show ¬ q.1=k from fun y=>e (z1.trans y)]];exact ih
theorem qCy {H:Hp} {kvs:Kvs} {xs:Ens} (r:KN H kvs xs) (k:Kn) {y:V} {u:Value} (ry:RelV y u):KN H (kvs.map fun kv=>if kv.1=k then (kv.1,y) else kv) (xs.map (putAt k u)):=by
 induction r with
 |nil=>exact .nil
 | @cons p q ps qs z t ih =>
  refine .cons (?_:_∧_) ih
  unfold putAt;dsimp only
  by_cases e:p.1=k
  ·rw [AH e,AH (z.1.symm.trans e)];exact ⟨z.1,z.2.1,ry⟩
  ·rw [AO e,AO (fun y=>e (z.1.trans y))];exact z
theorem qB8 {H:Hp} {kvs:Kvs} {xs:Ens} (r:KN H kvs xs) {k:Kn} {b:Addr} {y:V} {u:Value} (hb:NK H k b) (ry:RelV y u):KN H (ZJ kvs k y) (storedH xs k b u):=by
 have e:(kvs.any fun kv=>decide (kv.1=k))=(atKey xs k).isSome:=by rw [Yq,(Y2 r k).isSome_eq,Option.isSome_map]
 unfold ZJ storedH
 rw [e]
 split
 ·exact qCy r k ry
 ·exact Paired.snoc r ⟨rfl,hb,ry⟩
theorem yq {H H':Hp} {kvs:Kvs} {xs:Ens} (r:KN H kvs xs) (ht:∀ b ys,H b=some (.tup ys)->H' b=some (.tup ys)):KN H' kvs xs:=Paired.mapP r fun _ _ z=>⟨z.1,z.2.1.keeps ht,z.2.2⟩
section
variable {X:Cx} {pins:List (Addr×Obj)} {σ:L2.St} {H:Hp} {s:Shared} {a b:Addr} {v:V} {r:Value} {A:Around} {E:Value->Shared->Prop} {kvs:Kvs} {k:Kn}
theorem Ja {Q:Value->Shared->Prop} (hu:A.units + 3 < cLine) (I:Inv X pins σ H s) (e:Rd H a (.dN kvs)) (hk:NK H k b) (l:Wo kvs k=some v) (h:∀ w' s',Inv X pins σ H s'->RelV v w'->Q w' s'):wpAny (model X.prog X.w) A (getItem (.ref a) (.ref b)) Q E s:=by
 obtain ⟨_,_,xs,rel,dd⟩:=yo I.hok e
 obtain ⟨w',hw,rw'⟩:=RelO.some_of (v:=v) (o:=(atKey xs k).map (·.2)) (by rw [← l];exact Y2 rel k)
 obtain ⟨p,hp,hp2⟩:=Option.map_eq_some_iff.mp hw
 refine wpAny_getItem_heap (show A.units + 1 + 2 < cLine by omega) (zH I.hok hk) dd hp ?_
 rw [hp2]
 exact h w' _ (I.tok _) rw'
theorem Jx {Q:Unit->Shared->Prop} (hu:A.units + 3 < cLine) (I:Inv X pins σ H s) (e:H a=some (.dN kvs)) (hk:NK H k b) (rv:RelV v r) (hl:kvs.length < sizeLine) (h:∀ s',Inv X pins σ (upd H a (.dN (ZJ kvs k v))) s'->Q () s'):wpAny (model X.prog X.w) A (setItem (.ref a) (.ref b) r) Q E s:=by
 obtain ⟨z,hd,xs,rel,dd⟩:=yo I.hok (.inl e)
 have hz:xs.length≤sizeLine:=by rw [← Paired.length rel];omega
 have hq:(ZJ kvs k v).length≤sizeLine:=by have:=YY kvs k v;omega
 refine wpAny_setItem_heap (hsz:=hz) (show A.units + 1 + 2 < cLine by omega) (zH I.hok hk) dd fun h' dd' hs=>h _ ?_
 obtain ⟨q,es,ep,hq',h2,h3,h4,_,h5⟩:=dd'
 refine jk I (by rw [e];exact True.intro) hs ⟨q,hq'⟩ ⟨hq,hd,_,yq (qB8 rel hk rv) fun c ys ec => ?_,q,es,ep,hq',h2,h3,h4,h5⟩
 rw [qK (JN ec e (fun z=>nomatch z))]
 exact ec
theorem qF4 {Q:Value->Shared->Prop} (hu:A.units + 3 < cLine) (I:Inv X pins σ H s) (e:Rd H a (.dN kvs)) (hk:NK H k b) (rv:RelV v r) (h:∀ w' s',Inv X pins σ H s'->RelV ((Wo kvs k).getD v) w'->Q w' s'):wpAny (model X.prog X.w) A (call (.builtin "dict.get") [.ref a,.ref b,r]) Q E s:=by
 obtain ⟨_,hd,xs,rel,dd⟩:=yo I.hok e
 refine call_meetsIn PySem.F.slot_dict_get dd.typeIs PySem.F.entry_dict_get (PySem.F.args_dict_get_3 _ _ _) (meetsH_dict_get_default (nestKind (QP X.prog X.w)) a b hd r) ⟨show A.units + 1 + 2 < cLine by omega,k,xs,zH I.hok hk,dd,h _ _ (I.tok _) ?_⟩
 exact (Y2 rel k).getD rv
end
end EN
end
section
namespace EX
open PySem PySem.Spec PyProof.Rows L2 EN
theorem Z8 (args:Args):Builtin.«dict.__ne__» args=(do
  let (self,other) ← Builtin.Dict.dictSlotArgs "__ne__" args
  if !(← PySem.isInstance other (.type "dict")) then do
   rule (toString "dict." ++ toString "__ne__" ++ toString ".not-a-dict")
   ret Value.notImplemented
  else do
   let a ← Builtin.Dict.addrOf self
   let b ← Builtin.Dict.addrOf other
   let k ← Builtin.Dict.samePairs (toString "dict." ++ toString "__ne__") a b
   ret (Value.bool (k==false))):=rfl
theorem ZP:isSubtype (.type "dict") (.type "dict")=pure true:=by rfl
theorem ZX (a b:Addr) (es:Array DictEntry) (ep ep2:Nat) (sl sl2:Array (Option Value)) (ha:(a==sysModules)=false) (hb:(b==sysModules)=false) :
  Meets (Builtin.«dict.__ne__» ⟨[.ref a,.ref b],[]⟩) (fun _ R s=>s.heap.get? a=some { cls := .type "dict",dict:=none,data := .dict es ep,slots:=sl }∧s.heap.get? b=some { cls := .type "dict",dict:=none,data := .dict #[] ep2,slots:=sl2 }∧R (.ok (.ret (.bool (!es.isEmpty)))) s) :=
 .of_wp fun prog w A R s h=>by
  obtain ⟨h1,h2,h⟩:=h
  have t1:s.TypeIs (.ref a) "dict" := ⟨_,h1,rfl⟩
  have t2:s.TypeIs (.ref b) "dict" := ⟨_,h2,rfl⟩
  rw [Z8]
  unfold Builtin.Dict.dictSlotArgs
  refine AA (AA (wpAny_notOrdered_dict t1 ?_))
  refine AA (AB (AB ?_))
  refine AA (BB (T := "dict") (U := "dict") (b:=true) t2 ZP ?_)
  refine AA (AB (AA (AB (AA ?_))))
  unfold Builtin.Dict.samePairs Builtin.Dict.showsAll
  refine AA ?_
  rw [AO (by rw [ha];exact Ag)]
  refine AB (AA ?_)
  rw [AO (by rw [hb];exact Ag)]
  refine AB (AA (BU h1 rfl (AA (BU h2 rfl ?_))))
  by_cases he:es.size=0
  ·have e0:es = #[]:=Array.eq_empty_of_size_eq_zero he
   subst e0
   refine AA (wpAny_dictEpoch h1 rfl ?_)
   refine AA ?_
   rw [show ((#[]:Array DictEntry).size)=0 from rfl]
   simp only [Std.Legacy.Range.forIn_eq_forIn_range',Std.Legacy.Range.size]
   exact AB (AB (AB ⟨_,rfl,h⟩))
  ·have e0:es.isEmpty=false:=by rw [Array.isEmpty];simpa using he
   rw [e0] at h
   rw [AH (by simpa using he)]
   exact AA (BY (AB (AB ⟨_,rfl,h⟩)))
theorem Yb {P:Program} {w:World} {H:Hp} (h:Heap) (hb:sysModules < h.objs.size):ObjOk P w H (h.push { cls := .type "dict",data := .dict #[] }) h.objs.size (.dN []) :=
 ⟨A3 _,AC.mpr (Ne.symm (AZ hb)),[],.nil,_,#[],0,AU _ rfl,⟨rfl,rfl,rfl⟩,rfl,rfl,List.nodup_nil⟩
def qDy:TE:=fun _ H Q => ∀ p,H p=none->Q (.ref p) (upd H p (.dN []))
theorem qBJ {X:Cx} {pos:Pos}:PE X (.Dict [] [] pos) qDy:=fun pins s σ H Q I h =>
 wpAny_Dict_empty ⟨.ref s.heap.objs.size,_,I.laid (a:=s.heap.objs.size) (o := .dN []) (t':=s.toks) (fun _ _ q=>AE _ q) (AI _) (Yb s.heap I.big),rfl,h _ (I.hok.fresh (AI _))⟩
theorem qBn {X:Cx} {pins:List (Addr×Obj)} {σ:L2.St} {H:Hp} {s:Shared} {a:Addr} {kvs:Kvs} (I:L2.Inv X pins σ H s) (e:Rd H a (.dN kvs)) :
  s.TypeIs (.ref a) "dict" ∧ (∀ b,Value.ref a = .ref b -> ∃ ob,s.heap.get? b=some ob∧ob.dict=none)∧(a==sysModules)=false:=by
 obtain ⟨_,hd,xs,_,dd⟩:=yo I.hok e
 refine ⟨dd.typeIs,fun b q => ?_,hd⟩
 cases q
 obtain ⟨ob,_,_,h1,h2,_⟩:=dd
 exact ⟨ob,h1,h2.2.1⟩
structure FrzN (H:Hp) (a:Addr) (od:Obj) (es:Array DictEntry) (ep:Nat) (kvs:List (Kn×V)):Prop where
 at_:H a=some (.frz od (.dN kvs))
 dat:od.data = .dict es ep
def Itn (a:Addr) (od:Obj) (es:Array DictEntry) (ep:Nat) (kvs:List (Kn×V)):It :=
 ⟨fun i H=>FrzN H a od es ep kvs∧i < kvs.length,fun i H x H'=>H'=H ∧ ∃ b k v,kvs[i]? = some (k,v)∧x = .ref b∧NK H k b,fun i H=>FrzN H a od es ep kvs∧kvs.length≤i⟩
section
variable {P:Program} {w:World} {H:Hp} {h:Heap} {a:Addr} {od:Obj} {es:Array DictEntry} {ep:Nat} {kvs:List (Kn×V)}
theorem FrzN.raw (ok:HOk P w H h) (z:FrzN H a od es ep kvs):RawAt h a es ep∧es.size=kvs.length ∧
  ∀ (i:Nat) (k:Kn) (v:V),kvs[i]? = some (k,v) -> ∃ (e:DictEntry) (b:Addr) (u:Value),es[i]? = some e∧e.key = .ref b∧e.val=u∧NK H k b∧RelV v u:=by
 obtain ⟨e1,_,_,xs,r,o,es',ep',e2,ex,ed,el,_⟩:=(show ObjOk P w H h a (.frz od (.dN kvs)) from ok a _ z.at_)
 rw [e1] at e2;cases e2
 have q:=z.dat
 rw [ed] at q;cases q
 have hl:=r.length
 refine ⟨⟨od,e1,ex,ed⟩,?_,fun i k v hk => ?_⟩
 ·rw [← BF,el,AX];exact hl.symm
 ·obtain ⟨x,hx,p1,p2,p3⟩:=ZO r hk
  refine ⟨entryOfKey (nestKind (QP P w)) x,x.2.1,x.2.2,?_,rfl,rfl,p2,p3⟩
  rw [← Array.getElem?_toList,el,Ai,hx];rfl
end
section
variable {P:Program} {w:World} {K:W.Frag} {A:Around} {a it:Addr} {od:Obj} {es:Array DictEntry} {ep:Nat} {kvs:List (Kn×V)}
theorem Y7 {tg:Expr}:Turn P w K A tg (Itn a od es ep kvs) [it] it (fun i h=>h.IsKeyIter it a i es.size ep) where
 mem:=by simp
 obj:=fun i h st b hb=>by
  have e:b=it:=by simpa using hb
  subst e
  obtain ⟨o,e,c,d⟩:=st
  exact ⟨o,e,fun v z=>by rw [d] at z;cases z⟩
 keep:=fun i h h' ⟨o,e,r⟩ k=>⟨o,k it (by simp) o e,r⟩
 item:=by
  intro X hP hw hK _ i pins s σ H E I hf st hg
  subst hP hw hK
  obtain ⟨z,hi⟩:=hg
  obtain ⟨m,sz,get⟩:=z.raw I.hok
  obtain ⟨e,b,u,g1,g2,g3,g4,g5⟩:=get i _ _ (AJ hi)
  obtain ⟨f0,f1,f2,f3,f4,f5⟩:=hf it (by simp)
  refine qAt st m g1 fun h' st' sb => ?_
  have I1:L2.Inv X pins σ H { s with heap:=h' }:=I.turned (t':=s.toks) (fun b o hb e=>(sb.2 b hb).trans e) f0 f1 f3 f4 f5
  obtain ⟨o,e1,c,d⟩:=id st'
  exact ⟨e.key,rfl,JK (s:={ s with heap:=h' }) e1 c d (by decide) ⟨.ref b,H,I1,by rw [g2];rfl,⟨rfl,b,_,_,AJ hi,rfl,g4⟩,st',fun b hb=>(hf b hb).1⟩⟩
 done:=by
  intro X hP hw hK _ i pins s σ H E I hf st hg
  subst hP hw hK
  obtain ⟨z,hi⟩:=hg
  obtain ⟨m,sz,get⟩:=z.raw I.hok
  obtain ⟨f0,f1,f2,f3,f4,f5⟩:=hf it (by simp)
  exact qCn I.hndH (I.hndNe f0) st m (by omega) fun h' eb=>⟨rfl,I.turned (t':=s.toks) (fun b o hb e=>eb b o hb e) f0 f1 f3 f4 f5⟩
 self:=fun _ _ _ _ _ st h=>by
  refine wpAny_pyIter_slot st.typeIs F.slot_dict_keyiterator_iter (Ay F.slot_dict_keyiterator_iter st.typeIs F.entry_dict_keyiterator_iter ?_ (F.args_dict_keyiterator_iter_1 _))
  exact AA (AB (AB ⟨_,rfl,"dict_keyiterator",_,st.typeIs,F.slot_dict_keyiterator_next.lookup,h⟩))
end
section
variable {X:Cx} {pins:List (Addr×Obj)} {σ:L2.St} {H:Hp} {s:Shared} {a:Addr} {kvs:List (Kn×V)}
theorem qDB (I:L2.Inv X pins σ H s) (e:H a=some (.dN kvs)):∃ od es ep,od.data = .dict es ep∧L2.Inv X pins σ (upd H a (.frz od (.dN kvs))) s∧(a==sysModules)=false∧RawAt s.heap a es ep∧es.size=kvs.length:=by
 have ok:ObjOk X.prog X.w H s.heap a (.dN kvs):=I.hok a _ e
 obtain ⟨_,y,xs,r,o,es,ep,e1,ex,ed,el,nd⟩:=id ok
 have hl:=r.length
 refine ⟨o,es,ep,ed,?_,y,⟨o,e1,ex,ed⟩,by rw [← BF,el,AX];exact hl.symm⟩
 have:=I.write (x:=a) (e:=a) (o := .frz o (.dN kvs)) (h':=s.heap) (t':=s.toks) (by rw [e];exact True.intro) (.inl rfl) (fun b u _ q=>q) ⟨_,e1⟩ ⟨e1,ok.stay (fun b u _ q=>q) (fun b q=>by rw [qK (JN q e (by nofun))];exact q) fun b xs q=>by rw [qK (JN q e (by nofun))];exact q⟩
 exact this
theorem JF {od:Obj} (I:L2.Inv X pins σ H s) (e:H a=some (.frz od (.dN kvs))) (h0:∀ o u,X.H₀ a≠some (.frz o u)) (hh:∀ v,X.A.handled=some v->v ≠ .ref a):L2.Inv X pins σ (upd H a (.dN kvs)) s:=by
 have ok:=(show ObjOk X.prog X.w H s.heap a (.frz od (.dN kvs)) from I.hok a _ e).2
 have ne:∀ b,H b=none->b≠a:=fun b n z=>by rw [z,e] at n;cases n
 have nt:∀ b u,H b=some u->(∀ o v,u ≠ .frz o v)->b≠a:=fun b u q n z=>by rw [z,e] at q;cases q;exact n _ _ rfl
 have nn:∀ b,H b=none->upd H a (.dN kvs) b=none:=fun b n=>by rw [qK (ne b n)];exact n
 have bs:=I.base
 refine ⟨I.ok,I.os,I.bare,⟨bs.keep,bs.slot,fun b o q n x=>nn b (bs.free b o q n x),bs.there,fun b xs q => ?_,fun b o u q => ?_,fun b ps q => ?_⟩,I.loc,I.cell,nn _ I.free,fun x c q=>nn _ (I.freeC x c q),fun p hp => ?_,fun b u q => ?_,I.len,fun v hv => ?_⟩
 ·have z:=bs.tups b xs q
  rw [qK (nt b _ z fun _ _ h=>nomatch h)];exact z
 ·have z:=bs.frzs b o u q
  rw [qK (fun y=>by rw [y] at q;exact h0 o u q)];exact z
 ·obtain ⟨more,z⟩:=bs.tbls b ps q
  exact ⟨more,by rw [qK (nt b _ z fun _ _ h=>nomatch h)];exact z⟩
 ·obtain ⟨z1,z2,z3,z4,z5⟩:=I.pin p hp
  exact ⟨z1,nn _ z2,z3,z4,z5⟩
 ·by_cases z:b=a
  ·subst z
   rw [qb] at q;cases q
   exact ok.stay (fun c v _ q=>q) (fun c q=>by rw [qK (nt c _ q fun _ _ h=>nomatch h)];exact q) fun c xs q=>by rw [qK (nt c _ q fun _ _ h=>nomatch h)];exact q
  ·rw [qK z] at q
   exact (I.hok b u q).stay (fun c v _ q=>q) (fun c q=>by rw [qK (nt c _ q fun _ _ h=>nomatch h)];exact q) fun c xs q=>by rw [qK (nt c _ q fun _ _ h=>nomatch h)];exact q
 ·obtain ⟨ea,oe,u,vs,z1,z2,z3⟩:=I.hnd v hv
  exact ⟨ea,oe,u,vs,z1,by rw [qK (fun y=>hh v hv (by rw [z1,y]))];exact z2,z3⟩
end
section
variable {X:Cx} {tg:Expr}
theorem qFI {pins:List (Addr×Obj)} {σ:L2.St} {H:Hp} {s:Shared} {a:Addr} {kvs:List (Kn×V)} (I:L2.Inv X pins σ H s) (e:H a=some (.dN kvs)):NF X a:=by
 refine ⟨fun o u z => ?_,fun v hv z => ?_⟩
 ·have:=I.base.frzs a o u z
  rw [e] at this;cases this
 ·obtain ⟨ea,oe,u,vs,z1,z2,_⟩:=I.hnd v hv
  rw [z] at z1;cases z1
  rw [e] at z2;cases z2
def qEb (X:Cx) (tl:TE):L2.TI:=fun σ H R=>tl σ H fun x H1 => ∃ a kvs,x = .ref a∧H1 a=some (.dN kvs) ∧ ∀ od es ep,od.data = .dict es ep->NF X a->R (Itn a od es ep kvs) (upd H1 a (.frz od (.dN kvs)))
theorem qAu {l:Expr} {tl:TE} (hl:PE X l tl):PI X tg l (qEb X tl):=by
 intro pins s σ H R I h
 refine thn (hl pins s σ H _ I h) fun v s1 ⟨x,H1,I1,r1,a,kvs,ex,e,q⟩ => ?_
 subst ex
 cases r1
 obtain ⟨od,es,ep,hd,I2,hs,m,sz⟩:=qDB I1 e
 refine qBc hs m ?_
 have hf:upd H1 a (.frz od (.dN kvs)) s1.heap.objs.size=none:=I2.hok.fresh (AI _)
 refine ⟨s1.heap.objs.size,[s1.heap.objs.size],_,_,_,rfl,I2.kept (t':=s1.toks) fun b o e=>AE _ e,Y7,⟨_,AU _ rfl,rfl,rfl⟩,fun b hb => ?_,q od es ep hd (qFI I1 e)⟩
 have e:b=s1.heap.objs.size:=by simpa using hb
 subst e
 exact I2.fpOk (AI _) hf
def qFe (X:Cx) (D:Ends):Ends:={ nx:=fun σ H => ∃ a od kvs,H a=some (.frz od (.dN kvs))∧NF X a∧D.nx σ (upd H a (.dN kvs)),rt:=fun v H => ∃ a od kvs,H a=some (.frz od (.dN kvs))∧NF X a∧D.rt v (upd H a (.dN kvs)),bk:=fun _ _=>False,ct:=fun _ _=>False }
theorem qBH {st:Stmt} {t:TS} (h:PS X st t):PS X st (fun D=>t (qFe X D)):=by
 intro pins s σ H D I q
 refine thn (h pins s σ H _ I q) fun f s1 z => ?_
 cases f with
 |next=>obtain ⟨σ',H',I',a,od,kvs,e,nf,q⟩:=z;exact ⟨σ',_,JF I' e nf.1 nf.2,q⟩
 |ret u=>obtain ⟨v,σ',H',I',r',a,od,kvs,e,nf,q⟩:=z;exact ⟨v,σ',_,JF I' e nf.1 nf.2,r',q⟩
 |brk=>obtain ⟨_,_,_,q⟩:=z;exact q.elim
 |cont=>obtain ⟨_,_,_,q⟩:=z;exact q.elim
end
section
variable {X:Cx} {k v:Expr} {tk tv:TE} {pos:Pos}
def qEn (tk tv:TE):TE:=fun σ H Q => ∀ p,H p=none->tk σ (upd H p (.dN [])) fun x H1=>tv σ H1 fun y H2=>H2 p=some (.dN []) ∧ ∃ b k,x = .ref b∧NK H2 k b∧Q (.ref p) (upd H2 p (.dN [(k,y)]))
theorem qBx (hu:X.A.units + 3 < cLine) (hk:PE X k tk) (hv:PE X v tv):PE X (.Dict [some k] [v] pos) (qEn tk tv):=by
 intro pins s σ H Q I q
 have hn:=I.hok.fresh (AI s.heap.objs.size)
 have I1:=I.laid (a:=s.heap.objs.size) (o := .dN []) (h':=s.heap.push { cls := .type "dict",data := .dict #[] }) (t':=s.toks) (fun _ _ q=>AE _ q) (AI _) (Yb s.heap I.big)
 have hp:PPs X pos [some k] [v] [(tk,tv)]:=qBz hk hv qC7
 rw [arm_eval_Dict,zip_pairTrees [some k] [v] X.env pos rfl rfl,dictDisplay_pairs _ (by simp [pairTrees]) (by simp [pairTrees])]
 refine AA (BR (AA ?_))
 unfold subDict
 refine AA (wpAny_alloc ?_)
 refine AA (At ?_)
 rw [AH (show (pairTrees [some k] [v] X.env pos).length≤15 by simp [pairTrees])]
 refine AA (thn (hp pins _ σ _ (fun ps H2=>match ps with
  |[(x,y)]=>H2 s.heap.objs.size=some (.dN []) ∧ ∃ b k,x = .ref b∧NK H2 k b∧Q (.ref s.heap.objs.size) (upd H2 s.heap.objs.size (.dN [(k,y)]))
  |_=>False) I1 (q _ hn)) fun ws s2 ⟨ps,H2,I2,rel,q1⟩ => ?_)
 cases rel with
 |nil=>exact q1.elim
 | @cons p u ps us r t =>
  cases t with
  |cons _ _=>exact q1.elim
  |nil =>
   obtain ⟨x,y⟩:=p
   obtain ⟨u,w⟩:=u
   obtain ⟨e,b,kk,ex,eb,q2⟩:=q1
   have ex:x=_:=ex
   subst ex
   obtain ⟨r1,r2⟩:=r
   cases (show u=Value.ref b from r1)
   refine At ?_
   obtain ⟨z,hd,xs,rel,dd⟩:=yo I2.hok (.inl e)
   cases rel
   refine AA ?_
   rw [List.forIn_cons]
   refine AA (AA (wpAny_dictSet_heap (show X.A.units + 2 < cLine by omega) (zH I2.hok eb) dd fun h' dd' hs=>AB ?_))
   show wpAny _ _ (forIn ([]:List (Value×Value)) PUnit.unit _) _ _ _
   rw [List.forIn_nil]
   refine AB (AB (AB (AB ⟨.ref s.heap.objs.size,_,?_,rfl,q2⟩)))
   obtain ⟨q,es,ep,hq,h2,h3,h4,_,h5⟩:=dd'
   refine jk I2 (by rw [e];exact True.intro) hs ⟨q,hq⟩ ⟨(show 1≤sizeLine by decide),hd,_,yq (qB8 (kvs:=[]) .nil eb r2) fun c ys ec => ?_,q,es,ep,hq,h2,h3,h4,h5⟩
   rw [qK (JN ec e (fun z=>nomatch z))]
   exact ec
end
def qGI (H:Hp) (a:Addr) (y:V) (r:Option V):Prop := ∃ kvs k b,Rd H a (.dN kvs)∧y = .ref b∧NK H k b∧r=Wo kvs k
def qFZ (td ty:TE):TE:=fun σ H Q=>td σ H fun x H1=>ty σ H1 fun y H2 => ∃ a v,x = .ref a∧qGI H2 a y (some v)∧Q v H2
def qED (td ty tx:TE):TE:=fun σ H Q=>td σ H fun x H1 => ∃ a kvs,x = .ref a∧Rd H1 a (.dN kvs)∧ty σ H1 fun y H2=>tx σ H2 fun z H3 => ∃ o,qGI H3 a y o∧Q (o.getD z) H3
def qGB (td ty tv:TE):TS:=fun D σ H=>tv σ H fun v H1=>td σ H1 fun x H2=>ty σ H2 fun y H3 => ∃ a kvs k b,x = .ref a∧H3 a=some (.dN kvs)∧y = .ref b∧NK H3 k b∧kvs.length < sizeLine∧D.nx σ (upd H3 a (.dN (ZJ kvs k v)))
section
variable {X:Cx} {o i e f value:Expr} {pos pos' tpos apos cpos:Pos} {td ty tv tx:TE}
theorem qDL (hu:X.A.units + 3 < cLine) (ho:PE X o td) (hi:PE X i ty) (hs:qEc i):PE X (.Subscript o i pos) (qFZ td ty):=by
 intro pins s σ H Q I h
 refine qCz PySem.F.slot_dict_getitem.lookup hs (thn (ho pins s σ H _ I h) fun u s1 ⟨x,H1,I1,rx,q1⟩=>thn (hi pins s1 σ H1 _ I1 q1) fun iv s2 ⟨y,H2,I2,ry,a,v,ex,⟨kvs,k,b,g1,g2,g3,g4⟩,q2⟩ => ?_)
 subst ex g2
 obtain rfl:u=Value.ref a:=rx
 obtain rfl:iv=Value.ref b:=ry
 exact ⟨(qBn I2 g1).1,Ja hu I2 g1 g3 g4.symm fun w' s3 I3 rw'=>⟨v,H2,I3,rw',q2⟩⟩
theorem qAU (hu:X.A.units + 3 < cLine) (ho:PE X o td) (he:PE X e ty) (hf:PE X f tx) (m:M2 X o "get" apos e f cpos):PE X (.Call (.Attribute o "get" apos) [e,f] [] cpos) (qED td ty tx):=by
 intro pins s σ H Q I h
 refine wpAny_Call_method m.base m.few m.line PySem.F.plainAttrs_dict PySem.F.slot_dict_get PySem.F.type_dict_get (thn (ho pins s σ H _ I h) fun u s1 ⟨x,H1,I1,rx,a,kv0,ex,d,q1⟩ => ?_)
 subst ex
 obtain rfl:u=Value.ref a:=rx
 obtain ⟨t1,t2,_⟩:=qBn I1 d
 refine ⟨t1,t2,?_⟩
 rw [m.trees]
 refine Calls.callWith_builtin rfl (Calls.evalArgs_plain (Calls.spliced_cons (thn (he pins s1 σ H1 _ I1 q1) fun iv s2 ⟨y,H2,I2,ry,q2⟩ =>
  Calls.spliced_cons (thn (hf pins s2 σ H2 _ I2 q2) fun fv s3 ⟨z,H3,I3,rz,ov,⟨kvs,k,b,g1,g2,g3,g4⟩,q3⟩=>Calls.spliced_nil ?_))))
 subst g2 g4
 obtain rfl:iv=Value.ref b:=ry
 exact qF4 hu I3 g1 g3 rz fun w' s4 I4 rw'=>⟨_,H3,I4,rw',q3⟩
theorem qCY (hu:X.A.units + 3 < cLine) (ho:PE X o td) (hi:PE X i ty) (hv:PE X value tv) (hs:swapsWith value (some (.Subscript o i pos')) pos.line X.env=pure false) :
  PS X (.Assign [.Subscript o i pos'] value pos) (qGB td ty tv):=by
 intro pins s σ H D I h
 refine wpAny_Assign_Subscript (thn (hv pins s σ H _ I h) fun r s1 ⟨v,H1,I1,rv,q1⟩=>thn (ho pins s1 σ H1 _ I1 q1) fun u s2 ⟨x,H2,I2,rx,q2⟩=>thn (hi pins s2 σ H2 _ I2 q2) fun iv s3 ⟨y,H3,I3,ry,a,kvs,k,b,ex,g1,g2,g3,g4,q3⟩ => ?_) hs
 subst ex g2
 obtain rfl:u=Value.ref a:=rx
 obtain rfl:iv=Value.ref b:=ry
 exact Jx hu I3 g1 g3 rv g4 fun s4 I4=>⟨σ,_,I4,q3⟩
def qFy:R2:=fun x y H Q => ∃ a b kvs,x = .ref a∧y = .ref b∧Rd H a (.dN kvs)∧Rd H b (.dN [])∧Q (.bl (!kvs.isEmpty)) H
theorem qFC (hu:X.A.units + 64 < cLine):OpR X (compareOp .NotEq) qFy:=by
 intro pins s σ H x y v u Q I rx ry h
 obtain ⟨a,b,kvs,rfl,rfl,h1,h2,q⟩:=h
 obtain rfl:v=Value.ref a:=rx
 obtain rfl:u=Value.ref b:=ry
 obtain ⟨z1,y1,xs,r1,⟨c1,d1,t1,l1⟩,es,ep,e1,⟨x1,x2,x3⟩,ed,el,_⟩:=(show ObjOk X.prog X.w H s.heap a (.dN kvs) from qA1 I.hok h1)
 obtain ⟨z2,y2,xs',r2,⟨c2,d2,t2,l2⟩,es2,ep2,e2,⟨w1,w2,w3⟩,ed2,el2,_⟩:=(show ObjOk X.prog X.w H s.heap b (.dN []) from qA1 I.hok h2)
 have x1:c1=_:=x1
 have x2:d1=_:=x2
 have ed:t1=_:=ed
 have w1:c2=_:=w1
 have w2:d2=_:=w2
 have ed2:t2=_:=ed2
 subst x1 x2 ed w1 w2 ed2
 have hl:=r1.length
 cases r2
 have n2:es2 = #[]:=by cases es2;simpa using el2
 subst n2
 have n1:es.isEmpty=kvs.isEmpty:=by
  have:es.size=kvs.length:=by rw [← BF,el,AX];exact hl.symm
  rw [Bool.eq_iff_iff]
  simp only [Array.isEmpty,List.isEmpty_iff,decide_eq_true_eq]
  rw [this];exact As
 refine richCompare_meets_room (op := .NotEq) ⟨_,e1,rfl⟩ ⟨_,e2,rfl⟩ PySem.F.slot_dict_ne PySem.F.entry_dict_ne (PySem.F.args_dict_ne_2 _ _) (ZX a b es ep ep2 l1 l2 y1 y2) ⟨e1,e2,show Value.bool (!es.isEmpty)≠Value.notImplemented∧EP X pins σ Q (.bool (!es.isEmpty)) s from ⟨(fun z=>nomatch z),by rw [n1];exact ⟨.bl (!kvs.isEmpty),H,I,rfl,q⟩⟩⟩ (by omega)
end
end EX
end
section
namespace EV
open PySem PySem.Spec PyProof.Rows L2 EX
def ZF:PV->Option (List (List L2.Key))
 | .tup l=>WZ YG l
 |_=>none
section
variable {X:Cx} {E:XK} {e a c d o:Expr} {es:List Expr} {f fa fb fc fd fk fx:FE} {pos:Pos} {F G:FS}
theorem Yj {K:W.Frag} {H:Hp} {b:Bz}:∀ {l:List PV} {xs:List V} {ks:List (List L2.Key)},RVs K H b l xs->WZ YG l=some ks -> ∃ bs:List Addr,xs=bs.map V.ref∧Paired (fun k c=>H c=some (.tup (k.map kV))) ks bs
 |[],xs,ks,r,h=>by
  unfold RVs at r
  cases h;subst r
  exact ⟨[],rfl,.nil⟩
 |p::l,xs,ks,r,h=>by
  unfold RVs at r
  obtain ⟨x,ys,rfl,h2,h3⟩:=r
  unfold WZ at h
  split at h
  ·rename_i k hk
   split at h
   ·rename_i q hq
    cases h
    obtain ⟨c,rfl,hc⟩:=qEp (qAl K) h2 hk
    obtain ⟨bs,rfl,hb⟩:=Yj h3 hq
    exact ⟨c::bs,rfl,.cons hc hb⟩
   ·cases h
  ·cases h
theorem zj {K:W.Frag} {H:Hp} {b:Bz} {p:PV} {v:V} {k:List (List L2.Key)} (r:RV K H b p v) (h:ZF p=some k):∃ a,v = .ref a∧NK H k a:=by
 unfold ZF at h
 split at h
 ·rename_i l
  unfold RV at r
  obtain ⟨a,xs,rfl,h2,h3⟩:=r
  obtain ⟨bs,rfl,hb⟩:=Yj h3 h
  rcases h2 with q |q
  ·exact ⟨a,rfl,bs,q.1,hb⟩
  ·exact q.2.elim
 ·cases h
def ZZ:FE:=fun _ st => .ok (.ref st.length) (st++[.n []])
theorem jp:VE X E (.Dict [] [] pos) ZZ:=PE.imp qBJ fun s H Q ⟨b,r,st,S,R,P⟩ p hp =>
 P (.ref p) _ ⟨b.b++[p],b.z⟩ (Ext.newS hp) (S.newS (x := .n []) hp ⟨[],rfl,rfl,RVs.nil⟩) (qCu S)
def nAt (st:qC) (i:Nat):Option (List (List (List L2.Key)×PV)):=match st[i]? with
 |some (.n kvs)=>some kvs
 |some (.w kvs)=>some kvs
 |_=>none
theorem ZB {K:W.Frag} {H:Hp} {b:Bz} {st:qC} {i:Nat} {a:Addr} {kvs:List (List (List L2.Key)×PV)} (S:SR K H b st) (ha:b.b[i]? = some a) (h:nAt st i=some kvs):∃ vs,Rd H a (.dN vs)∧kvs.map (·.1)=vs.map (·.1)∧RVs K H b (kvs.map (·.2)) (vs.map (·.2)):=by
 unfold nAt at h
 split at h
 ·rename_i q e
  cases h
  obtain ⟨a',o,h1,h2,vs,rfl,h3,h4⟩:=S.at_ i _ e
  rw [ha] at h1;cases h1
  exact ⟨vs,.inl h2,h3,h4⟩
 ·rename_i q e
  cases h
  obtain ⟨a',o,h1,h2,od,vs,rfl,h3,h4⟩:=S.at_ i _ e
  rw [ha] at h1;cases h1
  exact ⟨vs,.inr ⟨od,h2⟩,h3,h4⟩
 ·cases h
def Wh:PV->PV->qC->Rs PV:=fun p q st=>match p with
 | .ref i=>match ZF q,nAt st i with
  |some k,some kvs=>match zN kvs k with
   |some v => .ok v st
   |none => .no
  |_,_ => .no
 |_ => .no
theorem jQ (hu:X.A.units + 3 < cLine) (ho:VE X E o fd) (hi:VE X E c fk) (hs:qEc c:=by exact fun _ _=>rfl):VE X E (.Subscript o c pos) (qH Wh fd fk) :=
 PE.imp (qDL hu ho hi hs) fun s H Q ⟨b,r,st,S,R,P⟩=>⟨b,r,st,S,R,PostE.bind P fun p s1 u H1 b1 e1 S1 r1 P1=>⟨b1,r,s1,S1,R.ext e1,PostE.bind P1 fun q s2 w H2 b2 e2 S2 r2 P2=>by
  unfold Wh at P2
  split at P2
  ·rename_i i
   split at P2
   ·rename_i k kvs hk hd
    have r1':=RV.ext e2 _ r1
    unfold RV at r1'
    obtain ⟨x,rfl,hx⟩:=r1'
    obtain ⟨y,rfl,hy⟩:=zj r2 hk
    obtain ⟨vs,g1,g2,g3⟩:=ZB S2 hx hd
    rcases yM (k:=k) g2 g3 with ⟨p,v,v1,v2,v3⟩ |⟨v1,_⟩
    ·rw [v1] at P2
     exact ⟨x,v,rfl,⟨vs,k,y,g1,rfl,hy,v2.symm⟩,PostE.here P2 S2 v3⟩
    ·rw [v1] at P2;exact P2.elim
   ·exact P2.elim
  ·exact P2.elim⟩⟩
def WP (fd fk fx:FE):FE:=fun r st=>(fd r st).bind fun o s1=>match o with
 | .ref i=>match nAt s1 i with
  |some _=>(fk r s1).bind fun q s2=>(fx r s2).bind fun z s3=>match ZF q,nAt s3 i with
   |some k,some kvs => .ok ((zN kvs k).getD z) s3
   |_,_ => .no
  |none => .no
 |_ => .no
theorem Yi {apos cpos:Pos} (hu:X.A.units + 3 < cLine) (ho:VE X E o fd) (he:VE X E e fk) (hf:VE X E d fx) (hbase:attributeBase o "get" X.env (eval o X.env)=eval o X.env:=by rfl)
  (hfew:((backTo cpos (starEach [e,d] X.env)).all (fun x => !x.1)&&(backToKw cpos (keywordEach [] X.env)).all (fun x=>x.1.isSome)&&decide ([e,d].length + ([]:List Keyword).length + (if ([]:List Keyword).isEmpty then 0 else 1) < 30))=true:=by rfl)
  (hline:(apos.endLine==cpos.line)=true:=by rfl) (ht:backTo cpos (starEach [e,d] X.env)=[(false,eval e X.env),(false,eval d X.env)]:=by rfl) :
  VE X E (.Call (.Attribute o "get" apos) [e,d] [] cpos) (WP fd fk fx) :=
 PE.imp (qAU hu ho he hf ⟨hbase,hfew,hline,ht⟩) fun s H Q ⟨b,r,st,S,R,P⟩=>⟨b,r,st,S,R,PostE.bind P fun p s1 u H1 b1 e1 S1 r1 P1=>by
  split at P1
  ·rename_i i
   split at P1
   ·rename_i kv0 hd0
    unfold RV at r1
    obtain ⟨x,rfl,hx⟩:=r1
    obtain ⟨vs0,g0,_,_⟩:=ZB S1 hx hd0
    refine ⟨x,vs0,rfl,g0,b1,r,s1,S1,R.ext e1,PostE.bind P1 fun q s2 w H2 b2 e2 S2 r2 P2=>⟨b2,r,s2,S2,(R.ext e1).ext e2,PostE.bind P2 fun z s3 y H3 b3 e3 S3 r3 P3 => ?_⟩⟩
    split at P3
    ·rename_i k kvs hk hd
     obtain ⟨c1,rfl,hy⟩:=zj (RV.ext e3 _ r2) hk
     obtain ⟨vs,g1,g2,g3⟩:=ZB S3 (e3.ix (e2.ix hx)) hd
     refine ⟨Wo vs k,⟨vs,k,c1,g1,rfl,hy,rfl⟩,?_⟩
     rcases yM (k:=k) g2 g3 with ⟨p,v,v1,v2,v3⟩ |⟨v1,v2⟩
     ·rw [v1] at P3;rw [v2];exact PostE.here P3 S3 v3
     ·rw [v1] at P3;rw [v2];exact PostE.here P3 S3 r3
    ·exact P3.elim
   ·exact P1.elim
  ·exact P1.elim⟩
def wc (fd fk f:FE):FS:=fun r st=>(f r st).bindS fun p s1=>(fd r s1).bindS fun o s2=>(fk r s2).bindS fun q s3=>match o with
 | .ref i=>match ZF q,s3[i]? with
  |some k,some (.n kvs)=>if kvs.length < sizeLine then .nx r (s3.set i (.n (zO kvs k p))) else .no
  |_,_ => .no
 |_ => .no
theorem JP {tpos:Pos} (hu:X.A.units + 3 < cLine) (ho:VE X E o fd) (hi:VE X E c fk) (h:VE X E e f) (hs:swapsWith e (some (.Subscript o c tpos)) pos.line X.env=pure false:=by rfl) :
  VS X E (.Assign [.Subscript o c tpos] e pos) (wc fd fk f) :=
 PS.imp (qCY hu ho hi h hs) fun D s H ⟨b,r,st,S,R,P⟩=>⟨b,r,st,S,R,PostE.bindS P fun p s1 u H1 b1 e1 S1 r1 P1 =>
  ⟨b1,r,s1,S1,R.ext e1,PostE.bindS P1 fun o s2 w H2 b2 e2 S2 r2 P2=>⟨b2,r,s2,S2,(R.ext e1).ext e2,PostE.bindS P2 fun q s3 y H3 b3 e3 S3 r3 P3=>by
   split at P3
   ·rename_i i
    split at P3
    ·rename_i k kvs hk hd
     split at P3
     ·rename_i hl
      have r2':=RV.ext e3 _ r2
      unfold RV at r2'
      obtain ⟨x,rfl,hx⟩:=r2'
      obtain ⟨c1,rfl,hy⟩:=zj r3 hk
      obtain ⟨a',o',g1,g2,vs,rfl,g3,g4⟩:=S3.at_ i _ hd
      rw [hx] at g1;cases g1
      have hlen:kvs.length=vs.length:=by have:=Bm List.length g3;simpa using this
      have hm:x∈b3.b:=Am hx
      have ew:Ext H3 b3 (upd H3 x (.dN (ZJ vs k u))) b3:=Ext.wr hm S3.zb (nfz g2 fun _ _ z=>nomatch z)
      refine ⟨x,vs,k,c1,rfl,g2,rfl,hy,by rw [← hlen];exact hl,?_⟩
      obtain ⟨q1,q2⟩:=qCB (k:=k) (RV.ext ew _ (RV.ext e3 _ (RV.ext e2 _ r1))) g3 (RVs.ext ew _ g4)
      exact P3 s _ b3 ew (S3.wr (x := .n (zO kvs k p)) hx ⟨_,rfl,q1,q2⟩) ((((R.ext e1).ext e2).ext e3).ext ew)
     ·exact P3.elim
    ·exact P3.elim
   ·exact P3.elim⟩⟩⟩
def zf (fk fv:FE):FE:=fun r st=>(fk r (st++[.n []])).bind fun q s1=>(fv r s1).bind fun p s2=>match ZF q,s2[st.length]? with
 |some k,some (.n []) => .ok (.ref st.length) (s2.set st.length (.n [(k,p)]))
 |_,_ => .no
theorem J6 (hu:X.A.units + 3 < cLine) (hk:VE X E c fk) (hv:VE X E e f):VE X E (.Dict [some c] [e] pos) (zf fk f) :=
 PE.imp (qBx hu hk hv) fun s H Q ⟨b,r,st,S,R,P⟩ p hp=>by
  have e0:Ext H b (upd H p (.dN [])) ⟨b.b++[p],b.z⟩:=Ext.newS hp
  have S0:=S.newS (x := .n []) (o := .dN []) hp ⟨[],rfl,rfl,RVs.nil⟩
  have P:=PostE.ext P e0
  refine ⟨_,r,_,S0,R.ext e0,PostE.bind P fun q s1 w H1 b1 e1 S1 r1 P1=>⟨b1,r,s1,S1,(R.ext e0).ext e1,PostE.bind P1 fun z s2 y H2 b2 e2 S2 r2 P2 => ?_⟩⟩
  have hx:b2.b[st.length]? = some p:=e2.ix (e1.ix (by show (b.b++[p])[st.length]? = some p;rw [← S.len];simp))
  split at P2
  ·rename_i k hk hd
   obtain ⟨c1,rfl,hy⟩:=zj (RV.ext e2 _ r1) hk
   obtain ⟨a',o',g1,g2,vs,rfl,g3,g4⟩:=S2.at_ st.length _ hd
   rw [hx] at g1;cases g1
   have:vs=[]:=by cases vs with
    |nil=>rfl
    |cons _ _=>cases g3
   subst this
   have hm:p∈b2.b:=Am hx
   have ew:Ext H2 b2 (upd H2 p (.dN [(k,y)])) b2:=Ext.wr hm S2.zb (nfz g2 fun _ _ z=>nomatch z)
   refine ⟨g2,c1,k,rfl,hy,?_⟩
   exact P2 (.ref p) _ b2 ew (S2.wr (x := .n [(k,z)]) hx ⟨_,rfl,rfl,RVs.cons (RV.ext ew _ r2) RVs.nil⟩) (by unfold RV;exact ⟨p,rfl,hx⟩)
  ·exact P2.elim
def Y9:PV->PV->qC->Rs PV:=fun p q st=>match p,q with
 | .ref i,.ref j=>match nAt st i,nAt st j with
  |some kvs,some [] => .ok (.bl (!kvs.isEmpty)) st
  |_,_ => .no
 |_,_ => .no
theorem qEU:OpG X E qFy Y9:=fun H b st p q u v Q S rp rq P=>by
 unfold Y9 at P
 split at P
 ·rename_i i j
  split at P
  ·rename_i kvs h1 h2
   unfold RV at rp rq
   obtain ⟨x,rfl,hx⟩:=rp
   obtain ⟨y,rfl,hy⟩:=rq
   obtain ⟨vs,g1,g2,g3⟩:=ZB S hx h1
   obtain ⟨ws,k1,k2,k3⟩:=ZB S hy h2
   have e0:ws=[]:=by cases ws with
    |nil=>rfl
    |cons _ _=>cases k2
   subst e0
   refine ⟨x,y,vs,rfl,rfl,g1,k1,?_⟩
   have e1:kvs.isEmpty=vs.isEmpty:=by cases kvs <;> cases vs <;> first |rfl |(simp at g2)
   rw [← e1]
   exact PostE.here P S WL
  ·exact P.elim
 ·exact P.elim
def Zi (k:List (List L2.Key)):PV := .tup (k.map JQ)
theorem jj {K:W.Frag} {H:Hp} {b:Bz} {st:qC} (S:SR K H b st):∀ {k:List (List L2.Key)} {bs:List Addr},Paired (fun k c=>H c=some (.tup (k.map kV))) k bs->RVs K H b (k.map JQ) (bs.map V.ref)
 |_,_,.nil=>RVs.nil
 |_,_,.cons h t=>RVs.cons (qDx S h) (jj S t)
theorem qDH {K:W.Frag} {H:Hp} {b:Bz} {st:qC} (S:SR K H b st) {x:Addr} {k:List (List L2.Key)} (h:NK H k x):RV K H b (Zi k) (.ref x):=by
 obtain ⟨bs,h1,h2⟩:=h
 unfold Zi RV
 exact ⟨x,_,rfl,.inl ⟨h1,S.tup_out h1⟩,jj S h2⟩
def qDR (i:Nat) (kvs:List (List (List L2.Key)×PV)):RS->RS
 | .nx r st => .nx r (st.set i (.n kvs))
 | .rt v st => .rt v (st.set i (.n kvs))
 |_ => .no
def YD (it:Bool) (kv:List (List L2.Key)×PV):PV:=match it with
 |true => .tup [Zi kv.1,kv.2]
 |false=>Zi kv.1
noncomputable def zF (it:Bool) (fo:FE) (g:FG) (F:FS):FS:=fun r st=>(fo r st).bindS fun o s=>match o with
 | .ref i=>match s[i]? with
  |some (.n kvs)=>qDR i kvs (QA (fun _=>True) g F (kvs.map (YD it)) r (s.set i (.w kvs)))
  |_ => .no
 |_ => .no
theorem Zu {H1 H':Hp} {b1 b':Bz} {x:Addr} {od:Obj} {vs:List (List (List L2.Key)×V)} (e:Ext (upd H1 x (.frz od (.dN vs))) b1 H' b') (h:H1 x=some (.dN vs)) (hm:x∈b1.b) (hz:∀ y∈b1.z,y ∉ b1.b):Ext H1 b1 (upd H' x (.dN vs)) b':=by
 have nn:∀ y,upd H1 x (.frz od (.dN vs)) y=none->H1 y=none:=fun y hy=>by
  by_cases hx:y=x
  ·subst hx;rw [qb] at hy;cases hy
  ·rw [qK hx] at hy;exact hy
 obtain ⟨n,h1,h2⟩:=e.more
 obtain ⟨y,h3,h4⟩:=e.zm
 refine ⟨⟨⟨n,h1,fun a ha=>nn a (h2 a ha)⟩,⟨y,h3,fun a ha=>nn a (h4 a ha)⟩,fun a o ho hb => ?_,fun a o ho => ?_⟩,e.same,fun a o ha ho => ?_,fun a o u ho => ?_⟩
 ·have hx:a≠x:=fun z=>hb.1 (by rw [z];exact hm)
  rw [qK hx];exact e.keep a o (by rw [qK hx];exact ho) hb
 ·by_cases hx:a=x
  ·exact ⟨_,by rw [hx];exact qb⟩
  ·rw [qK hx];exact e.dom a o (by rw [qK hx];exact ho)
 ·have hx:a≠x:=fun z=>hz a ha (by rw [z];exact hm)
  rw [qK hx];exact e.hid a o ha (by rw [qK hx];exact ho)
 ·have hx:a≠x:=fun z=>by rw [z,h] at ho;cases ho
  rw [qK hx];exact e.fz a o u (by rw [qK hx];exact ho)
theorem Y5 {D:Ends} {H1:Hp} {b1:Bz} {s1:qC} {i:Nat} {x:Addr} {od:Obj} {kvs:List (List (List L2.Key)×PV)} {vs:List (List (List L2.Key)×V)} {o:RS} (S1:SR X.K H1 b1 s1) (hx:b1.b[i]? = some x) (h:H1 x=some (.dN vs)) (g3:kvs.map (·.1)=vs.map (·.1)) (g4:RVs X.K H1 b1 (kvs.map (·.2)) (vs.map (·.2))) (nf:NF X x)
  (P:PostS X.K E H1 b1 (qDR i kvs o) D):PostS X.K E (upd H1 x (.frz od (.dN vs))) b1 o (qFe X D):=by
 have hm:x∈b1.b:=Am hx
 cases o with
 |nx r st =>
  intro s H' b' e' S' R'
  have te:=Zu e' h hm S1.zb
  have hm':x∈b'.b:=Am (e'.ix hx)
  exact ⟨x,od,vs,e'.fz x od _ qb,nf,P s _ b' te (S'.wr (x := .n kvs) (e'.ix hx) ⟨vs,rfl,g3,RVs.ext te _ g4⟩) (R'.wext (WE.wr (.inl hm')))⟩
 |rt v st =>
  intro u H' b' e' S' R'
  have te:=Zu e' h hm S1.zb
  have hm':x∈b'.b:=Am (e'.ix hx)
  exact ⟨x,od,vs,e'.fz x od _ qb,nf,P u _ b' te (S'.wr (x := .n kvs) (e'.ix hx) ⟨vs,rfl,g3,RVs.ext te _ g4⟩) (RV.wext (WE.wr (.inl hm')) _ R')⟩
 |bk r st=>exact P.elim
 |ct r st=>exact P.elim
 |ex r st=>exact P.elim
 |no=>exact P.elim
structure BefN (K:W.Frag) (H1:Hp) (b1:Bz) (s1:qC) (i:Nat) (x:Addr) (kvs:List (List (List L2.Key)×PV)) (vs:List (List (List L2.Key)×V)):Prop where
 S:SR K H1 b1 s1
 ix:b1.b[i]? = some x
 h:H1 x=some (.dN vs)
 ks:kvs.map (·.1)=vs.map (·.1)
 rs:RVs K H1 b1 (kvs.map (·.2)) (vs.map (·.2))
theorem BefN.of {K:W.Frag} {H1:Hp} {b1:Bz} {s1:qC} {i:Nat} {u:V} {kvs:List (List (List L2.Key)×PV)} (S:SR K H1 b1 s1) (r:RV K H1 b1 (.ref i) u) (hs:s1[i]? = some (.n kvs)):∃ x vs,u = .ref x∧BefN K H1 b1 s1 i x kvs vs:=by
 unfold RV at r
 obtain ⟨x,rfl,hx⟩:=r
 obtain ⟨a',o,h1,h2,vs,rfl,g3,g4⟩:=S.at_ i _ hs
 rw [hx] at h1;cases h1
 exact ⟨x,vs,rfl,S,hx,h2,g3,g4⟩
theorem BefN.fr {K:W.Frag} {H1:Hp} {b1:Bz} {s1:qC} {i:Nat} {x:Addr} {kvs:List (List (List L2.Key)×PV)} {vs:List (List (List L2.Key)×V)} (B:BefN K H1 b1 s1 i x kvs vs) (od:Obj):SR K (upd H1 x (.frz od (.dN vs))) b1 (s1.set i (.w kvs)) :=
 B.S.wr (x := .w kvs) B.ix ⟨od,vs,rfl,B.ks,RVs.wext (WE.wr (.inl (Am B.ix))) _ B.rs⟩
theorem BefN.len {K:W.Frag} {H1:Hp} {b1:Bz} {s1:qC} {i:Nat} {x:Addr} {kvs:List (List (List L2.Key)×PV)} {vs:List (List (List L2.Key)×V)} (B:BefN K H1 b1 s1 i x kvs vs):kvs.length=vs.length:=by
 have:=Bm List.length B.ks;simpa using this
theorem BefN.get {K:W.Frag} {H1:Hp} {b1:Bz} {s1:qC} {i:Nat} {x:Addr} {kvs:List (List (List L2.Key)×PV)} {vs:List (List (List L2.Key)×V)} (B:BefN K H1 b1 s1 i x kvs vs) {it:Bool} {j:Nat} {p:PV} (h:(kvs.map (YD it))[j]? = some p):∃ k q v,p=YD it (k,q)∧vs[j]? = some (k,v)∧j < vs.length∧(kvs.map (·.2))[j]? = some q:=by
 rw [Ai] at h
 cases hk:kvs[j]? with
 |none=>rw [hk] at h;cases h
 |some kv =>
  rw [hk] at h;cases h
  have hj:j < vs.length:=by rw [← B.len];exact (AG.mp hk).1
  have e1:(kvs.map (·.1))[j]? = some kv.1:=by rw [Ai,hk];rfl
  rw [B.ks,Ai,AJ hj] at e1
  have e1:vs[j].1=kv.1:=AS e1
  exact ⟨kv.1,kv.2,vs[j].2,rfl,by rw [AJ hj,← e1],hj,by rw [Ai,hk];rfl⟩
theorem qBE {tg iter:Expr} {body:List Stmt} {g:FG} (ho:VE X E iter f) (hg:VG X.nox tg g) (hb:VSs X.nox E0 body F) (hs:∀ x,foldedSetIterable iter X.env x=pure x:=by intro _;rfl):VS X E (.For tg iter body [] pos) (zF false f g F):=by
 refine PS.imp (qBH (jy (qAu ho) hg hb hs)) fun D s H ⟨b,r,st,S,R,P⟩ => ?_
 refine ⟨b,r,st,S,R,PostE.bindS P fun p s1 u H1 b1 e1 S1 r1 P1 => ?_⟩
 split at P1
 ·rename_i i
  split at P1
  ·rename_i kvs hd
   obtain ⟨x,vs,rfl,B⟩:=BefN.of S1 r1 hd
   refine ⟨x,vs,rfl,B.h,fun od es ep hdat nf => ?_⟩
   have hm:x∈b1.b:=Am B.ix
   refine qC9 (B.fr od) ((R.ext e1).wext (WE.wr (.inl hm))) (fun H' b2 st2 e2 S2 _ => ?_) (Y5 B.S B.ix B.h B.ks B.rs nf P1)
   have fz:FrzN H' x od es ep vs:=⟨e2.fz x od _ qb,hdat⟩
   refine ⟨fun j p hp => ?_,fun j hj=>⟨fz,by rw [AX,B.len] at hj;exact hj⟩⟩
   obtain ⟨k,q,v,rfl,hv,hj,_⟩:=B.get hp
   refine ⟨⟨fz,hj⟩,fun y H2 ⟨eH,c,k',v',h1,h2,h3⟩ => ?_⟩
   subst eH
   rw [hv] at h1;cases h1
   subst h2
   exact ⟨Same.refl _,S2,qDH S2 h3⟩
  ·exact P1.elim
 ·exact P1.elim
end
end EV
end
noncomputable section
namespace K44
open PySem PySem.Spec PyProof.Rows L2 EX EV
structure Ad where
 (Z0 Z1 Z2 Z3 Z4 Z5 Z6 Z7 Z8 Z9 Z10 Z11:Addr)
 (is_whole is_whole_within is_length is_side need_length box_left law_cell law_mix law_box law_take law_cover law_whole law_odd law_best law_kind law_said law_words law:Addr)
def kitTab:List ((String×String)×Bool):=[(("NoneType","int"),false),(("NoneType","bool"),false),(("NoneType","tuple"),false),(("NoneType","list"),false),(("int","int"),true),(("int","bool"),false),(("int","tuple"),false),(("int","list"),false),(("bool","int"),true),(("bool","bool"),true),(("bool","tuple"),false),(("bool","list"),false),(("str","int"),false),(("str","bool"),false),(("str","tuple"),false),(("str","list"),false),(("tuple","int"),false),(("tuple","bool"),false),(("tuple","tuple"),true),(("tuple","list"),false),(("list","int"),false),(("list","bool"),false),(("list","tuple"),false),(("list","list"),true),(("dict","int"),false),(("dict","bool"),false),(("dict","tuple"),false),(("dict","list"),false)]
def qF8 (s T:String):Option Bool:=kitTab.lookup (s,T)
def Ad.kinds (a:Ad):List Addr:=[a.Z1,a.Z2,a.Z3,a.Z4,a.Z5,a.Z6,a.Z7,a.Z8,a.Z9,a.Z10,a.Z11]
def Dist (a:Ad):Prop:=a.kinds.Nodup
instance (a:Ad):Decidable (Dist a):=by unfold Dist;infer_instance
theorem Dist.nd {a:Ad} (h:Dist a):a.kinds.Nodup:=h
def QH (a:Ad):List Addr:=[a.Z1,a.Z4]
def kit (a:Ad):Value->Value->Option Bool
 | .type s,.type T=>qF8 s T
 | .ref x,.ref d=>if x∈QH a∧d∈a.kinds then some (x==d) else none
 | .ref x,.type T=>if x∈QH a∧T = "ValueError" then some true else none
 |_,_=>none
def top (i:Nat):Stmt:=PySem.Challenge.pw_barfloors_k44_what_boxes_leave.main.body.getD i (.Pass ⟨0,0,0,0⟩)
abbrev wE:Stmt:=top 17
abbrev qr:Stmt:=top 18
abbrev Q4:Stmt:=top 19
abbrev wV:Stmt:=top 20
abbrev QE:Stmt:=top 21
abbrev Q0:Stmt:=top 23
abbrev wF:Stmt:=top 25
abbrev wU:Stmt:=top 26
abbrev wT:Stmt:=top 27
abbrev Qx:Stmt:=top 28
abbrev Qb:Stmt:=top 29
abbrev Q3:Stmt:=top 30
abbrev wS:Stmt:=top 31
abbrev Qv:Stmt:=top 32
abbrev wD:Stmt:=top 33
abbrev Qz:Stmt:=top 34
abbrev Qc:Stmt:=top 35
abbrev WI:Stmt:=top 36
def zr (a:Ad):FS:=(qj (qA8 (qG (Q1 (kit a)) (qA (qB 0) (qA (vC (.ty "int")) qD))) (qER (qG (Q1 (kit a)) (qA (qB 0) (qA (vC (.ty "bool")) qD))))))
def Wk (a:Ad):List PV->qC->Rs PV:=QB 1 1 (zr a)
def wA (a:Ad):FS:=(qj (qA8 (qG (Wk a) (qA (qB 0) qD)) (WD gLe gLe (qB 1) (qB 0) (qB 2))))
def QZ (a:Ad):List PV->qC->Rs PV:=QB 3 3 (wA a)
def WU (a:Ad):FS:=(qj (qG (QZ a) (qA (qB 0) (qA (vC (.int 2)) (qA (vC (.int 5)) qD)))))
def WV (a:Ad):List PV->qC->Rs PV:=QB 1 1 (WU a)
def Zf (a:Ad):FS:=(qj (qG (QZ a) (qA (qB 0) (qA (vC (.int 1)) (qA (vC (.int 1000000000)) qD)))))
def QU (a:Ad):List PV->qC->Rs PV:=QB 1 1 (Zf a)
def wl (a:Ad):FS:=(QK (QW (qy (qG (WV a) (qA (qB 0) qD)))) (zB a.Z1 (qA (vJ [(vC (.str "a length is a whole number from ")),(qAQ (vC (.int 2))),(vC (.str " to ")),(qAQ (vC (.int 5)))] Str.empty) qD)) qp)
def Qp (a:Ad):List PV->qC->Rs PV:=QB 1 1 (wl a)
def ZH (a:Ad):FS:=(qP (QK (WM (QW (qy (qG (QU a) (qA (qB 0) qD)))) (QW (qy (qG (QU a) (qA (qB 1) qD))))) (zB a.Z4 (qA (vJ [(vC (.str "sides are whole numbers from 1 to ")),(qAQ (vC (.int 1000000000)))] Str.empty) qD)) qp) (qP (WH (qG (Qp a) (qA (qB 2) qD))) (qP (qU 3 (qH WO (qB 0) (qB 2))) (qP (qU 4 (qH WO (qB 1) (qB 2))) (qP (QK (Z2 (vTB (qH gGe (qB 0) (qB 2))) (vTB (qH gGe (qB 1) (qB 2)))) (qj (qG zZ (qA (qH Qs (qB 3) (qB 4)) (qA (qH Qs (qH zA (qB 2) (qB 3)) (qH zA (qB 2) (qB 4))) qD)))) qp) (qP (QK (vTB (qH gGe (qB 0) (qB 2))) (qj (qH Qs (qB 1) (qB 3))) qp) (qP (QK (vTB (qH gGe (qB 1) (qB 2))) (qj (qH Qs (qB 0) (qB 4))) qp) (qj (qH Qs (qB 0) (qB 1))))))))))
def Qu (a:Ad):List PV->qC->Rs PV:=QB 3 5 (ZH a)
def z7 (a:Ad):FS:=(qP (QK (vTB (qH gLt (qB 1) (qG ZS (qA (qB 0) qD)))) (qj (qH gIx (qB 0) (qB 1))) qp) (qj (qH q9 (qH Qs (vC (.int 6151)) (qB 1)) (vC (.int 29)))))
def WF (a:Ad):List PV->qC->Rs PV:=QB 2 2 (z7 a)
def Zt (a:Ad):FS:=(qP (qU 2 (qH q9 (qH Qs (qH q9 (qB 0) (vC (.int 1))) (vC (.int 40692))) (qH Qs (vC (.int 104729)) (qB 1)))) (qP (qU 2 (qH q9 (qH WO (qH JV (qB 2) (qB 2)) (vC (.int 2147483399))) (qB 1))) (qj (qH WO (qH Qs (qB 2) (qH q9 (qB 2) (vC (.int 31)))) (vC (.int 2147483563))))))
def Wg (a:Ad):List PV->qC->Rs PV:=QB 2 3 (Zt a)
def Zc (a:Ad):FS:=(qP (qU 2 (qG (WF a) (qA (qB 0) (qA (qB 1) qD)))) (qP (QK (vTB (qH gEq (qH WO (qB 2) (vC (.int 2))) (vC (.int 0)))) (zK (Qt (qA (qH yW (qB 2) (vC (.int 2))) qD))) qp) (qP (qU 3 (vC (.int 0))) (qP (wR (wQ (qA (vC (.int 24)) qD)) (QO 4) (qU 3 (qH q9 (qH Qs (qB 3) (vC (.int 2147483647))) (qG (Wg a) (qA (qB 2) (qA (qB 4) qD)))))) (zK (Qt (qA (qB 3) qD)))))))
def wu (a:Ad):List PV->qC->Rs PV:=QB 2 5 (Zc a)
def zl (a:Ad):FS:=(qP (Yk (qG W2 (qA (qH gIx (qB 0) (vC (.int 0))) (qA (qB 1) qD))) (Jc 2 (WY (QO 2) (WY (QO 3) qAP)))) (qP (jw (qB 0) (vC (.int 0)) (qB 2)) (qj (qB 3))))
def qZ (a:Ad):List PV->qC->Rs PV:=QB 2 4 (zl a)
def zX (a:Ad):FS:=(qP (Yk (qB 0) (Jc 3 (WY (QO 2) (WY (QO 3) (WY (QO 4) qAP))))) (qj (vFz (QC [2,4,3] 1 (wQ (qA (qB 1) qD)) (wa 3) [] [] (QM (qA (qH q9 (qB 0) (qH Qs (qB 3) (qB 1))) (qA (qH zA (qH q9 (qB 2) (qB 3)) (qH Qs (qB 3) (qB 1))) qD)))))))
def Qg (a:Ad):List PV->qC->Rs PV:=QB 2 5 (zX a)
def zY (a:Ad):FS:=(qj (qA8 (qG (Q1 (kit a)) (qA (qB 0) (qA (vC (.ty "int")) qD))) (qER (qG (Q1 (kit a)) (qA (qB 0) (qA (vC (.ty "bool")) qD))))))
def qx (a:Ad):List PV->qC->Rs PV:=QB 1 1 (zY a)
def Zv (a:Ad):FS:=(qP (qU 1 (vFz (Qt (qA (vC .non) (qA (vC (.bl true)) (qA (vC (.bl false)) (qA (qAe (vC (.int 1))) (qA (vC (.int 0)) (qA (vC (.int 1)) (qA (vC (.int 2)) (qA (vC (.int 5)) (qA (vC (.int 6)) (qA (vC (.str "")) (qA (vC (.str "0")) (qA (vC (.str "none")) (qA (QM qD) (qA (QM (qA (vC (.int 0)) qD)) (qA (QM (qA (vC (.int 0)) (qA (vC (.int 0)) qD))) (qA (QM (qA (vC (.int 0)) (qA (vC (.int 0)) (qA (vC (.int 0)) qD)))) (qA (vFz (Qt (qA (vC (.int 0)) qD))) (qA (vC .dct) (qA (QM (qA (vC (.int 0)) (qA (vC (.int 0)) (qA (vC (.bl true)) qD)))) qD)))))))))))))))))))))) (qP (qU 1 (vFz (Jm (qB 1) (vFz (Qt (qA (QM (qA (QM (qA (vC (.int 0)) (qA (vC (.int 0)) (qA (vC (.int 0)) qD)))) qD)) (qA (QM (qA (QM (qA (vC (.int 0)) (qA (vC (.int 0)) (qA (vC (.int 1)) qD)))) qD)) (qA (vFz (Qt (qA (QM (qA (vC (.int 0)) (qA (vC (.int 0)) (qA (vC (.int 0)) qD)))) qD))) (qA (qH WC (vC (.int 10)) (vC (.int 39))) (qA (QM (qA (vC (.int 0)) (qA (vC (.int 0)) (qA (vC (.int 2)) qD)))) (qA (QM (qA (vC (.int 0)) (qA (qAe (vC (.int 1))) (qA (vC (.int 0)) qD)))) (qA (QM (qA (QM (qA (vC (.int 0)) (qA (vC (.int 0)) qD))) qD)) (qA (QM (qA (vC (.int 0)) (qA (vC (.int 0)) (qA (vC (.int 0)) (qA (vC (.int 0)) qD))))) qD))))))))))))) (qj (qH gIx (qB 1) (qG (qZ a) (qA (qB 0) (qA (qG ZS (qA (qB 1) qD)) qD)))))))
def Wf (a:Ad):List PV->qC->Rs PV:=QB 1 2 (Zv a)
def ZL (a:Ad):FS:=(qP (qU 2 (zf (qG Q7 (qA (qB 0) qD)) (vC (.int 0)))) (qP (qU 3 (vC (.int 0))) (qP (wC (vTB (qH Y9 (qB 2) ZZ)) (qP (qU 4 ZZ) (qP (zF false (qB 2) (QO 5) (qP (qU 3 (qG wt (qA (qB 3) (qA (qH Wh (qB 2) (qB 5)) qD)))) (QK (vTB (qH gNe (qB 5) (QM qD))) (qP (wc (qB 4) (zd (qB 5) (wZ (vC (.int 1))) wm) (qG wt (qA (WP (qB 4) (zd (qB 5) (wZ (vC (.int 1))) wm) (vC (.int 0))) (qA (qH Wh (qB 2) (qB 5)) qD)))) (wR (wQ (qA (vC (.int 2)) qD)) (QO 6) (qP (qU 7 (qG (Qg a) (qA (qH zD (qH gIx (qB 5) (vC (.int 0))) (QM (qA (qB 6) qD))) (qA (qB 1) qD)))) (QK (vTB (qH gEq (vFz (QC [5] 1 (Qf (qB 7)) (wa 1) [(vTB (qH (gIn true) (qB 1) (qB 0)))] [] (qB 1))) (vFz (Qt qD)))) (qP (qU 8 (qG Q7 (qA (vFz (QC [7] 1 (Qf (qB 5)) (wa 1) [(vTB (qH (gIn true) (qB 1) (qB 0)))] [] (qB 1))) qD))) (wc (qB 4) (qB 8) (qG wt (qA (WP (qB 4) (qB 8) (vC (.int 0))) (qA (qH q9 (qH Wh (qB 2) (qB 5)) (vC (.int 1))) qD))))) qp)))) qp))) (qU 2 (qB 4)))) 30) (qj (qB 3)))))
def w5 (a:Ad):List PV->qC->Rs PV:=QB 2 9 (ZL a)
def zu (a:Ad):FS:=(qP (qU 1 (vFz (Qt (qA (qG (Q1 (kit a)) (qA (qB 0) (qA (vC (.fn a.Z1)) qD))) (qA (qG (Q1 (kit a)) (qA (qB 0) (qA (vC (.fn a.Z2)) qD))) (qA (qG (Q1 (kit a)) (qA (qB 0) (qA (vC (.fn a.Z3)) qD))) (qA (qG (Q1 (kit a)) (qA (qB 0) (qA (vC (.fn a.Z4)) qD))) qD))))))) (qP (qU 1 (vFz (Jm (qB 1) (vFz (Qt (qA (qG (Q1 (kit a)) (qA (qB 0) (qA (vC (.fn a.Z5)) qD))) (qA (qG (Q1 (kit a)) (qA (qB 0) (qA (vC (.fn a.Z6)) qD))) (qA (qG (Q1 (kit a)) (qA (qB 0) (qA (vC (.fn a.Z7)) qD))) (qA (qG (Q1 (kit a)) (qA (qB 0) (qA (vC (.fn a.Z8)) qD))) qD))))))))) (qP (qU 1 (vFz (Jm (qB 1) (vFz (Qt (qA (qG (Q1 (kit a)) (qA (qB 0) (qA (vC (.fn a.Z9)) qD))) (qA (qG (Q1 (kit a)) (qA (qB 0) (qA (vC (.fn a.Z10)) qD))) (qA (qG (Q1 (kit a)) (qA (qB 0) (qA (vC (.fn a.Z11)) qD))) qD)))))))) (qP (QK (WM (QW (qy (qG (Q1 (kit a)) (qA (qB 0) (qA (vC (.ty "ValueError")) qD))))) (vTB (qH gNe (Yz (qB 1) (vC (.bl true))) (vC (.int 1))))) (qj (vC (.str "! other"))) qp) (qP (QK (qy (qH gIx (qB 1) (vC (.int 10)))) qDp qp) (qP (qU 2 (vFz (Qt (qA (vC (.str "length")) (qA (vC (.str "number")) (qA (vC (.str "bars")) (qA (vC (.str "box")) (qA (vC (.str "weights")) (qA (vC (.str "sorts")) (qA (vC (.str "turn")) (qA (vC (.str "place")) (qA (vC (.str "text")) (qA (vC (.str "row")) qD))))))))))))) (qj (qH qDM (vC (.str "! ")) (qH gIx (qB 2) (qFK (qB 1) (vC (.bl true))))))))))))
def wJ (a:Ad):List PV->qC->Rs PV:=QB 1 3 (zu a)
def zy (a:Ad):FS:=(qP (qU 3 (vC (.str "! other"))) (qP (ZA 4 5 (QH a) (qU 3 (qG (Qu a) (qA (qB 0) (qA (qB 1) (qA (qB 2) qD))))) (qU 3 (qG (wJ a) (qA (qB 4) qD)))) (qj (qB 3))))
def qW (a:Ad):List PV->qC->Rs PV:=QB 3 5 (zy a)
def zW (a:Ad):FS:=(qP (yk 3 4 (qA (qH WO (qB 0) (qB 2)) (qA (qH WO (qB 1) (qB 2)) qD))) (qP (QK (vTB (qH gGe (qG zZ (qA (qB 0) (qA (qB 1) qD))) (qB 2))) (qj (qG zZ (qA (qH Qs (qB 3) (qB 4)) (qA (qH Qs (qH zA (qB 2) (qB 3)) (qH zA (qB 2) (qB 4))) qD)))) qp) (qP (QK (vTB (qH gLt (qG wt (qA (qB 0) (qA (qB 1) qD))) (qB 2))) (qj (qH Qs (qB 0) (qB 1))) qp) (qP (QK (vTB (qH gLt (qB 0) (qB 2))) (qj (qH Qs (qB 0) (qB 4))) qp) (qj (qH Qs (qB 1) (qB 3)))))))
def Qa (a:Ad):List PV->qC->Rs PV:=QB 3 5 (zW a)
def qDS (a:Ad):FS:=(qP (wR (wQ (qA (qG wt (qA (vC (.int 1)) (qA (qG zZ (qA (qG ZS (qA (qB 0) qD)) (qA (vC (.int 3)) qD))) qD))) qD)) (QO 1) (qP (qU 2 (qG (wu a) (qA (qB 0) (qA (qB 1) qD)))) (qP (qU 3 (qH q9 (vC (.int 2)) (qG (qZ a) (qA (qB 2) (qA (vC (.int 4)) qD))))) (qP (qU 4 (qH q9 (vC (.int 1)) (qG (qZ a) (qA (qB 2) (qA (vC (.int 8)) qD))))) (qP (qU 5 (qH q9 (vC (.int 1)) (qG (qZ a) (qA (qB 2) (qA (qG zZ (qA (vC (.int 8)) (qA (qH yW (vC (.int 16)) (qB 4)) qD))) qD))))) (qP (qU 6 (qG Q7 (qA (vFz (QC [5] 1 (wQ (qA (qH Qs (qB 4) (qB 5)) qD)) (wa 1) [] [] (QM (qA (qH yW (qB 1) (qB 0)) (qA (qH WO (qB 1) (qB 0)) qD))))) qD))) (qP (qU 7 (qH zA (qH Qs (qB 4) (qB 5)) (qH Qs (qB 3) (qG (w5 a) (qA (qB 6) (qA (qB 3) qD)))))) (qP (QK (WM (vTB (qH gNe (qB 7) (qG (Qa a) (qA (qB 4) (qA (qB 5) (qA (qB 3) qD)))))) (vTB (qH gNe (qG (qW a) (qA (qB 4) (qA (qB 5) (qA (qB 3) qD)))) (qB 7)))) (qj (vC (.bl false))) qp) (qP (qU 8 (vFz (QC [2] 1 (wQ (qA (vC (.int 2)) qD)) (wa 1) [] [] (qH q9 (vC (.int 1)) (qG (qZ a) (qA (qB 0) (qA (qH gIx (vFz (Qt (qA (vC (.int 20)) (qA (qH WC (vC (.int 10)) (vC (.int 9))) qD)))) (qG (qZ a) (qA (qB 0) (qA (vC (.int 2)) qD)))) qD))))))) (qP (wR (Qf (vFz (Qt (qA (QM (qA (qH gIx (qB 8) (vC (.int 0))) (qA (qH gIx (qB 8) (vC (.int 1))) qD))) (qA (QM (qA (qH gIx (qB 8) (vC (.int 0))) (qA (qB 4) qD))) (qA (QM (qA (qB 5) (qA (qH gIx (qB 8) (vC (.int 1))) qD))) (qA (QM (qA (qH WC (vC (.int 10)) (vC (.int 9))) (qA (qH zA (qH WC (vC (.int 10)) (vC (.int 9))) (vC (.int 1))) qD))) qD))))))) (Jc 2 (WY (QO 9) (WY (QO 10) qAP))) (qP (qU 11 (qG (qW a) (qA (qB 9) (qA (qB 10) (qA (qB 3) qD))))) (QK (WM (QW (qy (qG (qx a) (qA (qB 11) qD)))) (vTB (qH gNe (qB 11) (qG (Qa a) (qA (qB 9) (qA (qB 10) (qA (qB 3) qD))))))) (qj (vC (.bl false))) qp))) (qP (wR (Qf (vFz (Qt (qA (vC (.int 0)) (qA (qAe (vC (.int 1))) (qA (vC (.bl true)) (qA (vC .non) (qA (vC (.str "2")) (qA (qH q9 (qH WC (vC (.int 10)) (vC (.int 9))) (vC (.int 1))) (qA (qH WC (vC (.int 10)) (vC (.int 39))) (qA (QM (qA (vC (.int 3)) qD)) (qA (qG (Wf a) (qA (qB 2) qD)) qD)))))))))))) (QO 12) (QK (WM (QW (qy (qG (qx a) (qA (qB 12) qD)))) (QW (vTB (WD gLe gLe (vC (.int 1)) (qB 12) (qH WC (vC (.int 10)) (vC (.int 9))))))) (wR (Qf (vFz (Qt (qA (qG (qW a) (qA (qB 12) (qA (qB 12) (qA (qB 12) qD)))) (qA (qG (qW a) (qA (qB 12) (qA (vC (.int 3)) (qA (qB 3) qD)))) (qA (qG (qW a) (qA (vC (.int 3)) (qA (qB 12) (qA (qB 12) qD)))) qD)))))) (QO 13) (QK (vTB (qH gNe (qB 13) (vC (.str "! box")))) (qj (vC (.bl false))) qp)) qp)) (QK (vTB (qH gNe (qG (qW a) (qA (qB 4) (qA (qB 5) (qA (qH gIx (vFz (Qt (qA (vC (.int 1)) (qA (vC (.int 6)) (qA (vC (.bl true)) (qA (vC .non) (qA (vC (.str "2")) qD))))))) (qG (qZ a) (qA (qB 2) (qA (vC (.int 5)) qD)))) qD)))) (vC (.str "! length")))) (qj (vC (.bl false))) qp)))))))))))) (qj (vC (.bl true))))
def yu (a:Ad):List PV->qC->Rs PV:=QB 1 14 (qDS a)
structure Env (K:W.Frag) (mg:Str->Option Value) (a:Ad):Prop where
 kit:KitOk K (kit a)
 n_ValueError:mg "ValueError" = none
 n_bool:mg "bool" = none
 n_divmod:mg "divmod" = none
 n_int:mg "int" = none
 n_isinstance:mg "isinstance" = none
 n_len:mg "len" = none
 n_max:mg "max" = none
 n_min:mg "min" = none
 n_range:mg "range" = none
 n_tuple:mg "tuple" = none
 c_LEAST_LENGTH:∃ t,mg "LEAST_LENGTH" = some (.int 2 t)
 c_MOST_LENGTH:∃ t,mg "MOST_LENGTH" = some (.int 5 t)
 c_MOST_SIDE:∃ t,mg "MOST_SIDE" = some (.int 1000000000 t)
 k_Z0:mg "BarError" = some (.ref a.Z0)
 k_Z1:mg "NoLength" = some (.ref a.Z1)
 k_Z2:mg "NoNumber" = some (.ref a.Z2)
 k_Z3:mg "NoBars" = some (.ref a.Z3)
 k_Z4:mg "NoBox" = some (.ref a.Z4)
 k_Z5:mg "NoWeights" = some (.ref a.Z5)
 k_Z6:mg "NoSorts" = some (.ref a.Z6)
 k_Z7:mg "NoTurn" = some (.ref a.Z7)
 k_Z8:mg "NoPlace" = some (.ref a.Z8)
 k_Z9:mg "NoText" = some (.ref a.Z9)
 k_Z10:mg "NoRow" = some (.ref a.Z10)
 k_Z11:mg "TooMany" = some (.ref a.Z11)
 x_Z1:W.excIn K a.Z1 bmV "ValueError.__new__" = true
 e_Z1:W.mroIn K a.Z1 (.ref a.Z0)=some true
 x_Z4:W.excIn K a.Z4 bmV "ValueError.__new__" = true
 e_Z4:W.mroIn K a.Z4 (.ref a.Z0)=some true
 o_Z0:∃ dd cd sl,K.lookup a.Z0=some ⟨.type "type",dd,.cls cd,sl⟩
 b_Z0:W.mroIn K a.Z0 (.type "BaseException")=some true
 m_is_whole:mg "is_whole" = some (.ref a.is_whole)
 f_is_whole:∃ fd,Fun K "is_whole" "is_whole" wE a.is_whole fd
 m_is_whole_within:mg "is_whole_within" = some (.ref a.is_whole_within)
 f_is_whole_within:∃ fd,Fun K "is_whole_within" "is_whole_within" qr a.is_whole_within fd
 m_is_length:mg "is_length" = some (.ref a.is_length)
 f_is_length:∃ fd,Fun K "is_length" "is_length" Q4 a.is_length fd
 m_is_side:mg "is_side" = some (.ref a.is_side)
 f_is_side:∃ fd,Fun K "is_side" "is_side" wV a.is_side fd
 m_need_length:mg "need_length" = some (.ref a.need_length)
 f_need_length:∃ fd,Fun K "need_length" "need_length" QE a.need_length fd
 m_box_left:mg "box_left" = some (.ref a.box_left)
 f_box_left:∃ fd,Fun K "box_left" "box_left" Q0 a.box_left fd
 m_law_cell:mg "_law_cell" = some (.ref a.law_cell)
 f_law_cell:∃ fd,Fun K "_law_cell" "_law_cell" wF a.law_cell fd
 m_law_mix:mg "_law_mix" = some (.ref a.law_mix)
 f_law_mix:∃ fd,Fun K "_law_mix" "_law_mix" wU a.law_mix fd
 m_law_box:mg "_law_box" = some (.ref a.law_box)
 f_law_box:∃ fd,Fun K "_law_box" "_law_box" wT a.law_box fd
 m_law_take:mg "_law_take" = some (.ref a.law_take)
 f_law_take:∃ fd,Fun K "_law_take" "_law_take" Qx a.law_take fd
 m_law_cover:mg "_law_cover" = some (.ref a.law_cover)
 f_law_cover:∃ fd,Fun K "_law_cover" "_law_cover" Qb a.law_cover fd
 m_law_whole:mg "_law_whole" = some (.ref a.law_whole)
 f_law_whole:∃ fd,Fun K "_law_whole" "_law_whole" Q3 a.law_whole fd
 m_law_odd:mg "_law_odd" = some (.ref a.law_odd)
 f_law_odd:∃ fd,Fun K "_law_odd" "_law_odd" wS a.law_odd fd
 m_law_best:mg "_law_best" = some (.ref a.law_best)
 f_law_best:∃ fd,Fun K "_law_best" "_law_best" Qv a.law_best fd
 m_law_kind:mg "_law_kind" = some (.ref a.law_kind)
 f_law_kind:∃ fd,Fun K "_law_kind" "_law_kind" wD a.law_kind fd
 m_law_said:mg "_law_said" = some (.ref a.law_said)
 f_law_said:∃ fd,Fun K "_law_said" "_law_said" Qz a.law_said fd
 m_law_words:mg "_law_words" = some (.ref a.law_words)
 f_law_words:∃ fd,Fun K "_law_words" "_law_words" Qc a.law_words fd
 m_law:mg "law" = some (.ref a.law)
 f_law:∃ fd,Fun K "law" "law" WI a.law fd
section
variable {P:Program} {w:World} {K:W.Frag} {mg:Str->Option Value} {base:Heap} {a:Ad}
theorem YI:FnScope ["thing"] ["thing"] (qN wE):=⟨rfl,rfl,rfl,by decide +kernel,rfl,by decide +kernel,by decide +kernel⟩
theorem jc (V:Env K mg a):DefG P w K mg base 2 "is_whole" a.is_whole 1 (Wk a):=by
 obtain ⟨fd,F⟩:=V.f_is_whole
 refine wM (B:=zr a) F YI (F.binds (ps:=["thing"]) fun _ _ _ _ _ _ us hl=>match us,hl with |[_],_=>rfl) V.m_is_whole (fun l st h=>qg h) (fun cdv A outer s H E hr hcm => ?_) (fun l s0 hl hn=>qd hl)
 have hu:=hr.units
 exact (@qR _ _ _ _ (@qm _ _ _ _ _ (@Yt _ _ _ _ _ _ _ _ (@Qn _ _ _ _ _ _ _ _ V.kit V.n_isinstance (@qS _ _ _ _ _ _ _ (@qJ _ _ 0 _ _ (by rfl) (by rfl) (by rfl)) (@qS _ _ _ _ _ _ _ (@Yd _ _ _ _ _ rfl V.n_int Boot.«int» (by decide) (by decide)) qF)) (by rfl) (by rfl) (by rfl)) (@jA _ _ _ _ _ _ (@qB9 _ _ _ _ _ (@Qn _ _ _ _ _ _ _ _ V.kit V.n_isinstance (@qS _ _ _ _ _ _ _ (@qJ _ _ 0 _ _ (by rfl) (by rfl) (by rfl)) (@qS _ _ _ _ _ _ _ (@Yd _ _ _ _ _ rfl V.n_bool Boot.«bool» (by decide) (by decide)) qF)) (by rfl) (by rfl) (by rfl)))))))
theorem Wn:FnScope ["thing","least","most"] ["thing","least","most"] (qN qr):=⟨rfl,rfl,rfl,by decide +kernel,rfl,by decide +kernel,by decide +kernel⟩
theorem wj (V:Env K mg a):DefG P w K mg base 3 "is_whole_within" a.is_whole_within 3 (QZ a):=by
 obtain ⟨fd,F⟩:=V.f_is_whole_within
 refine wM (B:=wA a) F Wn (F.binds (ps:=["thing","least","most"]) fun _ _ _ _ _ _ us hl=>match us,hl with |[_,_,_],_=>rfl) V.m_is_whole_within (fun l st h=>qg h) (fun cdv A outer s H E hr hcm => ?_) (fun l s0 hl hn=>qd hl)
 have hu:=hr.units
 exact (@qR _ _ _ _ (@qm _ _ _ _ _ (@Yt _ _ _ _ _ _ _ _ (@qY _ _ _ _ _ _ _ _ _ ((jc V).call (hr.mono (by omega)) Qi) (@qS _ _ _ _ _ _ _ (@qJ _ _ 0 _ _ (by rfl) (by rfl) (by rfl)) qF) (by rfl) (by rfl)) (@jA _ _ _ _ _ _ (@qAm _ _ _ _ _ _ _ _ _ _ _ _ _ _ _ j5 j5 JL JL (@qJ _ _ 1 _ _ (by rfl) (by rfl) (by rfl)) (@qJ _ _ 0 _ _ (by rfl) (by rfl) (by rfl)) (@qJ _ _ 2 _ _ (by rfl) (by rfl) (by rfl)) (by with_unfolding_all rfl))))))
theorem yL:FnScope ["thing"] ["thing"] (qN Q4):=⟨rfl,rfl,rfl,by decide +kernel,rfl,by decide +kernel,by decide +kernel⟩
theorem yc (V:Env K mg a):DefG P w K mg base 4 "is_length" a.is_length 1 (WV a):=by
 obtain ⟨fd,F⟩:=V.f_is_length
 obtain ⟨_,c_LEAST_LENGTH⟩:=V.c_LEAST_LENGTH
 obtain ⟨_,c_MOST_LENGTH⟩:=V.c_MOST_LENGTH
 refine wM (B:=WU a) F yL (F.binds (ps:=["thing"]) fun _ _ _ _ _ _ us hl=>match us,hl with |[_],_=>rfl) V.m_is_length (fun l st h=>qg h) (fun cdv A outer s H E hr hcm => ?_) (fun l s0 hl hn=>qd hl)
 have hu:=hr.units
 exact (@qR _ _ _ _ (@qm _ _ _ _ _ (@qY _ _ _ _ _ _ _ _ _ ((wj V).call (hr.mono (by omega)) Qi) (@qS _ _ _ _ _ _ _ (@qJ _ _ 0 _ _ (by rfl) (by rfl) (by rfl)) (@qS _ _ _ _ _ _ _ (@Wc _ _ _ _ _ _ rfl c_LEAST_LENGTH (by decide)) (@qS _ _ _ _ _ _ _ (@Wc _ _ _ _ _ _ rfl c_MOST_LENGTH (by decide)) qF))) (by rfl) (by rfl))))
theorem Y0:FnScope ["thing"] ["thing"] (qN wV):=⟨rfl,rfl,rfl,by decide +kernel,rfl,by decide +kernel,by decide +kernel⟩
theorem Zh (V:Env K mg a):DefG P w K mg base 4 "is_side" a.is_side 1 (QU a):=by
 obtain ⟨fd,F⟩:=V.f_is_side
 obtain ⟨_,c_MOST_SIDE⟩:=V.c_MOST_SIDE
 refine wM (B:=Zf a) F Y0 (F.binds (ps:=["thing"]) fun _ _ _ _ _ _ us hl=>match us,hl with |[_],_=>rfl) V.m_is_side (fun l st h=>qg h) (fun cdv A outer s H E hr hcm => ?_) (fun l s0 hl hn=>qd hl)
 have hu:=hr.units
 exact (@qR _ _ _ _ (@qm _ _ _ _ _ (@qY _ _ _ _ _ _ _ _ _ ((wj V).call (hr.mono (by omega)) Qi) (@qS _ _ _ _ _ _ _ (@qJ _ _ 0 _ _ (by rfl) (by rfl) (by rfl)) (@qa _ _ _ _ _ _ _ _ qI (@qS _ _ _ _ _ _ _ (@Wc _ _ _ _ _ _ rfl c_MOST_SIDE (by decide)) qF))) (by rfl) (by rfl))))
theorem ZC:FnScope ["thing"] ["thing"] (qN QE):=⟨rfl,rfl,rfl,by decide +kernel,rfl,by decide +kernel,by decide +kernel⟩
theorem ZT (V:Env K mg a):DefG P w K mg base 5 "need_length" a.need_length 1 (Qp a):=by
 obtain ⟨fd,F⟩:=V.f_need_length
 obtain ⟨_,c_LEAST_LENGTH⟩:=V.c_LEAST_LENGTH
 obtain ⟨_,c_MOST_LENGTH⟩:=V.c_MOST_LENGTH
 refine wM (B:=wl a) F ZC (F.binds (ps:=["thing"]) fun _ _ _ _ _ _ us hl=>match us,hl with |[_],_=>rfl) V.m_need_length (fun l st h=>qg h) (fun cdv A outer s H E hr hcm => ?_) (fun l s0 hl hn=>qd hl)
 have hu:=hr.units
 have hc:(wB (CXF P w) P w K mg base ["thing"] "need_length" (qN QE) a.need_length cdv A outer s H E).calm=true:=by show A.handled.isNone=true;rw [hcm (by omega)];rfl
 exact (@qR _ _ _ _ (@Q9 _ _ _ _ _ _ _ _ _ (@Wu _ _ _ _ _ (@Wq _ _ _ _ (@qY _ _ _ _ _ _ _ _ _ ((yc V).call (hr.mono (by omega)) Qi) (@qS _ _ _ _ _ _ _ (@qJ _ _ 0 _ _ (by rfl) (by rfl) (by rfl)) qF) (by rfl) (by rfl)) (by intro _;rfl))) (@qR _ _ _ _ (@Ym _ _ _ _ _ _ _ _ _ _ qDY hc rfl V.k_Z1 V.x_Z1 (@qFT _ _ _ _ _ _ _ (@jn _ _ _ _ _ _ _ (@We _ _ _ _ _ _ qz (@We _ _ _ _ _ _ (@jC _ _ _ _ _ (@Wc _ _ _ _ _ _ rfl c_LEAST_LENGTH (by decide))) (@We _ _ _ _ _ _ qz (@We _ _ _ _ _ _ (@jC _ _ _ _ _ (@Wc _ _ _ _ _ _ rfl c_MOST_LENGTH (by decide))) qBN))))) qF) (by decide) (by rfl) (by rfl))) qw))
theorem sc_box_left:FnScope ["rows","columns","length","row_rest","column_rest"] ["rows","columns","length"] (qN Q0):=⟨rfl,rfl,rfl,by decide +kernel,rfl,by decide +kernel,by decide +kernel⟩
theorem jT (V:Env K mg a):DefG P w K mg base 6 "box_left" a.box_left 3 (Qu a):=by
 obtain ⟨fd,F⟩:=V.f_box_left
 obtain ⟨_,c_MOST_SIDE⟩:=V.c_MOST_SIDE
 refine wM (B:=ZH a) F sc_box_left (F.binds (ps:=["rows","columns","length"]) fun _ _ _ _ _ _ us hl=>match us,hl with |[_,_,_],_=>rfl) V.m_box_left (fun l st h=>qg h) (fun cdv A outer s H E hr hcm => ?_) (fun l s0 hl hn=>qd hl)
 have hu:=hr.units
 have hc:(wB (CXF P w) P w K mg base ["rows","columns","length","row_rest","column_rest"] "box_left" (qN Q0) a.box_left cdv A outer s H E).calm=true:=by show A.handled.isNone=true;rw [hcm (by omega)];rfl
 exact (@qO _ _ _ _ _ _ (@Q9 _ _ _ _ _ _ _ _ _ (@qAK _ _ _ _ (@YM _ _ _ _ _ _ _ _ (@Wu _ _ _ _ _ (@Wq _ _ _ _ (@qY _ _ _ _ _ _ _ _ _ ((Zh V).call (hr.mono (by omega)) Qi) (@qS _ _ _ _ _ _ _ (@qJ _ _ 0 _ _ (by rfl) (by rfl) (by rfl)) qF) (by rfl) (by rfl)) (by intro _;rfl))) (@zp _ _ _ _ _ (@Wu _ _ _ _ _ (@Wq _ _ _ _ (@qY _ _ _ _ _ _ _ _ _ ((Zh V).call (hr.mono (by omega)) Qi) (@qS _ _ _ _ _ _ _ (@qJ _ _ 1 _ _ (by rfl) (by rfl) (by rfl)) qF) (by rfl) (by rfl)) (by intro _;rfl)))))) (@qR _ _ _ _ (@Ym _ _ _ _ _ _ _ _ _ _ qDY hc rfl V.k_Z4 V.x_Z4 (@qFT _ _ _ _ _ _ _ (@jn _ _ _ _ _ _ _ (@We _ _ _ _ _ _ qz (@We _ _ _ _ _ _ (@jC _ _ _ _ _ (@Wc _ _ _ _ _ _ rfl c_MOST_SIDE (by decide))) qBN))) qF) (by decide) (by rfl) (by rfl))) qw) (@qO _ _ _ _ _ _ (@qCQ _ _ _ _ _ (@qY _ _ _ _ _ _ _ _ _ ((ZT V).call (hr.mono (by omega)) Qi) (@qS _ _ _ _ _ _ _ (@qJ _ _ 2 _ _ (by rfl) (by rfl) (by rfl)) qF) (by rfl) (by rfl)) (by rfl)) (@qO _ _ _ _ _ _ (@qh _ _ _ _ _ 3 _ _ sc_box_left.nd (@Wa _ _ _ _ _ _ _ (@qJ _ _ 0 _ _ (by rfl) (by rfl) (by rfl)) (@qJ _ _ 2 _ _ (by rfl) (by rfl) (by rfl))) (by rfl) (by first |exact Or.inl rfl |exact Or.inr rfl) (by rfl) (by first |exact .inl rfl |exact .inr rfl |assumption)) (@qO _ _ _ _ _ _ (@qh _ _ _ _ _ 4 _ _ sc_box_left.nd (@Wa _ _ _ _ _ _ _ (@qJ _ _ 1 _ _ (by rfl) (by rfl) (by rfl)) (@qJ _ _ 2 _ _ (by rfl) (by rfl) (by rfl))) (by rfl) (by first |exact Or.inl rfl |exact Or.inr rfl) (by rfl) (by first |exact .inl rfl |exact .inr rfl |assumption)) (@qO _ _ _ _ _ _ (@Q9 _ _ _ _ _ _ _ _ _ (@qAK _ _ _ _ (@qEG _ _ _ _ _ _ _ _ (@QL _ _ _ _ _ _ _ _ _ _ YV YR (@qJ _ _ 0 _ _ (by rfl) (by rfl) (by rfl)) (@qJ _ _ 2 _ _ (by rfl) (by rfl) (by rfl)) (by first |exact QJ _ |with_unfolding_all rfl)) (@qCK _ _ _ _ _ (@QL _ _ _ _ _ _ _ _ _ _ YV YR (@qJ _ _ 1 _ _ (by rfl) (by rfl) (by rfl)) (@qJ _ _ 2 _ _ (by rfl) (by rfl) (by rfl)) (by first |exact QJ _ |with_unfolding_all rfl))))) (@qR _ _ _ _ (@qm _ _ _ _ _ (@W9 _ _ _ _ _ _ _ (@wn _ _ _ _ _ _ _ _ _ (@QN _ _ _ _ _ _ _ (@qJ _ _ 3 _ _ (by rfl) (by rfl) (by rfl)) (@qJ _ _ 4 _ _ (by rfl) (by rfl) (by rfl))) (@wn _ _ _ _ _ _ _ _ _ (@QN _ _ _ _ _ _ _ (@Wv _ _ _ _ _ _ _ (@qJ _ _ 2 _ _ (by rfl) (by rfl) (by rfl)) (@qJ _ _ 3 _ _ (by rfl) (by rfl) (by rfl))) (@Wv _ _ _ _ _ _ _ (@qJ _ _ 2 _ _ (by rfl) (by rfl) (by rfl)) (@qJ _ _ 4 _ _ (by rfl) (by rfl) (by rfl)))) qF)) hc V.n_min (by rfl) (by rfl) (by rfl)))) qw) (@qO _ _ _ _ _ _ (@Q9 _ _ _ _ _ _ _ _ _ (@QL _ _ _ _ _ _ _ _ _ _ YV YR (@qJ _ _ 0 _ _ (by rfl) (by rfl) (by rfl)) (@qJ _ _ 2 _ _ (by rfl) (by rfl) (by rfl)) (by first |exact QJ _ |with_unfolding_all rfl)) (@qR _ _ _ _ (@qm _ _ _ _ _ (@QN _ _ _ _ _ _ _ (@qJ _ _ 1 _ _ (by rfl) (by rfl) (by rfl)) (@qJ _ _ 3 _ _ (by rfl) (by rfl) (by rfl))))) qw) (@qO _ _ _ _ _ _ (@Q9 _ _ _ _ _ _ _ _ _ (@QL _ _ _ _ _ _ _ _ _ _ YV YR (@qJ _ _ 1 _ _ (by rfl) (by rfl) (by rfl)) (@qJ _ _ 2 _ _ (by rfl) (by rfl) (by rfl)) (by first |exact QJ _ |with_unfolding_all rfl)) (@qR _ _ _ _ (@qm _ _ _ _ _ (@QN _ _ _ _ _ _ _ (@qJ _ _ 0 _ _ (by rfl) (by rfl) (by rfl)) (@qJ _ _ 4 _ _ (by rfl) (by rfl) (by rfl))))) qw) (@qR _ _ _ _ (@qm _ _ _ _ _ (@QN _ _ _ _ _ _ _ (@qJ _ _ 0 _ _ (by rfl) (by rfl) (by rfl)) (@qJ _ _ 1 _ _ (by rfl) (by rfl) (by rfl))))))))))))
theorem Yg:FnScope ["_law_script","_law_k"] ["_law_script","_law_k"] (qN wF):=⟨rfl,rfl,rfl,by decide +kernel,rfl,by decide +kernel,by decide +kernel⟩
theorem Y1 (V:Env K mg a):DefG P w K mg base 2 "_law_cell" a.law_cell 2 (WF a):=by
 obtain ⟨fd,F⟩:=V.f_law_cell
 refine wM (B:=z7 a) F Yg (F.binds (ps:=["_law_script","_law_k"]) fun _ _ _ _ _ _ us hl=>match us,hl with |[_,_],_=>rfl) V.m_law_cell (fun l st h=>qg h) (fun cdv A outer s H E hr hcm => ?_) (fun l s0 hl hn=>qd hl)
 have hu:=hr.units
 exact (@qO _ _ _ _ _ _ (@Q9 _ _ _ _ _ _ _ _ _ (@QL _ _ _ _ _ _ _ _ _ _ qAS qBj (@qJ _ _ 1 _ _ (by rfl) (by rfl) (by rfl)) (@yH _ _ _ _ _ _ _ (@qS _ _ _ _ _ _ _ (@qJ _ _ 0 _ _ (by rfl) (by rfl) (by rfl)) qF) V.n_len (by rfl) (by rfl) (by rfl)) (by first |exact QJ _ |with_unfolding_all rfl)) (@qR _ _ _ _ (@qm _ _ _ _ _ (@WJ _ _ _ _ _ _ _ (@qJ _ _ 0 _ _ (by rfl) (by rfl) (by rfl)) (@qJ _ _ 1 _ _ (by rfl) (by rfl) (by rfl)) (by exact fun _ _=>rfl)))) qw) (@qR _ _ _ _ (@qm _ _ _ _ _ (@QY _ _ _ _ _ _ _ (@QN _ _ _ _ _ _ _ qI (@qJ _ _ 1 _ _ (by rfl) (by rfl) (by rfl))) qI))))
theorem sc_law_mix:FnScope ["_law_cell_here","_law_k","_law_number"] ["_law_cell_here","_law_k"] (qN wU):=⟨rfl,rfl,rfl,by decide +kernel,rfl,by decide +kernel,by decide +kernel⟩
theorem qAJ (V:Env K mg a):DefG P w K mg base 2 "_law_mix" a.law_mix 2 (Wg a):=by
 obtain ⟨fd,F⟩:=V.f_law_mix
 refine wM (B:=Zt a) F sc_law_mix (F.binds (ps:=["_law_cell_here","_law_k"]) fun _ _ _ _ _ _ us hl=>match us,hl with |[_,_],_=>rfl) V.m_law_mix (fun l st h=>qg h) (fun cdv A outer s H E hr hcm => ?_) (fun l s0 hl hn=>qd hl)
 have hu:=hr.units
 exact (@qO _ _ _ _ _ _ (@qh _ _ _ _ _ 2 _ _ sc_law_mix.nd (@QY _ _ _ _ _ _ _ (@QN _ _ _ _ _ _ _ (@QY _ _ _ _ _ _ _ (@qJ _ _ 0 _ _ (by rfl) (by rfl) (by rfl)) qI) qI) (@QN _ _ _ _ _ _ _ qI (@qJ _ _ 1 _ _ (by rfl) (by rfl) (by rfl)))) (by rfl) (by first |exact Or.inl rfl |exact Or.inr rfl) (by rfl) (by first |exact .inl rfl |exact .inr rfl |assumption)) (@qO _ _ _ _ _ _ (@qh _ _ _ _ _ 2 _ _ sc_law_mix.nd (@QY _ _ _ _ _ _ _ (@Wa _ _ _ _ _ _ _ (@qCq _ _ _ _ _ _ _ (@qJ _ _ 2 _ _ (by rfl) (by rfl) (by rfl)) (@qJ _ _ 2 _ _ (by rfl) (by rfl) (by rfl))) qI) (@qJ _ _ 1 _ _ (by rfl) (by rfl) (by rfl))) (by rfl) (by first |exact Or.inl rfl |exact Or.inr rfl) (by rfl) (by first |exact .inl rfl |exact .inr rfl |assumption)) (@qR _ _ _ _ (@qm _ _ _ _ _ (@Wa _ _ _ _ _ _ _ (@QN _ _ _ _ _ _ _ (@qJ _ _ 2 _ _ (by rfl) (by rfl) (by rfl)) (@QY _ _ _ _ _ _ _ (@qJ _ _ 2 _ _ (by rfl) (by rfl) (by rfl)) qI)) qI)))))
theorem sc_law_box:FnScope ["_law_script","_law_k","_law_here","_law_number","_law_j"] ["_law_script","_law_k"] (qN wT):=⟨rfl,rfl,rfl,by decide +kernel,rfl,by decide +kernel,by decide +kernel⟩
theorem Jr (V:Env K mg a):DefG P w K mg base 3 "_law_box" a.law_box 2 (wu a):=by
 obtain ⟨fd,F⟩:=V.f_law_box
 refine wM (B:=Zc a) F sc_law_box (F.binds (ps:=["_law_script","_law_k"]) fun _ _ _ _ _ _ us hl=>match us,hl with |[_,_],_=>rfl) V.m_law_box (fun l st h=>qg h) (fun cdv A outer s H E hr hcm => ?_) (fun l s0 hl hn=>qd hl)
 have hu:=hr.units
 exact (@qO _ _ _ _ _ _ (@qh _ _ _ _ _ 2 _ _ sc_law_box.nd (@qY _ _ _ _ _ _ _ _ _ ((Y1 V).call (hr.mono (by omega)) Qi) (@qS _ _ _ _ _ _ _ (@qJ _ _ 0 _ _ (by rfl) (by rfl) (by rfl)) (@qS _ _ _ _ _ _ _ (@qJ _ _ 1 _ _ (by rfl) (by rfl) (by rfl)) qF)) (by rfl) (by rfl)) (by rfl) (by first |exact Or.inl rfl |exact Or.inr rfl) (by rfl) (by first |exact .inl rfl |exact .inr rfl |assumption)) (@qO _ _ _ _ _ _ (@Q9 _ _ _ _ _ _ _ _ _ (@QL _ _ _ _ _ _ _ _ _ _ (qAd hu) qDX (@Wa _ _ _ _ _ _ _ (@qJ _ _ 2 _ _ (by rfl) (by rfl) (by rfl)) qI) qI (by first |exact QJ _ |with_unfolding_all rfl)) (@qR _ _ _ _ (@jz _ _ _ _ _ (@Qo _ _ _ _ _ (@wn _ _ _ _ _ _ _ _ _ (@jZ _ _ _ _ _ _ _ (@qJ _ _ 2 _ _ (by rfl) (by rfl) (by rfl)) qI) qF)))) qw) (@qO _ _ _ _ _ _ (@qh _ _ _ _ _ 3 _ _ sc_law_box.nd qI (by rfl) (by first |exact Or.inl rfl |exact Or.inr rfl) (by rfl) (by first |exact .inl rfl |exact .inr rfl |assumption)) (@qO _ _ _ _ _ _ (@zQ _ _ _ _ _ _ _ _ _ (@wW _ _ _ _ _ _ _ rfl V.n_range (@qa _ _ _ _ _ _ _ _ qI qF) (by rfl)) (@QV _ _ 4 _ sc_law_box.nd (by rfl) (by first |exact Or.inl rfl |exact Or.inr rfl) (by first |exact .inl rfl |exact .inr rfl |assumption)) (@qR _ _ _ _ (@qh _ _ _ _ _ 3 _ _ sc_law_box.nd (@QY _ _ _ _ _ _ _ (@QN _ _ _ _ _ _ _ (@qJ _ _ 3 _ _ (by rfl) (by rfl) (by rfl)) qI) (@qY _ _ _ _ _ _ _ _ _ ((qAJ V).call (hr.mono (by omega)) (qo _)) (@qS _ _ _ _ _ _ _ (@qJ _ _ 2 _ _ (by rfl) (by rfl) (by rfl)) (@qS _ _ _ _ _ _ _ (@qJ _ _ 4 _ _ (by rfl) (by rfl) (by rfl)) qF)) (by rfl) (by rfl))) (by rfl) (by first |exact Or.inl rfl |exact Or.inr rfl) (by rfl) (by first |exact .inl rfl |exact .inr rfl |assumption))) (by intro _;rfl)) (@qR _ _ _ _ (@jz _ _ _ _ _ (@Qo _ _ _ _ _ (@qS _ _ _ _ _ _ _ (@qJ _ _ 3 _ _ (by rfl) (by rfl) (by rfl)) qF))))))))
theorem sc_law_take:FnScope ["_law_box_here","_law_many","_law_left","_law_digit"] ["_law_box_here","_law_many"] (qN Qx):=⟨rfl,rfl,rfl,by decide +kernel,rfl,by decide +kernel,by decide +kernel⟩
theorem Qy (V:Env K mg a):DefG P w K mg base 2 "_law_take" a.law_take 2 (qZ a):=by
 obtain ⟨fd,F⟩:=V.f_law_take
 refine wM (B:=zl a) F sc_law_take (F.binds (ps:=["_law_box_here","_law_many"]) fun _ _ _ _ _ _ us hl=>match us,hl with |[_,_],_=>rfl) V.m_law_take (fun l st h=>qg h) (fun cdv A outer s H E hr hcm => ?_) (fun l s0 hl hn=>qd hl)
 have hu:=hr.units
 have hc:(wB (CXF P w) P w K mg base ["_law_box_here","_law_many","_law_left","_law_digit"] "_law_take" (qN Qx) a.law_take cdv A outer s H E).calm=true:=by show A.handled.isNone=true;rw [hcm (by omega)];rfl
 exact (@qO _ _ _ _ _ _ (@qAo _ _ _ _ _ _ _ (@qAF _ _ _ _ _ _ _ (@yJ _ _ _ _ _ _ _ _ (@WJ _ _ _ _ _ _ _ (@qJ _ _ 0 _ _ (by rfl) (by rfl) (by rfl)) qI (by exact fun _ _=>rfl)) (@qS _ _ _ _ _ _ _ (@qJ _ _ 1 _ _ (by rfl) (by rfl) (by rfl)) qF)) V.n_divmod (by rfl) (by rfl) (by rfl)) (@Yy _ _ _ _ _ _ hc (@wY _ _ _ _ _ (@QV _ _ 2 _ sc_law_take.nd (by rfl) (by first |exact Or.inl rfl |exact Or.inr rfl) (by first |exact .inl rfl |exact .inr rfl |assumption)) (@wY _ _ _ _ _ (@QV _ _ 3 _ sc_law_take.nd (by rfl) (by first |exact Or.inl rfl |exact Or.inr rfl) (by first |exact .inl rfl |exact .inr rfl |assumption)) yV (by rfl)) (by rfl)) (by rfl) (by rfl)) (by rfl) (by rfl) (by rfl)) (@qO _ _ _ _ _ _ (@qEw _ _ _ _ _ _ _ _ _ _ (@qJ _ _ 0 _ _ (by rfl) (by rfl) (by rfl)) qI (@qJ _ _ 2 _ _ (by rfl) (by rfl) (by rfl)) (by rfl) (by rfl) (by rfl) (by intro _;rfl)) (@qR _ _ _ _ (@qm _ _ _ _ _ (@qJ _ _ 3 _ _ (by rfl) (by rfl) (by rfl))))))
theorem sc_law_cover:FnScope ["_law_bar","_law_length","_law_row","_law_column","_law_way"] ["_law_bar","_law_length"] (qN Qb):=⟨rfl,rfl,rfl,by decide +kernel,rfl,by decide +kernel,by decide +kernel⟩
theorem yt (V:Env K mg a):DefG P w K mg base 2 "_law_cover" a.law_cover 2 (Qg a):=by
 obtain ⟨fd,F⟩:=V.f_law_cover
 refine wM (B:=zX a) F sc_law_cover (F.binds (ps:=["_law_bar","_law_length"]) fun _ _ _ _ _ _ us hl=>match us,hl with |[_,_],_=>rfl) V.m_law_cover (fun l st h=>qg h) (fun cdv A outer s H E hr hcm => ?_) (fun l s0 hl hn=>qd hl)
 have hu:=hr.units
 have hc:(wB (CXF P w) P w K mg base ["_law_bar","_law_length","_law_row","_law_column","_law_way"] "_law_cover" (qN Qb) a.law_cover cdv A outer s H E).calm=true:=by show A.handled.isNone=true;rw [hcm (by omega)];rfl
 exact (@qO _ _ _ _ _ _ (@qAo _ _ _ _ _ _ _ (@qJ _ _ 0 _ _ (by rfl) (by rfl) (by rfl)) (@Yy _ _ _ _ _ _ hc (@wY _ _ _ _ _ (@QV _ _ 2 _ sc_law_cover.nd (by rfl) (by first |exact Or.inl rfl |exact Or.inr rfl) (by first |exact .inl rfl |exact .inr rfl |assumption)) (@wY _ _ _ _ _ (@QV _ _ 3 _ sc_law_cover.nd (by rfl) (by first |exact Or.inl rfl |exact Or.inr rfl) (by first |exact .inl rfl |exact .inr rfl |assumption)) (@wY _ _ _ _ _ (@QV _ _ 4 _ sc_law_cover.nd (by rfl) (by first |exact Or.inl rfl |exact Or.inr rfl) (by first |exact .inl rfl |exact .inr rfl |assumption)) yV (by rfl)) (by rfl)) (by rfl)) (by rfl) (by rfl)) (by rfl) (by rfl) (by rfl)) (@qR _ _ _ _ (@qm _ _ _ _ _ (@Qr _ _ _ _ (@zh _ _ _ _ _ _ _ (["_law_row","_law_way","_law_column"]) (["_law_k"]) ([2,4,3]) _ _ _ _ _ (by exact ZD rfl (by decide +kernel) rfl rfl ⟨⟨rfl,rfl⟩,⟨⟨rfl,rfl⟩,⟨⟨rfl,rfl⟩,trivial⟩⟩⟩) (@wW _ _ _ _ _ _ _ rfl V.n_range (@qS _ _ _ _ _ _ _ (@qJ _ _ 1 _ _ (by rfl) (by rfl) (by rfl)) qF) (by rfl)) (fun s' H' fp pn=>⟨(@qv _ _ _ _ _ _ (@wn _ _ _ _ _ _ _ _ _ (@QY _ _ _ _ _ _ _ (@qJ _ _ 0 _ _ (by rfl) (by rfl) (by rfl)) (@QN _ _ _ _ _ _ _ (@qJ _ _ 3 _ _ (by rfl) (by rfl) (by rfl)) (@qJ _ _ 1 _ _ (by rfl) (by rfl) (by rfl)))) (@wn _ _ _ _ _ _ _ _ _ (@Wv _ _ _ _ _ _ _ (@QY _ _ _ _ _ _ _ (@qJ _ _ 2 _ _ (by rfl) (by rfl) (by rfl)) (@qJ _ _ 3 _ _ (by rfl) (by rfl) (by rfl))) (@QN _ _ _ _ _ _ _ (@qJ _ _ 3 _ _ (by rfl) (by rfl) (by rfl)) (@qJ _ _ 1 _ _ (by rfl) (by rfl) (by rfl)))) qF))),⟨(@zw _ _ 3 _ (show (["_law_row","_law_way","_law_column","_law_k"]:List Str).Nodup by decide +kernel) (by rfl) (by first |exact Or.inl rfl |exact Or.inr rfl) (by first |exact .inl rfl |exact .inr rfl |assumption)),(wy 3),TsOk.nil,rfl⟩,GsOk.nil⟩) (by intro _;rfl))))))
theorem yO:FnScope ["_law_found"] ["_law_found"] (qN Q3):=⟨rfl,rfl,rfl,by decide +kernel,rfl,by decide +kernel,by decide +kernel⟩
theorem zU (V:Env K mg a):DefG P w K mg base 2 "_law_whole" a.law_whole 1 (qx a):=by
 obtain ⟨fd,F⟩:=V.f_law_whole
 refine wM (B:=zY a) F yO (F.binds (ps:=["_law_found"]) fun _ _ _ _ _ _ us hl=>match us,hl with |[_],_=>rfl) V.m_law_whole (fun l st h=>qg h) (fun cdv A outer s H E hr hcm => ?_) (fun l s0 hl hn=>qd hl)
 have hu:=hr.units
 exact (@qR _ _ _ _ (@qm _ _ _ _ _ (@Yt _ _ _ _ _ _ _ _ (@Qn _ _ _ _ _ _ _ _ V.kit V.n_isinstance (@qS _ _ _ _ _ _ _ (@qJ _ _ 0 _ _ (by rfl) (by rfl) (by rfl)) (@qS _ _ _ _ _ _ _ (@Yd _ _ _ _ _ rfl V.n_int Boot.«int» (by decide) (by decide)) qF)) (by rfl) (by rfl) (by rfl)) (@jA _ _ _ _ _ _ (@qB9 _ _ _ _ _ (@Qn _ _ _ _ _ _ _ _ V.kit V.n_isinstance (@qS _ _ _ _ _ _ _ (@qJ _ _ 0 _ _ (by rfl) (by rfl) (by rfl)) (@qS _ _ _ _ _ _ _ (@Yd _ _ _ _ _ rfl V.n_bool Boot.«bool» (by decide) (by decide)) qF)) (by rfl) (by rfl) (by rfl)))))))
theorem sc_law_odd:FnScope ["_law_box_here","_law_some"] ["_law_box_here"] (qN wS):=⟨rfl,rfl,rfl,by decide +kernel,rfl,by decide +kernel,by decide +kernel⟩
theorem JX (V:Env K mg a):DefG P w K mg base 3 "_law_odd" a.law_odd 1 (Wf a):=by
 obtain ⟨fd,F⟩:=V.f_law_odd
 refine wM (B:=Zv a) F sc_law_odd (F.binds (ps:=["_law_box_here"]) fun _ _ _ _ _ _ us hl=>match us,hl with |[_],_=>rfl) V.m_law_odd (fun l st h=>qg h) (fun cdv A outer s H E hr hcm => ?_) (fun l s0 hl hn=>qd hl)
 have hu:=hr.units
 exact (@qO _ _ _ _ _ _ (@qh _ _ _ _ _ 1 _ _ sc_law_odd.nd (@Qr _ _ _ _ (@Qo _ _ _ _ _ (@qa _ _ _ _ _ _ _ _ Yx (@qa _ _ _ _ _ _ _ _ WK (@qa _ _ _ _ _ _ _ _ WK (@qDt _ _ _ _ _ _ _ _ (@jK _ _ _ _ _ qI) (@qa _ _ _ _ _ _ _ _ qI (@qa _ _ _ _ _ _ _ _ qI (@qa _ _ _ _ _ _ _ _ qI (@qa _ _ _ _ _ _ _ _ qI (@qa _ _ _ _ _ _ _ _ qI (@qa _ _ _ _ _ _ _ _ qz (@qa _ _ _ _ _ _ _ _ qz (@qa _ _ _ _ _ _ _ _ qz (@wx _ _ _ _ _ _ _ _ (@qv _ _ _ _ _ _ qF) (@wx _ _ _ _ _ _ _ _ (@qv _ _ _ _ _ _ (@qa _ _ _ _ _ _ _ _ qI qF)) (@wx _ _ _ _ _ _ _ _ (@qv _ _ _ _ _ _ (@qa _ _ _ _ _ _ _ _ qI (@qa _ _ _ _ _ _ _ _ qI qF))) (@wx _ _ _ _ _ _ _ _ (@qv _ _ _ _ _ _ (@qa _ _ _ _ _ _ _ _ qI (@qa _ _ _ _ _ _ _ _ qI (@qa _ _ _ _ _ _ _ _ qI qF)))) (@qGE _ _ _ _ _ _ _ (@Qr _ _ _ _ (@Qo _ _ _ _ _ (@qa _ _ _ _ _ _ _ _ qI qF))) (@qHM _ _ _ _ _ _ _ _ qD2 (@wx _ _ _ _ _ _ _ _ (@qv _ _ _ _ _ _ (@qa _ _ _ _ _ _ _ _ qI (@qa _ _ _ _ _ _ _ _ qI (@qa _ _ _ _ _ _ _ _ WK qF)))) qF))))))))))))))))))))) (by rfl) (by first |exact Or.inl rfl |exact Or.inr rfl) (by rfl) (by first |exact .inl rfl |exact .inr rfl |assumption)) (@qO _ _ _ _ _ _ (@qh _ _ _ _ _ 1 _ _ sc_law_odd.nd (@Qr _ _ _ _ (@jJ _ _ _ _ _ _ _ (@qJ _ _ 1 _ _ (by rfl) (by rfl) (by rfl)) (@Qr _ _ _ _ (@Qo _ _ _ _ _ (@wx _ _ _ _ _ _ _ _ (@qv _ _ _ _ _ _ (@wx _ _ _ _ _ _ _ _ (@qv _ _ _ _ _ _ (@qa _ _ _ _ _ _ _ _ qI (@qa _ _ _ _ _ _ _ _ qI (@qa _ _ _ _ _ _ _ _ qI qF)))) qF)) (@wx _ _ _ _ _ _ _ _ (@qv _ _ _ _ _ _ (@wx _ _ _ _ _ _ _ _ (@qv _ _ _ _ _ _ (@qa _ _ _ _ _ _ _ _ qI (@qa _ _ _ _ _ _ _ _ qI (@qa _ _ _ _ _ _ _ _ qI qF)))) qF)) (@qGE _ _ _ _ _ _ _ (@Qr _ _ _ _ (@Qo _ _ _ _ _ (@wx _ _ _ _ _ _ _ _ (@qv _ _ _ _ _ _ (@qa _ _ _ _ _ _ _ _ qI (@qa _ _ _ _ _ _ _ _ qI (@qa _ _ _ _ _ _ _ _ qI qF)))) qF))) (@wn _ _ _ _ _ _ _ _ _ (@Wt _ _ _ _ _ _ _ qI qI) (@wx _ _ _ _ _ _ _ _ (@qv _ _ _ _ _ _ (@qa _ _ _ _ _ _ _ _ qI (@qa _ _ _ _ _ _ _ _ qI (@qa _ _ _ _ _ _ _ _ qI qF)))) (@wx _ _ _ _ _ _ _ _ (@qv _ _ _ _ _ _ (@qa _ _ _ _ _ _ _ _ qI (@qDt _ _ _ _ _ _ _ _ (@jK _ _ _ _ _ qI) (@qa _ _ _ _ _ _ _ _ qI qF)))) (@wx _ _ _ _ _ _ _ _ (@qv _ _ _ _ _ _ (@wx _ _ _ _ _ _ _ _ (@qv _ _ _ _ _ _ (@qa _ _ _ _ _ _ _ _ qI (@qa _ _ _ _ _ _ _ _ qI qF))) qF)) (@wx _ _ _ _ _ _ _ _ (@qv _ _ _ _ _ _ (@qa _ _ _ _ _ _ _ _ qI (@qa _ _ _ _ _ _ _ _ qI (@qa _ _ _ _ _ _ _ _ qI (@qa _ _ _ _ _ _ _ _ qI qF))))) qF)))))))))))) (by rfl) (by first |exact Or.inl rfl |exact Or.inr rfl) (by rfl) (by first |exact .inl rfl |exact .inr rfl |assumption)) (@qR _ _ _ _ (@qm _ _ _ _ _ (@WJ _ _ _ _ _ _ _ (@qJ _ _ 1 _ _ (by rfl) (by rfl) (by rfl)) (@qY _ _ _ _ _ _ _ _ _ ((Qy V).call (hr.mono (by omega)) Qi) (@qS _ _ _ _ _ _ _ (@qJ _ _ 0 _ _ (by rfl) (by rfl) (by rfl)) (@wf _ _ _ _ _ _ _ _ _ (@yH _ _ _ _ _ _ _ (@qS _ _ _ _ _ _ _ (@qJ _ _ 1 _ _ (by rfl) (by rfl) (by rfl)) qF) V.n_len (by rfl) (by rfl) (by rfl)) qF)) (by rfl) (by rfl)) (by exact fun _ _=>rfl))))))
theorem sc_law_best:FnScope ["_law_floor","_law_length","_law_kept","_law_best_here","_law_later","_law_left","_law_way","_law_some","_law_rest"] ["_law_floor","_law_length"] (qN Qv):=⟨rfl,rfl,rfl,by decide +kernel,rfl,by decide +kernel,by decide +kernel⟩
theorem jH (V:Env K mg a):DefG P w K mg base 3 "_law_best" a.law_best 2 (w5 a):=by
 obtain ⟨fd,F⟩:=V.f_law_best
 refine wM (B:=ZL a) F sc_law_best (F.binds (ps:=["_law_floor","_law_length"]) fun _ _ _ _ _ _ us hl=>match us,hl with |[_,_],_=>rfl) V.m_law_best (fun l st h=>qg h) (fun cdv A outer s H E hr hcm => ?_) (fun l s0 hl hn=>qd hl)
 have hu:=hr.units
 have hc:(wB (CXF P w) P w K mg base ["_law_floor","_law_length","_law_kept","_law_best_here","_law_later","_law_left","_law_way","_law_some","_law_rest"] "_law_best" (qN Qv) a.law_best cdv A outer s H E).calm=true:=by show A.handled.isNone=true;rw [hcm (by omega)];rfl
 exact (@qO _ _ _ _ _ _ (@qh _ _ _ _ _ 2 _ _ sc_law_best.nd (@J6 _ _ _ _ _ _ _ (Ao (A0 (by decide) _) hu) (@zJ _ _ _ _ _ _ _ (@qS _ _ _ _ _ _ _ (@qJ _ _ 0 _ _ (by rfl) (by rfl) (by rfl)) qF) V.n_tuple (by rfl) (by rfl) (by rfl)) qI) (by rfl) (by first |exact Or.inl rfl |exact Or.inr rfl) (by rfl) (by first |exact .inl rfl |exact .inr rfl |assumption)) (@qO _ _ _ _ _ _ (@qh _ _ _ _ _ 3 _ _ sc_law_best.nd qI (by rfl) (by first |exact Or.inl rfl |exact Or.inr rfl) (by rfl) (by first |exact .inl rfl |exact .inr rfl |assumption)) (@qO _ _ _ _ _ _ (@qBY _ _ _ _ _ 30 _ _ (@QL _ _ _ _ _ _ _ _ _ _ (qFC hu) qEU (@qJ _ _ 2 _ _ (by rfl) (by rfl) (by rfl)) jp (by first |exact QJ _ |with_unfolding_all rfl)) (@qO _ _ _ _ _ _ (@qh _ _ _ _ _ 4 _ _ sc_law_best.nd jp (by rfl) (by first |exact Or.inl rfl |exact Or.inr rfl) (by rfl) (by first |exact .inl rfl |exact .inr rfl |assumption)) (@qO _ _ _ _ _ _ (@qBE _ _ _ _ _ _ _ _ _ (@qJ _ _ 2 _ _ (by rfl) (by rfl) (by rfl)) (@QV _ _ 5 _ sc_law_best.nd (by rfl) (by first |exact Or.inl rfl |exact Or.inr rfl) (by first |exact .inl rfl |exact .inr rfl |assumption)) (@qO _ _ _ _ _ _ (@qh _ _ _ _ _ 3 _ _ sc_law_best.nd (@W1 _ _ _ _ _ _ _ (@qS _ _ _ _ _ _ _ (@qJ _ _ 3 _ _ (by rfl) (by rfl) (by rfl)) (@yJ _ _ _ _ _ _ _ _ (@jQ _ _ _ _ _ _ _ (Ao (A0 (by decide) _) hu) (@qJ _ _ 2 _ _ (by rfl) (by rfl) (by rfl)) (@qJ _ _ 5 _ _ (by rfl) (by rfl) (by rfl)) (by exact fun _ _=>rfl)) qF)) hc V.n_max (by rfl) (by rfl) (by rfl)) (by rfl) (by first |exact Or.inl rfl |exact Or.inr rfl) (by rfl) (by first |exact .inl rfl |exact .inr rfl |assumption)) (@qR _ _ _ _ (@Q9 _ _ _ _ _ _ _ _ _ (@QL _ _ _ _ _ _ _ _ _ _ (Wp hu) zn (@qJ _ _ 5 _ _ (by rfl) (by rfl) (by rfl)) (@qv _ _ _ _ _ _ qF) (by first |exact QJ _ |with_unfolding_all rfl)) (@qO _ _ _ _ _ _ (@JP _ _ _ _ _ _ _ _ _ _ (Ao (A0 (by decide) _) hu) (@qJ _ _ 4 _ _ (by rfl) (by rfl) (by rfl)) (@qBu _ _ _ _ _ _ _ _ _ _ (@qJ _ _ 5 _ _ (by rfl) (by rfl) (by rfl)) (@JG _ _ _ _ qI) j9) (@W1 _ _ _ _ _ _ _ (@wf _ _ _ _ _ _ _ _ _ (@Yi _ _ _ _ _ _ _ _ _ _ (Ao (A0 (by decide) _) hu) (@qJ _ _ 4 _ _ (by rfl) (by rfl) (by rfl)) (@qBu _ _ _ _ _ _ _ _ _ _ (@qJ _ _ 5 _ _ (by rfl) (by rfl) (by rfl)) (@JG _ _ _ _ qI) j9) qI (by rfl) (by rfl) (by rfl) (by rfl)) (@yJ _ _ _ _ _ _ _ _ (@jQ _ _ _ _ _ _ _ (Ao (A0 (by decide) _) hu) (@qJ _ _ 2 _ _ (by rfl) (by rfl) (by rfl)) (@qJ _ _ 5 _ _ (by rfl) (by rfl) (by rfl)) (by exact fun _ _=>rfl)) qF)) hc V.n_max (by rfl) (by rfl) (by rfl)) (by rfl)) (@qR _ _ _ _ (@zQ _ _ _ _ _ _ _ _ _ (@wW _ _ _ _ _ _ _ rfl V.n_range (@qa _ _ _ _ _ _ _ _ qI qF) (by rfl)) (@QV _ _ 6 _ sc_law_best.nd (by rfl) (by first |exact Or.inl rfl |exact Or.inr rfl) (by first |exact .inl rfl |exact .inr rfl |assumption)) (@qO _ _ _ _ _ _ (@qh _ _ _ _ _ 7 _ _ sc_law_best.nd (@qY _ _ _ _ _ _ _ _ _ ((yt V).call (hr.mono (by omega)) (qo _)) (@wn _ _ _ _ _ _ _ _ _ (@qCs _ _ _ _ _ _ _ (@WJ _ _ _ _ _ _ _ (@qJ _ _ 5 _ _ (by rfl) (by rfl) (by rfl)) qI (by exact fun _ _=>rfl)) (@qv _ _ _ _ _ _ (@qS _ _ _ _ _ _ _ (@qJ _ _ 6 _ _ (by rfl) (by rfl) (by rfl)) qF))) (@qS _ _ _ _ _ _ _ (@qJ _ _ 1 _ _ (by rfl) (by rfl) (by rfl)) qF)) (by rfl) (by rfl)) (by rfl) (by first |exact Or.inl rfl |exact Or.inr rfl) (by rfl) (by first |exact .inl rfl |exact .inr rfl |assumption)) (@qR _ _ _ _ (@Q9 _ _ _ _ _ _ _ _ _ (@QL _ _ _ _ _ _ _ _ _ _ (qAd hu) qDX (@Qr _ _ _ _ (@zh _ _ _ _ _ _ _ (["_law_left"]) (["_law_cell_here"]) ([5]) _ _ _ _ _ (by exact ZD rfl (by decide +kernel) rfl rfl ⟨⟨rfl,rfl⟩,trivial⟩) (@z6 _ _ _ _ _ (@qJ _ _ 7 _ _ (by rfl) (by rfl) (by rfl))) (fun s' H' fp pn=>⟨(@qJ _ _ 1 _ _ (by rfl) (by rfl) (by rfl)),⟨(@zw _ _ 1 _ (show (["_law_left","_law_cell_here"]:List Str).Nodup by decide +kernel) (by rfl) (by first |exact Or.inl rfl |exact Or.inr rfl) (by first |exact .inl rfl |exact .inr rfl |assumption)),(wy 1),(TsOk.cons (@QL _ _ _ _ _ _ _ _ _ _ (Z0 hu) qDb (@qJ _ _ 1 _ _ (by rfl) (by rfl) (by rfl)) (@qJ _ _ 0 _ _ (by rfl) (by rfl) (by rfl)) (by first |exact QJ _ |with_unfolding_all rfl)) TsOk.nil),rfl⟩,GsOk.nil⟩) (by intro _;rfl))) (@Qr _ _ _ _ (@Qo _ _ _ _ _ qF)) (by first |exact QJ _ |with_unfolding_all rfl)) (@qO _ _ _ _ _ _ (@qh _ _ _ _ _ 8 _ _ sc_law_best.nd (@zJ _ _ _ _ _ _ _ (@qFn _ _ _ _ _ _ _ _ _ (@Qr _ _ _ _ (@zh _ _ _ _ _ _ _ (["_law_some"]) (["_law_cell_here"]) ([7]) _ _ _ _ _ (by exact ZD rfl (by decide +kernel) rfl rfl ⟨⟨rfl,rfl⟩,trivial⟩) (@z6 _ _ _ _ _ (@qJ _ _ 5 _ _ (by rfl) (by rfl) (by rfl))) (fun s' H' fp pn=>⟨(@qJ _ _ 1 _ _ (by rfl) (by rfl) (by rfl)),⟨(@zw _ _ 1 _ (show (["_law_some","_law_cell_here"]:List Str).Nodup by decide +kernel) (by rfl) (by first |exact Or.inl rfl |exact Or.inr rfl) (by first |exact .inl rfl |exact .inr rfl |assumption)),(wy 1),(TsOk.cons (@QL _ _ _ _ _ _ _ _ _ _ (Z0 hu) qDb (@qJ _ _ 1 _ _ (by rfl) (by rfl) (by rfl)) (@qJ _ _ 0 _ _ (by rfl) (by rfl) (by rfl)) (by first |exact QJ _ |with_unfolding_all rfl)) TsOk.nil),rfl⟩,GsOk.nil⟩) (by intro _;rfl))) qF) V.n_tuple (by rfl) (by rfl) (by rfl)) (by rfl) (by first |exact Or.inl rfl |exact Or.inr rfl) (by rfl) (by first |exact .inl rfl |exact .inr rfl |assumption)) (@qR _ _ _ _ (@JP _ _ _ _ _ _ _ _ _ _ (Ao (A0 (by decide) _) hu) (@qJ _ _ 4 _ _ (by rfl) (by rfl) (by rfl)) (@qJ _ _ 8 _ _ (by rfl) (by rfl) (by rfl)) (@W1 _ _ _ _ _ _ _ (@wf _ _ _ _ _ _ _ _ _ (@Yi _ _ _ _ _ _ _ _ _ _ (Ao (A0 (by decide) _) hu) (@qJ _ _ 4 _ _ (by rfl) (by rfl) (by rfl)) (@qJ _ _ 8 _ _ (by rfl) (by rfl) (by rfl)) qI (by rfl) (by rfl) (by rfl) (by rfl)) (@wn _ _ _ _ _ _ _ _ _ (@QY _ _ _ _ _ _ _ (@jQ _ _ _ _ _ _ _ (Ao (A0 (by decide) _) hu) (@qJ _ _ 2 _ _ (by rfl) (by rfl) (by rfl)) (@qJ _ _ 5 _ _ (by rfl) (by rfl) (by rfl)) (by exact fun _ _=>rfl)) qI) qF)) hc V.n_max (by rfl) (by rfl) (by rfl)) (by rfl)))) qw))) (by intro _;rfl)))) qw))) (by intro _;rfl)) (@qR _ _ _ _ (@qh _ _ _ _ _ 2 _ _ sc_law_best.nd (@qJ _ _ 4 _ _ (by rfl) (by rfl) (by rfl)) (by rfl) (by first |exact Or.inl rfl |exact Or.inr rfl) (by rfl) (by first |exact .inl rfl |exact .inr rfl |assumption)))))) (@qR _ _ _ _ (@qm _ _ _ _ _ (@qJ _ _ 3 _ _ (by rfl) (by rfl) (by rfl)))))))
theorem sc_law_kind:FnScope ["_law_e","_law_kinds","_law_words_here"] ["_law_e"] (qN wD):=⟨rfl,rfl,rfl,by decide +kernel,rfl,by decide +kernel,by decide +kernel⟩
theorem jD (V:Env K mg a):DefG P w K mg base 1 "_law_kind" a.law_kind 1 (wJ a):=by
 obtain ⟨fd,F⟩:=V.f_law_kind
 refine wM (B:=zu a) F sc_law_kind (F.binds (ps:=["_law_e"]) fun _ _ _ _ _ _ us hl=>match us,hl with |[_],_=>rfl) V.m_law_kind (fun l st h=>qg h) (fun cdv A outer s H E hr hcm => ?_) (fun l s0 hl hn=>qd hl)
 have hu:=hr.units
 exact (@qO _ _ _ _ _ _ (@qh _ _ _ _ _ 1 _ _ sc_law_kind.nd (@Qr _ _ _ _ (@Qo _ _ _ _ _ (@wf _ _ _ _ _ _ _ _ _ (@Qn _ _ _ _ _ _ _ _ V.kit V.n_isinstance (@qS _ _ _ _ _ _ _ (@qJ _ _ 0 _ _ (by rfl) (by rfl) (by rfl)) (@qS _ _ _ _ _ _ _ (@WT _ _ _ _ _ rfl V.k_Z1 (by decide)) qF)) (by rfl) (by rfl) (by rfl)) (@wf _ _ _ _ _ _ _ _ _ (@Qn _ _ _ _ _ _ _ _ V.kit V.n_isinstance (@qS _ _ _ _ _ _ _ (@qJ _ _ 0 _ _ (by rfl) (by rfl) (by rfl)) (@qS _ _ _ _ _ _ _ (@WT _ _ _ _ _ rfl V.k_Z2 (by decide)) qF)) (by rfl) (by rfl) (by rfl)) (@wf _ _ _ _ _ _ _ _ _ (@Qn _ _ _ _ _ _ _ _ V.kit V.n_isinstance (@qS _ _ _ _ _ _ _ (@qJ _ _ 0 _ _ (by rfl) (by rfl) (by rfl)) (@qS _ _ _ _ _ _ _ (@WT _ _ _ _ _ rfl V.k_Z3 (by decide)) qF)) (by rfl) (by rfl) (by rfl)) (@wf _ _ _ _ _ _ _ _ _ (@Qn _ _ _ _ _ _ _ _ V.kit V.n_isinstance (@qS _ _ _ _ _ _ _ (@qJ _ _ 0 _ _ (by rfl) (by rfl) (by rfl)) (@qS _ _ _ _ _ _ _ (@WT _ _ _ _ _ rfl V.k_Z4 (by decide)) qF)) (by rfl) (by rfl) (by rfl)) qF)))))) (by rfl) (by first |exact Or.inl rfl |exact Or.inr rfl) (by rfl) (by first |exact .inl rfl |exact .inr rfl |assumption)) (@qO _ _ _ _ _ _ (@qh _ _ _ _ _ 1 _ _ sc_law_kind.nd (@Qr _ _ _ _ (@jJ _ _ _ _ _ _ _ (@qJ _ _ 1 _ _ (by rfl) (by rfl) (by rfl)) (@Qr _ _ _ _ (@Qo _ _ _ _ _ (@wf _ _ _ _ _ _ _ _ _ (@Qn _ _ _ _ _ _ _ _ V.kit V.n_isinstance (@qS _ _ _ _ _ _ _ (@qJ _ _ 0 _ _ (by rfl) (by rfl) (by rfl)) (@qS _ _ _ _ _ _ _ (@WT _ _ _ _ _ rfl V.k_Z5 (by decide)) qF)) (by rfl) (by rfl) (by rfl)) (@wf _ _ _ _ _ _ _ _ _ (@Qn _ _ _ _ _ _ _ _ V.kit V.n_isinstance (@qS _ _ _ _ _ _ _ (@qJ _ _ 0 _ _ (by rfl) (by rfl) (by rfl)) (@qS _ _ _ _ _ _ _ (@WT _ _ _ _ _ rfl V.k_Z6 (by decide)) qF)) (by rfl) (by rfl) (by rfl)) (@wf _ _ _ _ _ _ _ _ _ (@Qn _ _ _ _ _ _ _ _ V.kit V.n_isinstance (@qS _ _ _ _ _ _ _ (@qJ _ _ 0 _ _ (by rfl) (by rfl) (by rfl)) (@qS _ _ _ _ _ _ _ (@WT _ _ _ _ _ rfl V.k_Z7 (by decide)) qF)) (by rfl) (by rfl) (by rfl)) (@wf _ _ _ _ _ _ _ _ _ (@Qn _ _ _ _ _ _ _ _ V.kit V.n_isinstance (@qS _ _ _ _ _ _ _ (@qJ _ _ 0 _ _ (by rfl) (by rfl) (by rfl)) (@qS _ _ _ _ _ _ _ (@WT _ _ _ _ _ rfl V.k_Z8 (by decide)) qF)) (by rfl) (by rfl) (by rfl)) qF)))))))) (by rfl) (by first |exact Or.inl rfl |exact Or.inr rfl) (by rfl) (by first |exact .inl rfl |exact .inr rfl |assumption)) (@qO _ _ _ _ _ _ (@qh _ _ _ _ _ 1 _ _ sc_law_kind.nd (@Qr _ _ _ _ (@jJ _ _ _ _ _ _ _ (@qJ _ _ 1 _ _ (by rfl) (by rfl) (by rfl)) (@Qr _ _ _ _ (@Qo _ _ _ _ _ (@wf _ _ _ _ _ _ _ _ _ (@Qn _ _ _ _ _ _ _ _ V.kit V.n_isinstance (@qS _ _ _ _ _ _ _ (@qJ _ _ 0 _ _ (by rfl) (by rfl) (by rfl)) (@qS _ _ _ _ _ _ _ (@WT _ _ _ _ _ rfl V.k_Z9 (by decide)) qF)) (by rfl) (by rfl) (by rfl)) (@wf _ _ _ _ _ _ _ _ _ (@Qn _ _ _ _ _ _ _ _ V.kit V.n_isinstance (@qS _ _ _ _ _ _ _ (@qJ _ _ 0 _ _ (by rfl) (by rfl) (by rfl)) (@qS _ _ _ _ _ _ _ (@WT _ _ _ _ _ rfl V.k_Z10 (by decide)) qF)) (by rfl) (by rfl) (by rfl)) (@wf _ _ _ _ _ _ _ _ _ (@Qn _ _ _ _ _ _ _ _ V.kit V.n_isinstance (@qS _ _ _ _ _ _ _ (@qJ _ _ 0 _ _ (by rfl) (by rfl) (by rfl)) (@qS _ _ _ _ _ _ _ (@WT _ _ _ _ _ rfl V.k_Z11 (by decide)) qF)) (by rfl) (by rfl) (by rfl)) qF))))))) (by rfl) (by first |exact Or.inl rfl |exact Or.inr rfl) (by rfl) (by first |exact .inl rfl |exact .inr rfl |assumption)) (@qO _ _ _ _ _ _ (@Q9 _ _ _ _ _ _ _ _ _ (@qAK _ _ _ _ (@YM _ _ _ _ _ _ _ _ (@Wu _ _ _ _ _ (@Wq _ _ _ _ (@Qn _ _ _ _ _ _ _ _ V.kit V.n_isinstance (@qS _ _ _ _ _ _ _ (@qJ _ _ 0 _ _ (by rfl) (by rfl) (by rfl)) (@qS _ _ _ _ _ _ _ (@Yd _ _ _ _ _ rfl V.n_ValueError Boot.«ValueError» (by decide) (by decide)) qF)) (by rfl) (by rfl) (by rfl)) (by intro _;rfl))) (@zp _ _ _ _ _ (@QL _ _ _ _ _ _ _ _ _ _ (Wp hu) zn (@qBp _ _ _ _ _ _ _ _ hu (@qJ _ _ 1 _ _ (by rfl) (by rfl) (by rfl)) WK (by rfl) (by rfl) (by rfl) (by rfl) (by rfl)) qI (by first |exact QJ _ |with_unfolding_all rfl))))) (@qR _ _ _ _ (@qm _ _ _ _ _ qz)) qw) (@qO _ _ _ _ _ _ (@Q9 _ _ _ _ _ _ _ _ _ (@Wq _ _ _ _ (@WJ _ _ _ _ _ _ _ (@qJ _ _ 1 _ _ (by rfl) (by rfl) (by rfl)) qI (by exact fun _ _=>rfl)) (by intro _;rfl)) (@qR _ _ _ _ qFp) qw) (@qO _ _ _ _ _ _ (@qh _ _ _ _ _ 2 _ _ sc_law_kind.nd (@Qr _ _ _ _ (@Qo _ _ _ _ _ (@qa _ _ _ _ _ _ _ _ qz (@qa _ _ _ _ _ _ _ _ qz (@qa _ _ _ _ _ _ _ _ qz (@qa _ _ _ _ _ _ _ _ qz (@qa _ _ _ _ _ _ _ _ qz (@qa _ _ _ _ _ _ _ _ qz (@qa _ _ _ _ _ _ _ _ qz (@qa _ _ _ _ _ _ _ _ qz (@qa _ _ _ _ _ _ _ _ qz (@qa _ _ _ _ _ _ _ _ qz qF)))))))))))) (by rfl) (by first |exact Or.inl rfl |exact Or.inr rfl) (by rfl) (by first |exact .inl rfl |exact .inr rfl |assumption)) (@qR _ _ _ _ (@qm _ _ _ _ _ (@qCS _ _ _ _ _ _ _ qz (@WJ _ _ _ _ _ _ _ (@qJ _ _ 2 _ _ (by rfl) (by rfl) (by rfl)) (@qBg _ _ _ _ _ _ _ _ hu (@qJ _ _ 1 _ _ (by rfl) (by rfl) (by rfl)) WK (by rfl) (by rfl) (by rfl) (by rfl) (by rfl)) (by exact fun _ _=>rfl)))))))))))
theorem Jy (V:Env K mg a):∀ C∈QH a,W.mroIn K C (.ref a.Z0)=some true:=by
 intro C hC
 unfold QH at hC
 rcases AL.mp hC with rfl |hC
 ·exact V.e_Z1
 rcases AL.mp hC with rfl |hC
 ·exact V.e_Z4
 cases hC
theorem sc_law_said:FnScope ["_law_rows","_law_columns","_law_length","_law_found","_law_e"] ["_law_rows","_law_columns","_law_length"] (qN Qz):=⟨rfl,rfl,rfl,by decide +kernel,rfl,by decide +kernel,by decide +kernel⟩
theorem wH (V:Env K mg a):DefG P w K mg base 7 "_law_said" a.law_said 3 (qW a):=by
 obtain ⟨fd,F⟩:=V.f_law_said
 obtain ⟨_,_,_,o_Z0⟩:=V.o_Z0
 refine wM (B:=zy a) F sc_law_said (F.binds (ps:=["_law_rows","_law_columns","_law_length"]) fun _ _ _ _ _ _ us hl=>match us,hl with |[_,_,_],_=>rfl) V.m_law_said (fun l st h=>qg h) (fun cdv A outer s H E hr hcm => ?_) (fun l s0 hl hn=>qd hl)
 have hu:=hr.units
 have hc:(wB (CXF P w) P w K mg base ["_law_rows","_law_columns","_law_length","_law_found","_law_e"] "_law_said" (qN Qz) a.law_said cdv A outer s H E).calm=true:=by show A.handled.isNone=true;rw [hcm (by omega)];rfl
 exact (@qO _ _ _ _ _ _ (@qh _ _ _ _ _ 3 _ _ sc_law_said.nd qz (by rfl) (by first |exact Or.inl rfl |exact Or.inr rfl) (by rfl) (by first |exact .inl rfl |exact .inr rfl |assumption)) (@qO _ _ _ _ _ _ (@qFA _ _ _ _ _ _ _ _ _ _ _ _ _ _ _ _ _ 4 ⟨rfl,rfl,rfl⟩ hc sc_law_said.nd rfl V.k_Z0 o_Z0 V.b_Z0 (Jy V) (fun pins xe E' hp=>(@qR _ _ _ _ (@qh _ _ _ _ _ 3 _ _ sc_law_said.nd (@qY _ _ _ _ _ _ _ _ _ ((jT V).call (hr.mono (by omega)) hp) (@qS _ _ _ _ _ _ _ (@qJ _ _ 0 _ _ (by rfl) (by rfl) (by rfl)) (@qS _ _ _ _ _ _ _ (@qJ _ _ 1 _ _ (by rfl) (by rfl) (by rfl)) (@qS _ _ _ _ _ _ _ (@qJ _ _ 2 _ _ (by rfl) (by rfl) (by rfl)) qF))) (by rfl) (by rfl)) (by rfl) (by first |exact Or.inl rfl |exact Or.inr rfl) (by rfl) (by first |exact .inl rfl |exact .inr rfl |assumption)))) (fun ea=>(@qR _ _ _ _ (@qh _ _ _ _ _ 3 _ _ sc_law_said.nd (@qY _ _ _ _ _ _ _ _ _ ((jD V).call (qCk hr) (qo _)) (@qS _ _ _ _ _ _ _ (@qJ _ _ 4 _ _ (by rfl) (by rfl) (by rfl)) qF) (by rfl) (by rfl)) (by rfl) (by first |exact Or.inl rfl |exact Or.inr rfl) (by rfl) (by first |exact .inl rfl |exact .inr rfl |assumption)))) (by rfl) (by rfl) (by decide)) (@qR _ _ _ _ (@qm _ _ _ _ _ (@qJ _ _ 3 _ _ (by rfl) (by rfl) (by rfl))))))
theorem sc_law_words:FnScope ["_law_rows","_law_columns","_law_length","_law_one","_law_other"] ["_law_rows","_law_columns","_law_length"] (qN Qc):=⟨rfl,rfl,rfl,by decide +kernel,rfl,by decide +kernel,by decide +kernel⟩
theorem zT (V:Env K mg a):DefG P w K mg base 2 "_law_words" a.law_words 3 (Qa a):=by
 obtain ⟨fd,F⟩:=V.f_law_words
 refine wM (B:=zW a) F sc_law_words (F.binds (ps:=["_law_rows","_law_columns","_law_length"]) fun _ _ _ _ _ _ us hl=>match us,hl with |[_,_,_],_=>rfl) V.m_law_words (fun l st h=>qg h) (fun cdv A outer s H E hr hcm => ?_) (fun l s0 hl hn=>qd hl)
 have hu:=hr.units
 have hc:(wB (CXF P w) P w K mg base ["_law_rows","_law_columns","_law_length","_law_one","_law_other"] "_law_words" (qN Qc) a.law_words cdv A outer s H E).calm=true:=by show A.handled.isNone=true;rw [hcm (by omega)];rfl
 exact (@qO _ _ _ _ _ _ (@qFF _ _ _ _ _ 3 4 _ _ _ _ _ _ _ _ _ hc sc_law_words.nd (@wn _ _ _ _ _ _ _ _ _ (@Wa _ _ _ _ _ _ _ (@qJ _ _ 0 _ _ (by rfl) (by rfl) (by rfl)) (@qJ _ _ 2 _ _ (by rfl) (by rfl) (by rfl))) (@wn _ _ _ _ _ _ _ _ _ (@Wa _ _ _ _ _ _ _ (@qJ _ _ 1 _ _ (by rfl) (by rfl) (by rfl)) (@qJ _ _ 2 _ _ (by rfl) (by rfl) (by rfl))) qF)) (by rfl) (by rfl) (by rfl) (by decide) (by rfl) (by rfl) (by rfl)) (@qO _ _ _ _ _ _ (@Q9 _ _ _ _ _ _ _ _ _ (@QL _ _ _ _ _ _ _ _ _ _ YV YR (@W9 _ _ _ _ _ _ _ (@qS _ _ _ _ _ _ _ (@qJ _ _ 0 _ _ (by rfl) (by rfl) (by rfl)) (@qS _ _ _ _ _ _ _ (@qJ _ _ 1 _ _ (by rfl) (by rfl) (by rfl)) qF)) hc V.n_min (by rfl) (by rfl) (by rfl)) (@qJ _ _ 2 _ _ (by rfl) (by rfl) (by rfl)) (by first |exact QJ _ |with_unfolding_all rfl)) (@qR _ _ _ _ (@qm _ _ _ _ _ (@W9 _ _ _ _ _ _ _ (@wn _ _ _ _ _ _ _ _ _ (@QN _ _ _ _ _ _ _ (@qJ _ _ 3 _ _ (by rfl) (by rfl) (by rfl)) (@qJ _ _ 4 _ _ (by rfl) (by rfl) (by rfl))) (@wn _ _ _ _ _ _ _ _ _ (@QN _ _ _ _ _ _ _ (@Wv _ _ _ _ _ _ _ (@qJ _ _ 2 _ _ (by rfl) (by rfl) (by rfl)) (@qJ _ _ 3 _ _ (by rfl) (by rfl) (by rfl))) (@Wv _ _ _ _ _ _ _ (@qJ _ _ 2 _ _ (by rfl) (by rfl) (by rfl)) (@qJ _ _ 4 _ _ (by rfl) (by rfl) (by rfl)))) qF)) hc V.n_min (by rfl) (by rfl) (by rfl)))) qw) (@qO _ _ _ _ _ _ (@Q9 _ _ _ _ _ _ _ _ _ (@QL _ _ _ _ _ _ _ _ _ _ qAS qBj (@W1 _ _ _ _ _ _ _ (@qS _ _ _ _ _ _ _ (@qJ _ _ 0 _ _ (by rfl) (by rfl) (by rfl)) (@qS _ _ _ _ _ _ _ (@qJ _ _ 1 _ _ (by rfl) (by rfl) (by rfl)) qF)) hc V.n_max (by rfl) (by rfl) (by rfl)) (@qJ _ _ 2 _ _ (by rfl) (by rfl) (by rfl)) (by first |exact QJ _ |with_unfolding_all rfl)) (@qR _ _ _ _ (@qm _ _ _ _ _ (@QN _ _ _ _ _ _ _ (@qJ _ _ 0 _ _ (by rfl) (by rfl) (by rfl)) (@qJ _ _ 1 _ _ (by rfl) (by rfl) (by rfl))))) qw) (@qO _ _ _ _ _ _ (@Q9 _ _ _ _ _ _ _ _ _ (@QL _ _ _ _ _ _ _ _ _ _ qAS qBj (@qJ _ _ 0 _ _ (by rfl) (by rfl) (by rfl)) (@qJ _ _ 2 _ _ (by rfl) (by rfl) (by rfl)) (by first |exact QJ _ |with_unfolding_all rfl)) (@qR _ _ _ _ (@qm _ _ _ _ _ (@QN _ _ _ _ _ _ _ (@qJ _ _ 0 _ _ (by rfl) (by rfl) (by rfl)) (@qJ _ _ 4 _ _ (by rfl) (by rfl) (by rfl))))) qw) (@qR _ _ _ _ (@qm _ _ _ _ _ (@QN _ _ _ _ _ _ _ (@qJ _ _ 1 _ _ (by rfl) (by rfl) (by rfl)) (@qJ _ _ 3 _ _ (by rfl) (by rfl) (by rfl)))))))))
theorem sc_law:FnScope ["_law_script","_law_k","_law_box_here","_law_length","_law_rows","_law_columns","_law_floor","_law_due","_law_great","_law_one","_law_other","_law_found","_law_bad","_law_told"] ["_law_script"] (qN WI):=⟨rfl,rfl,rfl,by decide +kernel,rfl,by decide +kernel,by decide +kernel⟩
theorem qFU {fd:FuncData} (V:Env K mg a) (F:Fun K "law" "law" WI a.law fd):FnOk P w K mg base (CXF P w) 8 a.law fd ["_law_script"] (spG K 1 (yu a)):=by
 refine okV F sc_law fun cdv A outer s H E hr hcm=>⟨qDS a,?_,fun l s0 hl hn=>qd hl⟩
 have hu:=hr.units
 have hc:(wB (CXF P w) P w K mg base ["_law_script","_law_k","_law_box_here","_law_length","_law_rows","_law_columns","_law_floor","_law_due","_law_great","_law_one","_law_other","_law_found","_law_bad","_law_told"] "law" (qN WI) a.law cdv A outer s H E).calm=true:=by show A.handled.isNone=true;rw [hcm (by omega)];rfl
 exact (@qO _ _ _ _ _ _ (@zQ _ _ _ _ _ _ _ _ _ (@wW _ _ _ _ _ _ _ rfl V.n_range (@wf _ _ _ _ _ _ _ _ _ (@W1 _ _ _ _ _ _ _ (@qa _ _ _ _ _ _ _ _ qI (@wf _ _ _ _ _ _ _ _ _ (@W9 _ _ _ _ _ _ _ (@wf _ _ _ _ _ _ _ _ _ (@yH _ _ _ _ _ _ _ (@qS _ _ _ _ _ _ _ (@qJ _ _ 0 _ _ (by rfl) (by rfl) (by rfl)) qF) V.n_len (by rfl) (by rfl) (by rfl)) (@qa _ _ _ _ _ _ _ _ qI qF)) hc V.n_min (by rfl) (by rfl) (by rfl)) qF)) hc V.n_max (by rfl) (by rfl) (by rfl)) qF) (by rfl)) (@QV _ _ 1 _ sc_law.nd (by rfl) (by first |exact Or.inl rfl |exact Or.inr rfl) (by first |exact .inl rfl |exact .inr rfl |assumption)) (@qO _ _ _ _ _ _ (@qh _ _ _ _ _ 2 _ _ sc_law.nd (@qY _ _ _ _ _ _ _ _ _ ((Jr V).call (hr.mono (by omega)) (qo _)) (@qS _ _ _ _ _ _ _ (@qJ _ _ 0 _ _ (by rfl) (by rfl) (by rfl)) (@qS _ _ _ _ _ _ _ (@qJ _ _ 1 _ _ (by rfl) (by rfl) (by rfl)) qF)) (by rfl) (by rfl)) (by rfl) (by first |exact Or.inl rfl |exact Or.inr rfl) (by rfl) (by first |exact .inl rfl |exact .inr rfl |assumption)) (@qO _ _ _ _ _ _ (@qh _ _ _ _ _ 3 _ _ sc_law.nd (@QY _ _ _ _ _ _ _ qI (@qY _ _ _ _ _ _ _ _ _ ((Qy V).call (hr.mono (by omega)) (qo _)) (@qS _ _ _ _ _ _ _ (@qJ _ _ 2 _ _ (by rfl) (by rfl) (by rfl)) (@qa _ _ _ _ _ _ _ _ qI qF)) (by rfl) (by rfl))) (by rfl) (by first |exact Or.inl rfl |exact Or.inr rfl) (by rfl) (by first |exact .inl rfl |exact .inr rfl |assumption)) (@qO _ _ _ _ _ _ (@qh _ _ _ _ _ 4 _ _ sc_law.nd (@QY _ _ _ _ _ _ _ qI (@qY _ _ _ _ _ _ _ _ _ ((Qy V).call (hr.mono (by omega)) (qo _)) (@qS _ _ _ _ _ _ _ (@qJ _ _ 2 _ _ (by rfl) (by rfl) (by rfl)) (@qa _ _ _ _ _ _ _ _ qI qF)) (by rfl) (by rfl))) (by rfl) (by first |exact Or.inl rfl |exact Or.inr rfl) (by rfl) (by first |exact .inl rfl |exact .inr rfl |assumption)) (@qO _ _ _ _ _ _ (@qh _ _ _ _ _ 5 _ _ sc_law.nd (@QY _ _ _ _ _ _ _ qI (@qY _ _ _ _ _ _ _ _ _ ((Qy V).call (hr.mono (by omega)) (qo _)) (@qS _ _ _ _ _ _ _ (@qJ _ _ 2 _ _ (by rfl) (by rfl) (by rfl)) (@wf _ _ _ _ _ _ _ _ _ (@W9 _ _ _ _ _ _ _ (@qa _ _ _ _ _ _ _ _ qI (@wn _ _ _ _ _ _ _ _ _ (@jZ _ _ _ _ _ _ _ qI (@qJ _ _ 4 _ _ (by rfl) (by rfl) (by rfl))) qF)) hc V.n_min (by rfl) (by rfl) (by rfl)) qF)) (by rfl) (by rfl))) (by rfl) (by first |exact Or.inl rfl |exact Or.inr rfl) (by rfl) (by first |exact .inl rfl |exact .inr rfl |assumption)) (@qO _ _ _ _ _ _ (@qh _ _ _ _ _ 6 _ _ sc_law.nd (@zJ _ _ _ _ _ _ _ (@qFn _ _ _ _ _ _ _ _ _ (@Qr _ _ _ _ (@zh _ _ _ _ _ _ _ (["_law_columns"]) (["_law_one"]) ([5]) _ _ _ _ _ (by exact ZD rfl (by decide +kernel) rfl rfl ⟨⟨rfl,rfl⟩,trivial⟩) (@wW _ _ _ _ _ _ _ rfl V.n_range (@wn _ _ _ _ _ _ _ _ _ (@QN _ _ _ _ _ _ _ (@qJ _ _ 4 _ _ (by rfl) (by rfl) (by rfl)) (@qJ _ _ 5 _ _ (by rfl) (by rfl) (by rfl))) qF) (by rfl)) (fun s' H' fp pn=>⟨(@qv _ _ _ _ _ _ (@wn _ _ _ _ _ _ _ _ _ (@jZ _ _ _ _ _ _ _ (@qJ _ _ 1 _ _ (by rfl) (by rfl) (by rfl)) (@qJ _ _ 0 _ _ (by rfl) (by rfl) (by rfl))) (@wn _ _ _ _ _ _ _ _ _ (@Wa _ _ _ _ _ _ _ (@qJ _ _ 1 _ _ (by rfl) (by rfl) (by rfl)) (@qJ _ _ 0 _ _ (by rfl) (by rfl) (by rfl))) qF))),⟨(@zw _ _ 1 _ (show (["_law_columns","_law_one"]:List Str).Nodup by decide +kernel) (by rfl) (by first |exact Or.inl rfl |exact Or.inr rfl) (by first |exact .inl rfl |exact .inr rfl |assumption)),(wy 1),TsOk.nil,rfl⟩,GsOk.nil⟩) (by intro _;rfl))) qF) V.n_tuple (by rfl) (by rfl) (by rfl)) (by rfl) (by first |exact Or.inl rfl |exact Or.inr rfl) (by rfl) (by first |exact .inl rfl |exact .inr rfl |assumption)) (@qO _ _ _ _ _ _ (@qh _ _ _ _ _ 7 _ _ sc_law.nd (@Wv _ _ _ _ _ _ _ (@QN _ _ _ _ _ _ _ (@qJ _ _ 4 _ _ (by rfl) (by rfl) (by rfl)) (@qJ _ _ 5 _ _ (by rfl) (by rfl) (by rfl))) (@QN _ _ _ _ _ _ _ (@qJ _ _ 3 _ _ (by rfl) (by rfl) (by rfl)) (@qY _ _ _ _ _ _ _ _ _ ((jH V).call (hr.mono (by omega)) (qo _)) (@qS _ _ _ _ _ _ _ (@qJ _ _ 6 _ _ (by rfl) (by rfl) (by rfl)) (@qS _ _ _ _ _ _ _ (@qJ _ _ 3 _ _ (by rfl) (by rfl) (by rfl)) qF)) (by rfl) (by rfl)))) (by rfl) (by first |exact Or.inl rfl |exact Or.inr rfl) (by rfl) (by first |exact .inl rfl |exact .inr rfl |assumption)) (@qO _ _ _ _ _ _ (@Q9 _ _ _ _ _ _ _ _ _ (@qAK _ _ _ _ (@YM _ _ _ _ _ _ _ _ (@QL _ _ _ _ _ _ _ _ _ _ (Wp hu) zn (@qJ _ _ 7 _ _ (by rfl) (by rfl) (by rfl)) (@qY _ _ _ _ _ _ _ _ _ ((zT V).call (hr.mono (by omega)) (qo _)) (@qS _ _ _ _ _ _ _ (@qJ _ _ 4 _ _ (by rfl) (by rfl) (by rfl)) (@qS _ _ _ _ _ _ _ (@qJ _ _ 5 _ _ (by rfl) (by rfl) (by rfl)) (@qS _ _ _ _ _ _ _ (@qJ _ _ 3 _ _ (by rfl) (by rfl) (by rfl)) qF))) (by rfl) (by rfl)) (by first |exact QJ _ |with_unfolding_all rfl)) (@zp _ _ _ _ _ (@QL _ _ _ _ _ _ _ _ _ _ (Wp hu) zn (@qY _ _ _ _ _ _ _ _ _ ((wH V).call (hr.mono (by omega)) (qo _)) (@qS _ _ _ _ _ _ _ (@qJ _ _ 4 _ _ (by rfl) (by rfl) (by rfl)) (@qS _ _ _ _ _ _ _ (@qJ _ _ 5 _ _ (by rfl) (by rfl) (by rfl)) (@qS _ _ _ _ _ _ _ (@qJ _ _ 3 _ _ (by rfl) (by rfl) (by rfl)) qF))) (by rfl) (by rfl)) (@qJ _ _ 7 _ _ (by rfl) (by rfl) (by rfl)) (by first |exact QJ _ |with_unfolding_all rfl))))) (@qR _ _ _ _ (@qm _ _ _ _ _ WK)) qw) (@qO _ _ _ _ _ _ (@qCX _ _ _ _ _ _ _ _ _ _ (["_law_box_here"]) (["_law_turn"]) ([2]) _ _ _ _ _ 8 sc_law.nd (by exact ZD rfl (by decide +kernel) rfl rfl ⟨⟨rfl,rfl⟩,trivial⟩) (@wW _ _ _ _ _ _ _ rfl V.n_range (@qa _ _ _ _ _ _ _ _ qI qF) (by rfl)) (fun s' H' fp pn=>⟨(@QY _ _ _ _ _ _ _ qI (@qY _ _ _ _ _ _ _ _ _ ((Qy V).call (hr.mono (by omega)) (qo _)) (@qS _ _ _ _ _ _ _ (@qJ _ _ 0 _ _ (by rfl) (by rfl) (by rfl)) (@yJ _ _ _ _ _ _ _ _ (@WJ _ _ _ _ _ _ _ (@Qr _ _ _ _ (@Qo _ _ _ _ _ (@qa _ _ _ _ _ _ _ _ qI (@wn _ _ _ _ _ _ _ _ _ (@Wt _ _ _ _ _ _ _ qI qI) qF)))) (@qY _ _ _ _ _ _ _ _ _ ((Qy V).call (hr.mono (by omega)) (qo _)) (@qS _ _ _ _ _ _ _ (@qJ _ _ 0 _ _ (by rfl) (by rfl) (by rfl)) (@qa _ _ _ _ _ _ _ _ qI qF)) (by rfl) (by rfl)) (by exact fun _ _=>rfl)) qF)) (by rfl) (by rfl))),⟨(@zw _ _ 1 _ (show (["_law_box_here","_law_turn"]:List Str).Nodup by decide +kernel) (by rfl) (by first |exact Or.inl rfl |exact Or.inr rfl) (by first |exact .inl rfl |exact .inr rfl |assumption)),(wy 1),TsOk.nil,rfl⟩,GsOk.nil⟩) (by rfl) (by first |exact Or.inl rfl |exact Or.inr rfl) (by first |exact .inl rfl |exact .inr rfl |assumption) (by rfl) (by intro _;rfl)) (@qO _ _ _ _ _ _ (@zQ _ _ _ _ _ _ _ _ _ (@z6 _ _ _ _ _ (@Qr _ _ _ _ (@Qo _ _ _ _ _ (@wx _ _ _ _ _ _ _ _ (@qv _ _ _ _ _ _ (@yJ _ _ _ _ _ _ _ _ (@WJ _ _ _ _ _ _ _ (@qJ _ _ 8 _ _ (by rfl) (by rfl) (by rfl)) qI (by exact fun _ _=>rfl)) (@yJ _ _ _ _ _ _ _ _ (@WJ _ _ _ _ _ _ _ (@qJ _ _ 8 _ _ (by rfl) (by rfl) (by rfl)) qI (by exact fun _ _=>rfl)) qF))) (@wx _ _ _ _ _ _ _ _ (@qv _ _ _ _ _ _ (@yJ _ _ _ _ _ _ _ _ (@WJ _ _ _ _ _ _ _ (@qJ _ _ 8 _ _ (by rfl) (by rfl) (by rfl)) qI (by exact fun _ _=>rfl)) (@qS _ _ _ _ _ _ _ (@qJ _ _ 4 _ _ (by rfl) (by rfl) (by rfl)) qF))) (@wx _ _ _ _ _ _ _ _ (@qv _ _ _ _ _ _ (@qS _ _ _ _ _ _ _ (@qJ _ _ 5 _ _ (by rfl) (by rfl) (by rfl)) (@yJ _ _ _ _ _ _ _ _ (@WJ _ _ _ _ _ _ _ (@qJ _ _ 8 _ _ (by rfl) (by rfl) (by rfl)) qI (by exact fun _ _=>rfl)) qF))) (@wx _ _ _ _ _ _ _ _ (@qv _ _ _ _ _ _ (@wn _ _ _ _ _ _ _ _ _ (@Wt _ _ _ _ _ _ _ qI qI) (@wn _ _ _ _ _ _ _ _ _ (@Wv _ _ _ _ _ _ _ (@Wt _ _ _ _ _ _ _ qI qI) qI) qF))) qF))))))) (@Yy _ _ _ _ _ _ hc (@wY _ _ _ _ _ (@QV _ _ 9 _ sc_law.nd (by rfl) (by first |exact Or.inl rfl |exact Or.inr rfl) (by first |exact .inl rfl |exact .inr rfl |assumption)) (@wY _ _ _ _ _ (@QV _ _ 10 _ sc_law.nd (by rfl) (by first |exact Or.inl rfl |exact Or.inr rfl) (by first |exact .inl rfl |exact .inr rfl |assumption)) yV (by rfl)) (by rfl)) (by rfl) (by rfl)) (@qO _ _ _ _ _ _ (@qh _ _ _ _ _ 11 _ _ sc_law.nd (@qY _ _ _ _ _ _ _ _ _ ((wH V).call (hr.mono (by omega)) (qo _)) (@qS _ _ _ _ _ _ _ (@qJ _ _ 9 _ _ (by rfl) (by rfl) (by rfl)) (@qS _ _ _ _ _ _ _ (@qJ _ _ 10 _ _ (by rfl) (by rfl) (by rfl)) (@qS _ _ _ _ _ _ _ (@qJ _ _ 3 _ _ (by rfl) (by rfl) (by rfl)) qF))) (by rfl) (by rfl)) (by rfl) (by first |exact Or.inl rfl |exact Or.inr rfl) (by rfl) (by first |exact .inl rfl |exact .inr rfl |assumption)) (@qR _ _ _ _ (@Q9 _ _ _ _ _ _ _ _ _ (@qAK _ _ _ _ (@YM _ _ _ _ _ _ _ _ (@Wu _ _ _ _ _ (@Wq _ _ _ _ (@qY _ _ _ _ _ _ _ _ _ ((zU V).call (hr.mono (by omega)) (qo _)) (@qS _ _ _ _ _ _ _ (@qJ _ _ 11 _ _ (by rfl) (by rfl) (by rfl)) qF) (by rfl) (by rfl)) (by intro _;rfl))) (@zp _ _ _ _ _ (@QL _ _ _ _ _ _ _ _ _ _ (Wp hu) zn (@qJ _ _ 11 _ _ (by rfl) (by rfl) (by rfl)) (@qY _ _ _ _ _ _ _ _ _ ((zT V).call (hr.mono (by omega)) (qo _)) (@qS _ _ _ _ _ _ _ (@qJ _ _ 9 _ _ (by rfl) (by rfl) (by rfl)) (@qS _ _ _ _ _ _ _ (@qJ _ _ 10 _ _ (by rfl) (by rfl) (by rfl)) (@qS _ _ _ _ _ _ _ (@qJ _ _ 3 _ _ (by rfl) (by rfl) (by rfl)) qF))) (by rfl) (by rfl)) (by first |exact QJ _ |with_unfolding_all rfl))))) (@qR _ _ _ _ (@qm _ _ _ _ _ WK)) qw))) (by intro _;rfl)) (@qO _ _ _ _ _ _ (@zQ _ _ _ _ _ _ _ _ _ (@z6 _ _ _ _ _ (@Qr _ _ _ _ (@Qo _ _ _ _ _ (@qa _ _ _ _ _ _ _ _ qI (@qDt _ _ _ _ _ _ _ _ (@jK _ _ _ _ _ qI) (@qa _ _ _ _ _ _ _ _ WK (@qa _ _ _ _ _ _ _ _ Yx (@qa _ _ _ _ _ _ _ _ qz (@wn _ _ _ _ _ _ _ _ _ (@QY _ _ _ _ _ _ _ (@Wt _ _ _ _ _ _ _ qI qI) qI) (@wn _ _ _ _ _ _ _ _ _ (@Wt _ _ _ _ _ _ _ qI qI) (@wx _ _ _ _ _ _ _ _ (@qv _ _ _ _ _ _ (@qa _ _ _ _ _ _ _ _ qI qF)) (@wf _ _ _ _ _ _ _ _ _ (@qY _ _ _ _ _ _ _ _ _ ((JX V).call (hr.mono (by omega)) (qo _)) (@qS _ _ _ _ _ _ _ (@qJ _ _ 2 _ _ (by rfl) (by rfl) (by rfl)) qF) (by rfl) (by rfl)) qF)))))))))))) (@QV _ _ 12 _ sc_law.nd (by rfl) (by first |exact Or.inl rfl |exact Or.inr rfl) (by first |exact .inl rfl |exact .inr rfl |assumption)) (@qR _ _ _ _ (@Q9 _ _ _ _ _ _ _ _ _ (@qAK _ _ _ _ (@YM _ _ _ _ _ _ _ _ (@Wu _ _ _ _ _ (@Wq _ _ _ _ (@qY _ _ _ _ _ _ _ _ _ ((zU V).call (hr.mono (by omega)) (qo _)) (@qS _ _ _ _ _ _ _ (@qJ _ _ 12 _ _ (by rfl) (by rfl) (by rfl)) qF) (by rfl) (by rfl)) (by intro _;rfl))) (@zp _ _ _ _ _ (@Wu _ _ _ _ _ (@qBq _ _ _ _ _ _ _ _ _ _ _ _ _ _ _ j5 j5 JL JL qI (@qJ _ _ 12 _ _ (by rfl) (by rfl) (by rfl)) (@Wt _ _ _ _ _ _ _ qI qI) (by with_unfolding_all rfl)))))) (@qR _ _ _ _ (@zQ _ _ _ _ _ _ _ _ _ (@z6 _ _ _ _ _ (@Qr _ _ _ _ (@Qo _ _ _ _ _ (@wf _ _ _ _ _ _ _ _ _ (@qY _ _ _ _ _ _ _ _ _ ((wH V).call (hr.mono (by omega)) (qo _)) (@qS _ _ _ _ _ _ _ (@qJ _ _ 12 _ _ (by rfl) (by rfl) (by rfl)) (@qS _ _ _ _ _ _ _ (@qJ _ _ 12 _ _ (by rfl) (by rfl) (by rfl)) (@qS _ _ _ _ _ _ _ (@qJ _ _ 12 _ _ (by rfl) (by rfl) (by rfl)) qF))) (by rfl) (by rfl)) (@wf _ _ _ _ _ _ _ _ _ (@qY _ _ _ _ _ _ _ _ _ ((wH V).call (hr.mono (by omega)) (qo _)) (@qS _ _ _ _ _ _ _ (@qJ _ _ 12 _ _ (by rfl) (by rfl) (by rfl)) (@qa _ _ _ _ _ _ _ _ qI (@qS _ _ _ _ _ _ _ (@qJ _ _ 3 _ _ (by rfl) (by rfl) (by rfl)) qF))) (by rfl) (by rfl)) (@wf _ _ _ _ _ _ _ _ _ (@qY _ _ _ _ _ _ _ _ _ ((wH V).call (hr.mono (by omega)) (qo _)) (@qa _ _ _ _ _ _ _ _ qI (@qS _ _ _ _ _ _ _ (@qJ _ _ 12 _ _ (by rfl) (by rfl) (by rfl)) (@qS _ _ _ _ _ _ _ (@qJ _ _ 12 _ _ (by rfl) (by rfl) (by rfl)) qF))) (by rfl) (by rfl)) qF)))))) (@QV _ _ 13 _ sc_law.nd (by rfl) (by first |exact Or.inl rfl |exact Or.inr rfl) (by first |exact .inl rfl |exact .inr rfl |assumption)) (@qR _ _ _ _ (@Q9 _ _ _ _ _ _ _ _ _ (@QL _ _ _ _ _ _ _ _ _ _ (Wp hu) zn (@qJ _ _ 13 _ _ (by rfl) (by rfl) (by rfl)) qz (by first |exact QJ _ |with_unfolding_all rfl)) (@qR _ _ _ _ (@qm _ _ _ _ _ WK)) qw)) (by intro _;rfl))) qw)) (by intro _;rfl)) (@qR _ _ _ _ (@Q9 _ _ _ _ _ _ _ _ _ (@QL _ _ _ _ _ _ _ _ _ _ (Wp hu) zn (@qY _ _ _ _ _ _ _ _ _ ((wH V).call (hr.mono (by omega)) (qo _)) (@qS _ _ _ _ _ _ _ (@qJ _ _ 4 _ _ (by rfl) (by rfl) (by rfl)) (@qS _ _ _ _ _ _ _ (@qJ _ _ 5 _ _ (by rfl) (by rfl) (by rfl)) (@yJ _ _ _ _ _ _ _ _ (@WJ _ _ _ _ _ _ _ (@Qr _ _ _ _ (@Qo _ _ _ _ _ (@qa _ _ _ _ _ _ _ _ qI (@qa _ _ _ _ _ _ _ _ qI (@qa _ _ _ _ _ _ _ _ WK (@qa _ _ _ _ _ _ _ _ Yx (@qa _ _ _ _ _ _ _ _ qz qF))))))) (@qY _ _ _ _ _ _ _ _ _ ((Qy V).call (hr.mono (by omega)) (qo _)) (@qS _ _ _ _ _ _ _ (@qJ _ _ 2 _ _ (by rfl) (by rfl) (by rfl)) (@qa _ _ _ _ _ _ _ _ qI qF)) (by rfl) (by rfl)) (by exact fun _ _=>rfl)) qF))) (by rfl) (by rfl)) qz (by first |exact QJ _ |with_unfolding_all rfl)) (@qR _ _ _ _ (@qm _ _ _ _ _ WK)) qw)))))))))))) (by intro _;rfl)) (@qR _ _ _ _ (@qm _ _ _ _ _ WK)))
end
end K44
end
section
namespace EV
open PySem L2 EX
theorem WX {G:qC->Prop} {k:PV->qC->Rs (List PV)} {st:qC} (hG:G st) {F:PV->List PV}:∀ {l:List PV},(∀ p∈l,k p st = .ok (F p) st)->qf G k l st = .ok (l.flatMap F) st
 |[],_=>by unfold qf;rw [AH hG];rfl
 |p::l,h=>by
  unfold qf
  rw [AH hG,h p AF]
  show (qf G k l st).bind _=_
  rw [WX hG fun q hq=>h q (AD _ hq)]
  rfl
theorem zV {F:PV->PV}:∀ l:List PV,l.flatMap (fun p=>[F p])=l.map F
 |[]=>rfl
 |p::l=>by rw [List.flatMap_cons,zV l];rfl
theorem WS {c:PV->Bool}:∀ l:List PV,l.flatMap (fun p=>if c p=true then [p] else [])=l.filter c
 |[]=>rfl
 |p::l=>by
  rw [List.flatMap_cons,WS l,BI]
  cases c p <;> rfl
theorem Zn {caps:List Nat} {n:Nat} {fi:FI} {g:FG} {f:FE} {r:ql} {st:qC} {w:ItP} {F:PV->PV} (hfi:fi r st = .ok w st) (hG:w.G st) (hl:w.l.length≤sizeLine)
  (h:∀ p∈w.l,∃ r',g p (wN caps n r)=some r'∧f r' st = .ok (F p) st):QC caps n fi g [] [] f r st = .ok (w.l.map F) st:=by
 unfold QC
 rw [hfi]
 show (match qf w.G (QX ⟨fi,g,[]⟩ (Q2 [] f) (wN caps n r)) w.l st with | .ok l s'=>if l.length≤sizeLine then Rs.ok l s' else Rs.no |_=>Rs.no)=_
 rw [WX (F:=fun p=>[F p]) hG fun p hp=>by
  obtain ⟨r',h1,h2⟩:=h p hp
  unfold QX
  show (match g p (wN caps n r) with |none=>_ |some r'=>_)=_
  rw [h1]
  show (Q2 [] f) r' st=_
  unfold Q2
  rw [h2];rfl]
 rw [zV]
 dsimp only
 rw [AH (by rw [AX];exact hl)]
theorem W5 {caps:List Nat} {n:Nat} {fi:FI} {g:FG} {t:FT} {f:FE} {r:ql} {st:qC} {w:ItP} {c:PV->Bool} (hfi:fi r st = .ok w st) (hG:w.G st) (hl:w.l.length≤sizeLine)
  (h:∀ p∈w.l,∃ r',g p (wN caps n r)=some r'∧t r' st = .ok (c p) st∧f r' st = .ok p st):QC caps n fi g [t] [] f r st = .ok (w.l.filter c) st:=by
 unfold QC
 rw [hfi]
 show (match qf w.G (QX ⟨fi,g,[t]⟩ (Q2 [] f) (wN caps n r)) w.l st with | .ok l s'=>if l.length≤sizeLine then Rs.ok l s' else Rs.no |_=>Rs.no)=_
 rw [WX (F:=fun p=>if c p=true then [p] else []) hG fun p hp=>by
  obtain ⟨r',h1,h2,h3⟩:=h p hp
  unfold QX
  show (match g p (wN caps n r) with |none=>_ |some r'=>_)=_
  rw [h1]
  show (wp [t] r' st).bind _=_
  unfold wp wp
  rw [h2]
  cases hc:c p
  ·rfl
  ·show (Q2 [] f) r' st=_
   unfold Q2
   rw [h3];rfl]
 rw [WS]
 dsimp only
 rw [AH (AV (List.length_filter_le _ _) hl)]
theorem Jl {G:qC->Prop} {g:FG} {F:FS} {r:ql} {st:qC} (h:G st):QA G g F [] r st = .nx r st:=by unfold QA;rw [AH h]
theorem Y6 {G:qC->Prop} {g:FG} {F:FS} {r r1 r2:ql} {st s2:qC} {p:PV} {ps:List PV} (h:G st) (h1:g p r=some r1) (h2:F r1 st = .nx r2 s2):QA G g F (p::ps) r st=QA G g F ps r2 s2:=by
 rw [QA,AH h,h1]
 dsimp only
 rw [h2]
section
variable {F G:FS} {f:FE} {fl:FL} {fi:FI} {g:FG} {t:FT} {r r':ql} {st st':qC} {p:PV} {l:List PV} {w:ItP} {i:Nat}
theorem qEB (h:F r st = .nx r' st'):qP F G r st=G r' st':=by unfold qP;rw [h]
theorem qEZ (h:F r st = .rt p st'):qP F G r st = .rt p st':=by unfold qP;rw [h]
theorem qEQ {x:Exc} (h:F r st = .ex x st'):qP F G r st = .ex x st':=by unfold qP;rw [h]
theorem qDu {x:Exc} (h:f r st = .ex x st'):WH f r st = .ex x st':=by unfold WH;rw [h];rfl
theorem qCT {x:Exc} {n N:Nat} {B:FS} (hl:l.length=n) (h:B (Ql N l) st = .ex x st'):QB n N B l st = .ex x st':=by unfold QB;rw [AH hl,h];rfl
theorem qDq (h:f r st = .ok p st'):WH f r st = .nx r st':=by unfold WH;rw [h];rfl
theorem qEx (h:f r st = .ok p st'):qU i f r st = .nx (r.set i (some p)) st':=by unfold qU;rw [h];rfl
theorem jS (h:f r st = .ok p st'):qj f r st = .rt p st':=by unfold qj;rw [h];rfl
theorem qCe (h:fl r st = .ok l st'):zK fl r st = .rt (.ref st'.length) (st'++[.l l]):=by unfold zK;rw [h];rfl
theorem qEk (h:fi r st = .ok w st'):wR fi g F r st=QA w.G g F w.l r st':=by unfold wR;rw [h];rfl
theorem qGt (h:t r st = .ok true st'):QK t F G r st=F r st':=by unfold QK;rw [h];rfl
theorem qGo (h:t r st = .ok false st'):QK t F G r st=G r st':=by unfold QK;rw [h];rfl
theorem qFi (h:fl r st = .ok l st'):vFz fl r st = .ok (.lst l) st':=by unfold vFz;rw [h];rfl
theorem Wd {k:List PV->qC->Rs PV} {fa:FA} (h:fa r st = .ok l st'):qG k fa r st=k l st':=by unfold qG;rw [h];rfl
theorem qCo {fa:FA} {st2:qC} (h:f r st = .ok p st') (h2:fa r st' = .ok l st2):qA f fa r st = .ok (p::l) st2:=by unfold qA;rw [h];show (fa r st').bind _=_;rw [h2];rfl
theorem qDw {k:PV->PV->qC->Rs PV} {fb:FE} {q:PV} {st2:qC} (h:f r st = .ok p st') (h2:fb r st' = .ok q st2):qH k f fb r st=k p q st2:=by unfold qH;rw [h];show (fb r st').bind _=_;rw [h2];rfl
theorem qAC {b:Bool} (h:f r st = .ok (.bl b) st'):qy f r st = .ok b st':=by unfold qy;rw [h];rfl
theorem qE1 {b:Bool} (h:t r st = .ok b st'):QW t r st = .ok (!b) st':=by unfold QW;rw [h];rfl
theorem qGD {b:Bool} (h:f r st = .ok (.bl b) st'):vTB f r st = .ok b st':=by unfold vTB;rw [h];rfl
theorem yF {n N:Nat} {B:FS} (hl:l.length=n) (h:B (Ql N l) st = .rt p st'):QB n N B l st = .ok p st':=by unfold QB;rw [AH hl,h];rfl
end
section
variable {F G:FS} {f fb fo fi2:FE} {fl:FL} {fi:FI} {fa:FA} {g:FG} {t u:FT} {r r1 r':ql} {st s1 s2 s3:qC} {p q z:PV} {l m:List PV} {w:ItP} {i:Nat} {b c:Bool} {x:Exc} {o:RS} {R:Rs PV}
theorem qQ {k:PV->PV->qC->Rs PV} (h:f r st = .ok p s1) (h2:fb r s1 = .ok q s2) (h3:k p q s2=R):qH k f fb r st=R:=by rw [qDw h h2];exact h3
theorem qT {k:List PV->qC->Rs PV} (h:fa r st = .ok l s1) (h2:k l s1=R):qG k fa r st=R:=by rw [Wd h];exact h2
theorem qc:qD r st = .ok [] st:=rfl
theorem qL (h:f r st = .ok p s1) (h2:fa r s1 = .ok l s2):qA f fa r st = .ok (p::l) s2:=qCo h h2
theorem W3 (h:fa r st = .ok l s1) (hl:l.length≤sizeLine):QM fa r st = .ok (.tup l) s1:=by unfold QM;rw [h];exact AH hl
theorem W4 (h:fa r st = .ok l s1) (hl:l.length≤sizeLine):Qt fa r st = .ok l s1:=by unfold Qt;rw [h];exact AH hl
theorem Wm (h:fl r st = .ok l s1):vFz fl r st = .ok (.lst l) s1:=qFi h
theorem qBA (h:f r st = .ok p s1) (h2:fb r s1 = .ok q s2) (e1:asL s2 p=some l) (e2:asL s2 q=some m) (hl:l.length + m.length≤sizeLine):Jm f fb r st = .ok (l++m) s2:=by
 unfold Jm;rw [h];show (fb r s1).bind _=_;rw [h2];show (match asL s2 p with |some l=>_ |none=>_)=_;rw [e1];dsimp only;rw [e2];dsimp only;rw [AH hl]
theorem Wy (h:f r st = .ok (.bl b) s1):qy f r st = .ok b s1:=qAC h
theorem wg (h:f r st = .ok (.bl b) s1):vTB f r st = .ok b s1:=qGD h
theorem w_not (h:t r st = .ok b s1):QW t r st = .ok (!b) s1:=qE1 h
theorem qBZ (h:t r st = .ok true s1):WM t u r st = .ok true s1:=by unfold WM;rw [h];rfl
theorem zI (h:t r st = .ok false s1) (h2:u r s1 = .ok b s2):WM t u r st = .ok b s2:=by unfold WM;rw [h];exact h2
theorem qCj (h:t r st = .ok false s1):Z2 t u r st = .ok false s1:=by unfold Z2;rw [h];rfl
theorem j7 (h:t r st = .ok true s1) (h2:u r s1 = .ok b s2):Z2 t u r st = .ok b s2:=by unfold Z2;rw [h];exact h2
theorem qX (h:F r st = .nx r' s1) (h2:G r' s1=o):qP F G r st=o:=by rw [qEB h];exact h2
theorem wL (h:F r st = .rt p s1):qP F G r st = .rt p s1:=qEZ h
theorem YK (h:F r st = .ex x s1):qP F G r st = .ex x s1:=qEQ h
theorem qu (h:f r st = .ok p s1):qU i f r st = .nx (r.set i (some p)) s1:=qEx h
theorem qE2 (h:f r st = .ok p s1):WH f r st = .nx r s1:=qDq h
theorem Jd (h:f r st = .ex x s1):WH f r st = .ex x s1:=qDu h
theorem Q8 (h:f r st = .ok p s1):qj f r st = .rt p s1:=jS h
theorem qAi (h:fl r st = .ok l s1):zK fl r st = .rt (.ref s1.length) (s1++[.l l]):=qCe h
theorem wP (h:t r st = .ok true s1) (h2:F r s1=o):QK t F G r st=o:=by rw [qGt h];exact h2
theorem QG (h:t r st = .ok false s1) (h2:G r s1=o):QK t F G r st=o:=by rw [qGo h];exact h2
theorem Zr (h:fi r st = .ok w s1) (h2:QA w.G g F w.l r s1=o):wR fi g F r st=o:=by rw [qEk h];exact h2
theorem Qw {Gd:qC->Prop} (h:Gd st):QA Gd g F [] r st = .nx r st:=Jl h
theorem wG {Gd:qC->Prop} {ps:List PV} (h:Gd st) (h1:g p r=some r1) (h2:F r1 st = .nx r' s2) (h3:QA Gd g F ps r' s2=o):QA Gd g F (p::ps) r st=o:=by rw [Y6 h h1 h2];exact h3
theorem qDa {r1:ql} (h:f r st = .ok p s1) (h2:g p r=some r1):Yk f g r st = .nx r1 s1:=by unfold Yk;rw [h];show (match g p r with |some r'=>RS.nx r' s1 |none=>RS.no)=_;rw [h2]
theorem qFr {j:Nat} (h:fa r st = .ok [p,q] s1):yk i j fa r st = .nx ((r.set i (some p)).set j (some q)) s1:=by unfold yk;rw [h];rfl
theorem qGA (h:f r st = .ok p s1) (h2:fo r s1 = .ok q s2) (h3:fi2 r s2 = .ok z s3) {s4:qC} (h4:Zw s3 q z p=some s4):jw fo fi2 f r st = .nx r s4:=by
 unfold jw;rw [h];show (fo r s1).bindS _=_;rw [h2];show (fi2 r s2).bindS _=_;rw [h3];show (match Zw s3 q z p with |some s4=>RS.nx r s4 |none=>RS.no)=_;rw [h4]
theorem Qm {n N:Nat} {B:FS} (hl:l.length=n) (h:B (Ql N l) st = .rt p s1):QB n N B l st = .ok p s1:=yF hl h
theorem Zy {n N:Nat} {B:FS} (hl:l.length=n) (h:B (Ql N l) st = .ex x s1):QB n N B l st = .ex x s1:=qCT hl h
theorem sz {n:Nat} (h:Nat.ble n 1000=true):n≤sizeLine:=AV (Nat.le_of_ble_eq_true h) (by decide)
theorem Qd {i j:Int} (h:-(2 ^ 64) < i∧i < 2 ^ 64):Qs (.int i) (.int j) st = .ok (.int (i * j)) st:=by unfold Qs gI;dsimp only;rw [AH (.inl h)]
theorem jb {i j:Int} (h:-(2 ^ 64) < j∧j < 2 ^ 64):Qs (.int i) (.int j) st = .ok (.int (i * j)) st:=by unfold Qs gI;dsimp only;rw [AH (.inr h)]
theorem zS {i j:Int} (h:0 < j):WO (.int i) (.int j) st = .ok (.int (i % j)) st:=by unfold WO gI;dsimp only;rw [AH h]
theorem qBD {i j:Int} (h:0 < j∧j < 1073741824):yW (.int i) (.int j) st = .ok (.int (i / j)) st:=by unfold yW gI;dsimp only;rw [AH h]
theorem qAz {i j:Int} (h:0 < j∧j < 1073741824):W2 [.int i,.int j] st = .ok (.tup [.int (i / j),.int (i % j)]) st:=by unfold W2;dsimp only;rw [AH h]
theorem w_add {i j:Int}:q9 (.int i) (.int j) st = .ok (.int (i + j)) st:=rfl
theorem w_sub' {i j:Int}:zA (.int i) (.int j) st = .ok (.int (i - j)) st:=rfl
theorem w_lt {i j:Int}:gLt (.int i) (.int j) st = .ok (.bl (decide (i < j))) st:=rfl
theorem qGr {i j:Int}:gLe (.int i) (.int j) st = .ok (.bl (decide (i≤j))) st:=rfl
theorem qEM {i j:Int}:gGe (.int i) (.int j) st = .ok (.bl (decide (i ≥ j))) st:=rfl
theorem qEW {i:Int} (h:zM st p=some l) (h2:atI l i=some z):gIx p (.int i) st = .ok z st:=by unfold gIx;simp only [h,h2]
theorem qAg (h:zM st p=some l) {n:Int} (hn:(l.length:Int)=n):ZS [p] st = .ok (.int n) st:=by unfold ZS;simp only [h];rw [hn]
theorem qFQ {n:Nat} (h:st[n]? = some (.l l)):zM st (.ref n)=some l:=by unfold zM asL;simp only [h]
theorem zz {n:Nat} (h:r[n]? = some (some p)):qB n r st = .ok p st:=by unfold qB;rw [h]
theorem JS {n:Nat} {k:Int} (h0:0≤k) (h1:k < n):ixN n k=some k.toNat:=by unfold ixN;rw [AH h0,AH (by omega)]
theorem y0 {Gd:qC->Prop} {k:PV->qC->Rs (List PV)} (h:Gd st):qf Gd k [] st = .ok [] st:=by unfold qf;exact AH h
theorem jx {Gd:qC->Prop} {k:PV->qC->Rs (List PV)} {ps:List PV} (hG:Gd st) (h:k p st = .ok l s1) (h2:qf Gd k ps s1 = .ok m s2):qf Gd k (p::ps) st = .ok (l++m) s2:=by
 rw [qf,AH hG,h];show (qf Gd k ps s1).bind _=_;rw [h2];rfl
theorem qA2 (h:g p r=some r') (hf:f r' st = .ok q s1):QX ⟨fi,g,[]⟩ (Q2 [] f) r p st = .ok [q] s1:=by
 unfold QX;show (match g p r with |none=>_ |some r'=>_)=_;rw [h];show (Q2 [] f) r' st=_;unfold Q2;rw [hf];rfl
theorem qFH {caps:List Nat} {n:Nat} {ts:List FT} {gs:List GenF} (hfi:fi r st = .ok w s1) (h:qf w.G (QX ⟨fi,g,ts⟩ (Q2 gs f) (wN caps n r)) w.l s1 = .ok l s2) (hl:l.length≤sizeLine):QC caps n fi g ts gs f r st = .ok l s2:=by
 unfold QC;rw [hfi];show (match qf w.G (QX ⟨fi,g,ts⟩ (Q2 gs f) (wN caps n r)) w.l s1 with | .ok l s'=>if l.length≤sizeLine then Rs.ok l s' else Rs.no |_=>Rs.no)=_;rw [h];exact AH hl
theorem yQ (h:zM st p=some l):Q7 [p] st = .ok (.tup l) st:=by unfold Q7;simp only [h]
theorem WB (h:f r st = .ok (.lst l) s1):Qf f r st = .ok ⟨l,fun _=>True⟩ s1:=by unfold Qf;rw [h];rfl
theorem Yw (h:f r st = .ok (.tup l) s1):Qf f r st = .ok ⟨l,fun _=>True⟩ s1:=by unfold Qf;rw [h];rfl
end
abbrev CE:=ql->Option PV
section
variable {F G:FS} {f fb fc fo fi2:FE} {fl:FL} {fi:FI} {fa:FL} {g:FG} {t u:FT} {c d e:CE} {co cp:CO} {f1 f2:FO} {r r':ql} {st s1 s2 s3:qC} {p q z:PV} {l:List PV} {n:Nat} {o:RS}
theorem jO {c:FT} (h:c r st = .ok false s1):wC c F (n + 1) r st = .nx r s1:=by unfold wC;rw [h]
theorem qAj {c:FT} (h:c r st = .ok true s1) (h2:F r s1 = .nx r' s2) (h3:wC c F n r' s2=o):wC c F (n + 1) r st=o:=by unfold wC;rw [h];dsimp only;rw [h2];exact h3
end
end EV
end
section
namespace EV
open PySem ET
abbrev qV:=Int×Int
def cP (c:qV):PV := .tup [.int c.1,.int c.2]
theorem Z1:∀ l:List qV,nrs (l.map cP)=true
 |[]=>rfl
 |c::l=>by rw [AN,nrs,Z1 l];rfl
theorem yE:∀ l:List qV,deps (l.map cP)≤1
 |[]=>A3 _
 |c::l=>by
  rw [AN,deps]
  have:=yE l
  have h:dep (cP c)=1:=rfl
  omega
theorem qDQ (a b:qV):peq (cP a) (cP b)=decide (a=b):=by
 obtain ⟨a1,a2⟩:=a
 obtain ⟨b1,b2⟩:=b
 show ((a1==b1)&&((a2==b2)&&true))=_
 rw [Bool.and_true]
 by_cases h1:a1=b1
 ·by_cases h2:a2=b2
  ·subst h1;subst h2;simp
  ·rw [AC.mpr h2,BX];exact (AQ (by simp [h2])).symm
 ·rw [AC.mpr h1,Bool.false_and];exact (AQ (by simp [h1])).symm
theorem qDf (c:qV):∀ l:List qV,pin (cP c) (l.map cP)=decide (c∈l)
 |[]=>rfl
 |d::l=>by
  rw [AN,pin,qDQ,qDf c l]
  by_cases h:d=c
  ·subst h;rw [AW rfl,Bool.true_or];exact (AW AF).symm
  ·rw [AQ h,Bool.false_or]
   refine decide_eq_decide.mpr ⟨fun q=>AD _ q,fun q => ?_⟩
   rcases AL.mp q with z |z
   ·exact absurd z.symm h
   ·exact z
theorem qFN {neg:Bool} {c:qV} {l:List qV} {q:PV} {st:qC} (h:zM st q=some (l.map cP)):gIn neg (cP c) q st = .ok (.bl (if neg then !decide (c∈l) else decide (c∈l))) st:=by
 unfold gIn
 rw [h]
 dsimp only
 rw [AH ⟨Z1 l,rfl,AV (yE l) (by decide)⟩]
 show Rs.ok (PV.bl (if neg then !pin (cP c) (l.map cP) else pin (cP c) (l.map cP))) st=_
 rw [qDf]
def clt (a b:qV):Prop:=a.1 < b.1∨(a.1=b.1∧a.2 < b.2)
instance (a b:qV):Decidable (clt a b):=by unfold clt;infer_instance
section
variable {F G:FS} {f fb fo fi2:FE} {fl:FL} {fi:FI} {fa:FA} {g:FG} {t u:FT} {r r1 r':ql} {st s1 s2 s3 s4:qC} {p q z:PV} {l m:List PV} {w:ItP} {n:Nat}
theorem qAM {i k:Nat} {cs:List Addr} {Fb Fh:FS} (h:Fb r st = .nx r1 s1):ZA i k cs Fb Fh r st = .nx r1 s1:=by unfold ZA;rw [h]
theorem Js {i k:Nat} {cs:List Addr} {Fb Fh:FS} {x:Exc} (h:Fb r st = .ex x s1) (hx:x.cls∈cs) (h2:Fh ((List.replicate k none).set i (some (.exc x.cls x.fs))) s1 = .nx r1 s2):ZA i k cs Fb Fh r st = .nx (r1.set i none) s2:=by unfold ZA;rw [h];dsimp only;rw [AH hx,h2]
end
end EV
end
noncomputable section
namespace K44
open PySem EV
def Qq:PV->Bool
 | .non=>true | .bl _=>true | .int _=>true | .str _=>true | .tup _=>true | .lst _=>true | .dct=>true |_=>false
def isInt:PV->Bool
 | .int _=>true
 |_=>false
theorem Ys {a:Ad} {v:PV} {st:qC} (h:Qq v=true):Wk a [v] st = .ok (.bl (isInt v)) st:=by
 cases v <;> first |rfl |cases h
def qq (lo hi:Int):PV->Bool
 | .int i=>decide (lo≤i)&&decide (i≤hi)
 |_=>false
theorem YF {a:Ad} {v:PV} {st:qC} {lo hi:Int} (h:Qq v=true):QZ a [v,.int lo,.int hi] st = .ok (.bl (qq lo hi v)) st:=by
 refine yF rfl ?_
 unfold wA
 refine (jS (p := .bl (qq lo hi v)) (st':=st) ?_)
 unfold qA8
 rw [Wd (l:=[v]) (st':=st) rfl,Ys h]
 cases v with
 |int i =>
  show (match (PV.bl (decide (lo≤i))) with | .bl true=>Rs.ok (PV.bl (decide (i≤hi))) st | .bl false=>Rs.ok (.bl false) st |_ => .no)=_
  unfold qq
  dsimp only
  cases decide (lo≤i) <;> rfl
 |_=>rfl
theorem Ye {a:Ad} {v:PV} {st:qC} (h:Qq v=true):WV a [v] st = .ok (.bl (qq 2 5 v)) st:=by
 refine yF rfl ?_
 unfold WU
 refine (jS (p := .bl (qq 2 5 v)) (st':=st) ?_)
 rw [Wd (l:=[v,.int 2,.int 5]) (st':=st) rfl]
 exact YF h
theorem Wi {a:Ad} {v:PV} {st:qC} (h:Qq v=true):Qp a [v] st=if qq 2 5 v=true then .ok .non st else .ex ⟨a.Z1,[]⟩ st:=by
 unfold Qp QB
 rw [AH (show [v].length=1 from rfl)]
 unfold wl QK QW qy
 rw [Wd (l:=[v]) (st':=st) rfl,Ye h]
 cases hw:qq 2 5 v <;> rfl
theorem qEe {i j:Int} {st:qC}:gEq (.int i) (.int j) st = .ok (.bl (i==j)) st:=rfl
theorem jm {n:Nat} (h:n≤100000):n≤sizeLine:=AV h (by decide)
def WN (L:Int):List Int:=(List.range L.toNat).map fun (i:Nat)=>(i:Int)
theorem qAx {L:Int}:YH 0 L=(WN L).map PV.int:=by
 unfold YH WN
 rw [A9,Int.sub_zero]
 refine Be fun i _ => ?_
 show PV.int (0 + (i:Int))=PV.int i
 rw [Int.zero_add]
theorem upto_mem {L i:Int}:i∈WN L ↔ 0≤i∧i < L:=by
 unfold WN
 rw [A8]
 constructor
 ·rintro ⟨j,hj,rfl⟩;rw [List.mem_range] at hj;omega
 ·rintro ⟨h1,h2⟩;exact ⟨i.toNat,by rw [List.mem_range];omega,by omega⟩
theorem W0 {L:Int}:(WN L).length=L.toNat:=by simp [WN]
theorem qCP {l:List Int} {L i:Int} (hl:l.length=L.toNat) (h0:0≤i) (h1:i < L):L2.atI (l.map PV.int) i=some (.int (l.getD i.toNat 0)):=by
 unfold L2.atI L2.ixN
 rw [AX,AH h0,AH (by omega)]
 show (l.map PV.int)[i.toNat]? = _
 have hi:i.toNat < l.length:=by omega
 rw [Ai,AJ hi,List.getD_eq_getElem?_getD,AJ hi]
 rfl
theorem qEt {l:List Int} {L i:Int} {st:qC} (hl:l.length=L.toNat) (h0:0≤i) (h1:i < L):gIx (.lst (l.map PV.int)) (.int i) st = .ok (.int (l.getD i.toNat 0)) st:=by
 unfold gIx
 simp only [zM,asL,qCP hl h0 h1]
theorem w4 {a:Ad} {st j:qC} {x m:Int} (h:0 < m∧m < 1073741824):qZ a [.ref st.length,.int m] (st ++ .l [.int x]::j) = .ok (.int (x % m)) (st ++ .l [.int (x / m)]::j):=by
 have hs:(st++SO.l [.int x]::j)[st.length]? = some (.l [.int x]):=by simp
 refine Qm rfl (qX (qDa (qT (qL (qQ rfl rfl (qEW (qFQ hs) rfl)) (qL rfl qc)) (qAz h)) rfl) (qX (qGA rfl rfl rfl (s4:=st ++ .l [.int (x / m)]::j) ?_) (Q8 rfl)))
 unfold Zw
 simp only [hs]
 show some ((st++SO.l [.int x]::j).set st.length (.l [.int (x / m)]))=_
 rw [List.set_append_right _ _ (AI _),Nat.sub_self];rfl
def zC:Nat:=2 ^ 20
theorem qBU:64≤zC:=by decide
theorem qBS:zC + zC + 100≤bitsLine:=by decide
theorem qCN {a:Ad} {ns:List Int} {k:Int} {st:qC} (hb:∀ n∈ns,Builtin.Int.intBits n≤2 ^ 20) (h0:0≤k) (h1:k < 100):∃ c:Int,c.natAbs < 2 ^ zC∧WF a [.lst (ns.map PV.int),.int k] st = .ok (.int c) st:=by
 have e1:vTB (qH gLt (qB 1) (qG ZS (qA (qB 0) qD))) (Ql 2 [.lst (ns.map PV.int),.int k]) st = .ok (decide (k < (ns.length:Int))) st :=
  wg (qQ rfl (qT (qL rfl qc) (qAg (l:=ns.map PV.int) rfl (by rw [AX]))) w_lt)
 by_cases hk:k < (ns.length:Int)
 ·refine ⟨ns.getD k.toNat 0,?_,Qm rfl (wL (wP (by rw [e1,AW hk]) (Q8 (qQ rfl rfl (qEt (L:=ns.length) (by omega) h0 hk)))))⟩
  have hi:k.toNat < ns.length:=by omega
  rw [List.getD_eq_getElem?_getD,AJ hi]
  exact qCC (hb _ (List.getElem_mem hi))
 ·refine ⟨6151 * k + 29,?_,Qm rfl (qX (r':=Ql 2 [.lst (ns.map PV.int),.int k]) (s1:=st) (QG (by rw [e1,AQ hk]) rfl) (Q8 (qQ (qQ rfl rfl (Qd (by decide))) rfl w_add)))⟩
  refine AY (m:=2 ^ 64) ?_ (Nat.pow_le_pow_right (by decide) qBU)
  omega
theorem qFB {a:Ad} {c k:Int} {st:qC} (hc:c.natAbs < 2 ^ zC) (h0:0≤k) (h1:k < 24):∃ m:Int,Wg a [.int c,.int k] st = .ok (.int m) st:=by
 have hn:((c + 1) * 40692 + 104729 * k).natAbs < 2 ^ (zC + 30):=by
  rw [Nat.pow_add]
  have h2:0 < 2 ^ zC:=Nat.two_pow_pos _
  generalize 2 ^ zC=N at hc h2
  have:(2:Nat) ^ 30=1073741824:=by decide
  rw [this]
  omega
 generalize hN:(c + 1) * 40692 + 104729 * k=n at hn
 have hbits:Builtin.Int.intBits n + Builtin.Int.intBits n≤bitsLine:=by
  have:=qCb hn
  have:=qBS
  omega
 have hm1:0≤n * n % 2147483399:=Int.emod_nonneg _ (by decide)
 have hm2:n * n % 2147483399 < 2147483399:=Int.emod_lt_of_pos _ (by decide)
 refine ⟨(n * n % 2147483399 + k) * (n * n % 2147483399 + k + 31) % 2147483563,Qm rfl (qX (qu (p := .int n) (s1:=st) (qQ (qQ (qQ rfl rfl w_add) rfl (jb (by decide))) (qQ rfl rfl (Qd (by decide))) (by rw [w_add,hN]))) (qX (qu (qQ (qQ (qQ rfl rfl (qD9 hbits)) rfl (zS (by decide))) rfl w_add)) (Q8 (qQ (qQ rfl (qQ rfl rfl w_add) (Qd ⟨?_,?_⟩)) rfl (zS (by decide))))))⟩
 ·omega
 ·omega
def qCG (a:Ad):FS:=qU 3 (qH q9 (qH Qs (qB 3) (vC (.int 2147483647))) (qG (Wg a) (qA (qB 2) (qA (qB 4) qD))))
theorem YW {a:Ad} {s:PV} {c k:Int} {st:qC} (hc:c.natAbs < 2 ^ zC):∀ (js:List Int) (n:Int) (x:Option PV),(∀ j∈js,0≤j∧j < 24) -> ∃ n' x',QA (fun _=>True) (QO 4) (qCG a) (js.map PV.int) [some s,some (.int k),some (.int c),some (.int n),x] st = .nx [some s,some (.int k),some (.int c),some (.int n'),x'] st
 |[],n,x,_=>⟨n,x,Qw trivial⟩
 |j::js,n,x,h=>by
  have hj:=h j AF
  obtain ⟨m,hm⟩:=qFB (a:=a) (st:=st) hc hj.1 hj.2
  obtain ⟨n',x',e2⟩:=YW (a:=a) (s:=s) (k:=k) (st:=st) hc js (n * 2147483647 + m) (some (.int j)) fun q hq=>h q (AD _ hq)
  exact ⟨n',x',wG trivial rfl (qu (qQ (qQ rfl rfl (jb (by decide))) (qT (qL rfl (qL rfl qc)) hm) w_add)) e2⟩
theorem qES {a:Ad} {ns:List Int} {k:Int} {st:qC} (hb:∀ n∈ns,Builtin.Int.intBits n≤2 ^ 20) (h0:0≤k) (h1:k < 100):∃ x,wu a [.lst (ns.map PV.int),.int k] st = .ok (.ref st.length) (st++[.l [.int x]]):=by
 obtain ⟨c,hc,e⟩:=qCN (a:=a) (st:=st) hb h0 h1
 have ht:vTB (qH gEq (qH WO (qB 2) (vC (.int 2))) (vC (.int 0))) [some (.lst (ns.map PV.int)),some (.int k),some (.int c),none,none] st = .ok (c % 2==0) st:=wg (qQ (qQ rfl rfl (zS (by decide))) rfl qEe)
 have e0:qU 2 (qG (WF a) (qA (qB 0) (qA (qB 1) qD))) (Ql 5 [.lst (ns.map PV.int),.int k]) st = .nx [some (.lst (ns.map PV.int)),some (.int k),some (.int c),none,none] st:=qu (qT (qL rfl (qL rfl qc)) e)
 cases hp:(c % 2==0) with
 |true=>exact ⟨c / 2,Qm rfl (qX e0 (wL (wP (by rw [ht,hp]) (qAi (W4 (qL (qQ rfl rfl (qBD (by decide))) qc) (sz rfl))))))⟩
 |false =>
  obtain ⟨n',x',el⟩:=YW (a:=a) (s := .lst (ns.map PV.int)) (k:=k) (st:=st) hc (WN 24) 0 none fun j hj=>upto_mem.mp hj
  exact ⟨n',Qm rfl (qX e0 (qX (r':=[some (.lst (ns.map PV.int)),some (.int k),some (.int c),none,none]) (s1:=st) (QG (by rw [ht,hp]) rfl) (qX (qu rfl) (qX (Zr (w:=⟨(WN 24).map PV.int,fun _=>True⟩) (s1:=st) rfl el) (qAi (W4 (qL rfl qc) (sz rfl)))))))⟩
theorem wd {a:Ad} {x d:Addr} {st:qC} {r:ql} {b:Bool} (h0:r[0]? = some (some (.exc x []))) (hx:x∈QH a) (hd:d∈a.kinds) (hb:(x==d)=b):qG (Q1 (kit a)) (qA (qB 0) (qA (vC (.fn d)) qD)) r st = .ok (.bl b) st:=by
 rw [Wd (l:=[.exc x [],.fn d]) (st':=st) (by unfold qA qB;rw [h0];rfl)]
 show (match (if x∈QH a∧d∈a.kinds then some (x==d) else none) with |some b=>Rs.ok (PV.bl b) st |none => .no)=_
 rw [AH ⟨hx,hd⟩,hb]
theorem qEF {a:Ad} {x:Addr} {st:qC} {r:ql} (h0:r[0]? = some (some (.exc x []))) (hx:x∈QH a):qG (Q1 (kit a)) (qA (qB 0) (qA (vC (.ty "ValueError")) qD)) r st = .ok (.bl true) st:=by
 rw [Wd (l:=[.exc x [],.ty "ValueError"]) (st':=st) (by unfold qA qB;rw [h0];rfl)]
 show (match (if x∈QH a ∧ "ValueError" = "ValueError" then some true else none) with |some b=>Rs.ok (PV.bl b) st |none => .no)=_
 rw [AH ⟨hx,rfl⟩]
theorem J8 (a:Ad):a.Z1∈a.kinds∧a.Z2∈a.kinds∧a.Z3∈a.kinds∧a.Z4∈a.kinds∧a.Z5∈a.kinds∧a.Z6∈a.kinds∧a.Z7∈a.kinds∧a.Z8∈a.kinds∧a.Z9∈a.kinds∧a.Z10∈a.kinds∧a.Z11∈a.kinds:=by
 unfold Ad.kinds;simp
def qBw (a:Ad):FS:=(qP (QK (qy (qH gIx (qB 1) (vC (.int 10)))) qDp qp) (qP (qU 2 (vFz (Qt (qA (vC (.str "length")) (qA (vC (.str "number")) (qA (vC (.str "bars")) (qA (vC (.str "box")) (qA (vC (.str "weights")) (qA (vC (.str "sorts")) (qA (vC (.str "turn")) (qA (vC (.str "place")) (qA (vC (.str "text")) (qA (vC (.str "row")) qD))))))))))))) (qj (qH qDM (vC (.str "! ")) (qH gIx (qB 2) (qFK (qB 1) (vC (.bl true))))))))
theorem yn {a:Ad} {x:Addr} {st:qC} {v:PV} (hx:x∈QH a) {b0 b1 b2 b3 b4 b5 b6 b7 b8 b9 b10:Bool} (e0:(x==a.Z1)=b0) (e1:(x==a.Z2)=b1) (e2:(x==a.Z3)=b2) (e3:(x==a.Z4)=b3) (e4:(x==a.Z5)=b4) (e5:(x==a.Z6)=b5) (e6:(x==a.Z7)=b6) (e7:(x==a.Z8)=b7) (e8:(x==a.Z9)=b8) (e9:(x==a.Z10)=b9) (e10:(x==a.Z11)=b10)
  (hc:Yz (qB 1) (vC (.bl true)) [some (.exc x []),some (.lst [.bl b0,.bl b1,.bl b2,.bl b3,.bl b4,.bl b5,.bl b6,.bl b7,.bl b8,.bl b9,.bl b10]),none] st = .ok (.int 1) st)
  (h:qBw a [some (.exc x []),some (.lst [.bl b0,.bl b1,.bl b2,.bl b3,.bl b4,.bl b5,.bl b6,.bl b7,.bl b8,.bl b9,.bl b10]),none] st = .rt v st):wJ a [.exc x []] st = .ok v st:=by
 obtain ⟨m0,m1,m2,m3,m4,m5,m6,m7,m8,m9,m10⟩:=J8 a
 exact Qm rfl (qX (qu (Wm (W4 (qL (wd rfl hx m0 e0) (qL (wd rfl hx m1 e1) (qL (wd rfl hx m2 e2) (qL (wd rfl hx m3 e3) qc)))) (sz rfl))))
  (qX (qu (Wm (qBA (l:=[.bl b0,.bl b1,.bl b2,.bl b3]) rfl (Wm (W4 (qL (wd rfl hx m4 e4) (qL (wd rfl hx m5 e5) (qL (wd rfl hx m6 e6) (qL (wd rfl hx m7 e7) qc)))) (sz rfl))) rfl rfl (sz rfl))))
  (qX (qu (Wm (qBA (l:=[.bl b0,.bl b1,.bl b2,.bl b3,.bl b4,.bl b5,.bl b6,.bl b7]) rfl (Wm (W4 (qL (wd rfl hx m8 e8) (qL (wd rfl hx m9 e9) (qL (wd rfl hx m10 e10) qc))) (sz rfl))) rfl rfl (sz rfl))))
  (qX (r':=[some (.exc x []),some (.lst [.bl b0,.bl b1,.bl b2,.bl b3,.bl b4,.bl b5,.bl b6,.bl b7,.bl b8,.bl b9,.bl b10]),none]) (s1:=st) (QG (zI (w_not (b:=true) (Wy (qEF rfl hx))) (wg (qQ hc rfl rfl))) rfl) h))))
theorem YN {a:Ad} (hd:Dist a) {st:qC}:wJ a [.exc a.Z1 []] st = .ok (.str "! length") st:=by
 have nd:=hd
 unfold Dist Ad.kinds at nd
 simp only [Ak,AL,Aq,not_or,Bk] at nd
 obtain ⟨⟨n1,n2,n3,n4,n5,n6,n7,n8,n9,n10⟩,_⟩:=nd
 exact yn (by unfold QH;simp) (Al _) (AC.mpr n1) (AC.mpr n2) (AC.mpr n3) (AC.mpr n4) (AC.mpr n5) (AC.mpr n6) (AC.mpr n7) (AC.mpr n8) (AC.mpr n9) (AC.mpr n10) rfl rfl
theorem itN {L:Int} {r:ql} {st s1:qC} {f:FA} (h1:0≤L) (h2:L≤1000) (hf:f r st = .ok [.int L] s1):(wQ f) r st = .ok ⟨(WN L).map PV.int,fun _=>True⟩ s1:=by
 unfold wQ
 rw [hf]
 show yU [.int L] s1=_
 unfold yU
 dsimp only
 rw [AH (by omega),qAx]
theorem wO {x m:Int} (h:0 < m):0≤x % m∧x % m < m:=⟨Int.emod_nonneg _ (by omega),Int.emod_lt_of_pos _ h⟩
def unC:PV->qV
 | .tup [.int x,.int y]=>(x,y)
 |_=>(0,0)
theorem yh {d:qV->Bool} {l:List qV} {c:PV->Bool} (h:∀ x∈l,c (cP x)=d x):(l.map cP).filter c=(l.filter d).map cP:=by
 induction l with
 |nil=>rfl
 |cons x l ih =>
  rw [AN,BI,BI,h x AF,ih fun y hy=>h y (AD _ hy)]
  cases d x <;> rfl
def In8 (c:qV):Prop:=0≤c.1∧c.1≤7∧0≤c.2∧c.2≤7
def okP:PV->Bool
 | .tup l=>Nat.ble l.length 1000&&l.all Qq
 |p=>Qq p
def okV:PV->Bool
 | .tup l=>Nat.ble l.length 59&&l.all okP
 |p=>Qq p
theorem qAA {v:PV} (h:okV v=true):Qq v=true:=by cases v <;> first |rfl |exact h
theorem qGf {F:List qV} {i:Nat} {st:qC} (h:i < F.length):gIx (.tup (F.map cP)) (.int (i:Int)) st = .ok (cP F[i]) st:=by
 refine qEW rfl ?_
 unfold L2.atI
 rw [JS (by omega) (by rw [AX];omega),Option.bind_some,BN,Ai,AJ h]
 rfl
theorem jE {lo hi:Int} {p:PV} (h:qq lo hi p=true):∃ i,p = .int i∧lo≤i∧i≤hi:=by
 cases p with
 |int i =>
  have h:(decide (lo≤i)&&decide (i≤hi))=true:=h
  rw [Av] at h
  exact ⟨i,rfl,of_decide_eq_true h.1,of_decide_eq_true h.2⟩
 |_=>cases h
theorem Yc {a:Ad} {v:PV} {st:qC} (h:Qq v=true):qx a [v] st = .ok (.bl (isInt v)) st:=by
 cases v <;> first |rfl |cases h
theorem Wl {lo hi i:Int}:qq lo hi (.int i)=(decide (lo≤i)&&decide (i≤hi)):=rfl
theorem jW:∀ F G:List qV,peqs (F.map cP) (G.map cP)=decide (F=G)
 |[],[]=>rfl
 |[],d::G=>rfl
 |c::F,[]=>rfl
 |c::F,d::G=>by
  rw [AN,AN,peqs,qDQ,jW F G]
  by_cases h:c=d
  ·by_cases h2:F=G
   ·subst h;subst h2;simp
   ·rw [AQ h2,BX];exact (AQ (by simp [h2])).symm
  ·rw [AQ h,Bool.false_and];exact (AQ (by simp [h])).symm
theorem qGV {F G:List qV} {st:qC}:gEq (.lst (F.map cP)) (.lst (G.map cP)) st = .ok (.bl (decide (F=G))) st:=by
 have h1:yb (.lst (F.map cP)) (.lst (G.map cP))=true:=by
  show (nrs (F.map cP)&&nrs (G.map cP)&&decide (deps (F.map cP) + 1≤zP))=true
  rw [Z1,Z1,AW (AV (Nat.succ_le_succ (yE F)) (by decide))];rfl
 show (if yb (.lst (F.map cP)) (.lst (G.map cP))=true then Rs.ok (PV.bl (peqs (F.map cP) (G.map cP))) st else Rs.no)=_
 rw [AH h1,jW]
theorem jG {l:List PV} {i:Int} {st:qC} (h0:0≤i) (h1:i < l.length):∃ p,p∈l∧gIx (.lst l) (.int i) st = .ok p st:=by
 have hi:i.toNat < l.length:=by omega
 refine ⟨l[i.toNat],List.getElem_mem hi,qEW rfl ?_⟩
 unfold L2.atI
 rw [JS h0 h1]
 exact AJ hi
theorem qFS {f:FE} {lo hi:FO} {r:ql} {st s1 s2 s3:qC} {l:List PV} {p q:Option Int} (h:f r st = .ok (.tup l) s1) (h1:lo r s1 = .ok p s2) (h2:hi r s2 = .ok q s3):zd f lo hi r st = .ok (.tup (yf l p q)) s3:=by
 unfold zd;rw [h];show (lo r s1).bind _=_;rw [h1];show (hi r s2).bind _=_;rw [h2];rfl
theorem qE3 {l m:List PV} {st:qC} (h:l.length + m.length≤1000):zD (.tup l) (.tup m) st = .ok (.tup (l++m)) st:=by
 unfold zD
 exact AH (AV h (by decide))
end K44
end
noncomputable section
namespace K44
open PySem EV EX ET
abbrev Bar:=Int×Int×Int
def bP (b:Bar):PV := .tup [.int b.1,.int b.2.1,.int b.2.2]
def unB:PV->Bar
 | .tup [.int x,.int y,.int z]=>(x,y,z)
 |_=>(0,0,0)
def qCU (b:Bar) (k:Int):qV:=(b.1 + k * b.2.2,b.2.1 + k - k * b.2.2)
def cov (L:Int) (b:Bar):List qV:=(WN L).map (qCU b)
theorem qC0 {L:Int} {b:Bar}:(cov L b).length=L.toNat:=by unfold cov;rw [AX,W0]
theorem qBk {a:Ad} {b:Bar} {L:Int} {st:qC} (h1:0≤L) (h2:L≤1000):Qg a [bP b,.int L] st = .ok (.lst ((cov L b).map cP)) st:=by
 let G:PV->PV:=fun p=>match p with
  | .int k=>cP (qCU b k)
  |_=>p
 have e:=Zn (caps:=[2,4,3]) (n:=1) (fi:=wQ (qA (qB 1) qD)) (g:=wa 3) (f:=QM (qA (qH q9 (qB 0) (qH Qs (qB 3) (qB 1))) (qA (qH zA (qH q9 (qB 2) (qB 3)) (qH Qs (qB 3) (qB 1))) qD))) (r:=[some (bP b),some (.int L),some (.int b.1),some (.int b.2.1),some (.int b.2.2)]) (st:=st) (w:=⟨(WN L).map PV.int,fun _=>True⟩) (F:=G) (itN h1 h2 rfl) trivial (by rw [AX,W0];exact jm (by omega)) fun p hp=>by
  obtain ⟨k,hk,rfl⟩:=A8.mp hp
  have hk:=upto_mem.mp hk
  have hm:-(2 ^ 64) < k∧k < 2 ^ 64:=by omega
  exact ⟨[some (.int b.1),some (.int b.2.2),some (.int b.2.1),some (.int k)],rfl,W3 (qL (qQ rfl (qQ rfl rfl (Qd hm)) w_add) (qL (qQ (qQ rfl rfl w_add) (qQ rfl rfl (Qd hm)) w_sub') qc)) (sz rfl)⟩
 have e2:((WN L).map PV.int).map G=(cov L b).map cP:=by unfold cov;rw [A9,A9];rfl
 rw [← e2]
 exact Qm rfl (qX (qDa (r1:=[some (bP b),some (.int L),some (.int b.1),some (.int b.2.1),some (.int b.2.2)]) rfl rfl) (Q8 (Wm e)))
def opn (L:Int) (l:List qV) (b:Bar):Bool:=((cov L b).filter fun d => !decide (d∈l)).isEmpty
def lft (L:Int) (l:List qV) (b:Bar):List qV:=l.filter fun d => !decide (d∈cov L b)
def fB (L:Int):Nat->List qV->Nat
 |0,_=>0
 |_ + 1,[]=>0
 |n + 1,c::r=>max (fB L n r) (max (if opn L (c::r) (c.1,c.2,0)=true then 1 + fB L n (lft L (c::r) (c.1,c.2,0)) else 0) (if opn L (c::r) (c.1,c.2,1)=true then 1 + fB L n (lft L (c::r) (c.1,c.2,1)) else 0))
theorem qCI {L:Int} (hL:1≤L) {c:qV} {w:Int}:c∈cov L (c.1,c.2,w):=by
 unfold cov
 refine A8.mpr ⟨0,upto_mem.mpr ⟨by omega,by omega⟩,?_⟩
 obtain ⟨x,y⟩:=c
 simp [qCU]
theorem W8 {L:Int} (hL:1≤L) {c:qV} {r:List qV} {w:Int}:(lft L (c::r) (c.1,c.2,w)).length≤r.length:=by
 unfold lft
 rw [List.filter_cons_of_neg (by simp [qCI hL])]
 exact List.length_filter_le _ _
theorem Wb {L:Int} (hL:1≤L):∀ (n m:Nat) (l:List qV),l.length≤n->l.length≤m->fB L n l=fB L m l
 |0,0,_,_,_=>rfl
 |0,m + 1,l,h,_=>by
  have:l=[]:=As.mp (by omega)
  subst this;rfl
 |n + 1,0,l,_,h=>by
  have:l=[]:=As.mp (by omega)
  subst this;rfl
 |n + 1,m + 1,[],_,_=>rfl
 |n + 1,m + 1,c::r,h1,h2=>by
  have q1:r.length≤n:=by rw [Ae] at h1;omega
  have q2:r.length≤m:=by rw [Ae] at h2;omega
  have e0:=W8 hL (c:=c) (r:=r) (w:=0)
  have e1:=W8 hL (c:=c) (r:=r) (w:=1)
  show max _ _=max _ _
  rw [Wb hL n m r q1 q2,Wb hL n m _ (AV e0 q1) (AV e0 q2),Wb hL n m _ (AV e1 q1) (AV e1 q2)]
def FB (L:Int) (l:List qV):Nat:=fB L l.length l
theorem qCV {L:Int} (hL:1≤L) {c:qV} {r:List qV}:FB L (c::r)=max (FB L r) (max (if opn L (c::r) (c.1,c.2,0)=true then 1 + FB L (lft L (c::r) (c.1,c.2,0)) else 0) (if opn L (c::r) (c.1,c.2,1)=true then 1 + FB L (lft L (c::r) (c.1,c.2,1)) else 0)):=by
 have e0:=W8 hL (c:=c) (r:=r) (w:=0)
 have e1:=W8 hL (c:=c) (r:=r) (w:=1)
 show fB L (r.length + 1) (c::r)=_
 unfold FB
 rw [Wb hL _ r.length _ (AI _) e0,Wb hL _ r.length _ (AI _) e1]
 rfl
abbrev Ent:=List qV×Nat
def kC (c:qV):List L2.Key:=[.inl c.1,.inl c.2]
def kN (l:List qV):List (List L2.Key):=l.map kC
def eN (e:Ent):List (List L2.Key)×PV:=(kN e.1,.int e.2)
theorem qFE {c d:qV} (h:kC c=kC d):c=d:=by
 obtain ⟨x,y⟩:=c;obtain ⟨z,w⟩:=d
 unfold kC at h
 injection h with h1 h2
 injection h2 with h2 _
 injection h1 with h1
 injection h2 with h2
 simp only at h1 h2
 rw [h1,h2]
theorem yK:∀ {l m:List qV},kN l=kN m->l=m
 |[],[],_=>rfl
 |[],_::_,h=>by cases h
 |_::_,[],h=>by cases h
 |c::l,d::m,h=>by
  obtain ⟨h1,h2⟩:=Bl (show kC c::kN l=kC d::kN m from h)
  rw [qFE h1,yK h2]
theorem WW:∀ l:List qV,ZF (.tup (l.map cP))=some (kN l):=by
 intro l
 show WZ YG (l.map cP)=_
 induction l with
 |nil=>rfl
 |cons c l ih =>
  rw [AN]
  unfold WZ
  rw [ih]
  rfl
theorem qCW (l:List qV):Zi (kN l) = .tup (l.map cP):=by
 unfold Zi kN
 rw [A9]
 rfl
def up (k:List qV) (v:Nat):List Ent->List Ent
 |[]=>[(k,v)]
 |e::r=>if e.1=k then (k,max e.2 v)::r else e::up k v r
def Ws (k:List qV):List Ent->Option Nat
 |[]=>none
 |e::r=>if e.1=k then some e.2 else Ws k r
theorem jd {k:List qV}:∀ l:List Ent,zN (l.map eN) (kN k)=(Ws k l).map fun v=>PV.int (v:Int)
 |[]=>rfl
 |e::r=>by
  unfold Ws
  by_cases h:e.1=k
  ·rw [AH h]
   have h':kN e.1=kN k:=by rw [h]
   simp [zN,eN,A6,h']
  ·rw [AO h,← jd r]
   have h':¬ kN e.1=kN k:=fun z=>h (yK z)
   simp [zN,eN,A6,h']
theorem qDm {k:List (List L2.Key)} {x:List (List L2.Key)×PV} {r:List (List (List L2.Key)×PV)} {v:PV} (h:¬ x.1=k):zO (x::r) k v=x::zO r k v:=by
 unfold zO
 simp only [List.any_cons,h,decide_false,Bool.false_or,AN,A4]
 split <;> rfl
theorem JE {k:List qV}:∀ {l:List Ent},(∀ e∈l,e.1≠k) -> ∀ f:Ent->List (List L2.Key)×PV,(∀ e∈l,(f e).1=kN e.1) -> ∀ v,(l.map f).map (fun kv=>if kv.1=kN k then (kv.1,v) else kv)=l.map f
 |[],_,_,_,_=>rfl
 |e::l,h,f,hf,v=>by
  rw [AN,AN,JE (fun x hx=>h x (AD _ hx)) f (fun x hx=>hf x (AD _ hx)) v,AO]
  rw [hf e AF]
  exact fun z=>h e AF (yK z)
theorem Y3 {k:List qV} {v:Nat}:∀ {l:List Ent},(l.map (·.1)).Nodup->zO (l.map eN) (kN k) (.int ((max ((Ws k l).getD 0) v:Nat):Int))=(up k v l).map eN
 |[],_=>by
  show [(kN k,PV.int _)]=[(kN k,PV.int _)]
  rw [show max ((Ws k []).getD 0) v=v from Nat.zero_max v]
 |e::r,h=>by
  rw [AN,Ak] at h
  unfold Ws up
  by_cases q:e.1=k
  ·rw [AH q,AH q]
   show zO ((kN e.1,PV.int e.2)::r.map eN) (kN k) _=(kN k,PV.int _)::r.map eN
   unfold zO
   rw [AH (by simp [q])]
   rw [AN,AH (show kN e.1=kN k by rw [q])]
   rw [JE (k:=k) (fun x hx z=>h.1 (by rw [q,← z];exact Bf hx)) eN (fun _ _=>rfl)]
   rw [q]
   rfl
  ·rw [AO q,AO q]
   show zO (eN e::r.map eN) _ _=eN e::(up k v r).map eN
   rw [qDm (fun z=>q (yK z)),Y3 h.2]
theorem yY {k:List qV} {v:Nat}:∀ (l:List Ent) (x:List qV),x∈(up k v l).map (·.1) ↔ x=k∨x∈l.map (·.1)
 |[],x=>by simp [up]
 |e::r,x=>by
  unfold up
  by_cases q:e.1=k
  ·rw [AH q];simp [q]
  ·rw [AO q,AN,AL,yY r x,AN,AL]
   constructor
   ·rintro (h |h |h)
    ·exact .inr (.inl h)
    ·exact .inl h
    ·exact .inr (.inr h)
   ·rintro (h |h |h)
    ·exact .inr (.inl h)
    ·exact .inl h
    ·exact .inr (.inr h)
theorem Wx {k:List qV} {v:Nat}:∀ {l:List Ent},(l.map (·.1)).Nodup->((up k v l).map (·.1)).Nodup
 |[],_=>by simp [up]
 |e::r,h=>by
  rw [AN,Ak] at h
  unfold up
  by_cases q:e.1=k
  ·rw [AH q,AN,Ak];rw [q] at h;exact h
  ·rw [AO q,AN,Ak]
   refine ⟨fun z => ?_,Wx h.2⟩
   rcases (yY r e.1).mp z with z |z
   ·exact q z
   ·exact h.1 z
theorem yP {k:List qV} {v:Nat}:∀ l:List Ent,(up k v l).length≤l.length + 1
 |[]=>AI _
 |e::r=>by
  unfold up
  by_cases q:e.1=k
  ·rw [AH q];simp
  ·rw [AO q,Ae,Ae];have:=yP (k:=k) (v:=v) r;omega
def pot (L:Int) (b:Nat):List Ent->Nat
 |[]=>b
 |e::r=>max (e.2 + FB L e.1) (pot L b r)
theorem jN {L:Int} {b:Nat} {k:List qV} {v:Nat}:∀ l:List Ent,pot L b (up k v l)=max (v + FB L k) (pot L b l)
 |[]=>rfl
 |e::r=>by
  unfold up
  by_cases q:e.1=k
  ·rw [AH q]
   show max (max e.2 v + FB L k) (pot L b r)=max (v + FB L k) (max (e.2 + FB L e.1) (pot L b r))
   rw [q];omega
  ·rw [AO q]
   show max (e.2 + FB L e.1) (pot L b (up k v r))=max (v + FB L k) (max (e.2 + FB L e.1) (pot L b r))
   rw [jN r];omega
theorem JC {L:Int} {b c:Nat}:∀ l:List Ent,pot L (max b c) l=max b (pot L c l)
 |[]=>rfl
 |e::r=>by
  show max (e.2 + FB L e.1) (pot L (max b c) r)=max b (max (e.2 + FB L e.1) (pot L c r))
  rw [JC r];omega
theorem qDI {l:List Ent} (h:(l.map (·.1)).Nodup) (h2:∀ e∈l,e.1.length≤0):l.length≤1:=by
 match l,h,h2 with
 |[],_,_=>exact A3 _
 |[_],_,_=>exact AI _
 |a::b::r,h,h2 =>
  have e1:a.1=[]:=As.mp (by have:=h2 a AF;omega)
  have e2:b.1=[]:=As.mp (by have:=h2 b (AD _ AF);omega)
  rw [AN,Ak] at h
  exact absurd (by rw [e1,AN,e2];exact AF) h.1
section
variable {r r' r1:ql} {st s1 s2 s3:qC} {f fb fc:FE} {p q z:PV} {n:Nat} {kvs kv0:List (List (List L2.Key)×PV)} {k:List (List L2.Key)} {g:FG} {F:FS}
theorem zG (h:st[n]? = some (.n kvs)∨st[n]? = some (.w kvs)):nAt st n=some kvs:=by unfold nAt;rcases h with h |h <;> rw [h]
theorem qBR (hk:ZF q=some k) (hd:nAt st n=some kvs) (hv:zN kvs k=some p):Wh (.ref n) q st = .ok p st:=by
 unfold Wh;dsimp only;rw [hk,hd];dsimp only;rw [hv]
theorem qBl (h:f r st = .ok (.ref n) s1) (h1:nAt s1 n=some kv0) (h2:fb r s1 = .ok q s2) (h3:fc r s2 = .ok z s3) (hk:ZF q=some k) (hd:nAt s3 n=some kvs):WP f fb fc r st = .ok ((zN kvs k).getD z) s3:=by
 unfold WP;rw [h];dsimp only [Rs.bind];rw [h1];dsimp only;rw [h2];dsimp only [Rs.bind];rw [h3];dsimp only [Rs.bind];rw [hk,hd]
theorem qAZ (h:f r st = .ok p s1) (h1:fb r s1 = .ok (.ref n) s2) (h2:fc r s2 = .ok q s3) (hk:ZF q=some k) (hd:s3[n]? = some (.n kvs)) (hl:kvs.length < sizeLine):wc fb fc f r st = .nx r (s3.set n (.n (zO kvs k p))):=by
 unfold wc;rw [h];dsimp only [Rs.bindS];rw [h1];dsimp only [Rs.bindS];rw [h2];dsimp only [Rs.bindS];rw [hk,hd];dsimp only;rw [AH hl]
theorem qAp (h:f r (st++[.n []]) = .ok q (st++[.n []])) (h2:fb r (st++[.n []]) = .ok p (st++[.n []])) (hk:ZF q=some k):zf f fb r st = .ok (.ref st.length) (st++[.n [(k,p)]]):=by
 unfold zf;rw [h];dsimp only [Rs.bind];rw [h2];dsimp only [Rs.bind];rw [hk]
 have e:(st++[SO.n []])[st.length]? = some (.n []):=by simp
 rw [e];dsimp only
 have e2:(st++[SO.n []]).set st.length (.n [(k,p)])=st++[.n [(k,p)]]:=by simp
 rw [e2]
theorem qFq {m:Nat} (h:nAt st n=some kvs) (h2:nAt st m=some []):Y9 (.ref n) (.ref m) st = .ok (.bl (!kvs.isEmpty)) st:=by
 unfold Y9;dsimp only;rw [h,h2]
theorem qEA {it:Bool} (h:f r st = .ok (.ref n) s1) (h2:s1[n]? = some (.n kvs)) (h3:QA (fun _=>True) g F (kvs.map (YD it)) r (s1.set n (.w kvs)) = .nx r' s2):zF it f g F r st = .nx r' (s2.set n (.n kvs)):=by
 unfold zF;rw [h];dsimp only [Rs.bindS];rw [h2];dsimp only;rw [h3];rfl
end
theorem w_max {i j:Int} {st:qC}:wt [.int i,.int j] st = .ok (.int (if j > i then j else i)) st:=rfl
theorem qBi {x y:Nat}:(if (y:Int) > (x:Int) then (y:Int) else (x:Int))=((max x y:Nat):Int):=by split <;> omega
theorem zq {S:qC} {j:Nat} {x:SO} (h:S[j]? = some x):S.set j x=S:=by
 obtain ⟨hj,e⟩:=AG.mp h
 rw [← e];exact List.set_getElem_self hj
theorem yX {k:List qV} {l:List Ent} {v:Nat} (h:Ws k l=some v):zN (l.map eN) (kN k)=some (.int (v:Int)):=by rw [jd,h];rfl
theorem YZ {k:List qV} {l:List Ent}:(zN (l.map eN) (kN k)).getD (.int 0) = .int (((Ws k l).getD 0:Nat):Int):=by
 rw [jd];cases Ws k l <;> rfl
def qGh (a:Ad):FS:=(qP (qU 7 (qG (Qg a) (qA (qH zD (qH gIx (qB 5) (vC (.int 0))) (QM (qA (qB 6) qD))) (qA (qB 1) qD)))) (QK (vTB (qH gEq (vFz (QC [5] 1 (Qf (qB 7)) (wa 1) [(vTB (qH (gIn true) (qB 1) (qB 0)))] [] (qB 1))) (vFz (Qt qD)))) (qP (qU 8 (qG Q7 (qA (vFz (QC [7] 1 (Qf (qB 5)) (wa 1) [(vTB (qH (gIn true) (qB 1) (qB 0)))] [] (qB 1))) qD))) (wc (qB 4) (qB 8) (qG wt (qA (WP (qB 4) (qB 8) (vC (.int 0))) (qA (qH q9 (qH Wh (qB 2) (qB 5)) (vC (.int 1))) qD))))) qp))
def qE7 (a:Ad):FS:=(qP (qU 3 (qG wt (qA (qB 3) (qA (qH Wh (qB 2) (qB 5)) qD)))) (QK (vTB (qH gNe (qB 5) (QM qD))) (qP (wc (qB 4) (zd (qB 5) (wZ (vC (.int 1))) wm) (qG wt (qA (WP (qB 4) (zd (qB 5) (wZ (vC (.int 1))) wm) (vC (.int 0))) (qA (qH Wh (qB 2) (qB 5)) qD)))) (wR (wQ (qA (vC (.int 2)) qD)) (QO 6) (qP (qU 7 (qG (Qg a) (qA (qH zD (qH gIx (qB 5) (vC (.int 0))) (QM (qA (qB 6) qD))) (qA (qB 1) qD)))) (QK (vTB (qH gEq (vFz (QC [5] 1 (Qf (qB 7)) (wa 1) [(vTB (qH (gIn true) (qB 1) (qB 0)))] [] (qB 1))) (vFz (Qt qD)))) (qP (qU 8 (qG Q7 (qA (vFz (QC [7] 1 (Qf (qB 5)) (wa 1) [(vTB (qH (gIn true) (qB 1) (qB 0)))] [] (qB 1))) qD))) (wc (qB 4) (qB 8) (qG wt (qA (WP (qB 4) (qB 8) (vC (.int 0))) (qA (qH q9 (qH Wh (qB 2) (qB 5)) (vC (.int 1))) qD))))) qp)))) qp))
def whB (a:Ad):FS:=(qP (qU 4 ZZ) (qP (zF false (qB 2) (QO 5) (qP (qU 3 (qG wt (qA (qB 3) (qA (qH Wh (qB 2) (qB 5)) qD)))) (QK (vTB (qH gNe (qB 5) (QM qD))) (qP (wc (qB 4) (zd (qB 5) (wZ (vC (.int 1))) wm) (qG wt (qA (WP (qB 4) (zd (qB 5) (wZ (vC (.int 1))) wm) (vC (.int 0))) (qA (qH Wh (qB 2) (qB 5)) qD)))) (wR (wQ (qA (vC (.int 2)) qD)) (QO 6) (qP (qU 7 (qG (Qg a) (qA (qH zD (qH gIx (qB 5) (vC (.int 0))) (QM (qA (qB 6) qD))) (qA (qB 1) qD)))) (QK (vTB (qH gEq (vFz (QC [5] 1 (Qf (qB 7)) (wa 1) [(vTB (qH (gIn true) (qB 1) (qB 0)))] [] (qB 1))) (vFz (Qt qD)))) (qP (qU 8 (qG Q7 (qA (vFz (QC [7] 1 (Qf (qB 5)) (wa 1) [(vTB (qH (gIn true) (qB 1) (qB 0)))] [] (qB 1))) qD))) (wc (qB 4) (qB 8) (qG wt (qA (WP (qB 4) (qB 8) (vC (.int 0))) (qA (qH q9 (qH Wh (qB 2) (qB 5)) (vC (.int 1))) qD))))) qp)))) qp))) (qU 2 (qB 4))))
theorem qBL {C l:List qV} {r:ql} {st:qC} (h5:r[5]? = some (some (.tup (l.map cP)))) (h7:r[7]? = some (some (.lst (C.map cP)))) (hC:C.length≤60):(vTB (qH gEq (vFz (QC [5] 1 (Qf (qB 7)) (wa 1) [(vTB (qH (gIn true) (qB 1) (qB 0)))] [] (qB 1))) (vFz (Qt qD)))) r st = .ok ((C.filter fun d => !decide (d∈l)).isEmpty) st:=by
 have hc:wN [5] 1 r=[some (.tup (l.map cP)),none]:=by
  unfold wN
  show [(r[5]?).join]++_=_
  rw [h5];rfl
 have e:vFz (QC [5] 1 (Qf (qB 7)) (wa 1) [(vTB (qH (gIn true) (qB 1) (qB 0)))] [] (qB 1)) r st = .ok (.lst ((C.filter fun d => !decide (d∈l)).map cP)) st:=by
  refine Wm ?_
  rw [W5 (w:=⟨C.map cP,fun _=>True⟩) (c:=fun p => !decide (unC p∈l)) (WB (zz h7)) trivial (by rw [AX];exact jm (by omega)) fun p hp => ?_]
  ·rw [yh (d:=fun c => !decide (c∈l)) fun x _=>rfl]
  ·obtain ⟨d,_,rfl⟩:=A8.mp hp
   exact ⟨[some (.tup (l.map cP)),some (cP d)],by rw [hc];rfl,wg (qQ rfl rfl (qFN (neg:=true) rfl)),rfl⟩
 refine wg (qQ e (Wm (W4 qc (A3 _))) ?_)
 have:=qGV (F:=C.filter fun d => !decide (d∈l)) (G:=[]) (st:=st)
 refine this.trans ?_
 congr 2
 cases C.filter fun d => !decide (d∈l) <;> rfl
theorem qD7 {C l:List qV} {r:ql} {st:qC} (h5:r[5]? = some (some (.tup (l.map cP)))) (h7:r[7]? = some (some (.lst (C.map cP)))) (hl:l.length≤60):(qG Q7 (qA (vFz (QC [7] 1 (Qf (qB 5)) (wa 1) [(vTB (qH (gIn true) (qB 1) (qB 0)))] [] (qB 1))) qD)) r st = .ok (.tup ((l.filter fun d => !decide (d∈C)).map cP)) st:=by
 have hc:wN [7] 1 r=[some (.lst (C.map cP)),none]:=by
  unfold wN
  show [(r[7]?).join]++_=_
  rw [h7];rfl
 refine qT (l:=[.lst ((l.filter fun d => !decide (d∈C)).map cP)]) (qL (Wm ?_) qc) (yQ rfl)
 rw [W5 (w:=⟨l.map cP,fun _=>True⟩) (c:=fun p => !decide (unC p∈C)) (Yw (zz h5)) trivial (by rw [AX];exact jm (by omega)) fun p hp => ?_]
 ·rw [yh (d:=fun c => !decide (c∈C)) fun x _=>rfl]
 ·obtain ⟨d,_,rfl⟩:=A8.mp hp
  exact ⟨[some (.lst (C.map cP)),some (cP d)],by rw [hc];rfl,wg (qQ rfl rfl (qFN (neg:=true) rfl)),rfl⟩
def WA (L:Int) (l:List qV) (c:qV) (v:Nat) (w:Int) (D:List Ent):List Ent:=if opn L l (c.1,c.2,w)=true then up (lft L l (c.1,c.2,w)) (v + 1) D else D
theorem qB4 {a:Ad} {L w:Int} {c:qV} {r0:List qV} {v i j:Nat} {K D:List Ent} {S:qC} {x0 x3 x7 x8:Option PV} (hL1:1≤L) (hL2:L≤5) (hl:(c::r0).length≤60)
  (hi:S[i]? = some (.w (K.map eN))) (hj:S[j]? = some (.n (D.map eN))) (hv:Ws (c::r0) K=some v) (hd:(D.map (·.1)).Nodup) (hz:D.length < sizeLine) :
  ∃ y7 y8,qGh a [x0,some (.int L),some (.ref i),x3,some (.ref j),some (.tup ((c::r0).map cP)),some (.int w),x7,x8] S = .nx [x0,some (.int L),some (.ref i),x3,some (.ref j),some (.tup ((c::r0).map cP)),some (.int w),y7,y8] (S.set j (.n ((WA L (c::r0) c v w D).map eN))):=by
 have e7:(qG (Qg a) (qA (qH zD (qH gIx (qB 5) (vC (.int 0))) (QM (qA (qB 6) qD))) (qA (qB 1) qD))) [x0,some (.int L),some (.ref i),x3,some (.ref j),some (.tup ((c::r0).map cP)),some (.int w),x7,x8] S = .ok (.lst ((cov L (c.1,c.2,w)).map cP)) S:=by
  refine qT (l:=[bP (c.1,c.2,w),.int L]) (qL (qQ (p:=cP c) (qQ rfl rfl (qGf (F:=c::r0) (i:=0) (by simp))) (W3 (qL rfl qc) (sz rfl)) ?_) (qL rfl qc)) (qBk (by omega) (by omega))
  exact qE3 (show 2 + 1≤1000 by decide)
 have hcl:(cov L (c.1,c.2,w)).length≤60:=by rw [qC0];omega
 cases ho:opn L (c::r0) (c.1,c.2,w) with
 |false =>
  refine ⟨some (.lst ((cov L (c.1,c.2,w)).map cP)),x8,?_⟩
  unfold WA
  rw [ho,AO Ag,zq hj]
  refine qX (qu e7) (QG ((qBL (C:=cov L (c.1,c.2,w)) (l:=c::r0) rfl rfl hcl).trans (by rw [show ((cov L (c.1,c.2,w)).filter fun d => !decide (d∈c::r0)).isEmpty=false from ho])) rfl)
 |true =>
  refine ⟨some (.lst ((cov L (c.1,c.2,w)).map cP)),some (.tup ((lft L (c::r0) (c.1,c.2,w)).map cP)),?_⟩
  unfold WA
  rw [ho,AH rfl]
  refine qX (qu e7) (wP ((qBL (C:=cov L (c.1,c.2,w)) (l:=c::r0) rfl rfl hcl).trans (by rw [show ((cov L (c.1,c.2,w)).filter fun d => !decide (d∈c::r0)).isEmpty=true from ho])) (qX (qu (qD7 (C:=cov L (c.1,c.2,w)) (l:=c::r0) rfl rfl hl)) ?_))
  rw [← Y3 hd]
  refine (qAZ (p := .int ((max ((Ws (lft L (c::r0) (c.1,c.2,w)) D).getD 0) (v + 1):Nat):Int)) (qT (qL (qBl rfl (zG (.inl hj)) rfl rfl (WW (lft L (c::r0) (c.1,c.2,w))) (zG (.inl hj))) (qL (qQ (qQ rfl rfl (qBR (WW (c::r0)) (zG (.inr hi)) (yX hv))) rfl w_add) qc)) ?_) rfl rfl (WW (lft L (c::r0) (c.1,c.2,w))) hj (by rw [AX];exact hz))
  rw [YZ]
  refine w_max.trans ?_
  rw [show ((v:Int) + 1)=((v + 1:Nat):Int) from rfl,qBi]
theorem qAq {F:List qV} {st:qC}:gNe (.tup (F.map cP)) (.tup []) st = .ok (.bl (!decide (F=[]))) st:=by
 have h1:yb (.tup (F.map cP)) (.tup (([]:List qV).map cP))=true:=by
  show (nrs (F.map cP)&&nrs (([]:List qV).map cP)&&decide (deps (F.map cP) + 1≤zP))=true
  rw [Z1,Z1,AW (AV (Nat.succ_le_succ (yE F)) (by decide))];rfl
 show (if yb (.tup (F.map cP)) (.tup (([]:List qV).map cP))=true then Rs.ok (PV.bl (!peqs (F.map cP) (([]:List qV).map cP))) st else Rs.no)=_
 rw [AH h1,jW]
theorem qF7 {c:qV} {l:List qV}:yf ((c::l).map cP) (some 1) none=l.map cP:=by
 have h1:HT.sIx ((c::l).map cP).length 0 (some 1)=1:=by
  have:=HT.sIx_nat ((c::l).map cP).length 0 1
  rw [show (some ((1:Nat):Int))=some 1 from rfl] at this
  rw [this];simp
 have h2:HT.sIx ((c::l).map cP).length ((c::l).map cP).length none=((c::l).map cP).length:=rfl
 unfold yf
 rw [h1,h2]
 simp only [AN,Ae,AX,List.drop_succ_cons,List.drop_zero,Nat.add_sub_cancel]
 exact List.take_of_length_le (by simp)
def ZR (L:Int) (l:List qV) (v:Nat) (D:List Ent):List Ent:=match l with
 |[]=>D
 |c::r=>WA L (c::r) c v 1 (WA L (c::r) c v 0 (up r v D))
theorem yR {L:Int} {l:List qV} {c:qV} {v:Nat} {w:Int} {D:List Ent}:(WA L l c v w D).length≤D.length + 1:=by
 unfold WA;split
 ·exact yP D
 ·omega
theorem zR {L:Int} {l:List qV} {c:qV} {v:Nat} {w:Int} {D:List Ent} (h:(D.map (·.1)).Nodup):((WA L l c v w D).map (·.1)).Nodup:=by
 unfold WA;split
 ·exact Wx h
 ·exact h
theorem jq {L:Int} {b:Nat} {l:List qV} {c:qV} {v:Nat} {w:Int} {D:List Ent}:pot L b (WA L l c v w D)=max (if opn L l (c.1,c.2,w)=true then v + (1 + FB L (lft L l (c.1,c.2,w))) else 0) (pot L b D):=by
 unfold WA;split
 ·rw [jN];omega
 ·omega
theorem yj {k:List qV} {v n:Nat} {D:List Ent} (h:∀ e∈D,e.1.length≤n) (hk:k.length≤n):∀ e∈up k v D,e.1.length≤n:=fun e he=>by
 rcases (yY D e.1).mp (Bf he) with z |z
 ·rw [z];exact hk
 ·obtain ⟨x,hx,q⟩:=A8.mp z
  rw [← q];exact h x hx
theorem Zo {L:Int} (hL:1≤L) {r:List qV} {c:qV} {v n:Nat} {w:Int} {D:List Ent} (h:∀ e∈D,e.1.length≤n) (hr:r.length≤n):∀ e∈WA L (c::r) c v w D,e.1.length≤n:=by
 unfold WA;split
 ·exact yj h (AV (W8 hL) hr)
 ·exact h
theorem jf {L:Int} {l:List qV} {v:Nat} {D:List Ent}:(ZR L l v D).length≤D.length + 3:=by
 cases l with
 |nil=>exact Ba _ _
 |cons c r =>
  show (WA L (c::r) c v 1 (WA L (c::r) c v 0 (up r v D))).length≤_
  have h1:=yR (L:=L) (l:=c::r) (c:=c) (v:=v) (w:=1) (D:=WA L (c::r) c v 0 (up r v D))
  have h2:=yR (L:=L) (l:=c::r) (c:=c) (v:=v) (w:=0) (D:=up r v D)
  have h3:=yP (k:=r) (v:=v) D
  omega
theorem Zk {L:Int} {l:List qV} {v:Nat} {D:List Ent} (h:(D.map (·.1)).Nodup):((ZR L l v D).map (·.1)).Nodup:=by
 cases l with
 |nil=>exact h
 |cons c r=>exact zR (zR (Wx h))
theorem Zl {L:Int} (hL:1≤L) {l:List qV} {v n:Nat} {D:List Ent} (h:∀ e∈D,e.1.length≤n) (hl:l.length≤n + 1):∀ e∈ZR L l v D,e.1.length≤n:=by
 cases l with
 |nil=>exact h
 |cons c r =>
  have hr:r.length≤n:=by rw [Ae] at hl;omega
  exact Zo hL (Zo hL (yj h hr) hr) hr
theorem qDG {L:Int} (hL:1≤L) {b:Nat} {l:List qV} {v:Nat} {D:List Ent}:pot L (max b v) (ZR L l v D)=max (v + FB L l) (pot L b D):=by
 cases l with
 |nil =>
  show pot L (max b v) D=max (v + 0) (pot L b D)
  rw [Nat.max_comm b v,JC];rfl
 |cons c r =>
  show pot L (max b v) (WA L (c::r) c v 1 (WA L (c::r) c v 0 (up r v D)))=_
  rw [jq,jq,jN,Nat.max_comm b v,JC,qCV hL]
  cases opn L (c::r) (c.1,c.2,0) <;> cases opn L (c::r) (c.1,c.2,1) <;> simp only [if_true,Ar,A4] <;> omega
theorem qEj {a:Ad} {L:Int} {l:List qV} {b v i j:Nat} {K D:List Ent} {S:qC} {x0 x6 x7 x8:Option PV} (hL1:1≤L) (hL2:L≤5) (hl:l.length≤60) (hij:i≠j)
  (hi:S[i]? = some (.w (K.map eN))) (hj:S[j]? = some (.n (D.map eN))) (hv:Ws l K=some v) (hd:(D.map (·.1)).Nodup) (hz:D.length + 3 < sizeLine) :
  ∃ y6 y7 y8,qE7 a [x0,some (.int L),some (.ref i),some (.int (b:Int)),some (.ref j),some (.tup (l.map cP)),x6,x7,x8] S = .nx [x0,some (.int L),some (.ref i),some (.int ((max b v:Nat):Int)),some (.ref j),some (.tup (l.map cP)),y6,y7,y8] (S.set j (.n ((ZR L l v D).map eN))):=by
 have e3:∀ {x:Option PV},qG wt (qA (qB 3) (qA (qH Wh (qB 2) (qB 5)) qD)) [x0,some (.int L),some (.ref i),some (.int (b:Int)),some (.ref j),some (.tup (l.map cP)),x6,x7,x8] S = .ok (.int ((max b v:Nat):Int)) S:=fun {x} =>
  (qT (qL rfl (qL (qQ rfl rfl (qBR (WW l) (zG (.inr hi)) (yX hv))) qc)) w_max).trans (by rw [qBi])
 cases l with
 |nil =>
  refine ⟨x6,x7,x8,?_⟩
  show qE7 a _ S=RS.nx _ (S.set j (.n (D.map eN)))
  rw [zq hj]
  exact qX (qu (e3 (x:=none))) (QG (wg (qQ rfl (W3 qc (A3 _)) ((qAq (F:=[])).trans rfl))) rfl)
 |cons c r =>
  have hj0:j < S.length:=(AG.mp hj).1
  have up1:∀ {x3 y6 y7 y8:Option PV},wc (qB 4) (zd (qB 5) (wZ (vC (.int 1))) wm) (qG wt (qA (WP (qB 4) (zd (qB 5) (wZ (vC (.int 1))) wm) (vC (.int 0))) (qA (qH Wh (qB 2) (qB 5)) qD))) [x0,some (.int L),some (.ref i),x3,some (.ref j),some (.tup ((c::r).map cP)),y6,y7,y8] S = .nx [x0,some (.int L),some (.ref i),x3,some (.ref j),some (.tup ((c::r).map cP)),y6,y7,y8] (S.set j (.n ((up r v D).map eN))):=fun {x3 y6 y7 y8}=>by
   have eC:zd (qB 5) (wZ (vC (.int 1))) wm [x0,some (.int L),some (.ref i),x3,some (.ref j),some (.tup ((c::r).map cP)),y6,y7,y8] S = .ok (.tup (r.map cP)) S:=(qFS (l:=(c::r).map cP) (p:=some 1) (q:=none) rfl rfl rfl).trans (by rw [qF7])
   rw [← Y3 hd]
   refine qAZ (p := .int ((max ((Ws r D).getD 0) v:Nat):Int)) (qT (qL (qBl rfl (zG (.inl hj)) eC rfl (WW r) (zG (.inl hj))) (qL (qQ rfl rfl (qBR (WW (c::r)) (zG (.inr hi)) (yX hv))) qc)) ?_) rfl eC (WW r) hj (by rw [AX];omega)
   rw [YZ]
   refine w_max.trans ?_
   rw [qBi]
  have hk:∀ {x:SO},(S.set j x)[i]? = some (.w (K.map eN)):=fun {x}=>by rw [Af (fun z=>hij z.symm)];exact hi
  have hm:∀ {x:SO},(S.set j x)[j]? = some x:=fun {x}=>Ac hj0
  have n1:=Wx (k:=r) (v:=v) hd
  have l1:=yP (k:=r) (v:=v) D
  have l2:=yR (L:=L) (l:=c::r) (c:=c) (v:=v) (w:=0) (D:=up r v D)
  obtain ⟨p7,p8,w0⟩:=qB4 (a:=a) (w:=0) (x0:=x0) (x3:=some (.int ((max b v:Nat):Int))) (x7:=x7) (x8:=x8) hL1 hL2 hl (hk (x := .n ((up r v D).map eN))) hm hv n1 (by omega)
  rw [List.set_set] at w0
  obtain ⟨q7,q8,w1⟩:=qB4 (a:=a) (w:=1) (x0:=x0) (x3:=some (.int ((max b v:Nat):Int))) (x7:=p7) (x8:=p8) hL1 hL2 hl (hk (x := .n ((WA L (c::r) c v 0 (up r v D)).map eN))) hm hv (zR n1) (by omega)
  rw [List.set_set] at w1
  refine ⟨some (.int 1),q7,q8,?_⟩
  refine qX (qu (e3 (x:=none))) (wP (wg (qQ rfl (W3 qc (A3 _)) ((qAq (F:=c::r)).trans rfl))) (qX up1 (Zr (itN (L:=2) (by decide) (by decide) rfl) ?_)))
  exact wG trivial rfl w0 (wG trivial rfl w1 (Qw trivial))
def Wr (L:Int) (M:List Ent) (D:List Ent):List Ent:=M.foldl (fun D e=>ZR L e.1 e.2 D) D
def Jg (M:List Ent) (b:Nat):Nat:=M.foldl (fun b e=>max b e.2) b
theorem Zb {L:Int}:∀ (M:List Ent) {D:List Ent},(D.map (·.1)).Nodup->((Wr L M D).map (·.1)).Nodup
 |[],_,h=>h
 |e::M,_,h=>Zb M (Zk h)
theorem Zp {L:Int} (hL:1≤L) {n:Nat}:∀ (M:List Ent) {D:List Ent},(∀ e∈M,e.1.length≤n + 1)->(∀ e∈D,e.1.length≤n) -> ∀ e∈Wr L M D,e.1.length≤n
 |[],_,_,h=>h
 |e::M,_,h1,h=>Zp hL M (fun x hx=>h1 x (AD _ hx)) (Zl hL h (h1 e AF))
theorem JD {L:Int}:∀ (M:List Ent) {D:List Ent},(Wr L M D).length≤D.length + 3 * M.length
 |[],_=>Ba _ _
 |e::M,D=>by
  have h1:=JD (L:=L) M (D:=ZR L e.1 e.2 D)
  have h2:=jf (L:=L) (l:=e.1) (v:=e.2) (D:=D)
  rw [Ae]
  exact AV h1 (by omega)
theorem yC {L:Int} (hL:1≤L):∀ (M:List Ent) {b:Nat} {D:List Ent},pot L (Jg M b) (Wr L M D)=pot L (pot L b D) M
 |[],_,_=>rfl
 |e::M,b,D=>by
  refine (yC hL M (b:=max b e.2) (D:=ZR L e.1 e.2 D)).trans ?_
  rw [qDG hL,JC]
  rfl
theorem j4 {L:Int}:∀ (M:List Ent) {D:List Ent},(∀ e∈M,e.1.length≤0)->Wr L M D=D
 |[],_,_=>rfl
 |e::M,D,h=>by
  have h0:e.1=[]:=As.mp (Nat.le_zero.mp (h e AF))
  refine (show Wr L (e::M) D=Wr L M (ZR L e.1 e.2 D) from rfl).trans ?_
  rw [h0]
  exact j4 M fun x hx=>h x (AD _ hx)
theorem jr {e:Ent}:∀ {K:List Ent},(K.map (·.1)).Nodup->e∈K->Ws e.1 K=some e.2
 |x::K,h,he=>by
  rw [AN,Ak] at h
  unfold Ws
  rcases AL.mp he with z |z
  ·rw [z,AH rfl]
  ·rw [AO (fun q=>h.1 (by rw [q];exact Bf z))]
   exact jr h.2 z
theorem Zm {a:Ad} {L:Int} {n i j:Nat} {K:List Ent} {x0:Option PV} (hL1:1≤L) (hL2:L≤5) (hn:n≤50) (hij:i≠j) (hK:(K.map (·.1)).Nodup):∀ (M:List Ent) (D:List Ent) (b:Nat) (S:qC) (x5 x6 x7 x8:Option PV),
  (∀ e∈M,e∈K)->(∀ e∈M,e.1.length≤n + 1)->S[i]? = some (.w (K.map eN))->S[j]? = some (.n (D.map eN))->(D.map (·.1)).Nodup->(∀ e∈D,e.1.length≤n)->(n=0∨D.length + 3 * M.length + 3 < sizeLine) ->
  ∃ y5 y6 y7 y8,QA (fun _=>True) (QO 5) (qE7 a) ((M.map eN).map (YD false)) [x0,some (.int L),some (.ref i),some (.int (b:Int)),some (.ref j),x5,x6,x7,x8] S = .nx [x0,some (.int L),some (.ref i),some (.int ((Jg M b:Nat):Int)),some (.ref j),y5,y6,y7,y8] (S.set j (.n ((Wr L M D).map eN)))
 |[],D,b,S,x5,x6,x7,x8,_,_,_,hj,_,_,_=>⟨x5,x6,x7,x8,by rw [show Wr L [] D=D from rfl,zq hj];exact Qw trivial⟩
 |e::M,D,b,S,x5,x6,x7,x8,hm,hs,hi,hj,hd,hD,hz=>by
  have hj0:j < S.length:=(AG.mp hj).1
  have he:=hs e AF
  have hz1:D.length + 3 < sizeLine:=by
   rcases hz with z |z
   ·have:=qDI hd (fun x hx=>by have:=hD x hx;omega)
    exact Ao (show D.length + 3≤4 by omega) (by decide)
   ·rw [Ae] at z;omega
  obtain ⟨p6,p7,p8,h1⟩:=qEj (a:=a) (x0:=x0) (x6:=x6) (x7:=x7) (x8:=x8) (b:=b) hL1 hL2 (show e.1.length≤60 by omega) hij hi hj (jr hK (hm e AF)) hd hz1
  have hl:=jf (L:=L) (l:=e.1) (v:=e.2) (D:=D)
  obtain ⟨y5,y6,y7,y8,h2⟩:=Zm hL1 hL2 hn hij hK M (ZR L e.1 e.2 D) (max b e.2) (S.set j (.n ((ZR L e.1 e.2 D).map eN))) (some (.tup (e.1.map cP))) p6 p7 p8 (fun x hx=>hm x (AD _ hx)) (fun x hx=>hs x (AD _ hx)) (by rw [Af (fun z=>hij z.symm)];exact hi) (Ac hj0) (Zk hd) (Zl hL1 hD he) (by
   rcases hz with z |z
   ·exact .inl z
   ·rw [Ae] at z;exact .inr (by omega))
  rw [List.set_set] at h2
  refine ⟨y5,y6,y7,y8,?_⟩
  have ek:YD false (eN e) = .tup (e.1.map cP):=qCW e.1
  show QA _ _ _ (YD false (eN e)::(M.map eN).map (YD false)) _ _=_
  rw [ek]
  exact wG trivial rfl h1 h2
theorem z8 {r:ql} {S:qC} {i:Nat} {K:List Ent} (h2:r[2]? = some (some (.ref i))) (hi:S[i]? = some (.n (K.map eN))):(vTB (qH Y9 (qB 2) ZZ)) r S = .ok (!K.isEmpty) (S++[.n []]):=by
 have hi0:i < S.length:=(AG.mp hi).1
 refine (wg (qQ (zz h2) rfl (qFq (kvs:=K.map eN) (zG (.inl (by rw [AT hi0];exact hi))) (zG (.inl (by simp)))))).trans ?_
 cases K <;> rfl
theorem yz {a:Ad} {L:Int} {x0:Option PV} {S0:qC} (hL1:1≤L) (hL2:L≤5) {n:Nat} {K:List Ent} {b i:Nat} {g:qC} {x4 x5 x6 x7 x8:Option PV} (hn:n≤50) (hi0:S0.length≤i) (hi:(S0++g)[i]? = some (.n (K.map eN))) (hd:(K.map (·.1)).Nodup) (hs:∀ e∈K,e.1.length≤n + 1) (hz:n=0∨3 * K.length + 3 < sizeLine) :
  ∃ (y5 y6 y7 y8:Option PV) (j:Nat) (g':qC),S0.length≤j∧(S0++g')[j]? = some (.n ((Wr L K []).map eN))∧whB a [x0,some (.int L),some (.ref i),some (.int (b:Int)),x4,x5,x6,x7,x8] (S0++g) = .nx [x0,some (.int L),some (.ref j),some (.int ((Jg K b:Nat):Int)),some (.ref j),y5,y6,y7,y8] (S0++g'):=by
 have hi1:i < (S0++g).length:=(AG.mp hi).1
 have hij:i≠(S0++g).length:=AZ hi1
 have ei:((S0++g)++[SO.n []])[i]? = some (.n (K.map eN)):=by rw [AT hi1];exact hi
 have ei2:(((S0++g)++[SO.n []]).set i (.w (K.map eN)))[i]? = some (.w (K.map eN)):=Ac (by rw [Aa];omega)
 have ej:(((S0++g)++[SO.n []]).set i (.w (K.map eN)))[(S0++g).length]? = some (.n (([]:List Ent).map eN)):=by
  rw [Af hij];simp
 obtain ⟨y5,y6,y7,y8,h⟩:=Zm (a:=a) (x0:=x0) hL1 hL2 hn hij hd K [] b (((S0++g)++[SO.n []]).set i (.w (K.map eN))) x5 x6 x7 x8 (fun e h=>h) hs ei2 ej List.nodup_nil (fun e h=>nomatch h) (by
  rcases hz with z |z
  ·exact .inl z
  ·exact .inr (by rw [List.length_nil];omega))
 have st:∀ (T:qC) (k:Nat) (x:SO),S0.length≤k->(S0++T).set k x=S0++T.set (k - S0.length) x:=fun T k x hk=>by rw [List.set_append_right _ _ hk]
 have ef:((((S0++g)++[SO.n []]).set i (.w (K.map eN))).set (S0++g).length (.n ((Wr L K []).map eN))).set i (.n (K.map eN))=S0++((((g++[SO.n []]).set (i - S0.length) (.w (K.map eN))).set ((S0++g).length - S0.length) (.n ((Wr L K []).map eN))).set (i - S0.length) (.n (K.map eN))):=by
  rw [Aj,st _ _ _ hi0,st _ _ _ (by rw [Aa];omega),st _ _ _ hi0]
 obtain ⟨g',eg⟩:∃ g',((((S0++g)++[SO.n []]).set i (.w (K.map eN))).set (S0++g).length (.n ((Wr L K []).map eN))).set i (.n (K.map eN))=S0++g':=⟨_,ef⟩
 refine ⟨y5,y6,y7,y8,(S0++g).length,g',by rw [Aa];omega,?_,?_⟩
 ·rw [← eg,Af hij,Ac (by rw [List.length_set,Aa];simp)]
 ·rw [← eg]
  exact qX (qu (s1:=(S0++g)++[SO.n []]) rfl) (qX (qEA rfl ei h) (qu rfl))
theorem qFm {a:Ad} {L:Int} {x0:Option PV} {S0:qC} (hL1:1≤L) (hL2:L≤5):∀ (n m:Nat) (K:List Ent) (b i:Nat) (g:qC) (x4 x5 x6 x7 x8:Option PV),n≤16->n + 2≤m->S0.length≤i->(S0++g)[i]? = some (.n (K.map eN))->(K.map (·.1)).Nodup->(∀ e∈K,e.1.length≤n)->K.length * 3 ^ n≤3 ^ 16 ->
  ∃ (r:ql) (g':qC),wC (vTB (qH Y9 (qB 2) ZZ)) (whB a) m [x0,some (.int L),some (.ref i),some (.int (b:Int)),x4,x5,x6,x7,x8] (S0++g) = .nx r (S0++g')∧r[3]? = some (some (.int ((pot L b K:Nat):Int))):=by
 intro n
 induction n with
 |zero =>
  intro m K b i g x4 x5 x6 x7 x8 hn hm hi0 hi hd hs hz
  obtain ⟨m,rfl⟩:∃ k,m=k + 2:=⟨m - 2,by omega⟩
  by_cases hK:K=[]
  ·subst hK
   exact ⟨_,g++[.n []],(jO (z8 rfl hi)).trans (by rw [Aj]),rfl⟩
  ·have hi1:i < (S0++g).length:=(AG.mp hi).1
   have ei:(S0++(g++[SO.n []]))[i]? = some (.n (K.map eN)):=by rw [← Aj,AT hi1];exact hi
   obtain ⟨y5,y6,y7,y8,j,g',j0,j1,j2⟩:=yz (a:=a) (x0:=x0) (n:=0) (b:=b) (x4:=x4) (x5:=x5) (x6:=x6) (x7:=x7) (x8:=x8) hL1 hL2 (by omega) hi0 ei hd (fun e he=>Nat.le_succ_of_le (hs e he)) (.inl rfl)
   have hp:=yC hL1 K (b:=b) (D:=[])
   rw [j4 K hs] at j1 hp
   have hb:(!K.isEmpty)=true:=by cases K with |nil=>exact absurd rfl hK |cons _ _=>rfl
   refine ⟨[x0,some (.int L),some (.ref j),some (.int ((Jg K b:Nat):Int)),some (.ref j),y5,y6,y7,y8],g'++[.n []],qAj ((z8 rfl hi).trans (by rw [hb])) (show whB a _ ((S0++g)++[.n []])=_ by rw [Aj];exact j2) ((jO (z8 (K:=[]) rfl j1)).trans (by rw [Aj])),?_⟩
   show some (some (PV.int _))=_
   rw [← show pot L (Jg K b) []=pot L b K from hp]
   rfl
 |succ n ih =>
  intro m K b i g x4 x5 x6 x7 x8 hn hm hi0 hi hd hs hz
  obtain ⟨m,rfl⟩:∃ k,m=k + 1:=⟨m - 1,by omega⟩
  by_cases hK:K=[]
  ·subst hK
   exact ⟨_,g++[.n []],(jO (z8 rfl hi)).trans (by rw [Aj]),rfl⟩
  ·have hi1:i < (S0++g).length:=(AG.mp hi).1
   have ei:(S0++(g++[SO.n []]))[i]? = some (.n (K.map eN)):=by rw [← Aj,AT hi1];exact hi
   have hz2:n=0∨3 * K.length + 3 < sizeLine:=by
    by_cases q:n=0
    ·exact .inl q
    ·obtain ⟨k,rfl⟩:∃ k,n=k + 1:=⟨n - 1,by omega⟩
     have h1:1≤3 ^ k:=Nat.one_le_pow _ _ (by decide)
     have h2:K.length * 3 ^ (k + 1 + 1)=9 * (K.length * 3 ^ k):=by rw [show 3 ^ (k + 1 + 1)=9 * 3 ^ k by rw [Nat.pow_succ,Nat.pow_succ];omega,Nat.mul_left_comm]
     have h3:K.length≤K.length * 3 ^ k:=Nat.le_mul_of_pos_right _ h1
     have h4:(3:Nat) ^ 16=43046721:=by decide
     have h5:(sizeLine:Nat)=16777216:=sizeLine_eq
     rw [h2,h4] at hz
     exact .inr (by rw [h5];omega)
   obtain ⟨y5,y6,y7,y8,j,g',j0,j1,j2⟩:=yz (a:=a) (x0:=x0) (n:=n) (b:=b) (x4:=x4) (x5:=x5) (x6:=x6) (x7:=x7) (x8:=x8) hL1 hL2 (by omega) hi0 ei hd hs hz2
   have nd:=Zb (L:=L) K (D:=[]) List.nodup_nil
   have sh:=Zp hL1 (n:=n) K (D:=[]) hs (fun e h=>nomatch h)
   have hp:=yC hL1 K (b:=b) (D:=[])
   have hz3:(Wr L K []).length * 3 ^ n≤3 ^ 16:=by
    have h1:=JD (L:=L) K (D:=[])
    rw [List.length_nil,Nat.zero_add] at h1
    have h2:3 * K.length * 3 ^ n=K.length * 3 ^ (n + 1):=by rw [Nat.pow_succ,Nat.mul_comm 3 K.length,Nat.mul_assoc,Nat.mul_comm 3]
    exact AV (Nat.mul_le_mul_right _ h1) (by rw [h2];exact hz)
   obtain ⟨r,g2,q1,q2⟩:=ih m (Wr L K []) (Jg K b) j g' (some (.ref j)) y5 y6 y7 y8 (by omega) (by omega) j0 j1 nd sh hz3
   refine ⟨r,g2,(qAj (z8 rfl hi |>.trans (by cases K with |nil=>exact absurd rfl hK |cons _ _=>rfl)) (show whB a _ ((S0++g)++[.n []])=_ by rw [Aj];exact j2) q1),?_⟩
   rw [q2,hp]
   rfl
theorem qCR {a:Ad} {F:List qV} {L:Int} {S:qC} (hL1:1≤L) (hL2:L≤5) (hF:F.length≤16):∃ g:qC,w5 a [.tup (F.map cP),.int L] S = .ok (.int ((FB L F:Nat):Int)) (S++g):=by
 obtain ⟨r,g,h1,h2⟩:=qFm (a:=a) (x0:=some (.tup (F.map cP))) (S0:=S) hL1 hL2 16 30 [(F,0)] 0 S.length [.n [(kN F,.int 0)]] none none none none none (by decide) (by decide) (AI _) (by simp;rfl) (by simp) (fun e he=>by rw [An.mp he];exact hF) (show 1 * 3 ^ 16≤3 ^ 16 by decide)
 refine ⟨g,Qm rfl (qX (qu (qAp (qT (qL rfl qc) (yQ rfl)) rfl (WW F))) (qX (qu rfl) (qX h1 (Q8 (zz (h2.trans ?_))))))⟩
 show some (some (PV.int ((max (0 + FB L F) 0:Nat):Int)))=_
 rw [show max (0 + FB L F) 0=FB L F by omega]
def mem (y:Nat) (l:List Nat):Bool:=List.rec false (fun z _ ih=>Bool.rec ih true (Nat.beq y z)) l
def yd (q l:List Nat):Bool:=List.rec true (fun z _ ih=>Bool.rec false ih (mem z l)) q
def drp (q l:List Nat):List Nat:=List.rec [] (fun z _ ih=>Bool.rec (z::ih) ih (mem z q)) l
def cvN (s:Nat) (L:Nat):Nat->List Nat:=Nat.rec (fun _=>[]) (fun _ ih x=>x::ih (x + s)) L
def mxN (a b:Nat):Nat:=Bool.rec a b (Nat.ble a b)
def stp (ih:List Nat->Nat) (l q:List Nat):Nat:=Bool.rec 0 (Nat.succ (ih (drp q l))) (yd q l)
def gB (L:Nat) (n:Nat):List Nat->Nat:=Nat.rec (fun _=>0) (fun _ ih l=>List.rec 0 (fun x r _=>mxN (ih r) (mxN (stp ih (x::r) (cvN 1 L x)) (stp ih (x::r) (cvN 16 L x)))) l) n
def qBo (l:List (Nat×Nat×List Nat)):Bool:=List.rec true (fun z _ ih=>Bool.rec false ih (Nat.beq (gB z.1 16 z.2.2) z.2.1)) l
theorem yA {y:Nat}:∀ {l:List Nat},mem y l=decide (y∈l)
 |[]=>rfl
 |z::l=>by
  show Bool.rec (motive:=fun _=>Bool) (mem y l) true (Nat.beq y z)=_
  cases h:Nat.beq y z with
  |true =>
   have e:=Nat.eq_of_beq_eq_true h
   subst e
   exact (AW AF).symm
  |false =>
   show mem y l=_
   rw [yA]
   have e:y≠z:=Nat.ne_of_beq_eq_false h
   simp [e]
theorem j8 {l:List Nat}:∀ q:List Nat,yd q l=q.all fun z=>decide (z∈l)
 |[]=>rfl
 |z::q=>by
  show Bool.rec (motive:=fun _=>Bool) false (yd q l) (mem z l)=_
  rw [List.all_cons,← j8 q,← yA]
  cases mem z l <;> rfl
theorem qB0 {q:List Nat}:∀ l:List Nat,drp q l=l.filter fun z => !decide (z∈q)
 |[]=>rfl
 |z::l=>by
  show Bool.rec (motive:=fun _=>List Nat) (z::drp q l) (drp q l) (mem z q)=_
  rw [qB0 l,yA,BI]
  cases decide (z∈q) <;> rfl
theorem qB2 {s:Nat}:∀ (L x:Nat),cvN s L x=(List.range L).map fun k=>x + k * s
 |0,_=>rfl
 |L + 1,x=>by
  show x::cvN s L (x + s)=_
  rw [qB2 L (x + s),List.range_succ_eq_map,AN,A9]
  congr 1
  ·omega
  ·refine Be fun k _ => ?_
   show x + s + k * s=x + (k + 1) * s
   rw [Nat.add_mul];omega
theorem qBs {a b:Nat}:mxN a b=max a b:=by
 unfold mxN
 cases h:Nat.ble a b with
 |true=>have:=Nat.le_of_ble_eq_true h;show b=_;omega
 |false =>
  have:¬ a≤b:=fun z=>by rw [Nat.ble_eq_true_of_le z] at h;cases h
  show a=_;omega
theorem qBV {ih:List Nat->Nat} {l q:List Nat}:stp ih l q=if yd q l=true then 1 + ih (drp q l) else 0:=by
 unfold stp
 cases yd q l with
 |true=>show Nat.succ _=_;rw [AH rfl];omega
 |false=>rfl
theorem qCD {L n x:Nat} {r:List Nat}:gB L (n + 1) (x::r)=max (gB L n r) (max (if yd (cvN 1 L x) (x::r)=true then 1 + gB L n (drp (cvN 1 L x) (x::r)) else 0) (if yd (cvN 16 L x) (x::r)=true then 1 + gB L n (drp (cvN 16 L x) (x::r)) else 0)):=by
 show mxN (gB L n r) (mxN (stp (gB L n) (x::r) (cvN 1 L x)) (stp (gB L n) (x::r) (cvN 16 L x)))=_
 rw [qBs,qBs,qBV,qBV]
def enc (c:qV):Nat:=(16 * c.1 + c.2).toNat
def InX (c:qV):Prop:=0≤c.1∧0≤c.2∧c.2≤15
theorem qFx {c:qV} (h:In8 c):InX c:=⟨h.1,h.2.2.1,by have:=h.2.2.2;omega⟩
theorem qCa {c d:qV} (h1:InX c) (h2:InX d) (h:enc c=enc d):c=d:=by
 obtain ⟨x,y⟩:=c;obtain ⟨z,w⟩:=d
 unfold InX enc at *
 simp only at h1 h2 h
 have e1:x=z:=by omega
 have e2:y=w:=by omega
 rw [e1,e2]
theorem JM {d:qV} {l:List qV} (hd:InX d) (hl:∀ c∈l,InX c):decide (d∈l)=decide (enc d∈l.map enc):=by
 by_cases h:d∈l
 ·rw [AW h,AW (Bf h)]
 ·rw [AQ h,AQ]
  intro z
  obtain ⟨e,he,q⟩:=A8.mp z
  exact h (by rw [← qCa (hl e he) hd q];exact he)
theorem qDd {L:Int} (hL:L≤5) {c:qV} {w:Int} (hw:w=0∨w=1) (hc:In8 c):∀ d∈cov L (c.1,c.2,w),InX d:=fun d hd=>by
 unfold cov at hd
 obtain ⟨k,hk,rfl⟩:=A8.mp hd
 have hk:=upto_mem.mp hk
 obtain ⟨h1,h2,h3,h4⟩:=hc
 unfold InX qCU
 rcases hw with rfl |rfl <;> simp only [Int.mul_zero,Int.mul_one,Int.sub_zero] <;> omega
theorem JU {L:Int} {c:qV} {w:Int} {s:Nat} (hw:(w=0∧s=1)∨(w=1∧s=16)) (hc:In8 c):(cov L (c.1,c.2,w)).map enc=cvN s L.toNat (enc c):=by
 rw [qB2]
 unfold cov WN
 rw [A9,A9]
 refine Be fun k _ => ?_
 obtain ⟨h1,h2,h3,h4⟩:=hc
 show (16 * (c.1 + (k:Int) * w) + (c.2 + (k:Int) - (k:Int) * w)).toNat=(16 * c.1 + c.2).toNat + k * s
 rcases hw with ⟨rfl,rfl⟩ |⟨rfl,rfl⟩ <;> simp only [Int.mul_zero,Int.mul_one,Int.sub_zero] <;> omega
theorem JO {L:Int} (hL:L≤5) {c:qV} {w:Int} {s:Nat} {l:List qV} (hw:(w=0∧s=1)∨(w=1∧s=16)) (hc:In8 c) (hl:∀ d∈l,In8 d):opn L l (c.1,c.2,w)=yd (cvN s L.toNat (enc c)) (l.map enc):=by
 have hw':w=0∨w=1:=hw.imp (·.1) (·.1)
 rw [← JU (L:=L) hw hc,j8,List.all_map]
 unfold opn
 have hx:=qDd hL hw' hc
 generalize cov L (c.1,c.2,w)=q at hx
 induction q with
 |nil=>rfl
 |cons d q ih =>
  have e:=JM (hx d AF) (fun c hc=>qFx (hl c hc))
  rw [List.all_cons,← ih fun x hx'=>hx x (AD _ hx')]
  show _=(decide (enc d∈l.map enc)&&_)
  rw [← e,BI]
  cases decide (d∈l) <;> rfl
theorem JJ {L:Int} (hL:L≤5) {c:qV} {w:Int} {s:Nat} {l:List qV} (hw:(w=0∧s=1)∨(w=1∧s=16)) (hc:In8 c) (hl:∀ d∈l,In8 d):(lft L l (c.1,c.2,w)).map enc=drp (cvN s L.toNat (enc c)) (l.map enc):=by
 have hw':w=0∨w=1:=hw.imp (·.1) (·.1)
 rw [← JU (L:=L) hw hc,qB0]
 unfold lft
 have hx:=qDd hL hw' hc
 generalize cov L (c.1,c.2,w)=q at hx
 induction l with
 |nil=>rfl
 |cons d l ih =>
  have e:=JM (qFx (hl d AF)) hx
  have i:=ih fun x hx'=>hl x (AD _ hx')
  rw [AN,BI,BI,← e]
  cases decide (d∈q) with
  |true=>exact i
  |false=>show enc d::_=enc d::_;rw [i]
theorem qDA {L:Int} (h1:1≤L) (h5:L≤5):∀ (n:Nat) (l:List qV),(∀ c∈l,In8 c)->fB L n l=gB L.toNat n (l.map enc)
 |0,_,_=>rfl
 |_ + 1,[],_=>rfl
 |n + 1,c::r,h=>by
  have hc:=h c AF
  have hr:∀ d∈r,In8 d:=fun d hd=>h d (AD _ hd)
  have hf:∀ (w:Int),∀ d∈lft L (c::r) (c.1,c.2,w),In8 d:=fun w d hd=>h d (List.mem_filter.mp hd).1
  rw [AN,qCD]
  show max _ _=_
  rw [qDA h1 h5 n r hr,qDA h1 h5 n _ (hf 0),qDA h1 h5 n _ (hf 1),JO h5 (.inl ⟨rfl,rfl⟩) hc h,JO h5 (.inr ⟨rfl,rfl⟩) hc h,JJ h5 (.inl ⟨rfl,rfl⟩) hc h,JJ h5 (.inr ⟨rfl,rfl⟩) hc h]
  rfl
theorem qHD {L:Int} (h1:1≤L) (h5:L≤5) {l:List qV} (h:∀ c∈l,In8 c) (hl:l.length≤16):FB L l=gB L.toNat 16 (l.map enc):=by
 unfold FB
 rw [Wb h1 _ 16 l (AI _) hl,qDA h1 h5 16 l h]
def flC (R C:Int):List qV:=(WN (R * C)).map fun i=>(i / C,i % C)
def JT (R C:Nat):List Nat:=(List.range (R * C)).map fun k=>16 * (k / C) + k % C
theorem qEK {R C:Nat}:(flC R C).map enc=JT R C:=by
 unfold flC JT WN
 rw [A9,A9,show ((R:Int) * (C:Int)).toNat=R * C by rw [← Bj];rfl]
 refine Be fun k _ => ?_
 show (16 * ((k:Int) / (C:Int)) + (k:Int) % (C:Int)).toNat=_
 rw [← Int.natCast_ediv,← Int.natCast_emod]
 omega
theorem qFb {R C:Nat} (hR:R≤8) (hC:C≤8) (h0:1≤C):∀ c∈flC R C,In8 c:=fun c hc=>by
 unfold flC at hc
 obtain ⟨i,hi,rfl⟩:=A8.mp hc
 have hi:=upto_mem.mp hi
 have e1:0≤i / (C:Int):=Int.ediv_nonneg hi.1 (by omega)
 have e2:i / (C:Int) < (R:Int):=Int.ediv_lt_of_lt_mul (by omega) hi.2
 have e3:=wO (x:=i) (m:=(C:Int)) (by omega)
 exact ⟨e1,by show i / (C:Int)≤7;omega,e3.1,by show i % (C:Int)≤7;omega⟩
theorem qB1 {R C:Nat}:(flC R C).length=R * C:=by
 unfold flC
 rw [AX,W0,← Bj];rfl
def wI (R C L:Int):Int:=if (if C < R then C else R) ≥ L then (if (L - R % L) * (L - C % L) < R % L * (C % L) then (L - R % L) * (L - C % L) else R % L * (C % L)) else if (if C > R then C else R) < L then R * C else if R < L then R * (C % L) else C * (R % L)
theorem qFz {l:List Nat} {b2 b3 b4 b5:Nat} (h:qBo [(2,b2,l),(3,b3,l),(4,b4,l),(5,b5,l)]=true):gB 2 16 l=b2∧gB 3 16 l=b3∧gB 4 16 l=b4∧gB 5 16 l=b5:=by
 have st:∀ {L b:Nat} {m:List (Nat×Nat×List Nat)},qBo ((L,b,l)::m)=true->gB L 16 l=b∧qBo m=true:=fun {L b m} z=>by
  have z:Bool.rec (motive:=fun _=>Bool) false (qBo m) (Nat.beq (gB L 16 l) b)=true:=z
  cases q:Nat.beq (gB L 16 l) b with
  |true=>rw [q] at z;exact ⟨Nat.eq_of_beq_eq_true q,z⟩
  |false=>rw [q] at z;cases z
 obtain ⟨a2,h⟩:=st h
 obtain ⟨a3,h⟩:=st h
 obtain ⟨a4,h⟩:=st h
 exact ⟨a2,a3,a4,(st h).1⟩
def due (R C L:Nat):Prop:=((R * C:Nat):Int) - (L:Int) * ((gB L 16 (JT R C):Nat):Int)=wI R C L
theorem Qk {R C:Nat} {l:List Nat} {b2 b3 b4 b5:Nat} (h:qBo [(2,b2,l),(3,b3,l),(4,b4,l),(5,b5,l)]=true) (hl:JT R C=l) (e:((R * C:Nat):Int) - 2 * b2=wI R C 2∧((R * C:Nat):Int) - 3 * b3=wI R C 3∧((R * C:Nat):Int) - 4 * b4=wI R C 4∧((R * C:Nat):Int) - 5 * b5=wI R C 5) {L:Nat} (h2:2≤L) (h5:L≤5):due R C L:=by
 obtain ⟨q2,q3,q4,q5⟩:=qFz h
 unfold due
 rw [hl]
 rcases (show L=2∨L=3∨L=4∨L=5 by omega) with rfl |rfl |rfl |rfl
 ·rw [q2];exact e.1
 ·rw [q3];exact e.2.1
 ·rw [q4];exact e.2.2.1
 ·rw [q5];exact e.2.2.2
theorem qHG {L:Nat} (h2:2≤L) (h5:L≤5):due 1 1 L:=Qk (l:=[0]) (b2:=0) (b3:=0) (b4:=0) (b5:=0) (by decide +kernel) rfl (by decide) h2 h5
theorem qGq {L:Nat} (h2:2≤L) (h5:L≤5):due 1 2 L:=Qk (l:=[0,1]) (b2:=1) (b3:=0) (b4:=0) (b5:=0) (by decide +kernel) rfl (by decide) h2 h5
theorem qGW {L:Nat} (h2:2≤L) (h5:L≤5):due 1 3 L:=Qk (l:=[0,1,2]) (b2:=1) (b3:=1) (b4:=0) (b5:=0) (by decide +kernel) rfl (by decide) h2 h5
theorem qG9 {L:Nat} (h2:2≤L) (h5:L≤5):due 1 4 L:=Qk (l:=[0,1,2,3]) (b2:=2) (b3:=1) (b4:=1) (b5:=0) (by decide +kernel) rfl (by decide) h2 h5
theorem qGM {L:Nat} (h2:2≤L) (h5:L≤5):due 1 5 L:=Qk (l:=[0,1,2,3,4]) (b2:=2) (b3:=1) (b4:=1) (b5:=1) (by decide +kernel) rfl (by decide) h2 h5
theorem qG6 {L:Nat} (h2:2≤L) (h5:L≤5):due 1 6 L:=Qk (l:=[0,1,2,3,4,5]) (b2:=3) (b3:=2) (b4:=1) (b5:=1) (by decide +kernel) rfl (by decide) h2 h5
theorem qGp {L:Nat} (h2:2≤L) (h5:L≤5):due 1 7 L:=Qk (l:=[0,1,2,3,4,5,6]) (b2:=3) (b3:=2) (b4:=1) (b5:=1) (by decide +kernel) rfl (by decide) h2 h5
theorem qGd {L:Nat} (h2:2≤L) (h5:L≤5):due 1 8 L:=Qk (l:=[0,1,2,3,4,5,6,7]) (b2:=4) (b3:=2) (b4:=2) (b5:=1) (by decide +kernel) rfl (by decide) h2 h5
theorem qHH {L:Nat} (h2:2≤L) (h5:L≤5):due 2 1 L:=Qk (l:=[0,16]) (b2:=1) (b3:=0) (b4:=0) (b5:=0) (by decide +kernel) rfl (by decide) h2 h5
theorem qG2 {L:Nat} (h2:2≤L) (h5:L≤5):due 2 2 L:=Qk (l:=[0,1,16,17]) (b2:=2) (b3:=0) (b4:=0) (b5:=0) (by decide +kernel) rfl (by decide) h2 h5
theorem qGz {L:Nat} (h2:2≤L) (h5:L≤5):due 2 3 L:=Qk (l:=[0,1,2,16,17,18]) (b2:=3) (b3:=2) (b4:=0) (b5:=0) (by decide +kernel) rfl (by decide) h2 h5
theorem qG4 {L:Nat} (h2:2≤L) (h5:L≤5):due 2 4 L:=Qk (l:=[0,1,2,3,16,17,18,19]) (b2:=4) (b3:=2) (b4:=2) (b5:=0) (by decide +kernel) rfl (by decide) h2 h5
theorem qG1 {L:Nat} (h2:2≤L) (h5:L≤5):due 2 5 L:=Qk (l:=[0,1,2,3,4,16,17,18,19,20]) (b2:=5) (b3:=2) (b4:=2) (b5:=2) (by decide +kernel) rfl (by decide) h2 h5
theorem qHF {L:Nat} (h2:2≤L) (h5:L≤5):due 2 6 L:=Qk (l:=[0,1,2,3,4,5,16,17,18,19,20,21]) (b2:=6) (b3:=4) (b4:=2) (b5:=2) (by decide +kernel) rfl (by decide) h2 h5
theorem qGa {L:Nat} (h2:2≤L) (h5:L≤5):due 2 7 L:=Qk (l:=[0,1,2,3,4,5,6,16,17,18,19,20,21,22]) (b2:=7) (b3:=4) (b4:=2) (b5:=2) (by decide +kernel) rfl (by decide) h2 h5
theorem qGZ {L:Nat} (h2:2≤L) (h5:L≤5):due 2 8 L:=Qk (l:=[0,1,2,3,4,5,6,7,16,17,18,19,20,21,22,23]) (b2:=8) (b3:=4) (b4:=4) (b5:=2) (by decide +kernel) rfl (by decide) h2 h5
theorem qG3 {L:Nat} (h2:2≤L) (h5:L≤5):due 3 1 L:=Qk (l:=[0,16,32]) (b2:=1) (b3:=1) (b4:=0) (b5:=0) (by decide +kernel) rfl (by decide) h2 h5
theorem qGT {L:Nat} (h2:2≤L) (h5:L≤5):due 3 2 L:=Qk (l:=[0,1,16,17,32,33]) (b2:=3) (b3:=2) (b4:=0) (b5:=0) (by decide +kernel) rfl (by decide) h2 h5
theorem qGY {L:Nat} (h2:2≤L) (h5:L≤5):due 3 3 L:=Qk (l:=[0,1,2,16,17,18,32,33,34]) (b2:=4) (b3:=3) (b4:=0) (b5:=0) (by decide +kernel) rfl (by decide) h2 h5
theorem qHA {L:Nat} (h2:2≤L) (h5:L≤5):due 3 4 L:=Qk (l:=[0,1,2,3,16,17,18,19,32,33,34,35]) (b2:=6) (b3:=4) (b4:=3) (b5:=0) (by decide +kernel) rfl (by decide) h2 h5
theorem qGR {L:Nat} (h2:2≤L) (h5:L≤5):due 3 5 L:=Qk (l:=[0,1,2,3,4,16,17,18,19,20,32,33,34,35,36]) (b2:=7) (b3:=5) (b4:=3) (b5:=3) (by decide +kernel) rfl (by decide) h2 h5
theorem qGi {L:Nat} (h2:2≤L) (h5:L≤5):due 4 1 L:=Qk (l:=[0,16,32,48]) (b2:=2) (b3:=1) (b4:=1) (b5:=0) (by decide +kernel) rfl (by decide) h2 h5
theorem qHN {L:Nat} (h2:2≤L) (h5:L≤5):due 4 2 L:=Qk (l:=[0,1,16,17,32,33,48,49]) (b2:=4) (b3:=2) (b4:=2) (b5:=0) (by decide +kernel) rfl (by decide) h2 h5
theorem qHI {L:Nat} (h2:2≤L) (h5:L≤5):due 4 3 L:=Qk (l:=[0,1,2,16,17,18,32,33,34,48,49,50]) (b2:=6) (b3:=4) (b4:=3) (b5:=0) (by decide +kernel) rfl (by decide) h2 h5
theorem qGx {L:Nat} (h2:2≤L) (h5:L≤5):due 4 4 L:=Qk (l:=[0,1,2,3,16,17,18,19,32,33,34,35,48,49,50,51]) (b2:=8) (b3:=5) (b4:=4) (b5:=0) (by decide +kernel) rfl (by decide) h2 h5
theorem qGj {L:Nat} (h2:2≤L) (h5:L≤5):due 5 1 L:=Qk (l:=[0,16,32,48,64]) (b2:=2) (b3:=1) (b4:=1) (b5:=1) (by decide +kernel) rfl (by decide) h2 h5
theorem qGQ {L:Nat} (h2:2≤L) (h5:L≤5):due 5 2 L:=Qk (l:=[0,1,16,17,32,33,48,49,64,65]) (b2:=5) (b3:=2) (b4:=2) (b5:=2) (by decide +kernel) rfl (by decide) h2 h5
theorem qHE {L:Nat} (h2:2≤L) (h5:L≤5):due 5 3 L:=Qk (l:=[0,1,2,16,17,18,32,33,34,48,49,50,64,65,66]) (b2:=7) (b3:=5) (b4:=3) (b5:=3) (by decide +kernel) rfl (by decide) h2 h5
theorem qG7 {L:Nat} (h2:2≤L) (h5:L≤5):due 6 1 L:=Qk (l:=[0,16,32,48,64,80]) (b2:=3) (b3:=2) (b4:=1) (b5:=1) (by decide +kernel) rfl (by decide) h2 h5
theorem qGl {L:Nat} (h2:2≤L) (h5:L≤5):due 6 2 L:=Qk (l:=[0,1,16,17,32,33,48,49,64,65,80,81]) (b2:=6) (b3:=4) (b4:=2) (b5:=2) (by decide +kernel) rfl (by decide) h2 h5
theorem qGu {L:Nat} (h2:2≤L) (h5:L≤5):due 7 1 L:=Qk (l:=[0,16,32,48,64,80,96]) (b2:=3) (b3:=2) (b4:=1) (b5:=1) (by decide +kernel) rfl (by decide) h2 h5
theorem qGn {L:Nat} (h2:2≤L) (h5:L≤5):due 7 2 L:=Qk (l:=[0,1,16,17,32,33,48,49,64,65,80,81,96,97]) (b2:=7) (b3:=4) (b4:=2) (b5:=2) (by decide +kernel) rfl (by decide) h2 h5
theorem qGv {L:Nat} (h2:2≤L) (h5:L≤5):due 8 1 L:=Qk (l:=[0,16,32,48,64,80,96,112]) (b2:=4) (b3:=2) (b4:=2) (b5:=1) (by decide +kernel) rfl (by decide) h2 h5
theorem qG8 {L:Nat} (h2:2≤L) (h5:L≤5):due 8 2 L:=Qk (l:=[0,1,16,17,32,33,48,49,64,65,80,81,96,97,112,113]) (b2:=8) (b3:=4) (b4:=4) (b5:=2) (by decide +kernel) rfl (by decide) h2 h5
theorem Je {R C L:Nat} (r1:1≤R) (r8:R≤8) (c1:1≤C) (c8:C≤8) (h:R * C≤16) (h2:2≤L) (h5:L≤5):due R C L:=by
 rcases (show R=1∨R=2∨R=3∨R=4∨R=5∨R=6∨R=7∨R=8 by omega) with rfl |rfl |rfl |rfl |rfl |rfl |rfl |rfl
 ·rcases (show C=1∨C=2∨C=3∨C=4∨C=5∨C=6∨C=7∨C=8 by omega) with rfl |rfl |rfl |rfl |rfl |rfl |rfl |rfl
  ·exact qHG h2 h5
  ·exact qGq h2 h5
  ·exact qGW h2 h5
  ·exact qG9 h2 h5
  ·exact qGM h2 h5
  ·exact qG6 h2 h5
  ·exact qGp h2 h5
  ·exact qGd h2 h5
 ·rcases (show C=1∨C=2∨C=3∨C=4∨C=5∨C=6∨C=7∨C=8 by omega) with rfl |rfl |rfl |rfl |rfl |rfl |rfl |rfl
  ·exact qHH h2 h5
  ·exact qG2 h2 h5
  ·exact qGz h2 h5
  ·exact qG4 h2 h5
  ·exact qG1 h2 h5
  ·exact qHF h2 h5
  ·exact qGa h2 h5
  ·exact qGZ h2 h5
 ·rcases (show C=1∨C=2∨C=3∨C=4∨C=5 by omega) with rfl |rfl |rfl |rfl |rfl
  ·exact qG3 h2 h5
  ·exact qGT h2 h5
  ·exact qGY h2 h5
  ·exact qHA h2 h5
  ·exact qGR h2 h5
 ·rcases (show C=1∨C=2∨C=3∨C=4 by omega) with rfl |rfl |rfl |rfl
  ·exact qGi h2 h5
  ·exact qHN h2 h5
  ·exact qHI h2 h5
  ·exact qGx h2 h5
 ·rcases (show C=1∨C=2∨C=3 by omega) with rfl |rfl |rfl
  ·exact qGj h2 h5
  ·exact qGQ h2 h5
  ·exact qHE h2 h5
 ·rcases (show C=1∨C=2 by omega) with rfl |rfl
  ·exact qG7 h2 h5
  ·exact qGl h2 h5
 ·rcases (show C=1∨C=2 by omega) with rfl |rfl
  ·exact qGu h2 h5
  ·exact qGn h2 h5
 ·rcases (show C=1∨C=2 by omega) with rfl |rfl
  ·exact qGv h2 h5
  ·exact qG8 h2 h5
theorem qAy {R C L:Nat} (r1:1≤R) (r8:R≤8) (c1:1≤C) (c8:C≤8) (h:R * C≤16) (h2:2≤L) (h5:L≤5):(R:Int) * C - (L:Int) * ((FB L (flC R C):Nat):Int)=wI R C L:=by
 have e:=Je r1 r8 c1 c8 h h2 h5
 rw [qHD (by omega) (by omega) (qFb r8 c8 c1) (by rw [qB1];exact h),qEK,← Bj]
 exact e
theorem qAL {a:Ad} (hd:Dist a) {st:qC}:wJ a [.exc a.Z4 []] st = .ok (.str "! box") st:=by
 have nd:=hd
 unfold Dist Ad.kinds at nd
 simp only [Ak,AL,Aq,not_or,Bk] at nd
 obtain ⟨⟨_,_,n0,_⟩,⟨_,n1,_⟩,⟨n2,_⟩,⟨n4,n5,n6,n7,n8,n9,n10⟩,_⟩:=nd
 exact yn (by unfold QH;simp) (AC.mpr (Ne.symm n0)) (AC.mpr (Ne.symm n1)) (AC.mpr (Ne.symm n2)) (Al _) (AC.mpr n4) (AC.mpr n5) (AC.mpr n6) (AC.mpr n7) (AC.mpr n8) (AC.mpr n9) (AC.mpr n10) rfl rfl
theorem qEX {i:Nat} {f:FE} {r:ql} {st s1:qC} {x:Exc} (h:f r st = .ex x s1):qU i f r st = .ex x s1:=by unfold qU;rw [h];rfl
theorem qDr {a:Ad} {st j:qC} {x:Int}:∃ v,okV v=true∧Wf a [.ref st.length] (st ++ .l [.int x]::j) = .ok v (st ++ .l [.int (x / 27)]::j):=by
 have t1:=w4 (a:=a) (st:=st) (j:=j) (x:=x) (m:=27) ⟨by decide,by decide⟩
 have hx:=wO (x:=x) (m:=27) (by decide)
 let l1:List PV:=[.non,.bl true,.bl false,.int (-1),.int 0,.int 1,.int 2,.int 5,.int 6,.str "",.str "0",.str "none",.tup [],.tup [.int 0],.tup [.int 0,.int 0],.tup [.int 0,.int 0,.int 0],.lst [.int 0],.dct,.tup [.int 0,.int 0,.bl true]]
 let l2:List PV:=[.tup [.tup [.int 0,.int 0,.int 0]],.tup [.tup [.int 0,.int 0,.int 1]],.lst [.tup [.int 0,.int 0,.int 0]],.int (10 ^ 39),.tup [.int 0,.int 0,.int 2],.tup [.int 0,.int (-1),.int 0],.tup [.tup [.int 0,.int 0]],.tup [.int 0,.int 0,.int 0,.int 0]]
 obtain ⟨p,hp,e⟩:=jG (l:=l1++l2) (i:=x % 27) (st:=st ++ .l [.int (x / 27)]::j) hx.1 hx.2
 refine ⟨p,List.all_eq_true.mp (show (l1++l2).all okV=true from rfl) p hp,Qm rfl (qX (qu (p := .lst l1) rfl) (qX (qu (p := .lst (l1++l2)) (Wm (qBA (l:=l1) (m:=l2) rfl rfl rfl rfl (sz rfl)))) (Q8 (qQ rfl (qT (l:=[.ref st.length,.int 27]) (qL rfl (qL (qT (l:=[.lst (l1++l2)]) rfl (qAg rfl rfl)) qc)) t1) e))))⟩
theorem jv {a:Ad} {v:PV} {st:qC} (h:Qq v=true):QU a [v] st = .ok (.bl (qq 1 1000000000 v)) st:=Qm rfl (Q8 (qT (l:=[v,.int 1,.int 1000000000]) rfl (YF h)))
theorem w_min {i j:Int} {st:qC}:zZ [.int i,.int j] st = .ok (.int (if j < i then j else i)) st:=rfl
theorem ym {a:Ad} {R C L:Int} {st:qC} (hL1:2≤L) (hL2:L≤5) (hR1:1≤R) (hR2:R≤1000000000) (hC1:1≤C) (hC2:C≤1000000000):Qa a [.int R,.int C,.int L] st = .ok (.int (wI R C L)) st:=by
 have m1:=wO (x:=R) (m:=L) (by omega)
 have m2:=wO (x:=C) (m:=L) (by omega)
 have par:yk 3 4 (qA (qH WO (qB 0) (qB 2)) (qA (qH WO (qB 1) (qB 2)) qD)) (Ql 5 [.int R,.int C,.int L]) st = .nx [some (.int R),some (.int C),some (.int L),some (.int (R % L)),some (.int (C % L))] st:=qFr (qL (qQ rfl rfl (zS (by omega))) (qL (qQ rfl rfl (zS (by omega))) qc))
 refine Qm rfl (qX par ?_)
 have c1:vTB (qH gGe (qG zZ (qA (qB 0) (qA (qB 1) qD))) (qB 2)) [some (.int R),some (.int C),some (.int L),some (.int (R % L)),some (.int (C % L))] st = .ok (decide ((if C < R then C else R) ≥ L)) st:=wg (qQ (qT (qL rfl (qL rfl qc)) w_min) rfl qEM)
 have c2:vTB (qH gLt (qG wt (qA (qB 0) (qA (qB 1) qD))) (qB 2)) [some (.int R),some (.int C),some (.int L),some (.int (R % L)),some (.int (C % L))] st = .ok (decide ((if C > R then C else R) < L)) st:=wg (qQ (qT (qL rfl (qL rfl qc)) w_max) rfl w_lt)
 have c3:vTB (qH gLt (qB 0) (qB 2)) [some (.int R),some (.int C),some (.int L),some (.int (R % L)),some (.int (C % L))] st = .ok (decide (R < L)) st:=wg (qQ rfl rfl w_lt)
 unfold wI
 by_cases h1:(if C < R then C else R) ≥ L
 ·rw [AH h1]
  rw [AW h1] at c1
  exact wL (wP c1 (Q8 (qT (qL (qQ rfl rfl (Qd (by omega))) (qL (qQ (qQ rfl rfl w_sub') (qQ rfl rfl w_sub') (Qd (by omega))) qc)) w_min)))
 ·rw [AO h1]
  rw [AQ h1] at c1
  refine qX (QG c1 rfl) ?_
  by_cases h2:(if C > R then C else R) < L
  ·rw [AH h2]
   rw [AW h2] at c2
   exact wL (wP c2 (Q8 (qQ rfl rfl (Qd (by omega)))))
  ·rw [AO h2]
   rw [AQ h2] at c2
   refine qX (QG c2 rfl) ?_
   by_cases h3:R < L
   ·rw [AH h3]
    rw [AW h3] at c3
    exact wL (wP c3 (Q8 (qQ rfl rfl (Qd (by omega)))))
   ·rw [AO h3]
    rw [AQ h3] at c3
    exact qX (QG c3 rfl) (Q8 (qQ rfl rfl (Qd (by omega))))
theorem zg {i:Int} (h1:1≤i) (h2:i≤1000000000):qq 1 1000000000 (.int i)=true:=by rw [Wl,AW h1,AW h2];rfl
theorem qD0 {i:Int} (h1:2≤i) (h2:i≤5):qq 2 5 (.int i)=true:=by rw [Wl,AW h1,AW h2];rfl
theorem yZ {a:Ad} {u v w:PV} {st:qC} (hu:Qq u=true) (hv:Qq v=true):(WM (QW (qy (qG (QU a) (qA (qB 0) qD)))) (QW (qy (qG (QU a) (qA (qB 1) qD))))) (Ql 5 [u,v,w]) st = .ok (!(qq 1 1000000000 u&&qq 1 1000000000 v)) st:=by
 have e1:=w_not (Wy (qT (k:=QU a) (fa:=qA (qB 0) qD) (r:=Ql 5 [u,v,w]) (l:=[u]) rfl (jv (a:=a) (st:=st) hu)))
 have e2:=w_not (Wy (qT (k:=QU a) (fa:=qA (qB 1) qD) (r:=Ql 5 [u,v,w]) (l:=[v]) rfl (jv (a:=a) (st:=st) hv)))
 cases h:qq 1 1000000000 u with
 |false=>rw [h] at e1;exact qBZ e1
 |true=>rw [h] at e1;exact zI e1 e2
theorem qA0 {a:Ad} {u v w:PV} {st:qC} (hu:Qq u=true) (hv:Qq v=true) (h:(qq 1 1000000000 u&&qq 1 1000000000 v)=false):Qu a [u,v,w] st = .ex ⟨a.Z4,[]⟩ st:=by
 have e:=yZ (a:=a) (w:=w) (st:=st) hu hv
 rw [h] at e
 exact Zy rfl (YK (wP e rfl))
theorem qAr {a:Ad} {R C:Int} {w:PV} {st:qC} (hR1:1≤R) (hR2:R≤1000000000) (hC1:1≤C) (hC2:C≤1000000000) (hw:Qq w=true) (h:qq 2 5 w=false):Qu a [.int R,.int C,w] st = .ex ⟨a.Z1,[]⟩ st:=by
 have e:=yZ (a:=a) (u := .int R) (v := .int C) (w:=w) (st:=st) rfl rfl
 rw [zg hR1 hR2,zg hC1 hC2] at e
 have n:=Wi (a:=a) (st:=st) hw
 rw [h,AO Ag] at n
 exact Zy rfl (qX (QG e rfl) (YK (Jd (qT (l:=[w]) rfl n))))
theorem qCE {a:Ad} {R C L:Int} {st:qC} (hL1:2≤L) (hL2:L≤5) (hR1:1≤R) (hR2:R≤1000000000) (hC1:1≤C) (hC2:C≤1000000000):Qu a [.int R,.int C,.int L] st = .ok (.int (wI R C L)) st:=by
 have m1:=wO (x:=R) (m:=L) (by omega)
 have m2:=wO (x:=C) (m:=L) (by omega)
 have e:=yZ (a:=a) (u := .int R) (v := .int C) (w := .int L) (st:=st) rfl rfl
 rw [zg hR1 hR2,zg hC1 hC2] at e
 have n:=Wi (a:=a) (v := .int L) (st:=st) rfl
 rw [qD0 hL1 hL2,AH rfl] at n
 have pre:∀ {o:RS} {F:FS},F [some (.int R),some (.int C),some (.int L),some (.int (R % L)),some (.int (C % L))] st=o->qP (QK (WM (QW (qy (qG (QU a) (qA (qB 0) qD)))) (QW (qy (qG (QU a) (qA (qB 1) qD))))) (zB a.Z4 (qA (vJ [(vC (.str "sides are whole numbers from 1 to ")),(qAQ (vC (.int 1000000000)))] Str.empty) qD)) qp) (qP (WH (qG (Qp a) (qA (qB 2) qD))) (qP (qU 3 (qH WO (qB 0) (qB 2))) (qP (qU 4 (qH WO (qB 1) (qB 2))) F))) (Ql 5 [.int R,.int C,.int L]) st=o:=fun {o F} h =>
  qX (QG e rfl) (qX (qE2 (qT (l:=[.int L]) rfl n)) (qX (qu (qQ rfl rfl (zS (by omega)))) (qX (qu (qQ rfl rfl (zS (by omega)))) h)))
 have c1:vTB (qH gGe (qB 0) (qB 2)) [some (.int R),some (.int C),some (.int L),some (.int (R % L)),some (.int (C % L))] st = .ok (decide (R ≥ L)) st:=wg (qQ rfl rfl qEM)
 have c2:vTB (qH gGe (qB 1) (qB 2)) [some (.int R),some (.int C),some (.int L),some (.int (R % L)),some (.int (C % L))] st = .ok (decide (C ≥ L)) st:=wg (qQ rfl rfl qEM)
 refine Qm rfl (pre ?_)
 unfold wI
 by_cases h1:R ≥ L
 ·rw [AW h1] at c1
  by_cases h2:C ≥ L
  ·rw [AW h2] at c2
   rw [AH (show (if C < R then C else R) ≥ L by split <;> omega)]
   exact wL (wP (j7 c1 c2) (Q8 (qT (qL (qQ rfl rfl (Qd (by omega))) (qL (qQ (qQ rfl rfl w_sub') (qQ rfl rfl w_sub') (Qd (by omega))) qc)) w_min)))
  ·rw [AQ h2] at c2
   rw [AO (show ¬ (if C < R then C else R) ≥ L by split <;> omega),AO (show ¬ (if C > R then C else R) < L by split <;> omega),AO (show ¬ R < L by omega)]
   exact qX (QG (j7 c1 c2) rfl) (wL (wP c1 (Q8 (qQ rfl rfl (Qd (by omega))))))
 ·rw [AQ h1] at c1
  rw [AO (show ¬ (if C < R then C else R) ≥ L by split <;> omega)]
  refine qX (QG (qCj c1) rfl) (qX (QG c1 rfl) ?_)
  by_cases h2:C ≥ L
  ·rw [AW h2] at c2
   rw [AO (show ¬ (if C > R then C else R) < L by split <;> omega),AH (show R < L by omega)]
   exact wL (wP c2 (Q8 (qQ rfl rfl (Qd (by omega)))))
  ·rw [AQ h2] at c2
   rw [AH (show (if C > R then C else R) < L by split <;> omega)]
   exact qX (QG c2 rfl) (Q8 (qQ rfl rfl (Qd (by omega))))
theorem qCJ {a:Ad} {v u w z:PV} {st s1:qC} (h:Qu a [v,u,w] st = .ok z s1):qW a [v,u,w] st = .ok z s1 :=
 Qm rfl (qX (qu rfl) (qX (qAM (qu (qT (l:=[v,u,w]) rfl h))) (Q8 rfl)))
theorem JW {a:Ad} {v u w:PV} {x:Exc} {z:PV} {st:qC} (h:Qu a [v,u,w] st = .ex x st) (hx:x.cls∈QH a) (hk:wJ a [.exc x.cls x.fs] st = .ok z st):qW a [v,u,w] st = .ok z st :=
 Qm rfl (qX (qu rfl) (qX (Js (qEX (qT (l:=[v,u,w]) rfl h)) hx (qu (qT (l:=[.exc x.cls x.fs]) rfl hk))) (Q8 rfl)))
theorem qBW {a:Ad} {R C L:Int} {st:qC} (hL1:2≤L) (hL2:L≤5) (hR1:1≤R) (hR2:R≤1000000000) (hC1:1≤C) (hC2:C≤1000000000):qW a [.int R,.int C,.int L] st = .ok (.int (wI R C L)) st:=qCJ (qCE hL1 hL2 hR1 hR2 hC1 hC2)
theorem ZN {a:Ad} (hd:Dist a) {u v w:PV} {st:qC} (hu:Qq u=true) (hv:Qq v=true) (h:(qq 1 1000000000 u&&qq 1 1000000000 v)=false):qW a [u,v,w] st = .ok (.str "! box") st:=JW (qA0 hu hv h) (by unfold QH;simp) (qAL hd)
theorem qBQ {a:Ad} (hd:Dist a) {R C:Int} {w:PV} {st:qC} (hR1:1≤R) (hR2:R≤1000000000) (hC1:1≤C) (hC2:C≤1000000000) (hw:Qq w=true) (h:qq 2 5 w=false):qW a [.int R,.int C,w] st = .ok (.str "! length") st:=JW (qAr hR1 hR2 hC1 hC2 hw h) (by unfold QH;simp) (YN hd)
theorem Y8 {i:Int} {st:qC}:gNe (.int i) (.int i) st = .ok (.bl false) st:=by
 show Rs.ok (PV.bl (!(i==i))) st=_
 rw [Al];rfl
def pB (a:Ad):FS:=(qP (qU 11 (qG (qW a) (qA (qB 9) (qA (qB 10) (qA (qB 3) qD))))) (QK (WM (QW (qy (qG (qx a) (qA (qB 11) qD)))) (vTB (qH gNe (qB 11) (qG (Qa a) (qA (qB 9) (qA (qB 10) (qA (qB 3) qD))))))) (qj (vC (.bl false))) qp))
def bB (a:Ad):FS:=(QK (WM (QW (qy (qG (qx a) (qA (qB 12) qD)))) (QW (vTB (WD gLe gLe (vC (.int 1)) (qB 12) (qH WC (vC (.int 10)) (vC (.int 9))))))) (wR (Qf (vFz (Qt (qA (qG (qW a) (qA (qB 12) (qA (qB 12) (qA (qB 12) qD)))) (qA (qG (qW a) (qA (qB 12) (qA (vC (.int 3)) (qA (qB 3) qD)))) (qA (qG (qW a) (qA (vC (.int 3)) (qA (qB 12) (qA (qB 12) qD)))) qD)))))) (QO 13) (QK (vTB (qH gNe (qB 13) (vC (.str "! box")))) (qj (vC (.bl false))) qp)) qp)
def qDP (a:Ad):FS:=(qP (qU 2 (qG (wu a) (qA (qB 0) (qA (qB 1) qD)))) (qP (qU 3 (qH q9 (vC (.int 2)) (qG (qZ a) (qA (qB 2) (qA (vC (.int 4)) qD))))) (qP (qU 4 (qH q9 (vC (.int 1)) (qG (qZ a) (qA (qB 2) (qA (vC (.int 8)) qD))))) (qP (qU 5 (qH q9 (vC (.int 1)) (qG (qZ a) (qA (qB 2) (qA (qG zZ (qA (vC (.int 8)) (qA (qH yW (vC (.int 16)) (qB 4)) qD))) qD))))) (qP (qU 6 (qG Q7 (qA (vFz (QC [5] 1 (wQ (qA (qH Qs (qB 4) (qB 5)) qD)) (wa 1) [] [] (QM (qA (qH yW (qB 1) (qB 0)) (qA (qH WO (qB 1) (qB 0)) qD))))) qD))) (qP (qU 7 (qH zA (qH Qs (qB 4) (qB 5)) (qH Qs (qB 3) (qG (w5 a) (qA (qB 6) (qA (qB 3) qD)))))) (qP (QK (WM (vTB (qH gNe (qB 7) (qG (Qa a) (qA (qB 4) (qA (qB 5) (qA (qB 3) qD)))))) (vTB (qH gNe (qG (qW a) (qA (qB 4) (qA (qB 5) (qA (qB 3) qD)))) (qB 7)))) (qj (vC (.bl false))) qp) (qP (qU 8 (vFz (QC [2] 1 (wQ (qA (vC (.int 2)) qD)) (wa 1) [] [] (qH q9 (vC (.int 1)) (qG (qZ a) (qA (qB 0) (qA (qH gIx (vFz (Qt (qA (vC (.int 20)) (qA (qH WC (vC (.int 10)) (vC (.int 9))) qD)))) (qG (qZ a) (qA (qB 0) (qA (vC (.int 2)) qD)))) qD))))))) (qP (wR (Qf (vFz (Qt (qA (QM (qA (qH gIx (qB 8) (vC (.int 0))) (qA (qH gIx (qB 8) (vC (.int 1))) qD))) (qA (QM (qA (qH gIx (qB 8) (vC (.int 0))) (qA (qB 4) qD))) (qA (QM (qA (qB 5) (qA (qH gIx (qB 8) (vC (.int 1))) qD))) (qA (QM (qA (qH WC (vC (.int 10)) (vC (.int 9))) (qA (qH zA (qH WC (vC (.int 10)) (vC (.int 9))) (vC (.int 1))) qD))) qD))))))) (Jc 2 (WY (QO 9) (WY (QO 10) qAP))) (qP (qU 11 (qG (qW a) (qA (qB 9) (qA (qB 10) (qA (qB 3) qD))))) (QK (WM (QW (qy (qG (qx a) (qA (qB 11) qD)))) (vTB (qH gNe (qB 11) (qG (Qa a) (qA (qB 9) (qA (qB 10) (qA (qB 3) qD))))))) (qj (vC (.bl false))) qp))) (qP (wR (Qf (vFz (Qt (qA (vC (.int 0)) (qA (qAe (vC (.int 1))) (qA (vC (.bl true)) (qA (vC .non) (qA (vC (.str "2")) (qA (qH q9 (qH WC (vC (.int 10)) (vC (.int 9))) (vC (.int 1))) (qA (qH WC (vC (.int 10)) (vC (.int 39))) (qA (QM (qA (vC (.int 3)) qD)) (qA (qG (Wf a) (qA (qB 2) qD)) qD)))))))))))) (QO 12) (QK (WM (QW (qy (qG (qx a) (qA (qB 12) qD)))) (QW (vTB (WD gLe gLe (vC (.int 1)) (qB 12) (qH WC (vC (.int 10)) (vC (.int 9))))))) (wR (Qf (vFz (Qt (qA (qG (qW a) (qA (qB 12) (qA (qB 12) (qA (qB 12) qD)))) (qA (qG (qW a) (qA (qB 12) (qA (vC (.int 3)) (qA (qB 3) qD)))) (qA (qG (qW a) (qA (vC (.int 3)) (qA (qB 12) (qA (qB 12) qD)))) qD)))))) (QO 13) (QK (vTB (qH gNe (qB 13) (vC (.str "! box")))) (qj (vC (.bl false))) qp)) qp)) (QK (vTB (qH gNe (qG (qW a) (qA (qB 4) (qA (qB 5) (qA (qH gIx (vFz (Qt (qA (vC (.int 1)) (qA (vC (.int 6)) (qA (vC (.bl true)) (qA (vC .non) (qA (vC (.str "2")) qD))))))) (qG (qZ a) (qA (qB 2) (qA (vC (.int 5)) qD)))) qD)))) (vC (.str "! length")))) (qj (vC (.bl false))) qp)))))))))))
theorem zi {a:Ad} {A D L:Int} {S:qC} {x0 x1 x2 x4 x5 x6 x7 x8 x11 x12 x13:Option PV} (hL1:2≤L) (hL2:L≤5) (h1:1≤A) (h2:A≤1000000000) (h3:1≤D) (h4:D≤1000000000) :
  pB a [x0,x1,x2,some (.int L),x4,x5,x6,x7,x8,some (.int A),some (.int D),x11,x12,x13] S = .nx [x0,x1,x2,some (.int L),x4,x5,x6,x7,x8,some (.int A),some (.int D),some (.int (wI A D L)),x12,x13] S :=
 qX (qu (qT (l:=[.int A,.int D,.int L]) rfl (qBW hL1 hL2 h1 h2 h3 h4))) (QG (zI (w_not (b:=true) (Wy (qT (l:=[.int (wI A D L)]) rfl (Yc rfl)))) (wg (qQ rfl (qT (l:=[.int A,.int D,.int L]) rfl (ym hL1 hL2 h1 h2 h3 h4)) Y8))) rfl)
theorem YQ {v:PV} {r:ql} {S:qC} (h:r[12]? = some (some v)) (hv:isInt v=true):vTB (WD gLe gLe (vC (.int 1)) (qB 12) (qH WC (vC (.int 10)) (vC (.int 9)))) r S = .ok (qq 1 1000000000 v) S:=by
 cases v with
 |int i =>
  refine wg ?_
  unfold WD
  rw [show vC (.int 1) r S = .ok (.int 1) S from rfl]
  dsimp only [Rs.bind]
  rw [zz h]
  dsimp only [Rs.bind]
  rw [qGr]
  dsimp only [Rs.bind]
  rw [Wl]
  by_cases q:(1:Int)≤i
  ·rw [AW q]
   rfl
  ·rw [AQ q];rfl
 |_=>cases hv
theorem qDl {a:Ad} (hd:Dist a) {v:PV} {L:Int} {S:qC} {x0 x1 x2 x4 x5 x6 x7 x8 x9 x10 x11 x13:Option PV} (hv:Qq v=true) :
  ∃ y13,bB a [x0,x1,x2,some (.int L),x4,x5,x6,x7,x8,x9,x10,x11,some v,x13] S = .nx [x0,x1,x2,some (.int L),x4,x5,x6,x7,x8,x9,x10,x11,some v,y13] S:=by
 have e1:=w_not (Wy (qT (k:=qx a) (fa:=qA (qB 12) qD) (r:=[x0,x1,x2,some (.int L),x4,x5,x6,x7,x8,x9,x10,x11,some v,x13]) (l:=[v]) rfl (Yc (a:=a) (st:=S) hv)))
 cases hw:qq 1 1000000000 v with
 |true =>
  have hi:isInt v=true:=by
   obtain ⟨i,rfl,_⟩:=jE hw
   rfl
  rw [hi] at e1
  have e2:=w_not (YQ (r:=[x0,x1,x2,some (.int L),x4,x5,x6,x7,x8,x9,x10,x11,some v,x13]) (S:=S) rfl hi)
  rw [hw] at e2
  exact ⟨x13,QG (zI e1 e2) rfl⟩
 |false =>
  have e3:(WM (QW (qy (qG (qx a) (qA (qB 12) qD)))) (QW (vTB (WD gLe gLe (vC (.int 1)) (qB 12) (qH WC (vC (.int 10)) (vC (.int 9))))))) [x0,x1,x2,some (.int L),x4,x5,x6,x7,x8,x9,x10,x11,some v,x13] S = .ok true S:=by
   cases hi:isInt v with
   |false=>rw [hi] at e1;exact qBZ e1
   |true =>
    rw [hi] at e1
    have e2:=w_not (YQ (r:=[x0,x1,x2,some (.int L),x4,x5,x6,x7,x8,x9,x10,x11,some v,x13]) (S:=S) rfl hi)
    rw [hw] at e2
    exact zI e1 e2
  have n:∀ {S:qC},gNe (.str "! box") (.str "! box") S = .ok (.bl false) S:=rfl
  refine ⟨some (.str "! box"),wP e3 (Zr (WB (Wm (W4 (qL (qT (l:=[v,v,v]) rfl (ZN hd hv hv (by rw [hw];rfl))) (qL (qT (l:=[v,.int 3,.int L]) rfl (ZN hd hv rfl (by rw [hw];rfl))) (qL (qT (l:=[.int 3,v,v]) rfl (ZN hd rfl hv (by rw [hw];rfl))) qc))) (sz rfl)))) ?_)⟩
  exact wG trivial rfl (QG (wg (qQ rfl rfl n)) rfl) (wG trivial rfl (QG (wg (qQ rfl rfl n)) rfl) (wG trivial rfl (QG (wg (qQ rfl rfl n)) rfl) (Qw trivial)))
theorem Za {a:Ad} (hd:Dist a) {L:Int} {S:qC} {x0 x1 x2 x4 x5 x6 x7 x8 x9 x10 x11:Option PV}:∀ (l:List PV) (x12 x13:Option PV),(∀ v∈l,Qq v=true) ->
  ∃ y12 y13,QA (fun _=>True) (QO 12) (bB a) l [x0,x1,x2,some (.int L),x4,x5,x6,x7,x8,x9,x10,x11,x12,x13] S = .nx [x0,x1,x2,some (.int L),x4,x5,x6,x7,x8,x9,x10,x11,y12,y13] S
 |[],x12,x13,_=>⟨x12,x13,Qw trivial⟩
 |v::l,x12,x13,h=>by
  obtain ⟨p,e⟩:=qDl (a:=a) hd (L:=L) (S:=S) (x0:=x0) (x1:=x1) (x2:=x2) (x4:=x4) (x5:=x5) (x6:=x6) (x7:=x7) (x8:=x8) (x9:=x9) (x10:=x10) (x11:=x11) (x13:=x13) (h v AF)
  obtain ⟨y12,y13,e2⟩:=Za hd l (some v) p fun w hw=>h w (AD _ hw)
  exact ⟨y12,y13,wG trivial rfl e e2⟩
theorem qCm {a:Ad} {R C:Nat} {r:ql} {S:qC} (h4:r[4]? = some (some (.int (R:Int)))) (h5:r[5]? = some (some (.int (C:Int)))) (hC:1≤C) (hC8:C≤8) (hRC:R * C≤16):(qG Q7 (qA (vFz (QC [5] 1 (wQ (qA (qH Qs (qB 4) (qB 5)) qD)) (wa 1) [] [] (QM (qA (qH yW (qB 1) (qB 0)) (qA (qH WO (qB 1) (qB 0)) qD))))) qD)) r S = .ok (.tup ((flC R C).map cP)) S:=by
 have hc:wN [5] 1 r=[some (.int (C:Int)),none]:=by
  unfold wN
  show [(r[5]?).join]++_=_
  rw [h5];rfl
 have hm:(R:Int) * (C:Int)≤16:=by rw [← Bj];omega
 have h0:0≤(R:Int) * (C:Int):=by rw [← Bj];omega
 let G:PV->PV:=fun p=>match p with
  | .int i=>cP (i / (C:Int),i % (C:Int))
  |_=>p
 refine qT (l:=[.lst ((flC R C).map cP)]) (qL (Wm ?_) qc) (yQ rfl)
 refine (Zn (w:=⟨(WN ((R:Int) * C)).map PV.int,fun _=>True⟩) (F:=G) (itN h0 (by omega) (qL (qQ (zz h4) (zz h5) (jb (by omega))) qc)) trivial (by rw [AX,W0];exact jm (by omega)) fun p hp => ?_).trans ?_
 ·obtain ⟨i,hi,rfl⟩:=A8.mp hp
  exact ⟨[some (.int (C:Int)),some (.int i)],by rw [hc];rfl,W3 (qL (qQ rfl rfl (qBD (by omega))) (qL (qQ rfl rfl (zS (by omega))) qc)) (sz rfl)⟩
 ·unfold flC
  rw [A9,A9];rfl
theorem qAf {a:Ad} {st j:qC} {x t:Int}:∃ g x':Int,1≤g∧g≤1000000000∧(qH q9 (vC (.int 1)) (qG (qZ a) (qA (qB 0) (qA (qH gIx (vFz (Qt (qA (vC (.int 20)) (qA (qH WC (vC (.int 10)) (vC (.int 9))) qD)))) (qG (qZ a) (qA (qB 0) (qA (vC (.int 2)) qD)))) qD)))) [some (.ref st.length),some (.int t)] (st ++ .l [.int x]::j) = .ok (.int g) (st ++ .l [.int x']::j):=by
 have t1:=w4 (a:=a) (st:=st) (j:=j) (x:=x) (m:=2) ⟨by decide,by decide⟩
 have hx:=wO (x:=x) (m:=2) (by decide)
 obtain ⟨p,hp,e⟩:=jG (l:=[.int 20,.int 1000000000]) (i:=x % 2) (st:=st ++ .l [.int (x / 2)]::j) hx.1 hx.2
 obtain ⟨m,hm1,hm2,rfl⟩:∃ m:Int,0 < m∧m≤1000000000∧p = .int m:=by
  rcases AL.mp hp with z |z
  ·exact ⟨20,by decide,by decide,z⟩
  ·exact ⟨1000000000,by decide,by decide,An.mp z⟩
 have t2:=w4 (a:=a) (st:=st) (j:=j) (x:=x / 2) (m:=m) ⟨hm1,by omega⟩
 have hg:=wO (x:=x / 2) (m:=m) hm1
 exact ⟨1 + x / 2 % m,x / 2 / m,by omega,by omega,qQ rfl (qT (l:=[.ref st.length,.int m]) (qL rfl (qL (qQ (p := .lst [.int 20,.int 1000000000]) rfl (qT (l:=[.ref st.length,.int 2]) rfl t1) e) qc)) t2) w_add⟩
theorem qC2 {a:Ad} {st j:qC} {x:Int} {r:ql} (h2:r[2]? = some (some (.ref st.length))):∃ g h x':Int,1≤g∧g≤1000000000∧1≤h∧h≤1000000000∧(vFz (QC [2] 1 (wQ (qA (vC (.int 2)) qD)) (wa 1) [] [] (qH q9 (vC (.int 1)) (qG (qZ a) (qA (qB 0) (qA (qH gIx (vFz (Qt (qA (vC (.int 20)) (qA (qH WC (vC (.int 10)) (vC (.int 9))) qD)))) (qG (qZ a) (qA (qB 0) (qA (vC (.int 2)) qD)))) qD)))))) r (st ++ .l [.int x]::j) = .ok (.lst [.int g,.int h]) (st ++ .l [.int x']::j):=by
 have hc:wN [2] 1 r=[some (.ref st.length),none]:=by
  unfold wN
  show [(r[2]?).join]++_=_
  rw [h2];rfl
 obtain ⟨g,x1,g1,g2,e1⟩:=qAf (a:=a) (st:=st) (j:=j) (x:=x) (t:=0)
 obtain ⟨h,x2,q1,q2,e2⟩:=qAf (a:=a) (st:=st) (j:=j) (x:=x1) (t:=1)
 refine ⟨g,h,x2,g1,g2,q1,q2,Wm (qFH (w:=⟨(WN 2).map PV.int,fun _=>True⟩) (itN (L:=2) (by decide) (by decide) rfl) ?_ (sz rfl))⟩
 exact jx (l:=[.int g]) (m:=[.int h]) trivial (qA2 (r':=[some (.ref st.length),some (.int 0)]) (by rw [hc];rfl) e1) (jx (l:=[.int h]) (m:=[]) trivial (qA2 (r':=[some (.ref st.length),some (.int 1)]) (by rw [hc];rfl) e2) (y0 trivial))
theorem qCv {a:Ad} (hd:Dist a) {ns:List Int} {k:Int} {st:qC} {x2 x3 x4 x5 x6 x7 x8 x9 x10 x11 x12 x13:Option PV} (hb:∀ n∈ns,Builtin.Int.intBits n≤2 ^ 20) (h0:0≤k) (h1:k < 100) :
  ∃ (y2 y3 y4 y5 y6 y7 y8 y9 y10 y11 y12 y13:Option PV) (st':qC),qDP a [some (.lst (ns.map PV.int)),some (.int k),x2,x3,x4,x5,x6,x7,x8,x9,x10,x11,x12,x13] st = .nx [some (.lst (ns.map PV.int)),some (.int k),y2,y3,y4,y5,y6,y7,y8,y9,y10,y11,y12,y13] st':=by
 obtain ⟨x,eb⟩:=qES (a:=a) (st:=st) hb h0 h1
 have q1:=wO (x:=x) (m:=4) (by decide)
 have q2:=wO (x:=x / 4) (m:=8) (by decide)
 have t1:=w4 (a:=a) (st:=st) (j:=[]) (x:=x) (m:=4) ⟨by decide,by decide⟩
 have t2:=w4 (a:=a) (st:=st) (j:=[]) (x:=x / 4) (m:=8) ⟨by decide,by decide⟩
 obtain ⟨L,hL⟩:∃ L:Nat,(2 + x % 4:Int)=(L:Int):=⟨(2 + x % 4).toNat,by omega⟩
 obtain ⟨R,hR⟩:∃ R:Nat,(1 + x / 4 % 8:Int)=(R:Int):=⟨(1 + x / 4 % 8).toNat,by omega⟩
 have hL1:2≤L:=by omega
 have hL2:L≤5:=by omega
 have hR1:1≤R:=by omega
 have hR2:R≤8:=by omega
 obtain ⟨M,hM,hM1,hM8,hMR⟩:∃ M:Nat,(if (16:Int) / (R:Int) < 8 then (16:Int) / (R:Int) else 8)=(M:Int)∧1≤M∧M≤8 ∧ ∀ C:Nat,C≤M->R * C≤16:=by
  rcases (show R=1∨R=2∨R=3∨R=4∨R=5∨R=6∨R=7∨R=8 by omega) with rfl |rfl |rfl |rfl |rfl |rfl |rfl |rfl
  ·exact ⟨8,by decide,by decide,by decide,fun C h=>by omega⟩
  ·exact ⟨8,by decide,by decide,by decide,fun C h=>by omega⟩
  ·exact ⟨5,by decide,by decide,by decide,fun C h=>by omega⟩
  ·exact ⟨4,by decide,by decide,by decide,fun C h=>by omega⟩
  ·exact ⟨3,by decide,by decide,by decide,fun C h=>by omega⟩
  ·exact ⟨2,by decide,by decide,by decide,fun C h=>by omega⟩
  ·exact ⟨2,by decide,by decide,by decide,fun C h=>by omega⟩
  ·exact ⟨2,by decide,by decide,by decide,fun C h=>by omega⟩
 have q3:=wO (x:=x / 4 / 8) (m:=(M:Int)) (by omega)
 have t3:=w4 (a:=a) (st:=st) (j:=[]) (x:=x / 4 / 8) (m:=(M:Int)) ⟨by omega,by omega⟩
 obtain ⟨C,hC⟩:∃ C:Nat,(1 + x / 4 / 8 % (M:Int):Int)=(C:Int):=⟨(1 + x / 4 / 8 % (M:Int)).toNat,by omega⟩
 have hC1:1≤C:=by omega
 have hC2:C≤M:=by omega
 have hC8:C≤8:=by omega
 have hRC:=hMR C hC2
 generalize x / 4 / 8 / (M:Int)=x at t3
 have e2:qU 2 (qG (wu a) (qA (qB 0) (qA (qB 1) qD))) [some (.lst (ns.map PV.int)),some (.int k),x2,x3,x4,x5,x6,x7,x8,x9,x10,x11,x12,x13] st=_:=qu (qT (l:=[.lst (ns.map PV.int),.int k]) rfl eb)
 obtain ⟨g,hg⟩:=qCR (a:=a) (F:=flC R C) (L:=(L:Int)) (S:=st ++ .l [.int x]::[]) (by omega) (by omega) (by rw [qB1];exact hRC)
 have hdue:(R:Int) * (C:Int) - (L:Int) * ((FB L (flC R C):Nat):Int)=wI R C L:=qAy hR1 hR2 hC1 hC8 hRC hL1 hL2
 have hst:(st++SO.l [.int x]::[])++g=st ++ .l [.int x]::g:=by rw [Aj];rfl
 rw [hst] at hg
 obtain ⟨ga,gb,xg,a1,a2,b1,b2,eg⟩:=qC2 (a:=a) (st:=st) (j:=g) (x:=x) (r:=[some (.lst (ns.map PV.int)),some (.int k),some (.ref st.length),some (.int (L:Int)),some (.int (R:Int)),some (.int (C:Int)),some (.tup ((flC R C).map cP)),some (.int (wI R C L)),x8,x9,x10,x11,x12,x13]) rfl
 obtain ⟨vo,ho,eo⟩:=qDr (a:=a) (st:=st) (j:=g) (x:=xg)
 generalize xg / 27=xh at eo
 obtain ⟨y12,y13,eB⟩:=Za (a:=a) hd (L:=(L:Int)) (S:=st ++ .l [.int xh]::g) (x0:=some (.lst (ns.map PV.int))) (x1:=some (.int k)) (x2:=some (.ref st.length)) (x4:=some (.int (R:Int))) (x5:=some (.int (C:Int))) (x6:=some (.tup ((flC R C).map cP))) (x7:=some (.int (wI R C L))) (x8:=some (.lst [.int ga,.int gb])) (x9:=some (.int 1000000000)) (x10:=some (.int 999999999)) (x11:=some (.int (wI 1000000000 999999999 L)))
  [.int 0,.int (-1),.bl true,.non,.str "2",.int 1000000001,.int (10 ^ 39),.tup [.int 3],vo] x12 x13 (fun v hv=>by
   simp only [AL,Aq,Bk] at hv
   rcases hv with rfl |rfl |rfl |rfl |rfl |rfl |rfl |rfl |rfl
   ·rfl
   ·rfl
   ·rfl
   ·rfl
   ·rfl
   ·rfl
   ·rfl
   ·rfl
   ·exact qAA ho)
 have t5:=w4 (a:=a) (st:=st) (j:=g) (x:=xh) (m:=5) ⟨by decide,by decide⟩
 have q5:=wO (x:=xh) (m:=5) (by decide)
 obtain ⟨p,hp,e5⟩:=jG (l:=[.int 1,.int 6,.bl true,.non,.str "2"]) (i:=xh % 5) (st:=st ++ .l [.int (xh / 5)]::g) q5.1 q5.2
 have hp2:=List.all_eq_true.mp (show ([.int 1,.int 6,.bl true,.non,.str "2"]:List PV).all (fun v=>Qq v && !qq 2 5 v)=true from rfl) p hp
 rw [Av] at hp2
 have hp3:qq 2 5 p=false:=by have:=hp2.2;cases h:qq 2 5 p <;> rw [h] at this <;> first |rfl |cases this
 have i1:∀ {S:qC},gIx (.lst [.int ga,.int gb]) (.int 0) S = .ok (.int ga) S:=rfl
 have i2:∀ {S:qC},gIx (.lst [.int ga,.int gb]) (.int 1) S = .ok (.int gb) S:=rfl
 refine ⟨_,_,_,_,_,_,_,_,_,_,_,_,_,qX e2 (qX (qu (qQ rfl (qT (l:=[.ref st.length,.int 4]) rfl t1) (w_add.trans (by rw [hL])))) (qX (qu (qQ rfl (qT (l:=[.ref st.length,.int 8]) rfl t2) (w_add.trans (by rw [hR]))))
  (qX (qu (qQ rfl (qT (l:=[.ref st.length,.int (M:Int)]) (qL rfl (qL (qT (l:=[.int 8,.int (16 / (R:Int))]) (qL rfl (qL (qQ rfl rfl (qBD ⟨by omega,by omega⟩)) qc)) (w_min.trans (by rw [hM]))) qc)) t3) (w_add.trans (by rw [hC]))))
  (qX (qu (qCm (a:=a) (R:=R) (C:=C) rfl rfl hC1 hC8 hRC)) (qX (qu (qQ (qQ rfl rfl (Qd (by omega))) (qQ rfl (qT (l:=[.tup ((flC R C).map cP),.int (L:Int)]) rfl hg) (Qd (by omega))) (w_sub'.trans (by rw [hdue]))))
  (qX (QG (zI (wg (qQ rfl (qT (l:=[.int (R:Int),.int (C:Int),.int (L:Int)]) rfl (ym (by omega) (by omega) (by omega) (by omega) (by omega) (by omega))) Y8)) (wg (qQ (qT (l:=[.int (R:Int),.int (C:Int),.int (L:Int)]) rfl (qBW (by omega) (by omega) (by omega) (by omega) (by omega) (by omega))) rfl Y8))) rfl)
  (qX (qu eg) (qX (Zr (WB (l:=[.tup [.int ga,.int gb],.tup [.int ga,.int (R:Int)],.tup [.int (C:Int),.int gb],.tup [.int 1000000000,.int 999999999]]) (Wm (W4 (qL (W3 (qL (qQ rfl rfl i1) (qL (qQ rfl rfl i2) qc)) (sz rfl)) (qL (W3 (qL (qQ rfl rfl i1) (qL rfl qc)) (sz rfl)) (qL (W3 (qL rfl (qL (qQ rfl rfl i2) qc)) (sz rfl)) (qL (W3 (qL rfl (qL rfl qc)) (sz rfl)) qc)))) (sz rfl))))
    (wG trivial rfl (zi (by omega) (by omega) a1 a2 b1 b2) (wG trivial rfl (zi (by omega) (by omega) a1 a2 (by omega) (by omega)) (wG trivial rfl (zi (by omega) (by omega) (by omega) (by omega) b1 b2) (wG trivial rfl (zi (by omega) (by omega) (by decide) (by decide) (by decide) (by decide)) (Qw trivial))))))
  (qX (Zr (WB (Wm (W4 (qL rfl (qL rfl (qL rfl (qL rfl (qL rfl (qL rfl (qL rfl (qL rfl (qL (qT (l:=[.ref st.length]) rfl eo) qc))))))))) (sz rfl)))) eB)
  (QG (wg (qQ (qT (l:=[.int (R:Int),.int (C:Int),p]) (qL rfl (qL rfl (qL (qQ (p := .lst [.int 1,.int 6,.bl true,.non,.str "2"]) rfl (qT (l:=[.ref st.length,.int 5]) rfl t5) e5) qc))) (qBQ hd (by omega) (by omega) (by omega) (by omega) hp2.1 hp3)) rfl rfl)) rfl))))))))))⟩
theorem yx {a:Ad} (hd:Dist a) {ns:List Int} (hb:∀ n∈ns,Builtin.Int.intBits n≤2 ^ 20):∀ (ks:List Int) (x1 x2 x3 x4 x5 x6 x7 x8 x9 x10 x11 x12 x13:Option PV) (st:qC),(∀ k∈ks,0≤k∧k < 100) -> ∃ e st',QA (fun _=>True) (QO 1) (qDP a) (ks.map PV.int) [some (.lst (ns.map PV.int)),x1,x2,x3,x4,x5,x6,x7,x8,x9,x10,x11,x12,x13] st = .nx e st'
 |[],x1,x2,x3,x4,x5,x6,x7,x8,x9,x10,x11,x12,x13,st,_=>⟨_,st,Qw trivial⟩
 |k::ks,x1,x2,x3,x4,x5,x6,x7,x8,x9,x10,x11,x12,x13,st,h=>by
  obtain ⟨y2,y3,y4,y5,y6,y7,y8,y9,y10,y11,y12,y13,st1,e⟩:=qCv (a:=a) hd (ns:=ns) (k:=k) (st:=st) (x2:=x2) (x3:=x3) (x4:=x4) (x5:=x5) (x6:=x6) (x7:=x7) (x8:=x8) (x9:=x9) (x10:=x10) (x11:=x11) (x12:=x12) (x13:=x13) hb (h k AF).1 (h k AF).2
  obtain ⟨e',st',e2⟩:=yx hd (ns:=ns) hb ks (some (.int k)) y2 y3 y4 y5 y6 y7 y8 y9 y10 y11 y12 y13 st1 fun q hq=>h q (AD _ hq)
  exact ⟨e',st',wG trivial rfl e e2⟩
theorem law_true:∀ (a:Ad) (ns:List Int),Dist a->ns.length≤63->(∀ k∈ns,Builtin.Int.intBits k≤2 ^ 20) -> ∃ st,yu a [.lst (ns.map PV.int)] [] = .ok (.bl true) st:=by
 intro a ns hd hl hb
 obtain ⟨n,hn0,hn4,hn⟩:∃ n:Int,0≤n∧n≤4∧qG wt (qA (vC (.int 1)) (qA (qG zZ (qA (qG ZS (qA (qB 0) qD)) (qA (vC (.int 3)) qD))) qD)) (Ql 14 [.lst (ns.map PV.int)]) [] = .ok (.int n) []:=by
  refine ⟨if (if (3:Int) < ns.length then 3 else (ns.length:Int)) > 1 then (if (3:Int) < ns.length then 3 else (ns.length:Int)) else 1,?_,?_,?_⟩
  ·split <;> (try split) <;> omega
  ·split <;> (try split) <;> omega
  ·exact qT (qL rfl (qL (qT (l:=[.int ns.length,.int 3]) (qL (qT (qL rfl qc) (qAg (l:=ns.map PV.int) rfl (by rw [AX]))) (qL rfl qc)) rfl) qc)) rfl
 obtain ⟨e,st',h⟩:=yx hd hb (WN n) none none none none none none none none none none none none none [] fun k hk=>by have:=upto_mem.mp hk;omega
 exact ⟨st',Qm rfl (qX (Zr (itN hn0 (by omega) (qL hn qc)) h) (Q8 rfl))⟩
end K44
end
section

end
noncomputable section
namespace K44
open PySem PySem.Spec PyProof.Rows L2 EX EV
theorem qCr {a:Ad} {x:Addr} {c:Value} {b:Bool} (h:kit a (.ref x) c=some b):x∈QH a:=by
 cases c with
 |ref d =>
  have h:(if x∈QH a∧d∈a.kinds then some (x==d) else none)=some b:=h
  split at h
  ·rename_i hx;exact hx.1
  ·cases h
 |type T =>
  have h:(if x∈QH a∧T = "ValueError" then some true else none)=some b:=h
  split at h
  ·rename_i hx;exact hx.1
  ·cases h
 |_=>cases h
theorem qAH {K:W.Frag}:∀ p∈kitTab,W.kitOne K (.type p.1.1) (.type p.1.2)=some p.2:=by
 intro p hp
 unfold kitTab at hp
 simp only [AL,Aq,Bk] at hp
 rcases hp with rfl |rfl |rfl |rfl |rfl |rfl |rfl |rfl |rfl |rfl |rfl |rfl |rfl |rfl |rfl |rfl |rfl |rfl |rfl |rfl |rfl |rfl |rfl |rfl |rfl |rfl |rfl |rfl <;> rfl
theorem yv {s T:String} {b:Bool}:∀ {l:List ((String×String)×Bool)},l.lookup (s,T)=some b->((s,T),b)∈l
 |[],h=>by cases h
 |(q,k)::l,h=>by
  rw [Ah] at h
  split at h
  ·rename_i e;cases h;rw [eq_of_beq e];exact AF
  ·exact AD _ (yv h)
theorem qCM {K:W.Frag} {s T:String} {b:Bool} (h:qF8 s T=some b):W.kitOne K (.type s) (.type T)=some b:=qAH _ (yv h)
theorem qi {a:Ad} (h:Dist a):a.Z1≠a.Z2∧a.Z1≠a.Z3∧a.Z1≠a.Z4∧a.Z1≠a.Z5∧a.Z1≠a.Z6∧a.Z1≠a.Z7∧a.Z1≠a.Z8∧a.Z1≠a.Z9∧a.Z1≠a.Z10∧a.Z1≠a.Z11:=by
 have nd:=h.nd
 unfold Ad.kinds at nd
 simp only [Ak,AL,Aq,not_or,Bk] at nd
 refine ⟨?_,?_,?_,?_,?_,?_,?_,?_,?_,?_⟩ <;> (intro z;simp only [z,not_true_eq_false,false_and,and_false] at nd)
theorem QI {a:Ad} (h:Dist a):a.Z4≠a.Z1∧a.Z4≠a.Z2∧a.Z4≠a.Z3∧a.Z4≠a.Z5∧a.Z4≠a.Z6∧a.Z4≠a.Z7∧a.Z4≠a.Z8∧a.Z4≠a.Z9∧a.Z4≠a.Z10∧a.Z4≠a.Z11:=by
 have nd:=h.nd
 unfold Ad.kinds at nd
 simp only [Ak,AL,Aq,not_or,Bk] at nd
 refine ⟨?_,?_,?_,?_,?_,?_,?_,?_,?_,?_⟩ <;> (intro z;simp only [z,not_true_eq_false,false_and,and_false] at nd)
def yT (e:DictEntry):Bool:=match e.key with
 | .str _ _=>true
 |_=>false
theorem zk {K:W.Frag} {N:Addr} {c:Value} {dd:Option Addr} {es:Array DictEntry} {ep:Nat} {sl:Array (Option Value)} (h:K.lookup N=some ⟨c,dd,.dict es ep,sl⟩) (hl:es.toList.all yT=true):W.nsOkIn K N=true:=by
 unfold W.nsOkIn
 rw [show List.lookup N K=_ from h]
 show (es.all fun e=>match e.key with | .str _ _=>true |_=>false)=true
 rw [← Array.all_toList]
 exact hl
theorem qDE {K:W.Frag} {B:Addr} {cdB:ClassData} {cB:Value} {dB:Option Addr} {slB:Array (Option Value)} (hB:K.lookup B=some ⟨cB,dB,.cls cdB,slB⟩) (hnB:W.nsOkIn K cdB.ns=true) (hiB:W.nsIn K cdB.ns "__init__" = some none):W.tailIn K bmV (.ref B::bmV)=true:=by
 rw [W.tailIn.eq_2,show List.lookup B K=_ from hB]
 dsimp only
 rw [hnB,hiB]
 rfl
theorem qBB {K:W.Frag} {C B:Addr} {dd:Option Addr} {cd cdB:ClassData} {sl:Array (Option Value)} {k0 k1 k2 k3 k5:Option Value} {cB:Value} {dB:Option Addr} {slB:Array (Option Value)} (hC:K.lookup C=some ⟨.type "type",dd,.cls cd,sl⟩) (hm:cd.mro = .ref C :: .ref B::bmV)
  (hs:sl.toList=[k0,k1,k2,k3,some (.builtin "ValueError.__new__"),k5]) (hD:cd.hasDel=false) (hn:W.nsOkIn K cd.ns=true) (hi:W.nsIn K cd.ns "__init__" = some none) (hB:K.lookup B=some ⟨cB,dB,.cls cdB,slB⟩) (hnB:W.nsOkIn K cdB.ns=true) (hiB:W.nsIn K cdB.ns "__init__" = some none) :
  W.excIn K C bmV "ValueError.__new__" = true:=by
 have t:=qDE hB hnB hiB
 obtain ⟨nm,bs,mro,ns,qn,hd,sn,sb,ab,co,del⟩:=cd
 obtain ⟨sl⟩:=sl
 have hm:mro=_:=hm
 have hs:sl=_:=hs
 have hD:del=false:=hD
 subst hm;subst hs;subst hD
 unfold W.excIn
 rw [show List.lookup C K=_ from hC]
 show (C==C&&("ValueError.__new__" == "ValueError.__new__") && !false&&W.tailIn K bmV (.ref B::bmV)&&W.nsOkIn K ns&&(W.nsIn K ns "__init__" == some none))=true
 rw [t,show W.nsOkIn K ns=true from hn,show W.nsIn K ns "__init__" = some none from hi]
 simp
theorem qCl {P:Program} {w:World} {K:W.Frag} {mg:Str->Option Value} {base:Heap} {CX:CXT} {k:Nat} {f:Addr} {fd:FuncData} {ps:List Str} {sp sp':Sp} (F:FnOk P w K mg base CX k f fd ps sp) (h:∀ vs H Q E,sp' vs H Q E->sp vs H Q E):FnOk P w K mg base CX k f fd ps sp' :=
 ⟨fun vs H Q E q=>F.len vs H Q E (h vs H Q E q),fun A outer s H args us vs Q E hr e b v q=>F.run A outer s H args us vs Q E hr e b v (h vs H Q E q)⟩
def spL (K:W.Frag):Sp:=fun vs H Q E => ∀ a,Dist a->spG K 1 (yu a) vs H Q E
theorem all_mk {l:W.OpenLaw} {w:World} {K:W.Frag} {h:Heap} {mg:Str->Option Value} {fa:Addr} (X:K.In h) (G:h.Ns mainGlobals mg) (hfa:mg "law" = some (.ref fa))
  {c_Z0 c_Z1 c_Z2 c_Z3 c_Z4 c_Z5 c_Z6 c_Z7 c_Z8 c_Z9 c_Z10 c_Z11 ff0 ff1 ff2 ff3 ff4 ff5 ff6 ff7 ff8 ff9 ff10 ff11 ff12 ff13 ff14 ff15 ff16 ff17:Addr}
  {t_LEAST_LENGTH:Tok}
  {t_MOST_LENGTH:Tok}
  {t_MOST_SIDE:Tok}
  {ddB:Option Addr} {cdB:ClassData} {slB:Array (Option Value)}
  {NB:Addr} {cNB:Value} {dNB:Option Addr} {esB:Array DictEntry} {epB:Nat} {sNB:Array (Option Value)}
  {xdd_Z1:Option Addr} {xcd_Z1:ClassData} {xsl_Z1:Array (Option Value)} {xk0_Z1 xk1_Z1 xk2_Z1 xk3_Z1 xk5_Z1:Option Value} {xN_Z1:Addr} {xc_Z1:Value} {xd2_Z1:Option Addr} {xes_Z1:Array DictEntry} {xep_Z1:Nat} {xs2_Z1:Array (Option Value)}
  {xdd_Z4:Option Addr} {xcd_Z4:ClassData} {xsl_Z4:Array (Option Value)} {xk0_Z4 xk1_Z4 xk2_Z4 xk3_Z4 xk5_Z4:Option Value} {xN_Z4:Addr} {xc_Z4:Value} {xd2_Z4:Option Addr} {xes_Z4:Array DictEntry} {xep_Z4:Nat} {xs2_Z4:Array (Option Value)}
  (aa0:W.nsIn K mainGlobals "is_whole" = some (some (.ref ff0)))
  (ll0:K.lookup ff0=some ⟨oc0,od0,.func (W.fnOf "is_whole" "is_whole" (qk wE) (qe wE) (qN wE) .none kV0 dc0 pm0 an0 cd0 ct0),sl0⟩)
  (dd0:W.codeIn K cd0 "is_whole" = true)
  (kk0:W.keepIn K (.ref ff0)=true)
  (aa1:W.nsIn K mainGlobals "is_whole_within" = some (some (.ref ff1)))
  (ll1:K.lookup ff1=some ⟨oc1,od1,.func (W.fnOf "is_whole_within" "is_whole_within" (qk qr) (qe qr) (qN qr) .none kV1 dc1 pm1 an1 cd1 ct1),sl1⟩)
  (dd1:W.codeIn K cd1 "is_whole_within" = true)
  (kk1:W.keepIn K (.ref ff1)=true)
  (aa2:W.nsIn K mainGlobals "is_length" = some (some (.ref ff2)))
  (ll2:K.lookup ff2=some ⟨oc2,od2,.func (W.fnOf "is_length" "is_length" (qk Q4) (qe Q4) (qN Q4) .none kV2 dc2 pm2 an2 cd2 ct2),sl2⟩)
  (dd2:W.codeIn K cd2 "is_length" = true)
  (kk2:W.keepIn K (.ref ff2)=true)
  (aa3:W.nsIn K mainGlobals "is_side" = some (some (.ref ff3)))
  (ll3:K.lookup ff3=some ⟨oc3,od3,.func (W.fnOf "is_side" "is_side" (qk wV) (qe wV) (qN wV) .none kV3 dc3 pm3 an3 cd3 ct3),sl3⟩)
  (dd3:W.codeIn K cd3 "is_side" = true)
  (kk3:W.keepIn K (.ref ff3)=true)
  (aa4:W.nsIn K mainGlobals "need_length" = some (some (.ref ff4)))
  (ll4:K.lookup ff4=some ⟨oc4,od4,.func (W.fnOf "need_length" "need_length" (qk QE) (qe QE) (qN QE) .none kV4 dc4 pm4 an4 cd4 ct4),sl4⟩)
  (dd4:W.codeIn K cd4 "need_length" = true)
  (kk4:W.keepIn K (.ref ff4)=true)
  (aa5:W.nsIn K mainGlobals "box_left" = some (some (.ref ff5)))
  (ll5:K.lookup ff5=some ⟨oc5,od5,.func (W.fnOf "box_left" "box_left" (qk Q0) (qe Q0) (qN Q0) .none kV5 dc5 pm5 an5 cd5 ct5),sl5⟩)
  (dd5:W.codeIn K cd5 "box_left" = true)
  (kk5:W.keepIn K (.ref ff5)=true)
  (aa6:W.nsIn K mainGlobals "_law_cell" = some (some (.ref ff6)))
  (ll6:K.lookup ff6=some ⟨oc6,od6,.func (W.fnOf "_law_cell" "_law_cell" (qk wF) (qe wF) (qN wF) .none kV6 dc6 pm6 an6 cd6 ct6),sl6⟩)
  (dd6:W.codeIn K cd6 "_law_cell" = true)
  (kk6:W.keepIn K (.ref ff6)=true)
  (aa7:W.nsIn K mainGlobals "_law_mix" = some (some (.ref ff7)))
  (ll7:K.lookup ff7=some ⟨oc7,od7,.func (W.fnOf "_law_mix" "_law_mix" (qk wU) (qe wU) (qN wU) .none kV7 dc7 pm7 an7 cd7 ct7),sl7⟩)
  (dd7:W.codeIn K cd7 "_law_mix" = true)
  (kk7:W.keepIn K (.ref ff7)=true)
  (aa8:W.nsIn K mainGlobals "_law_box" = some (some (.ref ff8)))
  (ll8:K.lookup ff8=some ⟨oc8,od8,.func (W.fnOf "_law_box" "_law_box" (qk wT) (qe wT) (qN wT) .none kV8 dc8 pm8 an8 cd8 ct8),sl8⟩)
  (dd8:W.codeIn K cd8 "_law_box" = true)
  (kk8:W.keepIn K (.ref ff8)=true)
  (aa9:W.nsIn K mainGlobals "_law_take" = some (some (.ref ff9)))
  (ll9:K.lookup ff9=some ⟨oc9,od9,.func (W.fnOf "_law_take" "_law_take" (qk Qx) (qe Qx) (qN Qx) .none kV9 dc9 pm9 an9 cd9 ct9),sl9⟩)
  (dd9:W.codeIn K cd9 "_law_take" = true)
  (kk9:W.keepIn K (.ref ff9)=true)
  (aa10:W.nsIn K mainGlobals "_law_cover" = some (some (.ref ff10)))
  (ll10:K.lookup ff10=some ⟨oc10,od10,.func (W.fnOf "_law_cover" "_law_cover" (qk Qb) (qe Qb) (qN Qb) .none kV10 dc10 pm10 an10 cd10 ct10),sl10⟩)
  (dd10:W.codeIn K cd10 "_law_cover" = true)
  (kk10:W.keepIn K (.ref ff10)=true)
  (aa11:W.nsIn K mainGlobals "_law_whole" = some (some (.ref ff11)))
  (ll11:K.lookup ff11=some ⟨oc11,od11,.func (W.fnOf "_law_whole" "_law_whole" (qk Q3) (qe Q3) (qN Q3) .none kV11 dc11 pm11 an11 cd11 ct11),sl11⟩)
  (dd11:W.codeIn K cd11 "_law_whole" = true)
  (kk11:W.keepIn K (.ref ff11)=true)
  (aa12:W.nsIn K mainGlobals "_law_odd" = some (some (.ref ff12)))
  (ll12:K.lookup ff12=some ⟨oc12,od12,.func (W.fnOf "_law_odd" "_law_odd" (qk wS) (qe wS) (qN wS) .none kV12 dc12 pm12 an12 cd12 ct12),sl12⟩)
  (dd12:W.codeIn K cd12 "_law_odd" = true)
  (kk12:W.keepIn K (.ref ff12)=true)
  (aa13:W.nsIn K mainGlobals "_law_best" = some (some (.ref ff13)))
  (ll13:K.lookup ff13=some ⟨oc13,od13,.func (W.fnOf "_law_best" "_law_best" (qk Qv) (qe Qv) (qN Qv) .none kV13 dc13 pm13 an13 cd13 ct13),sl13⟩)
  (dd13:W.codeIn K cd13 "_law_best" = true)
  (kk13:W.keepIn K (.ref ff13)=true)
  (aa14:W.nsIn K mainGlobals "_law_kind" = some (some (.ref ff14)))
  (ll14:K.lookup ff14=some ⟨oc14,od14,.func (W.fnOf "_law_kind" "_law_kind" (qk wD) (qe wD) (qN wD) .none kV14 dc14 pm14 an14 cd14 ct14),sl14⟩)
  (dd14:W.codeIn K cd14 "_law_kind" = true)
  (kk14:W.keepIn K (.ref ff14)=true)
  (aa15:W.nsIn K mainGlobals "_law_said" = some (some (.ref ff15)))
  (ll15:K.lookup ff15=some ⟨oc15,od15,.func (W.fnOf "_law_said" "_law_said" (qk Qz) (qe Qz) (qN Qz) .none kV15 dc15 pm15 an15 cd15 ct15),sl15⟩)
  (dd15:W.codeIn K cd15 "_law_said" = true)
  (kk15:W.keepIn K (.ref ff15)=true)
  (aa16:W.nsIn K mainGlobals "_law_words" = some (some (.ref ff16)))
  (ll16:K.lookup ff16=some ⟨oc16,od16,.func (W.fnOf "_law_words" "_law_words" (qk Qc) (qe Qc) (qN Qc) .none kV16 dc16 pm16 an16 cd16 ct16),sl16⟩)
  (dd16:W.codeIn K cd16 "_law_words" = true)
  (kk16:W.keepIn K (.ref ff16)=true)
  (aa17:W.nsIn K mainGlobals "law" = some (some (.ref ff17)))
  (ll17:K.lookup ff17=some ⟨oc17,od17,.func (W.fnOf "law" "law" (qk WI) (qe WI) (qN WI) .none kV17 dc17 pm17 an17 cd17 ct17),sl17⟩)
  (dd17:W.codeIn K cd17 "law" = true)
  (kk17:W.keepIn K (.ref ff17)=true)
  (n_ValueError:W.nsIn K mainGlobals "ValueError" = some none)
  (n_bool:W.nsIn K mainGlobals "bool" = some none)
  (n_divmod:W.nsIn K mainGlobals "divmod" = some none)
  (n_int:W.nsIn K mainGlobals "int" = some none)
  (n_isinstance:W.nsIn K mainGlobals "isinstance" = some none)
  (n_len:W.nsIn K mainGlobals "len" = some none)
  (n_max:W.nsIn K mainGlobals "max" = some none)
  (n_min:W.nsIn K mainGlobals "min" = some none)
  (n_range:W.nsIn K mainGlobals "range" = some none)
  (n_tuple:W.nsIn K mainGlobals "tuple" = some none)
  (g_LEAST_LENGTH:W.nsIn K mainGlobals "LEAST_LENGTH" = some (some (.int 2 t_LEAST_LENGTH)))
  (g_MOST_LENGTH:W.nsIn K mainGlobals "MOST_LENGTH" = some (some (.int 5 t_MOST_LENGTH)))
  (g_MOST_SIDE:W.nsIn K mainGlobals "MOST_SIDE" = some (some (.int 1000000000 t_MOST_SIDE)))
  (q_Z0:W.nsIn K mainGlobals "BarError" = some (some (.ref c_Z0)))
  (q_Z1:W.nsIn K mainGlobals "NoLength" = some (some (.ref c_Z1)))
  (q_Z2:W.nsIn K mainGlobals "NoNumber" = some (some (.ref c_Z2)))
  (q_Z3:W.nsIn K mainGlobals "NoBars" = some (some (.ref c_Z3)))
  (q_Z4:W.nsIn K mainGlobals "NoBox" = some (some (.ref c_Z4)))
  (q_Z5:W.nsIn K mainGlobals "NoWeights" = some (some (.ref c_Z5)))
  (q_Z6:W.nsIn K mainGlobals "NoSorts" = some (some (.ref c_Z6)))
  (q_Z7:W.nsIn K mainGlobals "NoTurn" = some (some (.ref c_Z7)))
  (q_Z8:W.nsIn K mainGlobals "NoPlace" = some (some (.ref c_Z8)))
  (q_Z9:W.nsIn K mainGlobals "NoText" = some (some (.ref c_Z9)))
  (q_Z10:W.nsIn K mainGlobals "NoRow" = some (some (.ref c_Z10)))
  (q_Z11:W.nsIn K mainGlobals "TooMany" = some (some (.ref c_Z11)))
  (oB:K.lookup c_Z0=some ⟨.type "type",ddB,.cls cdB,slB⟩)
  (nB:cdB.ns=NB)
  (oNB:K.lookup NB=some ⟨cNB,dNB,.dict esB epB,sNB⟩)
  (eNB:esB.toList.all yT=true)
  (iNB:W.nsIn K NB "__init__" = some none)
  (bB:W.mroIn K c_Z0 (.type "BaseException")=some true)
  (xl_Z1:K.lookup c_Z1=some ⟨.type "type",xdd_Z1,.cls xcd_Z1,xsl_Z1⟩)
  (xm_Z1:xcd_Z1.mro = .ref c_Z1 :: .ref c_Z0::bmV)
  (xs_Z1:xsl_Z1.toList=[xk0_Z1,xk1_Z1,xk2_Z1,xk3_Z1,some (.builtin "ValueError.__new__"),xk5_Z1])
  (xd_Z1:xcd_Z1.hasDel=false)
  (xn_Z1:xcd_Z1.ns=xN_Z1)
  (xo_Z1:K.lookup xN_Z1=some ⟨xc_Z1,xd2_Z1,.dict xes_Z1 xep_Z1,xs2_Z1⟩)
  (xe_Z1:xes_Z1.toList.all yT=true)
  (xi_Z1:W.nsIn K xN_Z1 "__init__" = some none)
  (e_Z1:W.mroIn K c_Z1 (.ref c_Z0)=some true)
  (v_Z1:W.kitOne K (.ref c_Z1) (.type "ValueError")=some true)
  (w_Z1_Z1:W.kitOne K (.ref c_Z1) (.ref c_Z1)=some true)
  (w_Z1_Z2:W.kitOne K (.ref c_Z1) (.ref c_Z2)=some false)
  (w_Z1_Z3:W.kitOne K (.ref c_Z1) (.ref c_Z3)=some false)
  (w_Z1_Z4:W.kitOne K (.ref c_Z1) (.ref c_Z4)=some false)
  (w_Z1_Z5:W.kitOne K (.ref c_Z1) (.ref c_Z5)=some false)
  (w_Z1_Z6:W.kitOne K (.ref c_Z1) (.ref c_Z6)=some false)
  (w_Z1_Z7:W.kitOne K (.ref c_Z1) (.ref c_Z7)=some false)
  (w_Z1_Z8:W.kitOne K (.ref c_Z1) (.ref c_Z8)=some false)
  (w_Z1_Z9:W.kitOne K (.ref c_Z1) (.ref c_Z9)=some false)
  (w_Z1_Z10:W.kitOne K (.ref c_Z1) (.ref c_Z10)=some false)
  (w_Z1_Z11:W.kitOne K (.ref c_Z1) (.ref c_Z11)=some false)
  (ga_Z1:W.findIn K (.ref c_Z1) "__getattribute__" = some (some (.builtin "BaseException.__getattribute__")))
  (gn_Z1:W.findIn K (.ref c_Z1) "__getattr__" = some none)
  (fo_Z1:∀ od,W.findObj K c_Z1 od "__class__" = some (.bind (.builtin "getset_descriptor.__get__") (.builtin "object.__class__")))
  (mo_Z1:W.mroIn K c_Z1 (.type "object")=some true)
  (mb_Z1:W.mroIn K c_Z1 (.type "BaseException")=some true)
  (xl_Z4:K.lookup c_Z4=some ⟨.type "type",xdd_Z4,.cls xcd_Z4,xsl_Z4⟩)
  (xm_Z4:xcd_Z4.mro = .ref c_Z4 :: .ref c_Z0::bmV)
  (xs_Z4:xsl_Z4.toList=[xk0_Z4,xk1_Z4,xk2_Z4,xk3_Z4,some (.builtin "ValueError.__new__"),xk5_Z4])
  (xd_Z4:xcd_Z4.hasDel=false)
  (xn_Z4:xcd_Z4.ns=xN_Z4)
  (xo_Z4:K.lookup xN_Z4=some ⟨xc_Z4,xd2_Z4,.dict xes_Z4 xep_Z4,xs2_Z4⟩)
  (xe_Z4:xes_Z4.toList.all yT=true)
  (xi_Z4:W.nsIn K xN_Z4 "__init__" = some none)
  (e_Z4:W.mroIn K c_Z4 (.ref c_Z0)=some true)
  (v_Z4:W.kitOne K (.ref c_Z4) (.type "ValueError")=some true)
  (w_Z4_Z1:W.kitOne K (.ref c_Z4) (.ref c_Z1)=some false)
  (w_Z4_Z2:W.kitOne K (.ref c_Z4) (.ref c_Z2)=some false)
  (w_Z4_Z3:W.kitOne K (.ref c_Z4) (.ref c_Z3)=some false)
  (w_Z4_Z4:W.kitOne K (.ref c_Z4) (.ref c_Z4)=some true)
  (w_Z4_Z5:W.kitOne K (.ref c_Z4) (.ref c_Z5)=some false)
  (w_Z4_Z6:W.kitOne K (.ref c_Z4) (.ref c_Z6)=some false)
  (w_Z4_Z7:W.kitOne K (.ref c_Z4) (.ref c_Z7)=some false)
  (w_Z4_Z8:W.kitOne K (.ref c_Z4) (.ref c_Z8)=some false)
  (w_Z4_Z9:W.kitOne K (.ref c_Z4) (.ref c_Z9)=some false)
  (w_Z4_Z10:W.kitOne K (.ref c_Z4) (.ref c_Z10)=some false)
  (w_Z4_Z11:W.kitOne K (.ref c_Z4) (.ref c_Z11)=some false)
  (ga_Z4:W.findIn K (.ref c_Z4) "__getattribute__" = some (some (.builtin "BaseException.__getattribute__")))
  (gn_Z4:W.findIn K (.ref c_Z4) "__getattr__" = some none)
  (fo_Z4:∀ od,W.findObj K c_Z4 od "__class__" = some (.bind (.builtin "getset_descriptor.__get__") (.builtin "object.__class__")))
  (mo_Z4:W.mroIn K c_Z4 (.type "object")=some true)
  (mb_Z4:W.mroIn K c_Z4 (.type "BaseException")=some true)
  (ds:Dist ⟨c_Z0,c_Z1,c_Z2,c_Z3,c_Z4,c_Z5,c_Z6,c_Z7,c_Z8,c_Z9,c_Z10,c_Z11,ff0,ff1,ff2,ff3,ff4,ff5,ff6,ff7,ff8,ff9,ff10,ff11,ff12,ff13,ff14,ff15,ff16,ff17⟩) :
  ∃ fd:FuncData,(∀ (s:Shared) (v:Value),BindsTo s fd ⟨[v],[]⟩ [("_law_script",v)]) ∧ ∀ base:Heap,K.In base->base.Ns mainGlobals mg->FnOk l.prog w K mg base (CXF l.prog w) 8 fa fd ["_law_script"] (spL K):=by
 have e:ff17=fa:=Value.ref.inj (AS ((AR X G aa17).symm.trans hfa))
 subst e
 have V:Env K mg ⟨c_Z0,c_Z1,c_Z2,c_Z3,c_Z4,c_Z5,c_Z6,c_Z7,c_Z8,c_Z9,c_Z10,c_Z11,ff0,ff1,ff2,ff3,ff4,ff5,ff6,ff7,ff8,ff9,ff10,ff11,ff12,ff13,ff14,ff15,ff16,ff17⟩:=by
  refine { kit:=⟨fun t c b hk => ?_,fun x c b hk => ?_⟩,n_ValueError:=Au X G n_ValueError,n_bool:=Au X G n_bool,n_divmod:=Au X G n_divmod,n_int:=Au X G n_int,n_isinstance:=Au X G n_isinstance,n_len:=Au X G n_len,n_max:=Au X G n_max,n_min:=Au X G n_min,n_range:=Au X G n_range,n_tuple:=Au X G n_tuple,c_LEAST_LENGTH:=⟨_,AR X G g_LEAST_LENGTH⟩,c_MOST_LENGTH:=⟨_,AR X G g_MOST_LENGTH⟩,c_MOST_SIDE:=⟨_,AR X G g_MOST_SIDE⟩,k_Z0:=AR X G q_Z0,k_Z1:=AR X G q_Z1,k_Z2:=AR X G q_Z2,k_Z3:=AR X G q_Z3,k_Z4:=AR X G q_Z4,k_Z5:=AR X G q_Z5,k_Z6:=AR X G q_Z6,k_Z7:=AR X G q_Z7,k_Z8:=AR X G q_Z8,k_Z9:=AR X G q_Z9,k_Z10:=AR X G q_Z10,k_Z11:=AR X G q_Z11,x_Z1:=qBB xl_Z1 xm_Z1 xs_Z1 xd_Z1 (by rw [xn_Z1];exact zk xo_Z1 xe_Z1) (by rw [xn_Z1];exact xi_Z1) oB (by rw [nB];exact zk oNB eNB) (by rw [nB];exact iNB),e_Z1:=e_Z1,x_Z4:=qBB xl_Z4 xm_Z4 xs_Z4 xd_Z4 (by rw [xn_Z4];exact zk xo_Z4 xe_Z4) (by rw [xn_Z4];exact xi_Z4) oB (by rw [nB];exact zk oNB eNB) (by rw [nB];exact iNB),e_Z4:=e_Z4,o_Z0:=⟨_,_,_,oB⟩,b_Z0:=bB,m_is_whole:=AR X G aa0,f_is_whole:=⟨_,QQ (st:=wE) ll0 dd0 kk0⟩,m_is_whole_within:=AR X G aa1,f_is_whole_within:=⟨_,QQ (st:=qr) ll1 dd1 kk1⟩,m_is_length:=AR X G aa2,f_is_length:=⟨_,QQ (st:=Q4) ll2 dd2 kk2⟩,m_is_side:=AR X G aa3,f_is_side:=⟨_,QQ (st:=wV) ll3 dd3 kk3⟩,m_need_length:=AR X G aa4,f_need_length:=⟨_,QQ (st:=QE) ll4 dd4 kk4⟩,m_box_left:=AR X G aa5,f_box_left:=⟨_,QQ (st:=Q0) ll5 dd5 kk5⟩,m_law_cell:=AR X G aa6,f_law_cell:=⟨_,QQ (st:=wF) ll6 dd6 kk6⟩,m_law_mix:=AR X G aa7,f_law_mix:=⟨_,QQ (st:=wU) ll7 dd7 kk7⟩,m_law_box:=AR X G aa8,f_law_box:=⟨_,QQ (st:=wT) ll8 dd8 kk8⟩,m_law_take:=AR X G aa9,f_law_take:=⟨_,QQ (st:=Qx) ll9 dd9 kk9⟩,m_law_cover:=AR X G aa10,f_law_cover:=⟨_,QQ (st:=Qb) ll10 dd10 kk10⟩,m_law_whole:=AR X G aa11,f_law_whole:=⟨_,QQ (st:=Q3) ll11 dd11 kk11⟩,m_law_odd:=AR X G aa12,f_law_odd:=⟨_,QQ (st:=wS) ll12 dd12 kk12⟩,m_law_best:=AR X G aa13,f_law_best:=⟨_,QQ (st:=Qv) ll13 dd13 kk13⟩,m_law_kind:=AR X G aa14,f_law_kind:=⟨_,QQ (st:=wD) ll14 dd14 kk14⟩,m_law_said:=AR X G aa15,f_law_said:=⟨_,QQ (st:=Qz) ll15 dd15 kk15⟩,m_law_words:=AR X G aa16,f_law_words:=⟨_,QQ (st:=Qc) ll16 dd16 kk16⟩,m_law:=AR X G aa17,f_law:=⟨_,QQ (st:=WI) ll17 dd17 kk17⟩ }
  ·have hnd:=ds.nd
   unfold kit at hk
   split at hk
   ·exact qCM hk
   ·split at hk
    ·rename_i x d hx
     cases hk
     have hx1:=hx.1
     have hx2:=hx.2
     unfold QH at hx1
     unfold Ad.kinds at hx2
     simp only [AL,Aq,Bk] at hx1 hx2
     rcases hx1 with e1 |e1
     ·rcases hx2 with e2 |e2 |e2 |e2 |e2 |e2 |e2 |e2 |e2 |e2 |e2
      ·rw [e1,e2,Al];exact w_Z1_Z1
      ·rw [e1,e2,show (c_Z1==c_Z2)=false from AC.mpr (qi ds).1];exact w_Z1_Z2
      ·rw [e1,e2,show (c_Z1==c_Z3)=false from AC.mpr (qi ds).2.1];exact w_Z1_Z3
      ·rw [e1,e2,show (c_Z1==c_Z4)=false from AC.mpr (qi ds).2.2.1];exact w_Z1_Z4
      ·rw [e1,e2,show (c_Z1==c_Z5)=false from AC.mpr (qi ds).2.2.2.1];exact w_Z1_Z5
      ·rw [e1,e2,show (c_Z1==c_Z6)=false from AC.mpr (qi ds).2.2.2.2.1];exact w_Z1_Z6
      ·rw [e1,e2,show (c_Z1==c_Z7)=false from AC.mpr (qi ds).2.2.2.2.2.1];exact w_Z1_Z7
      ·rw [e1,e2,show (c_Z1==c_Z8)=false from AC.mpr (qi ds).2.2.2.2.2.2.1];exact w_Z1_Z8
      ·rw [e1,e2,show (c_Z1==c_Z9)=false from AC.mpr (qi ds).2.2.2.2.2.2.2.1];exact w_Z1_Z9
      ·rw [e1,e2,show (c_Z1==c_Z10)=false from AC.mpr (qi ds).2.2.2.2.2.2.2.2.1];exact w_Z1_Z10
      ·rw [e1,e2,show (c_Z1==c_Z11)=false from AC.mpr (qi ds).2.2.2.2.2.2.2.2.2];exact w_Z1_Z11
     ·rcases hx2 with e2 |e2 |e2 |e2 |e2 |e2 |e2 |e2 |e2 |e2 |e2
      ·rw [e1,e2,show (c_Z4==c_Z1)=false from AC.mpr (QI ds).1];exact w_Z4_Z1
      ·rw [e1,e2,show (c_Z4==c_Z2)=false from AC.mpr (QI ds).2.1];exact w_Z4_Z2
      ·rw [e1,e2,show (c_Z4==c_Z3)=false from AC.mpr (QI ds).2.2.1];exact w_Z4_Z3
      ·rw [e1,e2,Al];exact w_Z4_Z4
      ·rw [e1,e2,show (c_Z4==c_Z5)=false from AC.mpr (QI ds).2.2.2.1];exact w_Z4_Z5
      ·rw [e1,e2,show (c_Z4==c_Z6)=false from AC.mpr (QI ds).2.2.2.2.1];exact w_Z4_Z6
      ·rw [e1,e2,show (c_Z4==c_Z7)=false from AC.mpr (QI ds).2.2.2.2.2.1];exact w_Z4_Z7
      ·rw [e1,e2,show (c_Z4==c_Z8)=false from AC.mpr (QI ds).2.2.2.2.2.2.1];exact w_Z4_Z8
      ·rw [e1,e2,show (c_Z4==c_Z9)=false from AC.mpr (QI ds).2.2.2.2.2.2.2.1];exact w_Z4_Z9
      ·rw [e1,e2,show (c_Z4==c_Z10)=false from AC.mpr (QI ds).2.2.2.2.2.2.2.2.1];exact w_Z4_Z10
      ·rw [e1,e2,show (c_Z4==c_Z11)=false from AC.mpr (QI ds).2.2.2.2.2.2.2.2.2];exact w_Z4_Z11
    ·cases hk
   ·split at hk
    ·rename_i x T hx
     cases hk
     have hx1:=hx.1
     have hx2:=hx.2
     subst hx2
     unfold QH at hx1
     simp only [AL,Aq,Bk] at hx1
     rcases hx1 with e1 |e1
     ·rw [e1];exact v_Z1
     ·rw [e1];exact v_Z4
    ·cases hk
   ·cases hk
  ·have hm:=qCr hk
   unfold QH at hm
   simp only [AL,Aq,Bk] at hm
   rcases hm with e1 |e1
   ·rw [e1];exact ⟨ga_Z1,gn_Z1,fo_Z1,mo_Z1,mb_Z1⟩
   ·rw [e1];exact ⟨ga_Z4,gn_Z4,fo_Z4,mo_Z4,mb_Z4⟩
 refine ⟨W.fnOf "law" "law" (qk WI) (qe WI) (qN WI) .none kV17 dc17 pm17 an17 cd17 ct17,fun s v => .of_eq rfl,fun base _ _ => ?_⟩
 exact qCl (qFU V (QQ (st:=WI) ll17 dd17 kk17)) fun vs H Q E q=>q _ ds
theorem qAn {l:W.OpenLaw} {n k:Nat} {q:Program} {loose:List Str} {XP:(Str->Option Value)->Heap->Prop} {YP:World->Heap->Prop} {d:DefRec} {K:Params->W.Frag} {CX:World->CXT} {sp:World->Sp} {x:Str}
  (hn:l.most=some n) (hn2:n≤sizeLine) (hdf:d.params.defaults=[]) (hr:Room k callerA)
  (hY:∀ (w:World) (h:Heap),YP w h->(K w.params).In h)
  (F:∀ (w:World) (mg:Str->Option Value) (fa:Addr) (h:Heap),(K w.params).In h->h.Ns mainGlobals mg->XP mg h->mg d.name=some (.ref fa) ->
   ∃ fd:FuncData,(∀ (s:Shared) (u:Value),BindsTo s fd ⟨[u],[]⟩ [(x,u)]) ∧
    ∀ base:Heap,(K w.params).In base->base.Ns mainGlobals mg->FnOk l.prog w (K w.params) mg base (CX w) k fa fd [x] (sp w))
  (hsp:∀ (w:World) (H:Hp) (a:Addr) (ns:List Int),ns.length≤n->(∀ k∈ns,Builtin.Int.intBits k≤2 ^ 20)->qDj H->SqL (K w.params) H a (ns.map V.int)->sp w [.ref a] H (fun v _=>v = .bl true) fun _ _ _=>False)
  (hCX:∀ (w:World) (H:Hp) (s:Shared) (e:Value) (s':Shared),CX w [] H s (fun _ _ _=>False) e s'->False) :
  W.WalkO q loose XP YP l.row.toRowW d [] (fun f vs=>PySem.call f vs):=by
 refine Att.attach_callB hn hdf fun w s₀ s₁ mg mb fa o pm cd doc a vs ns G Y ho hd hcd hmg hobj hints hlen hbits hg => ?_
 have KX:=hY w _ Y
 obtain ⟨fd,hb,hF⟩:=F w mg fa _ KX G.T.g G.X hmg
 exact qAY KX G.T.g G.T.b G.T.builtins G.T.nolimit hg hobj hints (AV hlen hn2) hr hF hb (fun H hO hS=>hsp w H a ns hlen hbits hO hS) fun H e s'=>hCX w H s₁ e s'
theorem yr {K:W.Frag} {H:Hp} {b:Bz}:∀ ns:List Int,RVs K H b (ns.map PV.int) (ns.map V.int)
 |[]=>RVs.nil
 |n::ns=>RVs.cons Qe (yr ns)
theorem qAk (key:∀ (a:Ad) (ns:List Int),Dist a->ns.length≤63->(∀ k∈ns,Builtin.Int.intBits k≤2 ^ 20) -> ∃ st,yu a [.lst (ns.map PV.int)] [] = .ok (.bl true) st) {K:W.Frag} {H:Hp} {a:Addr} {ns:List Int} (hl:ns.length≤63) (hb:∀ k∈ns,Builtin.Int.intBits k≤2 ^ 20) (hS:SqL K H a (ns.map V.int)):spL K [.ref a] H (fun v _=>v = .bl true) fun _ _ _=>False:=by
 intro ad hd
 obtain ⟨st,e⟩:=key ad ns hd hl hb
 refine ⟨rfl,⟨[],[]⟩,[.lst (ns.map PV.int)],[],⟨rfl,List.nodup_nil,fun i x h=>by simp at h,fun a ha=>(Aq ha).elim,fun a ha=>(Aq ha).elim⟩,RVs.cons ?_ RVs.nil,?_⟩
 ·unfold RV
  exact ⟨a,_,rfl,hS.imp (fun h=>⟨h,Aq,Aq⟩) id,yr ns⟩
 ·rw [e]
  intro v H' b' _ _ r
  unfold RV at r
  exact r
theorem walk31 (key:∀ (a:Ad) (ns:List Int),Dist a->ns.length≤63->(∀ k∈ns,Builtin.Int.intBits k≤2 ^ 20) -> ∃ st,yu a [.lst (ns.map PV.int)] [] = .ok (.bl true) st) {l:W.OpenLaw} {q:Program} {loose:List Str} {XP:(Str->Option Value)->Heap->Prop} {YP:World->Heap->Prop} {d:DefRec} {K:Params->W.Frag} (hn:l.most=some 63) (hdf:d.params.defaults=[])
  (hY:∀ (w:World) (h:Heap),YP w h->(K w.params).In h)
  (F:∀ (w:World) (mg:Str->Option Value) (fa:Addr) (h:Heap),(K w.params).In h->h.Ns mainGlobals mg->XP mg h->mg d.name=some (.ref fa) ->
   ∃ fd:FuncData,(∀ (s:Shared) (u:Value),BindsTo s fd ⟨[u],[]⟩ [("_law_script",u)]) ∧ ∀ base:Heap,(K w.params).In base->base.Ns mainGlobals mg->FnOk l.prog w (K w.params) mg base (CXF l.prog w) 8 fa fd ["_law_script"] (spL (K w.params))) :
  W.WalkO q loose XP YP l.row.toRowW d [] (fun f vs=>PySem.call f vs) :=
 qAn (n:=63) (k:=8) (x := "_law_script") (CX:=fun w=>CXF l.prog w) (sp:=fun w=>spL (K w.params)) hn (by decide) hdf ⟨fun _=>rfl,by decide,by decide,rfl⟩ hY F (fun _ _ a ns hl hb _ hS=>qAk key hl hb hS) fun _ _ _ _ _ z=>by
  obtain ⟨_,_,_,_,_,_,_,_,_,_,_,_,q⟩:=z
  exact q
end K44
end
section
namespace PySem.W.Fast
def tw10708442557537267972:=0
def tw11973052454475198276:=0
def tw5199307906373751628:=0
def tw612773003435018317:=0
def tw7327587136156866025:=0
def tw16290421454235074068:=0
def tw972852675386610158:=0
def tw7483434472373797716:=0
def tw3325413544396335796:=0
def tw13383298629532013086:=0
def tw16081691804398535991:=0
def tw9480505578525808839:=0
def tw1344714887086868974:=0
def tw15861987939563100594:=0
def tw9729093591864213976:=0
def tw1893052666044204218:=0
def tw4709078654167293546:=0
def tw838606027536007556:=0
def tw9309697949099288523:=0
def tw5123825069616025028:=0
def tw9533846849819706597:=0
def tw6407531026922680616:=0
def tw7062005615821541573:=0
def tw10336897038486076658:=0
def tw3201362380036941596:=0
def tw3524110046766326851:=0
def tw18208377030136661583:=0
def tw17932627844402569215:=0
def tw817945351757042489:=0
def tw2887942934414807103:=0
def tw826220372949241740:=0
def tw7542826502833245957:=0
def tw15605017778195001259:=0
def tw4367884541015656411:=0
end PySem.W.Fast
open PySem PySem.W PyProof.Rows
set_option maxRecDepth 100000 in
set_option maxHeartbeats 0 in
theorem PySem.Challenge.cw_barfloors_k44_what_boxes_leave_holds : PySem.Challenge.rw_barfloors_k44_what_boxes_leave.Holds := by
  w_on; o_law; k_head; (case hw => w_witness2)
  k_fill
  refine K44.walk31 K44.law_true (l := PySem.Challenge.rw_barfloors_k44_what_boxes_leave) rfl rfl (fun w h Y => PySem.W.kIn_of Y) ?F
  case F =>
    intro w mg fa h KX G XX hmg
    refine' K44.all_mk KX G hmg ?zzA ?zzB ?zzC ?zzD ?zzE ?zzF ?zzG ?zzH ?zzI ?zzJ ?zzK ?zzL ?zzM ?zzN ?zzO ?zzP ?zzQ ?zzR ?zzS ?zzT ?zzU ?zzV ?zzW ?zzX ?zzY ?zzZ ?zza ?zzb ?zzc ?zzd ?zze ?zzf ?zzg ?zzh ?zzi ?zzj ?zzk ?zzl ?zzm ?zzn ?zzo ?zzp ?zzq ?zzr ?zzs ?zzt ?zzu ?zzv ?zzw ?zzx ?zzy ?zzz ?zyA ?zyB ?zyC ?zyD ?zyE ?zyF ?zyG ?zyH ?zyI ?zyJ ?zyK ?zyL ?zyM ?zyN ?zyO ?zyP ?zyQ ?zyR ?zyS ?zyT ?zyU ?zyV ?zyW ?zyX ?zyY ?zyZ ?zya ?zyb ?zyc ?zyd ?zye ?zyf ?zyg ?zyh ?zyi ?zyj ?zyk ?zyl ?zym ?zyn ?zyo ?zyp ?zyq ?zyr ?zys ?zyt ?zyu ?zyv ?zyw ?zyx ?zyy ?zyz ?zxA ?zxB ?zxC ?zxD ?zxE ?zxF ?zxG ?zxH ?zxI ?zxJ ?zxK ?zxL ?zxM ?zxN ?zxO ?zxP ?zxQ ?zxR ?zxS ?zxT ?zxU ?zxV ?zxW ?zxX ?zxY ?zxZ ?zxa ?zxb ?zxc ?zxd ?zxe ?zxf ?zxg ?zxh ?zxi ?zxj ?zxk ?zxl ?zxm ?zxn ?zxo ?zxp ?zxq ?zxr ?zxs ?zxt ?zxu ?zxv ?zxw ?zxx ?zxy ?zxz
    (case zzA|zzB|zzC|zzD|zzE|zzF|zzG|zzH|zzI|zzJ|zzK|zzL|zzM|zzN|zzO|zzP|zzQ|zzR|zzS|zzT|zzU|zzV|zzW|zzX|zzY|zzZ|zza|zzb|zzc|zzd|zze|zzf|zzg|zzh|zzi|zzj|zzk|zzl|zzm|zzn|zzo|zzp|zzq|zzr|zzs|zzt|zzu|zzv|zzw|zzx|zzy|zzz|zyA|zyB|zyC|zyD|zyE|zyF|zyG|zyH|zyI|zyJ|zyK|zyL|zyM|zyN|zyO|zyP|zyQ|zyR|zyS|zyT|zyU|zyV|zyW|zyX|zyY|zyZ|zya|zyb|zyc|zyd|zye|zyf|zyg|zyh|zyi|zyj|zyk|zyl|zym|zyn|zyo|zyp|zyq|zyr|zys|zyt => k_is)
    (case zyu => rfl)
    (case zyv => k_is)
    (case zyw => rfl)
    (case zyx|zyy|zyz => k_is)
    (case zxA|zxB|zxC|zxD => rfl)
    (case zxE => k_is)
    (case zxF => rfl)
    (case zxG|zxH => k_is)
    (case zxI|zxJ|zxK|zxL|zxM|zxN|zxO|zxP|zxQ|zxR|zxS|zxT => rfl)
    (case zxU|zxV => k_is)
    (case zxW => (intro od; rfl))
    (case zxX|zxY|zxZ => k_is)
    (case zxa|zxb|zxc|zxd => rfl)
    (case zxe => k_is)
    (case zxf => rfl)
    (case zxg|zxh => k_is)
    (case zxi|zxj|zxk|zxl|zxm|zxn|zxo|zxp|zxq|zxr|zxs|zxt => rfl)
    (case zxu|zxv => k_is)
    (case zxw => (intro od; rfl))
    (case zxx|zxy => k_is)
    (case zxz => decide)
end
