import PyProof.Rows.All
import Wide.All
import OpenK.AllK
import Wide.FinOn
import PyProof.EqAt
import PyProof.EqKinds
import PyProof.TupleCall
import Lean
import PyProof.NeKinds
import PyProof.Rows.RuleDivmod
import PyProof.Rows.FactsN_divmod
import PyProof.DictItems
import KE.KPairComp
import PyProof.Draws
import PyProof.IsRules
import KE.KDictList
import KE.KItemsList
import PySem.Challenge.RW_barfloors_k51_signed_fillings_looked_at
abbrev KQ:=List
abbrev KR:=PySem.Value
abbrev KS:=PySem.Shared
abbrev KU:=PySem.Addr
abbrev KW:=Option
abbrev KY:=PySem.W.Frag
abbrev KZ:=PySem.Program
abbrev K0:=PySem.World
abbrev K1:=PySem.Around
abbrev K2:=PySem.Expr
abbrev K3:=Array
def AA:=@PySem.wpAny_bind
def AB:=@PySem.wpAny_pure
def AC:=@PySem.Heap.get?_push_of_some
def AD:=@if_neg
def AE:=@if_pos
def AF:=@List.length_map
def AG:=@Nat.le_refl
def AH:=@List.mem_cons_of_mem
def AI:=@List.mem_cons_self
def AJ:=@List.getElem?_eq_getElem
def AK:=@List.mem_cons
def AL:=@PySem.Heap.lt_size
def AM:=@List.map_cons
def AN:=@Array.getElem?_eq_getElem
def AO:=@List.length_cons
def AQ:=@Array.getD_eq_getD_getElem?
def AR:=@PySem.Heap.get?_push_size
def AS:=@decide_eq_true
def AT:=@List.getElem?_eq_some_iff
def AU:=@decide_eq_false
def AV:=@PySem.Heap.get?_update_other
def AW:=@Array.length_toList
def AX:=@List.size_toArray
def AY:=@Bool.and_eq_true
def AZ:=@List.mem_map
def Aa:=@Nat.ne_of_lt
def Ab:=@Nat.le_trans
def Ac:=@List.length_append
def Ae:=@PySem.W.mg_of
def Af:=@List.mem_singleton
def Ag:=@beq_eq_false_iff_ne
def Ah:=@List.map_map
def Ai:=@List.map_congr_left
def Aj:=@Option.some.inj
def Ak:=@List.not_mem_nil
def Al:=@Nat.lt_of_le_of_lt
def Am:=@List.getElem?_map
def An:=@List.getElem?_append_left
def Ao:=@List.getD_eq_getElem?_getD
def Ap:=@List.mem_of_getElem?
def Aq:=@PySem.wpAny_holding
def Ar:=@PySem.wpAny_of_eq
def As:=@PySem.wpAny_call_entry
def At:=@List.mem_append
def Au:=@Nat.zero_le
def Av:=@PySem.Heap.get?_update_self
def Aw:=@List.all_eq_true
def Ax:=@Nat.lt_of_lt_of_le
def Ay:=@decide_eq_true_iff
def Az:=@of_decide_eq_true
def A0:=@PySem.wpAny_callSpecial?_slot
def A1:=@beq_self_eq_true
def A2:=@List.length_singleton
def A3:=@PySem.wpAny_newObj_type
def A4:=@Bool.false_eq_true
def A5:=@Array.getElem?_toList
def A6:=@Bool.false_ne_true
def A7:=@PySem.W.mg_none_of
def A8:=@Nat.add_le_add_left
def A9:=@PySem.wpAny_field
def BA:=@List.getElem?_append_right
def BB:=@List.lookup_cons
def BC:=@Int.toNat_natCast
def BE:=@PySem.wpAny_typeNameOfWhole_itemiter
def BF:=@PySem.wpAny_setState_of
def BG:=@Array.getElem?_eq_some_iff
def BH:=@PySem.F.slot_dict_itemiterator_next
def BI:=@List.filterMap_cons
def BJ:=@List.append_nil
def BK:=@List.map_append
def BL:=@PySem.wpAny_isInstance
def BM:=@List.mem_range
def BN:=@PySem.Obj.data_mapFields
def BO:=@List.mem_append_right
def BP:=@Nat.not_lt_zero
def BQ:=@if_false
def BR:=@Nat.lt_succ_of_lt
def BS:=@PySem.wpAny_typeNameOf_itemiter
def BT:=@List.getElem?_set_self
def BU:=@PySem.wpAny_fieldsOf
def BV:=@PySem.codeAny_builtin
def BW:=@List.find?_cons
def BX:=@List.length_take
def BY:=@List.append_assoc
def BZ:=@PyProof.Rows.slot_tuple_getitem
def Ba:=@PySem.wpAny_setField
def Bb:=@List.getElem?_set_ne
def Bc:=@PySem.wpAny_mono
def Bd:=@List.nodup_cons
def Be:=@beq_iff_eq
def Bf:=@List.getElem?_of_mem
def Bg:=@PySem.wpAny_isOneOf_itemiter
def Bh:=@PySem.wpAny_attempt
def Bi:=@Bool.and_false
def Bj:=@List.mem_filter
def Bk:=@PySem.sizeLine_eq
def Bl:=@List.zip_cons_cons
def Bm:=@List.pairwise_cons
def Bn:=@List.length_drop
def Bo:=@PySem.Around.under_plainId
def Bp:=@PySem.wpAny_typeOf
def Bq:=@Bool.eq_iff_iff
def Bs:=@List.getElem?_eq_none
def Bt:=@Nat.ne_of_gt
def Bu:=@PySem.Calls.spliced_cons
def Bv:=@PySem.wpAny_Call_Name_kw
def Bw:=@Nat.lt_irrefl
def By:=@PySem.wpAny_dictEntries
def B1:=@List.pairwise_map
def B2:=@PyProof.Rows.callWith_type1
def B3:=@PyProof.Rows.KeyOrd.kle_refl
def B4:=@PySem.mem_of_lookup
def B5:=@Int.lt_irrefl
def B6:=@PySem.Obj.isFreed_of_fields
def B7:=@PySem.Heap.size_push
def B8:=@PySem.wpAny_setField_rec
def B9:=@PySem.F.plain_extend_loop
def CA:=@PySem.F.args_dict_itemiterator_next_1
def CB:=@PyProof.Rows.callWith_builtin1
def CC:=@PySem.wpAny_dictEpoch
def CD:=@PySem.F.entry_dict_itemiterator_next
def CF:=@List.mem_of_mem_drop
def CG:=@PySem.Calls.spliced_nil
def CH:=@PySem.wpAny_newList
def CI:=@PySem.wpAny_typeNameOfWhole_keyiter
def CJ:=@List.getElem?_replicate
def CK:=@congrArg
def CL:=@PySem.F.slot_dict_keyiterator_next
def CM:=@PySem.Heap.size_update
def CN:=@or_false
def CP:=@Array.getElem?_eq_none
def CQ:=@List.take_of_length_le
def CS:=@PyProof.Rows.assignInOrder_cons
def CT:=@List.length_nil
def CU:=@beq_false_of_ne
def CV:=@PySem.pushCells_keeps
def CW:=@List.take_append_drop
def CY:=@PySem.wpAny_updateSeq
def CZ:=@List.set_append_right
def Ca:=@List.length_filter_le
def Cb:=@PySem.wpAny_standAt
def Cc:=@Array.perm_iff_toList_perm
def Cd:=@List.pairwise_iff_getElem
def Ce:=@List.mem_of_mem_take
def Cf:=@List.map_id
def Cg:=@PySem.isSubtype_stop
def Ci:=@Bool.false_and
def Cj:=@List.nodup_nil
def Ck:=@List.take_succ_eq_append_getElem
def Cm:=@PySem.wpAny_askSetting
def Cn:=@PySem.wpAny_comprehension_free
def Co:=@PySem.wpAny_typeNameOf_keyiter
def Cp:=@Int.add_zero
def Cq:=@PySem.F.slot_dict_items
def Cr:=@if_true
def Cs:=@Bool.and_true
def Ct:=@PySem.plainId_quiet
def Cu:=@PySem.wpAny_rule
def Cv:=@PySem.wpAny_call
def Cw:=@PySem.Calls.callWith_builtin
def Cy:=@PySem.Obj.cls_mapFields
def Cz:=@PySem.wpAny_truthy_bool
def C0:=@PySem.wpAny_pyIter_slot
def C1:=@Nat.le_of_lt_succ
def C2:=@PyProof.Rows.KeyOrd.kle_of_klt
def C3:=@List.flatMap_cons
def C4:=@List.Pairwise.map
def C5:=@Nat.le_of_ble_eq_true
def C6:=@PySem.codeAny_call_builtin
def C7:=@List.take_length
def C8:=@PyProof.Rows.KeyOrd.kle_trans
def C9:=@Nat.succ_le_succ
def DA:=@List.getElem_mem
def DB:=@Bool.true_and
def DC:=@Prod.mk.inj
def DD:=@Nat.le_succ
def DF:=@PySem.wpAny_specialOf
def DG:=@List.foldl_cons
def DH:=@Nat.lt_trans
def DI:=@Nat.le_of_lt
def DJ:=@List.mem_filterMap
def DK:=@LawfulBEq.eq_of_beq
def DL:=@Nat.sub_self
def DM:=@PySem.wpAny_runValue
def DN:=@PySem.wpAny_seqItems
def DO:=@PySem.wpAny_bindName
def DP:=@Prod.ext
set_option Elab.async false
set_option linter.all false
set_option maxRecDepth 100000
set_option maxHeartbeats 0
section
namespace EX
open PySem PySem.Spec PyProof.Rows
def GD:entryFor table "proto.unchain" = some Builtin.«proto.unchain» :=entryFor_of_fast (by kernel_rfl)
def Hnd(A:K1)(h:Heap):Prop:=∀v,A.handled=some v->∃F I vs,v=Value.ref F∧h.get? F=some I∧I.data= .fields vs∧vs[2]? = some .none
section
variable{prog:KZ}{w:K0}{A:K1}{E:KR->KS->Prop}{s:KS}
def EL{e v:KR}{F:KU}{oe:Obj}{vs:K3 KR}{Q:KR->KS->Prop}(I:s.heap.get? F=some oe)(hd:oe.data= .fields vs)(M:vs[2]? = some .none)(O:Q .none s) :
  wpAny (model prog w) A (runValue (.builtin "proto.unchain" ⟨[e,.ref F,v,.bool false],[]⟩)) Q E s:=by
 refine DM (BV GD ?_);unfold Builtin.«proto.unchain»;dsimp only;refine AA (A9 I hd M ?_);rw[AE (show (Value.none==Value.none)=true by rfl)];refine AA (AB (AB ?_));exact O
def D2{α:Type}{e:KU}{oe:Obj}{vs:K3 KR}{Q:α->KS->Prop}(U:Hnd A s.heap)(he:s.heap.get? e=some oe)(hd:oe.data= .fields vs)(hsz:2<vs.size)(M:∀F,A.handled=some (.ref F)->F≠e)
  (h:∀h' o',Heap.SameBut e s.heap h'->h'.get? e=some o'->o'.cls=oe.cls->E (.ref e) { s with heap:=h' }):wpAny (model prog w) A (raiseNew (.ref e):Sem α) Q E s:=by
 unfold raiseNew;refine AA (wpAny_handled ?_);cases R:A.handled with
 |none=>exact AA (AB (wpAny_throw (h s.heap oe (.refl ..) he rfl)))
 |some v =>
  obtain⟨F,o,ws,rfl,Y,O,Z⟩:=U v R;have I:=M F R;have hb:(Value.ref F != Value.ref e)=true:=by rw[bne_iff_ne];intro z;cases z;exact I rfl
  dsimp only;rw[AE hb];refine AA (Aq (EL Y O Z ?_));refine AA (Ba (x:=Value.ref F) he hd hsz (wpAny_throw ?_));exact h _ _ (Heap.SameBut.update ..) (Av _ he (B6 (BN hd _))) (Cy ..)
def wm{α:Type}{Q:α->KS->Prop}(U:Hnd A s.heap)(h:∀h' e,(∀b o,s.heap.get? b=some o->h'.get? b=some o)->(∃o',h'.get? e=some o'∧o'.cls= .type "StopIteration")->E (.ref e) { s with heap:=h' }) :
  wpAny (model prog w) A (newExc (.type "StopIteration") [] >>= fun e=>(raiseNew e:Sem α)) Q E s:=by
 refine AA ?_;unfold newExc newTuple;refine AA (A3 ?_ (by size_fits));refine AA (m:=firstArgMember _ _) (Ar (a:=Value.none) (by first|rfl|(simp only[firstArgMember];rfl)) ?_);refine A3 ?_ (by size_fits);have Y:∀{b o},s.heap.get? b=some o->((s.heap.push { cls:=.type "tuple",data:=.seq ([]:KQ KR).toArray }).push { cls:=.type "StopIteration",data:=.fields (#[.ref s.heap.objs.size,.none,.none,.none,.bool false,.none]++ownMembersOf (.type "StopIteration") []) }).get? b=some o:=fun q=>AC _ (AC _ q);refine D2 (oe:={ cls:=.type "StopIteration",data:=.fields (#[.ref s.heap.objs.size,.none,.none,.none,.bool false,.none]++ownMembersOf (.type "StopIteration") []) }) ?_ (AR _ rfl) rfl (by simp[ownMembersOf]) (fun Z I=>?_) fun h' o' sb M hc=>h h' _ (fun b o q=>?_) ⟨o',M,hc⟩;intro v hv;obtain⟨Z,F,vs,O,R,e3⟩:=U v hv;exact⟨Z,F,vs,O,Y R,e3⟩;obtain⟨a0,F,vs,O,R,e3⟩:=U _ I;cases O;exact Aa (DH (AL R) (by simp));exact (sb.2 b (Aa (DH (AL q) (by simp)))).trans (Y q)
def list_end{it l:KU}{i:Nat}{items}{Q:KW KR->KS->Prop}(Z:Hnd A s.heap)(F:s.heap.IsListIter it l i)(z2:s.heap.IsList l items)(z3:items[i]? = none)(z4:∀v,A.handled=some v->v≠ .ref it)
  (hQ:∀h',(∀b o,b≠it->s.heap.get? b=some o->h'.get? b=some o)->Q none { s with heap:=h' }):wpAny (model prog w) A (pyNext (.ref it)) Q E s:=by
 obtain⟨ob,I,g2,M⟩:=id F;obtain⟨ol,g4,_,nl,g5⟩:=z2;unfold pyNext;refine AA (Bh (A0 (name:=Str.ofString "__next__") F.typeIs slot_listiter_next (As slot_listiter_next F.typeIs entry_listiter_next ?_ (args_listiter_next _))));change wpAny _ A.in1 (field (Value.ref it) 0 >>= _) _ _ s;refine AA (A9 I M (x:=Value.ref l) rfl ?_);change wpAny _ A.in1 (if (Value.ref l==Value.none)=true then _ else _) _ _ s;rw[AD (fun z:(Value.ref l==Value.none)=true=>A6 z)];change wpAny _ A.in1 (field (Value.ref it) 1 >>= _) _ _ s;refine AA (A9 I M (x:=Value.int i 0) rfl ?_);change wpAny _ A.in1 (seqItems? (Value.ref l) >>= _) _ _ s;refine AA (DN g4 g5 ?_);simp only[BC,z3];refine AA (Cu (AA (Ba I M (by simp) ?_)));refine wm (A:=A.in1) ?_ fun h' e k ht=>?_
 ·intro v R;obtain⟨U,oe,vs,Y,e2,e3⟩:=Z v R;refine⟨U,oe,vs,Y,?_,e3⟩;have O:U≠it:=fun z=>z4 v R (by rw[Y,z]);exact (AV _ _ (Ne.symm O)).trans e2
 ·refine AA (BL (T := "StopIteration") (b:=true) ht Cg ?_);exact AB (hQ _ fun b o' hb q=>k b o' ((AV _ _ (Ne.symm hb)).trans q))
theorem tuple_end{it l:KU}{i:Nat}{items}{Q:KW KR->KS->Prop}(hn:Hnd A s.heap)(I:s.heap.IsTupleIter it l i)(z2:s.heap.IsTuple l items)(z3:items[i]? = none)(z4:∀v,A.handled=some v->v≠ .ref it)
  (hQ:∀h',(∀b o,b≠it->s.heap.get? b=some o->h'.get? b=some o)->Q none { s with heap:=h' }):wpAny (model prog w) A (pyNext (.ref it)) Q E s:=by
 obtain⟨ob,M,g2,O⟩:=id I;obtain⟨ol,g4,_,nl,g5⟩:=z2;unfold pyNext;refine AA (Bh (A0 (name:=Str.ofString "__next__") I.typeIs F.slot_tuple_iterator_next (As F.slot_tuple_iterator_next I.typeIs F.entry_tuple_iterator_next ?_ (F.args_tuple_iterator_next_1 _))));change wpAny _ A.in1 (field (Value.ref it) 0 >>= _) _ _ s;refine AA (A9 M O (x:=Value.ref l) rfl ?_);change wpAny _ A.in1 (if (Value.ref l==Value.none)=true then _ else _) _ _ s;rw[AD (fun z:(Value.ref l==Value.none)=true=>A6 z)];change wpAny _ A.in1 (field (Value.ref it) 1 >>= _) _ _ s;refine AA (A9 M O (x:=Value.int i 0) rfl ?_);change wpAny _ A.in1 (seqItems? (Value.ref l) >>= _) _ _ s;refine AA (DN g4 g5 ?_);simp only[BC,z3];refine AA (Cu (AA (Ba M O (by simp) ?_)));refine wm (A:=A.in1) ?_ fun h' e k ht=>?_
 ·intro v U;obtain⟨Y,oe,vs,Z,e2,e3⟩:=hn v U;refine⟨Y,oe,vs,Z,?_,e3⟩;have R:Y≠it:=fun z=>z4 v U (by rw[Z,z]);exact (AV _ _ (Ne.symm R)).trans e2
 ·refine AA (BL (T := "StopIteration") (b:=true) ht Cg ?_);exact AB (hQ _ fun b o' hb q=>k b o' ((AV _ _ (Ne.symm hb)).trans q))
theorem range_end{it:KU}{x left step:Int}{Q:KW KR->KS->Prop}(O:Hnd A s.heap)(I:IsRangeIter s.heap it x left step)(R:left≤0)
  (U:∀h',(∀b o,s.heap.get? b=some o->h'.get? b=some o)->Q none { s with heap:=h' }):wpAny (model prog w) A (pyNext (.ref it)) Q E s:=by have M:s.TypeIs (.ref it) "range_iterator" :=⟨_,I,rfl⟩;unfold pyNext;refine AA (Bh (A0 (name:=Str.ofString "__next__") M F.slot_range_iterator_next (As F.slot_range_iterator_next M F.entry_range_iterator_next ?_ (F.args_range_iterator_next_1 _))));change wpAny _ A.in1 (field (Value.ref it) 0 >>= _) _ _ s;refine AA (A9 I rfl (x:=rawInt x) rfl ?_);change wpAny _ A.in1 (field (Value.ref it) 1 >>= _) _ _ s;refine AA (A9 I rfl (x:=rawInt left) rfl ?_);change wpAny _ A.in1 (field (Value.ref it) 2 >>= _) _ _ s;refine AA (A9 I rfl (x:=rawInt step) rfl ?_);change wpAny _ A.in1 (if left≤0 then _ else _) _ _ s;rw[AE R];refine AA (Cu (AA ?_));refine wm (A:=A.in1) O fun h' e k Y=>?_;refine AA (BL (T := "StopIteration") (b:=true) Y Cg ?_);exact AB (U _ k)
end
end EX
end
section
namespace L2
open PySem PySem.Spec PyProof.Rows
abbrev Key:=Sum Int Str
def jW:Key->KR->Bool| .inl k,v=>Value.isInt k v| .inr x,v=>Value.isStrOf x v
def xy(w:K0):Key->Int| .inl k=>hashInt k| .inr x=>hashStr w x
def Qp:∀{k:Key} {v:KR},jW k v=true->(∃i t,k=Sum.inl i∧v=Value.int i t)∨(∃x t,k=Sum.inr x∧v=Value.str x t)| .inl i,v,h=>by obtain⟨t,e⟩:=Value.isInt_shape (k:=i) (v:=v) h;exact .inl ⟨i,t,rfl,e⟩| .inr x,v,h=>by obtain⟨t,e⟩:=Value.isStrOf_shape (x:=x) (v:=v) h;exact .inr ⟨x,t,rfl,e⟩
def sS(i:Int)(t:Tok):jW (.inl i) (.int i t)=true:=by simp[jW,Value.isInt]
def v7(x:Str)(t:Tok):jW (.inr x) (.str x t)=true:=by simp[jW,Value.isStrOf]
def uC(a b:Int):decide ((Sum.inl a:Key)=Sum.inl b)=(a==b):=by
 by_cases e:a=b;subst e;simp;have h:¬(Sum.inl a:Key)=Sum.inl b:=fun q=>e (Sum.inl.inj q);rw[AU h];exact (Ag.mpr e).symm
def Fe(a b:Str):decide ((Sum.inr a:Key)=Sum.inr b)=decide (a=b):=by
 by_cases e:a=b;subst e;simp;have h:¬(Sum.inr a:Key)=Sum.inr b:=fun q=>e (Sum.inr.inj q);rw[AU h,AU e]
def HB(a:Int)(b:Str):decide ((Sum.inl a:Key)=Sum.inr b)=false:=AU (fun q=>nomatch q)
def xS(a:Str)(b:Int):decide ((Sum.inr a:Key)=Sum.inl b)=false:=AU (fun q=>nomatch q)
def Qn(prog:KZ)(w:K0):PySem.KeyKind prog w Key where
 is:=jW
 hash:=xy w
 inj:=fun v a b ha hb=>by
  rcases Qp ha with⟨i,t,rfl,rfl⟩|⟨x,t,rfl,rfl⟩
  ·rcases Qp hb with⟨j,u,rfl,e⟩|⟨y,u,rfl,e⟩
   ·injection e with e1 _;rw[e1]
   ·exact nomatch e
  ·rcases Qp hb with⟨j,u,rfl,e⟩|⟨y,u,rfl,e⟩
   ·exact nomatch e
   ·injection e with e1 _;rw[e1]
 byValue:=fun k v h=>by rcases Qp h with⟨i,t,rfl,rfl⟩|⟨x,t,rfl,rfl⟩ <;> rfl
 pyHash:=fun hv h=>by
  rcases Qp hv with⟨i,t,rfl,rfl⟩|⟨x,t,rfl,rfl⟩
  ·exact wpAny_pyHash_int h
  ·exact wpAny_pyHash_str h
 eqBool:=fun hu hv h=>by
  rcases Qp hu with⟨i,t,rfl,rfl⟩|⟨x,t,rfl,rfl⟩
  ·rcases Qp hv with⟨j,u,rfl,rfl⟩|⟨y,u,rfl,rfl⟩
   ·rw[uC]at h;exact wpAny_eqBool_int h
   ·rw[HB]at h;exact SeqAt.EqAt.int_str i t y u _ _ _ _ h
  ·rcases Qp hv with⟨j,u,rfl,rfl⟩|⟨y,u,rfl,rfl⟩
   ·rw[xS]at h;exact SeqAt.EqAt.str_int x t j u _ _ _ _ h
   ·rw[Fe]at h;exact wpAny_eqBool_str h
 «strs» :=fun k x t v h=>by
  rcases Qp h with⟨i,u,rfl,e⟩|⟨y,u,rfl,e⟩
  ·exact nomatch e
  ·injection e with e1 _;subst e1;cases v <;> rfl
def IC(prog:KZ)(w:K0)(i:Int)(t:Tok):(Qn prog w).is (.inl i) (.int i t)=true:=sS i t
def J1(prog:KZ)(w:K0)(x:Str)(t:Tok):(Qn prog w).is (.inr x) (.str x t)=true:=v7 x t
end L2
namespace L2
open PySem PySem.Spec PyProof.Rows
inductive V where
 |non|bl (b:Bool)|int (i:Int)|str (x:Str)|byt (b:Array UInt8)|flt (b:UInt64)|ref (a:Addr)|ty (n:String)
 deriving DecidableEq
def RelV:V->KR->Prop| .non,u=>u=Value.none| .bl b,u=>u=Value.bool b| .int i,u=>∃t,u=Value.int i t| .str x,u=>∃t,u=Value.str x t| .byt b,u=>∃t,u=Value.bytes b t| .flt b,u=>∃t,u=Value.float b t| .ref a,u=>u=Value.ref a| .ty n,u=>u=Value.type n
abbrev Vals:KQ V->KQ KR->Prop:=Paired RelV
def Vals.length{xs:KQ V}{us:KQ KR}(r:Vals xs us):xs.length=us.length:=Paired.length r
def Vals.get:∀{xs:KQ V} {us:KQ KR} {i:Nat} {x:V},Vals xs us->xs[i]? = some x->∃u,us[i]? = some u∧RelV x u
 |_,_,_,_,.nil,e=>by simp at e
 |_,_,0,_,.cons r _,e=>by simp at e;subst e;exact⟨_,rfl,r⟩
 |_,_,i+1,x,.cons _ t,e=>by
  obtain⟨u,F,I⟩:=Vals.get (i:=i) (x:=x) t (by simpa using e);exact⟨u,by simpa using F,I⟩
def Vals.set{x:V}{u:KR}(r:RelV x u):∀{xs:KQ V} {us:KQ KR} (i:Nat),Vals xs us->Vals (xs.set i x) (us.set i u)|_,_,_,.nil=>.nil|_,_,0,.cons _ t=>.cons r t|_,_,i+1,.cons q t=>.cons q (Vals.set r i t)
def Vals.append:∀{xs F:KQ V} {us ws:KQ KR},Vals xs us->Vals F ws->Vals (xs++F) (us++ws)|_,_,_,_,.nil,s=>s|_,_,_,_,.cons r t,s=>.cons r (Vals.append t s)
def Vals.take:∀{xs:KQ V} {us:KQ KR} (n:Nat),Vals xs us->Vals (xs.take n) (us.take n)|_,_,0,_=>.nil|_,_,_+1,.nil=>.nil|_,_,n+1,.cons r t=>.cons r (Vals.take n t)
def Vals.drop:∀{xs:KQ V} {us:KQ KR} (n:Nat),Vals xs us->Vals (xs.drop n) (us.drop n)|_,_,0,r=>r|_,_,_+1,.nil=>.nil|_,_,n+1,.cons _ t=>Vals.drop n t
def gc:KW V->KW KR->Prop|some v,some u=>RelV v u|none,none=>True|_,_=>False
def KV{κ:Type}:KQ (κ×V)->KQ (κ×KR)->Prop:=Paired fun (p:κ×V) (q:κ×KR)=>p.1=q.1∧RelV p.2 q.2
def kV:Key->V| .inl i=>.int i| .inr x=>.str x
inductive HO where
 /-- a list -/
 |lst (xs:List V)
 /-- a tuple (never changes) -/
 |tup (xs:List V)
 /-- a dict whose keys are ints and texts;one whose keys are tuples of ints and texts (the empty one is both) -/
 |dK (Kh:List (Key×V))|dT (Kh:List (List Key×V))
 /-- a set of ints: Ki members,Ki size -/
 |set (S:Int->Bool) (n:Nat)
 /-- an instance of the class at C,Ki dict at dx,Ki attributes -/
 |ins (C dx:Addr) (fs:List (Str×V))
 /-- the dict of the instance at x -/
 |own (x:Addr)
 /-- the dict of an exception -/
 |xd (fs:List (Str×V))
 /-- a bound method,f of x -/
 |met (f x:Addr)
 /-- a range object lo,lo+1,.. below hi -/
 |rng (lo hi:Int)
 /-- a thing that is known to the object (the script;a dict while a Kw walks it): read,never written while it is so -/
 |frz (o:Obj) (u:HO)
 /-- a code object's table -/
 |tbl (ps:Array Value)
 /-- any other thing,by what is true of Ki one object (a def of one's own: SetO a S n:=HO.ext fun h=> ..) -/
 |ext (φ:Heap->Prop)
abbrev Hp:=KU->KW HO
def dW(H:Hp)(a:KU)(o:HO):Hp:=fun b=>if b=a then some o else H b
def qS{H:Hp}{a:KU}{o:HO}:dW H a o a=some o:=by unfold dW;rw[AE rfl]
def qG{H:Hp}{a b:KU}{o:HO}(h:b≠a):dW H a o b=H b:=by unfold dW;rw[AD h]
def lW{H:Hp}{a b:KU}{o u:HO}(h:H a=some o)(h':H b=some u)(d:o≠u):a≠b:=by intro e;subst e;rw[h]at h';exact d (Aj h')
def qL{H:Hp}{a b:KU}{o:HO}(h:H a=some o)(h':H b=none):a≠b:=by intro e;subst e;rw[h]at h';cases h'
section
variable(P:KZ)(w:K0)
def ey(H:Hp)(h:Heap)(a:KU):HO->Prop
 | .lst xs=>xs.length≤sizeLine∧∃(Ki:KQ KR) (n:Nat),Vals xs Ki∧h.get? a=some { cls:=.type "list",data:=.seq Ki.toArray n }
 | .tup xs=>xs.length≤sizeLine∧∃Ki:KQ KR,Vals xs Ki∧IsTup h a Ki.toArray
 | .dK Kh=>Kh.length≤sizeLine∧(a==sysModules)=false∧∃vs,KV Kh vs∧h.DictOf (Qn P w) a vs
 | .dT Kh=>Kh.length≤sizeLine∧(a==sysModules)=false∧∃xs:KQ (KQ Key×KU×KR),
   Paired (fun (p:KQ Key×V) (q:KQ Key×KU×KR)=>p.1=q.1∧H q.2.1=some (.tup (p.1.map kV))∧RelV p.2 q.2.2) Kh xs ∧
   ∃o es ep,h.get? a=some o∧o.ExactDict∧o.data= .dict es ep∧es.toList=xs.map (entryOfKey (tupleKind (Qn P w)))∧(xs.map (·.1)).Nodup
 | .set S n=>h.SetOf (intKind P w) a S n
 | .ins C dx fs=>H dx=some (.own a)∧fs.length≤1000∧dx≠a∧h.get? a=some (W.instObj C dx) ∧
   ∃F,h.Ns1 dx F∧(∀f,gc (fs.lookup f) (F f))∧PySem.Within F (fs.map (·.1))
 | .own _=>∃o,h.get? a=some o
 | .xd fs=>∃F,h.Ns1 a F∧∀f,gc (fs.lookup f) (F f)
 | .rng lo hi=>∃t u v,h.get? a=some { cls:=.type "range",data:=.fields #[.int lo t,.int hi u,.int 1 v] }
 | .frz o u=>h.get? a=some o∧ey H h a u
 | .tbl ps=>h.get? a=some { cls:=.none,data:=.fields ps }
 | .met f x=>h.get? a=some (W.methodObj (.ref f) (.ref x))
 | .ext φ=>φ h∧(∃o,h.get? a=some o)∧∀I M:Heap,φ I->(∀o,I.get? a=some o->M.get? a=some o)->φ M
def fP(H:Hp)(h:Heap):Prop:=∀a o,H a=some o->ey P w H h a o
end
section
variable{P:KZ}{w:K0}{H H':Hp}{h h':Heap}{a:KU}{o:HO}
def ey.lt(x:ey P w H h a o):a<h.objs.size:=by
 cases o with|lst xs=>obtain⟨_,_,_,_,e⟩:=x;exact AL e|tup xs=>obtain⟨_,_,_,p⟩:=x;exact p.lt|dK Kh=>obtain⟨_,_,_,_,o,_,_,e,_⟩:=x;exact AL e|dT Kh=>obtain⟨_,_,_,_,o,_,_,e,_⟩:=x;exact AL e|set S n=>obtain⟨o,_,_,_,e,_⟩:=x;exact AL e|ins C dx fs=>obtain⟨_,_,_,e,_⟩:=x;exact AL e|own y=>obtain⟨_,e⟩:=x;exact AL e|xd fs=>obtain⟨_,⟨_,_,_,e,_⟩,_⟩:=x;exact AL e|rng lo hi=>obtain⟨_,_,_,e⟩:=x;exact AL e|frz F u=>obtain⟨e,_⟩:=x;exact AL e|tbl ps=>exact AL (show h.get? a=some _ from x)|met f y=>exact AL (show h.get? a=some _ from x)|ext φ=>obtain⟨_,⟨_,e⟩,_⟩:=x;exact AL e
def Paired.mapP{α β:Type}{F G:α->β->Prop}:∀{l₁:KQ α} {l₂:KQ β},Paired F l₁ l₂->(∀a b,F a b->G a b)->Paired G l₁ l₂|_,_,.nil,_=>.nil|_,_,.cons r t,f=>.cons (f _ _ r) (Paired.mapP t f)
def ey.stay(x:ey P w H h a o)(k:∀b u,(b=a∨H b=some (.own a))->h.get? b=some u->h'.get? b=some u)
  (M:∀b,H b=some (.own a)->H' b=some (.own a)) (O:∀b xs,H b=some (.tup xs)->H' b=some (.tup xs)):ey P w H' h' a o:=by
 induction o with|lst xs=>obtain⟨z,Ki,n,r,e⟩:=x;exact⟨z,Ki,n,r,k _ _ (.inl rfl) e⟩|tup xs=>obtain⟨z,Ki,r,F,e,c⟩:=x;exact⟨z,Ki,r,F,k _ _ (.inl rfl) e,c⟩|dK Kh=>obtain⟨z,y,vs,r,F,es,ep,e,c⟩:=x;exact⟨z,y,vs,r,F,es,ep,k _ _ (.inl rfl) e,c⟩|dT Kh=>obtain⟨z,y,xs,r,F,es,ep,e,c⟩:=x;exact⟨z,y,xs,Paired.mapP r fun p q z=>⟨z.1,O _ _ z.2.1,z.2.2⟩,F,es,ep,k _ _ (.inl rfl) e,c⟩|set S n=>obtain⟨F,es,ep,t,e,c⟩:=x;exact⟨F,es,ep,t,k _ _ (.inl rfl) e,c⟩|ins C dx fs=>obtain⟨d,z,ne,e,I,⟨od,es,ep,R,c⟩,r⟩:=x;exact⟨M _ d,z,ne,k _ _ (.inl rfl) e,I,⟨od,es,ep,k _ _ (.inr d) R,c⟩,r⟩|own y=>obtain⟨F,e⟩:=x;exact⟨F,k _ _ (.inl rfl) e⟩|xd fs=>obtain⟨I,⟨od,es,ep,e,c⟩,r⟩:=x;exact⟨I,⟨od,es,ep,k _ _ (.inl rfl) e,c⟩,r⟩|rng lo hi=>obtain⟨t,u,v,e⟩:=x;exact⟨t,u,v,k _ _ (.inl rfl) e⟩|frz F u U=>obtain⟨e,q⟩:=x;exact⟨k _ _ (.inl rfl) e,U q⟩|tbl ps=>have e:h.get? a=some { cls:=.none,data:=.fields ps }:=x;show h'.get? a=some { cls:=.none,data:=.fields ps };exact k a _ (.inl rfl) e|met f y=>have e:h.get? a=some (W.methodObj (.ref f) (.ref y)):=x;show h'.get? a=some (W.methodObj (.ref f) (.ref y));exact k a _ (.inl rfl) e|ext φ=>obtain⟨p,⟨o,e⟩,st⟩:=x;exact⟨st _ _ p fun o q=>k _ _ (.inl rfl) q,⟨o,k _ _ (.inl rfl) e⟩,st⟩
def fP.lt(x:fP P w H h)(e:H a=some o):a<h.objs.size:=(x a o e).lt
def fP.fresh(x:fP P w H h)(e:h.objs.size≤a):H a=none:=by
 cases q:H a with|none=>rfl|some u=>exact absurd (Ax (x.lt q) e) (Bw _)
def fP.kept(x:fP P w H h)(k:∀b u,h.get? b=some u->h'.get? b=some u):fP P w H h':=fun a o e =>
 (x a o e).stay (fun b u _ q=>k b u q) (fun _ q=>q) fun _ _ q=>q
def fP.laid(x:fP P w H h)(k:∀b u,h.get? b=some u->h'.get? b=some u)(M:h.objs.size≤a)(new:ey P w (dW H a o) h' a o):fP P w (dW H a o) h':=fun b u e=>by
 have F:=x.fresh M;by_cases I:b=a;subst I;rw[qS]at e;cases e;exact new;rw[qG I]at e;exact (x b u e).stay (fun c v _ q=>k c v q) (fun c q=>by rw[qG (qL q F)];exact q) fun c xs q=>by rw[qG (qL q F)];exact q
end
def Rd(H:Hp)(a:KU)(u:HO):Prop:=H a=some u∨∃o,H a=some (.frz o u)
def Rd.ok{P:KZ}{w:K0}{H:Hp}{h:Heap}{a:KU}{u:HO}(r:Rd H a u)(x:fP P w H h):ey P w H h a u:=by
 rcases r with r|⟨o,r⟩
 ·exact x a u r
 ·obtain⟨_,q⟩:=x a _ r;exact q
def kx:KW HO->Prop|some (.lst _)=>True|some (.dK _)=>True|some (.dT _)=>True|some (.set _ _)=>True|some (.ins _ _ _)=>True|some (.ext _)=>True|_=>False
section
variable{P:KZ}{w:K0}{H:Hp}{h h':Heap}{x e:KU}{o':HO}
def fP.write(ok:fP P w H h)(O:kx (H x))(he:e=x∨H e=some (.own x))(k:∀b u,b≠e->h.get? b=some u->h'.get? b=some u)(U:∃u,h'.get? e=some u)
  (new:ey P w (dW H x o') h' x o'):fP P w (dW H x o') h':=fun b u q=>by
 have I:∀c y,H c=some (.own y)->c≠x:=fun c y r z=>by subst z;rw[r]at O;exact O
 have M:∀c xs,H c=some (.tup xs)->c≠x:=fun c xs r z=>by subst z;rw[r]at O;exact O
 by_cases R:b=x;subst R;rw[qS]at q;cases q;exact new
 ·rw[qG R]at q;by_cases F:b=e
  ·have Y:H b=some (.own x):=by
    rcases he with z|z
    ·exact absurd (F.trans z) R
    ·rw[F];exact z
   rw[q]at Y;cases Y;obtain⟨v,Z⟩:=U;exact⟨v,by rw[F];exact Z⟩
  ·refine (ok b u q).stay (fun c v hc r=>k c v ?_ r) (fun c r=>by rw[qG (I c b r)];exact r) fun c xs r=>by rw[qG (M c xs r)];exact r
   rcases hc with rfl|hc
   ·exact F
   ·rintro rfl;rcases he with z|z
    ·exact I c b hc z
    ·rw[hc]at z;cases z;exact R rfl
end
structure Un (fs ex:List Addr) (H H':Hp) (h h':Heap):Prop where
 keep:∀b o,h.get? b=some o->H b=none->b∉fs->b∉ex->h'.get? b=some o
 slot:∀b o,h.get? b=some o->H b=none->b∈fs->b∉ex->∃sl,h'.get? b=some { o with slots:=sl }
 free:∀b o,h.get? b=some o->H b=none->b∉ex->H' b=none
 there:∀b o,h.get? b=some o->b∉ex->∃o',h'.get? b=some o'
 tups:∀b xs,H b=some (.tup xs)->H' b=some (.tup xs)
 frzs:∀b o u,H b=some (.frz o u)->H' b=some (.frz o u)
 tbls:∀b ps,H b=some (.tbl ps)->∃more,H' b=some (.tbl (ps++more))
section
variable{fs fs' ex ex':KQ KU}{H H1 H2:Hp}{h h1 h2 h':Heap}{a x e:KU}{o:HO}
def Un.any(u:Un fs ex H H1 h h1){b:KU}{F:Obj}(q:h.get? b=some F)(n:H b=none)(I:b∉ex):∃sl,h1.get? b=some { F with slots:=sl }:=by
 by_cases M:b∈fs;exact u.slot b F q n M I;exact⟨F.slots,u.keep b F q n M I⟩
def Un.kept(k:∀b u,h.get? b=some u->h'.get? b=some u):Un fs ex H H h h' :=
 ⟨fun b F q _ _ _=>k b F q,fun b F q _ _ _=>⟨F.slots,k b F q⟩,fun _ _ _ n _=>n,fun b F q _=>⟨F,k b F q⟩,fun _ _ q=>q,fun _ _ _ q=>q,fun _ ps q=>⟨#[],by rw[q];simp⟩⟩
def Un.refl:Un fs ex H H h h:=Un.kept fun _ _ q=>q
def Un.laid(k:∀b u,h.get? b=some u->h'.get? b=some u)(hp:h.objs.size≤a)(hn:H a=none):Un fs ex H (dW H a o) h h' where
 keep:=fun b u q _ _ _=>k b u q
 slot:=fun b u q _ _ _=>⟨u.slots,k b u q⟩
 free:=fun b u q n _=>by rw[qG (Aa (Ax (AL q) hp))];exact n
 there:=fun b u q _=>⟨u,k b u q⟩
 tups:=fun b xs q=>by rw[qG (qL q hn)];exact q
 frzs:=fun b u xs q=>by rw[qG (qL q hn)];exact q
 tbls:=fun b ps q=>⟨#[],by rw[qG (qL q hn),q];simp⟩
def Un.write(I:kx (H x))(he:e=x∨H e=some (.own x))(k:∀b u,b≠e->h.get? b=some u->h'.get? b=some u)(M:∃u,h'.get? e=some u):Un fs ex H (dW H x o) h h':=by
 have R:∀b,H b=none->b≠x:=fun b n z=>by subst z;rw[n]at I;exact I
 have U:∀b,H b=none->b≠e:=fun b n z=>by
  subst z;rcases he with r|r
  ·exact R b n r
  ·rw[n]at r;cases r
 have O:∀b u,H b=some u->¬kx (some u)->b≠x:=fun b u q Y z=>by subst z;rw[q]at I;exact Y I
 refine⟨fun b u q n _ _=>k b u (U b n) q,fun b u q n _ _=>⟨u.slots,k b u (U b n) q⟩,fun b u q n _=>by rw[qG (R b n)];exact n,fun b u q _=>?_,
  fun b xs q=>by rw[qG (O b _ q fun z=>z)];exact q,fun b u xs q=>by rw[qG (O b _ q fun z=>z)];exact q,fun b ps q=>⟨#[],by rw[qG (O b _ q fun z=>z),q];simp⟩⟩
 by_cases F:b=e;subst F;exact M;exact⟨u,k b u F q⟩
end
def iI(h:Heap)(H:Hp):KQ KU:=(List.range h.objs.size).filter fun a=>(H a).isSome
def JU(h:Heap)(H:Hp):Heap:=W.hideAll h (iI h H)
def sI(h:Heap)(H:Hp):(JU h H).objs.size=h.objs.size:=W.hideAll_size _ _
def EN{h:Heap}{H:Hp}{b:KU}{o:Obj}(e:h.get? b=some o)(n:H b=none):(JU h H).get? b=some o :=
 W.hideAll_get _ e fun F=>by have q:(H b).isSome=true:=(Bj.mp F).2;rw[n]at q;simp at q
def Es{h:Heap}{H:Hp}{b:KU}{o:Obj}(e:(JU h H).get? b=some o):h.get? b=some o∧H b=none:=by
 have F:h.get? b=some o:=W.of_hideAll (iI h H) e;refine⟨F,?_⟩;cases q:H b with
 |none=>rfl
 |some x =>
  have I:b∈iI h H:=Bj.mpr ⟨BM.mpr (AL F),by simp[q]⟩;have z:(JU h H).get? b=none:=W.hideAll_none (iI h H) I;rw[z]at e;cases e
end L2
namespace L2
open PySem PySem.Spec PyProof.Rows
structure Mod (K:W.Frag) (mg:Str->Option Value) (base:Heap):Prop where
 kin:K.In base
 glob:base.Ns mainGlobals mg
 blt:∃mb,base.Ns builtinsNs mb∧∀x:Str,x ≠ "__name__" ->mb x=bootBuiltins x
 nolimit:base.NoLimit
structure Cx where
 prog:Program
 w:World
 K:W.Frag
 mg:Str->Option Value
 base:Heap
 A:Around
 N:List Str
 s₀:Shared
 H₀:Hp
 env:Env
 outer:List Env
 stack:List Env
 ex:List Addr
 fn:Str->Bool
 calm:Bool
 pn:List (Addr×Obj)
 xe:Value->Shared->Prop
def fE(l:KQ Env):KQ KU:=l.filterMap (·.frame)
abbrev Cx.fs(X:Cx):KQ KU:=fE X.outer
def i6(sc:Scope)(x:Str):Prop:=sc.names.lookup x=some .local∨sc.names.lookup x=some .cell∨sc.names.lookup x=some .free
def Loc(sc:Scope)(x:Str):Prop:=sc.names.lookup x=some .local∨sc.names.lookup x=some .cell
def pE(env:Env)(h:Heap)(m:Str->KW KR)(x:Str)(u:KR):Prop :=
 (env.kindOf x=some .local∧m x=some u)∨((env.kindOf x=some .cell∨env.kindOf x=some .free)∧∃c,env.cells.lookup x=some c∧h.IsCell c (some u))
structure Cx.Ok (X:Cx):Prop where
 mod:Mod X.K X.mg X.base
 kind:X.env.scope.kind= .function
 glob:X.env.globals=mainGlobals
 blt:X.env.builtins=builtinsNs
 above:X.s₀.heap.objs.size≤X.env.locals
 inj:∀x y c,X.env.cells.lookup x=some c->X.env.cells.lookup y=some c->x=y
 has:∀x,(X.env.kindOf x=some .cell∨X.env.kindOf x=some .free)->∃c,X.env.cells.lookup x=some c
 cab:∀x c,X.fn x=true->X.env.cells.lookup x=some c->X.s₀.heap.objs.size≤c
 hd:X.calm=true->X.A.handled=none
 frames:X.A.frames=some X.stack
 stk:X.stack=X.outer∨(X.stack=X.env::X.outer∧X.env.frame=some X.env.locals)
 exf:∀b∈X.ex,b≠X.env.locals∧∀x c,X.env.cells.lookup x=some c->c≠b
 bs:∀b o,X.base.get? b=some o->X.s₀.heap.get? b=some o∧X.H₀ b=none
 bsz:X.base.objs.size≤X.s₀.heap.objs.size
 noex:∀b o,X.base.get? b=some o->b∉X.ex
 exfs:∀b∈X.ex,b∉X.fs
 funs:X.s₀.heap.FunFrames X.base X.outer
 frf:∀b∈X.fs,X.H₀ b=none
def gT(A:K1)(H:Hp):Prop:=∀v,A.handled=some v->∃F I u vs,v=Value.ref F∧H F=some (.frz I u)∧I.data= .fields vs∧vs[2]? = some .none
def gT.none{A:K1}{H:Hp}(h:A.handled=none):gT A H:=fun v e=>by rw[h]at e;cases e
structure Inv (X:Cx) (Kf:List (Addr×Obj)) (σ:List (Option V)) (H:Hp) (s:Shared):Prop where
 ok:X.Ok
 os:s.os=X.s₀.os
 bare:AllBare s.gens
 base:Un X.fs X.ex X.H₀ H X.s₀.heap s.heap
 loc:∃m,s.heap.Ns X.env.locals m∧∀(i:Nat) (x:Str) (v:V),X.N[i]? = some x->σ[i]? = some (some v)->i6 X.env.scope x->∃u,RelV v u∧pE X.env s.heap m x u
 cell:∀x c,X.env.cells.lookup x=some c->∃v,s.heap.IsCell c v
 free:H X.env.locals=none
 freeC:∀x c,X.env.cells.lookup x=some c->H c=none
 pin:∀p∈X.pn++Kf,s.heap.get? p.1=some p.2∧H p.1=none∧p.1≠X.env.locals∧p.1∉X.fs∧∀v,p.2.data≠ .cell v
 hok:fP X.prog X.w H s.heap
 len:σ.length=X.N.length
 hnd:gT X.A H
section
variable{X:Cx}{Kf:KQ (KU×Obj)}{σ:KQ (KW V)}{H H':Hp}{s:KS}{h':Heap}
def Cx.Ok.nofr(ok:X.Ok){b:KU}{o:Obj}(e:X.base.get? b=some o):b∉X.fs:=fun F=>by
 have:=(ok.funs.mem F).1
 rw[e]at this;cases this
def Inv.bs(I:Inv X Kf σ H s):∀b o,X.base.get? b=some o->s.heap.get? b=some o∧H b=none:=fun b o e =>
 ⟨I.base.keep b o (I.ok.bs b o e).1 (I.ok.bs b o e).2 (I.ok.nofr e) (I.ok.noex b o e),I.base.free b o (I.ok.bs b o e).1 (I.ok.bs b o e).2 (I.ok.noex b o e)⟩
def Inv.bk(I:Inv X Kf σ H s):∀b o,X.base.get? b=some o->s.heap.get? b=some o:=fun b o e=>(I.bs b o e).1
def Inv.mod(I:Inv X Kf σ H s):Mod X.K X.mg X.base:=I.ok.mod
def Inv.kIn(I:Inv X Kf σ H s):X.K.In s.heap:=I.ok.mod.kin.keeps I.bk
def Inv.lt(I:Inv X Kf σ H s):X.env.locals<s.heap.objs.size:=let ⟨_,F,_⟩:=I.loc;F.lt
def Inv.sz(I:Inv X Kf σ H s):X.s₀.heap.objs.size≤s.heap.objs.size:=Ab I.ok.above (DI I.lt)
def Inv.nofs(I:Inv X Kf σ H s){a:KU}(h:s.heap.objs.size≤a):a∉X.fs:=fun F=>by obtain⟨_,o,M,_⟩:=I.ok.funs.mem F;exact absurd (Ax (AL M) (Ab I.sz h)) (Bw _)
def Inv.cne(I:Inv X Kf σ H s):∀x c,X.env.cells.lookup x=some c->c≠X.env.locals:=fun x c e z=>by obtain⟨v,o,O,hd⟩:=I.cell x c e;obtain⟨m,⟨o',es,ep,F,M,_⟩,_⟩:=I.loc;rw[z,F]at O;cases O;rw[M]at hd;cases hd
def Inv.funs(I:Inv X Kf σ H s):s.heap.FunFrames X.base X.outer:=by
 have all:∀(l:KQ Env),(∀b∈fE l,b∈X.fs)->X.s₀.heap.FunFrames X.base l->s.heap.FunFrames X.base l:=by
  intro l;induction l with
  |nil=>intro _ _;trivial
  |cons env r R =>
   intro hs U;obtain⟨Y,⟨L,o,F,Z,ho,hd⟩,hr⟩:=U;have M:L∈X.fs:=hs L (by unfold fE;rw[BI,F];exact AI);obtain⟨sl,e⟩:=I.base.slot L o ho (I.ok.frf L M) M fun z=>I.ok.exfs L z M;exact⟨Y,⟨L,_,F,Z,e,hd⟩,R (fun b O=>hs b (by unfold fE;rw[BI,F];exact AH _ O)) hr⟩
 exact all X.outer (fun _ O=>O) I.ok.funs
def Inv.stack(I:Inv X Kf σ H s):s.heap.FunFrames X.base X.stack:=by
 rcases I.ok.stk with e|⟨e,F⟩
 ·rw[e];exact I.funs
 ·rw[e];obtain⟨m,M,_⟩:=I.loc;refine .cons (by rw[I.ok.kind];decide) F M ?_ I.funs;exact Heap.get?_none_of_le (Ab I.ok.bsz I.ok.above)
def Inv.stkSub(I:Inv X Kf σ H s):∀b∈fE X.stack,b∈X.env.locals::X.fs:=fun b F=>by
 rcases I.ok.stk with e|⟨e,M⟩
 ·rw[e]at F;exact AH _ F
 ·rw[e]at F;unfold fE at F;rw[BI,M]at F;exact F
def Inv.stkFree(I:Inv X Kf σ H s):∀b∈fE X.stack,H b=none:=fun b hb=>by
 rcases AK.mp (I.stkSub b hb) with e|hb
 ·rw[e];exact I.free
 ·obtain⟨_,o,F,_⟩:=I.ok.funs.mem hb;exact I.base.free b o F (I.ok.frf b hb) fun z=>I.ok.exfs b z hb
def Inv.step{g':K3 GenState}{t':Nat}{d':Drawn}{ch:KQ KU}(I:Inv X Kf σ H s)
  (M:∀b∈ch,(b∈X.ex∨X.s₀.heap.objs.size≤b)∧b≠X.env.locals∧(∀x c,X.env.cells.lookup x=some c->c≠b)∧∀p∈X.pn++Kf,p.1≠b)
  (keep:∀b o,b≠X.env.locals->b∉X.fs->b∉ch->s.heap.get? b=some o->H b=none->h'.get? b=some o)
  (slot:∀b o,b≠X.env.locals->b∈X.fs->b∉ch->s.heap.get? b=some o->H b=none->∃sl,h'.get? b=some { o with slots:=sl }) (free:∀b o,b∉ch->s.heap.get? b=some o->H b=none->H' b=none)
  (there:∀b o,b∉ch->s.heap.get? b=some o->∃o',h'.get? b=some o')
  (tups:∀b xs,H b=some (.tup xs)->H' b=some (.tup xs)) (frzs:∀b o u,H b=some (.frz o u)->H' b=some (.frz o u)) (tbls:∀b ps,H b=some (.tbl ps)->∃more,H' b=some (.tbl (ps++more)))
  (ns:∀m,s.heap.Ns X.env.locals m->h'.Ns X.env.locals m) (hok:fP X.prog X.w H' h') (hg:AllBare g') :
  Inv X Kf σ H' { s with heap:=h',gens:=g',drawn:=d',toks:=t' }:=by
 have a0:∀b o,X.s₀.heap.get? b=some o->b≠X.env.locals:=fun b o e=>Aa (Ax (AL e) I.ok.above);have Y:∀b o,X.s₀.heap.get? b=some o->b∉X.ex->b∉ch:=fun b o e F Z=>by
  rcases (M b Z).1 with z|z
  ·exact F z
  ·exact absurd (Ax (AL e) z) (Bw _)
 have O:∀x c,X.env.cells.lookup x=some c->∀v,s.heap.IsCell c v->h'.IsCell c v:=fun x c e v ⟨o,ho,hd⟩=>by
  have R:c∉ch:=fun z=>(M c z).2.2.1 x c e rfl;by_cases hc:c∈X.fs;obtain⟨sl,q⟩:=slot c o (I.cne x c e) hc R ho (I.freeC x c e);exact⟨_,q,hd⟩;exact⟨o,keep c o (I.cne x c e) hc R ho (I.freeC x c e),hd⟩
 refine⟨I.ok,I.os,hg,⟨fun b o e n Z F=>?_,fun b o e n Z F=>?_,fun b o e n F=>?_,fun b o e F=>?_,fun b xs e=>tups b xs (I.base.tups b xs e),fun b o xs e=>frzs b o xs (I.base.frzs b o xs e),fun b ps e=>?_⟩,?_,fun x c e=>?_,?_,fun x c e=>?_,fun p hp=>?_,hok,I.len,fun v hv=>(let ⟨ea,oe,u,vs,U,e2,e3⟩:=I.hnd v hv;⟨ea,oe,u,vs,U,frzs _ _ _ e2,e3⟩)⟩;exact keep b o (a0 b o e) Z (Y b o e F) (I.base.keep b o e n Z F) (I.base.free b o e n F);obtain⟨sl,U⟩:=I.base.slot b o e n Z F;obtain⟨a1,e2⟩:=slot b _ (a0 b o e) Z (Y b o e F) U (I.base.free b o e n F);exact⟨a1,e2⟩;obtain⟨o',U⟩:=I.base.there b o e F;exact free b o' (Y b o e F) U (I.base.free b o e n F);obtain⟨o',U⟩:=I.base.there b o e F;exact there b o' (Y b o e F) U;obtain⟨m1,U⟩:=I.base.tbls b ps e;obtain⟨m2,e2⟩:=tbls b _ U;exact⟨m1++m2,by rw[e2,Array.append_assoc]⟩
 ·obtain⟨m,hn,hl⟩:=I.loc;refine⟨m,ns m hn,fun i x v U e2 e3=>?_⟩;obtain⟨u,r,l⟩:=hl i x v U e2 e3;refine⟨u,r,?_⟩;rcases l with l|⟨k,c,e,z⟩
  ·exact .inl l
  ·exact .inr ⟨k,c,e,O x c e _ z⟩
 ·obtain⟨v,z⟩:=I.cell x c e;exact⟨v,O x c e v z⟩
 ·obtain⟨m,⟨o,_,_,ho,_⟩,_⟩:=I.loc;exact free _ o (fun z=>(M _ z).2.1 rfl) ho I.free
 ·obtain⟨v,o,ho,hd⟩:=I.cell x c e;exact free c o (fun z=>(M c z).2.2.1 x c e rfl) ho (I.freeC x c e)
 ·obtain⟨e,n,ne,nf,d⟩:=I.pin p hp;have R:p.1∉ch:=fun z=>(M p.1 z).2.2.2 p hp rfl;exact⟨keep p.1 p.2 ne nf R e n,free p.1 p.2 R e n,ne,nf,d⟩
def Inv.un{t':Nat}(I:Inv X Kf σ H s)(u:Un X.fs [] H H' s.heap h')(hok:fP X.prog X.w H' h'):Inv X Kf σ H' { s with heap:=h',toks:=t' }:=by
 obtain⟨m,⟨o,es,ep,U,r⟩,_⟩:=id I.loc;obtain⟨sl,Y⟩:=u.any U I.free (by simp);exact I.step (g':=s.gens) (d':=s.drawn) (ch:=[]) (fun _ z=>nomatch z) (fun b o _ M _ e n=>u.keep b o e n M (by simp)) (fun b o _ M _ e n=>u.slot b o e n M (by simp)) (fun b o _ e n=>u.free b o e n (by simp)) (fun b o _ e=>u.there b o e (by simp)) u.tups u.frzs u.tbls (fun m' Z=>by
  obtain⟨o',O,R,F,r'⟩:=Z;rw[U]at F;cases F;exact⟨_,O,R,Y,r'⟩) hok I.bare
def Inv.call{g':K3 GenState}{t':Nat}{d':Drawn}{ch:KQ KU}(I:Inv X Kf σ H s)(u:Un (fE X.stack) ch H H' s.heap h')(hok:fP X.prog X.w H' h')(hg:AllBare g')
  (M:∀b∈ch,(b∈X.ex∨X.s₀.heap.objs.size≤b)∧b≠X.env.locals∧(∀x c,X.env.cells.lookup x=some c->c≠b)∧∀p∈X.pn++Kf,p.1≠b) :
  Inv X Kf σ H' { s with heap:=h',gens:=g',drawn:=d',toks:=t' }:=by
 obtain⟨m,⟨o,es,ep,Z,r⟩,_⟩:=id I.loc;obtain⟨sl,R⟩:=u.any Z I.free fun z=>(M _ z).2.1 rfl;exact I.step (ch:=ch) M (fun b o R hb F e n=>u.keep b o e n (fun z=>(AK.mp (I.stkSub b z)).elim R hb) F) (fun b o _ _ F e n=>u.any e n F) (fun b o F e n=>u.free b o e n F) (fun b o F e=>u.there b o e F) u.tups u.frzs u.tbls (fun m' hm=>by
  obtain⟨o',U,Y,O,r'⟩:=hm;rw[Z]at O;cases O;exact⟨_,U,Y,R,r'⟩) hok hg
def Inv.turned{t':Nat}{it:KU}(I:Inv X Kf σ H s)(k:∀b o,b≠it->s.heap.get? b=some o->h'.get? b=some o)(R:H it=none)(O:it≠X.env.locals)
  (U:it∈X.ex∨X.s₀.heap.objs.size≤it) (Y:∀x c,X.env.cells.lookup x=some c->c≠it) (Z:∀p∈X.pn++Kf,p.1≠it):Inv X Kf σ H { s with heap:=h',toks:=t' }:=by
 have M:∀b u,H b=some u->b≠it:=fun b u e z=>by rw[z,R]at e;cases e
 refine I.step (g':=s.gens) (d':=s.drawn) (ch:=[it]) (fun b hb=>?_) (fun b o _ _ F e _=>k b o (fun z=>F (by simp[z])) e) (fun b o _ _ F e _=>⟨o.slots,k b o (fun z=>F (by simp[z])) e⟩) (fun _ _ _ _ n=>n)
  (fun b o F e=>⟨o,k b o (fun z=>F (by simp[z])) e⟩) (fun _ _ e=>e) (fun _ _ _ e=>e) (fun b ps e=>⟨#[],by rw[e];simp⟩) (fun m hm=>?_) (fun b u e=>?_) I.bare
 ·have e:b=it:=by simpa using hb
  subst e;exact⟨U,O,Y,Z⟩
 ·obtain⟨o,es,ep,ho,r⟩:=hm;exact⟨o,es,ep,k _ o (Ne.symm O) ho,r⟩
 ·refine (I.hok b u e).stay (fun c v F q=>k c v ?_ q) (fun _ q=>q) fun _ _ q=>q;rcases F with z|z
  ·rw[z];exact M b u e
  ·exact M c _ z
def Inv.tok(I:Inv X Kf σ H s)(t:Nat):Inv X Kf σ H { s with toks:=t }:=I.un (h':=s.heap) (t':=t) Un.refl I.hok
def Inv.kept{t':Nat}(I:Inv X Kf σ H s)(k:∀b u,s.heap.get? b=some u->h'.get? b=some u):Inv X Kf σ H { s with heap:=h',toks:=t' }:=I.un (Un.kept k) (I.hok.kept k)
def Inv.laid{a:KU}{o:HO}{t':Nat}(I:Inv X Kf σ H s)(k:∀b u,s.heap.get? b=some u->h'.get? b=some u)(F:s.heap.objs.size≤a)(new:ey X.prog X.w (dW H a o) h' a o) :
  Inv X Kf σ (dW H a o) { s with heap:=h',toks:=t' }:=I.un (Un.laid k F (I.hok.fresh F)) (I.hok.laid k F new)
def Inv.write{x e:KU}{o:HO}{t':Nat}(I:Inv X Kf σ H s)(M:kx (H x))(he:e=x∨H e=some (.own x))(k:∀b u,b≠e->s.heap.get? b=some u->h'.get? b=some u)(F:∃u,h'.get? e=some u)
  (new:ey X.prog X.w (dW H x o) h' x o):Inv X Kf σ (dW H x o) { s with heap:=h',toks:=t' }:=I.un (Un.write M he k F) (I.hok.write M he k F new)
def Inv.pins_of{F:KQ (KU×Obj)}(I:Inv X Kf σ H s)(h:∀p∈F,s.heap.get? p.1=some p.2∧H p.1=none∧p.1≠X.env.locals∧p.1∉X.fs∧∀v,p.2.data≠ .cell v):Inv X F σ H s :=
 ⟨I.ok,I.os,I.bare,I.base,I.loc,I.cell,I.free,I.freeC,fun p M=>(At.mp M).elim (fun z=>I.pin p (List.mem_append_left _ z)) (h p),I.hok,I.len,I.hnd⟩
def Yh{N:KQ Str}(F:N.Nodup){i j:Nat}{x:Str}(a:N[i]? = some x)(b:N[j]? = some x):i=j:=by obtain⟨O,I⟩:=AT.mp a;obtain⟨R,M⟩:=AT.mp b;exact (List.getElem_inj F).mp (I.trans M.symm)
def Dz{M:Model}{A:K1}{E:KR->KS->Prop}{i:Nat}{x:Str}{v:V}{u:KR}{Q:Unit->KS->Prop}(I:Inv X Kf σ H s)(hN:X.N.Nodup)(hi:X.N[i]? = some x)(R:Loc X.env.scope x)(r:RelV v u)
  (h:∀s',Inv X Kf (σ.set i (some v)) H s'->(∃a,Heap.SameBut a s.heap s'.heap∧(a=X.env.locals∨X.env.cells.lookup x=some a))->Q () s') (hf:X.fn x=true∨X.env.scope.names.lookup x=some .local:=by first|exact .inl rfl|exact .inr rfl|assumption):wpAny M A (storeName X.env x u) Q E s:=by
 obtain⟨m,hn,hl⟩:=id I.loc;have a1:(X.env.scope.kind == .class||(X.env.scope.kind == .module&&X.env.locals != X.env.globals))=false:=by rw[I.ok.kind];rfl
 have a2:i<σ.length:=by rw[I.len];exact (AT.mp hi).1
 have cne:=I.cne;have F:∀{a:KU} {h':Heap},(∃o,s.heap.get? a=some o∧H a=none)->Heap.SameBut a s.heap h'->fP X.prog X.w H h':=fun {a h'} ha hs b ob e=>by
  obtain⟨_,_,U⟩:=ha;refine (I.hok b ob e).stay (fun c w' hc q=>(hs.2 c ?_).trans q) (fun _ q=>q) fun _ _ q=>q;rintro rfl;rcases hc with rfl|hc
  ·rw[U]at e;cases e
  ·rw[U]at hc;cases hc
 rcases R with hk|hk
 ·refine wpAny_storeName_local hk hn (fun h' a7 hs=>?_) a1;obtain⟨oL,_,_,a8,_⟩:=id hn;refine h _ ⟨I.ok,I.os,I.bare,⟨fun b o e n Z R=>?_,fun b o e n Z R=>?_,I.base.free,fun b o e R=>?_,I.base.tups,I.base.frzs,I.base.tbls⟩,⟨_,a7,fun j y v' O Y e3=>?_⟩,fun y c e=>?_,I.free,I.freeC,fun p hp=>?_,F ⟨oL,a8,I.free⟩ hs,by simpa using I.len,I.hnd⟩ ⟨_,hs,.inl rfl⟩;exact (hs.2 b (Aa (Ax (AL e) I.ok.above))).trans (I.base.keep b o e n Z R);obtain⟨sl,O⟩:=I.base.slot b o e n Z R;exact⟨sl,(hs.2 b (Aa (Ax (AL e) I.ok.above))).trans O⟩;obtain⟨o',O⟩:=I.base.there b o e R;exact⟨o',(hs.2 b (Aa (Ax (AL e) I.ok.above))).trans O⟩
  ·by_cases hj:j=i;subst hj;rw[hi]at O;cases O;rw[BT a2]at Y;cases Y;exact⟨u,r,.inl ⟨hk,by simp⟩⟩
   ·rw[Bb (Ne.symm hj)]at Y;obtain⟨u',r',q⟩:=hl j y v' O Y e3;refine⟨u',r',?_⟩;rcases q with⟨k,e⟩|⟨k,c,e,z⟩
    ·refine .inl ⟨k,?_⟩
     have:y≠x:=fun e=>hj (Yh hN O (e ▸ hi))
     simp[this,e]
    ·exact .inr ⟨k,c,e,z.sameBut hs (cne y c e)⟩
  ·obtain⟨w',z⟩:=I.cell y c e;exact⟨w',z.sameBut hs (cne y c e)⟩
  ·obtain⟨e,n,ne,nf,d⟩:=I.pin p hp;exact⟨(hs.2 p.1 ne).trans e,n,ne,nf,d⟩
 ·have a0:X.fn x=true:=by
   rcases hf with z|z
   ·exact z
   ·rw[z]at hk;cases hk
  obtain⟨c,hc⟩:=I.ok.has x (.inl hk);obtain⟨w',z⟩:=I.cell x c hc;refine wpAny_storeName_cell I.ok.kind hk hc z (fun h' a3 hs=>?_);obtain⟨oc,a4,a5⟩:=id z;refine h { s with heap:=h' } ⟨I.ok,I.os,I.bare,⟨fun b o e n Z R=>?_,fun b o e n Z R=>?_,I.base.free,fun b o e R=>?_,I.base.tups,I.base.frzs,I.base.tbls⟩,⟨m,hn.sameBut hs (Ne.symm (cne x c hc)),fun j y v' O Y e3=>?_⟩,fun y c' e=>?_,I.free,I.freeC,fun p hp=>?_,F ⟨oc,a4,I.freeC x c hc⟩ hs,by simpa using I.len,I.hnd⟩ ⟨c,hs,.inr hc⟩;exact (hs.2 b (Aa (Ax (AL e) (I.ok.cab x c a0 hc)))).trans (I.base.keep b o e n Z R);obtain⟨sl,O⟩:=I.base.slot b o e n Z R;exact⟨sl,(hs.2 b (Aa (Ax (AL e) (I.ok.cab x c a0 hc)))).trans O⟩;obtain⟨o',O⟩:=I.base.there b o e R;exact⟨o',(hs.2 b (Aa (Ax (AL e) (I.ok.cab x c a0 hc)))).trans O⟩
  ·by_cases hj:j=i;subst hj;rw[hi]at O;cases O;rw[BT a2]at Y;cases Y;exact⟨u,r,.inr ⟨.inl hk,c,hc,a3⟩⟩
   ·rw[Bb (Ne.symm hj)]at Y;obtain⟨u',r',q⟩:=hl j y v' O Y e3;refine⟨u',r',?_⟩;rcases q with q|⟨k,c',e,z'⟩
    ·exact .inl q
    ·refine .inr ⟨k,c',e,z'.sameBut hs ?_⟩;rintro rfl;exact hj (Yh hN O (I.ok.inj _ _ _ e hc ▸ hi))
  ·by_cases a6:c'=c;subst a6;exact⟨_,a3⟩;obtain⟨w2,z2⟩:=I.cell y c' e;exact⟨w2,z2.sameBut hs a6⟩
  ·obtain⟨e,n,ne,nf,d⟩:=I.pin p hp;refine⟨(hs.2 p.1 ?_).trans e,n,ne,nf,d⟩;intro q;rw[q,a4]at e;have q':oc=p.2:=Aj e;exact d w' (by rw[←q'];exact a5)
def wg{M:Model}{A:K1}{E:KR->KS->Prop}{i:Nat}{x:Str}{v:V}{u:KR}{Q:Unit->KS->Prop}(I:Inv X Kf σ H s)(F:X.N.Nodup)(hi:X.N[i]? = some x)(O:Loc X.env.scope x)(r:RelV v u)
  (h:∀s',Inv X Kf (σ.set i (some v)) H s'->Q () s') (R:X.fn x=true∨X.env.scope.names.lookup x=some .local:=by first|exact .inl rfl|exact .inr rfl|assumption):wpAny M A (storeName X.env x u) Q E s :=
 Dz I F hi O r (fun s' U _=>h s' U) R
def Inv.call'{s':KS}{ch:KQ KU}(I:Inv X Kf σ H s)(U:s'.os=s.os)(u:Un (fE X.stack) ch H H' s.heap s'.heap)(hok:fP X.prog X.w H' s'.heap)(Y:AllBare s'.gens)
  (F:∀b∈ch,(b∈X.ex∨X.s₀.heap.objs.size≤b)∧b≠X.env.locals∧(∀x c,X.env.cells.lookup x=some c->c≠b)∧∀p∈X.pn++Kf,p.1≠b):Inv X Kf σ H' s':=by obtain⟨h',M,O,R,o'⟩:=s';have e:o'=s.os:=U;subst e;exact I.call (g':=M) (t':=R) (d':=O) u hok Y F
end
abbrev XK:=KR->KW KU->Hp->Prop
abbrev St:=KQ (KW V)
abbrev VK:=V->Hp->Prop
abbrev TE:=St->Hp->VK->Prop
abbrev TT:=St->Hp->(Bool->Hp->Prop)->Prop
abbrev TA:=St->Hp->(KQ V->Hp->Prop)->Prop
structure fR where
 nx:St->Hp->Prop
 rt:VK
 bk:St->Hp->Prop:=fun _ _=>False
 ct:St->Hp->Prop:=fun _ _=>False
abbrev TS:=fR->St->Hp->Prop
def EP(X:Cx)(Kf:KQ (KU×Obj))(σ:St)(Q:VK)(u:KR)(s':KS):Prop:=∃v H',Inv X Kf σ H' s'∧RelV v u∧Q v H'
def TP(X:Cx)(Kf:KQ (KU×Obj))(σ:St)(Q:Bool->Hp->Prop)(b:Bool)(s':KS):Prop:=∃H',Inv X Kf σ H' s'∧Q b H'
def AP(X:Cx)(Kf:KQ (KU×Obj))(σ:St)(Q:KQ V->Hp->Prop)(us:KQ KR)(s':KS):Prop:=∃vs H',Inv X Kf σ H' s'∧Vals vs us∧Q vs H'
def SP(X:Cx)(Kf:KQ (KU×Obj))(D:fR)(f:Flow)(s':KS):Prop :=
 match f with| .next=>∃F H',Inv X Kf F H' s'∧D.nx F H'| .brk=>∃F H',Inv X Kf F H' s'∧D.bk F H'| .cont=>∃F H',Inv X Kf F H' s'∧D.ct F H'| .ret u=>∃v F H',Inv X Kf F H' s'∧RelV v u∧D.rt v H'
def PE(X:Cx)(e:K2)(t:TE):Prop :=
 ∀(Kf:KQ (KU×Obj)) (s:KS) (σ:St) (H:Hp) (Q:VK),Inv X Kf σ H s->t σ H Q->wpAny (model X.prog X.w) X.A (eval e X.env) (EP X Kf σ Q) X.xe s
def PT(X:Cx)(e:K2)(t:TT):Prop :=
 ∀(Kf:KQ (KU×Obj)) (s:KS) (σ:St) (H:Hp) (Q:Bool->Hp->Prop),Inv X Kf σ H s->t σ H Q->wpAny (model X.prog X.w) X.A (isTrue e X.env (eval e X.env)) (TP X Kf σ Q) X.xe s
def PW(X:Cx)(e:K2)(t:TT):Prop :=
 ∀(F:Sem KR) (Kf:KQ (KU×Obj)) (s:KS) (σ:St) (H:Hp) (Q:Bool->Hp->Prop),Inv X Kf σ H s->t σ H Q->wpAny (model X.prog X.w) X.A (isTrue e X.env F) (TP X Kf σ Q) X.xe s
def PW.pt{X:Cx}{e:K2}{t:TT}(h:PW X e t):PT X e t:=h _
def PA(X:Cx)(es:KQ K2)(t:TA):Prop :=
 ∀(F:Pos) (Kf:KQ (KU×Obj)) (s:KS) (σ:St) (H:Hp) (Q:KQ V->Hp->Prop),Inv X Kf σ H s->t σ H Q->wpAny (model X.prog X.w) X.A (spliced (backTo F (starEach es X.env))) (AP X Kf σ Q) X.xe s
def PS(X:Cx)(st:Stmt)(t:TS):Prop :=
 ∀(Kf:KQ (KU×Obj)) (s:KS) (σ:St) (H:Hp) (D:fR),Inv X Kf σ H s->t D σ H->wpAny (model X.prog X.w) X.A (exec st X.env) (SP X Kf D) X.xe s
def gu(X:Cx)(st:KQ Stmt)(t:TS):Prop :=
 ∀(Kf:KQ (KU×Obj)) (s:KS) (σ:St) (H:Hp) (D:fR),Inv X Kf σ H s->t D σ H->wpAny (model X.prog X.w) X.A (execs st X.env) (SP X Kf D) X.xe s
def eE{α:Type}{t:Sem α}{Q F:α->KS->Prop}{M:Model}{A:K1}{E:KR->KS->Prop}{s:KS}(h:wpAny M A t Q E s)(I:∀a s,Q a s->F a s):wpAny M A t F E s:=Bc h I fun _ _ x=>x
end L2
namespace L2
open PySem PySem.Spec PyProof.Rows
section
variable{X:Cx}
def my(i:Nat):TE:=fun σ H Q=>∃v,σ[i]? = some (some v)∧Q v H
def tC(v:V):TE:=fun _ H Q=>Q v H
def HW{i:Nat}{x:Str}{pos:Pos}(U:X.N[i]? = some x)(Y:i6 X.env.scope x)(hd:(x==("__debug__":Str))=false:=by decide)(O:(x==("__classdict__":Str))=false:=by decide):PE X (.Name x pos) (my i):=by
 intro Kf s σ H Q I h;obtain⟨v,e,h⟩:=h;obtain⟨m,Z,hl⟩:=I.loc;obtain⟨u,r,l⟩:=hl i x v U e Y;have M:EP X Kf σ Q u s:=⟨v,H,I,r,h⟩;rcases l with⟨hk,hm⟩|⟨hk,c,R,F⟩
 ·exact wpAny_Name (wpAny_loadName_local I.ok.kind hk Z hm M) hd
 ·rcases hk with hk|hk
  ·exact wpAny_Name (wpAny_loadName_cell I.ok.kind hk R F M) hd
  ·exact wpAny_Name (wpAny_loadName_free I.ok.kind hk R F M O) hd
def Ey{i j pos}:PE X (.Constant (.int i) j pos) (tC (.int i)):=fun _ _ _ H _ I h=>wpAny_Constant_int ⟨.int i,H,I.tok _,⟨_,rfl⟩,h⟩
def xo{b j pos}:PE X (.Constant (.bool b) j pos) (tC (.bl b)):=fun _ _ _ H _ I h=>Constant_bool ⟨.bl b,H,I,rfl,h⟩
def uL{j pos}:PE X (.Constant .none j pos) (tC .non):=fun _ _ _ H _ I h=>Constant_none ⟨.non,H,I,rfl,h⟩
def II{x j pos}:PE X (.Constant (.str x) j pos) (tC (.str x)):=fun _ _ _ H _ I h=>Calls.Constant_str ⟨.str x,H,I.tok _,⟨_,rfl⟩,h⟩
def Gl(X:Cx)(x:Str):Prop:=X.env.kindOf x=some .globalImplicit
def JB{E:KR->KS->Prop}{Kf:KQ (KU×Obj)}{s:KS}{σ:St}{H:Hp}{x:Str}{u:KR}{pos:Pos}{Q:KR->KS->Prop}(I:Inv X Kf σ H s)(F:Gl X x)(M:X.mg x=some u)(h:Q u s)
  (hd:(x==("__debug__":Str))=false:=by decide):wpAny (model X.prog X.w) X.A (eval (.Name x pos) X.env) Q E s :=
 Calls.Name_function_global I.ok.kind F (Calls.loadGlobal_global (by rw[I.ok.glob];exact I.mod.glob.keeps I.bk) M h) hd
def zL{E:KR->KS->Prop}{Kf:KQ (KU×Obj)}{s:KS}{σ:St}{H:Hp}{x:Str}{u:KR}{pos:Pos}{Q:KR->KS->Prop}(I:Inv X Kf σ H s)(F:Gl X x)(M:X.mg x=none)(O:bootBuiltins x=some u)(h:Q u s)
  (R:x ≠ "__name__" :=by decide) (hd:(x==("__debug__":Str))=false:=by decide):wpAny (model X.prog X.w) X.A (eval (.Name x pos) X.env) Q E s:=by obtain⟨mb,U,Y⟩:=I.mod.blt;exact Calls.Name_function_global I.ok.kind F (Calls.loadGlobal_builtin (by rw[I.ok.glob];exact I.mod.glob.keeps I.bk) M (by rw[I.ok.blt];exact U.keeps I.bk) ((Y x R).trans O) h) hd
def pS{x:Str}{v:V}{u:KR}{pos:Pos}(F:Gl X x)(M:X.mg x=some u)(r:RelV v u)(hd:(x==("__debug__":Str))=false:=by decide):PE X (.Name x pos) (tC v) :=
 fun _ _ _ H _ I h=>JB I F M ⟨v,H,I,r,h⟩ hd
def Hn{x:Str}{v:V}{u:KR}{pos:Pos}(F:Gl X x)(M:X.mg x=none)(O:bootBuiltins x=some u)(r:RelV v u)(R:x ≠ "__name__" :=by decide)(hd:(x==("__debug__":Str))=false:=by decide):PE X (.Name x pos) (tC v) :=
 fun _ _ _ H _ I h=>zL I F M O ⟨v,H,I,r,h⟩ R hd
variable{a b:K2}{ta tb:TE}{pos:Pos}
variable{tA tB':TT}{KB:KQ K2}
def xf(t u:TT):TT:=fun σ H Q=>t σ H fun c H1=>if c=true then Q true H1 else u σ H1 Q
def Fg(t:TT):TT:=fun σ H Q=>t σ H fun c H1=>Q (!c) H1
def F5(F:PT X a tA):PW X (.BoolOp .Or [a] pos) tA:=by
 intro M Kf s σ H Q I h;refine isTrue_or (eE (F Kf s σ H Q I h) fun c s1 e=>?_);cases c with|false=>exact isTrue_or_nil e|true=>exact e
def IK(O:PT X a tA)(R:PW X (.BoolOp .Or (b::KB) pos) tB'):PW X (.BoolOp .Or (a::b::KB) pos) (xf tA tB'):=by
 intro U Kf s σ H Q I h;refine isTrue_or (eE (O Kf s σ H _ I h) fun c s1 ⟨H1,F,M⟩=>?_);cases c with|true=>exact⟨H1,F,M⟩|false=>exact R U Kf s1 σ H1 Q F M
def Gu(F:PT X a tA):PT X (.UnaryOp .Not a pos) (Fg tA):=by intro Kf s σ H Q I h;exact isTrue_not (F Kf s σ H (fun c H1=>Q (!c) H1) I h)
def sE(ta tb:TE):TE:=fun σ H Q=>ta σ H fun x H1=>∃c,x= .bl c∧if c=true then tb σ H1 Q else Q (.bl false) H1
def v0(ta:TE):TE:=fun σ H Q=>ta σ H fun x H1=>∃c,x= .bl c∧Q (.bl (!c)) H1
def vQ{op}{t:TE}(h:PE X a t):PE X (.BoolOp op [a] pos) t:=fun Kf s σ H Q I F=>BoolOp_one (h Kf s σ H Q I F)
def HQ(O:PE X a ta)(R:PE X (.BoolOp .And (b::KB) pos) tb):PE X (.BoolOp .And (a::b::KB) pos) (sE ta tb):=by
 intro Kf s σ H Q I h;refine BoolOp_and (eE (O Kf s σ H _ I h) fun v s1 ⟨x,H1,M,U,F⟩=>?_);obtain⟨c,rfl,F⟩:=F;cases U;refine Cz ?_;cases c with|true=>exact R Kf s1 σ H1 Q M F|false=>exact⟨.bl false,H1,M,rfl,F⟩
def Gk(M:PE X a ta):PE X (.UnaryOp .Not a pos) (v0 ta):=by intro Kf s σ H Q I h;refine UnaryOp_ (eE (M Kf s σ H _ I h) fun v s1 ⟨x,H1,O,R,F⟩=>?_);obtain⟨c,rfl,F⟩:=F;cases R;exact not_of (Cz ⟨.bl (!c),H1,O,rfl,F⟩)
end
end L2
namespace L2
open PySem PySem.Spec PyProof.Rows
def fq(K:KY)(H:Hp)(a:KU)(xs:KQ V):Prop :=
 Rd H a (.lst xs) ∨
  ∃(o:Obj) (Ki:K3 KR) (n:Nat),K.lookup a=some o∧o.cls= .type "list" ∧o.dict=none∧o.data= .seq Ki n∧Ki.size≤sizeLine∧Vals xs Ki.toList
def fA(K:KY)(H:Hp)(a:KU)(xs:KQ V):Prop :=
 Rd H a (.tup xs) ∨
  ∃(o:Obj) (Ki:K3 KR) (n:Nat),K.lookup a=some o∧o.cls= .type "tuple" ∧o.data= .seq Ki n∧Ki.size≤sizeLine∧Vals xs Ki.toList
def Hw:KR->KW V| .none=>some .non| .bool b=>some (.bl b)| .int i _=>some (.int i)| .str x _=>some (.str x)| .bytes b _=>some (.byt b)| .float b _=>some (.flt b)| .ref a=>some (.ref a)| .type n=>some (.ty n)|_=>none
def RelV.abs{x:V}{u:KR}(r:RelV x u):Hw u=some x:=by
 cases x with|non=>cases r;rfl|bl _=>cases r;rfl|int _=>obtain⟨t,rfl⟩:=r;rfl|str _=>obtain⟨t,rfl⟩:=r;rfl|byt _=>obtain⟨t,rfl⟩:=r;rfl|flt _=>obtain⟨t,rfl⟩:=r;rfl|ref _=>cases r;rfl|ty _=>cases r;rfl
def RelV.inj{x y:V}{u:KR}(r:RelV x u)(q:RelV y u):x=y:=Aj (r.abs.symm.trans q.abs)
def Vals.inj:∀{xs F:KQ V} {us:KQ KR},Vals xs us->Vals F us->xs=F|_,_,_,.nil,.nil=>rfl|_,_,_,.cons r t,.cons I M=>by rw[r.inj I,Vals.inj t M]
section
variable{X:Cx}{Kf:KQ (KU×Obj)}{σ:St}{H:Hp}{s:KS}{a:KU}{xs ys:KQ V}
def fq.of{K:KY}(h:H a=some (.lst xs)):fq K H a xs:=.inl (.inl h)
def Inv.list(I:Inv X Kf σ H s)(h:fq X.K H a xs):∃Ki:KQ KR,Vals xs Ki∧PlainL s.heap a Ki.toArray∧xs.length≤sizeLine:=by
 rcases h with h|⟨o,Ki,n,F,M,hd,hs,O,r⟩
 ·obtain⟨z,Ki,n,r,e⟩:=h.ok I.hok;exact⟨Ki,r,⟨_,n,e,rfl,rfl,rfl⟩,z⟩
 ·refine⟨Ki.toList,r,⟨o,n,I.kIn a o F,M,hd,by simpa using hs⟩,?_⟩;have e:=r.length;simp only[AW]at e;omega
def Inv.tuple(I:Inv X Kf σ H s)(h:fA X.K H a xs):∃Ki:KQ KR,Vals xs Ki∧IsTup s.heap a Ki.toArray∧xs.length≤sizeLine:=by
 rcases h with h|⟨o,Ki,n,F,M,hs,O,r⟩
 ·obtain⟨z,Ki,r,p⟩:=h.ok I.hok;exact⟨Ki,r,p,z⟩
 ·refine⟨Ki.toList,r,⟨o,I.kIn a o F,M,n,by simpa using hs⟩,?_⟩;have e:=r.length;simp only[AW]at e;omega
def Inv.list_inj(I:Inv X Kf σ H s)(h:fq X.K H a xs)(h':fq X.K H a ys):xs=ys:=by
 obtain⟨Ki,r,⟨o,n,e,_,_,d⟩,_⟩:=I.list h;obtain⟨F,R,⟨o',U,M,_,_,O⟩,_⟩:=I.list h';rw[e]at M;cases M;rw[d]at O;injection O with d1 _
 have:Ki=F:=by simpa using CK Array.toList d1
 subst this;exact r.inj R
def Inv.tuple_inj(I:Inv X Kf σ H s)(h:fA X.K H a xs)(h':fA X.K H a ys):xs=ys:=by
 obtain⟨Ki,r,⟨o,e,_,n,d⟩,_⟩:=I.tuple h;obtain⟨F,R,⟨o',M,_,U,O⟩,_⟩:=I.tuple h';rw[e]at M;cases M;rw[d]at O;injection O with d1 _
 have:Ki=F:=by simpa using CK Array.toList d1
 subst this;exact r.inj R
end
abbrev Cx.wish(X:Cx)(E:KR->KS->Prop):Cx:={ X with xe:=E }
abbrev Cx.nox(X:Cx):Cx:=X.wish fun _ _=>False
def Cx.Ok.wish{X:Cx}(ok:X.Ok)(E:KR->KS->Prop):(X.wish E).Ok :=
 ⟨ok.mod,ok.kind,ok.glob,ok.blt,ok.above,ok.inj,ok.has,ok.cab,ok.hd,ok.frames,ok.stk,ok.exf,ok.bs,ok.bsz,ok.noex,ok.exfs,ok.funs,ok.frf⟩
def Cx.Ok.unwish{X:Cx}{E:KR->KS->Prop}(ok:(X.wish E).Ok):X.Ok :=
 ⟨ok.mod,ok.kind,ok.glob,ok.blt,ok.above,ok.inj,ok.has,ok.cab,ok.hd,ok.frames,ok.stk,ok.exf,ok.bs,ok.bsz,ok.noex,ok.exfs,ok.funs,ok.frf⟩
section
variable{X:Cx}{Kf:KQ (KU×Obj)}{σ:St}{H:Hp}{s:KS}{E:KR->KS->Prop}
def Inv.wish(I:Inv X Kf σ H s)(E:KR->KS->Prop):Inv (X.wish E) Kf σ H s:=⟨I.ok.wish E,I.os,I.bare,I.base,I.loc,I.cell,I.free,I.freeC,I.pin,I.hok,I.len,I.hnd⟩
def Inv.unwish(I:Inv (X.wish E) Kf σ H s):Inv X Kf σ H s:=⟨I.ok.unwish,I.os,I.bare,I.base,I.loc,I.cell,I.free,I.freeC,I.pin,I.hok,I.len,I.hnd⟩
def SP.unwish{D:fR}{f:Flow}{s':KS}(h:SP (X.wish E) Kf D f s'):SP X Kf D f s':=by
 cases f with|next=>obtain⟨F,H',I,q⟩:=h;exact⟨F,H',I.unwish,q⟩|brk=>obtain⟨F,H',I,q⟩:=h;exact⟨F,H',I.unwish,q⟩|cont=>obtain⟨F,H',I,q⟩:=h;exact⟨F,H',I.unwish,q⟩|ret u=>obtain⟨v,F,H',I,r,q⟩:=h;exact⟨v,F,H',I.unwish,r,q⟩
end
section
variable{X:Cx}{st:Stmt}{KB:KQ Stmt}{t u:TS}{e:K2}{te:TE}{pos:Pos}
def qLZ:TS:=fun D σ H=>D.nx σ H
def tO(t u:TS):TS:=fun D σ H=>t { D with nx:=u D } σ H
def GR:gu X [] qLZ:=fun _ _ σ H _ I h=>wpAny_execs_nil ⟨σ,H,I,h⟩
def xt(F:PS X st t)(M:gu X KB u):gu X (st::KB) (tO t u):=by
 intro Kf s σ H D I h;refine wpAny_execs_cons (eE (F Kf s σ H { D with nx:=u D } I h) fun f s1 q=>?_);cases f with|next=>obtain⟨O,H',R,q⟩:=q;exact M Kf s1 O H' D R q|ret v=>exact q|brk=>exact q|cont=>exact q
def Dg(F:PS X st t):gu X [st] t:=by
 intro Kf s σ H D I h;refine wpAny_execs_cons (eE (F Kf s σ H D I h) fun f s1 q=>?_);cases f with|next=>exact wpAny_execs_nil q|ret v=>exact q|brk=>exact q|cont=>exact q
def Inv.quiet{Kf:KQ (KU×Obj)}{σ:St}{H:Hp}{s:KS}(I:Inv X Kf σ H s):interactive X.env=false:=by simp[interactive,I.ok.kind]
def FR(te:TE):TS:=fun D σ H=>te σ H fun _ H1=>D.nx σ H1
def FK(he:PE X e te)(hs:swapsWith e none pos.line X.env=pure false:=by rfl):PS X (.Expr e pos) (FR te):=by intro Kf s σ H D I h;exact wpAny_Expr_any (eE (he Kf s σ H _ I h) fun v s1 ⟨x,H1,F,O,M⟩=>⟨σ,H1,F,M⟩) I.quiet hs
def sH(te:TE):TS:=fun D σ H=>te σ H D.rt
def ow(he:PE X e te):PS X (.Return (some e) pos) (sH te):=by intro Kf s σ H D I h;exact wpAny_Return_some (eE (he Kf s σ H _ I h) fun v s1 ⟨x,H1,F,M,O⟩=>⟨x,σ,H1,F,M,O⟩)
def G2(c:TT)(t u:TS):TS:=fun D σ H=>c σ H fun b H1=>if b=true then t D σ H1 else u D σ H1
def Dn{c:K2}{a b:KQ Stmt}{F:TT}(R:PT X c F)(U:gu X a t)(Y:gu X b u):PS X (.If c a b pos) (G2 F t u):=by
 intro Kf s σ H D I h;refine wpAny_If (eE (R Kf s σ H _ I h) fun d s1 ⟨H1,M,O⟩=>?_);cases d with|true=>exact U Kf s1 σ H1 D M O|false=>exact Y Kf s1 σ H1 D M O
def qJj:TS:=fun _ _ _=>False
def IQ:PS X st qJj:=fun _ _ _ _ _ _ h=>h.elim
end
abbrev TG:=V->St->Hp->(St->Hp->Prop)->Prop
abbrev TGs:=KQ V->St->Hp->(St->Hp->Prop)->Prop
def PG(X:Cx)(target:K2)(t:TG):Prop :=
 ∀(Kf:KQ (KU×Obj)) (s:KS) (σ:St) (H:Hp) (v:V) (u:KR) (Q:St->Hp->Prop),Inv X Kf σ H s->RelV v u->t v σ H Q ->
  wpAny (model X.prog X.w) X.A (assign target X.env u) (fun _ I=>∃F H',Inv X Kf F H' I∧Q F H') X.xe s
def ia(X:Cx)(ts:KQ K2)(t:TGs):Prop :=
 ∀(Kf:KQ (KU×Obj)) (s:KS) (σ:St) (H:Hp) (vs:KQ V) (us:KQ KR) (Q:St->Hp->Prop),Inv X Kf σ H s->Vals vs us->t vs σ H Q ->
  wpAny (model X.prog X.w) X.A (assignInOrder ((assignEach ts X.env).map (·.2)) us) (fun _ I=>∃F H',Inv X Kf F H' I∧Q F H') X.xe s
abbrev qKf:=V->V->V->Hp->(Hp->Prop)->Prop
def n5(X:Cx)(t:qKf):Prop :=
 ∀(Kf:KQ (KU×Obj)) (s:KS) (σ:St) (H:Hp) (o i v:V) (F I u:KR) (Q:Hp->Prop),Inv X Kf σ H s->RelV o F->RelV i I->RelV v u->t o i v H Q ->
  wpAny (model X.prog X.w) X.A (setItem F I u) (fun _ M=>∃H',Inv X Kf σ H' M∧Q H') X.xe s
section
variable{X:Cx}{pos:Pos}
def k7(i:Nat):TG:=fun v σ H Q=>Q (σ.set i (some v)) H
def xg{i:Nat}{x:Str}(F:X.N.Nodup)(hi:X.N[i]? = some x)(M:Loc X.env.scope x)(O:X.fn x=true∨X.env.scope.names.lookup x=some .local:=by first|exact .inl rfl|exact .inr rfl|assumption):PG X (.Name x pos) (k7 i):=by intro Kf s σ H v u Q I r h;exact wpAny_assign_Name (wg I F hi M r (fun U R=>⟨_,H,R,h⟩) O)
def qNB:TGs:=fun vs σ H Q=>vs=[]∧Q σ H
def DX(t:TG)(u:TGs):TGs:=fun vs σ H Q=>∃v r,vs=v::r∧t v σ H fun F H'=>u r F H' Q
def HE:ia X [] qNB:=by intro Kf s σ H vs us Q I r h;obtain⟨e,h⟩:=h;subst e;cases r;exact assignInOrder_nil ⟨σ,H,I,h⟩
def Hf{e:K2}{es:KQ K2}{t:TG}{u:TGs}(F:PG X e t)(M:ia X es u)
  (hs:(assignEach (e::es) X.env).map (·.2)=assign e X.env::(assignEach es X.env).map (·.2):=by rfl):ia X (e::es) (DX t u):=by
 intro Kf s σ H vs us Q I r h;obtain⟨v,vr,O,h⟩:=h;subst O;cases r with|cons r R=>rw[hs];refine CS (eE (F Kf s σ H _ _ _ I r h) fun _ s1 ⟨U,H1,Y,Z⟩=>?_);exact M Kf s1 U H1 _ _ Q Y R Z
def Gd(K:KY)(n:Nat)(t:TGs):TG:=fun v σ H Q=>∃a xs,v= .ref a∧fA K H a xs∧xs.length=n∧t xs σ H Q
def vc{es:KQ K2}{k:Nat}{t:TGs}{n:Nat}(R:X.calm=true)(h:ia X es t)
  (U:(assignEach es X.env).length=n:=by rfl) (F:(assignEach es X.env).findIdx? (·.1)=none:=by rfl):PG X (.Tuple es k pos) (Gd X.K n t):=by
 intro Kf s σ H v u Q I r M;obtain⟨a,xs,Y,Z,hl,M⟩:=M;subst Y;cases r;obtain⟨Ki,O,ht,hz⟩:=I.tuple Z;refine assign_Tuple_tuple (I.ok.hd R) ht (by simp[U,←hl,O.length]) F fun h' hx=>?_;have I1:Inv X Kf σ H { s with heap:=h' }:=I.kept (t':=s.toks) fun b o e=>hx b o (Aa (AL e)) e;exact h Kf _ σ H xs _ Q I1 (by simpa using O) M
def zp(to F:TE)(t:qKf):TG:=fun v σ H Q=>to σ H fun o H1=>F σ H1 fun i I=>t o i v I fun M=>Q σ M
def GH{o i:K2}{to O:TE}{t:qKf}(R:PE X o to)(hi:PE X i O)(hs:n5 X t)
  (U:∀v,assign (.Subscript o i pos) X.env v=(do
   let F ← holding [v] (eval o X.env);let M ← holding [v,F] (eval i X.env)
   standAt pos
   holding [v,F,M] (setItem F M v)
   release [v,F,M] []):=by intro _;rfl):PG X (.Subscript o i pos) (zp to O t):=by intro Kf s σ H v u Q I r h;rw[U];refine AA (Aq (eE (R Kf s σ H _ I h) fun F s1 ⟨x,H1,Y,Z,q1⟩=>?_));refine AA (Aq (eE (hi Kf s1 σ H1 _ Y q1) fun M s2 ⟨y,H2,I2,r2,q2⟩=>?_));refine AA (Cb (AA (Aq (eE (hs Kf s2 σ H2 x y v F M u _ I2 Z r2 r q2) fun _ s3 ⟨H3,I3,q3⟩=>?_))));exact wpAny_release ⟨σ,H3,I3,q3⟩
def k8(F:TE)(g:TG):TS:=fun D σ H=>F σ H fun x H1=>g x σ H1 D.nx
def sk{tg e:K2}{F:TE}{g:TG}(he:PE X e F)(M:PG X tg g)(hs:swapsWithSole [tg] e pos.line X.env=pure false:=by rfl)(O:swappedStores [tg] e X.env=pure none:=by rfl)
  (R:(assignEach [tg] X.env).map (·.2)=[assign tg X.env]:=by rfl):PS X (.Assign [tg] e pos) (k8 F g):=by intro Kf s σ H D I h;refine wpAny_Assign_stores (eE (he Kf s σ H _ I h) fun v s1 ⟨x,H1,U,Y,Z⟩=>?_) hs O;rw[R];exact eE (M Kf s1 σ H1 x v _ U Y Z) fun _ s2 q=>q
def ES{i:Nat}{x:Str}{e:K2}{M:TE}{F:Pos}(O:X.N.Nodup)(hi:X.N[i]? = some x)(R:Loc X.env.scope x)(he:PE X e M)(hs:swapsWith e (some (.Name x F)) pos.line X.env=pure false:=by rfl)(U:X.fn x=true∨X.env.scope.names.lookup x=some .local:=by first|exact .inl rfl|exact .inr rfl|assumption) :
  PS X (.Assign [.Name x F] e pos) (k8 M (k7 i)):=by intro Kf s σ H D I h;refine wpAny_Assign_Name (eE (he Kf s σ H _ I h) fun v s1 ⟨y,H1,Y,Z,q1⟩=>?_) hs;exact wg Y O hi R Z (fun s2 I2=>⟨_,H1,I2,q1⟩) U
def v9(i j:Nat)(F:TA):TS:=fun D σ H=>F σ H fun vs H1=>∃v w,vs=[v,w]∧D.nx ((σ.set i (some v)).set j (some w)) H1
def HI{i j:Nat}{x y:Str}{a b:K2}{ta:TA}{R U pt:Pos}{Y k2 F}(hc:X.calm=true)(hN:X.N.Nodup)(hi:X.N[i]? = some x)(hj:X.N[j]? = some y)(Z:i≠j)
  (hx:X.env.scope.names.lookup x=some .local) (hy:X.env.scope.names.lookup y=some .local) (ha:PA X [a,b] ta)
  (hw:swappedStores [.Tuple [.Name x R,.Name y U] Y pt] (.Tuple [a,b] k2 F) X.env=pure (some [x,y]))
  (hs:swapsWithSole [.Tuple [.Name x R,.Name y U] Y pt] (.Tuple [a,b] k2 F) pos.line X.env=pure false:=by rfl) :
  PS X (.Assign [.Tuple [.Name x R,.Name y U] Y pt] (.Tuple [a,b] k2 F) pos) (v9 i j ta):=by
 intro Kf s σ H D I h;rw[exec_Assign_arm];refine AA (Cb ?_);rw[hs];refine AA (AB ?_);rw[AD (by decide)];refine AA (Tuple_ (eE (ha _ Kf s σ H _ I h) fun us s1 ⟨vs,H1,I1,r1,q1⟩=>?_));obtain⟨v,w,e1,q1⟩:=q1;subst e1;obtain⟨M,O,rfl,rv,a0⟩:∃M O,us=[M,O]∧RelV v M∧RelV w O:=by
  cases r1 with
  |cons p q =>
   cases q with|cons p' q'=>cases q';exact⟨_,_,rfl,p,p'⟩
 refine A3 ?_ (by show 2≤sizeLine;decide);have I2:Inv X Kf σ H1 { s1 with heap:=s1.heap.push { cls:=.type "tuple",data:=.seq [M,O].toArray } }:=I1.kept (t':=s1.toks) fun b o e=>AC _ e;rw[hw];refine AA (AB ?_);show wpAny (model X.prog X.w) X.A (do rule "assign.swapped-stores";let items ← unpackItems (.ref s1.heap.objs.size) 2 none;assignInOrder [fun v=>bindName X.env y v,fun v=>bindName X.env x v] items.reverse;pure Flow.next) _ _ _;refine AA (Cu (AA (unpackItems_tuple (items := #[M,O]) (I.ok.hd hc) (IsTup.new s1.heap _) fun h' a1=>?_)));have I3:=I2.kept (h':=h') (t':=s1.toks) fun b o e=>a1 b o (Aa (AL e)) e;show wpAny _ _ (assignInOrder [fun v=>bindName X.env y v,fun v=>bindName X.env x v] [O,M] >>= fun _=>pure Flow.next) _ _ _;refine AA (CS (DO (wg I3 hN hj (.inl hy) a0 (fun s2 I4=>?_) (.inr hy))));refine CS (DO (wg I4 hN hi (.inl hx) rv (fun s3 I5=>assignInOrder_nil (AB ?_)) (.inr hx)));rw[List.set_comm _ _ (Ne.symm Z)]at I5;exact⟨_,H1,I5,q1⟩
end
structure It where
 go:Nat->Hp->Prop
 yld:Nat->Hp->V->Hp->Prop
 stop:Nat->Hp->Prop
def zf(X:Cx)(Kf:KQ (KU×Obj))(H:Hp)(b:KU):Prop :=
 H b=none∧b≠X.env.locals∧b∉X.fs∧(b∈X.ex∨X.s₀.heap.objs.size≤b)∧(∀x c,X.env.cells.lookup x=some c->c≠b)∧∀p∈X.pn++Kf,p.1≠b
def Inv.fpOk{X:Cx}{Kf:KQ (KU×Obj)}{σ:St}{H H':Hp}{s:KS}{b:KU}(I:Inv X Kf σ H s)(F:s.heap.objs.size≤b)(M:H' b=none):zf X Kf H' b:=by
 refine⟨M,Bt (Ax I.lt F),I.nofs F,.inr (Ab I.sz F),fun x c e z=>?_,fun p O z=>?_⟩;obtain⟨v,q⟩:=I.cell x c e;exact absurd (Ax q.lt (by rw[z];exact F)) (Bw _);exact absurd (Ax (AL (I.pin p O).1) (by rw[z];exact F)) (Bw _)
def Inv.hndH{X:Cx}{Kf:KQ (KU×Obj)}{σ:St}{H:Hp}{s:KS}(I:Inv X Kf σ H s):EX.Hnd X.A s.heap:=fun v F=>by obtain⟨M,O,u,vs,R,U,Y⟩:=I.hnd v F;exact⟨M,O,vs,R,(I.hok _ _ U).1,Y⟩
def Inv.hndNe{X:Cx}{Kf:KQ (KU×Obj)}{σ:St}{H:Hp}{s:KS}(I:Inv X Kf σ H s){it:KU}(M:H it=none):∀v,X.A.handled=some v->v≠ .ref it:=fun v O z=>by obtain⟨U,Y,u,vs,R,F,Z⟩:=I.hnd v O;rw[R]at z;cases z;rw[M]at F;cases F
structure gC (P:Program) (w:World) (K:W.Frag) (A:Around) (tg:Expr) (J:It) (fp:List Addr) (it:Addr) (tn:Nat->Heap->Prop):Prop where
 mem:it∈fp
 obj:∀i h,tn i h->∀b∈fp,∃o,h.get? b=some o∧∀v,o.data≠ .cell v
 keep:∀i h h',tn i h->(∀b∈fp,∀o,h.get? b=some o->h'.get? b=some o)->tn i h'
 item:∀(X:Cx),X.prog=P->X.w=w->X.K=K->X.A=A->∀(i:Nat) (Kf:List (Addr×Obj)) (s:Shared) (σ:St) (H:Hp) (E:Value->Shared->Prop),Inv X Kf σ H s->(∀b∈fp,zf X Kf H b)->tn i s.heap->J.go i H ->
  wpAny (model P w) X.A (pyNext (.ref it)) (fun r s1=>∃u,r=some u ∧
   wpAny (model P w) X.A (letOwnedTupleGo tg (.ref it) u) (fun _ s2=>∃x H',Inv X Kf σ H' s2∧RelV x u∧J.yld i H x H'∧tn (i+1) s2.heap∧∀b∈fp,H' b=none) E s1) E s
 done:∀(X:Cx),X.prog=P->X.w=w->X.K=K->X.A=A->∀(i:Nat) (Kf:List (Addr×Obj)) (s:Shared) (σ:St) (H:Hp) (E:Value->Shared->Prop),Inv X Kf σ H s->(∀b∈fp,zf X Kf H b)->tn i s.heap->J.stop i H ->
  wpAny (model P w) X.A (pyNext (.ref it)) (fun r s1=>r=none∧Inv X Kf σ H s1) E s
 self:∀(A:Around) (i:Nat) (s:Shared) (Q:Value->Shared->Prop) (E:Value->Shared->Prop),tn i s.heap->Q (.ref it) s->wpAny (model P w) A (pyIter (.ref it)) Q E s
abbrev TI:=St->Hp->(It->Hp->Prop)->Prop
def pi(X:Cx)(Kf:KQ (KU×Obj))(σ:St)(tg:K2)(R:It->Hp->Prop)(F:KR)(s2:KS):Prop :=
 ∃(it:KU) (fp:KQ KU) (tn:Nat->Heap->Prop) (J:It) (H':Hp),F= .ref it∧Inv X Kf σ H' s2∧gC X.prog X.w X.K X.A tg J fp it tn∧tn 0 s2.heap∧(∀b∈fp,zf X Kf H' b)∧R J H'
def PI(X:Cx)(tg iter:K2)(F:TI):Prop :=
 ∀(Kf:KQ (KU×Obj)) (s:KS) (σ:St) (H:Hp) (R:It->Hp->Prop),Inv X Kf σ H s->F σ H R ->
  wpAny (model X.prog X.w) X.A (eval iter X.env) (fun v s1=>wpAny (model X.prog X.w) X.A (pyIter v) (pi X Kf σ tg R) X.xe s1) X.xe s
def kD{M : Model}{A : K1}{E : KR->KS->Prop}{s : KS}{tg : K2}{it : KU}{u : KR}{o : Obj}{n : String}{vs : K3 KR}{Q : Unit->KS->Prop}(I : s.heap.get? it=some o)(O : o.cls= .type n)(hd : o.data= .fields vs)
    (R : ["enumerate", "zip", "dict_itemiterator", "dict_reverseitemiterator", "odict_iterator", "itertools.zip_longest", "itertools.pairwise"].contains n=false) (F : Q () s) : wpAny M A (letOwnedTupleGo tg (.ref it) u) Q E s:=by
  unfold letOwnedTupleGo;cases tg <;> first
    |exact AB F
    |(cases u <;> first
        |exact AB F
        | (refine AA (wpAny_load I ?_)
           rw[O, hd];show wpAny M A (if (["enumerate", "zip", "dict_itemiterator", "dict_reverseitemiterator", "odict_iterator", "itertools.zip_longest", "itertools.pairwise"].contains n&&vs[0]? == some (rawInt _))=true then _ else _) Q E s;rw[AD (by intro h; rw[R, Ci]at h; cases h)];exact AB F))
def l7(K:KY)(a:KU):It :=
 ⟨fun i H=>∃xs x,fq K H a xs∧xs[i]? = some x,fun i H x H'=>H'=H∧∀xs,fq K H a xs->xs[i]? = some x,fun i H=>∃xs,fq K H a xs∧xs.length≤i⟩
def lF(K:KY)(a:KU):It :=
 ⟨fun i H=>∃xs x,fA K H a xs∧xs[i]? = some x,fun i H x H'=>H'=H∧∀xs,fA K H a xs->xs[i]? = some x,fun i H=>∃xs,fA K H a xs∧xs.length≤i⟩
def i5(lo:Int)(n:Nat):It:=⟨fun i _=>i<n,fun i H x H'=>H'=H∧x= .int (lo+i),fun i _=>n≤i⟩
def F8{P:KZ}{w:K0}{K:KY}{A:K1}{tg:K2}(a it:KU):gC P w K A tg (l7 K a) [it] it (fun i h=>h.IsListIter it a i) where
 mem:=by simp
 obj:=fun i h st b hb=>by
  have e:b=it:=by simpa using hb
  subst e;obtain⟨o,e,c,d⟩:=st;exact⟨o,e,fun v z=>by rw[d]at z;cases z⟩
 keep:=fun i h h' st k=>st.at fun o e=>k it (by simp) o e
 item:=by
  intro X hP hw hK _ i Kf s σ H E I hf st hg;subst hP hw hK;obtain⟨xs,x,hq,hx⟩:=hg;obtain⟨Ki,rv,p,hz⟩:=I.list hq;obtain⟨u,hu,ru⟩:=rv.get hx;obtain⟨f0,f1,f2,f3,f4,f5⟩:=hf it (by simp);refine wpAny_pyNext_list_item st p.isList (x:=u) (by simpa using hu) fun h' Km sb=>?_;have I1:Inv X Kf σ H { s with heap:=h' }:=I.turned (t':=s.toks) (fun b o hb e=>(sb.2 b hb).trans e) f0 f1 f3 f4 f5;obtain⟨o,e,c,d⟩:=id Km;exact⟨u,rfl,kD (s:={ s with heap:=h' }) e c d (by decide) ⟨x,H,I1,ru,⟨rfl,fun ys hy=>by rw[I.list_inj hy hq];exact hx⟩,Km,fun b hb=>(hf b hb).1⟩⟩
 done:=by
  intro X hP hw hK _ i Kf s σ H E I hf st hg;subst hP hw hK;obtain⟨xs,hq,hx⟩:=hg;obtain⟨Ki,rv,p,hz⟩:=I.list hq;obtain⟨f0,f1,f2,f3,f4,f5⟩:=hf it (by simp);have hl:=rv.length;exact EX.list_end I.hndH st p.isList (by simp;omega) (I.hndNe f0) fun h' eb=>⟨rfl,I.turned (t':=s.toks) (fun b o hb e=>eb b o hb e) f0 f1 f3 f4 f5⟩
 self:=fun _ _ _ _ _ st h=>wpAny_pyIter_listiter st h
def FW{P:KZ}{w:K0}{K:KY}{A:K1}{tg:K2}(a it:KU):gC P w K A tg (lF K a) [it] it (fun i h=>h.IsTupleIter it a i) where
 mem:=by simp
 obj:=fun i h st b hb=>by
  have e:b=it:=by simpa using hb
  subst e;obtain⟨o,e,c,d⟩:=st;exact⟨o,e,fun v z=>by rw[d]at z;cases z⟩
 keep:=fun i h h' st k=>st.at fun o e=>k it (by simp) o e
 item:=by
  intro X hP hw hK _ i Kf s σ H E I hf st hg;subst hP hw hK;obtain⟨xs,x,hq,hx⟩:=hg;obtain⟨Ki,rv,p,hz⟩:=I.tuple hq;obtain⟨u,hu,ru⟩:=rv.get hx;obtain⟨f0,f1,f2,f3,f4,f5⟩:=hf it (by simp);refine wpAny_pyNext_tuple_item st (show s.heap.IsTuple a Ki.toArray from p) (x:=u) (by simpa using hu) fun h' Km sb=>?_;have I1:Inv X Kf σ H { s with heap:=h' }:=I.turned (t':=s.toks) (fun b o hb e=>(sb.2 b hb).trans e) f0 f1 f3 f4 f5;obtain⟨o,e,c,d⟩:=id Km;exact⟨u,rfl,kD (s:={ s with heap:=h' }) e c d (by decide) ⟨x,H,I1,ru,⟨rfl,fun ys hy=>by rw[I.tuple_inj hy hq];exact hx⟩,Km,fun b hb=>(hf b hb).1⟩⟩
 done:=by
  intro X hP hw hK _ i Kf s σ H E I hf st hg;subst hP hw hK;obtain⟨xs,hq,hx⟩:=hg;obtain⟨Ki,rv,p,hz⟩:=I.tuple hq;obtain⟨f0,f1,f2,f3,f4,f5⟩:=hf it (by simp);have hl:=rv.length;exact EX.tuple_end I.hndH st (show s.heap.IsTuple a Ki.toArray from p) (by simp;omega) (I.hndNe f0) fun h' eb=>⟨rfl,I.turned (t':=s.toks) (fun b o hb e=>eb b o hb e) f0 f1 f3 f4 f5⟩
 self:=fun _ _ _ _ _ st h=>wpAny_pyIter_tupleiter st h
def HV{P:KZ}{w:K0}{K:KY}{A:K1}{tg:K2}(it:KU)(lo:Int)(n:Nat):gC P w K A tg (i5 lo n) [it] it (fun i h=>IsRangeIter h it (lo+(i:Nat)*1) ((n:Int)-(i:Nat)) 1) where
 mem:=by simp
 obj:=fun i h st b hb=>by
  have e:b=it:=by simpa using hb
  subst e;exact⟨_,st,fun v z=>by
   have z':Data.fields _=Data.cell v:=z;cases z'⟩
 keep:=fun i h h' st k=>k it (by simp) _ st
 item:=by
  intro X hP hw hK _ i Kf s σ H E I hf st hg;subst hP hw hK;obtain⟨f0,f1,f2,f3,f4,f5⟩:=hf it (by simp);refine wpAny_pyNext_range_item st (by have:i<n:=hg;omega) fun h' Km sb=>?_;have I1:Inv X Kf σ H { s with heap:=h',toks:=s.toks+1 }:=I.turned (fun b o hb e=>(sb.2 b hb).trans e) f0 f1 f3 f4 f5;have Kz:IsRangeIter h' it (lo+((i+1:Nat):Int)*1) ((n:Int)-((i+1:Nat):Int)) 1:=by
   have q1:lo+(i:Int)*1+1=lo+((i+1:Nat):Int)*1:=by omega
   have q2:(n:Int)-(i:Int)-1=(n:Int)-((i+1:Nat):Int):=by omega
   rw[←q1,←q2];exact Km
  refine⟨_,rfl,kD (s:={ s with heap:=h',toks:=s.toks+1 }) (n := "range_iterator") Kz rfl rfl (by decide) ⟨.int (lo+i),H,I1,⟨s.toks,?_⟩,⟨rfl,rfl⟩,Kz,fun b hb=>(hf b hb).1⟩⟩;rw[Int.mul_one]
 done:=by
  intro X hP hw hK _ i Kf s σ H E I hf st hg;subst hP hw hK;obtain⟨f0,f1,f2,f3,f4,f5⟩:=hf it (by simp);exact EX.range_end I.hndH st (by have:n≤i:=hg;omega) fun h' eb=>⟨rfl,I.turned (t':=s.toks) (fun b o hb e=>eb b o e) f0 f1 f3 f4 f5⟩
 self:=fun _ _ _ _ _ st h=>wpAny_pyIter_rangeiter st h
end L2
namespace L2
open PySem PySem.Spec PyProof.Rows
section
variable{X:Cx}{tg:K2}
def rS{Kf:KQ (KU×Obj)}{σ:St}{H:Hp}{s:KS}{R:It->Hp->Prop}{E:KR->KS->Prop}{lo hi:Int}{t u v:Tok}{F:Nat}(I:Inv X Kf σ H s)(O:-(2 ^ 62)≤lo)(U:lo<2 ^ 62)(Y:-(2 ^ 62)≤hi)(Z:hi<2 ^ 62)
  (q:R (i5 lo (hi-lo).toNat) H):wpAny (model X.prog X.w) X.A (pyIter (.ref s.heap.objs.size)) (pi X Kf σ tg R) E { s with heap:=s.heap.push { cls:=.type "range",data:=.fields #[.int lo t,.int hi u,.int 1 v] },toks:=F }:=by
 refine wpAny_pyIter_range (IsRange.new ..) (small_one O U Y Z) ?_;have M:Inv X Kf σ H { s with heap:=s.heap.push { cls:=.type "range",data:=.fields #[.int lo t,.int hi u,.int 1 v] },toks:=F }:=I.kept fun b o e=>AC _ e;refine⟨(s.heap.push { cls:=.type "range",data:=.fields #[.int lo t,.int hi u,.int 1 v] }).objs.size,[(s.heap.push { cls:=.type "range",data:=.fields #[.int lo t,.int hi u,.int 1 v] }).objs.size],_,_,H,rfl,
  M.kept (t':=F) fun b o e=>AC _ e,HV _ lo (hi-lo).toNat,?_,fun b hb=>?_,q⟩
 ·have e1:lo+((0:Nat):Int)*1=lo:=by simp
  have e2:(((hi-lo).toNat:Nat):Int)-((0:Nat):Int)=Builtin.Range.rangeSize lo hi 1:=by rw[rangeSize_one];split <;> omega
  show IsRangeIter _ _ (lo+((0:Nat):Int)*1) ((((hi-lo).toNat:Nat):Int)-((0:Nat):Int)) 1;rw[e1,e2];exact AR _ rfl
 ·have e:b=(s.heap.push { cls:=.type "range",data:=.fields #[.int lo t,.int hi u,.int 1 v] }).objs.size:=by simpa using hb
  subst e;exact M.fpOk (AG _) (M.hok.fresh (AG _))
def Et(F:TA):TI:=fun σ H R=>F σ H fun vs H1=>∃j:Int,vs=[.int j]∧ -(2 ^ 62)≤j∧j<2 ^ 62∧R (i5 0 j.toNat) H1
def Ed(F:TA):TI:=fun σ H R=>F σ H fun vs H1=>∃i j:Int,vs=[.int i,.int j]∧(-(2 ^ 62)≤i∧i<2 ^ 62∧ -(2 ^ 62)≤j∧j<2 ^ 62)∧R (i5 i (j-i).toNat) H1
def uU{a:K2}{M:TA}{p pos:Pos}(O:Gl X "range")(U:X.mg "range" = none)(Y:PA X [a] M)(hs:starEach [a] X.env=[(false,eval a X.env)]:=by rfl):PI X tg (.Call (.Name "range" p) [a] [] pos) (Et M):=by
 intro Kf s σ H R I h;refine Call_ (zL I O U boot_range (B2 (eE (Y pos Kf s σ H _ I h) fun us s1 ⟨vs,H1,Z,r1,F⟩=>?_) hs rfl));obtain⟨j,e,F,q2,q⟩:=F;subst e;cases r1 with|cons r rr=>cases rr;obtain⟨t,rfl⟩:=r;exact call_range_1 (rS Z (by omega) (by omega) F q2 (by simpa using q))
def vF{a b:K2}{U:TA}{p pos:Pos}(Y:Gl X "range")(Z:X.mg "range" = none)(ha:PA X [a,b] U)(hs:starEach [a,b] X.env=[(false,eval a X.env),(false,eval b X.env)]:=by rfl)(F:starEach [b] X.env=[(false,eval b X.env)]:=by rfl) :
  PI X tg (.Call (.Name "range" p) [a,b] [] pos) (Ed U):=by
 intro Kf s σ H R I h;refine Call_ (zL I Y Z boot_range (B2 (eE (ha pos Kf s σ H _ I h) fun us s1 ⟨vs,H1,I1,r1,M⟩=>?_) (by rw[hs,F]) (by rw[F];rfl)));obtain⟨i,j,e,⟨M,q2,q3,q4⟩,q⟩:=M;subst e;cases r1 with
 |cons r O =>
  cases O with|cons r' O=>cases O;obtain⟨t,rfl⟩:=r;obtain⟨t',rfl⟩:=r';exact call_range_2 (rS I1 M q2 q3 q4 q)
def xl(I:TI)(g:TG)(tb:TS):TS:=fun D σ H=>I σ H fun J H1=>∃W:Nat->Nat->St->Hp->Prop,(∃m,W 0 m σ H1)∧∀i m σ H,W i m σ H ->
 (J.stop i H∧D.nx σ H)∨(J.go i H∧∃N:St->Hp->Prop,(∀F H',N F H'->∃m',m'<m∧W (i+1) m' F H')∧∀x H',J.yld i H x H'->g x σ H' fun M O=>tb { D with nx:=N,ct:=N,bk:=D.nx } M O)
def zq(fp:KQ KU)(h:Heap):KQ (KU×Obj):=fp.filterMap fun b=>(h.get? b).map fun o=>(b,o)
def zl{fp:KQ KU}{h:Heap}{b:KU}{o:Obj}(F:b∈fp)(e:h.get? b=some o):(b,o)∈zq fp h:=DJ.mpr ⟨b,F,by rw[e];rfl⟩
def vb{fp:KQ KU}{h:Heap}{p:KU×Obj}(F:p∈zq fp h):p.1∈fp∧h.get? p.1=some p.2:=by
 obtain⟨b,I,e⟩:=DJ.mp F;cases q:h.get? b with|none=>rw[q]at e;cases e|some o=>rw[q]at e;have M:(b,o)=p:=Aj e;subst M;exact⟨I,q⟩
def Inv.pinned{Kf:KQ (KU×Obj)}{σ:St}{H:Hp}{s:KS}{fp:KQ KU}(I:Inv X Kf σ H s)(O:∀b∈fp,zf X Kf H b)(R:∀b∈fp,∃o,s.heap.get? b=some o∧∀v,o.data≠ .cell v):Inv X (Kf++zq fp s.heap) σ H s :=
 I.pins_of fun p U=>(At.mp U).elim (fun z=>I.pin p (BO _ z)) fun z=>by obtain⟨F,e⟩:=vb z;obtain⟨Y,Z,f2,_⟩:=O p.1 F;obtain⟨o,M,d⟩:=R p.1 F;rw[e]at M;cases M;exact⟨e,Y,Z,f2,d⟩
def Inv.unpinned{Kf pl:KQ (KU×Obj)}{σ:St}{H:Hp}{s:KS}(I:Inv X (Kf++pl) σ H s):Inv X Kf σ H s:=I.pins_of fun p F=>I.pin p (BO _ (List.mem_append_left _ F))
end
end L2
namespace L2
open PySem PySem.Spec PyProof.Rows
abbrev R2:=V->V->Hp->VK->Prop
def fS(X:Cx)(f:KR->KR->Sem KR)(r:R2):Prop :=
 ∀(Kf:KQ (KU×Obj)) (s:KS) (σ:St) (H:Hp) (x y:V) (v u:KR) (Q:VK),Inv X Kf σ H s->RelV x v->RelV y u->r x y H Q ->
  wpAny (model X.prog X.w) X.A (f v u) (EP X Kf σ Q) X.xe s
def lI(X:Cx)(f:KR->Sem KR)(r:V->Hp->VK->Prop):Prop :=
 ∀(Kf:KQ (KU×Obj)) (s:KS) (σ:St) (H:Hp) (x:V) (v:KR) (Q:VK),Inv X Kf σ H s->RelV x v->r x H Q ->
  wpAny (model X.prog X.w) X.A (f v) (EP X Kf σ Q) X.xe s
def Wi(X:Cx)(f:KR)(r:KQ V->Hp->VK->Prop):Prop :=
 ∀(Kf:KQ (KU×Obj)) (s:KS) (σ:St) (H:Hp) (xs:KQ V) (us:KQ KR) (Q:VK),Inv X Kf σ H s->Vals xs us->r xs H Q ->
  wpAny (model X.prog X.w) X.A (call f us) (EP X Kf σ Q) X.xe s
def vD(X:Cx)(r:V->Hp->(Bool->Hp->Prop)->Prop):Prop :=
 ∀(Kf:KQ (KU×Obj)) (s:KS) (σ:St) (H:Hp) (x:V) (v:KR) (Q:Bool->Hp->Prop),Inv X Kf σ H s->RelV x v->r x H Q ->
  wpAny (model X.prog X.w) X.A (truthy v) (TP X Kf σ Q) X.xe s
def i9(r:R2)(F tb:TE):TE:=fun σ H Q=>F σ H fun x H1=>tb σ H1 fun y I=>r x y I Q
def xQ(r:V->Hp->VK->Prop)(F:TE):TE:=fun σ H Q=>F σ H fun x H1=>r x H1 Q
def rI(C:Int->Int->Prop)(g:Int->Int->V):R2:=fun x y H Q=>∃i j,x= .int i∧y= .int j∧C i j∧Q (g i j) H
def iw(g:Int->Int->V):R2:=fun x y H Q=>∃i j,x= .int i∧y= .int j∧Q (g i j) H
def rU(g:Int->V):V->Hp->VK->Prop:=fun x H Q=>∃i,x= .int i∧Q (g i) H
section
variable{X:Cx}{a b c:K2}{ta tb tc:TE}{pos:Pos}
def mn(M:PE X a ta)(O:PE X b tb){Kf:KQ (KU×Obj)}{s:KS}{σ:St}{H:Hp}{R:V->V->Hp->Prop}(I:Inv X Kf σ H s)
  (h:ta σ H fun x H1=>tb σ H1 fun y F=>R x y F) {Q:KR->KS->Prop} {f:KR->KR->Sem KR}
  (U:∀v u s2 x y F,Inv X Kf σ F s2->RelV x v->RelV y u->R x y F->wpAny (model X.prog X.w) X.A (f v u) Q X.xe s2) :
  wpAny (model X.prog X.w) X.A (eval a X.env) (fun v Y=>wpAny (model X.prog X.w) X.A (eval b X.env) (fun u Z=>wpAny (model X.prog X.w) X.A (f v u) Q X.xe Z) X.xe Y) X.xe s:=by refine eE (M Kf s σ H _ I h) fun v s1 ⟨x,H1,I1,r1,q1⟩=>?_;refine eE (O Kf s1 σ H1 _ I1 q1) fun u s2 ⟨y,F,I2,r2,q2⟩=>?_;exact U v u s2 x y F I2 r1 r2 q2
def sd{op:Operator}{r:R2}(F:fS X (binaryOp op) r)(M:PE X a ta)(O:PE X b tb):PE X (.BinOp a op b pos) (i9 r ta tb):=by intro Kf s σ H Q I h;exact wpAny_BinOp (mn M O I h fun v u s2 x y R U Y Z q=>F Kf s2 σ R x y v u Q U Y Z q)
def vT{op:UnaryOp}{r:V->Hp->VK->Prop}(F:lI X (unaryOp op) r)(M:PE X a ta):PE X (.UnaryOp op a pos) (xQ r ta):=by intro Kf s σ H Q I h;exact UnaryOp_ (eE (M Kf s σ H _ I h) fun v s1 ⟨x,H1,O,R,U⟩=>F Kf s1 σ H1 x v Q O R U)
def ko{f:KR->KR->Sem KR}{C:Int->Int->Prop}{g:Int->Int->Int}
  (rule:∀(i j:Int) (t u:Tok) (s:KS) (Q:KR->KS->Prop) (E:KR->KS->Prop),C i j->Q (.int (g i j) s.toks) { s with toks:=s.toks+1 }->wpAny (model X.prog X.w) X.A (f (.int i t) (.int j u)) Q E s) :
  fS X f (rI C fun i j=>.int (g i j)):=by intro Kf s σ H x y v u Q I F M h;obtain⟨i,j,rfl,rfl,O,q⟩:=h;obtain⟨t,rfl⟩:=F;obtain⟨R,rfl⟩:=M;exact rule i j t R s _ _ O ⟨.int (g i j),H,I.tok _,⟨_,rfl⟩,q⟩
def rJ{f:KR->KR->Sem KR}{g:Int->Int->Int}
  (rule:∀(i j:Int) (t u:Tok) (s:KS) (Q:KR->KS->Prop) (E:KR->KS->Prop),Q (.int (g i j) s.toks) { s with toks:=s.toks+1 }->wpAny (model X.prog X.w) X.A (f (.int i t) (.int j u)) Q E s) :
  fS X f (iw fun i j=>.int (g i j)):=by intro Kf s σ H x y v u Q I F M h;obtain⟨i,j,rfl,rfl,q⟩:=h;obtain⟨t,rfl⟩:=F;obtain⟨O,rfl⟩:=M;exact rule i j t O s _ _ ⟨.int (g i j),H,I.tok _,⟨_,rfl⟩,q⟩
def pj{f:KR->KR->Sem KR}{g:Int->Int->Bool}
  (rule:∀(i j:Int) (t u:Tok) (s:KS) (Q:KR->KS->Prop) (E:KR->KS->Prop),Q (.bool (g i j)) s->wpAny (model X.prog X.w) X.A (f (.int i t) (.int j u)) Q E s) :
  fS X f (iw fun i j=>.bl (g i j)):=by intro Kf s σ H x y v u Q I F M h;obtain⟨i,j,rfl,rfl,q⟩:=h;obtain⟨t,rfl⟩:=F;obtain⟨O,rfl⟩:=M;exact rule i j t O s _ _ ⟨.bl (g i j),H,I,rfl,q⟩
def Il(i j:Int):Prop:=0<j∧j<1073741824
def F2(i j:Int):Prop:=0≤j∧j≤1000000∧i.natAbs<2 ^ 64
def iG(i j:Int):Prop:=(-(2 ^ 64)<i∧i<2 ^ 64)∨(-(2 ^ 64)<j∧j<2 ^ 64)
def iG.ok{i j:Int}(h:iG i j):IntMulOk i j:=by
 rcases h with⟨F,I⟩|⟨F,I⟩
 ·exact .of_left (intBits_le_64 F I)
 ·exact .of_right (intBits_le_64 F I)
def Gj:fS X (binaryOp .Add) (iw fun i j=>.int (i+j)):=rJ fun _ _ _ _ _ _ _ q=>add_int q
def vN:fS X (binaryOp .Sub) (iw fun i j=>.int (i-j)):=rJ fun _ _ _ _ _ _ _ q=>sub_int q
def Hb:fS X (binaryOp .Mult) (rI iG fun i j=>.int (i*j)):=ko fun _ _ _ _ _ _ _ F q=>mul_int q F.ok
def uw:fS X (binaryOp .FloorDiv) (rI Il fun i j=>.int (i/j)):=ko fun i j _ _ _ _ _ F q=>by have I:(0:Int)<j:=F.1;have M:j<1073741824:=F.2;exact floordiv_int (by omega) (by rw[Int.fdiv_eq_ediv_of_nonneg i (by omega)];exact q) (.inl (PyProof.noPylong_small (by omega)))
def Gi:fS X (binaryOp .Mod) (rI (fun _ j=>0<j) fun i j=>.int (i%j)):=ko fun i j _ _ _ _ _ F q=>by have I:(0:Int)<j:=F;exact mod_int' (by omega) (by rw[Int.fmod_eq_emod_of_nonneg i (by omega)];exact q)
def EO:fS X (binaryOp .Pow) (rI F2 fun i j=>.int (i ^ j.toNat)):=ko fun _ _ _ _ _ _ _ F q=>pow_int_small F.1 F.2.1 F.2.2 q
def Ff{f:KR->Sem KR}{g:Int->Int}
  (rule:∀(i:Int) (t:Tok) (s:KS) (Q:KR->KS->Prop) (E:KR->KS->Prop),Q (.int (g i) s.toks) { s with toks:=s.toks+1 }->wpAny (model X.prog X.w) X.A (f (.int i t)) Q E s) :
  lI X f (rU fun i=>.int (g i)):=by intro Kf s σ H x v Q I F h;obtain⟨i,rfl,q⟩:=h;obtain⟨t,rfl⟩:=F;exact rule i t s _ _ ⟨.int (g i),H,I.tok _,⟨_,rfl⟩,q⟩
def tu:lI X (unaryOp .USub) (rU fun i=>.int (-i)):=Ff fun _ _ _ _ _ q=>neg_int q
def uX:fS X (compareOp .Lt) (iw fun i j=>.bl (decide (i<j))):=pj fun _ _ _ _ _ _ _ q=>lt_int q
def lH:fS X (compareOp .LtE) (iw fun i j=>.bl (decide (i≤j))):=pj fun _ _ _ _ _ _ _ q=>le_int q
def lr(b:K2){op:CmpOp}(h:op≠ .In:=by decide)(F:op≠ .NotIn:=by decide):behindInMarks op b=false:=by
 have I:(op==CmpOp.In)=false:=by cases op <;> first|rfl|exact absurd rfl h
 have M:(op==CmpOp.NotIn)=false:=by cases op <;> first|rfl|exact absurd rfl F
 cases b <;> simp[behindInMarks,I,M]
def GB{op:CmpOp}{r:R2}(F:fS X (compareOp op) r)(M:PE X a ta)(O:PE X b tb)(R:behindInMarks op b=false):PE X (.Compare a [op] [b] pos) (i9 r ta tb):=by intro Kf s σ H Q I h;exact wpAny_Compare1 (mn M O I h fun v u s2 x y U Y Z ry q=>F Kf s2 σ U x y v u Q Y Z ry q) R
def IA(t:TE):TT:=fun σ H Q=>t σ H fun x H'=>∃k,x= .bl k∧Q k H'
def uF{op:CmpOp}{r:R2}(F:fS X (compareOp op) r)(M:PE X a ta)(O:PE X b tb)(R:behindInMarks op b=false):PT X (.Compare a [op] [b] pos) (IA (i9 r ta tb)):=by
 intro Kf s σ H Q I h;refine wpAny_isTrue_Compare1 (eE (M Kf s σ H _ I h) fun v s1 ⟨x,H1,U,Y,Z⟩=>eE (O Kf s1 σ H1 _ U Z) fun u s2 ⟨y,H2,I2,r2,q2⟩ =>
  eE (F Kf s2 σ H2 x y v u _ I2 Y r2 q2) fun c s3 ⟨z,H3,I3,r3,k,e,q3⟩=>?_) R
 subst e;cases r3;exact Cz ⟨H3,I3,q3⟩
def Fw(r r':R2)(ta tb tc:TE):TE:=fun σ H Q=>ta σ H fun x H1=>tb σ H1 fun y I=>r x y I fun z F=>∃k,z= .bl k ∧
 (if k=true then tc σ F fun M O=>r' y M O Q else Q (.bl false) F)
def Fn{op F:CmpOp}{r r':R2}(Z:fS X (compareOp op) r)(M:fS X (compareOp F) r')(ha:PE X a ta)(hb:PE X b tb)(hc:PE X c tc)
  (hm:lastMarks [op,F] [b,c]=false:=by with_unfolding_all rfl):PE X (.Compare a [op,F] [b,c] pos) (Fw r r' ta tb tc):=by
 intro Kf s σ H Q I h;refine Compare_chain (eE (ha Kf s σ H _ I h) fun v s1 ⟨x,H1,I1,r1,q1⟩=>chain_link (eE (hb Kf s1 σ H1 _ I1 q1) fun u s2 ⟨y,H2,I2,O,q2⟩ =>
  eE (Z Kf s2 σ H2 x y v u _ I2 r1 O q2) fun d s3 ⟨z,R,U,r3,k,e,Y⟩=>?_)) hm
 subst e;cases r3;refine Cz ?_;cases k with|false=>exact ite_ff ⟨.bl false,R,U,rfl,Y⟩|true=>exact ite_tt (chain_last (eE (hc Kf s3 σ R _ U Y) fun w' s4 ⟨z',H4,I4,r4,q4⟩=>M Kf s4 σ H4 y z' u w' Q I4 O r4 q4))
def kH(K:KY)(x:V)(H:Hp)(k:Bool):Prop :=
 match x with| .non=>k=false| .bl b=>k=b| .int i=>k=(i != 0)| .str y=>y.length≤sizeLine∧k=((y.length:Int) != 0)| .byt y=>y.size≤sizeLine∧k=((y.size:Int) != 0)| .ref p=>(∃xs,fq K H p xs∧k= !xs.isEmpty)∨(∃xs,fA K H p xs∧k= !xs.isEmpty)∨∃Kh,H p=some (.dK Kh)∧k= !Kh.isEmpty|_=>False
def t8{κ:Type}{Kh:KQ (κ×V)}{vs:KQ (κ×KR)}(r:KV Kh vs):(!vs.isEmpty)= !Kh.isEmpty:=by cases r <;> rfl
def Y0{xs:KQ V}{Ki:KQ KR}(r:Vals xs Ki):(!Ki.toArray.isEmpty)= !xs.isEmpty:=by cases r <;> simp
def yd:(sizeLine:Nat)<2 ^ 63:=by rw[Bk];decide
def IJ:vD X (fun x H Q=>∃k,kH X.K x H k∧Q k H):=by
 intro Kf s σ H x v Q I O h;obtain⟨k,e,q⟩:=h;have hl:=yd;have hs:sizeLine=16777216:=Bk;cases x with
 |non=>cases O;have F:k=false:=e;subst F;exact truthy_none ⟨H,I,q⟩
 |bl b=>cases O;have F:k=b:=e;subst F;exact Cz ⟨H,I,q⟩
 |int i=>obtain⟨t,rfl⟩:=O;have F:k=(i != 0):=e;subst F;exact PySem.P.truthy_int ⟨H,I,q⟩
 |str y=>obtain⟨t,rfl⟩:=O;obtain⟨Y,F⟩:y.length≤sizeLine∧k=((y.length:Int) != 0):=e;subst F;exact PySem.P.truthy_str (by omega) ⟨H,I.tok _,q⟩
 |byt y=>obtain⟨t,rfl⟩:=O;obtain⟨Y,F⟩:y.size≤sizeLine∧k=((y.size:Int) != 0):=e;subst F;exact W.truthy_bytes (by omega) ⟨H,I.tok _,q⟩
 |ref p =>
  cases O;have F:(∃xs,fq X.K H p xs∧k= !xs.isEmpty)∨(∃xs,fA X.K H p xs∧k= !xs.isEmpty)∨∃Kh,H p=some (.dK Kh)∧k= !Kh.isEmpty:=e;rcases F with⟨xs,R,F⟩|⟨xs,R,F⟩|⟨Kh,R,F⟩
  ·subst F;obtain⟨Ki,r,pl,U⟩:=I.list R;have M:=r.length;exact wpAny_truthy_list pl.isList (by simp only[AX];omega) ⟨H,I.tok _,by rw[Y0 r];exact q⟩
  ·subst F;obtain⟨Ki,r,pl,U⟩:=I.tuple R;have M:=r.length;exact truthy_tuple pl (by simp only[AX];omega) ⟨H,I.tok _,by rw[Y0 r];exact q⟩
  ·subst F;obtain⟨U,Z,vs,r,m⟩:Kh.length≤sizeLine∧(p==sysModules)=false∧∃vs,KV Kh vs∧s.heap.DictOf (Qn X.prog X.w) p vs:=I.hok p _ R;have M:Kh.length=vs.length:=Paired.length r;exact wpAny_truthy_dict Z m (by omega) ⟨H,I.tok _,by rw[t8 r];exact q⟩
 |_=>exact (show False from e).elim
def sQ(M:PE X a ta)(he:∀F,isTrue a X.env F=(do let v ← F;standAt a.pos;holding [v] (truthy v))) :
  PT X a (fun σ H Q=>ta σ H fun x H'=>∃k,kH X.K x H' k∧Q k H'):=by intro Kf s σ H Q I h;exact isTrue_plain (eE (M Kf s σ H _ I h) fun v s1 ⟨x,H1,O,R,U⟩=>IJ Kf s1 σ H1 x v Q O R U) (he _)
def D4:fS X (binaryOp .Add) (fun x y H Q=>∃i j,x= .str i∧y= .str j∧i.length+j.length≤sizeLine∧Q (.str (i++j)) H):=by intro Kf s σ H x y v u Q I F M h;obtain⟨i,j,rfl,rfl,O,q⟩:=h;obtain⟨t,rfl⟩:=F;obtain⟨R,rfl⟩:=M;exact add_str (fun R U=>⟨.str (i++j),H,I.tok _,⟨_,rfl⟩,q⟩) O
def Zi{x:V}{us:KQ KR}(r:Vals [x] us):∃u,us=[u]∧RelV x u:=by
 cases r with|cons F I=>cases I;exact⟨_,rfl,F⟩
def jv{x y:V}{us:KQ KR}(r:Vals [x,y] us):∃u F,us=[u,F]∧RelV x u∧RelV y F:=by
 cases r with
 |cons I M =>
  cases M with|cons O R=>cases R;exact⟨_,_,rfl,I,O⟩
def EU:Wi X (.builtin "abs") (fun xs H Q=>∃i,xs=[.int i]∧Q (.int (if i<0 then -i else i)) H):=by intro Kf s σ H xs us Q I r h;obtain⟨i,rfl,q⟩:=h;obtain⟨u,rfl,t,rfl⟩:=Zi r;exact call_abs_int fun u F=>⟨.int (if i<0 then -i else i),H,I.tok _,⟨_,rfl⟩,q⟩
def vR(M:X.calm=true):Wi X (.builtin "max") (fun xs H Q=>∃i j,xs=[.int i,.int j]∧Q (.int (if j>i then j else i)) H):=by
 intro Kf s σ H xs us Q I r h;obtain⟨i,j,rfl,q⟩:=h;obtain⟨u,O,rfl,⟨t,rfl⟩,⟨R,rfl⟩⟩:=jv r;refine max_two_ints (I.ok.hd M) fun h' U k=>⟨_,H,I.kept k,?_,q⟩;by_cases F:j>i;rw[AE F,AE F];exact⟨_,rfl⟩;rw[AD F,AD F];exact⟨_,rfl⟩
def vW(M:X.calm=true):Wi X (.builtin "min") (fun xs H Q=>∃i j,xs=[.int i,.int j]∧Q (.int (if j<i then j else i)) H):=by
 intro Kf s σ H xs us Q I r h;obtain⟨i,j,rfl,q⟩:=h;obtain⟨u,O,rfl,⟨t,rfl⟩,⟨R,rfl⟩⟩:=jv r;refine min_two_ints (I.ok.hd M) fun h' U k=>⟨_,H,I.kept k,?_,q⟩;by_cases F:j<i;rw[AE F,AE F];exact⟨_,rfl⟩;rw[AD F,AD F];exact⟨_,rfl⟩
def G4:Wi X (.type "int") (fun xs H Q=>(∃i,xs=[.int i]∧Q (.int i) H)∨∃k,xs=[.bl k]∧Q (.int (if k then 1 else 0)) H):=by
 intro Kf s σ H xs us Q I r h;rcases h with⟨i,rfl,q⟩|⟨k,rfl,q⟩
 ·obtain⟨u,rfl,t,rfl⟩:=Zi r;exact call_int_int ⟨.int i,H,I,⟨_,rfl⟩,q⟩
 ·obtain⟨u,rfl,F⟩:=Zi r;cases F;exact call_int_bool ⟨.int (if k then 1 else 0),H,I.tok _,⟨_,rfl⟩,q⟩
end
end L2
namespace L2
open PySem PySem.Spec PyProof.Rows
def gc.some_of{v:V}{o:KW KR}(r:gc (some v) o):∃u,o=some u∧RelV v u:=by
 cases o with|none=>exact (show False from r).elim|some u=>exact⟨u,rfl,r⟩
end L2
namespace L2
open PySem PySem.Spec PyProof.Rows
structure eZ (k:Nat) (A:Around):Prop where
 hd:1<k->A.handled=none
 dp:A.depth+3*k+5<recursionLimit
 un:A.units+16*k+200<cLine
 gd:A.guards=some []
def eZ.mono{j k:Nat}{A:K1}(r:eZ k A)(h:j≤k):eZ j A:=⟨fun z=>r.hd (by omega),by have:=r.dp;omega,by have:=r.un;omega,r.gd⟩
def eZ.deeper{k:Nat}{A:K1}(r:eZ (k+1) A)(env:Env):eZ k (A.deeper env) :=
 ⟨fun z=>r.hd (by omega),by have:=r.dp;show A.depth+1+3*k+5<_;omega,by have:=r.un;show A.units+3+16*k+200<_;omega,r.gd⟩
def eZ.depth{k:Nat}{A:K1}(r:eZ k A):A.depth<recursionLimit:=by have:=r.dp;omega
def eZ.units{k:Nat}{A:K1}(r:eZ k A):A.units+64<cLine:=by have:=r.un;omega
def qM9:TA:=fun _ H Q=>Q [] H
def H9(F:TE)(I:TA):TA:=fun σ H Q=>F σ H fun x H1=>I σ H1 fun xs M=>Q (x::xs) M
section
variable{X:Cx}{e:K2}{es:KQ K2}{te:TE}{t:TA}{pos:Pos}
def JN:PA X [] qM9:=fun _ _ _ _ H Q I h=>CG ⟨[],H,I,.nil,h⟩
def YS(F:PE X e te)(M:PA X es t)(hs:starEach (e::es) X.env=(false,eval e X.env)::starEach es X.env:=by rfl):PA X (e::es) (H9 te t):=by intro pos Kf s σ H Q I h;rw[hs];show wpAny _ _ (spliced ((false,eval e X.env)::backTo pos (starEach es X.env))) _ _ s;refine Bu (eE (F Kf s σ H _ I h) fun u s1 ⟨x,H1,O,R,U⟩=>?_);exact eE (M pos Kf s1 σ H1 _ O U) fun us s2 ⟨xs,Y,Z,r2,q2⟩=>⟨x::xs,Y,Z,.cons R r2,q2⟩
def xU(t:TA):TE:=fun σ H Q=>t σ H fun xs H1=>xs.length≤sizeLine∧∀p,H1 p=none->Q (.ref p) (dW H1 p (.tup xs))
def v6(t:TA):TE:=fun σ H Q=>t σ H fun xs H1=>xs.length≤sizeLine∧∀p,H1 p=none->Q (.ref p) (dW H1 p (.lst xs))
def Ea{x1}(h:PA X es t):PE X (.Tuple es x1 pos) (xU t):=by
 intro Kf s σ H Q I M;refine wpAny_Tuple_spliced (eE (h pos Kf s σ H _ I M) fun us s1 ⟨xs,H1,F,r,z,q⟩=>⟨by rw[←r.length];exact z,?_⟩);have O:H1 s1.heap.objs.size=none:=F.hok.fresh (AG _);refine⟨.ref s1.heap.objs.size,dW H1 s1.heap.objs.size (.tup xs),F.laid (t':=s1.toks) (fun b u e=>AC _ e) (AG _) ?_,rfl,q _ O⟩;exact⟨z,us,r,⟨_,AR _ rfl,rfl,_,rfl⟩⟩
def Do(h:PA X es t):PE X (.List es pos) (v6 t):=by
 intro Kf s σ H Q I M;refine wpAny_List_spliced (eE (h pos Kf s σ H _ I M) fun us s1 ⟨xs,H1,F,r,z,q⟩=>⟨by rw[←r.length];exact z,?_⟩);have O:H1 s1.heap.objs.size=none:=F.hok.fresh (AG _);refine⟨.ref s1.heap.objs.size,dW H1 s1.heap.objs.size (.lst xs),F.laid (t':=s1.toks) (fun b u e=>AC _ e) (AG _) ?_,rfl,q _ O⟩;exact⟨z,us,0,r,AR _ rfl⟩
end
abbrev Sp:=KQ V->Hp->VK->XK->Prop
abbrev CXT:=KQ Env->Hp->KS->XK->KR->KS->Prop
structure il (P:Program) (w:World) (K:W.Frag) (mg:Str->Option Value) (base:Heap) (A:Around) (outer:List Env) (s:Shared) (H:Hp):Prop where
 frames:A.frames=some outer
 mod:Mod K mg base
 bs:∀b o,base.get? b=some o->s.heap.get? b=some o∧H b=none
 bsz:base.objs.size≤s.heap.objs.size
 funs:s.heap.FunFrames base outer
 frf:∀b∈fE outer,H b=none
 hok:fP P w H s.heap
 bare:AllBare s.gens
 hnd:gT A H
def CE(outer:KQ Env)(P:KZ)(w:K0)(H:Hp)(s:KS)(Q:VK)(u:KR)(s':KS):Prop :=
 ∃v H',s'.os=s.os∧AllBare s'.gens∧Un (fE outer) [] H H' s.heap s'.heap∧fP P w H' s'.heap∧RelV v u∧Q v H'
def CR(CX:CXT)(outer:KQ Env)(P:KZ)(w:K0)(H:Hp)(s:KS)(Q:VK)(E:XK)(r:Result)(s':KS):Prop :=
 match r with| .ok (.ret u)=>CE outer P w H s Q u s'| .ok _=>False| .error e=>CX outer H s E e s'
structure fZ (P:Program) (w:World) (K:W.Frag) (mg:Str->Option Value) (base:Heap) (CX:CXT) (k:Nat) (f:Addr) (fd:FuncData) (ps:List Str) (sp:Sp):Prop where
 len:∀vs H Q E,sp vs H Q E->vs.length=ps.length
 run:∀(A:Around) (outer:List Env) (s:Shared) (H:Hp) (args:Args) (us:List Value) (vs:List V) (Q:VK) (E:XK),eZ k A->il P w K mg base A outer s H->BindsTo s fd args (ps.zip us)->Vals vs us->sp vs H Q E ->
  codeAny (model P w) A (.call (.ref f) args) (CR CX outer P w H s Q E) s
section
variable{X:Cx}{Kf:KQ (KU×Obj)}{σ:St}{H:Hp}{s s':KS}
def Inv.env0(I:Inv X Kf σ H s):il X.prog X.w X.K X.mg X.base X.A X.stack s H :=
 ⟨I.ok.frames,I.ok.mod,I.bs,Ab I.ok.bsz I.sz,I.stack,I.stkFree,I.hok,I.bare,I.hnd⟩
def Inv.after{Q:VK}{u:KR}(I:Inv X Kf σ H s)(h:CE X.stack X.prog X.w H s Q u s'):EP X Kf σ Q u s':=by obtain⟨v,H',os,bare,un,hok,r,q⟩:=h;obtain⟨M,g,d,t,F⟩:=s';obtain rfl:F=s.os:=os;exact⟨v,H',I.call (h':=M) (g':=g) (d':=d) (t':=t) (ch:=[]) un hok bare (fun b z=>absurd z (by simp)),r,q⟩
end
def Fo(sp:Sp)(F:KQ V)(E:XK)(t:TA):TE:=fun σ H Q=>t σ H fun vs H1=>sp (vs++F) H1 Q E
def Binds(K:KY)(fd:FuncData)(ps:KQ Str)(F:KQ KR):Prop :=
 ∀(s:KS) (us:KQ KR),K.In s.heap->(us++F).length=ps.length->BindsTo s fd ⟨us,[]⟩ (ps.zip (us++F))
def Binds.all{K:KY}{fd:FuncData}{ps:KQ Str}(h:∀us:KQ KR,us.length=ps.length->bindArgs fd ⟨us,[]⟩=pure (ps.zip us)):Binds K fd ps []:=fun s us _ F=>by rw[BJ]at F ⊢;exact .of_eq (h us F)
def ZD(CX:CXT)(X:Cx)(E:XK):Prop:=∀(Kf:KQ (KU×Obj)) (σ:St) (H:Hp) (s:KS) (e:KR) (F:KS),Inv X Kf σ H s->CX X.stack H s E e F->X.xe e F
section
variable{X:Cx}{CX:CXT}{k:Nat}{f C:KU}{fd:FuncData}{ps:KQ Str}{sp:Sp}{KI:KQ V}{ds:KQ KR}{E:XK}{x m:Str}{p pos Kt:Pos}{e o:K2}{es:KQ K2}{ta:TE}{t:TA}
def tY{Kf:KQ (KU×Obj)}{σ:St}{H:Hp}{s:KS}{Q:VK}{us:KQ KR}{vs:KQ V}(F:fZ X.prog X.w X.K X.mg X.base CX k f fd ps sp)(R:eZ k X.A)(U:Binds X.K fd ps ds)(hd:Vals KI ds)(Y:ZD CX X E)
  (I:Inv X Kf σ H s) (r:Vals vs us) (h:sp (vs++KI) H Q E):wpAny (model X.prog X.w) X.A (call (.ref f) us) (EP X Kf σ Q) X.xe s:=by
 have O:Vals (vs++KI) (us++ds):=r.append hd;have Z:(us++ds).length=ps.length:=by rw[←O.length];exact F.len _ _ _ _ h
 refine Cv (codeAny_mono (F.run X.A X.stack s H ⟨us,[]⟩ (us++ds) (vs++KI) Q E R I.env0 (U s us I.kIn Z) O h) fun r s' M=>?_);cases r with
 |error e=>exact Y Kf σ H s e s' I M
 |ok fl =>
  cases fl with|ret u=>exact I.after M|next=>exact False.elim M|brk=>exact False.elim M|cont=>exact False.elim M
def Dm(F:fZ X.prog X.w X.K X.mg X.base CX k f fd ps sp)(R:eZ k X.A)(U:Gl X x)(Y:X.mg x=some (.ref f))(Z:W.keepIn X.K (.ref f)=true)(hb:Binds X.K fd ps ds)(hd:Vals KI ds)(hx:ZD CX X E)
  (ha:PA X (e::es) t) (M:(x==("__debug__":Str))=false:=by decide) (he:starEach (e::es) X.env=(false,eval e X.env)::starEach es X.env:=by rfl) (Ku:(backTo pos (starEach es X.env)).any (·.1)=false:=by rfl) :
  PE X (.Call (.Name x p) (e::es) [] pos) (Fo sp KI E t):=by intro Kf s σ H Q I h;refine Bv (JB I U Y ?_ M);refine W.callWith_K (h₀:=X.base) I.ok.mod.kin Z (eE (ha pos Kf s σ H _ I h) fun us s1 ⟨vs,H1,O,r,q⟩=>⟨O.kIn,?_⟩) he Ku;exact tY F R hb hd hx O r q
end
structure dU (N P:List Str) (sc:Scope):Prop where
 kind:sc.kind= .function
 co:sc.isCoroutine=false
 gen:sc.isGenerator=false
 nd:N.Nodup
 pre:N.take P.length=P
 par:∀x∈P,sc.names.lookup x=some .local∨sc.names.lookup x=some .cell
 nofree:∀y∈sc.names,y.2≠ .free
def jx{kindOf:Str->KW NameKind}{x:Str}:∀{binds:KQ (Str×KR)} {m:Str->KW KR},(∀v,(x,v)∉binds)->bindL kindOf binds m x=m x
 |[],_,_=>rfl
 |(n,v)::r,m,h=>by
  unfold bindL;rw[jx fun w F=>h w (AH _ F)];split
  ·have:x≠n:=by rintro rfl;exact h v AI
   simp[this]
  ·rfl
def jj{kindOf:Str->KW NameKind}{x:Str}:∀{binds:KQ (Str×KR)} {m:Str->KW KR},(∀v,(x,v)∉binds)->bindC kindOf binds m x=m x
 |[],_,_=>rfl
 |(n,v)::r,m,h=>by
  unfold bindC;rw[jj fun w F=>h w (AH _ F)];split;rfl
  ·have:x≠n:=by rintro rfl;exact h v AI
   simp[this]
def j0{kindOf:Str->KW NameKind}{x:Str}{v:KR}:∀{P:KQ Str} {vs:KQ KR} {i:Nat} {m:Str->KW KR},P.Nodup->P[i]? = some x->vs[i]? = some v->kindOf x=some .local ->
  bindL kindOf (P.zip vs) m x=some v
 |[],_,_,_,_,h,_,_=>by simp at h
 |_::_,[],_,_,_,_,h,_=>by simp at h
 |p::P,w::vs,0,m,nd,F,I,M=>by simp at F I;subst F;subst I;show bindL kindOf ((p,w)::P.zip vs) m p=_;unfold bindL;rw[jx fun v O=>(Bd.mp nd).1 (List.of_mem_zip O).1,AE M];simp
 |p::P,w::vs,i+1,m,nd,F,I,M=>by show bindL kindOf ((p,w)::P.zip vs) m x=_;unfold bindL;exact j0 (i:=i) (Bd.mp nd).2 (by simpa using F) (by simpa using I) M
def jg{kindOf:Str->KW NameKind}{x:Str}{v:KR}:∀{P:KQ Str} {vs:KQ KR} {i:Nat} {m:Str->KW KR},P.Nodup->P[i]? = some x->vs[i]? = some v->kindOf x≠some .local ->
  bindC kindOf (P.zip vs) m x=some v
 |[],_,_,_,_,h,_,_=>by simp at h
 |_::_,[],_,_,_,_,h,_=>by simp at h
 |p::P,w::vs,0,m,nd,F,I,M=>by simp at F I;subst F;subst I;show bindC kindOf ((p,w)::P.zip vs) m p=_;unfold bindC;rw[jj fun v O=>(Bd.mp nd).1 (List.of_mem_zip O).1,AD M];simp
 |p::P,w::vs,i+1,m,nd,F,I,M=>by show bindC kindOf ((p,w)::P.zip vs) m x=_;unfold bindC;exact jg (i:=i) (Bd.mp nd).2 (by simpa using F) (by simpa using I) M
def start(N:KQ Str)(vs:KQ V):St:=vs.map some++List.replicate (N.length-vs.length) none
def wW(CX:CXT)(P:KZ)(w:K0)(K:KY)(mg:Str->KW KR)(base:Heap)(N:KQ Str)(qual:Str)(scope:Scope)(f:KU)(cd:KR)(A:K1)(outer:KQ Env)(s:KS)(H:Hp)(E:XK):Cx where
 prog:=P
 w:=w
 K:=K
 mg:=mg
 base:=base
 A:=A.deeper (envOfC qual scope s.heap.objs.size f cd)
 N:=N
 s₀:=s
 H₀:=H
 env:=envOfC qual scope s.heap.objs.size f cd
 outer:=outer
 stack:=envOfC qual scope s.heap.objs.size f cd::outer
 ex:=[]
 calm:=A.handled.isNone
 fn:=fun _=>true
 pn:=[]
 xe:=fun e s'=>wpAny (model P w) (A.deeper (envOfC qual scope s.heap.objs.size f cd)) (leaving (envOfC qual scope s.heap.objs.size f cd) e) (fun _ KM=>CX outer H s E e KM) (fun e' KM=>CX outer H s E e' KM) s'
def mQ{sc:Scope}{n:Nat}{x:Str}(h:sc.names.lookup x=some .cell):∃c,(cellsFrom n sc.names []).lookup x=some c:=by have q:=W.cellsFrom_some sc.names n [] (.inl h);exact Option.isSome_iff_exists.mp q
def tr{CX:CXT}{P:KZ}{w:K0}{K:KY}{mg:Str->KW KR}{base:Heap}{N ps:KQ Str}{qual:Str}{scope:Scope}{f:KU}{cd:KR}{A:K1}{outer:KQ Env}{s s1:KS}{H:Hp}{E:XK}{us:KQ KR}{vs:KQ V}
  (S:dU N ps scope) (I:il P w K mg base A outer s H) (hl:vs.length=ps.length) (r:Vals vs us)
  (x:InCallC s s.heap.objs.size (bindL (envOfC qual scope s.heap.objs.size f cd).kindOf (ps.zip us) fun _=>none) (cellsFrom (s.heap.objs.size+1) scope.names []) (bindC (envOfC qual scope s.heap.objs.size f cd).kindOf (ps.zip us) fun _=>none) s1) :
  Inv (wW CX P w K mg base N qual scope f cd A outer s H E) [] (start N vs) H s1:=by
 have a0:ps.length≤N.length:=by have:=CK List.length S.pre;rw[BX]at this;omega
 obtain⟨U,tk,rfl,Y⟩:=x.done;have M:∀b:KU,b∉(wW CX P w K mg base N qual scope f cd A outer s H E).ex:=fun b z=>absurd (show b∈([]:KQ KU) from z) (by simp);refine⟨⟨I.mod,S.kind,rfl,rfl,AG _,fun y z c U F=>?_,fun y hy=>?_,fun y c _ h=>?_,fun z=>Option.isNone_iff_eq_none.mp z,Around.frames_deeper I.frames,.inr ⟨rfl,rfl⟩,fun b z=>absurd z (M b),I.bs,I.bsz,fun b _ _=>M b,fun b z=>absurd z (M b),I.funs,I.frf⟩,
  rfl,I.bare,Un.kept Y,⟨_,x.toInCall.ns,fun i y v U F h3=>?_⟩,fun y c h=>⟨_,x.cell y c h⟩,I.hok.fresh (AG _),fun y c h=>?_,fun p O=>absurd (show p∈([]:KQ (KU×Obj)) from O) (by simp),I.hok.kept Y,?_,I.hnd⟩
 ·exact name_of_addr x.apart (B4 U) (B4 F)
 ·have hy:scope.names.lookup y=some .cell∨scope.names.lookup y=some .free:=hy;rcases hy with hy|hy
  ·exact mQ hy
  ·exact absurd rfl (S.nofree _ (B4 hy))
 ·exact DI (x.above y c (B4 h))
 ·have hi:i<vs.length:=by
   unfold start at F;by_cases hi:i<vs.length;exact hi
   ·rw[BA (by simpa using hi)]at F;rw[CJ]at F;split at F <;> cases F
  have ha:vs[i]? = some v:=by
   unfold start at F;rw[An (by simpa using hi),Am]at F;cases e:vs[i]? with|none=>rw[e]at F;cases F|some a=>rw[e]at F;cases F;rfl
  obtain⟨u,Z,rv⟩:=r.get ha;have O:ps[i]? = some y:=by rw[←S.pre,List.getElem?_take_of_lt (by omega)];exact U
  have R:ps.Nodup:=by rw[←S.pre];exact S.nd.sublist (List.take_sublist _ _)
  refine⟨u,rv,?_⟩;rcases S.par y (Ap O) with k|k
  ·exact .inl ⟨k,j0 R O Z k⟩
  ·obtain⟨c,e⟩:=mQ (n:=s.heap.objs.size+1) k;refine .inr ⟨.inl k,c,e,?_⟩;have q:=x.cell y c e;rw[jg R O Z (by show scope.names.lookup y≠_;rw[k];decide)]at q;exact q
 ·exact I.hok.fresh (DI (x.above y c (B4 h)))
 ·unfold start;show _=N.length;rw[Ac,AF,List.length_replicate];omega
def IP{CX:CXT}{P:KZ}{w:K0}{K:KY}{mg:Str->KW KR}{base:Heap}{k:Nat}{f:KU}{name qual:Str}{F:Arguments}{M:KQ Stmt}{scope:Scope}{dV kV Kv pm Kr ct oc:KR}{an od:KW KU}
  {KC:K3 (KW KR)} {N ps:KQ Str} {sp:Sp} (lk:K.lookup f=some ⟨oc,od,.func (W.fnOf name qual F M scope dV kV Kv pm an Kr ct),KC⟩) (a0:W.codeIn K Kr qual=true) (S:dU N ps scope)
  (len:∀vs H Q E,sp vs H Q E->vs.length=ps.length)
  (O:∀(A:K1) (outer:KQ Env) (s:KS) (H:Hp) (vs:KQ V) (Q:VK) (E:XK),eZ k (A.deeper (envOfC qual scope s.heap.objs.size f Kr))->(0<k->A.handled=none)->sp vs H Q E ->
   ∃t,gu (wW CX P w K mg base N qual scope f Kr A outer s H E) M t∧t { nx:=fun _ H'=>Q .non H',rt:=Q } (start N vs) H) :
  fZ P w K mg base CX (k+1) f (W.fnOf name qual F M scope dV kV Kv pm an Kr ct) ps sp:=by
 refine⟨len,fun A outer s H args us vs Q E hr U hb r Y=>?_⟩;have hl:=len _ _ _ _ Y;have KX:K.In s.heap:=U.mod.kin.keeps fun b o e=>(U.bs b o e).1;have a1:s.heap.NoLimit:=U.mod.nolimit.keeps fun b o e=>(U.bs b o e).1;have R:∀y∈ps.zip us,scope.names.lookup y.1=some .local∨(scope.names.lookup y.1=some .cell∧((cellsFrom (s.heap.objs.size+1) scope.names []).lookup y.1).isSome=true):=fun⟨n,v⟩ hy=>by
  rcases S.par n (List.of_mem_zip hy).1 with q|q
  ·exact .inl q
  ·exact .inr ⟨q,W.cellsFrom_some _ _ _ (.inl q)⟩
 refine codeAny_call_function hr.depth (KX _ _ lk) rfl S.co S.gen rfl (W.codeRec_of KX a0) (hb _ _ _ _ ?_);refine wpAny_newFunctionEnv_cells S.kind R fun env he s1 x=>?_;subst he;refine⟨a1.keeps x.toInCall.keep,codeAny_func ?_⟩;obtain⟨t,ht,hq⟩:=O A outer s H vs Q E (hr.deeper _) (fun z=>hr.hd (by omega)) Y;have I:Inv (wW CX P w K mg base N qual scope f Kr A outer s H E) [] (start N vs) H s1:=tr S U hl r x;refine Bc (ht [] s1 (start N vs) H _ I hq) (fun fl s' hs=>?_) fun e s' hs=>hs;have Z:∀{σ':St} {H':Hp} {v:V} {u:KR},Inv (wW CX P w K mg base N qual scope f Kr A outer s H E) [] σ' H' s'->RelV v u->Q v H'->CE outer P w H s Q u s' :=
  fun {σ' H' v u} J rv q=>⟨v,H',J.os,J.bare,J.base,J.hok,rv,q⟩
 cases fl with|ret u=>obtain⟨v,σ',H',J,rv,q⟩:=hs;exact Z J rv q|next=>obtain⟨σ',H',J,q⟩:=hs;exact Z (v:=V.non) (u:=Value.none) J rfl q|brk=>obtain⟨_,_,_,q⟩:=hs;exact False.elim q|cont=>obtain⟨_,_,_,q⟩:=hs;exact False.elim q
end L2
namespace L2
open PySem PySem.Spec PyProof.Rows
section
variable{X:Cx}{x:Str}{p pos:Pos}{e:K2}{es:KQ K2}{t:TA}{id T:String}{r:KQ V->Hp->VK->Prop}
def on(r:KQ V->Hp->VK->Prop)(t:TA):TE:=fun σ H Q=>t σ H fun vs H1=>r vs H1 Q
def Ho(M:Wi X (.builtin id) r)(O:Gl X x)(R:X.mg x=none)(U:bootBuiltins x=some (.builtin id))(Y:PA X (e::es) t)(Z:x ≠ "__name__" :=by decide)(F:(x==("__debug__":Str))=false:=by decide)
  (he:starEach (e::es) X.env=(false,eval e X.env)::starEach es X.env:=by rfl) (Ku:(backTo pos (starEach es X.env)).any (·.1)=false:=by rfl):PE X (.Call (.Name x p) (e::es) [] pos) (on r t):=by intro Kf s σ H Q I h;refine Bv (zL I O R U ?_ Z F);exact CB (eE (Y pos Kf s σ H _ I h) fun us s1 ⟨vs,H1,I1,r1,q1⟩=>M Kf s1 σ H1 vs us Q I1 r1 q1) he Ku
def yg(M:Wi X (.type T) r)(O:Gl X x)(R:X.mg x=none)(U:bootBuiltins x=some (.type T))(Y:PA X (e::es) t)(Z:x ≠ "__name__" :=by decide)(F:(x==("__debug__":Str))=false:=by decide)
  (he:starEach (e::es) X.env=(false,eval e X.env)::starEach es X.env:=by rfl) (Ku:(backTo pos (starEach es X.env)).any (·.1)=false:=by rfl):PE X (.Call (.Name x p) (e::es) [] pos) (on r t):=by intro Kf s σ H Q I h;refine Bv (zL I O R U ?_ Z F);exact B2 (eE (Y pos Kf s σ H _ I h) fun us s1 ⟨vs,H1,I1,r1,q1⟩=>M Kf s1 σ H1 vs us Q I1 r1 q1) he Ku
end
end L2
namespace HT
open PySem PyProof.Rows
def rcLt_int(A:K1)(s:KS)(a:Int)(t:Tok)(c:Int)(u:Tok)(prog:KZ)(w:K0)(E:KR->KS->Prop)(Q:KR->KS->Prop)(h:Q (.bool (decide (a<c))) s) :
  wpAny (model prog w) A (richCompare .Lt (.int a t) (.int c u)) Q E s :=
 (PyProof.Rows.lt_int h:wpAny (model prog w) A (compareOp .Lt (.int a t) (.int c u)) Q E s)
section
variable{prog:KZ}{w:K0}{A:K1}{E:KR->KS->Prop}{s:KS}
def cat_tup{t b:KU}{vs ws:KQ KR}{Q:KR->KS->Prop}(ht:IsTup s.heap t vs.toArray)(hb:IsTup s.heap b ws.toArray)(hv:vs≠[])
  (h1:ws=[]->Q (.ref t) s) (h2:ws≠[]->Q (.ref s.heap.objs.size) { s with heap:=s.heap.push { cls:=.type "tuple",data:=.seq (vs++ws).toArray } })
  (hsz:vs.length+ws.length≤sizeLine):wpAny (model prog w) A (binaryOp .Add (.ref t) (.ref b)) Q E s:=by
 obtain⟨⟨cls,dd,data,sl⟩,Y,hc,n,hd⟩:=id ht;obtain⟨⟨a0,M,data2,O⟩,I,R,n2,U⟩:=id hb;simp only at hc hd R U;subst hc hd R U;have e:vs.toArray++ws.toArray=(vs++ws).toArray:=by simp
 by_cases Z:ws=[]
 ·exact concat_meets ⟨_,Y,rfl⟩ ⟨_,I,rfl⟩ noFill_tuple_add seq_tuple_add PySem.F.slot_tuple_add PySem.F.entry_tuple_add (PySem.F.args_tuple_add_2 _ _)
   (tuple_addW1 t b vs.toArray ws.toArray n n2 dd M sl O (by simpa using hv) (by simp[Z])) ⟨Y,I,h1 Z⟩
 ·refine concat_meets ⟨_,Y,rfl⟩ ⟨_,I,rfl⟩ noFill_tuple_add seq_tuple_add PySem.F.slot_tuple_add PySem.F.entry_tuple_add (PySem.F.args_tuple_add_2 _ _)
   (tuple_addW2 t b vs.toArray ws.toArray n n2 dd M sl O (by simpa using hv) (by simpa using Z) (by rw[AX,AX];exact hsz)) ⟨Y,I,?_⟩
  rw[e];exact h2 Z
def sIx(n d:Nat):KW Int->Nat|none=>d|some v=>if v<0 then (v+(n:Int)).toNat else min v.toNat n
def sIx_nat(n d k:Nat):sIx n d (some (k:Int))=min k n:=by show (if (k:Int)<0 then ((k:Int)+(n:Int)).toNat else min (k:Int).toNat n)=min k n;rw[AD (by omega),BC]
def vf(n d:Nat)(hd:d≤n)(o:KW Int):sIx n d o≤n:=by
 cases o with
 |none=>exact hd
 |some v =>
  show (if v<0 then (v+(n:Int)).toNat else min v.toNat n)≤n;by_cases F:v<0;rw[AE F];omega;rw[AD F];exact Nat.min_le_right _ _
def pU(v:Int)(n d:Nat):(if v<0 then max (v+(n:Int)) 0 else min v (n:Int))=((sIx n d (some v):Nat):Int):=by
 show (if v<0 then max (v+(n:Int)) 0 else min v (n:Int))=(((if v<0 then (v+(n:Int)).toNat else min v.toNat n):Nat):Int);by_cases F:v<0;simp only[AE F];omega;simp only[AD F];omega
def Ew(lo hi:KW Int)(n:Nat):Builtin.Slice.sliceAdjust lo hi 1 (n:Int)=(((sIx n 0 lo:Nat):Int),((sIx n n hi:Nat):Int)):=by
 have F:¬((1:Int)<0):=by omega
 unfold Builtin.Slice.sliceAdjust;simp only[F,BQ];refine DP ?_ ?_
 ·cases lo with|none=>rfl|some v=>exact pU v n 0
 ·cases hi with|none=>rfl|some v=>exact pU v n n
def FN(i j:Nat):Builtin.Slice.slicePlaces (i:Int) (j:Int) 1=j-i:=by
 unfold Builtin.Slice.slicePlaces;have F:(1:Int)>0:=by omega
 simp only[F,Cr,Int.ediv_one];split <;> omega
def Ww{v:KR}{o:KW Int}{Q:KW Int->KS->Prop}(p:IsPart v o)(h:Q o s):wpAny (model prog w) A (Builtin.Slice.slicePartIndex v) Q E s:=by
 cases p with|none=>exact slicePart_none h|int i t=>exact slicePart_int h
def sliceApplied_gen{sl:KU}{M O:KR}{lo hi:KW Int}{n:Nat}{Q:Int×Int×Nat->KS->Prop}(hs:s.heap.IsSliceOf sl M O .none)(pl:IsPart M lo)(R:IsPart O hi)
  (h:Q (((sIx n 0 lo:Nat):Int),1,sIx n n hi-sIx n 0 lo) s):wpAny (model prog w) A (Builtin.Slice.sliceApplied (.ref sl) (pure (n:Int))) Q E s:=by
 obtain⟨os,F,U,I⟩:=id hs;unfold Builtin.Slice.sliceApplied Builtin.Slice.sliceFields;refine AA (AA (A9 F I (x:=M) rfl (AA (A9 F I (x:=O) rfl (AA (A9 F I (x:=.none) rfl (AB ?_)))))));refine AA (slicePart_none ?_);show wpAny _ _ (if ((1:Int)==0)=true then _ else _) _ _ s;rw[AD (by decide)];refine AA (Ww pl (AA (Ww R (AA (AB ?_)))));show wpAny _ _ (match Builtin.Slice.sliceAdjust lo hi 1 (n:Int) with|(lo,hi)=>pure (lo,(1:Int),Builtin.Slice.slicePlaces lo hi 1)) _ _ s;rw[Ew lo hi n];show wpAny _ _ (pure (((sIx n 0 lo:Nat):Int),(1:Int),Builtin.Slice.slicePlaces ((sIx n 0 lo:Nat):Int) ((sIx n n hi:Nat):Int) 1)) _ _ s;rw[FN];exact AB h
def HD(xs:K3 KR)(i k:Nat):((List.range k).filterMap fun (m:Nat)=>xs[((i:Int)+(m:Int)*1).toNat]?).toArray=((xs.toList.drop i).take k).toArray:=by
 have e:(fun (m:Nat)=>xs[((i:Int)+(m:Int)*1).toNat]?)=fun m=>xs[i+m]? :=by
  funext m
  have:((i:Int)+(m:Int)*1).toNat=i+m:=by omega
  rw[this]
 rw[e]
 have:=pick_run xs i k
 rw[List.filterMap_map]at this;have F:((fun x=>xs[x]?) ∘ fun x=>i+x)=fun m=>xs[i+m]? :=rfl;rw[F]at this;rw[this]
def getItem_tuple_cut{t sl:KU}{items:K3 KR}{Y Z:KR}{lo hi:KW Int}{Q:KR->KS->Prop}(I:IsTup s.heap t items)(hs:s.heap.IsSliceOf sl Y Z .none)(pl:IsPart Y lo)(pu:IsPart Z hi)
  (hw:¬(sIx items.size 0 lo=0∧sIx items.size items.size hi=items.size))
  (h:Q (.ref s.heap.objs.size) { s with heap:=s.heap.push { cls:=.type "tuple",data:=.seq ((items.toList.drop (sIx items.size 0 lo)).take (sIx items.size items.size hi-sIx items.size 0 lo)).toArray } })
  (hsz:items.size≤sizeLine):wpAny (model prog w) A (getItem (.ref t) (.ref sl)) Q E s:=by
 have F:sizeOk (.seq ((items.toList.drop (sIx items.size 0 lo)).take (sIx items.size items.size hi-sIx items.size 0 lo)).toArray):=by show ((items.toList.drop (sIx items.size 0 lo)).take (sIx items.size items.size hi-sIx items.size 0 lo)).toArray.size≤sizeLine;rw[AX,BX,Bn,AW];omega
 have hj:sIx items.size items.size hi≤items.size:=vf _ _ (AG _) hi;obtain⟨os,M,O,a0⟩:=id hs;have R:s.TypeIs (.ref sl) "slice" :=⟨os,M,O⟩;unfold getItem;try with_reducible refine Aq ?_
 first|refine AA (AB ?_)|skip
 refine AA (wpAny_sequenceKey I.typeIs (by decide) ?_);refine AA (A0 (name:=Str.ofString "__getitem__") I.typeIs BZ
  (As BZ I.typeIs entry_tuple_getitem ?_ (args_tuple_getitem _ _)))
 show wpAny _ _ (Builtin.Tuple.tupleItemsOf (.ref t) >>= _) _ _ s;refine AA (tupleItemsOf_ I ?_);refine AA (Bp R ?_);rw[AE (by decide)];refine AA (sliceApplied_gen hs pl pu ?_);have U:¬((((sIx items.size 0 lo:Nat):Int)==0&&(1:Int)==1&&(sIx items.size items.size hi-sIx items.size 0 lo)==items.size)=true):=by intro q;rw[AY,AY]at q;have q1:((sIx items.size 0 lo:Nat):Int)=0:=DK q.1.1;have q2:sIx items.size items.size hi-sIx items.size 0 lo=items.size:=DK q.2;exact hw ⟨by omega,by omega⟩
 show wpAny _ _ (if (((sIx items.size 0 lo:Nat):Int)==0&&(1:Int)==1&&(sIx items.size items.size hi-sIx items.size 0 lo)==items.size)=true then _ else _) _ _ s;rw[AD U,HD];first
  |exact AA (m:=Builtin.Tuple.tupleExact _) (A3 (AB ⟨_,rfl,AB h⟩) F)
  |exact AA (m:=Builtin.Tuple.tupleExact _) (A3 (AA (AB (AB ⟨_,rfl,AB h⟩))) F)
  |exact AA (AA (m:=Builtin.Tuple.tupleExact _) (A3 (AB (AB ⟨_,rfl,AB h⟩)) F))
  |exact AA (AA (m:=Builtin.Tuple.tupleExact _) (A3 (AB ⟨_,rfl,AB h⟩) F))
end
end HT
namespace L2
open PySem PySem.Spec PyProof.Rows
abbrev TO:=St->Hp->(KW Int->Hp->Prop)->Prop
def PO(X:Cx)(e:KW K2)(t:TO):Prop :=
 ∀(Kf:KQ (KU×Obj)) (s:KS) (σ:St) (H:Hp) (Q:KW Int->Hp->Prop),Inv X Kf σ H s->t σ H Q ->
  wpAny (model X.prog X.w) X.A (evalPart e X.env) (fun u F=>∃o H',Inv X Kf σ H' F∧IsPart u o∧Q o H') X.xe s
def qIE:TO:=fun _ H Q=>Q none H
def G3(t:TE):TO:=fun σ H Q=>t σ H fun x H1=>∃i,x= .int i∧Q (some i) H1
section
variable{X:Cx}{e:K2}{te:TE}{lo hi:KW K2}{tl th:TO}{pos p2:Pos}
def tz:PO X none qIE:=by intro Kf s σ H Q I h;rw[evalPart_none];exact AB ⟨none,H,I,.none,h⟩
def HS(h:PE X e te):PO X (some e) (G3 te):=by intro Kf s σ H Q I F;rw[evalPart_some];refine eE (h Kf s σ H _ I F) fun u s1 ⟨x,H1,M,O,R⟩=>?_;obtain⟨i,rfl,q⟩:=R;obtain⟨t,rfl⟩:=O;exact⟨some i,H1,M,.int i t,q⟩
def iP(X:Cx)(r:V->KW Int->KW Int->Hp->VK->Prop):Prop :=
 ∀(Kf:KQ (KU×Obj)) (s:KS) (σ:St) (H:Hp) (x:V) (v F I:KR) (lo hi:KW Int) (sl:KU) (Q:VK),Inv X Kf σ H s->RelV x v->s.heap.IsSliceOf sl F I .none->IsPart F lo->IsPart I hi->r x lo hi H Q ->
  ∃T id,typeLookup (.type T) "__getitem__" = pure (some (.builtin id))∧s.TypeIs v T∧wpAny (model X.prog X.w) X.A (getItem v (.ref sl)) (EP X Kf σ Q) X.xe s
def iP.or{r r':V->KW Int->KW Int->Hp->VK->Prop}(h:iP X r)(h':iP X r'):iP X (fun x lo hi H Q=>r x lo hi H Q∨r' x lo hi H Q):=by
 intro Kf s σ H x v F M lo hi sl Q I O hs pl R q;rcases q with q|q
 ·exact h Kf s σ H x v F M lo hi sl Q I O hs pl R q
 ·exact h' Kf s σ H x v F M lo hi sl Q I O hs pl R q
def IW(r:V->KW Int->KW Int->Hp->VK->Prop)(te:TE)(tl th:TO):TE:=fun σ H Q=>te σ H fun x H1=>tl σ H1 fun l F=>th σ F fun u I=>r x l u I Q
def uB{r:V->KW Int->KW Int->Hp->VK->Prop}(U:iP X r)(he:PE X e te)(Y:PO X lo tl)(Z:PO X hi th):PE X (.Subscript e (.Slice lo hi none p2) pos) (IW r te tl th):=by intro Kf s σ H Q I h;refine Subscript_ (eE (he Kf s σ H _ I h) fun v s1 ⟨x,H1,I1,r1,q1⟩=>?_);refine wpAny_Slice (eE (Y Kf s1 σ H1 _ I1 q1) fun M s2 ⟨l,H2,I2,pl,q2⟩=>eE (Z Kf s2 σ H2 _ I2 q2) fun O F ⟨u,R,I3,pu,q3⟩=>?_);rw[evalPart_none];refine AB ?_;have I4:Inv X Kf σ R { F with heap:=F.heap.push { cls:=.type "slice",data:=.fields #[M,O,.none] } }:=I3.kept (t':=F.toks) fun b ob q=>AC _ q;obtain⟨T,id,hT,ht,hg⟩:=U Kf { F with heap:=F.heap.push { cls:=.type "slice",data:=.fields #[M,O,.none] } } σ R x v M O l u F.heap.objs.size Q I4 r1 (Heap.IsSliceOf.new ..) pl pu q3;show wpAny (model X.prog X.w) X.A (subscriptTail e (.Slice lo hi none p2) v (.ref F.heap.objs.size)) (EP X Kf σ Q) X.xe { F with heap:=F.heap.push { cls:=.type "slice",data:=.fields #[M,O,.none] } };exact tail_any (ops:=[.ref F.heap.objs.size,v]) ht hT hg (by with_unfolding_all rfl)
def iT(xs:KQ V)(lo hi:KW Int):KQ V:=(xs.drop (HT.sIx xs.length 0 lo)).take (HT.sIx xs.length xs.length hi-HT.sIx xs.length 0 lo)
def xG(xs:KQ V)(lo hi:KW Int):(iT xs lo hi).length≤xs.length:=by unfold iT;rw[BX,Bn];omega
def Gx(K:KY):V->KW Int->KW Int->Hp->VK->Prop:=fun x lo hi H Q=>∃a xs,x= .ref a∧fA K H a xs ∧
 ¬(HT.sIx xs.length 0 lo=0∧HT.sIx xs.length xs.length hi=xs.length)∧∀p,H p=none->Q (.ref p) (dW H p (.tup (iT xs lo hi)))
def iN:iP X (Gx X.K):=by
 intro Kf s σ H x v vl vu lo hi sl Q I R hs pl U h;obtain⟨a,xs,rfl,Y,Z,q⟩:=h;cases R;obtain⟨Ki,r,M,O⟩:=I.tuple Y;have F:Ki.toArray.size=xs.length:=by rw[AX];exact r.length.symm
 refine⟨"tuple",_,PyProof.Rows.slot_tuple_getitem.lookup,M.typeIs,?_⟩;refine HT.getItem_tuple_cut M hs pl U (by rw[F];exact Z) ?_ (by rw[F];exact O);rw[F];refine⟨.ref s.heap.objs.size,_,I.laid (t':=s.toks) (o:=.tup (iT xs lo hi)) (fun b ob q=>AC _ q) (AG _) ?_,rfl,q _ (I.hok.fresh (AG _))⟩;exact⟨Ab (xG xs lo hi) O,_,(r.drop (HT.sIx xs.length 0 lo)).take (HT.sIx xs.length xs.length hi-HT.sIx xs.length 0 lo),IsTup.new _ _⟩
def IX(K:KY):R2:=fun x y H Q=>∃a b xs F,x= .ref a∧y= .ref b∧fA K H a xs∧fA K H b F∧xs≠[]∧xs.length+F.length≤sizeLine ∧
 (F=[]->Q (.ref a) H)∧(F≠[]->∀p,H p=none->Q (.ref p) (dW H p (.tup (xs++F))))
def Vals.nil_iff{xs:KQ V}{us:KQ KR}(r:Vals xs us):us=[] ↔ xs=[]:=by
 cases r with|nil=>simp|cons _ _=>simp
def Gm:fS X (binaryOp .Add) (IX X.K):=by
 intro Kf s σ H x y v u Q I U Y h;obtain⟨a,b,xs,Z,rfl,rfl,ha,hb,hx,O,q1,q2⟩:=h;cases U;cases Y;obtain⟨Ki,M,p1,_⟩:=I.tuple ha;obtain⟨R,F,p2,_⟩:=I.tuple hb;refine HT.cat_tup p1 p2 (fun z=>hx (M.nil_iff.mp z)) (fun z=>⟨.ref a,H,I,rfl,q1 (F.nil_iff.mp z)⟩) (fun z=>?_) (by rw[←M.length,←F.length];exact O);refine⟨.ref s.heap.objs.size,_,I.laid (t':=s.toks) (o:=.tup (xs++Z)) (fun b ob q=>AC _ q) (AG _) ?_,rfl,q2 (fun w=>z (F.nil_iff.mpr w)) _ (I.hok.fresh (AG _))⟩;exact⟨by rw[Ac];exact O,_,M.append F,IsTup.new _ _⟩
end
end L2
namespace L2
open PySem PySem.Spec PyProof.Rows
def ixN(n:Nat)(i:Int):KW Nat:=if 0≤i then (if i<n then some i.toNat else none) else if -(n:Int)≤i then some (i+n).toNat else none
def atI{α:Type}(xs:KQ α)(i:Int):KW α:=(ixN xs.length i).bind fun j=>xs[j]?
def mS{n:Nat}{i:Int}{j:Nat}(h:ixN n i=some j):seqIndex? i n=some j∧j<n∧ -(n:Int)≤i∧i<n:=by
 unfold ixN at h;by_cases I:0≤i
 ·rw[AE I]at h;by_cases F:i<n;rw[AE F]at h;have e:i.toNat=j:=Aj h;exact⟨by rw[seqIndex_of I F,e],by omega,by omega,F⟩;rw[AD F]at h;cases h
 ·rw[AD I]at h;by_cases F:-(n:Int)≤i;rw[AE F]at h;have e:(i+n).toNat=j:=Aj h;exact⟨by rw[seqIndex_neg (by omega) F,e],by omega,F,by omega⟩;rw[AD F]at h;cases h
def Jp{α:Type}{xs:KQ α}{i:Int}{v:α}(h:atI xs i=some v):∃j,seqIndex? i xs.length=some j∧xs[j]? = some v∧j<xs.length∧ -(xs.length:Int)≤i∧i<xs.length:=by
 unfold atI at h;cases e:ixN xs.length i with|none=>rw[e]at h;cases h|some j=>rw[e]at h;obtain⟨F,I,M,O⟩:=mS e;exact⟨j,F,h,I,M,O⟩
def px(b:K2):Prop:=∀o i,subscripted b false o i=operate [o,i] (getItem o i)
def io(X:Cx)(r:R2):Prop :=
 ∀(I F:K2) (Kf:KQ (KU×Obj)) (s:KS) (σ:St) (H:Hp) (x y:V) (v u:KR) (Q:VK),Inv X Kf σ H s->RelV x v->RelV y u->r x y H Q ->
  subscripted F false v u=operate [v,u] (getItem v u)->wpAny (model X.prog X.w) X.A (subscriptTail I F v u) (EP X Kf σ Q) X.xe s
def xR(X:Cx)(id:String)(r:V->KQ V->Hp->VK->Prop):Prop :=
 ∀(Kf:KQ (KU×Obj)) (s:KS) (σ:St) (H:Hp) (x:V) (xs:KQ V) (v:KR) (us:KQ KR) (Q:VK),Inv X Kf σ H s->RelV x v->Vals xs us->r x xs H Q ->
  wpAny (model X.prog X.w) X.A (call (.builtin id) (v::us)) (EP X Kf σ Q) X.xe s
section
variable{X:Cx}{a b:K2}{ta tb:TE}{pos:Pos}
def io.or{r r':R2}(h:io X r)(h':io X r'):io X (fun x y H Q=>r x y H Q∨r' x y H Q):=by
 intro F M Kf s σ H x y v u Q I O R q hs;rcases q with q|q
 ·exact h F M Kf s σ H x y v u Q I O R q hs
 ·exact h' F M Kf s σ H x y v u Q I O R q hs
def tq{r:R2}(F:io X r)(M:PE X a ta)(O:PE X b tb)(hs:px b):PE X (.Subscript a b pos) (i9 r ta tb):=by intro Kf s σ H Q I h;exact Subscript_ (mn M O I h fun v u s2 x y R U Y Z q=>F a b Kf s2 σ R x y v u Q U Y Z q (hs _ _))
def pe(K:KY):R2:=fun x y H Q=>∃p xs i v,x= .ref p∧y= .int i∧fq K H p xs∧atI xs i=some v∧Q v H
def pJ(K:KY):R2:=fun x y H Q=>∃p xs i v,x= .ref p∧y= .int i∧fA K H p xs∧atI xs i=some v∧Q v H
def qLb:R2:=fun x y H Q=>∃z i c,x= .str z∧y= .int i∧z.length≤sizeLine∧atI z.cps.toList i=some c∧Q (.str ⟨#[c]⟩) H
def ip:io X (pe X.K):=by
 intro O R Kf s σ H x y v u Q I rx ry h hs;obtain⟨p,xs,i,z,rfl,rfl,hq,he,q⟩:=h;cases rx;obtain⟨t,rfl⟩:=ry;obtain⟨Ki,r,pl,hz⟩:=I.list hq;obtain⟨j,M,h2,h3,h4,h5⟩:=Jp he;obtain⟨w,Z,U⟩:=r.get h2;have hl:=r.length;have hn:=yd;have F:EP X Kf σ Q w s:=⟨z,H,I,U,q⟩;by_cases h0:0≤i
 ·have Y:i.toNat=j:=by rw[seqIndex_of h0 h5]at M;exact Aj M
  exact item_listR pl.isList h0 (by omega) (by rw[Y];simpa using Z) F hs
 ·have Y:(i+(Ki.toArray.size:Int)).toNat=j:=by
   rw[seqIndex_neg (by omega) h4]at M;rw[AX,←hl];exact Aj M
  exact subscriptTail_builtinR (x:=w) pl.isList.typeIs slot_list_getitem.lookup
   (wpAny_getItem_list_neg (Q:=fun r s'=>r=w∧EP X Kf σ Q r s') pl.isList (by omega) (by rw[AX] <;> omega) (by omega) (by rw[Y];simpa using Z) ⟨rfl,F⟩) hs
def iH:io X (pJ X.K):=by
 intro F M Kf s σ H x y v u Q I U Y h hs;obtain⟨p,xs,i,z,rfl,rfl,Z,he,q⟩:=h;cases U;obtain⟨t,rfl⟩:=Y;obtain⟨Ki,r,pl,hz⟩:=I.tuple Z;obtain⟨j,h1,h2,h3,h4,h5⟩:=Jp he;obtain⟨w,ew,O⟩:=r.get h2;have hl:=r.length;have hn:=yd;have R:EP X Kf σ Q w s:=⟨z,H,I,O,q⟩;exact subscriptTail_builtinR (x:=w) pl.typeIs slot_tuple_getitem.lookup
  (getItem_tuple (j:=j) (Q:=fun r s'=>r=w∧EP X Kf σ Q r s') pl (by omega) (by omega) (by rw[AX,←hl];exact h1) (by simpa using ew) ⟨rfl,R⟩) hs
def FC:io X qLb:=by
 intro F M Kf s σ H x y v u Q I R U h hs;obtain⟨z,i,c,rfl,rfl,hz,Y,q⟩:=h;obtain⟨t,rfl⟩:=R;obtain⟨t',rfl⟩:=U;obtain⟨j,O,Z,h3,h4,h5⟩:=Jp Y;have hl:z.cps.toList.length=z.length:=by simp[Str.length]
 rw[hl]at O h4 h5;have hn:=yd;exact tail_any (typeIs_str s z t) slot_str_getitem.lookup (getItem_str (c:=c) (by
  have e1:decide (i < -(2 ^ 63:Int))=false:=AU (by omega);have e2:decide (i≥2 ^ 63)=false:=AU (by omega);rw[e1,e2,Bool.or_false]) (by rw[O];simpa using Z) ⟨.str ⟨#[c]⟩,H,I.tok _,⟨_,rfl⟩,q⟩) hs
def sN(K:KY):R2:=fun x y H Q=>pe K x y H Q∨pJ K x y H Q∨qLb x y H Q
def G1:io X (sN X.K):=ip.or (iH.or FC)
def Db(Ki:KQ KR)(n j:Nat)(u:KR):Obj.mapSeq (·.setIfInBounds j u) { cls:=.type "list",data:=.seq Ki.toArray n }={ cls:=.type "list",data:=.seq (Ki.set j u).toArray n }:=by simp[Obj.mapSeq]
def Inv.lst{Kf:KQ (KU×Obj)}{σ:St}{H:Hp}{s:KS}{p:KU}{xs:KQ V}(I:Inv X Kf σ H s)(h:H p=some (.lst xs)) :
  ∃(Ki:KQ KR) (n:Nat),Vals xs Ki∧s.heap.get? p=some { cls:=.type "list",data:=.seq Ki.toArray n }∧xs.length≤sizeLine:=by obtain⟨z,Ki,n,r,e⟩:=I.hok p _ h;exact⟨Ki,n,r,e,z⟩
def Inv.lstUpd{Kf:KQ (KU×Obj)}{σ:St}{H:Hp}{s:KS}{p:KU}{xs F:KQ V}{Ki KA:KQ KR}{n M:Nat}{f:Obj->Obj}(I:Inv X Kf σ H s)(h:H p=some (.lst xs))
  (R:s.heap.get? p=some { cls:=.type "list",data:=.seq Ki.toArray n }) (O:f { cls:=.type "list",data:=.seq Ki.toArray n }={ cls:=.type "list",data:=.seq KA.toArray M }) (r:Vals F KA) (hz:F.length≤sizeLine) (t:Nat) :
  Inv X Kf σ (dW H p (.lst F)) { s with heap:=s.heap.update p f,toks:=t }:=by
 have e:(s.heap.update p f).get? p=some { cls:=.type "list",data:=.seq KA.toArray M }:=by rw[Av f R (by rw[O] <;> rfl),O]
 refine I.write (x:=p) (e:=p) (by rw[h];trivial) (.inl rfl) (fun b u U q=>(AV _ _ (Ne.symm U)).trans q) ⟨_,e⟩ ?_;exact⟨hz,KA,M,r,e⟩
def qI7:V->V->V->Hp->(Hp->Prop)->Prop:=fun o i v H Q=>∃p xs k j,o= .ref p∧i= .int k∧H p=some (.lst xs)∧ixN xs.length k=some j∧Q (dW H p (.lst (xs.set j v)))
def uY:n5 X qI7:=by
 intro Kf s σ H o i v ov iv u Q I ro ri rv h;obtain⟨p,xs,k,j,rfl,rfl,U,hj,q⟩:=h;cases ro;obtain⟨t,rfl⟩:=ri;obtain⟨Ki,n,r,M,hz⟩:=I.lst U;obtain⟨F,h2,Y,Z⟩:=mS hj;have O:=r.length;have hn:=yd;have I':Inv X Kf σ (dW H p (.lst (xs.set j v))) { s with heap:=s.heap.update p (Obj.mapSeq (·.setIfInBounds j u)) } :=
  I.lstUpd U M (Db Ki n j u) (r.set rv j) (by rw[List.length_set];exact hz) s.toks
 by_cases h0:0≤k
 ·have R:k.toNat=j:=by rw[seqIndex_of h0 Z]at F;exact Aj F
  exact W.ki_setAt M h0 (by omega) (by rw[AX,←O];exact Z) (by rw[R];exact⟨_,I',q⟩)
 ·have R:(k+(Ki.toArray.size:Int)).toNat=j:=by
   rw[seqIndex_neg (by omega) Y]at F;rw[AX,←O];exact Aj F
  exact W.ki_setBack M (by omega) (by rw[AX,←O];exact Y) (by omega) (by rw[R];exact⟨_,I',q⟩)
def JS:Wi X (.builtin "len") (fun xs H Q=>∃p M,xs=[.ref p]∧(fq X.K H p M∨fA X.K H p M)∧Q (.int M.length) H):=by
 intro Kf s σ H xs us Q I r h;obtain⟨p,M,rfl,hq,q⟩:=h;obtain⟨u,rfl,R⟩:=Zi r;cases R;have Y:=yd;rcases hq with hq|hq
 ·obtain⟨Ki,O,pl,U⟩:=I.list hq;have F:=O.length;exact Calls.call_len_list pl.isList (by simp only[AX] <;> omega) ⟨.int M.length,H,I.tok _,⟨s.toks+1,by rw[AX,F]⟩,q⟩
 ·obtain⟨Ki,O,pl,U⟩:=I.tuple hq;have F:=O.length;exact len_tuple pl (by simp only[AX] <;> omega) ⟨.int M.length,H,I.tok _,⟨s.toks+1,by rw[AX,F]⟩,q⟩
def Jq:Wi X (.type "list") (fun xs H Q=>∃p F,xs=[.ref p]∧(fq X.K H p F∨fA X.K H p F)∧∀l,H l=none->Q (.ref l) (dW H l (.lst F))):=by
 intro Kf s σ H xs us Q I r h;obtain⟨p,F,rfl,hq,q⟩:=h;obtain⟨u,rfl,rx⟩:=Zi r;cases rx;have R:∀(Ki:KQ KR),Vals F Ki->F.length≤sizeLine->∀(h':Heap) (M:Nat),(∀b o',s.heap.get? b=some o'->h'.get? b=some o') ->
   h'.get? s.heap.objs.size=some { cls:=.type "list",dict:=none,data:=.seq Ki.toArray M,slots := #[] }->EP X Kf σ Q (.ref s.heap.objs.size) { s with heap:=h' }:=fun Ki O U h' M kp e =>
  ⟨.ref s.heap.objs.size,_,I.laid (t':=s.toks) kp (AG _) (show ey X.prog X.w _ h' _ (.lst F) from⟨U,Ki,M,O,e⟩),rfl,q _ (I.hok.fresh (AG _))⟩
 rcases hq with hq|hq
 ·obtain⟨Ki,O,pl,U⟩:=I.list hq;have Y:=O.length;obtain⟨o,Z,hc,n,hd⟩:=pl.isList;exact call_list_seq p (.inl rfl) Z hc hd (fun h' M kp e=>R Ki O U h' M kp e) (by simp only[AX] <;> omega)
 ·obtain⟨Ki,O,pl,U⟩:=I.tuple hq;have Y:=O.length;obtain⟨o,Z,hc,n,hd⟩:=pl;exact call_list_seq p (.inr rfl) Z hc hd (fun h' M kp e=>R Ki O U h' M kp e) (by simp only[AX] <;> omega)
def jR:Wi X (.type "tuple") (fun xs H Q=>∃p F,xs=[.ref p]∧((fq X.K H p F∧∀l,H l=none->Q (.ref l) (dW H l (.tup F)))∨(fA X.K H p F∧Q (.ref p) H))):=by
 intro Kf s σ H xs us Q I r h;obtain⟨p,F,rfl,h⟩:=h;obtain⟨u,rfl,Z⟩:=Zi r;cases Z;rcases h with⟨M,q⟩|⟨M,q⟩
 ·obtain⟨Ki,O,pl,R⟩:=I.list M;have U:=O.length;refine call_tuple_list pl.isList (fun h' kp=>?_) (by simp only[AX] <;> omega);have Y:Inv X Kf σ H { s with heap:=h' }:=I.kept (t':=s.toks) kp;have I2:Inv X Kf σ (dW H h'.objs.size (.tup F)) { s with heap:=h'.push { cls:=.type "tuple",data:=.seq Ki.toArray } } :=
   Y.laid (t':=s.toks) (fun b o e=>AC _ e) (AG _) (show ey X.prog X.w _ _ _ (.tup F) from⟨R,Ki,O,IsTup.new _ _⟩)
  exact⟨.ref h'.objs.size,_,I2,rfl,q _ (Y.hok.fresh (AG _))⟩
 ·obtain⟨Ki,O,pl,R⟩:=I.tuple M;exact call_tuple_same pl ⟨.ref p,H,I,rfl,q⟩
def nY(K:KY)(T:String)(x:V)(H:Hp):Prop:=match x with
 | .str _=>T = "str"
 | .int _=>T = "int"
 | .ref p=>(T = "list" ∧∃xs,fq K H p xs)∨(T = "tuple" ∧∃o,K.lookup p=some o∧o.cls= .type "tuple" ∧o.dict=none) ∨
   (T = "dict" ∧((∃Kh,H p=some (.dK Kh))∨∃Kh,H p=some (.dT Kh)))∨(T = "set" ∧∃S n,H p=some (.set S n))
 |_=>False
def Hr{Kf:KQ (KU×Obj)}{σ:St}{H:Hp}{s:KS}{T:String}{x:V}{v:KR}(I:Inv X Kf σ H s)(r:RelV x v)(ty:nY X.K T x H) :
  s.TypeIs v T∧∀a,v= .ref a->∃O,s.heap.get? a=some O∧O.dict=none:=by
 cases x with
 |str z=>obtain⟨t,rfl⟩:=r;cases (show T = "str" from ty);exact⟨typeIs_str s z t,fun _ e=>nomatch e⟩
 |int i=>obtain⟨t,rfl⟩:=r;cases (show T = "int" from ty);exact⟨typeIs_int s i t,fun _ e=>nomatch e⟩
 |ref p =>
  cases r;rcases ty with⟨rfl,xs,R⟩|⟨rfl,o,F,U,hd⟩|⟨rfl,F⟩|⟨rfl,S,n,F⟩
  ·obtain⟨Ki,_,pl,_⟩:=I.list R;refine⟨pl.isList.typeIs,fun a e=>?_⟩;cases e;obtain⟨o,n,e,c,hd,_⟩:=pl;exact⟨o,e,hd⟩
  ·refine⟨⟨o,I.kIn p o F,U⟩,fun a e=>?_⟩;cases e;exact⟨o,I.kIn _ o F,hd⟩
  ·have z:∃o,s.heap.get? p=some o∧o.ExactDict:=by
    rcases F with⟨Kh,F⟩|⟨Kh,F⟩
    ·obtain⟨_,_,_,_,o,_,_,e,ex,_⟩:=I.hok p _ F;exact⟨o,e,ex⟩
    ·obtain⟨_,_,_,_,o,_,_,e,ex,_⟩:=I.hok p _ F;exact⟨o,e,ex⟩
   obtain⟨o,e,ex⟩:=z;refine⟨⟨o,e,ex.1⟩,fun a M=>?_⟩;cases M;exact⟨o,e,ex.2.1⟩
  ·obtain⟨o,_,_,_,e,ex,_⟩:=I.hok p _ F;refine⟨⟨o,e,ex.1⟩,fun a M=>?_⟩;cases M;exact⟨o,e,ex.2.1⟩
 |_=>exact False.elim ty
def tZ(K:KY)(T:String)(r:V->KQ V->Hp->VK->Prop)(to:TE)(t:TA):TE:=fun σ H Q=>to σ H fun x H1=>nY K T x H1∧t σ H1 fun xs F=>r x xs F Q
variable{o e:K2}{es:KQ K2}{to:TE}{t:TA}{name:Str}{Kt Kq:Pos}{T id:String}{r:V->KQ V->Hp->VK->Prop}
def Iq(pa:PlainAttrs T)(slot:Slot T name id)(U:typeOf (.builtin id)=pure (.type "method_descriptor"))(hm:xR X id r)(ho:PE X o to)(ha:PA X (e::es) t)
  (M:attributeBase o name X.env (eval o X.env)=eval o X.env:=by rfl)
  (R:((backTo Kq (starEach (e::es) X.env)).all (fun x=> !x.1)&&(backToKw Kq (keywordEach [] X.env)).all (fun x=>x.1.isSome)
   && decide ((e::es).length+([]:KQ Keyword).length+(if ([]:KQ Keyword).isEmpty then 0 else 1)<30))=true:=by rfl)
  (O:(Kt.endLine==Kq.line)=true:=by rfl) (hs:starEach (e::es) X.env=(false,eval e X.env)::starEach es X.env:=by rfl) (F:(backTo Kq (starEach es X.env)).any (·.1)=false:=by rfl) :
  PE X (.Call (.Attribute o name Kt) (e::es) [] Kq) (tZ X.K T r to t):=by
 intro Kf s σ H Q I h;refine wpAny_Call_method_late M R O rfl (eE (ho Kf s σ H _ I h) fun v s1 ⟨x,H1,Y,Z,ty,q1⟩=>?_);obtain⟨h1,h2⟩:=Hr Y Z ty;refine⟨T,id,pa,slot,U,h1,h2,?_⟩;have hA:=ha Kq Kf s1 σ H1 _ Y q1;rw[hs]at hA ⊢;refine Cw (by show (false||(backTo Kq (starEach es X.env)).any (·.1))=false;rw[F] <;> rfl) (Calls.evalArgs_plain ?_);exact eE hA fun us s2 ⟨vs,H2,I2,r2,q2⟩=>hm Kf s2 σ H2 x vs v us Q I2 Z r2 q2
end
end L2
namespace L2
open PySem PySem.Spec PyProof.Rows
def oZ(X:Cx)(id:String)(r:V->KQ V->Hp->VK->Prop):Prop :=
 ∀(Kf:KQ (KU×Obj)) (s:KS) (σ:St) (H:Hp) (x:V) (xs:KQ V) (v:KR) (us:KQ KR) (Q:VK),Inv X Kf σ H s->RelV x v->Vals xs us->r x xs H Q ->
  wpAny (model X.prog X.w) X.A (call (.builtin id) (v::us)) (EP X Kf σ Q) X.xe s
def Vals.one:∀{x:V} {us:KQ KR},Vals [x] us->∃u,us=[u]∧RelV x u|_,_,.cons r .nil=>⟨_,rfl,r⟩
section
variable{X:Cx}{Kf:KQ (KU×Obj)}{σ:St}{H:Hp}{s:KS}{l b:KU}{xs ys zs:KQ V}
def Inv.lset{Ki KA:KQ KR}{n:Nat}{f:K3 KR->K3 KR}{t':Nat}(I:Inv X Kf σ H s)(F:H l=some (.lst xs))
  (e:s.heap.get? l=some { cls:=.type "list",data:=.seq Ki.toArray n }) (M:f Ki.toArray=KA.toArray) (O:Vals ys KA) (hz:ys.length≤sizeLine) :
  Inv X Kf σ (dW H l (.lst ys)) { s with heap:=s.heap.update l (Obj.mapSeq f),toks:=t' }:=by
 have q:=PySem.IsL.update e f;rw[M]at q;refine I.write (x:=l) (e:=l) (by rw[F];exact trivial) (.inl rfl) (fun b' u R U=>(AV s.heap (Obj.mapSeq f) (Ne.symm R)).trans U) ⟨_,q⟩ ?_;exact⟨hz,KA,_,O,q⟩
def Inv.lnew{Ki:KQ KR}{t':Nat}(I:Inv X Kf σ H s)(F:Vals ys Ki)(hz:ys.length≤sizeLine) :
  Inv X Kf σ (dW H s.heap.objs.size (.lst ys)) { s with heap:=s.heap.push { cls:=.type "list",data:=.seq Ki.toArray },toks:=t' } :=
 I.laid (fun _ _ q=>AC _ q) (AG _) ⟨hz,Ki,0,F,AR _ rfl⟩
def Inv.fresh(I:Inv X Kf σ H s):H s.heap.objs.size=none:=I.hok.fresh (AG _)
def Inv.lstM(I:Inv X Kf σ H s)(F:H l=some (.lst xs)):xs.length≤sizeLine∧∃(Ki:KQ KR) (n:Nat),Vals xs Ki∧xs.length=Ki.length∧s.heap.get? l=some { cls:=.type "list",data:=.seq Ki.toArray n }:=by obtain⟨z,Ki,n,r,e⟩:=I.hok l _ F;exact⟨z,Ki,n,r,r.length,e⟩
end
section
variable{X:Cx}
def qHq:V->KQ V->Hp->VK->Prop:=fun x vs H Q=>∃l xs y,x= .ref l∧vs=[y]∧H l=some (.lst xs)∧xs.length<sizeLine∧Q .non (dW H l (.lst (xs++[y])))
theorem HJ:oZ X "list.append" qHq:=by
 intro Kf s σ H x vs v us Q I O R h;obtain⟨l,xs,y,rfl,rfl,M,Y,q⟩:=h;cases O;obtain⟨u,rfl,U⟩:=R.one;obtain⟨z,Ki,n,r,Z,e⟩:=I.lstM M;refine call_meets F.slot_list_append ⟨_,e,rfl⟩ F.entry_list_append (F.args_list_append_2 _ _) (PySem.list_append l Ki.toArray n u (by rw[AX];omega)) ⟨e,?_⟩;refine⟨.non,_,I.lset (KA:=Ki++[u]) M e (by simp) (r.append (.cons U .nil)) ?_,rfl,q⟩;rw[Ac,A2];omega
end
end L2
namespace KJ
open PySem PySem.W PySem.Calls PyProof.Rows
def YQ{P:Params}{h:Heap}:∀(ns:KQ Int) (vs:KQ KR),WellAll P h vs (ns.map WData.int)->IntsAre vs ns:=by
 intro ns;induction ns with
 |nil=>intro vs w;rw[List.map_nil]at w;cases w;exact .nil
 |cons n ns F =>
  intro vs w;rw[AM]at w;cases w with|cons a b=>cases a;exact .cons _ _ (F _ b)
def vo{l:OpenLaw}{n:Nat}(hn:l.most=some n){P:Params}{h:Heap}{args:KQ WData}{F:KQ KR}
  (I:l.row.toRowW.claim.pre args=true) (Y:WellAll P h F args) :
  ∃a vs ns,F=[Value.ref a]∧args=[WData.list (ns.map WData.int)]∧h.get? a=some { cls:=.type "list",data:=.seq vs.toArray }∧IntsAre vs ns∧ns.length≤n:=by
 have Z:WShape.hasAll [] args [.list .int]=true:=(pre_splitW I).1;have hc:l.pre.holds [] { args:=args }=true:=(pre_splitW I).2;obtain⟨d,r,rfl,h1,h2⟩:=hasAllW_cons Z;obtain rfl:=hasAllW_nil h2;obtain⟨xs,rfl,h3⟩:=hasW_list h1;obtain⟨ns,rfl⟩:=items_int h3;have M:ns.length≤n:=by
  unfold OpenLaw.pre at hc;have R:(WTm.not (.lt (.lit (.int (n:Int))) (.len (.arg 0)))).holds [] { args:=[.list (ns.map .int)] }=true:=by have R:=(holds_andW hc).1;rw[hn]at R;exact R
  have U:=condW_of R (w_not (w_lt w_lit (w_len_list (w_arg rfl))));rw[AF]at U;refine Nat.le_of_not_lt fun q=>?_;have q':(n:Int)<((ns.length:Nat):Int):=by omega
  first
   |(rw[AS q']at U;exact absurd U (by decide))
   |(simp at U;omega)
 cases Y with
 |cons w1 w2 =>
  cases w2;cases w1 with|list ho O=>exact⟨_,_,ns,rfl,rfl,ho,YQ ns _ O,M⟩
def Ge(l:OpenLaw)(args:KQ WData):l.row.toRowW.claim.post args (.bool true) args=true :=
 postW_of (r:=l.row.toRowW) (X:=(true==true))
  (show WShape.has [] (.bool true) .bool=true by first|rfl|decide|simp[WShape.has,WShape.arms,WShape.armsAll])
  (show (WTm.eq .res (.lit (.bool true))).value [] { args:=args,res:=some (.bool true),after:=args }=some (.bool (true==true)) from w_eq_bool (w_res rfl) w_lit) rfl
end KJ
namespace L2
open PySem PySem.Spec PyProof.Rows
def j3:∀{vs:KQ KR} {ns:KQ Int},IntsAre vs ns->Vals (ns.map V.int) vs|_,_,.nil=>.nil|_,_,.cons n t h=>.cons ⟨t,rfl⟩ (j3 h)
def ln(H:Hp):Prop:=∀b,H b=none∨∃o xs,H b=some (.frz o (.lst xs))
def Fl{P:KZ}{w:K0}{K:KY}{mg mb:Str->KW KR}{CX:CXT}{k:Nat}{fa a:KU}{fd:FuncData}{x:Str}{sp:Sp}{I:KS}{vs:KQ KR}{ns:KQ Int}
  (KX:K.In I.heap) (Z:I.heap.Ns mainGlobals mg) (O:I.heap.Ns builtinsNs mb) (a4:∀x:Str,x ≠ "__name__" ->mb x=bootBuiltins x) (a0:I.heap.NoLimit) (hg:I.gens = #[])
  (ha:I.heap.get? a=some { cls:=.type "list",data:=.seq vs.toArray }) (hi:IntsAre vs ns) (hl:ns.length≤sizeLine) (hr:eZ k callerA)
  (F:∀base:Heap,K.In base->base.Ns mainGlobals mg->fZ P w K mg base CX k fa fd [x] sp) (Y:∀(s:KS) (u:KR),BindsTo s fd ⟨[u],[]⟩ [(x,u)])
  (a5:∀H:Hp,ln H->fq K H a (ns.map V.int)->sp [.ref a] H (fun v _=>v= .bl true) fun _ _ _=>False)
  (a6:∀H e s',CX [] H I (fun _ _ _=>False) e s'->False) :
  codeAny (model P w) callerA (.call (.ref fa) ⟨[.ref a],[]⟩) (fun r s'=>r= .ok (.ret (.bool true))∧OldK I.heap s'.heap∧s'.os=I.os∧AllBare s'.gens) I:=by
 have rv:=j3 hi;have a1:=hi.length
 -- from an abstract heap in which nothing but the script may be tracked
 have U:∀H:Hp,ln H->fq K H a (ns.map V.int)->fP P w H I.heap->(∀b,H b≠none->b=a)->(H a≠none->K.lookup a=none) ->
   codeAny (model P w) callerA (.call (.ref fa) ⟨[.ref a],[]⟩) (fun r s'=>r= .ok (.ret (.bool true))∧OldK I.heap s'.heap∧s'.os=I.os∧AllBare s'.gens) I:=by
  intro H hO hS hok hA hK;have M:∀{b:KU} {o:Obj},I.heap.get? b=some o->H b=none->(JU I.heap H).get? b=some o:=fun e n=>EN e n;have a7:∀{b:KU} {o:Obj} {es:K3 DictEntry} {ep:Nat},I.heap.get? b=some o->o.data= .dict es ep->H b=none:=fun {b o es ep} e d=>by
   cases q:H b with
   |none=>rfl
   |some u =>
    have e':b=a:=hA b (by rw[q];simp);subst e';rw[ha]at e;cases e;have d':Data.seq vs.toArray _=Data.dict es ep:=d;cases d'
  have R:∀{b:KU} {m:Str->KW KR},I.heap.Ns b m->(JU I.heap H).Ns b m:=fun {b m} ⟨o,es,ep,e,d,r⟩=>⟨o,es,ep,M e (a7 e d),d,r⟩;have a2:K.In (JU I.heap H):=fun b o e=>M (KX b o e) (by
   cases q:H b with
   |none=>rfl
   |some u =>
    have e':b=a:=hA b (by rw[q];simp);subst e';rw[hK (by rw[q];simp)]at e;cases e)
  have hM:Mod K mg (JU I.heap H):=⟨a2,R Z,⟨mb,R O,a4⟩,let ⟨mc,h1,h2⟩:=a0;⟨mc,R h1,h2⟩⟩;have e0:il P w K mg (JU I.heap H) callerA [] I H:=⟨rfl,hM,fun b o e=>Es e,Nat.le_of_eq (sI _ _),trivial,fun b O=>absurd (show b∈([]:KQ KU) from O) (by simp),hok,.of_eq hg,gT.none rfl⟩;refine codeAny_mono ((F _ a2 (R Z)).run callerA [] I H ⟨[.ref a],[]⟩ [.ref a] [.ref a] _ _ hr e0 (Y I (.ref a)) (.cons rfl .nil) (a5 H hO hS)) fun r s' h=>?_;cases r with
  |error e=>exact (a6 H e s' h).elim
  |ok fl =>
   cases fl with
   |next=>exact False.elim h
   |brk=>exact False.elim h
   |cont=>exact False.elim h
   |ret u =>
    obtain⟨v,H',os,bare,un,a3,r',q⟩:=h;have q':v= .bl true:=q;subst q';obtain rfl:u=Value.bool true:=r';refine⟨rfl,OldK.of_keep fun b o e=>?_,os,bare⟩;cases q:H b with
    |none=>exact un.keep b o e q (by intro z;exact absurd (show b∈([]:KQ KU) from z) (by simp)) (by simp)
    |some u =>
     rcases hO b with z|⟨ob,xs,z⟩
     ·rw[q]at z;cases z
     ·have z2:=un.frzs b ob _ z;obtain⟨e1,_⟩:=hok b _ z;obtain⟨e2,_⟩:=a3 b _ z2;rw[e]at e1;cases e1;exact e2
 cases hk:K.lookup a with
 |some o =>
  -- the script is one of the module's own objects
  have e:=KX a o hk;rw[ha]at e;cases e;refine U (fun _=>none) (fun _=>.inl rfl) (.inr ⟨_,vs.toArray,_,hk,rfl,rfl,rfl,by rw[AX,a1];exact hl,by simpa using rv⟩) (fun b u z=>by have z':(none:KW HO)=some u:=z;cases z') (fun b z=>absurd rfl z) fun z=>absurd rfl z
 |none =>
  refine U (fun b=>if b=a then some (.frz { cls:=.type "list",data:=.seq vs.toArray } (.lst (ns.map V.int))) else none) (fun b=>?_) (.inl (.inr ⟨{ cls:=.type "list",data:=.seq vs.toArray },AE rfl⟩)) (fun b u z=>?_) (fun b z=>?_) fun _=>hk
  ·by_cases O:b=a;exact .inr ⟨_,_,AE O⟩;exact .inl (AD O)
  ·by_cases O:b=a;have z':=(AE O).symm.trans z;cases z';subst O;exact⟨ha,by rw[AF];exact hl,vs,_,rv,ha⟩;have z':=(AD O).symm.trans z;cases z'
  ·by_cases O:b=a;exact O;exact absurd (AD O) z
end L2
namespace L2
open PySem PySem.Spec PyProof.Rows
end L2
namespace L2
open PySem PySem.Spec PyProof.Rows
def qa(s:Stmt):Arguments:=match s with| .FunctionDef _ a _ _ _ _ _ _ _ _=>a|_=>{ posonlyargs:=[],args:=[],vararg:=none,kwonlyargs:=[],kw_defaults:=[],kwarg:=none,defaults:=[] }
def qX(s:Stmt):KQ Stmt:=match s with| .FunctionDef _ _ b _ _ _ _ _ _ _=>b|_=>[]
def qJ(s:Stmt):Scope:=match s with| .FunctionDef _ _ _ _ _ _ sc _ _ _=>sc|_=>{ kind:=.function,names:=[],isGenerator:=false,isCoroutine:=false }
abbrev E0:XK:=fun _ _ _=>False
structure fD (K:W.Frag) (x qual:Str) (st:Stmt) (f:Addr) (fd:FuncData):Prop where
 ex:∃(oc:Value) (od:Option Addr) (kV Kv pm:Value) (an:Option Addr) (Kr ct:Value) (KC:Array (Option Value)),
  fd=W.fnOf x qual (qa st) (qX st) (qJ st) .none kV Kv pm an Kr ct∧K.lookup f=some ⟨oc,od,.func fd,KC⟩∧W.codeIn K Kr qual=true
 kp:W.keepIn K (.ref f)=true
section
variable{P:KZ}{w:K0}{K:KY}{mg:Str->KW KR}{base:Heap}
def fD.binds{x qual:Str}{st:Stmt}{f:KU}{fd:FuncData}{ps:KQ Str}(F:fD K x qual st f fd)
  (h:∀(kV Kv pm:KR) (an:KW KU) (Kr ct:KR) (us:KQ KR),us.length=ps.length->bindArgs (W.fnOf x qual (qa st) (qX st) (qJ st) .none kV Kv pm an Kr ct) ⟨us,[]⟩=pure (ps.zip us)):Binds K fd ps []:=by obtain⟨oc,od,kV,Kv,pm,an,Kr,ct,KC,rfl,lk,I⟩:=F.ex;exact .all (h kV Kv pm an Kr ct)
def QT{x qual:Str}{st:Stmt}{f:KU}{oc:KR}{od an:KW KU}{KC:K3 (KW KR)}{kV Kv pm Kr ct:KR}(l:K.lookup f=some ⟨oc,od,.func (W.fnOf x qual (qa st) (qX st) (qJ st) .none kV Kv pm an Kr ct),KC⟩)
  (c:W.codeIn K Kr qual=true) (k:W.keepIn K (.ref f)=true):fD K x qual st f (W.fnOf x qual (qa st) (qX st) (qJ st) .none kV Kv pm an Kr ct):=⟨⟨oc,od,kV,Kv,pm,an,Kr,ct,KC,rfl,l,c⟩,k⟩
end
section
variable{X:Cx}
def pv(i:Nat){x:Str}{pos:Pos}(I:X.N[i]? = some x:=by rfl)(M:i6 X.env.scope x:=by first|exact Or.inl rfl|exact Or.inr (Or.inl rfl)|exact Or.inr (Or.inr rfl))(hd:(x==("__debug__":Str))=false:=by decide)
  (F:(x==("__classdict__":Str))=false:=by decide):PE X (.Name x pos) (my i):=HW I M hd F
end
def kN{A B:Prop}(h:B):if false=true then A else B:=by rw[AD A6];exact h
def kZ{A B:Prop}(h:A):if true=true then A else B:=by rw[AE rfl];exact h
def gB(H H':Hp):Prop:=∀b o,H b=some o->H' b=some o
def gB.refl(H:Hp):gB H H:=fun _ _ h=>h
end L2
end
section
namespace L2
open PySem PySem.Spec PyProof.Rows
section
variable{κ:Type}[DecidableEq κ]
def Z2(Kh:KQ (κ×V))(k:κ):KW V:=(Kh.find? fun F=>decide (F.1=k)).map (·.2)
def Zq(Kh:KQ (κ×V))(k:κ)(v:V):KQ (κ×V) :=
 if (Kh.any fun F=>decide (F.1=k))=true then Kh.map (fun F=>if F.1=k then (F.1,v) else F) else Kh++[(k,v)]
def Yc{p:κ×V}{r:KQ (κ×V)}{k:κ}(e:p.1=k):Z2 (p::r) k=some p.2:=by simp[Z2,BW,e]
def Ym{p:κ×V}{r:KQ (κ×V)}{k:κ}(e:¬p.1=k):Z2 (p::r) k=Z2 r k:=by simp[Z2,BW,e]
def pQ(k:κ):∀Kh:KQ (κ×V),(Kh.any fun F=>decide (F.1=k))=(Z2 Kh k).isSome
 |[]=>rfl
 |p::r=>by
  rw[List.any_cons];by_cases e:p.1=k;simp only[Yc e,AS e,Bool.true_or,Option.isSome_some];rw[Ym e,AU e,Bool.false_or];exact pQ k r
def YC(Kh:KQ (κ×V))(k:κ)(v:V):(Zq Kh k v).length≤Kh.length+1:=by
 unfold Zq;split;rw[AF];omega;rw[Ac,AO,CT];omega
def gc.isSome_eq{o:KW V}{u:KW KR}(r:gc o u):o.isSome=u.isSome:=by
 cases o with
 |none=>cases u with|none=>rfl|some _=>exact (show False from r).elim
 |some _=>cases u with|none=>exact (show False from r).elim|some _=>rfl
def gc.getD{o:KW V}{u:KW KR}{d:V}{d':KR}(r:gc o u)(rd:RelV d d'):RelV (o.getD d) (u.getD d'):=by
 cases o with
 |none=>cases u with|none=>exact rd|some _=>exact (show False from r).elim
 |some _=>cases u with|none=>exact (show False from r).elim|some _=>exact r
def KV.val{Kh:KQ (κ×V)}{vs:KQ (κ×KR)}(r:KV Kh vs)(k:κ):gc (Z2 Kh k) (valueAt vs k):=by
 unfold KV at r;induction r with
 |nil=>exact True.intro
 | @cons p q ps F h t O =>
  obtain⟨M,R⟩:=h;by_cases e:p.1=k
  ·have I:q.1=k:=M.symm.trans e;have b:valueAt (q::F) k=some q.2:=by simp[valueAt,BW,I]
   rw[Yc e,b];exact R
  ·have I:¬q.1=k:=fun z=>e (M.trans z);have b:valueAt (q::F) k=valueAt F k:=by simp[valueAt,BW,I]
   rw[Ym e,b];exact O
def KV.any{Kh:KQ (κ×V)}{vs:KQ (κ×KR)}(r:KV Kh vs)(k:κ):(Kh.any fun F=>decide (F.1=k))=vs.any fun F=>decide (F.1=k):=by
 unfold KV at r;induction r with|nil=>rfl|cons h t I=>rw[List.any_cons,List.any_cons,I,h.1]
def KV.repl{Kh:KQ (κ×V)}{vs:KQ (κ×KR)}(r:KV Kh vs)(k:κ){y:V}{u:KR}(M:RelV y u) :
  KV (Kh.map fun F=>if F.1=k then (F.1,y) else F) (vs.map fun F=>if F.1=k then (F.1,u) else F):=by
 unfold KV at r ⊢;induction r with
 |nil=>exact .nil
 | @cons p q ps U h t O =>
  rw[AM,AM];refine .cons ?_ O;obtain⟨I,R⟩:=h;by_cases e:p.1=k;rw[AE e,AE (I.symm.trans e)];exact⟨I,M⟩;rw[AD e,AD (fun z=>e (I.trans z))];exact⟨I,R⟩
def KV.put{Kh:KQ (κ×V)}{vs:KQ (κ×KR)}(r:KV Kh vs)(k:κ){y:V}{u:KR}(F:RelV y u):KV (Zq Kh k y) (stored vs k u):=by
 unfold Zq stored;rw[r.any k];by_cases e:(vs.any fun I=>decide (I.1=k))=true;rw[AE e,AE e];exact r.repl k F;rw[AD e,AD e];exact Paired.snoc r ⟨rfl,F⟩
def KV.length{Kh:KQ (κ×V)}{vs:KQ (κ×KR)}(r:KV Kh vs):Kh.length=vs.length:=Paired.length r
end
def kL{P:KZ}{w:K0}{k:Key}{u:KR}(r:RelV (kV k) u):(Qn P w).is k u=true:=by
 cases k with|inl i=>obtain⟨t,e⟩:=(show ∃t,u=Value.int i t from r);subst e;exact IC P w i t|inr x=>obtain⟨t,e⟩:=(show ∃t,u=Value.str x t from r);subst e;exact J1 P w x t
def jq{P:KZ}{w:K0}:∀{ks:KQ Key} {us:KQ KR},Vals (ks.map kV) us->ItemsAre (Qn P w) ks us
 |[],_,r=>by rw[List.map_nil]at r;cases r;exact .nil
 |k::ks,_,r=>by
  rw[AM]at r;cases r with|cons h t=>exact .cons (kL h) (jq t)
abbrev KT(H:Hp):KQ (KQ Key×V)->KQ (KQ Key×KU×KR)->Prop:=Paired fun p q=>p.1=q.1∧H q.2.1=some (.tup (p.1.map kV))∧RelV p.2 q.2.2
def KT.val{H:Hp}{Kh:KQ (KQ Key×V)}{xs:KQ (KQ Key×KU×KR)}(r:KT H Kh xs)(k:KQ Key):gc (Z2 Kh k) ((atKey xs k).map (·.2)):=by
 induction r with
 |nil=>exact True.intro
 | @cons p q ps F h t O =>
  obtain⟨M,_,R⟩:=h;by_cases e:p.1=k
  ·have I:q.1=k:=M.symm.trans e;have b:atKey (q::F) k=some q.2:=by simp[atKey,BW,I]
   rw[Yc e,b];exact R
  ·have I:¬q.1=k:=fun z=>e (M.trans z);have b:atKey (q::F) k=atKey F k:=by simp[atKey,BW,I]
   rw[Ym e,b];exact O
def KT.repl{H:Hp}{Kh:KQ (KQ Key×V)}{xs:KQ (KQ Key×KU×KR)}(r:KT H Kh xs)(k:KQ Key){y:V}{u:KR}(O:RelV y u) :
  KT H (Kh.map fun I=>if I.1=k then (I.1,y) else I) (xs.map (putAt k u)):=by
 induction r with
 |nil=>exact .nil
 | @cons p q ps Y h t R =>
  rw[AM,AM];refine .cons ?_ R;obtain⟨F,M,U⟩:=h;unfold putAt;by_cases e:p.1=k;rw[AE e,AE (F.symm.trans e)];exact⟨F,M,O⟩;rw[AD e,AD (fun z=>e (F.trans z))];exact⟨F,M,U⟩
def KT.put{H:Hp}{Kh:KQ (KQ Key×V)}{xs:KQ (KQ Key×KU×KR)}(r:KT H Kh xs)(k:KQ Key){b:KU}{y:V}{u:KR}(I:H b=some (.tup (k.map kV)))(F:RelV y u) :
  KT H (Zq Kh k y) (storedH xs k b u):=by
 have e:(Kh.any fun M=>decide (M.1=k))=(atKey xs k).isSome:=by rw[pQ,(r.val k).isSome_eq,Option.isSome_map]
 unfold Zq storedH;rw[e];by_cases q:(atKey xs k).isSome=true;rw[AE q,AE q];exact r.repl k F;rw[AD q,AD q];exact Paired.snoc r ⟨rfl,I,F⟩
def KT.keeps{H H':Hp}{Kh:KQ (KQ Key×V)}{xs:KQ (KQ Key×KU×KR)}(r:KT H Kh xs)(I:∀b F,H b=some (.tup F)->H' b=some (.tup F)):KT H' Kh xs :=
 Paired.mapP r fun _ _ z=>⟨z.1,I _ _ z.2.1,z.2.2⟩
section
variable{P:KZ}{w:K0}{H:Hp}{h:Heap}{a:KU}
def oh{u:HO}(ok:fP P w H h)(e:Rd H a u):ey P w H h a u:=e.ok ok
def kw{Kh:KQ (Key×V)}(ok:fP P w H h)(e:Rd H a (.dK Kh)):Kh.length≤sizeLine∧(a==sysModules)=false∧∃vs,KV Kh vs∧h.DictOf (Qn P w) a vs :=
 show ey P w H h a (.dK Kh) from oh ok e
def rW{Kh:KQ (Key×V)}(ok:fP P w H h)(e:H a=some (.dK Kh)):Kh.length≤sizeLine∧(a==sysModules)=false∧∃vs,KV Kh vs∧h.DictOf (Qn P w) a vs:=kw ok (.inl e)
def Zm{ks:KQ Key}(ok:fP P w H h)(e:H a=some (.tup (ks.map kV))):(tupleKind (Qn P w)).is h ks a:=by obtain⟨_,Ki,r,o,F,I,n,M⟩:=(show ey P w H h a (.tup (ks.map kV)) from ok a _ e);exact⟨o,Ki.toArray,n,F,I,M,by simpa using jq r⟩
def ky{Kh:KQ (KQ Key×V)}(ok:fP P w H h)(e:Rd H a (.dT Kh)):Kh.length≤sizeLine∧(a==sysModules)=false ∧
  ∃xs,KT H Kh xs∧h.DictOfH (tupleKind (Qn P w)) a xs:=by
 obtain⟨z,y,xs,r,o,es,ep,I,M,O,R,U⟩:=(show ey P w H h a (.dT Kh) from oh ok e);refine⟨z,y,xs,r,o,es,ep,I,M,O,R,fun x hx=>?_,U⟩;have all:∀{l:KQ (KQ Key×V)} {m:KQ (KQ Key×KU×KR)},KT H l m->∀x∈m,(tupleKind (Qn P w)).is h x.1 x.2.1:=by
  intro l m q;induction q with
  |nil=>intro x hx;exact nomatch hx
  | @cons p q ps Z F t Y =>
   intro x hx;rcases AK.mp hx with e|hx
   ·subst e;exact Zm ok (by rw[←F.1];exact F.2.1)
   ·exact Y x hx
 exact all r x hx
def oq{Kh:KQ (KQ Key×V)}(ok:fP P w H h)(e:H a=some (.dT Kh)):Kh.length≤sizeLine∧(a==sysModules)=false ∧
  ∃xs,KT H Kh xs∧h.DictOfH (tupleKind (Qn P w)) a xs:=ky ok (.inl e)
end
def ka(H:Hp)(a:KU)(y:V)(r:KW V):Prop :=
 (∃Kh k,Rd H a (.dK Kh)∧y=kV k∧r=Z2 Kh k)∨∃Kh k b,Rd H a (.dT Kh)∧y= .ref b∧H b=some (.tup (k.map kV))∧r=Z2 Kh k
def hV(H:Hp)(a:KU)(y v:V)(H':Hp):Prop :=
 (∃Kh k,H a=some (.dK Kh)∧y=kV k∧Kh.length<sizeLine∧H'=dW H a (.dK (Zq Kh k v))) ∨
 ∃Kh k b,H a=some (.dT Kh)∧y= .ref b∧H b=some (.tup (k.map kV))∧Kh.length<sizeLine∧H'=dW H a (.dT (Zq Kh k v))
def hV.t{H:Hp}{a b:KU}{Kh:KQ (KQ Key×V)}{k:KQ Key}{v:V}(e:H a=some (.dT Kh))(F:H b=some (.tup (k.map kV)))(I:Kh.length<sizeLine) :
  hV H a (.ref b) v (dW H a (.dT (Zq Kh k v))):=.inr ⟨Kh,k,b,e,rfl,F,I,rfl⟩
section
variable{X:Cx}{Kf:KQ (KU×Obj)}{σ:St}{H:Hp}{s:KS}{a:KU}{y v:V}{u r:KR}{o:KW V}{A:K1}{E:KR->KS->Prop}
def Inv.big(I:Inv X Kf σ H s):sysModules<s.heap.objs.size:=by have h:mainGlobals<s.heap.objs.size:=(I.mod.glob.keeps I.bk).lt;exact DH (by decide) h
def xT{Q:KR->KS->Prop}(hu:A.units+1<cLine)(I:Inv X Kf σ H s)(g:ka H a y (some v))(Z:RelV y u)(h:∀O s',Inv X Kf σ H s'->RelV v O->Q O s') :
  wpAny (model X.prog X.w) A (getItem (.ref a) u) Q E s:=by
 rcases g with⟨Kh,k,e,R,l⟩|⟨Kh,k,b,e,R,eb,l⟩
 ·subst R;obtain⟨z,hd,vs,F,dd⟩:=kw I.hok e;obtain⟨O,U,M⟩:=gc.some_of (v:=v) (o:=valueAt vs k) (by rw[l];exact F.val k);exact wpAny_getItem_of (kL Z) dd.mapOf U (h O _ (I.tok _) M)
 ·subst R;cases (show u=Value.ref b from Z);obtain⟨z,hd,xs,F,dd⟩:=ky I.hok e;obtain⟨O,U,M⟩:=gc.some_of (v:=v) (o:=(atKey xs k).map (·.2)) (by rw[l];exact F.val k);obtain⟨p,hp,Y⟩:=Option.map_eq_some_iff.mp U;refine wpAny_getItem_heap (tupleKind_room_in1 hu) (Zm I.hok eb) dd hp ?_;rw[Y];exact h O _ (I.tok _) M
def n8{h':Heap}{t':Nat}{F:HO}(I:Inv X Kf σ H s)(M:kx (H a))(hs:Heap.SameBut a s.heap h')(he:∃q,h'.get? a=some q)(new:ey X.prog X.w (dW H a F) h' a F) :
  Inv X Kf σ (dW H a F) { s with heap:=h',toks:=t' } :=
 I.write (x:=a) (e:=a) M (.inl rfl) (fun b q O z=>(hs.2 b O).trans z) he new
def vg{P:KZ}{w:K0}{H':Hp}{h':Heap}{Kh:KQ (Key×V)}{vs:KQ (Key×KR)}(z:Kh.length≤sizeLine)(hd:(a==sysModules)=false)(F:KV Kh vs)(dd:h'.DictOf (Qn P w) a vs) :
  ey P w H' h' a (.dK Kh):=⟨z,hd,vs,F,dd⟩
def GK{H':Hp}{Q:Unit->KS->Prop}(hu:A.units+1<cLine)(I:Inv X Kf σ H s)(g:hV H a y v H')(ry:RelV y u)(rv:RelV v r)(h:∀s',Inv X Kf σ H' s'->Q () s') :
  wpAny (model X.prog X.w) A (setItem (.ref a) u r) Q E s:=by
 rcases g with⟨Kh,k,e,R,l,U⟩|⟨Kh,k,b,e,R,eb,l,U⟩
 ·subst R U;obtain⟨z,hd,vs,F,dd⟩:=rW I.hok e;have Y:vs.length≤sizeLine:=by rw[←F.length];exact z
  have Z:(Zq Kh k v).length≤sizeLine:=by have:=YC Kh k v;omega
  refine wpAny_setItem_pairs (hsz:=Y) (kL ry) dd fun h' M hs=>h _ ?_;have he:∃q,h'.get? a=some q:=let ⟨q,_,_,O,_⟩:=M;⟨q,O⟩
  exact n8 I (by rw[e];exact True.intro) hs he (vg Z hd (F.put k rv) M)
 ·subst R U;cases (show u=Value.ref b from ry);obtain⟨z,hd,xs,F,dd⟩:=oq I.hok e;have Y:xs.length≤sizeLine:=by rw[←Paired.length F];exact z
  have Z:(Zq Kh k v).length≤sizeLine:=by have:=YC Kh k v;omega
  refine wpAny_setItem_heap (hsz:=Y) (tupleKind_room_in1 hu) (Zm I.hok eb) dd fun h' M hs=>h _ ?_;obtain⟨q,es,ep,O,h2,h3,h4,_,h5⟩:=M;refine n8 I (by rw[e];exact True.intro) hs ⟨q,O⟩ ⟨Z,hd,_,(F.put k eb rv).keeps fun c ys ec=>?_,q,es,ep,O,h2,h3,h4,h5⟩;rw[qG (lW ec e (fun z=>nomatch z))];exact ec
end
def ls(i:K2):Prop:=∀F I,subscripted i false F I=operate [F,I] (getItem F I)
def vL{prog:KZ}{w:K0}{A:K1}{E:KR->KS->Prop}{s:KS}{env:Env}{I F:K2}{pos:Pos}{T id:String}{Q:KR->KS->Prop}
  (hl:typeLookup (.type T) "__getitem__" = pure (some (.builtin id))) (hs:ls F)
  (h:wpAny (model prog w) A (eval I env) (fun o U=>wpAny (model prog w) A (eval F env) (fun i O=>O.TypeIs o T∧wpAny (model prog w) A (getItem o i) Q E O) E U) E s) :
  wpAny (model prog w) A (eval (.Subscript I F pos) env) Q E s:=by
 refine Subscript_ (Bc h (fun o U h₁=>Bc h₁ (fun i O R=>?_) fun _ _ x=>x) fun _ _ x=>x);obtain⟨Y,R⟩:=R;unfold subscriptTail;refine AA ?_;rw[getitemInPython_of_ne Y.not_modules];refine AA (DF Y hl ?_);have M:wpAny (model prog w) A (subscripted F false o i) (fun r Z=>wpAny (model prog w) A (letTemporaryGo I o r >>= fun _=>pure r) Q E Z) E O:=by rw[hs o i];exact wpAny_operating (Bc R (fun r Z h₃=>AA (wpAny_letTemporaryGo (AB h₃))) fun _ _ x=>x)
 first
  |exact AB (AA M)
  |exact AA (AB (AA M))
  |exact AA M
def EM{X:Cx}{Kf:KQ (KU×Obj)}{σ:St}{H:Hp}{s:KS}{a:KU}{y:V}{o:KW V}(I:Inv X Kf σ H s)(g:ka H a y o):s.TypeIs (.ref a) "dict" :=by
 rcases g with⟨Kh,k,e,_,_⟩|⟨Kh,k,b,e,_,_,_⟩
 ·obtain⟨_,_,vs,_,dd⟩:=kw I.hok e;exact dd.typeIs
 ·obtain⟨_,_,xs,_,dd⟩:=ky I.hok e;exact dd.typeIs
def Fd(I ty:TE):TE:=fun σ H Q=>I σ H fun x H1=>ty σ H1 fun y F=>∃a v,x= .ref a∧ka F a y (some v)∧Q v F
def Ir(I ty M:TE):TS:=fun D σ H=>M σ H fun v H1=>I σ H1 fun x O=>ty σ O fun y R=>∃a F,x= .ref a∧hV R a y v F∧D.nx σ F
section
variable{X:Cx}{o i e KD:K2}{pos pos' KG:Pos}{td ty tv:TE}
def Fs(R:X.A.units+1<cLine)(U:PE X o td)(hi:PE X i ty)(hs:ls i):PE X (.Subscript o i pos) (Fd td ty):=by intro Kf s σ H Q I h;refine vL PySem.F.slot_dict_getitem.lookup hs (eE (U Kf s σ H _ I h) fun u s1 ⟨x,H1,Y,Z,q1⟩=>eE (hi Kf s1 σ H1 _ Y q1) fun iv s2 ⟨y,H2,O,ry,a,v,ex,g,q2⟩=>?_);subst ex;obtain rfl:u=Value.ref a:=Z;exact⟨EM O g,xT R O g ry fun w' s3 I3 M=>⟨v,H2,I3,M,q2⟩⟩
def sA(F:X.A.units+1<cLine)(M:PE X o td)(hi:PE X i ty)(O:PE X KD tv)(hs:swapsWith KD (some (.Subscript o i pos')) pos.line X.env=pure false) :
  PS X (.Assign [.Subscript o i pos'] KD pos) (Ir td ty tv):=by intro Kf s σ H D I h;refine wpAny_Assign_Subscript (eE (O Kf s σ H _ I h) fun r s1 ⟨v,H1,R,U,Y⟩=>eE (M Kf s1 σ H1 _ R Y) fun u s2 ⟨x,Z,I2,rx,q2⟩=>eE (hi Kf s2 σ Z _ I2 q2) fun iv s3 ⟨y,H3,I3,ry,a,H4,ex,g,q3⟩=>?_) hs;subst ex;obtain rfl:u=Value.ref a:=rx;exact GK F I3 g ry U fun s4 I4=>⟨σ,H4,I4,q3⟩
end
def Gg{P:KZ}{w:K0}{H:Hp}(h:Heap)(F:sysModules<h.objs.size):ey P w H (h.push { cls:=.type "dict",data:=.dict #[] }) h.objs.size (.dK []) :=
 ⟨Au _,Ag.mpr (Ne.symm (Aa F)),[],.nil,Heap.DictOf.new h⟩
def ve{P:KZ}{w:K0}{H:Hp}(h:Heap)(F:sysModules<h.objs.size):ey P w H (h.push { cls:=.type "dict",data:=.dict #[] }) h.objs.size (.dT []) :=
 ⟨Au _,Ag.mpr (Ne.symm (Aa F)),[],.nil,_,#[],0,AR _ rfl,⟨rfl,rfl,rfl⟩,rfl,rfl,Cj⟩
def qKn:TE:=fun _ H Q=>∀p,H p=none->Q (.ref p) (dW H p (.dK []))
def qKz:TE:=fun _ H Q=>∀p,H p=none->Q (.ref p) (dW H p (.dT []))
section
variable{X:Cx}{pos:Pos}
def uI:PE X (.Dict [] [] pos) qKn:=fun Kf s σ H Q I h =>
 wpAny_Dict_empty ⟨.ref s.heap.objs.size,_,I.laid (a:=s.heap.objs.size) (o:=.dK []) (t':=s.toks) (fun _ _ q=>AC _ q) (AG _) (Gg s.heap I.big),rfl,h _ (I.hok.fresh (AG _))⟩
def vU:PE X (.Dict [] [] pos) qKz:=fun Kf s σ H Q I h =>
 wpAny_Dict_empty ⟨.ref s.heap.objs.size,_,I.laid (a:=s.heap.objs.size) (o:=.dT []) (t':=s.toks) (fun _ _ q=>AC _ q) (AG _) (ve s.heap I.big),rfl,h _ (I.hok.fresh (AG _))⟩
end
structure M2 (X:Cx) (o:Expr) (m:Str) (Kt:Pos) (e f:Expr) (Kq:Pos):Prop where
 base:attributeBase o m X.env (eval o X.env)=eval o X.env
 few:((backTo Kq (starEach [e,f] X.env)).all (fun x=> !x.1)&&(backToKw Kq (keywordEach [] X.env)).all (fun x=>x.1.isSome)
  && decide (([e,f]:List Expr).length+([]:List Keyword).length+(if ([]:List Keyword).isEmpty then 0 else 1)<30))=true
 line:(Kt.endLine==Kq.line)=true
 trees:backTo Kq (starEach [e,f] X.env)=[(false,eval e X.env),(false,eval f X.env)]
def q7(H:Hp)(a:KU):Prop:=(∃Kh,Rd H a (.dK Kh))∨∃Kh,Rd H a (.dT Kh)
def ms{X:Cx}{Kf:KQ (KU×Obj)}{σ:St}{H:Hp}{s:KS}{a:KU}(I:Inv X Kf σ H s)(d:q7 H a) :
  s.TypeIs (.ref a) "dict" ∧(∀b,Value.ref a= .ref b->∃F,s.heap.get? b=some F∧F.dict=none)∧(a==sysModules)=false:=by
 rcases d with⟨Kh,e⟩|⟨Kh,e⟩
 ·obtain⟨_,hd,vs,_,dd⟩:=kw I.hok e;refine⟨dd.typeIs,fun b q=>?_,hd⟩;cases q;obtain⟨F,_,_,M,O,_⟩:=dd;exact⟨F,M,O.2.1⟩
 ·obtain⟨_,hd,xs,_,dd⟩:=ky I.hok e;refine⟨dd.typeIs,fun b q=>?_,hd⟩;cases q;obtain⟨F,_,_,M,O,_⟩:=dd;exact⟨F,M,O.2.1⟩
section
variable{X:Cx}{Kf:KQ (KU×Obj)}{σ:St}{H:Hp}{s:KS}{a:KU}{y d:V}{u r:KR}{o:KW V}{A:K1}{E:KR->KS->Prop}
def vq{Q:KR->KS->Prop}(Y:A.units+1<cLine)(I:Inv X Kf σ H s)(g:ka H a y o)(R:RelV y u)(rd:RelV d r)(h:∀U s',Inv X Kf σ H s'->RelV (o.getD d) U->Q U s') :
  wpAny (model X.prog X.w) A (call (.builtin "dict.get") [.ref a,u,r]) Q E s:=by
 rcases g with⟨Kh,k,e,O,l⟩|⟨Kh,k,b,e,O,Z,l⟩
 ·subst O;obtain⟨z,hd,vs,M,dd⟩:=kw I.hok e;refine call_meetsIn PySem.F.slot_dict_get dd.typeIs PySem.F.entry_dict_get (PySem.F.args_dict_get_3 _ _ _) (meets_dict_get_default (Qn X.prog X.w) a (kL R) hd r) ⟨_,dd.mapOf,h _ _ (I.tok _) ?_⟩;rw[l];exact (M.val k).getD rd
 ·subst O;cases (show u=Value.ref b from R);obtain⟨z,hd,xs,M,dd⟩:=ky I.hok e;refine call_meetsIn PySem.F.slot_dict_get dd.typeIs PySem.F.entry_dict_get (PySem.F.args_dict_get_3 _ _ _) (meetsH_dict_get_default (tupleKind (Qn X.prog X.w)) a b hd r) ⟨tupleKind_room_in1 Y,k,xs,Zm I.hok Z,dd,h _ _ (I.tok _) ?_⟩;rw[l];exact (M.val k).getD rd
end
def D3(I ty M:TE):TE:=fun σ H Q=>I σ H fun x H1=>∃a,x= .ref a∧q7 H1 a∧ty σ H1 fun y O=>M σ O fun z F=>∃o,ka F a y o∧Q (o.getD z) F
section
variable{X:Cx}{o e f:K2}{Kt Kq:Pos}{td ty tx:TE}
def Ev(R:X.A.units+1<cLine)(U:PE X o td)(he:PE X e ty)(Y:PE X f tx)(m:M2 X o "get" Kt e f Kq):PE X (.Call (.Attribute o "get" Kt) [e,f] [] Kq) (D3 td ty tx):=by
 intro Kf s σ H Q I h;refine wpAny_Call_method m.base m.few m.line PySem.F.plainAttrs_dict PySem.F.slot_dict_get PySem.F.type_dict_get (eE (U Kf s σ H _ I h) fun u s1 ⟨x,H1,O,Z,a,ex,d,q1⟩=>?_);subst ex;obtain rfl:u=Value.ref a:=Z;obtain⟨t1,t2,_⟩:=ms O d;refine⟨t1,t2,?_⟩;rw[m.trees];refine Cw rfl (Calls.evalArgs_plain (Bu (eE (he Kf s1 σ H1 _ O q1) fun iv s2 ⟨y,H2,I2,ry,q2⟩ =>
  Bu (eE (Y Kf s2 σ H2 _ I2 q2) fun fv s3 ⟨z,H3,I3,rz,ov,g,q3⟩=>CG ?_))))
 exact vq R I3 g ry rz fun w' s4 I4 M=>⟨_,H3,I4,M,q3⟩
end
end L2
namespace L2
open PySem PySem.Spec PyProof.Rows
end L2
end
section
namespace EX
open PySem PySem.Spec PyProof.Rows
def GN(h B:Heap)(e:KU)(cls:KR)(dd:KW KU)(M:KR):Prop :=
 ∃F vs T I ts,h.get? e=some F∧F.cls=cls∧F.dict=dd∧F.data= .fields vs∧vs[1]? = some (Value.ref T)∧vs[2]? = some Value.none∧B.get? T=none∧T≠e∧h.get? T=some I∧I.data= .fields ts∧ts[3]? = some M
def gO(B:Heap)(l:KQ Env)(e:KU)(cls:KR)(dd:KW KU)(F:KR)(h:Heap):Prop:=B.StaysIn h∧B.get? e=none∧h.FunFrames B l∧GN h B e cls dd F
def gO.tail{B h:Heap}{env:Env}{l:KQ Env}{e:KU}{cls F:KR}{dd:KW KU}(x:gO B (env::l) e cls dd F h):gO B l e cls dd F h:=⟨x.1,x.2.1,x.2.2.1.2.2,x.2.2.2⟩
section
variable{M:Model}{A:K1}{E:KR->KS->Prop}{s:KS}{B:Heap}{env:Env}{outer:KQ Env}{L e:KU}{cls:KR}{dd:KW KU}{Q:Unit->KS->Prop}
def nS{oe:Obj}{vs:K3 KR}{I:KR}{nx:Bool}(f1:A.frames=some (env::outer))(Y:s.heap.FunFrames B (env::outer))(f3:env.frame=some L)(k1:B.StaysIn s.heap)(k2:B.get? e=none)
  (Z:s.heap.get? e=some oe) (O:oe.data= .fields vs) (g3:1<vs.size) (g4:vs[2]? = some Value.none) (h:∀h',gO B (env::outer) e oe.cls oe.dict (rawInt L) h'->s.heap.UpToSlots h'->Q () { s with heap:=h' }) :
  wpAny M A (do let a ← frameOf env;let pl ← entryPlaceOf L nx;let b ← EntryCells.newEntry I a .none (rawInt L) .none pl;setField (.ref e) 1 b) Q E s:=by
 have a0:e∉(env::outer).filterMap (·.frame):=fun hm=>by obtain⟨_,o,ho,a5⟩:=Y.mem hm;rw[Z]at ho;cases ho;exact a5 vs O
 refine AA (wpAny_frameOf_fun f1 Y f3 fun F so=>AA (wpAny_entryPlaceOf fun pl R=>?_));unfold EntryCells.newEntry newFields;refine AA (A3 ?_ (R.sizeOk5 _ _ _ _ _));generalize a6:([I,Value.ref L,.none,rawInt L,.none]++(if pl.isEmpty then List.replicate 6 Value.none else pl)).toArray=ts;have a7:ts[3]? = some (rawInt L):=by rw[←a6];first|(simp;done)|(rcases R with rfl|⟨_,_,_,_,_,_,_,rfl⟩ <;> simp)
 have a1:F.get? e=some oe:=(so.2.1 e a0).trans Z;have kb:B.StaysIn F:=fun b o q=>(so.2.1 b fun hm=>by rw[(Y.mem hm).1]at q;cases q).trans (k1 b o q);have a2:=AC (h:=F) { cls:=.type "traceback",dict:=none,data:=.fields ts } a1;refine Ba a2 O g3 (h _ ?_ ?_)
 ·have U:F.objs.size≠e:=Bt (AL a1);have d3:=BN O (·.setIfInBounds 1 (Value.ref F.objs.size));have a3:=Av (Obj.mapFields (·.setIfInBounds 1 (Value.ref F.objs.size))) a2 (B6 d3);have a4:=(AV (F.push { cls:=.type "traceback",dict:=none,data:=.fields ts }) (Obj.mapFields (·.setIfInBounds 1 (Value.ref F.objs.size))) (Ne.symm U)).trans (AR F rfl);have kp:∀b o,b≠e->F.get? b=some o->((F.push { cls:=.type "traceback",dict:=none,data:=.fields ts }).update e (Obj.mapFields (·.setIfInBounds 1 (Value.ref F.objs.size)))).get? b=some o:=fun b o hb q =>
   (AV _ _ (Ne.symm hb)).trans (AC _ q)
  refine⟨fun b o q=>kp b o (fun z=>by rw[z,k2]at q;cases q) (kb b o q),k2,Y.of_keeps fun b o q nf=>?_,_,_,F.objs.size,_,ts,a3,Cy _ _,?_,d3,?_,?_,kb.fresh,U,a4,rfl,a7⟩;obtain⟨sl,q2⟩:=so.2.2 b o q;exact⟨_,kp b _ (fun z=>by rw[z,Z]at q;cases q;exact nf vs O) q2,rfl⟩;obtain⟨c,d,dt,sl⟩:=oe;have O:dt= .fields vs:=O;subst O;rfl;simp[g3];rw[Array.getElem?_setIfInBounds_ne (by decide)];exact g4
 ·intro b o q nf;have hb:b≠e:=fun z=>by rw[z,Z]at q;cases q;exact nf vs O
  obtain⟨sl,q2⟩:=so.2.2 b o q;exact⟨sl,(AV _ _ (Ne.symm hb)).trans (AC _ q2)⟩
def Ih{oe:Obj}{vs:K3 KR}(U:A.frames=some (env::outer))(Y:s.heap.FunFrames B (env::outer))(F:env.frame=some L)(k1:B.StaysIn s.heap)(k2:B.get? e=none)
  (I:s.heap.get? e=some oe) (O:oe.data= .fields vs) (R:vs[1]? = some Value.none) (Z:vs[2]? = some Value.none) (h:∀h',gO B (env::outer) e oe.cls oe.dict (rawInt L) h'->s.heap.UpToSlots h'->Q () { s with heap:=h' }) :
  wpAny M A (noteFrame (.ref e) env) Q E s:=by
 unfold noteFrame;simp only[F];refine AA (A9 I O R ?_);rw[AD (show ¬((Value.none != Value.none)=true) by decide)];exact nS U Y F k1 k2 I O (BG.mp R).1 Z h
def jp(f1:A.frames=some (env::outer))(U:env.frame=some L)(x:gO B (env::outer) e cls dd .none s.heap)(h:∀h',gO B (env::outer) e cls dd (rawInt L) h'->s.heap.UpToSlots h'->Q () { s with heap:=h' }) :
  wpAny M A (noteFrame (.ref e) env) Q E s:=by
 obtain⟨k1,k2,f2,oe,vs,T,oT,ts,Y,rfl,rfl,Z,g3,g4,t1,t2,O,R,t5⟩:=x;unfold noteFrame;simp only[U];refine AA (A9 Y Z g3 ?_);rw[AE (show (Value.ref T != Value.none)=true by simp)];refine AA (A9 O R t5 ?_);rw[AD (show ¬((Value.none==rawInt L)=true) by simp[rawInt])];refine AA (Ba O R (BG.mp t5).1 ?_);have I:∀b,b≠T->(s.heap.update T (Obj.mapFields (·.setIfInBounds 3 Value.none))).get? b=s.heap.get? b:=fun b hb=>AV _ _ (Ne.symm hb);have nr:∀b o,s.heap.get? b=some o->(∀us,o.data≠ .fields us)->b≠T:=fun b o q F z=>by rw[z,O]at q;cases q;exact F ts R
 refine nS f1 (f2.of_keeps fun b o q F=>⟨o,(I b (nr b o q F)).trans q,rfl⟩) U (fun b o q=>(I b fun z=>by rw[z,t1]at q;cases q).trans (k1 b o q)) k2 ((I e (Ne.symm t2)).trans Y) Z (BG.mp g3).1 g4 fun h' x u=>h h' x fun b o q F=>?_;exact u b o ((I b (nr b o q F)).trans q) F
def lb{l:KQ Env}{fl:KR}(x:gO B l e cls dd fl s.heap)(h:∀h',gO B l e cls dd .none h'->s.heap.UpToSlots h'->Q () { s with heap:=h' }):wpAny M A (setFlight (.ref e) none) Q E s:=by
 obtain⟨k1,k2,f2,oe,vs,T,oT,ts,Y,g0,R,Z,g3,g4,t1,t2,U,I,t5⟩:=x;have t6:3<ts.size:=(BG.mp t5).1;have O:∀b,b≠T->(s.heap.update T (Obj.mapFields (·.setIfInBounds 3 ((none:KW KU).elim Value.none fun f=>rawInt f)))).get? b=s.heap.get? b:=fun b hb=>AV _ _ (Ne.symm hb);have nr:∀b o,s.heap.get? b=some o->(∀us,o.data≠ .fields us)->b≠T:=fun b o q F z=>by rw[z,U]at q;cases q;exact F ts I
 unfold setFlight;refine AA (A9 Y Z g3 ?_);rw[AE (show (Value.ref T != Value.none)=true by simp)];refine Ba U I t6 (h _ ⟨fun b o q=>(O b fun z=>by rw[z,t1]at q;cases q).trans (k1 b o q),k2,f2.of_keeps fun b o q F=>⟨o,(O b (nr b o q F)).trans q,rfl⟩,?_⟩ fun b o q F=>⟨o.slots,(O b (nr b o q F)).trans q⟩);exact⟨oe,vs,T,_,_,(O e (Ne.symm t2)).trans Y,g0,R,Z,g3,g4,t1,t2,Av _ U (B6 (BN I _)),BN I _,by simp[t6]⟩
def Jw{oe:Obj}{vs:K3 KR}(F:A.frames=some (env::outer))(I:s.heap.FunFrames B (env::outer))(O:env.frame=some L)(k1:B.StaysIn s.heap)(k2:B.get? e=none)
  (R:s.heap.get? e=some oe) (U:oe.data= .fields vs) (Y:vs[1]? = some Value.none) (Z:vs[2]? = some Value.none) (h:∀h',gO B outer e oe.cls oe.dict .none h'->s.heap.UpToSlots h'->Q () { s with heap:=h' }) :
  wpAny M A (leaving env (.ref e)) Q E s:=by unfold leaving;exact AA (Ih F I O k1 k2 R U Y Z fun h1 x1 u1=>lb x1 fun h2 x2 u2=>h h2 x2.tail (u1.trans u2))
def HK(F:A.frames=some (env::outer))(I:env.frame=some L)(x:gO B (env::outer) e cls dd .none s.heap)(h:∀h',gO B outer e cls dd .none h'->s.heap.UpToSlots h'->Q () { s with heap:=h' }) :
  wpAny M A (leaving env (.ref e)) Q E s:=by unfold leaving;exact AA (jp F I x fun h1 O R=>lb O fun U Y Z=>h U Y.tail (R.trans Z))
end
end EX
end
section
namespace EX
open PySem PySem.Spec PyProof.Rows L2
structure li (fs:List Addr) (H H1:Hp) (h B:Heap):Prop where
 keep:∀b o,h.get? b=some o->H b=none->b∉fs->B.get? b=some o
 free:∀b o,h.get? b=some o->H b=none->H1 b=none
 there:∀b o,h.get? b=some o->b∉fs->∃o',B.get? b=some o'
 tups:∀b xs,H b=some (.tup xs)->H1 b=some (.tup xs)
 frzs:∀b o u,H b=some (.frz o u)->H1 b=some (.frz o u)
 tbls:∀b ps,H b=some (.tbl ps)->∃more,H1 b=some (.tbl (ps++more))
def fB(P:KZ)(w:K0):CXT:=fun outer H s E e F =>
 ∃I cls dd B H1,e=Value.ref I∧gO B outer I cls dd .none F.heap∧fP P w H1 B∧F.os=s.os∧AllBare F.gens∧li (fE outer) H H1 s.heap B ∧
  (∀b∈fE outer,∀o,s.heap.get? b=some o->∃sl,F.heap.get? b=some { o with slots:=sl })∧E cls dd H1
def oS{env:Env}{outer:KQ Env}{L:KU}(h:env.frame=some L):fE (env::outer)=L::fE outer:=by unfold fE;rw[BI,h]
def fB.un{P:KZ}{w:K0}{outer:KQ Env}{H H1:Hp}{s s':KS}{B:Heap}(hs:B.StaysIn s'.heap)(un:li (fE outer) H H1 s.heap B)(sl:∀b∈fE outer,∀o,s.heap.get? b=some o->∃sl,s'.heap.get? b=some { o with slots:=sl }) :
  Un (fE outer) [] H H1 s.heap s'.heap where
 keep:=fun b o e n hb _=>hs b o (un.keep b o e n hb)
 slot:=fun b o e n hb _=>sl b hb o e
 free:=fun b o e n _=>un.free b o e n
 there:=fun b o e _=>by
  by_cases hb:b∈fE outer;obtain⟨x,q⟩:=sl b hb o e;exact⟨_,q⟩;obtain⟨o',q⟩:=un.there b o e hb;exact⟨o',hs b o' q⟩
 tups:=un.tups
 frzs:=un.frzs
 tbls:=un.tbls
section
variable{P:KZ}{w:K0}{K:KY}{mg:Str->KW KR}{base:Heap}{N:KQ Str}{qual:Str}{scope:Scope}{f:KU}{cd:KR}{A:K1}{outer:KQ Env}{s₀:KS}{H₀:Hp}{E:XK}
def qk:ZD (fB P w) (wW (fB P w) P w K mg base N qual scope f cd A outer s₀ H₀ E) E:=by
 intro Kf σ H s e s' I c;obtain⟨ea,cls,dd,B,H1,rfl,fl,hok,os,bare,un,sl,q⟩:=c;have O:(envOfC qual scope s₀.heap.objs.size f cd).frame=some s₀.heap.objs.size:=rfl;have U:fE (wW (fB P w) P w K mg base N qual scope f cd A outer s₀ H₀ E).stack=s₀.heap.objs.size::fE outer:=oS O;have F:Un (fE outer) [] H₀ H s₀.heap s.heap:=I.base;have ne:∀b o,s₀.heap.get? b=some o->b≠s₀.heap.objs.size:=fun b o e=>Aa (AL e);refine HK I.ok.frames O fl fun h' x u=>⟨ea,cls,dd,B,H1,rfl,x,hok,os.trans I.os,bare,?_,fun b M o e=>?_,q⟩
 ·refine⟨fun b o e n M=>?_,fun b o e n=>?_,fun b o e M=>?_,fun b xs e=>un.tups b xs (F.tups b xs e),fun b o u e=>un.frzs b o u (F.frzs b o u e),fun b ps e=>?_⟩;exact un.keep b o (F.keep b o e n M (by simp)) (F.free b o e n (by simp)) (by rw[U];intro z;exact (AK.mp z).elim (ne b o e) M)
  ·obtain⟨o',Y⟩:=F.there b o e (by simp);exact un.free b o' Y (F.free b o e n (by simp))
  ·obtain⟨o',Y⟩:=F.there b o e (by simp);exact un.there b o' Y (by rw[U];intro z;exact (AK.mp z).elim (ne b o e) M)
  ·obtain⟨m1,Z⟩:=F.tbls b ps e;obtain⟨m2,e2⟩:=un.tbls b _ Z;exact⟨m1++m2,by rw[e2,Array.append_assoc]⟩
 ·obtain⟨a1,Z⟩:=F.slot b o e (I.ok.frf b M) M (by simp);obtain⟨a2,e2⟩:=sl b (by rw[U];exact AH _ M) _ Z;have nf:∀vs,o.data≠ .fields vs:=by obtain⟨_,o2,R,nf⟩:=I.ok.funs.mem M;have e:(wW (fB P w) P w K mg base N qual scope f cd A outer s₀ H₀ E).s₀.heap.get? b=some o:=e;rw[e]at R;cases R;exact nf
  obtain⟨a0,e3⟩:=u b _ e2 nf;exact⟨a0,e3⟩
def xK{Kf:KQ (KU×Obj)}{σ:L2.St}{H:Hp}{s:KS}{h':Heap}{e:KU}{oe:Obj}{vs:K3 KR}{H1:Hp}{B0:Heap}(I:L2.Inv (wW (fB P w) P w K mg base N qual scope f cd A outer s₀ H₀ E) Kf σ H s)(k:∀b o,s.heap.get? b=some o->h'.get? b=some o)(hn:s.heap.get? e=none)
  (g1:h'.get? e=some oe) (g2:oe.data= .fields vs) (g3:vs[1]? = some Value.none) (g4:vs[2]? = some Value.none) (q:E oe.cls oe.dict H):(wW (fB P w) P w K mg base N qual scope f cd A outer s₀ H₀ E).xe (.ref e) { s with heap:=h' }:=by
 have U:(envOfC qual scope s₀.heap.objs.size f cd).frame=some s₀.heap.objs.size:=rfl;have ef:fE (wW (fB P w) P w K mg base N qual scope f cd A outer s₀ H₀ E).stack=s₀.heap.objs.size::fE outer:=oS U;have M:Un (fE outer) [] H₀ H s₀.heap s.heap:=I.base;have ne:∀b o,s₀.heap.get? b=some o->b≠s₀.heap.objs.size:=fun b o e=>Aa (AL e);generalize hB:W.hideAll s.heap (fE (wW (fB P w) P w K mg base N qual scope f cd A outer s₀ H₀ E).stack)=B;have O:∀b o,s.heap.get? b=some o->b∉fE (wW (fB P w) P w K mg base N qual scope f cd A outer s₀ H₀ E).stack->B.get? b=some o:=fun b o e F=>by rw[←hB];exact W.hideAll_get _ e F
 have Y:∀b o,B.get? b=some o->s.heap.get? b=some o:=fun b o e=>by rw[←hB]at e;exact W.of_hideAll _ e
 have iI:∀b u,H b=some u->b∉fE (wW (fB P w) P w K mg base N qual scope f cd A outer s₀ H₀ E).stack:=fun b u e z=>by rw[I.stkFree b z]at e;cases e
 have Z:h'.FunFrames B (wW (fB P w) P w K mg base N qual scope f cd A outer s₀ H₀ E).stack:=by
  have:=W.funFrames_hide (as:=fE (wW (fB P w) P w K mg base N qual scope f cd A outer s₀ H₀ E).stack) I.stack fun env he a ha=>DJ.mpr ⟨env,he,ha⟩
  rw[hB]at this;exact this.of_keeps fun b o e _=>⟨o,k b o e,rfl⟩
 have eB:B.get? e=none:=by
  cases z:B.get? e with|none=>rfl|some o=>have:=Y e o z;rw[hn]at this;cases this
 refine Jw (s:={ s with heap:=h' }) I.ok.frames Z U (fun b o z=>k b o (Y b o z)) eB g1 g2 g3 g4 fun h2 x u=>⟨e,oe.cls,oe.dict,B,H,rfl,x,?_,I.os,I.bare,?_,fun b F o R=>?_,q⟩;exact fun b u R=>(I.hok b u R).stay (fun c v hc z=>O c v z (hc.elim (fun z=>by rw[z];exact iI b u R) fun z=>iI c _ z)) (fun _ z=>z) fun _ _ z=>z
 ·refine⟨fun b o e n F=>?_,fun b o e n=>M.free b o e n (by simp),fun b o e F=>?_,fun b xs e=>M.tups b xs e,fun b o u e=>M.frzs b o u e,fun b ps e=>M.tbls b ps e⟩;exact O b o (M.keep b o e n F (by simp)) (by rw[ef];intro z;exact (AK.mp z).elim (ne b o e) F)
  ·obtain⟨o',e'⟩:=M.there b o e (by simp);exact⟨o',O b o' e' (by rw[ef];intro z;exact (AK.mp z).elim (ne b o e) F)⟩
 ·obtain⟨a2,e2⟩:=M.slot b o R (I.ok.frf b F) F (by simp);have nf:∀vs,o.data≠ .fields vs:=by obtain⟨_,o2,a0,nf⟩:=I.ok.funs.mem F;have R:(wW (fB P w) P w K mg base N qual scope f cd A outer s₀ H₀ E).s₀.heap.get? b=some o:=R;rw[R]at a0;cases a0;exact nf
  obtain⟨a1,e3⟩:=u b _ (k b _ e2) nf;exact⟨a1,e3⟩
end
section
variable{prog:KZ}{w:K0}{A:K1}{E:KR->KS->Prop}{s:KS}{K:KY}{x D:KU}{ox:Obj}{od:KW Obj}
structure g9 (K:W.Frag) (D:Addr):Prop where
 ga:W.findIn K (.ref D) "__getattribute__" = some (some (.builtin "BaseException.__getattribute__"))
 gn:W.findIn K (.ref D) "__getattr__" = some none
 fo:∀od,W.findObj K D od "__class__" = some (.bind (.builtin "getset_descriptor.__get__") (.builtin "object.__class__"))
 mo:W.mroIn K D (.type "object")=some true
 mb:W.mroIn K D (.type "BaseException")=some true
theorem xI{Q:KW KR->KS->Prop}(C:g9 K D)(X:K.In s.heap)(I:W.InstAt s.heap x ox D od)(h:Q (some (.ref D)) { s with toks:=s.toks+1 }):wpAny (model prog w) A (getAttr? (.ref x) "__class__") Q E s:=by
 obtain⟨U,g,d,t,os⟩:=s;have O:=I.type (M:=model prog w);have Y:=W.looks_findIn (M:=model prog w) X C.ga;have L2:=W.looks_findIn (M:=model prog w) X C.gn;have Z:=W.looks_find (M:=model prog w) X I (C.fo od);have L4:=W.looks_mroIn (M:=model prog w) X C.mb;have LI:W.Looks (model prog w) U (isInstance (.ref x) (.type "BaseException")) true:=O.andThen L4;have f3:=F.attr_ValueError.ga.bind (.ref x);unfold getAttr? getAttrBy? getAttrBy;refine AA (wpAny_mkText (AA (Bh (Aq (AA (O.at (AA (Y.at ?_))))))));show wpAny _ _ (getAttrByItsOwn _ _ _ _ _ _) _ _ _;unfold getAttrByItsOwn;refine AA (L2.at (AA (Bh (Aq ?_))));show wpAny _ _ (boundAndCalled _ _ _) _ _ _;unfold boundAndCalled;refine AA (Ar f3 ?_);refine Cv (C6 F.attr_ValueError.ga.plain F.entry_bexc_ga ?_);have hk:builtinKind "BaseException.__getattribute__" = some .slot:=by decide +kernel
 have R:splitId "BaseException.__getattribute__" = some ("BaseException","__getattribute__"):=by decide +kernel
 have ha:=F.args_bexc_ga (.ref x) (.str "__class__" t);simp only[checkBuiltinCall,hk,R];refine AA (LI.at ?_);rw[AD (show ¬((!true)=true) by decide)];refine Ar (a:=()) ha ?_;show wpAny _ A.in1 (Builtin.«object.__getattribute__» ⟨[.ref x,.str "__class__" t],[]⟩) _ _ _;unfold Builtin.«object.__getattribute__»;refine AA (AB ?_);refine AA (AB ?_);refine AA (O.at (AA (Z.at ?_)));show wpAny _ A.in1 (holding [Value.builtin "object.__class__"] (call (.builtin "getset_descriptor.__get__") [.builtin "object.__class__",.ref x,.ref D]) >>= ret) _ _ _;refine AA (Aq (Cv (W.class_get X I C.mo ?_)));exact AB (AB (AB h))
end
def tD{K:KY}{h:Heap}{C:KU}{I:KQ KR}{F:String}(X:K.In h)(q:W.excIn K C I F=true) :
  ∃bm N nm M bs hd sn O ab co dd k0 k1 k2 k3 k5 mN,h.get? C=some (excClassObj nm M C N bs bm hd sn O ab co dd k0 k1 k2 k3 k5 F)∧h.Ns N mN∧mN "__init__" = none∧OwnTail h I bm:=by
 unfold W.excIn at q;split at q
 ·rename_i dd cd sl ho;split at q
  ·rename_i C' bm k0 k1 k2 k3 n k5 R hs;simp only[AY,Be,Bool.not_eq_true']at q;obtain⟨⟨⟨⟨⟨e1,e2⟩,U⟩,e4⟩,e5⟩,e6⟩:=q;subst e1;subst e2;cases cd with
   |mk nm bs Y ns M hd sn O ab co Z =>
    have R:Y=_:=R;have U:Z=false:=U;subst R;subst U;have a0:sl = #[k0,k1,k2,k3,some (.builtin n),k5]:=by cases sl with|mk l=>rw[show l=_ from hs]
    subst a0;exact⟨bm,ns,nm,M,bs,hd,sn,O,ab,co,dd,k0,k1,k2,k3,k5,_,X _ _ ho,.of_isNs (W.isNs_of_in X e5),W.nsMap_none_of_in X e5 e6,W.tail_of_in X e4⟩
  ·cases q
 ·cases q
def Rz(X:Cx)(E:XK):Prop:=∀(Kf:KQ (KU×Obj)) (σ:L2.St) (H:Hp) (s:KS) (h':Heap) (e:KU) (F:Obj) (vs:K3 KR),L2.Inv X Kf σ H s->(∀b o,s.heap.get? b=some o->h'.get? b=some o)->s.heap.get? e=none ->
 h'.get? e=some F->F.data= .fields vs->vs[1]? = some Value.none->vs[2]? = some Value.none->E F.cls F.dict H->X.xe (.ref e) { s with heap:=h' }
def D8{P:KZ}{w:K0}{K:KY}{mg:Str->KW KR}{base:Heap}{N:KQ Str}{qual:Str}{scope:Scope}{f:KU}{cd:KR}{A:K1}{outer:KQ Env}{s₀:KS}{H₀:Hp}{E:XK} :
  Rz (wW (fB P w) P w K mg base N qual scope f cd A outer s₀ H₀ E) E:=fun _ _ _ _ _ _ _ _ I k F M O R U q=>xK (H1:=H₀) (B0:=base) I k F M O R U q
abbrev hX:KQ KR:=[.type "ValueError",.type "Exception",.type "BaseException",.type "object"]
section
variable{X:Cx}{E:XK}{x:Str}{C:KU}{e:K2}{es:KQ K2}{t:TA}{np Kq pos:Pos}
def um(hz:Rz X E)(hc:X.calm=true)(hg:Gl X x)(hm:X.mg x=some (.ref C))(q:W.excIn X.K C hX "ValueError.__new__" = true)(ha:PA X (e::es) t)(R:(x==("__debug__":Str))=false:=by decide)
  (he:starEach (e::es) X.env=(false,eval e X.env)::starEach es X.env:=by rfl) (Ku:(backTo Kq (starEach es X.env)).any (·.1)=false:=by rfl) :
  PS X (.Raise (some (.Call (.Name x np) (e::es) [] Kq)) none pos) (fun D σ H=>t σ H fun vs H1=>vs.length≤sizeLine∧E (.ref C) none H1):=by
 intro Kf s σ H D I h;obtain⟨Y,N,Z,qn,bs,hd,sn,sb,ab,co,dd,k0,k1,k2,k3,k5,mN,o1,o2,o3,o4⟩:=tD I.ok.mod.kin q;refine wpAny_Raise_call_subU (C:=C) (nm:=Z) (q:=qn) (N:=N) (bs:=bs) (bm:=Y) (hdct:=hd) (sn:=sn) (sub:=sb) (ab:=ab) (col:=co) (dd:=dd) (k0:=k0) (k1:=k1) (k2:=k2) (k3:=k3) (k5:=k5) (mN:=mN)
  F.excBase_ValueError F.excBase_ValueError.hasB F.excBase_ValueError (o4.hasType F.excBase_ValueError.hasBase) (I.ok.hd hc) (by rw[he];show (false||(backTo Kq (starEach es X.env)).any (·.1))=false;rw[Ku];rfl) o3 (JB I hg hm ⟨rfl,?_⟩ R)
 have M:=ha Kq Kf s σ H _ I h;rw[he]at M ⊢;refine Calls.evalArgs_plain (eE M fun us s1 ⟨vs,H1,O,r1,q1,q2⟩=>⟨rfl,by rw[←r1.length];exact q1,O.bk _ _ o1,o2.keeps O.bk,o4.keeps O.bk,fun h' ea U=>?_⟩);obtain⟨tt,h1,_,_⟩:=U.there;exact hz Kf σ H1 s1 h' ea _ _ O U.keeps U.new h1 rfl rfl rfl q2
end
section
variable{M:Model}{A:K1}{E:KR->KS->Prop}{K:KY}{h:Heap}{g:K3 GenState}{d:Drawn}{t:Nat}{os:OsState}{e Bx C:KU}{oe:Obj}{dd:KW KU}{cd:ClassData}{sl:K3 (KW KR)}{Q:Bool->KS->Prop}
def tM(X:K.In h)(F:K.lookup Bx=some ⟨.type "type",dd,.cls cd,sl⟩)(I:W.mroIn K Bx (.type "BaseException")=some true)(he:h.get? e=some oe)(O:oe.cls= .ref C)(R:W.mroIn K C (.ref Bx)=some true)
  (U:Q true ⟨h,g,d,t,os⟩):wpAny M A (excMatches (.ref e) (.ref Bx)) Q E ⟨h,g,d,t,os⟩:=by
 have Y:=X _ _ F;have Z:=W.looks_mroIn (M:=M) X I;have L5:=W.looks_mroIn (M:=M) X R;have f:=tc_notTuple;unfold excMatches;repeat (first|(with_reducible refine wpAny_loadPart_at he ?_;rw[O])|with_reducible refine wpAny_loadPart_at Y ?_|with_reducible refine Z.at ?_|with_reducible refine L5.at ?_|wp_step)
 exact U
end
def iD(X:Cx)(Kf:KQ (KU×Obj))(xe:KR->KS->Prop):Cx:={ X with xe:=xe,pn:=X.pn++Kf }
def iU(X:Cx)(F:KU):Cx:={ X with A:=X.A.mark (some (.ref F)),calm:=false,xe:=fun _ _=>False }
abbrev kr:HO:=.ext fun _=>True
section
variable{X:Cx}{Kf:KQ (KU×Obj)}{σ:L2.St}{H:Hp}{s:KS}{xe:KR->KS->Prop}
def FV(I:L2.Inv X Kf σ H s):L2.Inv (iD X Kf xe) [] σ H s :=
 ⟨⟨I.ok.mod,I.ok.kind,I.ok.glob,I.ok.blt,I.ok.above,I.ok.inj,I.ok.has,I.ok.cab,I.ok.hd,I.ok.frames,I.ok.stk,I.ok.exf,I.ok.bs,I.ok.bsz,I.ok.noex,I.ok.exfs,I.ok.funs,I.ok.frf⟩,I.os,I.bare,I.base,I.loc,I.cell,I.free,I.freeC,
  fun p F=>I.pin p (by simpa[iD] using F),I.hok,I.len,I.hnd⟩
def zX{F:KQ (KU×Obj)}(I:L2.Inv (iD X Kf xe) F σ H s):L2.Inv X Kf σ H s :=
 ⟨⟨I.ok.mod,I.ok.kind,I.ok.glob,I.ok.blt,I.ok.above,I.ok.inj,I.ok.has,I.ok.cab,I.ok.hd,I.ok.frames,I.ok.stk,I.ok.exf,I.ok.bs,I.ok.bsz,I.ok.noex,I.ok.exfs,I.ok.funs,I.ok.frf⟩,I.os,I.bare,I.base,I.loc,I.cell,I.free,I.freeC,
  fun p M=>I.pin p (List.mem_append_left _ M),I.hok,I.len,I.hnd⟩
def HH{D:fR}{f:Flow}(q:SP (iD X Kf xe) [] D f s):SP X Kf D f s:=by
 cases f with|next=>obtain⟨a,b,c,d⟩:=q;exact⟨a,b,zX c,d⟩|brk=>obtain⟨a,b,c,d⟩:=q;exact⟨a,b,zX c,d⟩|cont=>obtain⟨a,b,c,d⟩:=q;exact⟨a,b,zX c,d⟩|ret u=>obtain⟨v,a,b,c,d⟩:=q;exact⟨v,a,b,zX c,d⟩
def sL(I:L2.Inv X Kf σ H s){F:KU}{oe:Obj}(Y:H F=none)(M:s.heap.get? F=some oe)(Z:X.s₀.heap.get? F=none)(hL:F≠X.env.locals)(hC:∀x c,X.env.cells.lookup x=some c->c≠F)(hP:∀p∈X.pn++Kf,p.1≠F) :
  L2.Inv X Kf σ (dW H F (.frz oe kr)) s:=by
 have ne:∀b u,H b=some u->b≠F:=fun b u e z=>by rw[z,Y]at e;cases e
 have nb:∀b o,X.s₀.heap.get? b=some o->b≠F:=fun b o e z=>by rw[z,Z]at e;cases e
 refine⟨I.ok,I.os,I.bare,⟨I.base.keep,I.base.slot,fun b o e n hx=>?_,I.base.there,fun b xs e=>?_,fun b o u e=>?_,fun b ps e=>?_⟩,I.loc,I.cell,?_,fun x c e=>?_,fun p O=>?_,fun b u e=>?_,I.len,fun v hv=>?_⟩;rw[qG (nb b o e)];exact I.base.free b o e n hx
 ·have:=I.base.tups b xs e;rw[qG (ne b _ this)];exact this
 ·have:=I.base.frzs b o u e;rw[qG (ne b _ this)];exact this
 ·obtain⟨m,this⟩:=I.base.tbls b ps e;exact⟨m,by rw[qG (ne b _ this)];exact this⟩
 ·rw[qG (Ne.symm hL)];exact I.free
 ·rw[qG (hC x c e)];exact I.freeC x c e
 ·obtain⟨a,b,c,d⟩:=I.pin p O;exact⟨a,by rw[qG (hP p O)];exact b,c,d⟩
 ·by_cases R:b=F;subst R;rw[qS]at e;cases e;exact⟨M,trivial,⟨oe,M⟩,fun _ _ z _=>z⟩;rw[qG R]at e;exact (I.hok b u e).stay (fun _ _ _ z=>z) (fun c z=>by rw[qG (ne c _ z)];exact z) fun c xs z=>by rw[qG (ne c _ z)];exact z
 ·obtain⟨a,o,u,vs,e1,U,e3⟩:=I.hnd v hv;exact⟨a,o,u,vs,e1,by rw[qG (ne a _ U)];exact U,e3⟩
def GZ(I:L2.Inv X Kf σ H s){F:KU}{oe:Obj}{u:HO}{vs:K3 KR}(O:H F=some (.frz oe u))(R:oe.data= .fields vs)(U:vs[2]? = some Value.none):L2.Inv (iU X F) Kf σ H s :=
 ⟨⟨I.ok.mod,I.ok.kind,I.ok.glob,I.ok.blt,I.ok.above,I.ok.inj,I.ok.has,I.ok.cab,(fun z=>absurd (show false=true from z) A6),I.ok.frames,I.ok.stk,I.ok.exf,I.ok.bs,I.ok.bsz,I.ok.noex,I.ok.exfs,I.ok.funs,I.ok.frf⟩,I.os,I.bare,I.base,I.loc,I.cell,I.free,I.freeC,
  I.pin,I.hok,I.len,fun v M=>by
   have M:some (Value.ref F)=some v:=M;cases M;exact⟨F,oe,u,vs,rfl,O,R,U⟩⟩
def sZ{F:KU}(ok:X.Ok)(M:X.calm=true)(I:L2.Inv (iU X F) Kf σ H s):L2.Inv X Kf σ H s :=
 ⟨ok,I.os,I.bare,I.base,I.loc,I.cell,I.free,I.freeC,I.pin,I.hok,I.len,gT.none (ok.hd M)⟩
def DQ(I:L2.Inv X Kf σ H s)(hN:X.N.Nodup){i:Nat}{n:Str}(hi:X.N[i]? = some n){m:Str->KW KR}{v:KW KR}{h':Heap}{tk:Nat}(hm:∀(j:Nat) (x:Str) (w:V),X.N[j]? = some x->σ[j]? = some (some w)->i6 X.env.scope x->∃u,RelV w u∧pE X.env s.heap m x u)
  (hn:h'.Ns X.env.locals (fun x=>if x=n then v else m x)) (hs:Heap.SameBut X.env.locals s.heap h'):L2.Inv X Kf (σ.set i none) H { s with heap:=h',toks:=tk }:=by
 have cne:=I.cne;refine⟨I.ok,I.os,I.bare,⟨fun b o e n R O=>?_,fun b o e n R O=>?_,I.base.free,fun b o e O=>?_,I.base.tups,I.base.frzs,I.base.tbls⟩,⟨_,hn,fun j y w F M e3=>?_⟩,fun y c e=>?_,I.free,I.freeC,fun p hp=>?_,fun b ob e=>?_,by simpa using I.len,I.hnd⟩;exact (hs.2 b (Aa (Ax (AL e) I.ok.above))).trans (I.base.keep b o e n R O);obtain⟨sl,F⟩:=I.base.slot b o e n R O;exact⟨sl,(hs.2 b (Aa (Ax (AL e) I.ok.above))).trans F⟩;obtain⟨o',F⟩:=I.base.there b o e O;exact⟨o',(hs.2 b (Aa (Ax (AL e) I.ok.above))).trans F⟩
 ·have U:j≠i:=fun z=>by
   subst z;by_cases Y:j<σ.length;rw[BT Y]at M;cases M;rw[Bs (by simpa using Y)]at M;cases M
  rw[Bb (Ne.symm U)]at M;obtain⟨u,r,l⟩:=hm j y w F M e3;refine⟨u,r,?_⟩;rcases l with⟨k,l⟩|⟨k,c,e,z⟩
  ·refine .inl ⟨k,?_⟩
   have:y≠n:=fun e=>U (Yh hN F (e ▸ hi))
   simp[this,l]
  ·exact .inr ⟨k,c,e,z.sameBut hs (cne y c e)⟩
 ·obtain⟨Z,z⟩:=I.cell y c e;exact⟨Z,z.sameBut hs (cne y c e)⟩
 ·obtain⟨e,n,ne,nf,d⟩:=I.pin p hp;exact⟨(hs.2 p.1 ne).trans e,n,ne,nf,d⟩
 ·refine (I.hok b ob e).stay (fun c Z hc q=>(hs.2 c ?_).trans q) (fun _ q=>q) fun _ _ q=>q;rintro rfl;rcases hc with rfl|hc
  ·rw[I.free]at e;cases e
  ·rw[I.free]at hc;cases hc
def GQ(i k:Nat)(ok:KR->Prop)(tb:XK->TS)(th:TS):TS:=fun D σ H=>tb (fun cls dd H1=>ok cls∧∀(R:L2.St) (O:KU) (M:Obj),R.length=k->H1 O=none->M.cls=cls->M.dict=dd->(∃vs,M.data= .fields vs) ->
 th { nx:=fun F I=>D.nx (F.set i none) I,rt:=D.rt,bk:=fun F I=>D.bk (F.set i none) I,ct:=fun F I=>D.ct (F.set i none) I } (R.set i (some (.ref O))) (dW H1 O (.frz M kr))) D σ H
structure g8 (X:Cx):Prop where
 stk:X.stack=X.env::X.outer
 fr:X.env.frame=some X.env.locals
 ex:X.ex=[]
def rP{P:KZ}{w:K0}{H:Hp}{h:Heap}{a:KU}{o:HO}(x:ey P w H h a o):∃u,h.get? a=some u:=by
 cases o with|lst xs=>obtain⟨_,_,_,_,e⟩:=x;exact⟨_,e⟩|tup xs=>obtain⟨_,_,_,o,e,_⟩:=x;exact⟨_,e⟩|dK Kh=>obtain⟨_,_,_,_,o,_,_,e,_⟩:=x;exact⟨_,e⟩|dT Kh=>obtain⟨_,_,_,_,o,_,_,e,_⟩:=x;exact⟨_,e⟩|set S n=>obtain⟨o,_,_,_,e,_⟩:=x;exact⟨_,e⟩|ins C dx fs=>obtain⟨_,_,_,e,_⟩:=x;exact⟨_,e⟩|own y=>exact x|xd fs=>obtain⟨_,⟨_,_,_,e,_⟩,_⟩:=x;exact⟨_,e⟩|rng lo hi=>obtain⟨_,_,_,e⟩:=x;exact⟨_,e⟩|frz F u=>obtain⟨e,_⟩:=x;exact⟨_,e⟩|tbl ps=>exact⟨_,x⟩|met f y=>exact⟨_,x⟩|ext φ=>obtain⟨_,e,_⟩:=x;exact e
def vp{X:Cx}{x n:Str}{i:Nat}{Bx:KU}{dd:KW KU}{cd:ClassData}{sl:K3 (KW KR)}{a1:KQ Stmt}{b0:Stmt}{R:KQ Stmt}{np a2 pos:Pos}{ok:KR->Prop}{tb:XK->TS}{th:TS}(FX:g8 X)(hc:X.calm=true)(hN:X.N.Nodup)(hi:X.N[i]? = some n)(hl:X.env.scope.names.lookup n=some .local)
  (hg:Gl X x) (hm:X.mg x=some (.ref Bx)) (o1:X.K.lookup Bx=some ⟨.type "type",dd,.cls cd,sl⟩) (m1:W.mroIn X.K Bx (.type "BaseException")=some true) (hok:∀v,ok v->∃C,v= .ref C∧W.mroIn X.K C (.ref Bx)=some true)
  (hb:∀(Kf:KQ (KU×Obj)) (xe:KR->KS->Prop) (E':XK),ZD (fB X.prog X.w) (iD X Kf xe) E'->gu (iD X Kf xe) a1 (tb E')) (hh:∀F,gu (iU X F) (b0::R) th) (aa:(x==("__debug__":Str))=false:=by decide) :
  PS X (.Try a1 [.ExceptHandler (some (.Name x np)) (some n) (b0::R) a2] [] [] pos) (GQ i X.N.length ok tb th):=by
 intro Kf s σ H D I h;refine wpAny_Try_except ?_;generalize hE:(fun (cls:KR) (dd:KW KU) (H1:Hp)=>ok cls∧∀(σ':L2.St) (F:KU) (oe:Obj),σ'.length=X.N.length->H1 F=none->oe.cls=cls->oe.dict=dd->(∃vs,oe.data= .fields vs) ->
  th { nx:=fun σ2 H2=>D.nx (σ2.set i none) H2,rt:=D.rt,bk:=fun σ2 H2=>D.bk (σ2.set i none) H2,ct:=fun σ2 H2=>D.ct (σ2.set i none) H2 } (σ'.set i (some (.ref F))) (dW H1 F (.frz oe kr)))=E'
 have h:tb E' D σ H:=by rw[←hE];exact h
 refine Bc (hb Kf _ E' ?_ [] s σ H D (FV I) h) (fun f s1 q=>?_) fun e s1 q=>q
 rotate_left
 ·have q:=HH q;cases f with|next=>exact wpAny_execs_nil q|brk=>exact q|cont=>exact q|ret u=>exact q
 ·intro ab σ' H' s1 e s2 J c;obtain⟨F,cls,d2,B,H1,rfl,fl,a3,os,bare,un,a5,qE⟩:=c;have J':=zX J;rw[←hE]at qE;obtain⟨q1,q2⟩:=qE;obtain⟨C,rfl,m2⟩:=hok cls q1;have ac:X.A.frames=some (X.env::X.outer):=by rw[←FX.stk];exact I.ok.frames
  have ae:gO B (X.env::X.outer) F (.ref C) d2 .none s2.heap:=by rw[←FX.stk];exact fl
  have un:li (fE X.stack) H' H1 s1.heap B:=un;have a5:∀b∈fE X.stack,∀o,s1.heap.get? b=some o->∃sl,s2.heap.get? b=some { o with slots:=sl }:=a5;have a4:s1.heap.FunFrames X.base X.stack:=J'.stack;have U:∀b o,X.base.get? b=some o->B.get? b=some o:=fun b o z=>un.keep b o (J'.bs b o z).1 (J'.bs b o z).2 fun hm=>by rw[(a4.mem hm).1]at z;cases z
  refine jp (A:=X.A) ac FX.fr ae fun h4 x4 u4=>lb x4 fun h5 x5 u5=>?_;have af:h5.Ns X.env.globals X.mg:=by rw[I.ok.glob];exact I.mod.glob.keeps fun b o z=>x5.1 b o (U b o z)
  have k5:X.K.In h5:=I.ok.mod.kin.keeps fun b o z=>x5.1 b o (U b o z);obtain⟨_,_,_,ap,_,_,_,_,ag,ah,_⟩:=id x5;refine wpAny_handleBy_cons (codeAny_handlers_test (Calls.Name_function_global I.ok.kind hg (Calls.loadGlobal_global af hm ?_) aa)) (by intro q;cases q);refine tM k5 o1 m1 ag ah m2 (codeAny_handlers_suite_as (lb x5 fun h6 x6 u6=>?_));have ai:s2.heap.UpToSlots h6:=(u4.trans u5).trans u6;obtain⟨k1,k2,k3,oe,vs,T,oT,ts,g1,g2,g3,g4,g5,g6,g7⟩:=x6;have nf:∀b∈fE X.stack,∀o,s1.heap.get? b=some o->∀vs,o.data≠ .fields vs:=fun b hb o z=>by obtain⟨_,o2,a6,nf⟩:=a4.mem hb;rw[z]at a6;cases a6;exact nf
  have a7:∀b∈fE X.stack,∀o,s1.heap.get? b=some o->∃sl,h6.get? b=some { o with slots:=sl }:=fun b hb o z=>by obtain⟨aj,z2⟩:=a5 b hb o z;obtain⟨ak,z3⟩:=ai b _ z2 (nf b hb o z);exact⟨ak,z3⟩
  have I6:L2.Inv X Kf σ' H1 { s2 with heap:=h6 }:=J'.call' (s':={ s2 with heap:=h6 }) (ch:=[]) os (fB.un (P:=X.prog) (w:=X.w) (s:=s1) (s':={ s2 with heap:=h6 }) k1 un a7) (a3.kept k1) bare fun b z=>by cases z
  have a0:∀b o,s1.heap.get? b=some o->b≠F:=fun b o z hz=>by
   subst hz;by_cases hb:b∈fE X.stack;obtain⟨aj,z2⟩:=a7 b hb o z;rw[g1]at z2;cases z2;exact nf b hb o z vs g4;obtain⟨o',z'⟩:=un.there b o z hb;rw[k2]at z';cases z'
  have a8:H1 F=none:=by
   cases z:H1 F with|none=>rfl|some u=>obtain⟨o',z'⟩:=rP (a3 F u z);rw[k2]at z';cases z'
  have I7:L2.Inv X Kf σ' (dW H1 F (.frz oe kr)) { s2 with heap:=h6 }:=by
   refine sL I6 a8 g1 ?_ ?_ (fun x c z=>?_) fun p hp=>?_
   ·cases z:X.s₀.heap.get? F with|none=>rfl|some o=>obtain⟨o',z'⟩:=J'.base.there F o z (by rw[FX.ex];simp);exact (a0 F o' z' rfl).elim
   ·obtain⟨m,⟨o,_,_,z,_⟩,_⟩:=J'.loc;exact Ne.symm (a0 _ o z)
   ·obtain⟨v,o,z',_⟩:=J'.cell x c z;exact a0 c o z'
   ·exact a0 p.1 p.2 (J'.pin p hp).1
  have Y:=GZ I7 qS g4 g6;refine wg (X:=iU X F) (v:=.ref F) Y hN hi (.inl hl) (show RelV (.ref F) (.ref F) from rfl) (fun s7 O=>?_) (.inr hl);have a9:σ'.length=X.N.length:=J'.len;refine wpAny_noRaise (eE (hh F Kf s7 _ _ _ O (q2 σ' F oe a9 a8 g2 g3 ⟨vs,g4⟩)) fun f s8 q=>?_);have hp:(X.env.scope.kind == .class||(X.env.scope.kind == .module&&X.env.locals != X.env.globals))=false:=by rw[I.ok.kind];rfl
  have M:∀{σ8:L2.St} {Z:Hp} {Q:KS->Prop},L2.Inv (iU X F) Kf σ8 Z s8->(∀s9,L2.Inv X Kf (σ8.set i none) Z s9->Q s9)->wpAny (model X.prog X.w) X.A (do bindName X.env n .none;unbindBehindTheSuite X.env n a2) (fun _ s9=>Q s9) X.xe s8:=fun {σ8 Z Q} Y hQ=>by have O:=sZ I.ok hc Y;obtain⟨m,hn,al⟩:=id O.loc;exact wpAny_nameGoes_keeps hl hn hp fun h9 v am ao=>hQ _ (DQ O hN hi al am ao)
  cases f with|next=>obtain⟨σ8,Z,Y,q8⟩:=q;exact M Y fun s9 O=>⟨_,Z,O,q8⟩|brk=>obtain⟨σ8,Z,Y,q8⟩:=q;exact M Y fun s9 O=>⟨_,Z,O,q8⟩|cont=>obtain⟨σ8,Z,Y,q8⟩:=q;exact M Y fun s9 O=>⟨_,Z,O,q8⟩|ret u=>obtain⟨v,σ8,Z,Y,r8,q8⟩:=q;exact M Y fun s9 O=>⟨v,_,Z,O,r8,q8⟩
end
def Yk(A:K1):KQ KU:=match A.handled with|some (.ref F)=>[F]|_=>[]
def Hnd.frame{A:K1}{h h':Heap}(x:Hnd A h)(k:∀b∈Yk A,∀o,h.get? b=some o->h'.get? b=some o):Hnd A h':=fun v F=>by obtain⟨I,M,vs,O,R,U⟩:=x v F;subst O;exact⟨I,M,vs,rfl,k I (by unfold Yk;rw[F];simp) M R,U⟩
def EZ{A:K1}{I:KU}(F:∀M∈Yk A,M≠I):∀v,A.handled=some v->v≠ .ref I:=fun v O z=>by subst z;exact F I (by unfold Yk;rw[O];simp) rfl
def vj{prog:KZ}{w:K0}{A:K1}(I ax:KU)(KN:ax≠I)(items:K3 KR)(hI:∀ea∈Yk A,ea≠I) :
  Walks prog w A I (I::ax::Yk A) [I] items.size (fun i v=>items[i]? = some v) (fun i h=>(h.IsListIter I ax i∧h.IsList ax items)∧Hnd A h) where
 sub:=fun b hb=>by simp at hb;simp[hb]
 frame:=fun _ _ _ st hk=>⟨⟨st.1.1.at fun o e=>hk I (by simp) o e,st.1.2.at fun o e=>hk ax (by simp) o e⟩,st.2.frame fun b hb o e=>hk b (by simp[hb]) o e⟩
 item:=fun i s Q E hi st hQ=>wpAny_pyNext_list_item st.1.1 st.1.2 (x:=items[i]) (by simp[hi]) fun h' z1 z2 =>
  hQ _ h' s.toks (by simp[hi]) ⟨⟨z1,st.1.2.extBut z2.extBut KN⟩,st.2.frame fun b hb o e=>(z2.2 b (hI b hb)).trans e⟩ fun b o hb e=>z2.extBut b o (fun h=>hb (by simp[h])) e
 done:=fun s Q E st hQ=>list_end st.2 st.1.1 st.1.2 (by simp) (EZ hI) fun h' z=>hQ h' s.toks fun b o hb e=>z b o (fun h=>hb (by simp[h])) e
 self:=fun _ _ _ _ st hQ=>wpAny_pyIter_listiter st.1.1 hQ
section
variable{X:Cx}{Kf:KQ (KU×Obj)}{σ:L2.St}{H:Hp}{s:KS}
def Fp(I:L2.Inv X Kf σ H s):∀M∈Yk X.A,M≠s.heap.objs.size:=fun M F=>by
 have hd:X.A.handled=some (.ref M):=by
  unfold Yk at F;split at F;rename_i a O;rw[Af.mp F];exact O;cases F
 obtain⟨a,Y,vs,R,U,_⟩:=I.hndH _ hd;cases R;exact Aa (AL U)
def jZ(I:L2.Inv X Kf σ H s){p:KU}{Ki:KQ KR}(pl:PlainL s.heap p Ki.toArray){E:KR->KS->Prop}{Q:KR->KS->Prop}
  (h:Walks X.prog X.w X.A.in1 s.heap.objs.size (s.heap.objs.size::p::Yk X.A) [s.heap.objs.size] Ki.toArray.size (fun i v=>Ki.toArray[i]? = some v) (fun i h=>(h.IsListIter s.heap.objs.size p i∧h.IsList p Ki.toArray)∧Hnd X.A.in1 h) ->
   ((s.heap.push { cls:=.type "list_iterator",data:=.fields #[.ref p,.int 0 0] }).IsListIter s.heap.objs.size p 0∧(s.heap.push { cls:=.type "list_iterator",data:=.fields #[.ref p,.int 0 0] }).IsList p Ki.toArray)∧Hnd X.A.in1 (s.heap.push { cls:=.type "list_iterator",data:=.fields #[.ref p,.int 0 0] }) ->
   (∀b∈s.heap.objs.size::p::Yk X.A,b<(s.heap.push { cls:=.type "list_iterator",data:=.fields #[.ref p,.int 0 0] }).objs.size) ->
   (∀h':Heap,(∀b o,b∉[s.heap.objs.size]->(s.heap.push { cls:=.type "list_iterator",data:=.fields #[.ref p,.int 0 0] }).get? b=some o->h'.get? b=some o)->∀b o,s.heap.get? b=some o->h'.get? b=some o) ->
   Q (.ref s.heap.objs.size) { s with heap:=s.heap.push { cls:=.type "list_iterator",data:=.fields #[.ref p,.int 0 0] } }) :
  wpAny (model X.prog X.w) X.A.in1 (pyIter (.ref p)) Q E s:=by
 obtain⟨Y,M,_⟩:=id pl.isList;have F:p<s.heap.objs.size:=AL M;refine wpAny_pyIter_list pl.isList (h (vj _ p (Aa F) _ (Fp I)) ⟨⟨⟨_,AR _ rfl,rfl,rfl⟩,pl.isList.at fun o e=>AC _ e⟩,?_⟩ (fun b hb=>?_) fun h' k b o e=>?_);exact Hnd.frame (show Hnd X.A.in1 s.heap from I.hndH) fun b _ o e=>AC _ e
 ·rw[B7];rcases AK.mp hb with rfl|hb
  ·exact Nat.lt_succ_self _
  ·rcases AK.mp hb with rfl|hb
   ·exact BR F
   ·have hd:X.A.handled=some (.ref b):=by
     unfold Yk at hb;split at hb;rename_i a O;rw[Af.mp hb];exact O;cases hb
    obtain⟨a,Z,vs,R,U,_⟩:=I.hndH _ hd;cases R;exact BR (AL U)
 ·exact k b o (by simp;exact Aa (AL e)) (AC _ e)
def mG:∀{bs:KQ Bool} {us:KQ KR},Vals (bs.map V.bl) us->us=bs.map Value.bool|[],_,.nil=>rfl|b::bs,_,.cons r t=>by rw[show _=Value.bool b from r,mG t];rfl
def p0:∀{ns:KQ Int} {us:KQ KR} {i:Nat} {v:KR},Vals (ns.map V.int) us->us[i]? = some v->∃t,v=Value.int (ns.getD i 0) t|[],_,_,_,.nil,e=>by simp at e|n::ns,_,0,_,.cons r t,e=>by simp at e;subst e;exact r|n::ns,_,i+1,v,.cons r t,e=>by simpa using p0 (i:=i) t (by simpa using e)
def vV{prog:KZ}{w:K0}{A:K1}{bs:KQ Bool}:TruthOf prog w A (fun i v=>(bs.map Value.bool).toArray[i]? = some v) (fun i=>bs.getD i false):=fun i v s Q E F I=>by
 have F:(bs.map Value.bool).toArray[i]? = some v:=F;rw[List.getElem?_toArray,Am]at F;cases e:bs[i]? with|none=>rw[e]at F;cases F|some b=>rw[e]at F;cases F;have I:Q (bs.getD i false) s:=I;rw[Ao,e]at I;exact AB I
def Di(bs:KQ Bool):(List.range bs.length).all (fun i=>bs.getD i false)=bs.all id:=by
 induction bs with
 |nil=>rfl
 |cons b bs F =>
  rw[AO,List.range_succ_eq_map,List.all_cons,List.all_map,List.all_cons]
  have:(((fun i=>(b::bs).getD i false) ∘ Nat.succ))=fun i=>bs.getD i false:=by funext i;simp
  rw[this,F];simp
def uT:Wi X (.builtin "all") (fun xs H Q=>∃(p:KU) (bs:KQ Bool),xs=[.ref p]∧fq X.K H p (bs.map V.bl)∧Q (.bl (bs.all id)) H):=by
 intro Kf s σ H xs us Q I r h;obtain⟨p,bs,rfl,F,q⟩:=h;obtain⟨u,rfl,M⟩:=Zi r;cases M;obtain⟨Ki,O,pl,U⟩:=I.list F;have e:=mG O;subst e;refine call_all_walk (jZ I pl fun W st fp k=>⟨_,_,_,_,_,_,_,rfl,W,st,vV,fun h' Y R=>?_⟩);rw[show (bs.map Value.bool).toArray.size=bs.length by simp,Di];exact⟨.bl _,H,I.kept (k h' R),rfl,q⟩
def yu(ns:KQ Int):∀k,k≤ns.length->preSum (fun i=>ns.getD i 0) k=(ns.take k).sum|0,_=>by simp[preSum]|k+1,h=>by have F:k<ns.length:=h;rw[preSum,yu ns k (DI F),Ck F,List.sum_append];simp[Ao,F]
def sV:Wi X (.builtin "sum") (fun xs H Q=>∃(p:KU) (ns:KQ Int),xs=[.ref p]∧fq X.K H p (ns.map V.int)∧Q (.int ns.sum) H):=by
 intro Kf s σ H xs us Q I r h;obtain⟨p,ns,rfl,O,q⟩:=h;obtain⟨u,rfl,R⟩:=Zi r;cases R;obtain⟨Ki,M,pl,hz⟩:=I.list O;have U:=M.length;refine call_sum_walkAnyS (jZ I pl fun W st fp k=>⟨_,_,_,_,_,_,_,fun i=>ns.getD i 0,rfl,W.toS,st,fp,fun i v Y=>p0 M (by simpa using Y),fun Z t' m=>?_⟩);have F:Ki.toArray.size=ns.length:=by rw[AX,←U,AF]
 rw[F,yu ns _ (AG _),C7];obtain⟨hh,g,d,t,o⟩:=Z;have g1:g=s.gens:=m.gens;have d1:d=s.drawn:=m.drawn;have o1:o=s.os:=m.os;subst g1;subst d1;subst o1;exact⟨.int _,H,I.kept (k hh fun b o hb e=>m.heap b o hb e),⟨t',rfl⟩,q⟩
end
def DZ{K:KY}{x D:KU}(C:g9 K D):W.KitX K (.ref x) (.ref D) (fun h=>∃O od,W.InstAt h x O D od):=by
 obtain⟨cd,F,_⟩:=Option.bind_eq_some_iff.mp (C.fo none);unfold W.clsIn at F;split at F
 ·rename_i c' d' Y Z U;refine⟨fun _ _ _ ⟨O,od,I⟩=>I.type,fun M h X p=>?_,fun h tp dd Ki n sl X R=>?_,fun {prog w A E Q s} X ⟨O,od,I⟩ k=>xI C X I k⟩;intro A' Q' E' s' k q;unfold isType loadHead;exact AA (wpAny_loadPart (k _ _ (X _ _ U)) (AB q));refine Bool.eq_false_iff.mpr fun q=>?_;have e:D=tp:=Value.ref.inj (Be.mp q);subst e;have z:=(X _ _ U).symm.trans R;cases z
 ·cases F
end EX
end
section
namespace EV
open PySem PySem.Spec PyProof.Rows L2
inductive PV where
 |non|bl (b:Bool)|int (i:Int)|str (x:Str)|tup (l:List PV)|lst (l:List PV)|ref (i:Nat)|dct|ty (n:String)|fn (a:Addr)|exc (c:Addr) (fs:List (Str×Int))
inductive SO where|l (xs:List PV)|d (Kh:List (List L2.Key×PV))|z (Kh:List (List L2.Key×PV))
abbrev qC:=KQ SO
structure hZ where
 cls:Addr
 fs:List (Str×Int)
inductive Rs (α:Type) where
 |ok (a:α) (st:qC)|ex (x:hZ) (st:qC)|no
def Rs.bind{α β:Type}(r:Rs α)(k:α->qC->Rs β):Rs β:=match r with| .ok a st=>k a st| .ex x st=>.ex x st| .no=>.no
abbrev ql:=KQ (KW PV)
abbrev FE:=ql->qC->Rs PV
abbrev FA:=ql->qC->Rs (KQ PV)
abbrev FT:=ql->qC->Rs Bool
inductive RS where
 |nx (e:ql) (st:qC)|rt (v:PV) (st:qC)|bk (e:ql) (st:qC)|ct (e:ql) (st:qC)|ex (x:hZ) (st:qC)|no
abbrev FS:=ql->qC->RS
structure Bz where
 b:List Addr
 z:List Addr
def Bz.out(b:Bz)(a:KU):Prop:=a∉b.b∧a∉b.z
def KL(K:KY)(a:KU)(xs:KQ V):Prop :=
 ∃(o:Obj) (Ki:K3 KR) (n:Nat),K.lookup a=some o∧o.cls= .type "list" ∧o.dict=none∧o.data= .seq Ki n∧Ki.size≤sizeLine∧Vals xs Ki.toList
def KT(K:KY)(a:KU)(xs:KQ V):Prop :=
 ∃(o:Obj) (Ki:K3 KR) (n:Nat),K.lookup a=some o∧o.cls= .type "tuple" ∧o.data= .seq Ki n∧Ki.size≤sizeLine∧Vals xs Ki.toList
def LA(K:KY)(H:Hp)(b:Bz)(a:KU)(xs:KQ V):Prop:=(Rd H a (.lst xs)∧b.out a)∨KL K a xs
def iW(K:KY)(H:Hp)(b:Bz)(a:KU)(xs:KQ V):Prop:=(H a=some (.tup xs)∧b.out a)∨KT K a xs
mutual
def RV(K:KY)(H:Hp)(b:Bz):PV->V->Prop| .non,v=>v= .non| .bl x,v=>v= .bl x| .int i,v=>v= .int i| .str x,v=>v= .str x| .tup l,v=>∃a xs,v= .ref a∧iW K H b a xs∧dS K H b l xs| .lst l,v=>∃a xs,v= .ref a∧LA K H b a xs∧dS K H b l xs| .ref i,v=>∃a,v= .ref a∧b.b[i]? = some a| .dct,v=>∃a,v= .ref a∧H a=some (.dK [])∧b.out a| .ty n,v=>v= .ty n| .fn a,v=>v= .ref a| .exc c fs,v=>∃a o u,v= .ref a∧H a=some (.frz o u)∧b.out a∧o.cls= .ref c∧(∃vs,o.data= .fields vs)∧((fs=[]∧o.dict=none)∨∃d,o.dict=some d∧H d=some (.xd (fs.map fun p=>(p.1,V.int p.2)))∧b.out d)
def dS(K:KY)(H:Hp)(b:Bz):KQ PV->KQ V->Prop|[],xs=>xs=[]|p::ps,xs=>∃x r,xs=x::r∧RV K H b p x∧dS K H b ps r
end
def gV(K:KY)(H:Hp)(b:Bz):SO->HO->Prop| .l xs,o=>∃vs,o= .lst vs∧dS K H b xs vs| .d Kh,o=>∃vs,o= .dT vs∧Kh.map (·.1)=vs.map (·.1)∧dS K H b (Kh.map (·.2)) (vs.map (·.2))| .z Kh,o=>∃od vs,o= .frz od (.dT vs)∧Kh.map (·.1)=vs.map (·.1)∧dS K H b (Kh.map (·.2)) (vs.map (·.2))
structure SR (K:W.Frag) (H:Hp) (b:Bz) (st:qC):Prop where
 len:b.b.length=st.length
 nd:b.b.Nodup
 at_:∀(i:Nat) (x:SO),st[i]? = some x->∃a o,b.b[i]? = some a∧H a=some o∧gV K H b x o
 zo:∀a∈b.z,∃xs,H a=some (.lst xs)
 zb:∀a∈b.z,a∉b.b
structure WE (H:Hp) (b:Bz) (H':Hp) (b':Bz):Prop where
 more:∃n,b'.b=b.b++n∧∀a∈n,H a=none
 zm:∃y,b'.z=y++b.z∧∀a∈y,H a=none
 keep:∀a o,H a=some o->b.out a->H' a=some o
 dom:∀a o,H a=some o->∃o',H' a=some o'
def WE.refl(H:Hp)(b:Bz):WE H b H b:=⟨⟨[],by simp,by simp⟩,⟨[],rfl,by simp⟩,fun _ _ h _=>h,fun _ o h=>⟨o,h⟩⟩
def WE.none_of{H H':Hp}{b b':Bz}(e:WE H b H' b'){a:KU}(h:H' a=none):H a=none:=by
 cases q:H a with|none=>rfl|some o=>obtain⟨o',F⟩:=e.dom a o q;rw[h]at F;cases F
def WE.not_in{H H':Hp}{b b':Bz}(e:WE H b H' b'){a:KU}{o:HO}(h:H a=some o)(F:b.out a):b'.out a:=by
 obtain⟨n,I,M⟩:=e.more;obtain⟨y,O,R⟩:=e.zm;refine⟨fun hm=>?_,fun hm=>?_⟩
 ·rw[I]at hm;rcases At.mp hm with hm|hm
  ·exact F.1 hm
  ·rw[M a hm]at h;cases h
 ·rw[O]at hm;rcases At.mp hm with hm|hm
  ·rw[R a hm]at h;cases h
  ·exact F.2 hm
def WE.trans{H H1 F:Hp}{b b1 I:Bz}(e:WE H b H1 b1)(f:WE H1 b1 F I):WE H b F I:=by
 obtain⟨n,O,R⟩:=e.more;obtain⟨m,U,Y⟩:=f.more;obtain⟨y,Z,hy⟩:=e.zm;obtain⟨x,hx,hw⟩:=f.zm;refine⟨⟨n++m,by rw[U,O,BY],fun a ha=>?_⟩,⟨x++y,by rw[hx,Z,BY],fun a ha=>?_⟩,fun a o h M=>f.keep a o (e.keep a o h M) (e.not_in h M),fun a o h=>?_⟩
 ·rcases At.mp ha with ha|ha
  ·exact R a ha
  ·exact e.none_of (Y a ha)
 ·rcases At.mp ha with ha|ha
  ·exact e.none_of (hw a ha)
  ·exact hy a ha
 ·obtain⟨o',h'⟩:=e.dom a o h;exact f.dom a o' h'
def WE.ix{H H':Hp}{b b':Bz}(e:WE H b H' b'){i:Nat}{a:KU}(h:b.b[i]? = some a):b'.b[i]? = some a:=by obtain⟨n,F,_⟩:=e.more;have hi:i<b.b.length:=(AT.mp h).1;rw[F,An hi];exact h
def WE.new{H:Hp}{b:Bz}{p:KU}{o:HO}(h:H p=none):WE H b (dW H p o) b :=
 ⟨⟨[],by simp,by simp⟩,⟨[],rfl,by simp⟩,fun a u e _=>by rw[qG (qL e h)];exact e,fun a u e=>⟨u,by rw[qG (qL e h)];exact e⟩⟩
def WE.hide{H:Hp}{b:Bz}{p:KU}{o:HO}(h:H p=none):WE H b (dW H p o) ⟨b.b,p::b.z⟩ :=
 ⟨⟨[],by simp,by simp⟩,⟨[p],rfl,fun a F=>by rw[Af.mp F];exact h⟩,fun a u e _=>by rw[qG (qL e h)];exact e,fun a u e=>⟨u,by rw[qG (qL e h)];exact e⟩⟩
def WE.wr{H:Hp}{b:Bz}{p:KU}{o:HO}(h:p∈b.b∨p∈b.z):WE H b (dW H p o) b :=
 ⟨⟨[],by simp,by simp⟩,⟨[],rfl,by simp⟩,fun a u e F=>by rw[qG (fun z=>h.elim (fun q=>F.1 (by rw[z];exact q)) fun q=>F.2 (by rw[z];exact q))];exact e,fun a u e=>by
  by_cases I:a=p;exact⟨o,by rw[I];exact qS⟩;exact⟨u,by rw[qG I];exact e⟩⟩
def Rd.some_of{H:Hp}{a:KU}{u:HO}(h:Rd H a u):∃o,H a=some o:=h.elim (fun h=>⟨_,h⟩) fun⟨_,h⟩=>⟨_,h⟩
def Rd.wext{H H':Hp}{b b':Bz}{a:KU}{u:HO}(e:WE H b H' b')(h:Rd H a u∧b.out a):Rd H' a u∧b'.out a:=by
 obtain⟨o,F⟩:=Rd.some_of h.1;refine⟨?_,e.not_in F h.2⟩;rcases h.1 with q|⟨o',q⟩
 ·exact .inl (e.keep _ _ q h.2)
 ·exact .inr ⟨o',e.keep _ _ q h.2⟩
def LA.wext{K:KY}{H H':Hp}{b b':Bz}{a:KU}{xs:KQ V}(e:WE H b H' b')(h:LA K H b a xs):LA K H' b' a xs:=h.elim (fun h=>.inl (Rd.wext e h)) .inr
def iW.wext{K:KY}{H H':Hp}{b b':Bz}{a:KU}{xs:KQ V}(e:WE H b H' b')(h:iW K H b a xs):iW K H' b' a xs:=h.elim (fun h=>.inl ⟨e.keep _ _ h.1 h.2,e.not_in h.1 h.2⟩) .inr
def LA.sq{K:KY}{H:Hp}{b:Bz}{a:KU}{xs:KQ V}(h:LA K H b a xs):fq K H a xs:=h.elim (fun h=>.inl h.1) .inr
def iW.sq{K:KY}{H:Hp}{b:Bz}{a:KU}{xs:KQ V}(h:iW K H b a xs):fA K H a xs:=h.elim (fun h=>.inl (.inl h.1)) .inr
mutual
def RV.wext{K:KY}{H H':Hp}{b b':Bz}(e:WE H b H' b'):∀(p:PV) {v:V},RV K H b p v->RV K H' b' p v| .non,_,h=>by unfold RV at h ⊢;exact h| .bl _,_,h=>by unfold RV at h ⊢;exact h| .int _,_,h=>by unfold RV at h ⊢;exact h| .str _,_,h=>by unfold RV at h ⊢;exact h| .tup l,_,h=>by unfold RV at h ⊢;obtain⟨a,xs,h1,h2,h3⟩:=h;exact⟨a,xs,h1,h2.wext e,dS.wext e l h3⟩| .lst l,_,h=>by unfold RV at h ⊢;obtain⟨a,xs,h1,h2,h3⟩:=h;exact⟨a,xs,h1,h2.wext e,dS.wext e l h3⟩| .ref i,_,h=>by unfold RV at h ⊢;obtain⟨a,h1,h2⟩:=h;exact⟨a,h1,e.ix h2⟩| .ty _,_,h=>by unfold RV at h ⊢;exact h| .fn _,_,h=>by unfold RV at h ⊢;exact h| .exc _ _,_,h=>by unfold RV at h ⊢;obtain⟨a,o,u,h1,h2,h3,h4,h6,h5⟩:=h;exact⟨a,o,u,h1,e.keep _ _ h2 h3,e.not_in h2 h3,h4,h6,h5.imp id fun⟨d,q1,q2,q3⟩=>⟨d,q1,e.keep _ _ q2 q3,e.not_in q2 q3⟩⟩| .dct,_,h=>by unfold RV at h ⊢;obtain⟨a,h1,h2,h3⟩:=h;exact⟨a,h1,e.keep _ _ h2 h3,e.not_in h2 h3⟩
def dS.wext{K:KY}{H H':Hp}{b b':Bz}(e:WE H b H' b'):∀(l:KQ PV) {xs:KQ V},dS K H b l xs->dS K H' b' l xs|[],_,h=>by unfold dS at h ⊢;exact h|p::ps,_,h=>by unfold dS at h ⊢;obtain⟨x,r,h1,h2,h3⟩:=h;exact⟨x,r,h1,RV.wext e p h2,dS.wext e ps h3⟩
end
structure dY (H:Hp) (b:Bz) (H':Hp) (b':Bz):Prop extends WE H b H' b' where
 same:b'.z=b.z
 hid:∀a o,a∈b.z->H a=some o->H' a=some o
 fz:∀a o u,H a=some (.frz o u)->H' a=some (.frz o u)
def dY.refl(H:Hp)(b:Bz):dY H b H b:=⟨WE.refl H b,rfl,fun _ _ _ h=>h,fun _ _ _ h=>h⟩
def dY.none_of{H H':Hp}{b b':Bz}(e:dY H b H' b'){a:KU}(h:H' a=none):H a=none:=e.toWE.none_of h
def dY.trans{H H1 F:Hp}{b b1 I:Bz}(e:dY H b H1 b1)(f:dY H1 b1 F I):dY H b F I:=⟨e.toWE.trans f.toWE,f.same.trans e.same,fun a o M h=>f.hid a o (by rw[e.same];exact M) (e.hid a o M h),fun a o u h=>f.fz a o u (e.fz a o u h)⟩
def dY.ix{H H':Hp}{b b':Bz}(e:dY H b H' b'){i:Nat}{a:KU}(h:b.b[i]? = some a):b'.b[i]? = some a:=e.toWE.ix h
def dY.new{H:Hp}{b:Bz}{p:KU}{o:HO}(h:H p=none):dY H b (dW H p o) b:=⟨WE.new h,rfl,fun a u _ e=>by rw[qG (qL e h)];exact e,fun a u _ e=>by rw[qG (qL e h)];exact e⟩
def dY.wr{H:Hp}{b:Bz}{p:KU}{o:HO}(h:p∈b.b)(hz:∀a∈b.z,a∉b.b)(F:∀o u,H p≠some (.frz o u)):dY H b (dW H p o) b:=⟨WE.wr (.inl h),rfl,fun a u I e=>by rw[qG (fun z=>hz a I (by rw[z];exact h))];exact e,fun a u v e=>by rw[qG (fun z=>F u v (by rw[←z];exact e))];exact e⟩
def oK{H:Hp}{p:KU}{u:HO}(h:H p=some u)(F:∀o v,u≠ .frz o v):∀o v,H p≠some (.frz o v):=fun o v z=>by rw[h]at z;cases z;exact F _ _ rfl
def oI{H:Hp}{p:KU}{xs:KQ V}(h:H p=some (.lst xs)):∀o v,H p≠some (.frz o v):=oK h fun _ _ z=>nomatch z
def dY.of_same{H H':Hp}{b:Bz}(h:gB H H'):dY H b H' b:=⟨⟨⟨[],by simp,by simp⟩,⟨[],rfl,by simp⟩,fun a o e _=>h a o e,fun a o e=>⟨o,h a o e⟩⟩,rfl,fun a o _ e=>h a o e,fun a o u e=>h a _ e⟩
def RV.ext{K:KY}{H H':Hp}{b b':Bz}(e:dY H b H' b')(p:PV){v:V}(h:RV K H b p v):RV K H' b' p v:=RV.wext e.toWE p h
def dS.ext{K:KY}{H H':Hp}{b b':Bz}(e:dY H b H' b')(l:KQ PV){xs:KQ V}(h:dS K H b l xs):dS K H' b' l xs:=dS.wext e.toWE l h
def dS.length{K:KY}{H:Hp}{b:Bz}:∀{l:KQ PV} {xs:KQ V},dS K H b l xs->l.length=xs.length|[],_,h=>by unfold dS at h;rw[h];rfl|p::ps,_,h=>by unfold dS at h;obtain⟨x,r,rfl,_,F⟩:=h;rw[AO,AO,dS.length F]
def dS.nil{K:KY}{H:Hp}{b:Bz}:dS K H b [] []:=by unfold dS;rfl
def dS.cons{K:KY}{H:Hp}{b:Bz}{p:PV}{ps:KQ PV}{x:V}{r:KQ V}(h:RV K H b p x)(t:dS K H b ps r):dS K H b (p::ps) (x::r):=by unfold dS;exact⟨x,r,rfl,h,t⟩
def dS.get{K:KY}{H:Hp}{b:Bz}:∀{l:KQ PV} {xs:KQ V} {i:Nat} {p:PV},dS K H b l xs->l[i]? = some p->∃x,xs[i]? = some x∧RV K H b p x
 |[],_,_,_,_,h=>by simp at h
 |q::ps,_,0,p,r,h=>by unfold dS at r;obtain⟨x,t,rfl,F,I⟩:=r;simp at h;subst h;exact⟨x,rfl,F⟩
 |q::ps,_,i+1,p,r,h=>by
  unfold dS at r;obtain⟨x,t,rfl,F,I⟩:=r;obtain⟨y,e,M⟩:=dS.get (i:=i) I (by simpa using h);exact⟨y,by simpa using e,M⟩
def dS.append{K:KY}{H:Hp}{b:Bz}:∀{l m:KQ PV} {xs F:KQ V},dS K H b l xs->dS K H b m F->dS K H b (l++m) (xs++F)|[],_,_,_,h,g=>by unfold dS at h;subst h;exact g|p::ps,_,_,_,h,g=>by unfold dS at h;obtain⟨x,r,rfl,I,M⟩:=h;exact dS.cons I (dS.append M g)
def dS.take{K:KY}{H:Hp}{b:Bz}:∀{l:KQ PV} {xs:KQ V} (n:Nat),dS K H b l xs->dS K H b (l.take n) (xs.take n)|_,_,0,_=>dS.nil|[],_,_+1,h=>by unfold dS at h;subst h;exact dS.nil|p::ps,_,n+1,h=>by unfold dS at h;obtain⟨x,r,rfl,F,I⟩:=h;exact dS.cons F (dS.take n I)
def dS.drop{K:KY}{H:Hp}{b:Bz}:∀{l:KQ PV} {xs:KQ V} (n:Nat),dS K H b l xs->dS K H b (l.drop n) (xs.drop n)|_,_,0,h=>h|[],_,_+1,h=>by unfold dS at h;subst h;exact dS.nil|p::ps,_,n+1,h=>by unfold dS at h;obtain⟨x,r,rfl,I,F⟩:=h;exact dS.drop n F
def dS.set{K:KY}{H:Hp}{b:Bz}{p:PV}{x:V}(I:RV K H b p x):∀{l:KQ PV} {xs:KQ V} (n:Nat),dS K H b l xs->dS K H b (l.set n p) (xs.set n x)|[],_,_,h=>by unfold dS at h;subst h;exact dS.nil|q::ps,_,0,h=>by unfold dS at h;obtain⟨y,r,rfl,M,F⟩:=h;exact dS.cons I F|q::ps,_,n+1,h=>by unfold dS at h;obtain⟨y,r,rfl,M,F⟩:=h;exact dS.cons M (dS.set I n F)
def gV.wext{K:KY}{H H':Hp}{b b':Bz}(e:WE H b H' b'):∀{x:SO} {o:HO},gV K H b x o->gV K H' b' x o| .l xs,_,⟨vs,h,r⟩=>⟨vs,h,dS.wext e xs r⟩| .d Kh,_,⟨vs,h,q,r⟩=>⟨vs,h,q,dS.wext e _ r⟩| .z Kh,_,⟨od,vs,h,q,r⟩=>⟨od,vs,h,q,dS.wext e _ r⟩
def gV.ext{K:KY}{H H':Hp}{b b':Bz}(e:dY H b H' b'){x:SO}{o:HO}(h:gV K H b x o):gV K H' b' x o:=h.wext e.toWE
def SR.mem{K:KY}{H:Hp}{b:Bz}{st:qC}(S:SR K H b st){a:KU}(h:a∈b.b):∃o,H a=some o:=by
 obtain⟨i,hi⟩:=Bf h;have I:i<b.b.length:=(AT.mp hi).1;have hs:st[i]? = some (st[i]'(by rw[←S.len];exact I)):=AJ _;obtain⟨O,o,F,M,_⟩:=S.at_ i _ hs;rw[hi]at F;cases F;exact⟨o,M⟩
def SR.new_notin{K:KY}{H:Hp}{b:Bz}{st:qC}(S:SR K H b st){p:KU}(h:H p=none):b.out p :=
 ⟨fun F=>(by obtain⟨o,e⟩:=S.mem F;rw[h]at e;cases e),fun F=>(by obtain⟨o,e⟩:=S.zo p F;rw[h]at e;cases e)⟩
def SR.new{K:KY}{H:Hp}{b:Bz}{st:qC}(S:SR K H b st){p:KU}{o:HO}(h:H p=none):SR K (dW H p o) b st :=
 ⟨S.len,S.nd,fun i x I=>by
  obtain⟨a,u,M,F,O⟩:=S.at_ i x I;exact⟨a,u,M,by rw[qG (qL F h)];exact F,O.ext (dY.new h)⟩,fun a R=>by
  obtain⟨u,e⟩:=S.zo a R;exact⟨u,by rw[qG (qL e h)];exact e⟩,S.zb⟩
def uf{b:KQ KU}(nd:b.Nodup){i j:Nat}{x:KU}(F:b[i]? = some x)(I:b[j]? = some x):i=j:=by obtain⟨hi,M⟩:=AT.mp F;obtain⟨R,O⟩:=AT.mp I;exact (List.getElem_inj nd).mp (M.trans O.symm)
def SR.wr{K:KY}{H:Hp}{b:Bz}{st:qC}(S:SR K H b st){i:Nat}{p:KU}{x:SO}{o:HO}(F:b.b[i]? = some p)(Z:gV K (dW H p o) b x o):SR K (dW H p o) b (st.set i x):=by
 have R:p∈b.b:=Ap F;refine⟨by simp[S.len],S.nd,fun j y I=>?_,fun a U=>?_,S.zb⟩
 ·have hl:i<b.b.length:=(AT.mp F).1;by_cases M:j=i
  ·subst M;rw[BT (by rw[←S.len];exact hl)]at I;cases I;exact⟨p,o,F,qS,Z⟩
  ·rw[Bb (Ne.symm M)]at I;obtain⟨a,u,Y,h2,h3⟩:=S.at_ j y I;have O:a≠p:=fun z=>M (by subst z;exact uf S.nd Y F);exact⟨a,u,Y,by rw[qG O];exact h2,h3.wext (WE.wr (.inl R))⟩
 ·obtain⟨u,e⟩:=S.zo a U;have hz:a≠p:=fun z=>S.zb a U (by rw[z];exact R);exact⟨u,by rw[qG hz];exact e⟩
def SR.wrz{K:KY}{H:Hp}{b:Bz}{st:qC}(S:SR K H b st){p:KU}{I:KQ V}(M:p∈b.z):SR K (dW H p (.lst I)) b st:=by
 refine⟨S.len,S.nd,fun j y U=>?_,fun a Y=>?_,S.zb⟩
 ·obtain⟨a,u,O,Z,h3⟩:=S.at_ j y U;have F:a≠p:=fun z=>by subst z;exact S.zb a M (Ap O)
  exact⟨a,u,O,by rw[qG F];exact Z,h3.wext (WE.wr (.inr M))⟩
 ·obtain⟨u,e⟩:=S.zo a Y;by_cases R:a=p;exact⟨I,by rw[R];exact qS⟩;exact⟨u,by rw[qG R];exact e⟩
structure Sh (b b':Bz):Prop where
 ix:∀(i:Nat) (a:Addr),b.b[i]? = some a->b'.b[i]? = some a
 out:∀a,b.out a->b'.out a
mutual
def RV.sh{K:KY}{H:Hp}{b b':Bz}(e:Sh b b'):∀(p:PV) {v:V},RV K H b p v->RV K H b' p v| .non,_,h=>by unfold RV at h ⊢;exact h| .bl _,_,h=>by unfold RV at h ⊢;exact h| .int _,_,h=>by unfold RV at h ⊢;exact h| .str _,_,h=>by unfold RV at h ⊢;exact h| .tup l,_,h=>by unfold RV at h ⊢;obtain⟨a,xs,h1,h2,h3⟩:=h;exact⟨a,xs,h1,h2.elim (fun q=>.inl ⟨q.1,e.out a q.2⟩) .inr,dS.sh e l h3⟩| .lst l,_,h=>by unfold RV at h ⊢;obtain⟨a,xs,h1,h2,h3⟩:=h;exact⟨a,xs,h1,h2.elim (fun q=>.inl ⟨q.1,e.out a q.2⟩) .inr,dS.sh e l h3⟩| .ref i,_,h=>by unfold RV at h ⊢;obtain⟨a,h1,h2⟩:=h;exact⟨a,h1,e.ix i a h2⟩| .ty _,_,h=>by unfold RV at h ⊢;exact h| .fn _,_,h=>by unfold RV at h ⊢;exact h| .exc _ _,_,h=>by unfold RV at h ⊢;obtain⟨a,o,u,h1,h2,h3,h4,h6,h5⟩:=h;exact⟨a,o,u,h1,h2,e.out a h3,h4,h6,h5.imp id fun⟨d,q1,q2,q3⟩=>⟨d,q1,q2,e.out d q3⟩⟩| .dct,_,h=>by unfold RV at h ⊢;obtain⟨a,h1,h2,h3⟩:=h;exact⟨a,h1,h2,e.out a h3⟩
def dS.sh{K:KY}{H:Hp}{b b':Bz}(e:Sh b b'):∀(l:KQ PV) {xs:KQ V},dS K H b l xs->dS K H b' l xs|[],_,h=>by unfold dS at h ⊢;exact h|p::ps,_,h=>by unfold dS at h ⊢;obtain⟨x,r,h1,h2,h3⟩:=h;exact⟨x,r,h1,RV.sh e p h2,dS.sh e ps h3⟩
end
def gV.sh{K:KY}{H:Hp}{b b':Bz}(e:Sh b b'):∀{x:SO} {o:HO},gV K H b x o->gV K H b' x o| .l xs,_,⟨vs,h,r⟩=>⟨vs,h,dS.sh e xs r⟩| .d Kh,_,⟨vs,h,q,r⟩=>⟨vs,h,q,dS.sh e _ r⟩| .z Kh,_,⟨od,vs,h,q,r⟩=>⟨od,vs,h,q,dS.sh e _ r⟩
def Sh.bare{b:KQ KU}{p:KU}{z:KQ KU}:Sh ⟨b,p::z⟩ ⟨b,z⟩:=⟨fun _ _ h=>h,fun a h=>⟨h.1,fun q=>h.2 (AH _ q)⟩⟩
def Sh.slot{b:KQ KU}{p:KU}{z:KQ KU}:Sh ⟨b,p::z⟩ ⟨b++[p],z⟩:=⟨fun i a h=>by
  rw[An (AT.mp h).1];exact h,fun a h=>⟨fun q=>(At.mp q).elim h.1 fun q=>h.2 (by rw[Af.mp q];exact AI),fun q=>h.2 (AH _ q)⟩⟩
def RV.hide{K:KY}{H:Hp}{b z:KQ KU}{p:KU}{o:HO}(hp:H p=none)(q:PV){v:V}(h:RV K H ⟨b,z⟩ q v):RV K (dW H p o) ⟨b,p::z⟩ q v:=hd q h
where
 outp {a:Addr} {u:HO} (e:H a=some u) (h:Bz.out ⟨b,z⟩ a):Bz.out ⟨b,p::z⟩ a:=⟨h.1,fun q=>(AK.mp q).elim (fun q=>by subst q;rw[hp]at e;cases e) h.2⟩
 rdd {a:Addr} {u:HO} (h:Rd H a u∧Bz.out ⟨b,z⟩ a):Rd (dW H p o) a u∧Bz.out ⟨b,p::z⟩ a:=by
  obtain⟨w,hw⟩:=Rd.some_of h.1;refine⟨?_,outp hw h.2⟩;rcases h.1 with q|⟨o',q⟩
  ·exact .inl (by rw[qG (qL q hp)];exact q)
  ·exact .inr ⟨o',by rw[qG (qL q hp)];exact q⟩
 hd:∀(q:PV) {v:V},RV K H ⟨b,z⟩ q v->RV K (dW H p o) ⟨b,p::z⟩ q v
 | .non,_,h=>by unfold RV at h ⊢;exact h
 | .bl _,_,h=>by unfold RV at h ⊢;exact h
 | .int _,_,h=>by unfold RV at h ⊢;exact h
 | .str _,_,h=>by unfold RV at h ⊢;exact h
 | .tup l,_,h=>by unfold RV at h ⊢;obtain⟨a,xs,h1,h2,h3⟩:=h;exact⟨a,xs,h1,h2.elim (fun q=>.inl ⟨by rw[qG (qL q.1 hp)];exact q.1,outp q.1 q.2⟩) .inr,hds l h3⟩
 | .lst l,_,h=>by unfold RV at h ⊢;obtain⟨a,xs,h1,h2,h3⟩:=h;exact⟨a,xs,h1,h2.elim (fun q=>.inl (rdd q)) .inr,hds l h3⟩
 | .ref i,_,h=>by unfold RV at h ⊢;exact h
 | .ty _,_,h=>by unfold RV at h ⊢;exact h
 | .fn _,_,h=>by unfold RV at h ⊢;exact h
 | .exc _ _,_,h=>by unfold RV at h ⊢;obtain⟨a,o',u,h1,h2,h3,h4,h6,h5⟩:=h;exact⟨a,o',u,h1,by rw[qG (qL h2 hp)];exact h2,outp h2 h3,h4,h6,h5.imp id fun⟨d,q1,q2,q3⟩=>⟨d,q1,by rw[qG (qL q2 hp)];exact q2,outp q2 q3⟩⟩
 | .dct,_,h=>by unfold RV at h ⊢;obtain⟨a,h1,h2,h3⟩:=h;exact⟨a,h1,by rw[qG (qL h2 hp)];exact h2,outp h2 h3⟩
 hds:∀(l:List PV) {xs:List V},dS K H ⟨b,z⟩ l xs->dS K (dW H p o) ⟨b,p::z⟩ l xs
 |[],_,h=>by unfold dS at h ⊢;exact h
 |q::ps,_,h=>by unfold dS at h ⊢;obtain⟨x,r,h1,h2,h3⟩:=h;exact⟨x,r,h1,hd q h2,hds ps h3⟩
def SR.hide{K:KY}{H:Hp}{b z:KQ KU}{st:qC}(S:SR K H ⟨b,z⟩ st){p:KU}{U:KQ V}(F:H p=none):SR K (dW H p (.lst U)) ⟨b,p::z⟩ st:=by
 have Z:=S.new_notin F;refine⟨S.len,S.nd,fun i x hx=>?_,fun a ha=>?_,fun a ha=>?_⟩
 ·obtain⟨a,u,h1,Y,O⟩:=S.at_ i x hx;refine⟨a,u,h1,by rw[qG (qL Y F)];exact Y,?_⟩;cases x with|l xs=>obtain⟨vs,I,M⟩:=O;exact⟨vs,I,RV.hide.hds F xs M⟩|d Kh=>obtain⟨vs,I,M,R⟩:=O;exact⟨vs,I,M,RV.hide.hds F _ R⟩|z Kh=>obtain⟨od,vs,I,M,R⟩:=O;exact⟨od,vs,I,M,RV.hide.hds F _ R⟩
 ·rcases AK.mp ha with rfl|ha
  ·exact⟨U,qS⟩
  ·obtain⟨u,e⟩:=S.zo a ha;exact⟨u,by rw[qG (qL e F)];exact e⟩
 ·rcases AK.mp ha with rfl|ha
  ·exact Z.1
  ·exact S.zb a ha
def SR.bare{K:KY}{H:Hp}{b z:KQ KU}{st:qC}{p:KU}(S:SR K H ⟨b,p::z⟩ st):SR K H ⟨b,z⟩ st :=
 ⟨S.len,S.nd,fun i x I=>by
  obtain⟨a,u,M,O,R⟩:=S.at_ i x I;exact⟨a,u,M,O,R.sh Sh.bare⟩,fun a F=>S.zo a (AH _ F),fun a F=>S.zb a (AH _ F)⟩
def SR.slot{K:KY}{H:Hp}{b z:KQ KU}{st:qC}{p:KU}{x:SO}{o:HO}(S:SR K H ⟨b,p::z⟩ st)(hz:p∉z)(O:H p=some o)(R:gV K H ⟨b,p::z⟩ x o):SR K H ⟨b++[p],z⟩ (st++[x]):=by
 have U:p∉b:=S.zb p AI;refine⟨by simp[show b.length=st.length from S.len],?_,fun i y I=>?_,fun a F=>S.zo a (AH _ F),fun a F Y=>?_⟩;exact List.nodup_append.mpr ⟨S.nd,by simp,fun a F c Z=>by rw[Af.mp Z];intro z;subst z;exact U F⟩
 ·by_cases hi:i<st.length;rw[An hi]at I;obtain⟨a,u,h1,h2,h3⟩:=S.at_ i y I;exact⟨a,u,Sh.slot.ix i a h1,h2,h3.sh Sh.slot⟩
  ·have M:i=st.length:=by
    have:=(AT.mp I).1
    rw[Ac,A2]at this;omega
   subst M;have e1:(st++[x])[st.length]? = some x:=by simp
   rw[e1]at I;cases I;have hl:b.length=st.length:=S.len;exact⟨p,o,by show (b++[p])[st.length]? = some p;rw[←hl];simp,O,R.sh Sh.slot⟩
 ·rcases At.mp Y with q|q
  ·exact S.zb a (AH _ F) q
  ·rw[Af.mp q]at F;exact hz F
def eD(K:KY)(H:Hp)(b:Bz)(r:ql)(s:L2.St):Prop:=r.length=s.length∧∀(i:Nat) (p:PV),r[i]? = some (some p)->∃v,s[i]? = some (some v)∧RV K H b p v
def eD.wext{K:KY}{H H':Hp}{b b':Bz}{r:ql}{s:L2.St}(h:eD K H b r s)(e:WE H b H' b'):eD K H' b' r s:=⟨h.1,fun i p q=>by
 obtain⟨v,F,I⟩:=h.2 i p q;exact⟨v,F,RV.wext e p I⟩⟩
def eD.ext{K:KY}{H H':Hp}{b b':Bz}{r:ql}{s:L2.St}(h:eD K H b r s)(e:dY H b H' b'):eD K H' b' r s:=⟨h.1,fun i p q=>by
 obtain⟨v,F,I⟩:=h.2 i p q;exact⟨v,F,RV.ext e p I⟩⟩
def eD.set{K:KY}{H:Hp}{b:Bz}{r:ql}{s:L2.St}{p:PV}{v:V}(h:eD K H b r s)(O:RV K H b p v)(i:Nat):eD K H b (r.set i (some p)) (s.set i (some v)):=by
 refine⟨by simp[h.1],fun j q F=>?_⟩;by_cases I:i=j
 ·subst I;have M:i<r.length:=by
   have:=(AT.mp F).1
   simpa using this
  rw[BT M]at F;cases F;exact⟨v,by rw[BT (by rw[←h.1];exact M)],O⟩
 ·rw[Bb I]at F;obtain⟨w,R,U⟩:=h.2 j q F;exact⟨w,by rw[Bb I];exact R,U⟩
def RX(K:KY)(H:Hp)(b:Bz)(x:hZ)(c:KR)(d:KW KU):Prop :=
 c= .ref x.cls∧((x.fs=[]∧d=none)∨∃a,d=some a∧H a=some (.xd (x.fs.map fun p=>(p.1,V.int p.2)))∧b.out a)
def XP(K:KY)(E:XK)(H:Hp)(b:Bz)(x:hZ)(st:qC):Prop:=∀c d H' b',dY H b H' b'->SR K H' b' st->RX K H' b' x c d->E c d H'
def XP.ext{K:KY}{E:XK}{H H1:Hp}{b b1:Bz}{x:hZ}{st:qC}(h:XP K E H b x st)(e:dY H b H1 b1):XP K E H1 b1 x st:=fun c d H' b' F S r=>h c d H' b' (e.trans F) S r
def dR(K:KY)(E:XK)(H:Hp)(b:Bz)(r:Rs PV)(Q:VK):Prop:=match r with| .ok p st=>∀v H' b',dY H b H' b'->SR K H' b' st->RV K H' b' p v->Q v H'| .ex x st=>XP K E H b x st| .no=>False
def eC(K:KY)(E:XK)(H:Hp)(b:Bz)(r:Rs (KQ PV))(Q:KQ V->Hp->Prop):Prop:=match r with| .ok ps st=>∀vs H' b',dY H b H' b'->SR K H' b' st->dS K H' b' ps vs->Q vs H'| .ex x st=>XP K E H b x st| .no=>False
def eU(K:KY)(E:XK)(H:Hp)(b:Bz)(r:Rs Bool)(Q:Bool->Hp->Prop):Prop:=match r with| .ok k st=>∀H' b',dY H b H' b'->SR K H' b' st->Q k H'| .ex x st=>XP K E H b x st| .no=>False
def dZ(K:KY)(E:XK)(H:Hp)(b:Bz)(r:RS)(D:fR):Prop:=match r with| .nx e st=>∀s H' b',dY H b H' b'->SR K H' b' st->eD K H' b' e s->D.nx s H'| .bk e st=>∀s H' b',dY H b H' b'->SR K H' b' st->eD K H' b' e s->D.bk s H'| .ct e st=>∀s H' b',dY H b H' b'->SR K H' b' st->eD K H' b' e s->D.ct s H'| .rt p st=>∀v H' b',dY H b H' b'->SR K H' b' st->RV K H' b' p v->D.rt v H'| .ex x st=>XP K E H b x st| .no=>False
def dR.ext{K:KY}{E:XK}{H H1:Hp}{b b1:Bz}{r:Rs PV}{Q:VK}(h:dR K E H b r Q)(e:dY H b H1 b1):dR K E H1 b1 r Q:=by
 cases r with|ok p st=>exact fun v H' b' F=>h v H' b' (e.trans F)|ex x st=>exact XP.ext h e|no=>exact h
def eC.ext{K:KY}{E:XK}{H H1:Hp}{b b1:Bz}{r:Rs (KQ PV)}{Q:KQ V->Hp->Prop}(h:eC K E H b r Q)(e:dY H b H1 b1):eC K E H1 b1 r Q:=by
 cases r with|ok p st=>exact fun v H' b' F=>h v H' b' (e.trans F)|ex x st=>exact XP.ext h e|no=>exact h
def eU.ext{K:KY}{E:XK}{H H1:Hp}{b b1:Bz}{r:Rs Bool}{Q:Bool->Hp->Prop}(h:eU K E H b r Q)(e:dY H b H1 b1):eU K E H1 b1 r Q:=by
 cases r with|ok p st=>exact fun H' b' F=>h H' b' (e.trans F)|ex x st=>exact XP.ext h e|no=>exact h
def dZ.ext{K:KY}{E:XK}{H H1:Hp}{b b1:Bz}{r:RS}{D:fR}(h:dZ K E H b r D)(e:dY H b H1 b1):dZ K E H1 b1 r D:=by
 cases r with|nx p st=>exact fun v H' b' F=>h v H' b' (e.trans F)|bk p st=>exact fun v H' b' F=>h v H' b' (e.trans F)|ct p st=>exact fun v H' b' F=>h v H' b' (e.trans F)|rt p st=>exact fun v H' b' F=>h v H' b' (e.trans F)|ex x st=>exact XP.ext h e|no=>exact h
def rd(K:KY)(E:XK)(f:FE):TE:=fun s H Q=>∃b r st,SR K H b st∧eD K H b r s∧dR K E H b (f r st) Q
def IH(K:KY)(E:XK)(f:FA):L2.TA:=fun s H Q=>∃b r st,SR K H b st∧eD K H b r s∧eC K E H b (f r st) Q
def kM(K:KY)(E:XK)(f:FT):TT:=fun s H Q=>∃b r st,SR K H b st∧eD K H b r s∧eU K E H b (f r st) Q
def kd(K:KY)(E:XK)(f:FS):TS:=fun D s H=>∃b r st,SR K H b st∧eD K H b r s∧dZ K E H b (f r st) D
abbrev VE(X:Cx)(E:XK)(e:K2)(f:FE):Prop:=PE X e (rd X.K E f)
abbrev VA(X:Cx)(E:XK)(e:KQ K2)(f:FA):Prop:=PA X e (IH X.K E f)
abbrev VT(X:Cx)(E:XK)(e:K2)(f:FT):Prop:=PT X e (kM X.K E f)
abbrev VS(X:Cx)(E:XK)(e:Stmt)(f:FS):Prop:=PS X e (kd X.K E f)
abbrev gK(X:Cx)(E:XK)(e:KQ Stmt)(f:FS):Prop:=gu X e (kd X.K E f)
def PE.imp{X:Cx}{e:K2}{t t':TE}(h:PE X e t)(i:∀s H Q,t' s H Q->t s H Q):PE X e t':=fun Kf s σ H Q I q=>h Kf s σ H Q I (i _ _ _ q)
def PT.imp{X:Cx}{e:K2}{t t':TT}(h:PT X e t)(i:∀s H Q,t' s H Q->t s H Q):PT X e t':=fun Kf s σ H Q I q=>h Kf s σ H Q I (i _ _ _ q)
def PA.imp{X:Cx}{e:KQ K2}{t t':L2.TA}(h:PA X e t)(i:∀s H Q,t' s H Q->t s H Q):PA X e t':=fun F Kf s σ H Q I q=>h F Kf s σ H Q I (i _ _ _ q)
def PS.imp{X:Cx}{e:Stmt}{t t':TS}(h:PS X e t)(i:∀D s H,t' D s H->t D s H):PS X e t':=fun Kf s σ H D I q=>h Kf s σ H D I (i _ _ _ q)
def gu.imp{X:Cx}{e:KQ Stmt}{t t':TS}(h:gu X e t)(i:∀D s H,t' D s H->t D s H):gu X e t':=fun Kf s σ H D I q=>h Kf s σ H D I (i _ _ _ q)
def dR.bind{K:KY}{E:XK}{H:Hp}{b:Bz}{r:Rs PV}{k:PV->qC->Rs PV}{Q R:VK}(P:dR K E H b (r.bind k) Q)
  (h:∀p st v H1 b1,dY H b H1 b1->SR K H1 b1 st->RV K H1 b1 p v->dR K E H1 b1 (k p st) Q->R v H1):dR K E H b r R:=by
 cases r with|ok p st=>exact fun v H1 b1 e S r=>h p st v H1 b1 e S r (dR.ext (show dR K E H b (k p st) Q from P) e)|ex x st=>exact P|no=>exact P
def dR.bindT{K:KY}{E:XK}{H:Hp}{b:Bz}{r:Rs PV}{k:PV->qC->Rs Bool}{Q:Bool->Hp->Prop}{R:VK}(P:eU K E H b (r.bind k) Q)
  (h:∀p st v H1 b1,dY H b H1 b1->SR K H1 b1 st->RV K H1 b1 p v->eU K E H1 b1 (k p st) Q->R v H1):dR K E H b r R:=by
 cases r with|ok p st=>exact fun v H1 b1 e S r=>h p st v H1 b1 e S r (eU.ext (show eU K E H b (k p st) Q from P) e)|ex x st=>exact P|no=>exact P
def eU.bindT{K:KY}{E:XK}{H:Hp}{b:Bz}{r:Rs Bool}{k:Bool->qC->Rs Bool}{Q R:Bool->Hp->Prop}(P:eU K E H b (r.bind k) Q)
  (h:∀p st H1 b1,dY H b H1 b1->SR K H1 b1 st->eU K E H1 b1 (k p st) Q->R p H1):eU K E H b r R:=by
 cases r with|ok p st=>exact fun H1 b1 e S=>h p st H1 b1 e S (eU.ext (show eU K E H b (k p st) Q from P) e)|ex x st=>exact P|no=>exact P
def eC.bind{K:KY}{E:XK}{H:Hp}{b:Bz}{r:Rs (KQ PV)}{k:KQ PV->qC->Rs PV}{Q:VK}{R:KQ V->Hp->Prop}(P:dR K E H b (r.bind k) Q)
  (h:∀p st v H1 b1,dY H b H1 b1->SR K H1 b1 st->dS K H1 b1 p v->dR K E H1 b1 (k p st) Q->R v H1):eC K E H b r R:=by
 cases r with|ok p st=>exact fun v H1 b1 e S r=>h p st v H1 b1 e S r (dR.ext (show dR K E H b (k p st) Q from P) e)|ex x st=>exact P|no=>exact P
def dR.bindA{K:KY}{E:XK}{H:Hp}{b:Bz}{r:Rs PV}{k:PV->qC->Rs (KQ PV)}{Q:KQ V->Hp->Prop}{R:VK}(P:eC K E H b (r.bind k) Q)
  (h:∀p st v H1 b1,dY H b H1 b1->SR K H1 b1 st->RV K H1 b1 p v->eC K E H1 b1 (k p st) Q->R v H1):dR K E H b r R:=by
 cases r with|ok p st=>exact fun v H1 b1 e S r=>h p st v H1 b1 e S r (eC.ext (show eC K E H b (k p st) Q from P) e)|ex x st=>exact P|no=>exact P
def eC.bindA{K:KY}{E:XK}{H:Hp}{b:Bz}{r:Rs (KQ PV)}{k:KQ PV->qC->Rs (KQ PV)}{Q R:KQ V->Hp->Prop}(P:eC K E H b (r.bind k) Q)
  (h:∀p st v H1 b1,dY H b H1 b1->SR K H1 b1 st->dS K H1 b1 p v->eC K E H1 b1 (k p st) Q->R v H1):eC K E H b r R:=by
 cases r with|ok p st=>exact fun v H1 b1 e S r=>h p st v H1 b1 e S r (eC.ext (show eC K E H b (k p st) Q from P) e)|ex x st=>exact P|no=>exact P
def Rs.bindS{α:Type}(r:Rs α)(k:α->qC->RS):RS:=match r with| .ok a st=>k a st| .ex x st=>.ex x st| .no=>.no
def dR.bindS{K:KY}{E:XK}{H:Hp}{b:Bz}{r:Rs PV}{k:PV->qC->RS}{D:fR}{R:VK}(P:dZ K E H b (r.bindS k) D)
  (h:∀p st v H1 b1,dY H b H1 b1->SR K H1 b1 st->RV K H1 b1 p v->dZ K E H1 b1 (k p st) D->R v H1):dR K E H b r R:=by
 cases r with|ok p st=>exact fun v H1 b1 e S r=>h p st v H1 b1 e S r (dZ.ext (show dZ K E H b (k p st) D from P) e)|ex x st=>exact P|no=>exact P
def eU.bindS{K:KY}{E:XK}{H:Hp}{b:Bz}{r:Rs Bool}{k:Bool->qC->RS}{D:fR}{R:Bool->Hp->Prop}(P:dZ K E H b (r.bindS k) D)
  (h:∀p st H1 b1,dY H b H1 b1->SR K H1 b1 st->dZ K E H1 b1 (k p st) D->R p H1):eU K E H b r R:=by
 cases r with|ok p st=>exact fun H1 b1 e S=>h p st H1 b1 e S (dZ.ext (show dZ K E H b (k p st) D from P) e)|ex x st=>exact P|no=>exact P
def eC.bindS{K:KY}{E:XK}{H:Hp}{b:Bz}{r:Rs (KQ PV)}{k:KQ PV->qC->RS}{D:fR}{R:KQ V->Hp->Prop}(P:dZ K E H b (r.bindS k) D)
  (h:∀p st v H1 b1,dY H b H1 b1->SR K H1 b1 st->dS K H1 b1 p v->dZ K E H1 b1 (k p st) D->R v H1):eC K E H b r R:=by
 cases r with|ok p st=>exact fun v H1 b1 e S r=>h p st v H1 b1 e S r (dZ.ext (show dZ K E H b (k p st) D from P) e)|ex x st=>exact P|no=>exact P
def gk(st:qC):PV->KW (KQ PV)
 | .lst l=>some l
 | .ref i=>match st[i]? with|some (.l xs)=>some xs|_=>none
 |_=>none
def Kd:PV->KW (KQ PV)| .tup l=>some l|_=>none
def ZB(st:qC)(p:PV):KW (KQ PV):=match p with| .tup l=>some l|p=>gk st p
section
variable{K:KY}{H:Hp}{b:Bz}{st:qC}{p:PV}{v:V}{l:KQ PV}
def w6(S:SR K H b st)(r:RV K H b p v)(h:gk st p=some l):∃a xs,v= .ref a∧fq K H a xs∧dS K H b l xs:=by
 cases p with
 |lst m=>unfold RV at r;obtain⟨a,xs,F,I,R⟩:=r;have e:m=l:=Aj h;subst e;exact⟨a,xs,F,I.sq,R⟩
 |ref i =>
  unfold RV at r;obtain⟨a,F,I⟩:=r;unfold gk at h;dsimp only at h;cases q:st[i]? with
  |none=>rw[q]at h;cases h
  |some o =>
   cases o with|l M=>rw[q]at h;have e:M=l:=Aj h;subst e;obtain⟨a',o,O,U,vs,Y,Z⟩:=S.at_ i _ q;rw[I]at O;cases O;subst Y;exact⟨a,vs,F,fq.of U,Z⟩|d M=>rw[q]at h;cases h|z M=>rw[q]at h;cases h
 |_=>cases h
def zi(S:SR K H b st)(r:RV K H b p v)(h:ZB st p=some l):∃a xs,v= .ref a∧(fq K H a xs∨fA K H a xs)∧dS K H b l xs:=by
 cases p with|tup m=>unfold RV at r;obtain⟨a,xs,F,I,M⟩:=r;have e:m=l:=Aj h;subst e;exact⟨a,xs,F,.inr I.sq,M⟩|lst m=>obtain⟨a,xs,F,I,M⟩:=w6 S r h;exact⟨a,xs,F,.inl I,M⟩|ref i=>obtain⟨a,xs,F,I,M⟩:=w6 S r h;exact⟨a,xs,F,.inl I,M⟩|_=>cases h
end
abbrev FL:=ql->qC->Rs (KQ PV)
def dX(K:KY)(E:XK)(H:Hp)(b:Bz)(r:Rs (KQ PV))(Q:VK):Prop:=match r with| .ok l st=>∀p xs H' b',dY H b H' b'->H p=none->H' p=some (.lst xs)->p∉b'.z->SR K H' ⟨b'.b,p::b'.z⟩ st->dS K H' ⟨b'.b,p::b'.z⟩ l xs->Q (.ref p) H'| .ex x st=>XP K E H b x st| .no=>False
def mA(K:KY)(E:XK)(f:FL):TE:=fun s H Q=>∃b r st,SR K H b st∧eD K H b r s∧dX K E H b (f r st) Q
abbrev VN(X:Cx)(E:XK)(e:K2)(f:FL):Prop:=PE X e (mA X.K E f)
def eI(f:FL):FE:=fun r st=>(f r st).bind fun l s=>.ok (.lst l) s
def dX.of{K:KY}{E:XK}{H:Hp}{b:Bz}{r:Rs (KQ PV)}{Q:VK}(P:dR K E H b (r.bind fun l s=>.ok (.lst l) s) Q):dX K E H b r Q:=by
 cases r with|ok l st=>exact fun p xs H' b' e M F I S r=>P _ H' b' e S.bare (by unfold RV;exact⟨p,xs,rfl,.inl ⟨.inl F,S.zb p AI,I⟩,dS.sh Sh.bare l r⟩)|ex x st=>exact P|no=>exact P
def dX.ext{K:KY}{E:XK}{H H1:Hp}{b b1:Bz}{r:Rs (KQ PV)}{Q:VK}(h:dX K E H b r Q)(e:dY H b H1 b1):dX K E H1 b1 r Q:=by
 cases r with|ok p st=>exact fun p xs H' b' F I=>h p xs H' b' (e.trans F) (e.none_of I)|ex x st=>exact XP.ext h e|no=>exact h
def dX.lay{K:KY}{E:XK}{H:Hp}{b:Bz}{st:qC}{l:KQ PV}{xs:KQ V}{Q:VK}(P:dX K E H b (.ok l st) Q)(S:SR K H b st)(r:dS K H b l xs){p:KU}(h:H p=none):Q (.ref p) (dW H p (.lst xs)) :=
 P p xs _ b (dY.new h) h qS (S.new_notin h).2 (SR.hide S h) (RV.hide.hds h l r)
def dR.layT{K:KY}{E:XK}{H:Hp}{b:Bz}{st:qC}{l:KQ PV}{xs:KQ V}{Q:VK}(P:dR K E H b (.ok (.tup l) st) Q)(S:SR K H b st)(r:dS K H b l xs){p:KU}(h:H p=none):Q (.ref p) (dW H p (.tup xs)) :=
 P _ _ b (dY.new h) (S.new h) (by unfold RV;exact⟨p,xs,rfl,.inl ⟨qS,S.new_notin h⟩,dS.ext (dY.new h) l r⟩)
def dR.here{K:KY}{E:XK}{H:Hp}{b:Bz}{st:qC}{p:PV}{v:V}{Q:VK}(P:dR K E H b (.ok p st) Q)(S:SR K H b st)(r:RV K H b p v):Q v H:=P v H b (dY.refl H b) S r
section
variable{X:Cx}{E:XK}{e a c d:K2}{es:KQ K2}{f fa fb fc:FE}{pos:Pos}
def qv{f:FL}(h:VN X E e f):VE X E e (eI f):=PE.imp h fun s H Q ⟨b,r,st,S,R,P⟩=>⟨b,r,st,S,R,dX.of P⟩
def vC(p:PV):FE:=fun _ st=>.ok p st
def qB(i:Nat):FE:=fun r st=>match r[i]? with|some (some p)=>.ok p st|_=>.no
def iL{p:PV}{v:V}(h:PE X e (tC v))(F:∀H b,RV X.K H b p v):VE X E e (vC p):=PE.imp h fun s H Q ⟨b,r,st,S,R,P⟩=>dR.here P S (F H b)
def qI{i:Int}{j pos}:VE X E (.Constant (.int i) j pos) (vC (.int i)):=iL Ey fun _ _=>by unfold RV;rfl
def wN{i:Bool}{j pos}:VE X E (.Constant (.bool i) j pos) (vC (.bl i)):=iL xo fun _ _=>by unfold RV;rfl
def lK{j pos}:VE X E (.Constant .none j pos) (vC .non):=iL uL fun _ _=>by unfold RV;rfl
def Qv{x:Str}{j pos}:VE X E (.Constant (.str x) j pos) (vC (.str x)):=iL II fun _ _=>by unfold RV;rfl
def WB{x:Str}{i:Int}{t:Tok}{pos:Pos}(F:Gl X x)(I:X.mg x=some (.int i t))(hd:(x==("__debug__":Str))=false:=by decide):VE X E (.Name x pos) (vC (.int i)) :=
 iL (pS (v:=.int i) F I ⟨t,rfl⟩ hd) fun _ _=>by unfold RV;rfl
def Hc{i:Nat}(h:PE X e (my i)):VE X E e (qB i):=PE.imp h fun s H Q ⟨b,r,st,S,R,P⟩=>by
 unfold qB at P;cases q:r[i]? with
 |none=>rw[q]at P;exact False.elim P
 |some o =>
  cases o with|none=>rw[q]at P;exact False.elim P|some p=>rw[q]at P;obtain⟨v,F,I⟩:=R.2 i p q;exact⟨v,F,dR.here P S I⟩
def qN(g:PV->PV->qC->Rs PV)(fa fb:FE):FE:=fun r st=>(fa r st).bind fun p s1=>(fb r s1).bind fun q s2=>g p q s2
def gL(X:Cx)(E:XK)(t:R2)(g:PV->PV->qC->Rs PV):Prop :=
 ∀(H:Hp) (b:Bz) (st:qC) (p q:PV) (u v:V) (Q:VK),SR X.K H b st->RV X.K H b p u->RV X.K H b q v->dR X.K E H b (g p q st) Q->t u v H Q
def Ju{t:R2}{g:PV->PV->qC->Rs PV}(F:gL X E t g):∀s H Q,rd X.K E (qN g fa fb) s H Q->i9 t (rd X.K E fa) (rd X.K E fb) s H Q:=fun s H Q ⟨b,r,st,S,R,P⟩ =>
 ⟨b,r,st,S,R,dR.bind P fun p s1 u H1 b1 I M O U=>⟨b1,r,s1,M,R.ext I,dR.bind U fun q s2 v Y Z e2 S2 r2 P2=>F Y Z s2 p q u v Q S2 (RV.ext e2 p O) r2 P2⟩⟩
def yG{op:Operator}{t:R2}{g:PV->PV->qC->Rs PV}(F:fS X (binaryOp op) t)(I:gL X E t g)(M:VE X E a fa)(O:VE X E c fb):VE X E (.BinOp a op c pos) (qN g fa fb):=PE.imp (sd F M O) (Ju I)
def Jj{op:CmpOp}{t:R2}{g:PV->PV->qC->Rs PV}(F:fS X (compareOp op) t)(I:gL X E t g)(M:VE X E a fa)(O:VE X E c fb)(R:behindInMarks op c=false:=by first|exact lr _|with_unfolding_all rfl):VE X E (.Compare a [op] [c] pos) (qN g fa fb):=PE.imp (GB F M O R) (Ju I)
def gI(g:Int->Int->KW PV):PV->PV->qC->Rs PV:=fun p q st=>match p,q with
 | .int i,.int j=>match g i j with|some z=>.ok z st|none=>.no
 |_,_=>.no
def kh{C:Int->Int->Prop}{h:Int->Int->V}{g:Int->Int->KW PV}(I:∀i j z,g i j=some z->C i j∧∀H b,RV X.K H b z (h i j)):gL X E (rI C h) (gI g):=by
 intro H b st p q u v Q S rp F P;unfold gI at P;split at P
 ·rename_i i j;unfold RV at rp F;split at P;rename_i z e;obtain⟨c,r⟩:=I i j z e;exact⟨i,j,rp,F,c,dR.here P S (r H b)⟩;exact P.elim
 ·exact P.elim
def kG{h:Int->Int->V}{g:Int->Int->PV}(I:∀i j H b,RV X.K H b (g i j) (h i j)):gL X E (iw h) (gI fun i j=>some (g i j)):=by
 intro H b st p q u v Q S rp F P;unfold gI at P;split at P;rename_i i j;unfold RV at rp F;exact⟨i,j,rp,F,dR.here P S (I i j H b)⟩;exact P.elim
def Qz{K:KY}{H:Hp}{b:Bz}{i:Int}:RV K H b (.int i) (.int i):=by unfold RV;rfl
def ZE{K:KY}{H:Hp}{b:Bz}{i:Bool}:RV K H b (.bl i) (.bl i):=by unfold RV;rfl
def zp:=gI fun i j=>some (.int (i-j))
def YO:=gI fun i j=>if (-(2 ^ 64)<i∧i<2 ^ 64)∨(-(2 ^ 64)<j∧j<2 ^ 64) then some (.int (i*j)) else none
def qGy:=gI fun i j=>if 0<j∧j<1073741824 then some (.int (i/j)) else none
def qAO:=gI fun i j=>if 0<j then some (.int (i%j)) else none
def qJL:=gI fun i j=>if 0≤j∧j≤1000000∧i.natAbs<2 ^ 64 then some (.int (i ^ j.toNat)) else none
def Zx(F:VE X E a fa)(I:VE X E c fb):VE X E (.BinOp a .Sub c pos) (qN zp fa fb):=yG vN (kG fun _ _ _ _=>Qz) F I
def yh(F:VE X E a fa)(I:VE X E c fb):VE X E (.BinOp a .Mult c pos) (qN YO fa fb):=yG Hb (kh fun i j z e=>by
 split at e;rename_i h;cases e;exact⟨h,fun _ _=>Qz⟩;cases e) F I
def uR(F:VE X E a fa)(I:VE X E c fb):VE X E (.BinOp a .FloorDiv c pos) (qN qGy fa fb):=yG uw (kh fun i j z e=>by
 split at e;rename_i h;cases e;exact⟨h,fun _ _=>Qz⟩;cases e) F I
def JR(F:VE X E a fa)(I:VE X E c fb):VE X E (.BinOp a .Mod c pos) (qN qAO fa fb):=yG Gi (kh fun i j z e=>by
 split at e;rename_i h;cases e;exact⟨h,fun _ _=>Qz⟩;cases e) F I
def o0(F:VE X E a fa)(I:VE X E c fb):VE X E (.BinOp a .Pow c pos) (qN qJL fa fb):=yG EO (kh fun i j z e=>by
 split at e;rename_i h;cases e;exact⟨h,fun _ _=>Qz⟩;cases e) F I
def QK:=gI fun i j=>some (.int (i+j))
def QH(F:VE X E a fa)(I:VE X E c fb):VE X E (.BinOp a .Add c pos) (qN QK fa fb):=yG Gj (kG fun _ _ _ _=>Qz) F I
def ly:PV->PV->qC->Rs PV:=fun p q st=>match p,q with| .str x,.str y=>if x.length+y.length≤sizeLine then .ok (.str (x++y)) st else .no|_,_=>.no
def Hj(I:VE X E a fa)(M:VE X E c fb):VE X E (.BinOp a .Add c pos) (qN ly fa fb):=yG D4 (fun H b st p q u v Q S rp F P=>by
 unfold ly at P;split at P
 ·rename_i x y;unfold RV at rp F;split at P;rename_i h;exact⟨x,y,rp,F,h,dR.here P S (by unfold RV;rfl)⟩;exact P.elim
 ·exact P.elim) I M
def gLt:=gI fun i j=>some (.bl (decide (i<j)))
def gLe:=gI fun i j=>some (.bl (decide (i≤j)))
def GG:gL X E (iw fun i j=>.bl (decide (i<j))) gLt:=kG fun _ _ _ _=>ZE
def lZ:gL X E (iw fun i j=>.bl (decide (i≤j))) gLe:=kG fun _ _ _ _=>ZE
def ng(F:VE X E a fa)(I:VE X E c fb):VE X E (.Compare a [.LtE] [c] pos) (qN gLe fa fb):=Jj lH lZ F I
def sy(g g':PV->PV->qC->Rs PV)(fa fb fc:FE):FE:=fun r st=>(fa r st).bind fun p s1=>(fb r s1).bind fun q s2=>(g p q s2).bind fun z F=>match z with| .bl true=>(fc r F).bind fun w I=>g' q w I| .bl false=>.ok (.bl false) F|_=>.no
def Gz{op F:CmpOp}{t t':R2}{g g':PV->PV->qC->Rs PV}(ho:fS X (compareOp op) t)(M:fS X (compareOp F) t')(hg:gL X E t g)(O:gL X E t' g')(ha:VE X E a fa)(hb:VE X E c fb)(hc:VE X E d fc)
  (hm:lastMarks [op,F] [c,d]=false:=by with_unfolding_all rfl):VE X E (.Compare a [op,F] [c,d] pos) (sy g g' fa fb fc):=by
 refine PE.imp (Fn ho M ha hb hc hm) fun s H Q ⟨b,r,st,S,R,P⟩=>?_;refine⟨b,r,st,S,R,dR.bind P fun p s1 u H1 b1 U S1 r1 P1=>⟨b1,r,s1,S1,R.ext U,dR.bind P1 fun q s2 v H2 b2 Y S2 Z P2=>?_⟩⟩;refine hg H2 b2 s2 p q u v _ S2 (RV.ext Y p r1) Z (dR.bind P2 fun z s3 zv H3 b3 e3 S3 I P3=>?_);split at P3;unfold RV at I;refine⟨true,I,kZ ⟨b3,r,s3,S3,((R.ext U).ext Y).ext e3,dR.bind P3 fun w s4 wv H4 b4 e4 S4 r4 P4=>?_⟩⟩;exact O H4 b4 s4 q w v wv Q S4 (RV.ext e4 q (RV.ext e3 q Z)) r4 P4;unfold RV at I;exact⟨false,I,kN (dR.here P3 S3 ZE)⟩;exact P3.elim
def mB(st:qC):PV->KW Bool| .non=>some false| .bl x=>some x| .int i=>some (i != 0)| .tup l=>some (!l.isEmpty)| .lst l=>some (!l.isEmpty)| .ref i=>(gk st (.ref i)).map fun l=> !l.isEmpty|_=>none
def Ik{K:KY}{H:Hp}{b:Bz}{st:qC}{p:PV}{v:V}{k:Bool}(S:SR K H b st)(r:RV K H b p v)(h:mB st p=some k):kH K v H k:=by
 have F:∀{l:KQ PV} {xs:KQ V},dS K H b l xs->(!l.isEmpty)= !xs.isEmpty:=fun {l xs} q=>by
  have:=q.length
  cases l <;> cases xs <;> first|rfl|(simp at this)
 cases p with
 |non=>unfold RV at r;subst r;exact (Aj h).symm
 |bl x=>unfold RV at r;subst r;exact (Aj h).symm
 |int x=>unfold RV at r;subst r;exact (Aj h).symm
 |tup l=>unfold RV at r;obtain⟨a,xs,rfl,I,M⟩:=r;exact .inr (.inl ⟨xs,I.sq,by rw[←F M];exact (Aj h).symm⟩)
 |lst l=>obtain⟨a,xs,rfl,I,M⟩:=w6 S r rfl;exact .inl ⟨xs,I,by rw[←F M];exact (Aj h).symm⟩
 |ref i =>
  unfold mB at h;dsimp only at h;cases q:gk st (.ref i) with|none=>rw[q]at h;cases h|some l=>rw[q]at h;obtain⟨a,xs,rfl,I,M⟩:=w6 S r q;exact .inl ⟨xs,I,by rw[←F M];exact (Aj h).symm⟩
 |_=>cases h
def QI(f:FE):FT:=fun r st=>(f r st).bind fun p s=>match mB s p with|some k=>.ok k s|none=>.no
def uK{R:Bool->Hp->Prop}{s:L2.St}{H:Hp}(h:kM X.K E (QI f) s H R):rd X.K E f s H fun x H'=>∃k,kH X.K x H' k∧R k H':=by
 obtain⟨b,r,st,S,M,P⟩:=h;refine⟨b,r,st,S,M,dR.bindT P fun p s1 u H1 b1 U I O F=>?_⟩;split at F;rename_i k e;exact⟨k,Ik I O e,F H1 b1 (dY.refl _ _) I⟩;exact F.elim
def wF(h:VE X E e f)(he:∀F,isTrue e X.env F=(do let v ← F;standAt e.pos;holding [v] (truthy v)):=by intro _;rfl):VT X E e (QI f):=PT.imp (sQ h he) fun s H Q q=>uK q
def fF(f:FE):FT:=fun r st=>(f r st).bind fun p s=>match p with| .bl k=>.ok k s|_=>.no
def Hm{R:Bool->Hp->Prop}{s:L2.St}{H:Hp}(h:kM X.K E (fF f) s H R):rd X.K E f s H fun x H'=>∃k,x= .bl k∧R k H':=by
 obtain⟨b,r,st,S,M,P⟩:=h;refine⟨b,r,st,S,M,dR.bindT P fun p s1 u H1 b1 U O I F=>?_⟩;split at F;rename_i k;unfold RV at I;exact⟨k,I,F H1 b1 (dY.refl _ _) O⟩;exact F.elim
def wQ{op:CmpOp}{t:R2}{g:PV->PV->qC->Rs PV}(F:fS X (compareOp op) t)(I:gL X E t g)(M:VE X E a fa)(O:VE X E c fb)(R:behindInMarks op c=false:=by first|exact lr _|with_unfolding_all rfl):VT X E (.Compare a [op] [c] pos) (fF (qN g fa fb)) :=
 PT.imp (uF F M O R) fun s H Q q=>Ju I s H _ (Hm q)
def Qt(f:FT):FT:=fun r st=>(f r st).bind fun k s=>.ok (!k) s
def wM{f:FT}(h:VT X E a f):VT X E (.UnaryOp .Not a pos) (Qt f):=PT.imp (Gu h) fun s H Q ⟨b,r,st,S,R,P⟩=>⟨b,r,st,S,R,eU.bindT P fun k s1 H1 b1 M F I=>I H1 b1 (dY.refl _ _) F⟩
abbrev VW(X:Cx)(E:XK)(e:K2)(f:FT):Prop:=PW X e (kM X.K E f)
def PW.imp{X:Cx}{e:K2}{t t':TT}(h:PW X e t)(i:∀s H Q,t' s H Q->t s H Q):PW X e t':=fun w Kf s σ H Q I q=>h w Kf s σ H Q I (i _ _ _ q)
def ZV(f g:FT):FT:=fun r st=>(f r st).bind fun k s=>if k=true then .ok true s else g r s
def Z0{f:FT}(h:VT X E a f):VW X E (.BoolOp .Or [a] pos) f:=F5 h
def yA{f g:FT}{F:KQ K2}(h:VT X E a f)(O:VW X E (.BoolOp .Or (c::F) pos) g):VW X E (.BoolOp .Or (a::c::F) pos) (ZV f g):=PW.imp (IK h O) fun s H Q ⟨b,r,st,S,R,P⟩ =>
 ⟨b,r,st,S,R,eU.bindT P fun k s1 H1 b1 U I M=>by
  cases k with
  |true=>exact kZ (M H1 b1 (dY.refl _ _) I)
  |false=>exact kN ⟨b1,r,s1,I,R.ext U,M⟩⟩
def iM{f:FT}(h:VW X E e f):VT X E e f:=h.pt
def lM(f:FE):FE:=fun r st=>(f r st).bind fun p s=>match p with| .bl k=>.ok (.bl (!k)) s|_=>.no
def oE(h:VE X E a fa):VE X E (.UnaryOp .Not a pos) (lM fa):=PE.imp (Gk h) fun s H Q ⟨b,r,st,S,R,P⟩ =>
 ⟨b,r,st,S,R,dR.bind P fun p s1 u H1 b1 O M I F=>by
  split at F;rename_i k;unfold RV at I;exact⟨k,I,dR.here F M ZE⟩;exact F.elim⟩
def ZO(f g:FE):FE:=fun r st=>(f r st).bind fun p s=>match p with| .bl true=>g r s| .bl false=>.ok (.bl false) s|_=>.no
def ZI{op}(h:VE X E a fa):VE X E (.BoolOp op [a] pos) fa:=vQ h
def zN{F:KQ K2}(h:VE X E a fa)(U:VE X E (.BoolOp .And (c::F) pos) fb):VE X E (.BoolOp .And (a::c::F) pos) (ZO fa fb):=PE.imp (HQ h U) fun s H Q ⟨b,r,st,S,R,P⟩ =>
 ⟨b,r,st,S,R,dR.bind P fun p s1 u H1 b1 Y O I M=>by
  split at M;unfold RV at I;exact⟨true,I,kZ ⟨b1,r,s1,O,R.ext Y,M⟩⟩;unfold RV at I;exact⟨false,I,kN (dR.here M O ZE)⟩;exact M.elim⟩
def qD:FA:=fun _ st=>.ok [] st
def qA(f:FE)(g:FA):FA:=fun r st=>(f r st).bind fun p s=>(g r s).bind fun ps F=>.ok (p::ps) F
def qF:VA X E [] qD:=PA.imp JN fun s H Q ⟨b,r,st,S,R,P⟩=>P [] H b (dY.refl _ _) S dS.nil
def Q4{f:FE}{g:FA}(h:VE X E e f)(F:VA X E es g)(hs:starEach (e::es) X.env=(false,eval e X.env)::starEach es X.env:=by rfl):VA X E (e::es) (qA f g):=PA.imp (YS h F hs) fun s H Q ⟨b,r,st,S,R,P⟩ =>
 ⟨b,r,st,S,R,dR.bindA P fun p s1 u H1 b1 I M O U=>⟨b1,r,s1,M,R.ext I,eC.bindA U fun ps s2 us Y Z e2 S2 r2 P2=>P2 (u::us) Y Z (dY.refl _ _) S2 (dS.cons (RV.ext e2 p O) r2)⟩⟩
def qz(g:FA):FE:=fun r st=>(g r st).bind fun ps s=>if ps.length≤sizeLine then .ok (.tup ps) s else .no
def qb{g:FA}{x1}(h:VA X E es g):VE X E (.Tuple es x1 pos) (qz g):=PE.imp (Ea h) fun s H Q ⟨b,r,st,S,R,P⟩ =>
 ⟨b,r,st,S,R,eC.bind P fun ps s1 us H1 b1 Y M I F=>by
  split at F;rename_i O;exact⟨by rw[←I.length];exact O,fun p U=>dR.layT F M I U⟩;exact F.elim⟩
def wf(g:FA):FL:=fun r st=>(g r st).bind fun ps s=>if ps.length≤sizeLine then .ok ps s else .no
def eC.bindN{K:KY}{E:XK}{H:Hp}{b:Bz}{r:Rs (KQ PV)}{k:KQ PV->qC->Rs (KQ PV)}{Q:VK}{R:KQ V->Hp->Prop}(P:dX K E H b (r.bind k) Q)
  (h:∀p st v H1 b1,dY H b H1 b1->SR K H1 b1 st->dS K H1 b1 p v->dX K E H1 b1 (k p st) Q->R v H1):eC K E H b r R:=by
 cases r with|ok p st=>exact fun v H1 b1 e S r=>h p st v H1 b1 e S r (dX.ext (show dX K E H b (k p st) Q from P) e)|ex x st=>exact P|no=>exact P
def dR.bindN{K:KY}{E:XK}{H:Hp}{b:Bz}{r:Rs PV}{k:PV->qC->Rs (KQ PV)}{Q:VK}{R:VK}(P:dX K E H b (r.bind k) Q)
  (h:∀p st v H1 b1,dY H b H1 b1->SR K H1 b1 st->RV K H1 b1 p v->dX K E H1 b1 (k p st) Q->R v H1):dR K E H b r R:=by
 cases r with|ok p st=>exact fun v H1 b1 e S r=>h p st v H1 b1 e S r (dX.ext (show dX K E H b (k p st) Q from P) e)|ex x st=>exact P|no=>exact P
def Qi{g:FA}(h:VA X E es g):VN X E (.List es pos) (wf g):=PE.imp (Do h) fun s H Q ⟨b,r,st,S,R,P⟩ =>
 ⟨b,r,st,S,R,eC.bindN P fun ps s1 us H1 b1 Y M I F=>by
  split at F;rename_i O;exact⟨by rw[←I.length];exact O,fun p U=>dX.lay F M I U⟩;exact F.elim⟩
def Iy{K:KY}{H:Hp}{b:Bz}{l:KQ PV}{xs:KQ V}{i:Int}{p:PV}(r:dS K H b l xs)(h:atI l i=some p):∃x,atI xs i=some x∧RV K H b p x:=by
 unfold atI at h ⊢;rw[←r.length];cases q:ixN l.length i with|none=>rw[q]at h;cases h|some j=>rw[q]at h;exact r.get h
def eV:PV->PV->qC->Rs PV:=fun p q st=>match q with
 | .int i=>match ZB st p with
  |some l=>match atI l i with|some z=>.ok z st|none=>.no
  |none=>.no
 |_=>.no
def wH(U:VE X E a fa)(Y:VE X E c fb)(hs:px c:=by exact fun _ _=>rfl):VE X E (.Subscript a c pos) (qN eV fa fb):=PE.imp (tq G1 U Y hs) (Ju fun H b st p q u v Q S rp F P=>by
 unfold eV at P;split at P
 ·rename_i i;unfold RV at F;split at P
  ·rename_i l e;split at P
   ·rename_i z Z;obtain⟨I,xs,M,h2,h3⟩:=zi S rp e;obtain⟨x,O,R⟩:=Iy h3 Z;rcases h2 with h2|h2
    ·exact .inl ⟨I,xs,i,x,M,F,h2,O,dR.here P S R⟩
    ·exact .inr (.inl ⟨I,xs,i,x,M,F,h2,O,dR.here P S R⟩)
   ·exact P.elim
  ·exact P.elim
 ·exact P.elim)
def qK(g:KQ PV->qC->Rs PV)(t:FA):FE:=fun r st=>(t r st).bind fun ps s=>g ps s
def iR(K:KY)(n:Nat)(g:KQ PV->qC->Rs PV):Sp:=fun vs H Q E=>vs.length=n∧∃b ps st,SR K H b st∧dS K H b ps vs∧dR K E H b (g ps st) Q
def mz(X:Cx)(E:XK)(x:Str)(g:KQ PV->qC->Rs PV):Prop:=∀(p pos:Pos) (e:K2) (es:KQ K2) (t:FA),VA X E (e::es) t->starEach (e::es) X.env=(false,eval e X.env)::starEach es X.env->(backTo pos (starEach es X.env)).any (·.1)=false->VE X E (.Call (.Name x p) (e::es) [] pos) (qK g t)
def qV{x:Str}{g:KQ PV->qC->Rs PV}{t:FA}{p:Pos}(F:mz X E x g)(I:VA X E (e::es) t)(he:starEach (e::es) X.env=(false,eval e X.env)::starEach es X.env:=by rfl)(Ku:(backTo pos (starEach es X.env)).any (·.1)=false:=by rfl):VE X E (.Call (.Name x p) (e::es) [] pos) (qK g t):=F p pos e es t I he Ku
def Em{CX:CXT}{k n:Nat}{fa:KU}{fd:FuncData}{ps:KQ Str}{x:Str}{g:KQ PV->qC->Rs PV}(F:fZ X.prog X.w X.K X.mg X.base CX k fa fd ps (iR X.K ps.length g))(hr:eZ k X.A)(hg:Gl X x)(hm:X.mg x=some (.ref fa))(hk:W.keepIn X.K (.ref fa)=true)
  (hb:Binds X.K fd ps []) (hx:ZD CX X E) (I:∀l st,g l st≠ .no->l.length=ps.length) (M:(x==("__debug__":Str))=false:=by decide):mz X E x g:=fun p pos e es t ha he O =>
 PE.imp (Dm F hr hg hm hk hb .nil hx ha M he O) fun s H Q ⟨b,r,st,S,R,P⟩=>⟨b,r,st,S,R,eC.bind P fun l s1 us H1 b1 e1 S1 Z U=>by
  have Y:g l s1≠ .no:=fun z=>by rw[z]at U;exact U
  rw[BJ];exact⟨by rw[←Z.length];exact I l s1 Y,b1,l,s1,S1,Z,U⟩⟩
def ZC(X:Cx)(E:XK)(t:KQ V->Hp->VK->Prop)(g:KQ PV->qC->Rs PV):Prop :=
 ∀(H:Hp) (b:Bz) (st:qC) (ps:KQ PV) (vs:KQ V) (Q:VK),SR X.K H b st->dS X.K H b ps vs->dR X.K E H b (g ps st) Q->t vs H Q
def Wd{x:Str}{id:String}{t:KQ V->Hp->VK->Prop}{g:KQ PV->qC->Rs PV}{I:FA}{p:Pos}(M:Wi X (.builtin id) t)(O:ZC X E t g)(U:Gl X x)(Y:X.mg x=none)(Z:bootBuiltins x=some (.builtin id))(ha:VA X E (e::es) I)(hn:x ≠ "__name__" :=by decide)(F:(x==("__debug__":Str))=false:=by decide)
  (he:starEach (e::es) X.env=(false,eval e X.env)::starEach es X.env:=by rfl) (Ku:(backTo pos (starEach es X.env)).any (·.1)=false:=by rfl):VE X E (.Call (.Name x p) (e::es) [] pos) (qK g I) :=
 PE.imp (Ho M U Y Z ha hn F he Ku) fun s H Q ⟨b,r,st,S,R,P⟩=>⟨b,r,st,S,R,eC.bind P fun l s1 us H1 b1 e1 S1 r1 P1=>O H1 b1 s1 l us Q S1 r1 P1⟩
def jt{x:Str}{T:String}{t:KQ V->Hp->VK->Prop}{g:KQ PV->qC->Rs PV}{I:FA}{p:Pos}(M:Wi X (.type T) t)(O:ZC X E t g)(U:Gl X x)(Y:X.mg x=none)(Z:bootBuiltins x=some (.type T))(ha:VA X E (e::es) I)(hn:x ≠ "__name__" :=by decide)(F:(x==("__debug__":Str))=false:=by decide)
  (he:starEach (e::es) X.env=(false,eval e X.env)::starEach es X.env:=by rfl) (Ku:(backTo pos (starEach es X.env)).any (·.1)=false:=by rfl):VE X E (.Call (.Name x p) (e::es) [] pos) (qK g I) :=
 PE.imp (yg M U Y Z ha hn F he Ku) fun s H Q ⟨b,r,st,S,R,P⟩=>⟨b,r,st,S,R,eC.bind P fun l s1 us H1 b1 e1 S1 r1 P1=>O H1 b1 s1 l us Q S1 r1 P1⟩
def dS.one{K:KY}{H:Hp}{b:Bz}{p:PV}{vs:KQ V}(h:dS K H b [p] vs):∃v,vs=[v]∧RV K H b p v:=by unfold dS at h;obtain⟨x,r,rfl,I,F⟩:=h;unfold dS at F;subst F;exact⟨x,rfl,I⟩
def dS.two{K:KY}{H:Hp}{b:Bz}{p q:PV}{vs:KQ V}(h:dS K H b [p,q] vs):∃v w,vs=[v,w]∧RV K H b p v∧RV K H b q w:=by unfold dS at h;obtain⟨x,r,rfl,F,I⟩:=h;obtain⟨y,rfl,M⟩:=dS.one I;exact⟨x,y,rfl,F,M⟩
def ZF:KQ PV->qC->Rs PV:=fun ps st=>match ps with
 |[p]=>match ZB st p with|some l=>.ok (.int l.length) st|none=>.no
 |_=>.no
def Ga:ZC X E (fun xs H Q=>∃p F,xs=[.ref p]∧(fq X.K H p F∨fA X.K H p F)∧Q (.int F.length) H) ZF:=by
 intro H b st ps vs Q S r P;unfold ZF at P;split at P
 ·rename_i p;obtain⟨v,rfl,I⟩:=dS.one r;split at P;rename_i l e;obtain⟨a,xs,rfl,M,O⟩:=zi S I e;refine⟨a,xs,rfl,M,?_⟩;rw[←O.length];exact dR.here P S Qz;exact P.elim
 ·exact P.elim
def WO:KQ PV->qC->Rs PV:=fun ps st=>match ps with
 |[p]=>match ZB st p with|some l=>.ok (.tup l) st|none=>.no
 |_=>.no
def sM:ZC X E (fun xs H Q=>∃p O,xs=[.ref p]∧((fq X.K H p O∧∀l,H l=none->Q (.ref l) (dW H l (.tup O)))∨(fA X.K H p O∧Q (.ref p) H))) WO:=by
 intro H b st ps vs Q S r P;unfold WO at P;split at P
 ·rename_i p;obtain⟨v,rfl,F⟩:=dS.one r;split at P
  ·rename_i l e;cases p with|tup m=>have U:m=l:=Aj e;subst U;have Y:=F;unfold RV at F;obtain⟨a,xs,rfl,I,M⟩:=F;exact⟨a,xs,rfl,.inr ⟨I.sq,dR.here P S Y⟩⟩|lst m=>obtain⟨a,xs,rfl,I,M⟩:=w6 S F e;exact⟨a,xs,rfl,.inl ⟨I,fun p R=>dR.layT P S M R⟩⟩|ref i=>obtain⟨a,xs,rfl,I,M⟩:=w6 S F e;exact⟨a,xs,rfl,.inl ⟨I,fun p R=>dR.layT P S M R⟩⟩|_=>cases e
  ·exact P.elim
 ·exact P.elim
def qEd:KQ PV->qC->Rs PV:=fun ps st=>match ps with|[.int i]=>.ok (.int i) st|[.bl k]=>.ok (.int (if k then 1 else 0)) st|_=>.no
def Dk:ZC X E (fun xs H Q=>(∃i,xs=[.int i]∧Q (.int i) H)∨∃k,xs=[.bl k]∧Q (.int (if k then 1 else 0)) H) qEd:=by
 intro H b st ps vs Q S r P;unfold qEd at P;split at P;obtain⟨v,rfl,F⟩:=dS.one r;unfold RV at F;subst F;exact .inl ⟨_,rfl,dR.here P S Qz⟩;obtain⟨v,rfl,F⟩:=dS.one r;unfold RV at F;subst F;exact .inr ⟨_,rfl,dR.here P S Qz⟩;exact P.elim
def qD6:KQ PV->qC->Rs PV:=fun ps st=>match ps with|[.int i]=>.ok (.int (if i<0 then -i else i)) st|_=>.no
def F3:ZC X E (fun xs H Q=>∃i,xs=[.int i]∧Q (.int (if i<0 then -i else i)) H) qD6:=by
 intro H b st ps vs Q S r P;unfold qD6 at P;split at P;obtain⟨v,rfl,F⟩:=dS.one r;unfold RV at F;subst F;exact⟨_,rfl,dR.here P S Qz⟩;exact P.elim
def qEe:KQ PV->qC->Rs PV:=fun ps st=>match ps with|[.int i,.int j]=>.ok (.int (if j>i then j else i)) st|_=>.no
def qFT:KQ PV->qC->Rs PV:=fun ps st=>match ps with|[.int i,.int j]=>.ok (.int (if j<i then j else i)) st|_=>.no
def DR:ZC X E (fun xs H Q=>∃i j,xs=[.int i,.int j]∧Q (.int (if j>i then j else i)) H) qEe:=by
 intro H b st ps vs Q S r P;unfold qEe at P;split at P;obtain⟨v,w,rfl,F,I⟩:=dS.two r;unfold RV at F I;subst F;subst I;exact⟨_,_,rfl,dR.here P S Qz⟩;exact P.elim
def HX:ZC X E (fun xs H Q=>∃i j,xs=[.int i,.int j]∧Q (.int (if j<i then j else i)) H) qFT:=by
 intro H b st ps vs Q S r P;unfold qFT at P;split at P;obtain⟨v,w,rfl,F,I⟩:=dS.two r;unfold RV at F I;subst F;subst I;exact⟨_,_,rfl,dR.here P S Qz⟩;exact P.elim
def nD:PV->qC->Rs (KQ PV):=fun p st=>match ZB st p with|some l=>.ok l st|none=>.no
def jd(f:FE):FL:=fun r st=>(f r st).bind nD
def vM{p:Pos}(M:Gl X "list")(O:X.mg "list" = none)(U:bootBuiltins "list" = some (.type "list"))(Y:VE X E e f)
  (he:starEach [e] X.env=(false,eval e X.env)::starEach [] X.env:=by rfl) (Ku:(backTo pos (starEach [] X.env)).any (·.1)=false:=by rfl):VN X E (.Call (.Name "list" p) [e] [] pos) (jd f) :=
 PE.imp (yg Jq M O U (YS Y JN he) (he:=he) (Ku:=Ku)) fun s H Q ⟨b,r,st,S,R,P⟩=>⟨b,r,st,S,R,dR.bindN P fun q s1 u H1 b1 e1 I Z F=>by
  unfold nD at F;split at F;rename_i l el;obtain⟨a,xs,rfl,h2,h3⟩:=zi I Z el;exact⟨a,xs,rfl,h2,fun p hp=>dX.lay F I h3 hp⟩;exact F.elim⟩
end
def Qh:FS:=fun r st=>.nx r st
def qU(F G:FS):FS:=fun r st=>match F r st with| .nx M I=>G M I|o=>o
section
variable{X:Cx}{E:XK}{e a c d:K2}{es:KQ K2}{f fa fb fc:FE}{pos:Pos}{F G:FS}{s1:Stmt}{ss:KQ Stmt}
def QS:gK X E [] Qh:=gu.imp GR fun D s H ⟨b,r,st,S,R,P⟩=>P s H b (dY.refl _ _) S R
def dZ.seq{K:KY}{E:XK}{H:Hp}{b:Bz}{o:RS}{G:FS}{D:fR}(P:dZ K E H b (match o with | .nx r' Km=>G r' Km |o=>o) D):dZ K E H b o { D with nx:=kd K E G D }:=by
 cases o with|nx r st=>exact fun s H' b' e S R=>⟨b',r,st,S,R,dZ.ext (show dZ K E H b (G r st) D from P) e⟩|rt p st=>exact P|bk p st=>exact P|ct p st=>exact P|ex x st=>exact P|no=>exact P
def qO(I:VS X E s1 F)(M:gK X E ss G):gK X E (s1::ss) (qU F G):=gu.imp (xt I M) fun D s H ⟨b,r,st,S,R,P⟩=>⟨b,r,st,S,R,dZ.seq P⟩
def qT(I:VS X E s1 F):gK X E [s1] F:=Dg I
def zn(f:FE):FS:=fun r st=>(f r st).bindS fun _ s=>.nx r s
def Fa(h:VE X E e f)(hs:swapsWith e none pos.line X.env=pure false:=by rfl):VS X E (.Expr e pos) (zn f):=PS.imp (FK h hs) fun D s H ⟨b,r,st,S,R,P⟩ =>
 ⟨b,r,st,S,R,dR.bindS P fun p s1 u H1 b1 F I O M=>M s H1 b1 (dY.refl _ _) I (R.ext F)⟩
def qg(f:FE):FS:=fun r st=>(f r st).bindS fun p s=>.rt p s
def qc(h:VE X E e f):VS X E (.Return (some e) pos) (qg f):=PS.imp (ow h) fun D s H ⟨b,r,st,S,R,P⟩ =>
 ⟨b,r,st,S,R,dR.bindS P fun p s1 u H1 b1 O F I M=>M u H1 b1 (dY.refl _ _) F I⟩
def Yl(f:FL):FS:=fun r st=>(f r st).bindS fun l s=>.rt (.ref s.length) (s++[.l l])
def Q3(t:FT)(F G:FS):FS:=fun r st=>(t r st).bindS fun k s=>if k=true then F r s else G r s
def wa{t:FT}{bs cs:KQ Stmt}(U:VT X E e t)(Y:gK X E bs F)(Z:gK X E cs G):VS X E (.If e bs cs pos) (Q3 t F G):=PS.imp (Dn U Y Z) fun D s H ⟨b,r,st,S,R,P⟩ =>
 ⟨b,r,st,S,R,eU.bindS P fun k s1 H1 b1 I M O=>by
  cases k with
  |true=>exact kZ ⟨b1,r,s1,M,R.ext I,O⟩
  |false=>exact kN ⟨b1,r,s1,M,R.ext I,O⟩⟩
def qx(i:Nat)(f:FE):FS:=fun r st=>(f r st).bindS fun p s=>.nx (r.set i (some p)) s
def QR(i:Nat){x:Str}{F:Pos}(I:X.N.Nodup)(h:VE X E e f)(hi:X.N[i]? = some x:=by rfl)(M:Loc X.env.scope x:=by first|exact Or.inl rfl|exact Or.inr rfl)(hs:swapsWith e (some (.Name x F)) pos.line X.env=pure false:=by rfl)(O:X.fn x=true∨X.env.scope.names.lookup x=some .local:=by first|exact .inl rfl|exact .inr rfl|assumption) :
  VS X E (.Assign [.Name x F] e pos) (qx i f):=PS.imp (ES I hi M h hs O) fun D s H ⟨b,r,st,S,R,P⟩ =>
 ⟨b,r,st,S,R,dR.bindS P fun p s1 u H1 b1 U Y Z P1=>P1 _ H1 b1 (dY.refl _ _) Y ((R.ext U).set Z i)⟩
def dY.adopt{H H':Hp}{b b':Bz}{p:KU}(e:dY H b H' b')(F:H p=none):dY H b H' ⟨b'.b++[p],b'.z⟩:=by
 obtain⟨n,I,M⟩:=e.more;refine⟨⟨⟨n++[p],by rw[I,BY],fun a ha=>?_⟩,e.zm,e.keep,e.dom⟩,e.same,e.hid,e.fz⟩;rcases At.mp ha with ha|ha
 ·exact M a ha
 ·rw[Af.mp ha];exact F
def dX.bindS{K:KY}{E:XK}{H:Hp}{b:Bz}{r:Rs (KQ PV)}{k:PV->qC->RS}{D:fR}{R:VK}(P:dZ K E H b (r.bindS fun l s=>k (.ref s.length) (s++[.l l])) D)
  (h:∀q st v H1 b1,dY H b H1 b1->SR K H1 b1 st->RV K H1 b1 q v->dZ K E H1 b1 (k q st) D->R v H1):dX K E H b r R:=by
 cases r with|ok l st=>intro p xs H' b' e I M O S rs;have F:=e.adopt I;have U:b'.b.length=st.length:=S.len;refine h (.ref st.length) (st++[.l l]) (.ref p) H' ⟨b'.b++[p],b'.z⟩ F (S.slot (x:=.l l) O M ⟨xs,rfl,rs⟩) ?_ (dZ.ext (show dZ K E H b (k (.ref st.length) (st++[.l l])) D from P) F);unfold RV;exact⟨p,rfl,by show (b'.b++[p])[st.length]? = some p;rw[←U];simp⟩|ex x st=>exact P|no=>exact P
def mP{f:FL}(h:VN X E e f):VS X E (.Return (some e) pos) (Yl f):=PS.imp (ow h) fun D s H ⟨b,r,st,S,R,P⟩ =>
 ⟨b,r,st,S,R,dX.bindS (k:=fun q s=>.rt q s) P fun p s1 u H1 b1 O F I M=>M u H1 b1 (dY.refl _ _) F I⟩
abbrev FG:=PV->ql->KW ql
abbrev FGs:=KQ PV->ql->KW ql
def tP(K:KY)(g:FG):TG:=fun v s H Q=>∃b r p st,SR K H b st∧eD K H b r s∧RV K H b p v∧∃F,g p r=some F∧∀I,eD K H b F I->Q I H
def F7(K:KY)(g:FGs):TGs:=fun v s H Q=>∃b r p st,SR K H b st∧eD K H b r s∧dS K H b p v∧∃F,g p r=some F∧∀I,eD K H b F I->Q I H
abbrev VG(X:Cx)(e:K2)(g:FG):Prop:=PG X e (tP X.K g)
abbrev kQ(X:Cx)(e:KQ K2)(g:FGs):Prop:=ia X e (F7 X.K g)
def PG.imp{X:Cx}{e:K2}{t t':TG}(h:PG X e t)(i:∀v s H Q,t' v s H Q->t v s H Q):PG X e t':=fun Kf s σ H v u Q I r q=>h Kf s σ H v u Q I r (i _ _ _ _ q)
def ia.imp{X:Cx}{e:KQ K2}{t t':TGs}(h:ia X e t)(i:∀v s H Q,t' v s H Q->t v s H Q):ia X e t':=fun Kf s σ H v u Q I r q=>h Kf s σ H v u Q I r (i _ _ _ _ q)
def q9(i:Nat):FG:=fun p r=>some (r.set i (some p))
def qw(i:Nat){x:Str}(F:X.N.Nodup)(hi:X.N[i]? = some x:=by rfl)(I:Loc X.env.scope x:=by first|exact Or.inl rfl|exact Or.inr rfl)(M:X.fn x=true∨X.env.scope.names.lookup x=some .local:=by first|exact .inl rfl|exact .inr rfl|assumption):VG X (.Name x pos) (q9 i) :=
 PG.imp (xg F hi I M) fun v s H Q ⟨b,r,p,st,S,R,O,U,e,q⟩=>q _ (by cases e;exact R.set O i)
def Wg:FGs:=fun l r=>match l with|[]=>some r|_=>none
def qm(g:FG)(gs:FGs):FGs:=fun l r=>match l with
 |p::ps=>match g p r with|some F=>gs ps F|none=>none
 |[]=>none
def wk:kQ X [] Wg:=ia.imp HE fun v s H Q ⟨b,r,p,st,S,R,F,I,e,q⟩=>by
 cases p with|nil=>unfold dS at F;subst F;cases e;exact⟨rfl,q s R⟩|cons _ _=>cases e
def qj{g:FG}{gs:FGs}(O:VG X e g)(U:kQ X es gs)(hs:(assignEach (e::es) X.env).map (·.2)=assign e X.env::(assignEach es X.env).map (·.2):=by rfl):kQ X (e::es) (qm g gs) :=
 ia.imp (Hf O U hs) fun v s H Q ⟨b,r,p,st,S,R,I,Y,e,q⟩=>by
  cases p with
  |nil=>cases e
  |cons p ps =>
   unfold dS at I;obtain⟨x,Z,rfl,h3,h4⟩:=I;unfold qm at e;dsimp only at e;cases F:g p r with|none=>rw[F]at e;cases e|some M=>rw[F]at e;exact⟨x,Z,rfl,b,r,p,st,S,R,h3,M,F,fun s' R'=>⟨b,M,ps,st,S,R',h4,Y,e,q⟩⟩
def We(n:Nat)(gs:FGs):FG:=fun p r=>match p with| .tup l=>if l.length=n then gs l r else none|_=>none
def Wh{k:Nat}{n:Nat}{gs:FGs}(O:X.calm=true)(h:kQ X es gs)(U:(assignEach es X.env).length=n:=by rfl)(F:(assignEach es X.env).findIdx? (·.1)=none:=by rfl):VG X (.Tuple es k pos) (We n gs) :=
 PG.imp (vc O h U F) fun v s H Q ⟨b,r,p,st,S,R,I,Y,e,q⟩=>by
  unfold We at e;split at e
  ·rename_i l;split at e;rename_i Z;unfold RV at I;obtain⟨a,xs,rfl,h2,M⟩:=I;exact⟨a,xs,rfl,h2.sq,by rw[←M.length];exact Z,b,r,l,st,S,R,M,Y,e,q⟩;cases e
  ·cases e
def yx(f:FE)(g:FG):FS:=fun r st=>(f r st).bindS fun p s=>match g p r with|some F=>.nx F s|none=>.no
def jH{g:FG}(h:VE X E e f)(O:VG X d g)(hs:swapsWithSole [d] e pos.line X.env=pure false:=by rfl)(U:swappedStores [d] e X.env=pure none:=by rfl)
  (Y:(assignEach [d] X.env).map (·.2)=[assign d X.env]:=by rfl):VS X E (.Assign [d] e pos) (yx f g):=PS.imp (sk h O hs U Y) fun D s H ⟨b,r,st,S,R,P⟩ =>
 ⟨b,r,st,S,R,dR.bindS P fun p s1 u H1 b1 Z M r1 F=>by
  cases I:g p r with
  |none=>rw[I]at F;exact F.elim
  |some r'=>rw[I]at F;exact⟨b1,r,p,s1,M,R.ext Z,r1,r',I,fun s' R'=>F s' H1 b1 (dY.refl _ _) M R'⟩⟩
def kW(i j:Nat)(t:FA):FS:=fun r st=>(t r st).bindS fun l s=>match l with|[p,q]=>.nx ((r.set i (some p)).set j (some q)) s|_=>.no
def u0(i j:Nat){x y:Str}{t:FA}{I M pt:Pos}{O k2 F}(Z:X.calm=true)(hN:X.N.Nodup)(ha:VA X E [a,c] t)(hw:swappedStores [.Tuple [.Name x I,.Name y M] O pt] (.Tuple [a,c] k2 F) X.env=pure (some [x,y]):=by rfl)
  (hi:X.N[i]? = some x:=by rfl) (hj:X.N[j]? = some y:=by rfl) (U:i≠j:=by decide) (hx:X.env.scope.names.lookup x=some .local:=by rfl) (hy:X.env.scope.names.lookup y=some .local:=by rfl)
  (hs:swapsWithSole [.Tuple [.Name x I,.Name y M] O pt] (.Tuple [a,c] k2 F) pos.line X.env=pure false:=by rfl):VS X E (.Assign [.Tuple [.Name x I,.Name y M] O pt] (.Tuple [a,c] k2 F) pos) (kW i j t) :=
 PS.imp (HI Z hN hi hj U hx hy ha hw hs) fun D s H ⟨b,r,st,S,R,P⟩=>⟨b,r,st,S,R,eC.bindS P fun l s1 us H1 b1 e1 S1 r1 Y=>by
  split at Y;obtain⟨u,v,rfl,h1,h2⟩:=dS.two r1;exact⟨u,v,rfl,Y _ H1 b1 (dY.refl _ _) S1 (((R.ext e1).set h1 i).set h2 j)⟩;exact Y.elim⟩
def jr(st:qC)(o i v:PV):KW qC:=match o,i with
 | .ref n,.int k=>match st[n]? with
  |some (.l xs)=>match ixN xs.length k with|some j=>some (st.set n (.l (xs.set j v)))|none=>none
  |_=>none
 |_,_=>none
def lG(fo fi f:FE):FS:=fun r st=>(f r st).bindS fun p s1=>(fo r s1).bindS fun o s2=>(fi r s2).bindS fun i F=>match jr F o i p with|some I=>.nx r I|none=>.no
def tK{K:KY}{H:Hp}{b:Bz}{st Km:qC}{o i p:PV}{M O v:V}{Q:Hp->Prop}(S:SR K H b st)(R:RV K H b o M)(U:RV K H b i O)(rp:RV K H b p v)(e:jr st o i p=some Km)
  (q:∀H' b',dY H b H' b'->SR K H' b' Km->Q H'):qI7 M O v H Q:=by
 unfold jr at e;split at e
 ·rename_i n k;split at e
  ·rename_i xs e1;split at e
   ·rename_i j e2;cases e;unfold RV at R U;obtain⟨a,rfl,F⟩:=R;obtain⟨a',o',Y,I,vs,rfl,Z⟩:=S.at_ n _ e1;rw[F]at Y;cases Y;have hm:a∈b.b:=Ap F;refine⟨a,vs,k,j,rfl,U,I,by rw[←Z.length];exact e2,q _ b (dY.wr hm S.zb (oI I)) (S.wr (x:=.l (xs.set j p)) F ⟨_,rfl,?_⟩)⟩;have ew:dY H b (dW H a (.lst (vs.set j v))) b:=dY.wr hm S.zb (oI I);exact dS.set (RV.ext ew p rp) j (dS.ext ew xs Z)
   ·cases e
  ·cases e
 ·cases e
def Fj{fo fi:FE}{o i:K2}{F:Pos}(ho:VE X E o fo)(hi:VE X E i fi)(h:VE X E e f)
  (hs:swapsWithSole [.Subscript o i F] e pos.line X.env=pure false:=by rfl) (hw:swappedStores [.Subscript o i F] e X.env=pure none:=by rfl) (h1:(assignEach [.Subscript o i F] X.env).map (·.2)=[assign (.Subscript o i F) X.env]:=by rfl)
  (ha:∀v,assign (.Subscript o i F) X.env v=(do
   let I ← holding [v] (eval o X.env);let M ← holding [v,I] (eval i X.env)
   standAt F
   holding [v,I,M] (setItem I M v)
   release [v,I,M] []):=by intro _;rfl):VS X E (.Assign [.Subscript o i F] e pos) (lG fo fi f) :=
 PS.imp (sk h (GH ho hi uY ha) hs hw h1) fun D s H ⟨b,r,st,S,R,P⟩=>⟨b,r,st,S,R,dR.bindS P fun p s1 u H1 b1 O S1 r1 P1 =>
  ⟨b1,r,s1,S1,R.ext O,dR.bindS P1 fun o s2 ou H2 b2 U S2 r2 P2=>⟨b2,r,s2,S2,(R.ext O).ext U,dR.bindS P2 fun i s3 iu H3 b3 Y S3 r3 P3=>by
   split at P3;rename_i s4 e4;exact tK S3 (RV.ext Y o r2) r3 (RV.ext Y p (RV.ext U p r1)) e4 fun H' b' Z S'=>P3 s H' b' Z S' ((((R.ext O).ext U).ext Y).ext Z);exact P3.elim⟩⟩⟩
structure ItP where
 l:List PV
 G:qC->Prop
def Fz(H H':Hp):Prop:=∀a o u,H a=some (.frz o u)->H' a=some (.frz o u)
def ZA(K:KY)(H0:Hp)(M:Bz)(J:It)(w:ItP):Prop:=∀H1 b1 F,WE H0 M H1 b1->Fz H0 H1->SR K H1 b1 F->w.G F ->
 (∀(i:Nat) (p:PV),w.l[i]? = some p->J.go i H1∧∀x I,J.yld i H1 x I->gB H1 I∧SR K I b1 F∧RV K I b1 p x)∧∀i,w.l.length≤i->J.stop i H1
def fh(K:KY)(E:XK)(H:Hp)(b:Bz)(r:Rs ItP)(R:It->Hp->Prop):Prop:=match r with| .ok w st=>∀J H' b',dY H b H' b'->SR K H' b' st->ZA K H' b' J w->R J H'| .ex x st=>XP K E H b x st| .no=>False
abbrev FI:=ql->qC->Rs ItP
def GT(K:KY)(E:XK)(f:FI):TI:=fun s H R=>∃b r st,SR K H b st∧eD K H b r s∧fh K E H b (f r st) R
abbrev VI(X:Cx)(E:XK)(tg e:K2)(f:FI):Prop:=PI X tg e (GT X.K E f)
def fh.ext{K:KY}{E:XK}{H H1:Hp}{b b1:Bz}{r:Rs ItP}{R:It->Hp->Prop}(h:fh K E H b r R)(e:dY H b H1 b1):fh K E H1 b1 r R:=by
 cases r with|ok p st=>exact fun J H' b' F=>h J H' b' (e.trans F)|ex x st=>exact XP.ext h e|no=>exact h
def dR.bindI{K:KY}{E:XK}{H:Hp}{b:Bz}{r:Rs PV}{k:PV->qC->Rs ItP}{Q:It->Hp->Prop}{R:VK}(P:fh K E H b (r.bind k) Q)
  (h:∀p st v H1 b1,dY H b H1 b1->SR K H1 b1 st->RV K H1 b1 p v->fh K E H1 b1 (k p st) Q->R v H1):dR K E H b r R:=by
 cases r with|ok p st=>exact fun v H1 b1 e S r=>h p st v H1 b1 e S r (fh.ext (show fh K E H b (k p st) Q from P) e)|ex x st=>exact P|no=>exact P
def eC.bindI{K:KY}{E:XK}{H:Hp}{b:Bz}{r:Rs (KQ PV)}{k:KQ PV->qC->Rs ItP}{Q:It->Hp->Prop}{R:KQ V->Hp->Prop}(P:fh K E H b (r.bind k) Q)
  (h:∀p st v H1 b1,dY H b H1 b1->SR K H1 b1 st->dS K H1 b1 p v->fh K E H1 b1 (k p st) Q->R v H1):eC K E H b r R:=by
 cases r with|ok p st=>exact fun v H1 b1 e S r=>h p st v H1 b1 e S r (fh.ext (show fh K E H b (k p st) Q from P) e)|ex x st=>exact P|no=>exact P
def sr(p:PV)(st:qC):Rs ItP:=match p with
 | .ref i=>match gk st (.ref i) with|some l=>.ok ⟨l,fun s=>s[i]? = some (.l l)⟩ st|none=>.no
 |p=>match ZB st p with|some l=>.ok ⟨l,fun _=>True⟩ st|none=>.no
def qt(f:FE):FI:=fun r st=>(f r st).bind sr
def F0{l tg:K2}{U:TE}(Y:PE X l U):PI X tg l (fun σ H R=>U σ H fun x H1=>∃a,x= .ref a∧(((∃xs,fq X.K H1 a xs)∧R (l7 X.K a) H1)∨((∃xs,fA X.K H1 a xs)∧R (lF X.K a) H1))):=by
 intro Kf s σ H R I h;refine eE (Y Kf s σ H _ I h) fun v s1 ⟨x,H1,F,Z,q1⟩=>?_;obtain⟨a,e,q⟩:=q1;subst e;cases Z;rcases q with⟨⟨xs,M⟩,q⟩|⟨⟨xs,M⟩,q⟩
 ·obtain⟨Ki,rv,p,hz⟩:=F.list M;refine wpAny_pyIter_list p.isList ?_;refine⟨s1.heap.objs.size,[s1.heap.objs.size],_,_,H1,rfl,F.kept (t':=s1.toks) fun b o e=>AC _ e,F8 a _,⟨_,AR _ rfl,rfl,rfl⟩,fun b O=>?_,q⟩;have e:b=s1.heap.objs.size:=by simpa using O
  subst e;exact F.fpOk (AG _) (F.hok.fresh (AG _))
 ·obtain⟨Ki,rv,p,hz⟩:=F.tuple M;refine wpAny_pyIter_tuple (show s1.heap.IsTuple a Ki.toArray from p) ?_;refine⟨s1.heap.objs.size,[s1.heap.objs.size],_,_,H1,rfl,F.kept (t':=s1.toks) fun b o e=>AC _ e,FW a _,⟨_,AR _ rfl,rfl,rfl⟩,fun b O=>?_,q⟩;have e:b=s1.heap.objs.size:=by simpa using O
  subst e;exact F.fpOk (AG _) (F.hok.fresh (AG _))
def jm{K:KY}{H0:Hp}{M:Bz}{a:KU}{l:KQ PV}{G:qC->Prop}
  (h:∀H1 b1 F,WE H0 M H1 b1->SR K H1 b1 F->G F->∃xs,fq K H1 a xs∧dS K H1 b1 l xs):ZA K H0 M (l7 K a) ⟨l,G⟩:=by
 intro H1 b1 F e _ S g;obtain⟨xs,I,r⟩:=h H1 b1 F e S g;refine⟨fun i p R=>?_,fun i hi=>⟨xs,I,by rw[←r.length];exact hi⟩⟩;obtain⟨x,O,U⟩:=r.get R;exact⟨⟨xs,x,I,O⟩,fun y H2 ⟨Y,Z⟩=>by
  subst Y
  have:=Z xs I
  rw[O]at this;cases this;exact⟨gB.refl _,S,U⟩⟩
def GV{K:KY}{H0:Hp}{M:Bz}{a:KU}{l:KQ PV}{G:qC->Prop}
  (h:∀H1 b1 F,WE H0 M H1 b1->SR K H1 b1 F->G F->∃xs,fA K H1 a xs∧dS K H1 b1 l xs):ZA K H0 M (lF K a) ⟨l,G⟩:=by
 intro H1 b1 F e _ S g;obtain⟨xs,I,r⟩:=h H1 b1 F e S g;refine⟨fun i p R=>?_,fun i hi=>⟨xs,I,by rw[←r.length];exact hi⟩⟩;obtain⟨x,O,U⟩:=r.get R;exact⟨⟨xs,x,I,O⟩,fun y H2 ⟨Y,Z⟩=>by
  subst Y
  have:=Z xs I
  rw[O]at this;cases this;exact⟨gB.refl _,S,U⟩⟩
def wP{tg:K2}(h:VE X E e f):VI X E tg e (qt f):=fun Kf s σ H R I q=>F0 h Kf s σ H R I (by
 obtain⟨b,r,st,S,RE,P⟩:=q;refine⟨b,r,st,S,RE,dR.bindI P fun p s1 u H1 b1 e1 Z O F=>?_⟩;unfold sr at F;split at F
 ·rename_i i;split at F;rename_i l el;have r0:=O;unfold RV at O;obtain⟨a,rfl,ha⟩:=O;obtain⟨a',xs,M,hq,hr⟩:=w6 Z r0 el;cases M;refine⟨a,rfl,.inl ⟨⟨xs,hq⟩,F _ H1 b1 (dY.refl _ _) Z (jm fun H2 b2 U M S2 g2=>?_)⟩⟩;obtain⟨a0,o,k1,k2,vs,rfl,k4⟩:=S2.at_ i _ g2;rw[M.ix ha]at k1;cases k1;exact⟨vs,fq.of k2,k4⟩;exact F.elim
 ·split at F
  ·rename_i l el;cases p with|tup m=>have em:m=l:=Aj el;subst em;unfold RV at O;obtain⟨a,xs,rfl,Y,h3⟩:=O;exact⟨a,rfl,.inr ⟨⟨xs,Y.sq⟩,F _ H1 b1 (dY.refl _ _) Z (GV fun H2 b2 U M S2 _=>⟨xs,(Y.wext M).sq,dS.wext M m h3⟩)⟩⟩|lst m=>have em:m=l:=Aj el;subst em;unfold RV at O;obtain⟨a,xs,rfl,Y,h3⟩:=O;exact⟨a,rfl,.inl ⟨⟨xs,Y.sq⟩,F _ H1 b1 (dY.refl _ _) Z (jm fun H2 b2 U M S2 _=>⟨xs,(Y.wext M).sq,dS.wext M m h3⟩)⟩⟩|ref i=>rename_i hx;exact (hx i rfl).elim|_=>cases el
  ·exact F.elim)
def yf(lo hi:Int):KQ PV:=(List.range (hi-lo).toNat).map fun (i:Nat)=>PV.int (lo+(i:Int))
def j8(l:KQ PV)(st:qC):Rs ItP:=match l with|[.int j]=>if -(2 ^ 62)≤j∧j<2 ^ 62 then .ok ⟨yf 0 j,fun _=>True⟩ st else .no|_=>.no
def JC(l:KQ PV)(st:qC):Rs ItP:=match l with|[.int i,.int j]=>if -(2 ^ 62)≤i∧i<2 ^ 62∧ -(2 ^ 62)≤j∧j<2 ^ 62 then .ok ⟨yf i j,fun _=>True⟩ st else .no|_=>.no
def nN{K:KY}{H0:Hp}{O:Bz}{lo hi:Int}:ZA K H0 O (i5 lo (hi-lo).toNat) ⟨yf lo hi,fun _=>True⟩:=by
 intro H1 b1 R e _ S g;have M:(yf lo hi).length=(hi-lo).toNat:=by simp[yf]
 refine⟨fun i p I=>?_,fun i F=>by rw[show (ItP.mk (yf lo hi) fun _=>True).l.length=(hi-lo).toNat from M]at F;exact F⟩;have F:i<(hi-lo).toNat:=by
  have:=(AT.mp I).1
  rw[←M];exact this
 unfold yf at I;dsimp only at I;rw[Am,List.getElem?_range F]at I;cases I;exact⟨F,fun x Z ⟨U,Y⟩=>by subst U;subst Y;exact⟨gB.refl _,S,Qz⟩⟩
def Wj(t:FA):FI:=fun r st=>(t r st).bind j8
def ki(t:FA):FI:=fun r st=>(t r st).bind JC
def wC{tg:K2}{t:FA}{p:Pos}(U:Gl X "range")(Y:X.mg "range" = none)(Z:VA X E [a] t)(hs:starEach [a] X.env=[(false,eval a X.env)]:=by rfl):VI X E tg (.Call (.Name "range" p) [a] [] pos) (Wj t):=fun Kf s σ H R I q=>uU U Y Z hs Kf s σ H R I (by
 obtain⟨b,r,st,S,RE,P⟩:=q;refine⟨b,r,st,S,RE,eC.bindI P fun l s1 us H1 b1 e1 S1 r1 F=>?_⟩;unfold j8 at F;split at F
 ·obtain⟨u,rfl,M⟩:=dS.one r1;unfold RV at M;subst M;split at F
  ·rename_i j O;refine⟨j,rfl,O.1,O.2,?_⟩
   have:=F (i5 0 (j-0).toNat) H1 b1 (dY.refl _ _) S1 nN
   rw[Int.sub_zero]at this;exact this
  ·exact F.elim
 ·exact F.elim)
def De{tg:K2}{t:FA}{p:Pos}(Y:Gl X "range")(Z:X.mg "range" = none)(ha:VA X E [a,c] t)(hs:starEach [a,c] X.env=[(false,eval a X.env),(false,eval c X.env)]:=by rfl)(M:starEach [c] X.env=[(false,eval c X.env)]:=by rfl):VI X E tg (.Call (.Name "range" p) [a,c] [] pos) (ki t):=fun Kf s σ H R I q=>vF Y Z ha hs M Kf s σ H R I (by
 obtain⟨b,r,st,S,RE,P⟩:=q;refine⟨b,r,st,S,RE,eC.bindI P fun l s1 us H1 b1 e1 S1 r1 F=>?_⟩;unfold JC at F;split at F
 ·obtain⟨u,v,rfl,O,U⟩:=dS.two r1;unfold RV at O U;subst O;subst U;split at F;rename_i i j hj;exact⟨i,j,rfl,hj,F _ H1 b1 (dY.refl _ _) S1 nN⟩;exact F.elim
 ·exact F.elim)
def gu.unbare{X:Cx}{st:KQ Stmt}{t:TS}(h:gu X.nox st t){Kf:KQ (KU×Obj)}{s:KS}{σ:L2.St}{H:Hp}{D:fR}{E:KR->KS->Prop}(I:L2.Inv X Kf σ H s)(q:t D σ H):wpAny (model X.prog X.w) X.A (execs st X.env) (SP X Kf D) E s :=
 wpAny_noRaise (eE (h Kf s σ H D (I.wish _) q) fun f F hs=>hs.unwish)
def PG.unbare{X:Cx}{tg:K2}{t:TG}(h:PG X.nox tg t){Kf:KQ (KU×Obj)}{s:KS}{σ:L2.St}{H:Hp}{v:V}{u:KR}{Q:L2.St->Hp->Prop}{E:KR->KS->Prop}(I:L2.Inv X Kf σ H s)(r:RelV v u)(q:t v σ H Q):wpAny (model X.prog X.w) X.A (assign tg X.env u) (fun _ s'=>∃F H',L2.Inv X Kf F H' s'∧Q F H') E s :=
 wpAny_noRaise (eE (h Kf s σ H v u Q (I.wish _) r q) fun f s' ⟨F,H',M,O⟩=>⟨F,H',M.unwish,O⟩)
def sX{tg iter:K2}{Y:KQ Stmt}{wi:TI}{g:TG}{tb:TS}{pos:Pos}(hi:PI X tg iter wi)(hg:PG X.nox tg g)(F:gu X.nox Y tb)
  (hs:∀x,foldedSetIterable iter X.env x=pure x:=by intro _;rfl):PS X (.For tg iter Y [] pos) (xl wi g tb):=by
 intro Kf s σ H D I h;refine wpAny_For (eE (hi Kf s σ H _ I h) fun v s1 h1=>eE h1 fun a7 s2 h2=>?_) hs;obtain⟨it,fp,tn,J,H2,e,I2,T,a4,f2,W,⟨m0,w0⟩,a1⟩:=h2;subst e;have M:∀{H':Hp},(∀b∈fp,H' b=none)->∀b∈fp,zf X Kf H' b:=fun hn b F=>⟨hn b F,(f2 b F).2⟩;refine codeAny_forLoop_any (fun n s'=>∃i σ' H',L2.Inv X Kf σ' H' s'∧tn i s'.heap∧(∀b∈fp,H' b=none)∧W i n σ' H') ?_ m0 ⟨0,σ,H2,I2,a4,fun b F=>(f2 b F).1,w0⟩;rintro n s3 ⟨i,σ3,H3,I3,a2,a3,w3⟩;rcases a1 i n σ3 H3 w3 with⟨stop,qn⟩|⟨go,N,hN,step⟩
 ·refine eE (T.done X rfl rfl rfl rfl i Kf s3 σ3 H3 _ I3 (M a3) a2 stop) fun r s4 ⟨hr,I4⟩=>?_;subst hr;exact wpAny_execs_nil ⟨σ3,H3,I4,qn⟩
 ·refine eE (T.item X rfl rfl rfl rfl i Kf s3 σ3 H3 _ I3 (M a3) a2 go) fun r s4 ⟨u,hr,h4⟩=>?_;subst hr;refine eE h4 fun _ s5 ⟨x,H5,I5,r5,y5,a0,a5⟩=>?_;have a6:=I5.pinned (M a5) (T.obj _ _ a0);refine eE (PG.unbare hg a6 r5 (step x H5 y5)) fun _ s6 ⟨σ6,H6,I6,q6⟩=>?_;refine eE (gu.unbare F I6 q6) fun f s7 Z=>?_;have again:∀{O:L2.St} {R:Hp},L2.Inv X (Kf++zq fp s5.heap) O R s7->N O R->∃m,m<n∧∃i σ' H',L2.Inv X Kf σ' H' s7∧tn i s7.heap∧(∀b∈fp,H' b=none)∧W i m σ' H':=fun {O R} U n7=>by obtain⟨m',hm,w7⟩:=hN O R n7;refine⟨m',hm,i+1,O,R,U.unpinned,T.keep _ _ _ a0 fun b F o e=>(U.pin (b,o) (BO _ (BO _ (zl F e)))).1,fun b F=>?_,w7⟩;obtain⟨o,e,d⟩:=T.obj _ _ a0 b F;exact (U.pin (b,o) (BO _ (BO _ (zl F e)))).2.1
  cases f with|next=>obtain⟨O,R,U,n7⟩:=Z;exact again U n7|cont=>obtain⟨O,R,U,n7⟩:=Z;exact again U n7|brk=>obtain⟨O,R,U,Z⟩:=Z;exact⟨O,R,U.unpinned,Z⟩|ret v=>obtain⟨x7,O,R,U,r7,Z⟩:=Z;exact⟨x7,O,R,U.unpinned,r7,Z⟩
open Classical in
noncomputable def Qf(G:qC->Prop)(g:FG)(F:FS):KQ PV->ql->qC->RS
 |[],r,st=>if G st then .nx r st else .no
 |p::ps,r,st=>if G st then
   match g p r with
   |none=>.no
   |some M=>match F M st with| .nx I s2=>Qf G g F ps I s2| .ct I s2=>Qf G g F ps I s2| .bk I s2=>.nx I s2| .rt v s2=>.rt v s2| .ex _ _=>.no| .no=>.no
  else .no
noncomputable def WF(fi:FI)(g:FG)(F:FS):FS:=fun r st=>(fi r st).bindS fun w s=>Qf w.G g F w.l r s
def fh.bindS{K:KY}{E:XK}{H:Hp}{b:Bz}{r:Rs ItP}{k:ItP->qC->RS}{D:fR}{R:It->Hp->Prop}(P:dZ K E H b (r.bindS k) D)
  (h:∀w st J H1 b1,dY H b H1 b1->SR K H1 b1 st->ZA K H1 b1 J w->dZ K E H1 b1 (k w st) D->R J H1):fh K E H b r R:=by
 cases r with|ok p st=>exact fun J H1 b1 e S r=>h p st J H1 b1 e S r (dZ.ext (show dZ K E H b (k p st) D from P) e)|ex x st=>exact P|no=>exact P
def W8{tg iter:K2}{Y:KQ Stmt}{fi:FI}{g:FG}(hi:VI X E tg iter fi)(hg:VG X.nox tg g)(hb:gK X.nox E0 Y F)(hs:∀x,foldedSetIterable iter X.env x=pure x:=by intro _;rfl):VS X E (.For tg iter Y [] pos) (WF fi g F):=by
 refine PS.imp (sX hi hg hb hs) fun D s H ⟨b,r,st,S,R,P⟩=>?_;refine⟨b,r,st,S,R,fh.bindS P fun w a2 J H1 b1 e1 S1 it P1=>?_⟩;refine⟨fun i m σ' H'=>∃O r2 I,dY H1 b1 H' O∧SR X.K H' O I∧eD X.K H' O r2 σ'∧m=w.l.length+1-i∧i≤w.l.length∧dZ X.K E H' O (Qf w.G g F (w.l.drop i) r2 I) D,⟨w.l.length+1,b1,r,a2,dY.refl _ _,S1,R.ext e1,by omega,Au _,by simpa using P1⟩,?_⟩;rintro i m σ' H' ⟨O,r2,I,e2,S2,R2,hm,a4,M⟩;by_cases a0:i<w.l.length
 ·have hd:w.l.drop i=w.l[i]::w.l.drop (i+1):=List.drop_eq_getElem_cons a0;rw[hd]at M;unfold Qf at M;by_cases hG:w.G I
  ·rw[AE hG]at M;obtain⟨h1,h2⟩:=it H' O I e2.toWE e2.fz S2 hG;obtain⟨go,yl⟩:=h1 i w.l[i] (AJ a0);refine .inr ⟨go,fun σ3 Z=>∃b3 r3 U,dY H1 b1 Z b3∧SR X.K Z b3 U∧eD X.K Z b3 r3 σ3∧dZ X.K E Z b3 (Qf w.G g F (w.l.drop (i+1)) r3 U) D,?_,?_⟩
   ·rintro σ3 Z ⟨b3,r3,U,k1,k2,k3,k4⟩;exact⟨w.l.length+1-(i+1),by omega,b3,r3,U,k1,k2,k3,rfl,a0,k4⟩
   ·intro x Z hx;obtain⟨a3,S3,r3⟩:=yl x Z hx;have e3:dY H' O Z O:=dY.of_same a3;cases eg:g w.l[i] r2 with
    |none=>rw[eg]at M;exact M.elim
    |some r4 =>
     rw[eg]at M;refine⟨O,r2,w.l[i],I,S3,R2.ext e3,r3,r4,eg,fun s4 R4=>⟨O,r4,I,S3,R4,?_⟩⟩;have P3:=dZ.ext M e3;dsimp only at P3;have a1:=e2.trans e3;cases eF:F r4 I with|nx r5 s5=>rw[eF]at P3;exact fun s6 H6 b6 e6 S6 R6=>⟨b6,r5,s5,a1.trans e6,S6,R6,dZ.ext P3 e6⟩|ct r5 s5=>rw[eF]at P3;exact fun s6 H6 b6 e6 S6 R6=>⟨b6,r5,s5,a1.trans e6,S6,R6,dZ.ext P3 e6⟩|bk r5 s5=>rw[eF]at P3;exact P3|rt v s5=>rw[eF]at P3;exact P3|ex x s5=>rw[eF]at P3;exact P3.elim|no=>rw[eF]at P3;exact P3.elim
  ·rw[AD hG]at M;exact M.elim
 ·have hl:i=w.l.length:=by omega
  subst hl;rw[List.drop_length]at M;unfold Qf at M;by_cases hG:w.G I;rw[AE hG]at M;obtain⟨h1,h2⟩:=it H' O I e2.toWE e2.fz S2 hG;exact .inl ⟨h2 _ (AG _),M σ' H' O (dY.refl _ _) S2 R2⟩;rw[AD hG]at M;exact M.elim
end
def Qb{x n:Str}{a c:KU}{r:KQ (Str×KU)}(h:List.lookup x ((n,a)::r)=some c):(x=n∧a=c)∨(x≠n∧List.lookup x r=some c):=by
 rw[BB]at h;cases F:x==n with|true=>rw[F]at h;exact .inl ⟨Be.mp F,Aj h⟩|false=>rw[F]at h;exact .inr ⟨fun z=>(by rw[Be.mpr z]at F;cases F),h⟩
def Q8{x:Str}{c:KU}:∀{names:KQ (Str×NameKind)} {n:Nat} {Ks:KQ (Str×KU)},(cellsFrom n names Ks).lookup x=some c->(n≤c∧(x,NameKind.cell)∈names)∨Ks.lookup x=some c
 |[],_,_,h=>.inr h
 |(U,k)::r,n,Ks,h=>by
  unfold cellsFrom at h;split at h
  ·rename_i O;have F:k= .cell:=by simpa using O
   rcases Q8 h with⟨h1,I⟩|h1
   ·exact .inl ⟨Nat.le_of_succ_le h1,AH _ I⟩
   ·rcases Qb h1 with⟨R,M⟩|⟨_,M⟩
    ·exact .inl ⟨Nat.le_of_eq M,by rw[R,F];exact AI⟩
    ·exact .inr M
  ·rcases Q8 h with⟨h1,I⟩|h1
   ·exact .inl ⟨h1,AH _ I⟩
   ·exact .inr h1
def zJ{x:Str}{c:KU}{n0:Nat}:∀{names:KQ (Str×NameKind)} {n:Nat} {Ks:KQ (Str×KU)},n0≤n->((∃a,Ks.lookup x=some a∧n0≤a)∨(x,NameKind.cell)∈names)->(cellsFrom n names Ks).lookup x=some c->n0≤c
 |[],_,Ks,_,h,e=>by
  rcases h with⟨a,F,I⟩|h
  ·have:Ks.lookup x=some c:=e
   rw[F]at this;cases this;exact I
  ·exact absurd h (by simp)
 |(U,k)::r,n,Ks,M,h,e=>by
  unfold cellsFrom at e;split at e
  ·rename_i R;refine zJ (n:=n+1) (Nat.le_succ_of_le M) ?_ e;by_cases O:x=U;exact .inl ⟨n,by rw[BB,O,A1],M⟩
   ·rcases h with⟨a,F,I⟩|h
    ·exact .inl ⟨a,by rw[BB,CU O];exact F,I⟩
    ·rcases AK.mp h with q|q
     ·exact absurd (DC q).1 O
     ·exact .inr q
  ·rename_i R;refine zJ M ?_ e;rcases h with h|h
   ·exact .inl h
   ·rcases AK.mp h with q|q
    ·exact absurd (by rw[←(DC q).2];rfl) R
    ·exact .inr q
def zK{x y:Str}{c:KU}:∀{names:KQ (Str×NameKind)} {n:Nat} {Ks:KQ (Str×KU)},(∀z a,Ks.lookup z=some a->a<n)->(cellsFrom n names Ks).lookup x=some c->(cellsFrom n names Ks).lookup y=some c ->
  x=y∨(Ks.lookup x=some c∧Ks.lookup y=some c)
 |[],_,_,_,I,F=>.inr ⟨I,F⟩
 |(nm,k)::r,n,Ks,M,I,F=>by
  unfold cellsFrom at I F;split at I
  ·rename_i U;rw[AE U]at F;have Y:∀z a,List.lookup z ((nm,n)::Ks)=some a->a<n+1:=fun z a h=>by
    rcases Qb h with⟨_,e⟩|⟨_,e⟩
    ·rw[←e];exact Nat.lt_succ_self _
    ·exact BR (M z a e)
   rcases zK Y I F with e|⟨e1,e2⟩
   ·exact .inl e
   ·rcases Qb e1 with⟨Z,O⟩|⟨Z,O⟩ <;> rcases Qb e2 with⟨q1,R⟩|⟨q1,R⟩
    ·exact .inl (Z.trans q1.symm)
    ·exact absurd (M y c R) (by rw[←O];exact Bw _)
    ·exact absurd (M x c O) (by rw[←R];exact Bw _)
    ·exact .inr ⟨O,R⟩
  ·rename_i U;rw[AD U]at F;exact zK M I F
def WX{x:Str}:∀{names:KQ (Str×NameKind)} {n:Nat} {Ks:KQ (Str×KU)},((∃a,Ks.lookup x=some a)∨(x,NameKind.cell)∈names)->∃c,(cellsFrom n names Ks).lookup x=some c
 |[],_,_,h=>h.elim (fun h=>h) fun h=>absurd h (by simp)
 |(M,k)::r,n,Ks,h=>by
  unfold cellsFrom;split
  ·rename_i I;refine WX ?_;by_cases F:x=M;exact .inl ⟨n,by rw[BB,F,A1]⟩
   ·rcases h with⟨a,O⟩|h
    ·exact .inl ⟨a,by rw[BB,CU F];exact O⟩
    ·rcases AK.mp h with q|q
     ·exact absurd (DC q).1 F
     ·exact .inr q
  ·rename_i I;refine WX ?_;rcases h with h|h
   ·exact .inl h
   ·rcases AK.mp h with q|q
    ·exact absurd (by rw[←(DC q).2];rfl) I
    ·exact .inr q
def Wy{x:Str}{c:KU}:∀{names:KQ (Str×NameKind)} {h:Heap} {Ks:KQ (Str×KU)},(cellsFrom h.objs.size names Ks).lookup x=some c->(∃o,Ks.lookup x=some c∧o=())∨(pushCells h names).IsCell c none
 |[],_,_,e=>.inl ⟨(),e,rfl⟩
 |(M,k)::r,h,Ks,e=>by
  unfold cellsFrom at e;unfold pushCells;split at e
  ·rename_i F;rw[AE F];have O:(cellsFrom (h.push { cls:=.type "cell",data:=.cell none }).objs.size r ((M,h.objs.size)::Ks)).lookup x=some c:=by rw[B7];exact e
   rcases Wy O with⟨_,q,_⟩|q
   ·rcases Qb q with⟨_,I⟩|⟨_,I⟩
    ·subst I;exact .inr ⟨_,CV _ _ _ _ (AR _ rfl),rfl⟩
    ·exact .inl ⟨(),I,rfl⟩
   ·exact .inr q
  ·rename_i F;rw[AD F];exact Wy e
def gH(env:Env):KQ (Str×NameKind)->KQ (Str×KU)->KQ (Str×KU)|[],F=>F|(n,k)::r,F=>if k == .free then gH env r ((n,(env.cells.lookup n).getD 0)::F) else gH env r F
def mH{env:Env}(f:Str×NameKind->KQ (Str×KU)->Sem (ForInStep (KQ (Str×KU))))
  (I:∀n k Ks,f (n,k) Ks=if k == .free then (do let a ← cellOf env n;pure (.yield ((n,a)::Ks))) else pure (.yield Ks)) :
  ∀(names:KQ (Str×NameKind)) (Ks:KQ (Str×KU)),(∀x∈names,x.2= .free->∃c,env.cells.lookup x.1=some c)->forIn names Ks f=(pure (gH env names Ks):Sem _)
 |[],Ks,_=>by rw[List.forIn_nil];rfl
 |(n,k)::r,Ks,h=>by
  rw[List.forIn_cons,I];unfold gH;have M:=fun a=>mH f I r a fun x O=>h x (AH _ O);split
  ·rename_i R;have F:k= .free:=by simpa using R
   obtain⟨c,e⟩:=h (n,k) AI F;have U:cellOf env n=pure c:=by unfold cellOf;rw[show env.cells.lookup n=some c from e]
   rw[U];simp only[pure_bind];rw[M,show env.cells.lookup n=some c from e];rfl
  ·simp only[pure_bind];exact M Ks
def zt{scope:Scope}{env:Env}(h:∀x∈scope.names,x.2= .free->∃c,env.cells.lookup x.1=some c):closureFor scope env=pure (gH env scope.names []):=by
 unfold closureFor;dsimp only;rw[mH _ (fun n k F=>by cases I:k==NameKind.free <;> simp[I]) _ _ h];rfl
def jA{env:Env}{x:Str}{c:KU}:∀{names:KQ (Str×NameKind)} {Ks:KQ (Str×KU)},(∀y∈names,y.2= .free->∃c,env.cells.lookup y.1=some c)->(gH env names Ks).lookup x=some c->env.cells.lookup x=some c∨Ks.lookup x=some c
 |[],_,_,e=>.inr e
 |(n,k)::r,Ks,h,e=>by
  unfold gH at e;have h':=fun y O=>h y (AH _ O);split at e
  ·rename_i R;have I:k= .free:=by simpa using R
   obtain⟨a,M⟩:=h (n,k) AI I;rcases jA h' e with q|q
   ·exact .inl q
   ·rcases Qb q with⟨U,F⟩|⟨_,F⟩
    ·rw[show env.cells.lookup n=some a from M]at F;exact .inl (by rw[U,show env.cells.lookup n=some a from M];exact CK some F)
    ·exact .inr F
  ·exact jA h' e
def YV{env:Env}{x:Str}:∀{names:KQ (Str×NameKind)} {Ks:KQ (Str×KU)},((x,NameKind.free)∈names∨∃a,Ks.lookup x=some a)->∃c,(gH env names Ks).lookup x=some c
 |[],_,h=>h.elim (fun h=>absurd h (by simp)) fun h=>h
 |(n,k)::r,Ks,h=>by
  unfold gH;split
  ·refine YV ?_;by_cases F:x=n;exact .inr ⟨_,by rw[BB,F,A1]⟩
   ·rcases h with h|⟨a,h⟩
    ·rcases AK.mp h with q|q
     ·exact absurd (DC q).1 F
     ·exact .inl q
    ·exact .inr ⟨a,by rw[BB,CU F];exact h⟩
  ·rename_i I;refine YV ?_;rcases h with h|h
   ·rcases AK.mp h with q|q
    ·exact absurd (by rw[←(DC q).2];rfl) I
    ·exact .inl q
   ·exact .inr h
def Iw(X:Cx)(scope:Scope)(C:KU):Env :=
 { scope:=relabel scope X.env,locals:=C,globals:=X.env.globals,cells:=cellsFrom (C+1) scope.names (gH X.env scope.names []),qual:=X.env.qual,func:=none,code:=X.env.code,frame:=X.env.frame,builtins:=X.env.builtins }
def fN(X:Cx)(scope:Scope)(N:KQ Str)(s:KS)(H:Hp)(fp:KQ KU)(pn:KQ (KU×Obj)):Cx where
 prog:=X.prog
 w:=X.w
 K:=X.K
 mg:=X.mg
 base:=X.base
 A:=X.A
 N:=N
 s₀:=s
 H₀:=H
 env:=Iw X scope s.heap.objs.size
 outer:=X.stack
 stack:=X.stack
 ex:=fp
 fn:=fun x=>scope.names.lookup x==some .cell
 calm:=X.calm
 pn:=pn
 xe:=fun _ _=>False
structure ik (X:Cx) (scope:Scope) (Kn Kl:List Str) (Kk:List Nat):Prop where
 kind:scope.kind= .function
 nd:(scope.names.map (·.1)).Nodup
 fr:∀x∈scope.names,x.2= .free->(X.env.kindOf x.1=some .cell∨X.env.kindOf x.1=some .free)
 len:Kn.length=Kk.length
 cap:∀(i:Nat) (x:Str) (j:Nat),Kn[i]? = some x->Kk[i]? = some j->X.N[j]? = some x∧(x,NameKind.free)∈scope.names
def wl{x:Str}{k:NameKind}:∀{names:KQ (Str×NameKind)},(names.map (·.1)).Nodup->(x,k)∈names->names.lookup x=some k
 |(n,I)::r,nd,h=>by
  rw[AM,Bd]at nd;rw[BB];rcases AK.mp h with q|q
  ·obtain⟨rfl,rfl⟩:=DC q;rw[A1]
  ·have F:x≠n:=fun z=>nd.1 (by rw[←z];exact AZ.mpr ⟨(x,k),q,rfl⟩);rw[CU F];exact wl nd.2 q
def w5{env:Env}{x:Str}:∀{names:KQ (Str×NameKind)},
  (names.map fun (n,k)=>if (k==NameKind.free&&env.scope.kind == .function&&env.kindOf n==some .cell) then (n,NameKind.cell) else (n,k)).lookup x=(names.lookup x).map fun k=>if (k==NameKind.free&&env.scope.kind == .function&&env.kindOf x==some .cell) then NameKind.cell else k
 |[]=>rfl
 |(n,k)::r=>by
  rw[AM,BB];show List.lookup x ((if (k==NameKind.free&&env.scope.kind == .function&&env.kindOf n==some .cell)=true then (n,NameKind.cell) else (n,k))::_)=_;cases I:x==n with
  |true =>
   have M:x=n:=Be.mp I;subst M;by_cases F:(k==NameKind.free&&env.scope.kind == .function&&env.kindOf x==some .cell)=true;rw[AE F];simp only[BB,A1,Option.map_some];rw[AE F];rw[AD F];simp only[BB,A1,Option.map_some];rw[AD F]
  |false =>
   by_cases F:(k==NameKind.free&&env.scope.kind == .function&&env.kindOf n==some .cell)=true;rw[AE F];simp only[BB,I];exact w5;rw[AD F];simp only[BB,I];exact w5
def zj{X:Cx}{scope:Scope}{Kn Kl:KQ Str}{Kk:KQ Nat}(cs:ik X scope Kn Kl Kk){Kf:KQ (KU×Obj)}{σ:L2.St}{H:Hp}{s s4:KS}{fp:KQ KU}(I:L2.Inv X Kf σ H s)(hf:∀b∈fp,zf X Kf H b)(a0:∀b∈fp,b<s.heap.objs.size)
  (h4:s4={ s with heap:=pushCells (s.heap.push { cls:=.type "dict",data:=.dict #[] }) scope.names }) :
  L2.Inv (fN X scope (Kn++Kl) s H fp (X.pn++Kf)) [] ((Kk.map fun j=>(σ[j]?).join)++List.replicate Kl.length none) H s4:=by
 have Z:∀x∈scope.names,x.2= .free->∃c,X.env.cells.lookup x.1=some c:=fun x hx Y=>I.ok.has x.1 (cs.fr x hx Y);have keep:∀b o,s.heap.get? b=some o->s4.heap.get? b=some o:=fun b o e=>by subst h4;exact CV _ _ _ _ (AC _ e)
 have F:∀x c,(gH X.env scope.names []).lookup x=some c->X.env.cells.lookup x=some c:=fun x c e=>(jA Z e).elim (fun q=>q) fun q=>by cases q
 have kn:∀x c,(gH X.env scope.names []).lookup x=some c->c<s.heap.objs.size:=fun x c e=>by obtain⟨v,q⟩:=I.cell x c (F x c e);exact q.lt
 have O:∀x c,(cellsFrom (s.heap.objs.size+1) scope.names (gH X.env scope.names [])).lookup x=some c->(s.heap.objs.size+1≤c)∨(c<s.heap.objs.size∧X.env.cells.lookup x=some c):=fun x c e=>by
  rcases Q8 e with⟨q,_⟩|q
  ·exact .inl q
  ·exact .inr ⟨kn x c q,F x c q⟩
 have a3:∀x,(X.env.kindOf x=some .cell∨X.env.kindOf x=some .free)->True:=fun _ _=>trivial;refine⟨⟨I.ok.mod,cs.kind,I.ok.glob,I.ok.blt,AG _,fun x y c h1 h2=>?_,fun x hx=>?_,fun x c hx e=>?_,I.ok.hd,I.ok.frames,.inl rfl,fun b hb=>⟨Aa (a0 b hb),fun x c e=>?_⟩,fun b o e=>I.bs b o e,Ab I.ok.bsz I.sz,fun b o e hb=>?_,fun b hb hm=>?_,I.stack,I.stkFree⟩,
  by subst h4;rfl,by subst h4;exact I.bare,Un.kept keep,?_,fun x c e=>?_,I.hok.fresh (AG _),fun x c e=>?_,fun p hp=>?_,I.hok.kept keep,?_,I.hnd⟩
 ·rcases zK (fun z a e=>BR (kn z a e)) h1 h2 with e|⟨e1,U⟩
  ·exact e
  ·exact I.ok.inj x y c (F x c e1) (F y c U)
 ·refine WX ?_;have M:(relabel scope X.env).names.lookup x=some .cell∨(relabel scope X.env).names.lookup x=some .free:=hx;have e:(relabel scope X.env).names.lookup x=(scope.names.lookup x).map fun k=>if (k==NameKind.free&&X.env.scope.kind == .function&&X.env.kindOf x==some .cell) then NameKind.cell else k:=w5;rw[e]at M;cases q:scope.names.lookup x with
  |none=>rw[q]at M;rcases M with z|z <;> cases z
  |some k =>
   rw[q]at M;have hm:=B4 q;by_cases Y:k= .free;subst Y;exact .inl (YV (.inl hm))
   ·have a4:(k==NameKind.free)=false:=by simpa using Y
    simp only[Option.map_some,a4,Ci,A4,BQ]at M;rcases M with z|z
    ·cases z;exact .inr hm
    ·cases z;exact absurd rfl Y
 ·have M:scope.names.lookup x=some .cell:=by simpa[fN] using hx
  exact Nat.le_of_succ_le (zJ (n0:=s.heap.objs.size+1) (AG _) (.inr (B4 M)) e)
 ·rcases O x c e with q|⟨q,q'⟩
  ·exact fun z=>by rw[z]at q;exact absurd (a0 b hb) (Nat.not_lt.mpr (Nat.le_of_succ_le q))
  ·exact (hf b hb).2.2.2.2.1 x c q'
 ·obtain⟨_,_,_,h3,_⟩:=hf b hb;rcases h3 with q|q
  ·exact I.ok.noex b o e q
  ·exact absurd (AL e) (Nat.not_lt.mpr (Ab I.ok.bsz q))
 ·obtain⟨_,h1,h2,_⟩:=hf b hb;exact (AK.mp (I.stkSub b hm)).elim h1 h2
 ·refine⟨fun _=>none,?_,fun i x v e1 U e3=>?_⟩;subst h4;exact (Heap.Ns.new s.heap (.type "dict")).keeps (CV _ _)
  ·have hi:i<Kk.length:=by
    by_cases hi:i<Kk.length;exact hi
    ·rw[BA (by simpa using hi),CJ]at U;split at U <;> cases U
   rw[An (by simpa using hi),Am]at U;have a1:(Kn++Kl)[i]? = some x:=e1;rw[An (by rw[cs.len];exact hi)]at a1;cases ej:Kk[i]? with
   |none=>rw[ej]at U;cases U
   |some j =>
    rw[ej]at U;obtain⟨k1,k2⟩:=cs.cap i x j a1 ej;have a5:σ[j]? = some (some v):=by
     have R:(σ[j]?).join=some v:=Aj U;cases q:σ[j]? with|none=>rw[q]at R;cases R|some o=>rw[q]at R;exact CK some R
    have Y:=cs.fr _ k2 rfl;obtain⟨m,hn,hl⟩:=I.loc;obtain⟨u,ru,lu⟩:=hl j x v k1 a5 (Y.elim (fun z=>.inr (.inl z)) fun z=>.inr (.inr z));refine⟨u,ru,.inr ?_⟩;have hc:∃c,X.env.cells.lookup x=some c∧s.heap.IsCell c (some u):=by
     rcases lu with⟨z,_⟩|⟨_,z⟩
     ·rcases Y with y|y <;> · rw[z]at y;cases y
     ·exact z
    obtain⟨c,c1,c2⟩:=hc;obtain⟨c',e'⟩:=YV (env:=X.env) (Ks:=[]) (.inl k2);have U:=F x c' e';rw[c1]at U;cases U;have a2:scope.names.lookup x=some .free:=wl cs.nd k2;refine⟨?_,c,?_,c2.keeps keep⟩
    ·show (relabel scope X.env).names.lookup x=some .cell∨(relabel scope X.env).names.lookup x=some .free;have e:(relabel scope X.env).names.lookup x=(scope.names.lookup x).map fun k=>if (k==NameKind.free&&X.env.scope.kind == .function&&X.env.kindOf x==some .cell) then NameKind.cell else k:=w5;rw[e,a2];simp only[Option.map_some];split;exact .inl rfl;exact .inr rfl
    ·obtain⟨d,hd⟩:=WX (names:=scope.names) (n:=s.heap.objs.size+1) (Ks:=gH X.env scope.names []) (x:=x) (.inl ⟨c,e'⟩);rcases Q8 hd with⟨q,q'⟩|q
     ·have:=wl cs.nd q'
      rw[a2]at this;cases this
     ·rw[e']at q;cases q;exact hd
 ·rcases Q8 e with⟨q,_⟩|q
  ·have e':(cellsFrom (s.heap.push { cls:=.type "dict",data:=.dict #[] }).objs.size scope.names (gH X.env scope.names [])).lookup x=some c:=by rw[B7];exact e
   rcases Wy e' with⟨_,z,_⟩|z
   ·obtain⟨v,y⟩:=I.cell x c (F x c z);exact⟨v,y.keeps keep⟩
   ·subst h4;exact⟨none,z⟩
  ·obtain⟨v,y⟩:=I.cell x c (F x c q);exact⟨v,y.keeps keep⟩
 ·rcases O x c e with q|⟨q,q'⟩
  ·exact I.hok.fresh (Nat.le_of_succ_le q)
  ·exact I.freeC x c q'
 ·have a6:p∈X.pn++Kf:=by simpa[fN] using hp
  obtain⟨k1,k2,k3,k4,k5⟩:=I.pin p a6;exact⟨keep _ _ k1,k2,Aa (AL k1),fun z=>(AK.mp (I.stkSub p.1 z)).elim k3 k4,k5⟩
 ·show ((Kk.map fun j=>(σ[j]?).join)++List.replicate Kl.length none).length=(Kn++Kl).length;rw[Ac,AF,List.length_replicate,Ac,cs.len]
def yF{X:Cx}{scope:Scope}{N:KQ Str}{Kf:KQ (KU×Obj)}{σ σ':L2.St}{H H':Hp}{s s':KS}{F:Heap}{fp:KQ KU}(I:L2.Inv X Kf σ H s)(hf:∀b∈fp,zf X Kf H b)
  (J:L2.Inv (fN X scope N s H fp (X.pn++Kf)) [] σ' H' s') (R:Heap.SameBut s.heap.objs.size s'.heap F):L2.Inv X Kf σ H' { s' with heap:=F }:=by
 have U:s'.os=s.os:=J.os;have Y:∀b o,s.heap.get? b=some o->b≠s.heap.objs.size:=fun b o e=>Aa (AL e);have u:Un (fE X.stack) fp H H' s.heap F:=by have M:=J.base;exact⟨fun b o e n Z O=>R.extBut b o (Y b o e) (M.keep b o e n Z O),fun b o e n Z O=>(M.slot b o e n Z O).elim fun sl q=>⟨sl,R.extBut b _ (Y b o e) q⟩,M.free,fun b o e O=>(M.there b o e O).elim fun o' q=>⟨o',R.extBut b o' (Y b o e) q⟩,M.tups,M.frzs,M.tbls⟩
 have hok:fP X.prog X.w H' F:=fun a o e=>by
  refine (J.hok a o e).stay (fun b v hb q=>R.extBut b v ?_ q) (fun _ q=>q) fun _ _ q=>q;have hn:H' s.heap.objs.size=none:=J.free;rcases hb with z|z
  ·rw[z];exact qL e hn
  ·exact qL z hn
 obtain⟨hh,g,d,t,a0⟩:=s';obtain rfl:a0=s.os:=U;have a1:=L2.Inv.call (s:=s) (h':=F) (g':=g) (d':=d) (t':=t) (ch:=fp) I u hok J.bare fun b hb=>by obtain⟨k0,k1,k2,k3,k4,k5⟩:=hf b hb;exact⟨k3,k1,k4,k5⟩
 exact a1
def jU{F:K2}{gens:KQ Comprehension}{scope:Scope}{pos:Pos}{d:Nat}{it Ks:KR}{env:Env}{g:Comprehension}(I:gens[d]? = some g)(M:g.is_async=0)(O:gens[d+1]? = none) :
  compTurn (.ListComp F gens scope pos) d it Ks env=(standAt g.iter.pos >>= fun _=>pyNext it >>= fun r=>match r with
   |none=>pure (.done .next)
   |some v=>letOwnedTupleGo g.target it v >>= fun _=>assign g.target env v >>= fun _ =>
    (forIn g.ifs true fun c r=>if r=true then do let ok ← isTrue c env (eval c env);pure (ForInStep.yield ok) else pure (ForInStep.yield r)) >>= fun ok =>
    if ok=true then (eval F env >>= fun x=>call (.builtin "list.append") [Ks,x] >>= fun _=>pure ()) >>= fun _=>again (.compLoop (.ListComp F gens scope pos) d it Ks env)
    else again (.compLoop (.ListComp F gens scope pos) d it Ks env)):=by unfold compTurn;dsimp only;rw[I];dsimp only;rw[O,M];rfl
def jS{F:K2}{gens:KQ Comprehension}{scope:Scope}{pos:Pos}{d:Nat}{it Ks:KR}{env:Env}{g g':Comprehension}(O:gens[d]? = some g)(R:g.is_async=0)(U:gens[d+1]? = some g')(I:g'.is_async=0) :
  compTurn (.ListComp F gens scope pos) d it Ks env=(standAt g.iter.pos >>= fun _=>pyNext it >>= fun r=>match r with
   |none=>pure (.done .next)
   |some v=>letOwnedTupleGo g.target it v >>= fun _=>assign g.target env v >>= fun _ =>
    (forIn g.ifs true fun c r=>if r=true then do let ok ← isTrue c env (eval c env);pure (ForInStep.yield ok) else pure (ForInStep.yield r)) >>= fun ok =>
    if ok=true then (eval g'.iter env >>= fun x=>standAt g'.iter.pos >>= fun _=>foldedSetIterable g'.iter env x >>= fun x=>holding [x] (pyIter x) >>= fun M=>runOwn (.compStart (.ListComp F gens scope pos) (d+1) M Ks env) env >>= fun _=>again (.compLoop (.ListComp F gens scope pos) d it Ks env))
    else again (.compLoop (.ListComp F gens scope pos) d it Ks env)):=by unfold compTurn;dsimp only;rw[O];dsimp only;rw[U,R];dsimp only;rw[I];rfl
def w4{prog:KZ}{w:K0}{A:K1}{R:Result->KS->Prop}{s:KS}{F:K2}{gens:KQ Comprehension}{scope:Scope}{pos:Pos}{d:Nat}{it Ks:KR}{env:Env}{g:Comprehension}(M:gens[d]? = some g)(O:g.is_async=0)
  (U:codeAny (model prog w) A (.compLoop (.ListComp F gens scope pos) d it Ks env) R s)
  (h:wpAny (model prog w) A (pyIter it) (fun I s'=>codeAny (model prog w) A (.compLoop (.ListComp F gens scope pos) d I Ks env) R s') (notedBy (model prog w) A env fun x s'=>R (.error x) s') s) :
  codeAny (model prog w) A (.compStart (.ListComp F gens scope pos) d it Ks env) R s:=by
 refine codeAny_of_tree ?_;show wpAny _ _ ((compStart (.ListComp F gens scope pos) d it Ks env).onRaise (fun x=>do noteFrame x env;standAt theWindowsPlace)) _ _ s;refine wpAny_notedAt ?_;unfold compStart;have Y:(clausesOf (.ListComp F gens scope pos))[d]? = some g:=M;rw[Y];simp only[Option.elim_some,O];refine AA (Cm (wpAny_ite ?_));split;exact AA (AB (AB (And.intro rfl U)));exact AA (Cu (AA (Cb (AA (Bc h (fun I s' h'=>AB (And.intro rfl h')) fun _ _ x=>x)))))
structure fw where
 fi:FI
 g:FG
 ts:List FT
def wn:KQ FT->FT|[],_,st=>.ok true st|t::ts,r,st=>(t r st).bind fun k s=>if k=true then wn ts r s else .ok false s
open Classical in
noncomputable def qq(G:qC->Prop)(k:PV->qC->Rs (KQ PV)):KQ PV->qC->Rs (KQ PV)|[],st=>if G st then .ok [] st else .no|p::ps,st=>if G st then (k p st).bind fun l s=>(qq G k ps s).bind fun m F=>.ok (l++m) F else .no
def QG(g:fw)(F:FL)(r:ql)(p:PV)(s:qC):Rs (KQ PV):=match g.g p r with|none=>.no|some I=>(wn g.ts I s).bind fun k s1=>if k=true then F I s1 else .ok [] s1
noncomputable def QY:KQ fw->FE->FL|[],f=>fun r st=>(f r st).bind fun p s=>.ok [p] s|g::gs,f=>fun r st=>(g.fi r st).bind fun w s=>qq w.G (QG g (QY gs f) r) w.l s
def Le(r r':ql):Prop:=r.length=r'.length∧∀(i:Nat) (p:PV),r[i]? = some (some p)->r'[i]? = some (some p)
def eD.le{K:KY}{H:Hp}{b:Bz}{r r':ql}{s:L2.St}(h:eD K H b r' s)(l:Le r r'):eD K H b r s:=⟨l.1.trans h.1,fun i p e=>h.2 i p (l.2 i p e)⟩
def la(g:FG):Prop:=∀p r F,g p r=some F->Le r F
inductive eR (X:Cx):List Expr->List FT->Prop where|nil:eR X [] []|cons {e:Expr} {t:FT} {es:List Expr} {ts:List FT} (h:VT X E0 e t) (r:eR X es ts):eR X (e::es) (t::ts)
def pc{X:Cx}(Z:∀e s,X.xe e s->False):∀{es:KQ K2} {ts:KQ FT},eR X es ts->∀{Kf:KQ (KU×Obj)} {s:KS} {σ:L2.St} {H:Hp} {b:Bz} {r:ql} {st Km:qC} {k:Bool} {Q:Bool->KS->Prop} {E:KR->KS->Prop},L2.Inv X Kf σ H s->SR X.K H b st->eD X.K H b r σ->wn ts r st= .ok k Km ->
  (∀s' H' b',L2.Inv X Kf σ H' s'->dY H b H' b'->SR X.K H' b' Km->Q k s') ->
  wpAny (model X.prog X.w) X.A (forIn es true fun c r=>if r=true then do let ok ← isTrue c X.env (eval c X.env);pure (ForInStep.yield ok) else pure (ForInStep.yield r)) Q E s
 |_,_,.nil,Kf,s,σ,H,b,r,st,Km,k,Q,E,I,S,R,e,q=>by cases e;exact wpAny_tests_nil (q s H b I (dY.refl _ _) S)
 |_,_,@eR.cons _ c t es ts h hr,Kf,s,σ,H,b,r,st,Km,k,Q,E,I,S,R,e,q=>by
  rw[List.forIn_cons];simp only[Cr];unfold wn at e;cases M:t r st with
  |no=>rw[M]at e;cases e
  |ex x s1=>rw[M]at e;cases e
  |ok k1 s1 =>
   rw[M]at e;have e:(if k1=true then wn ts r s1 else .ok false s1)= .ok k Km:=e;refine AA (AA (Bc (h Kf s σ H (fun O H'=>O=k1∧∃b',dY H b H' b'∧SR X.K H' b' s1) I ⟨b,r,st,S,R,by rw[M];exact fun H' b' F U=>⟨rfl,b',F,U⟩⟩) (fun O s2 hq=>?_) fun F s' z=>(Z F s' z).elim));obtain⟨H2,I2,rfl,b2,Y,S2⟩:=hq;refine AB ?_;dsimp only;cases O with
   |true=>rw[AE rfl]at e;exact pc Z hr I2 S2 (R.ext Y) e fun s' H' b' I' F U=>q s' H' b' I' (Y.trans F) U
   |false =>
    rw[AD A6]at e;cases e;have skip:∀(es:KQ K2),wpAny (model X.prog X.w) X.A (forIn es false fun c r=>if r=true then do let ok ← isTrue c X.env (eval c X.env);pure (ForInStep.yield ok) else pure (ForInStep.yield r)) Q E s2:=by
     intro es;induction es with|nil=>rw[List.forIn_nil];exact AB (q s2 H2 b2 I2 Y S2)|cons c es ih=>rw[List.forIn_cons];simp only[A4,BQ];exact AA (AB ih)
    exact skip es
structure GOk (X:Cx) (c:Comprehension) (g:fw):Prop where
 tg:VG X c.target g.g
 fr:la g.g
 ts:eR X c.ifs g.ts
 asy:c.is_async=0
structure lY (X:Cx) (c:Comprehension) (g:fw):Prop extends GOk X c g where
 it:VI X E0 c.target c.iter g.fi
 fold:∀x,foldedSetIterable c.iter X.env x=pure x
inductive eP (X:Cx):List Comprehension->List fw->Prop where|nil:eP X [] []|cons {c:Comprehension} {g:fw} {cs:List Comprehension} {gs:List fw} (h:lY X c g) (r:eP X cs gs):eP X (c::cs) (g::gs)
def G8{X:Cx}(F:∀e s,X.xe e s->False){Kf:KQ (KU×Obj)}{s:KS}{σ:L2.St}{H:Hp}{D:KU}{xs:KQ V}{y:V}{u:KR}{Q:KR->KS->Prop}{E:KR->KS->Prop}(I:L2.Inv X Kf σ H s)(M:H D=some (.lst xs))(O:xs.length<sizeLine)(R:RelV y u)
  (q:∀v s',L2.Inv X Kf σ (dW H D (.lst (xs++[y]))) s'->Q v s'):wpAny (model X.prog X.w) X.A (call (.builtin "list.append") [.ref D,u]) Q E s :=
 Bc (HJ Kf s σ H (.ref D) [y] (.ref D) [u] (fun v H'=>H'=dW H D (.lst (xs++[y]))) I rfl (.cons R .nil) ⟨D,xs,y,rfl,rfl,M,O,rfl⟩) (fun v s' ⟨x,H',U,Z,e⟩=>by subst e;exact q v s' U) fun Y s' z=>(F Y s' z).elim
structure DE (D:Addr) (H:Hp) (b:Bz) (H':Hp) (b':Bz):Prop extends WE H b H' b' where
 same:b'.z=b.z
 hid:∀a o,a∈b.z->a≠D->H a=some o->H' a=some o
 fz:∀a o u,a≠D->H a=some (.frz o u)->H' a=some (.frz o u)
def DE.of{D:KU}{H H':Hp}{b b':Bz}(e:dY H b H' b'):DE D H b H' b':=⟨e.toWE,e.same,fun a o F _ h=>e.hid a o F h,fun a o u _ h=>e.fz a o u h⟩
def DE.trans{D:KU}{H H1 F:Hp}{b b1 I:Bz}(e:DE D H b H1 b1)(f:DE D H1 b1 F I):DE D H b F I:=⟨e.toWE.trans f.toWE,f.same.trans e.same,fun a o M O h=>f.hid a o (by rw[e.same];exact M) O (e.hid a o M O h),fun a o u n h=>f.fz a o u n (e.fz a o u n h)⟩
def DE.wr{D:KU}{H:Hp}{b:Bz}{o:HO}(h:D∈b.z):DE D H b (dW H D o) b:=⟨WE.wr (.inr h),rfl,fun a u I F e=>by rw[qG F];exact e,fun a u v F e=>by rw[qG F];exact e⟩
def xa(X:Cx)(D:KU)(c:Code)(I:Sem Fin)(M:FL):Prop :=
 ∀(Kf:KQ (KU×Obj)) (s:KS) (σ:L2.St) (H:Hp) (b:Bz) (r:ql) (st O:qC) (l:KQ PV) (F:KQ V) (R:Fin->KS->Prop) (E:KR->KS->Prop),L2.Inv X Kf σ H s->SR X.K H b st->eD X.K H b r σ->D∈b.z->H D=some (.lst F) ->
  M r st= .ok l O->F.length+l.length≤sizeLine ->
  (∀U Y H' b' Z,L2.Inv X Kf Y H' U->DE D H b H' b'->SR X.K H' b' O->eD X.K H' b' r Y->H' D=some (.lst (F++Z))->dS X.K H' b' l Z->R (.again c) U)->wpAny (model X.prog X.w) X.A I R E s
def rL{X:Cx}(hx:∀e s,X.xe e s->False){a0:K2}{gens:KQ Comprehension}{scope:Scope}{pos:Pos}{d:Nat}{it D:KU}{c:Comprehension}{g:fw}(hg:GOk X c g){a1:Sem Fin}{O:FL}(ag:xa X D (.compLoop (.ListComp a0 gens scope pos) d (.ref it) (.ref D) X.env) a1 O)
  (a6:compTurn (.ListComp a0 gens scope pos) d (.ref it) (.ref D) X.env=(standAt c.iter.pos >>= fun _=>pyNext (.ref it) >>= fun r=>match r with
   |none=>pure (.done .next)
   |some v=>letOwnedTupleGo c.target (.ref it) v >>= fun _=>assign c.target X.env v >>= fun _ =>
    (forIn c.ifs true fun c r=>if r=true then do let ok ← isTrue c X.env (eval c X.env);pure (ForInStep.yield ok) else pure (ForInStep.yield r)) >>= fun ok =>
    if ok=true then a1 else again (.compLoop (.ListComp a0 gens scope pos) d (.ref it) (.ref D) X.env)))
  {Kf:KQ (KU×Obj)} {s:KS} {σ:L2.St} {H:Hp} {b:Bz} {r:ql} {st Km:qC} {fp:KQ KU} {tn:Nat->Heap->Prop} {J:It} {w:ItP} {Y:KQ V} {l:KQ PV} {R:Result->KS->Prop}
  (I:L2.Inv X Kf σ H s) (S:SR X.K H b st) (RE:eD X.K H b r σ) (ah:D∈b.z) (hD:H D=some (.lst Y)) (T:gC X.prog X.w X.K X.A c.target J fp it tn) (t0:tn 0 s.heap) (hf:∀a∈fp,zf X Kf H a)
  (a9:ZA X.K H b J w)
  (hv:qq w.G (QG g O r) w.l st= .ok l Km) (hsz:Y.length+l.length≤sizeLine)
  (hR:∀s' σ' H' b' lV,L2.Inv X Kf σ' H' s'->DE D H b H' b'->SR X.K H' b' Km->eD X.K H' b' r σ'->H' D=some (.lst (Y++lV))->dS X.K H' b' l lV->R (.ok .next) s') :
  codeAny (model X.prog X.w) X.A (.compLoop (.ListComp a0 gens scope pos) d (.ref it) (.ref D) X.env) R s:=by
 have a2:∀{H':Hp},(∀a∈fp,H' a=none)->∀a∈fp,zf X Kf H' a:=fun hn a ha=>⟨hn a ha,(hf a ha).2⟩;refine codeAny_loop rfl (fun n s1=>∃i σ1 H1 b1 U done M m,n=w.l.length+1-i∧i≤w.l.length∧L2.Inv X Kf σ1 H1 s1∧DE D H b H1 b1∧SR X.K H1 b1 U∧eD X.K H1 b1 r σ1∧H1 D=some (.lst (Y++M))∧dS X.K H1 b1 done M∧tn i s1.heap∧(∀a∈fp,H1 a=none) ∧
  qq w.G (QG g O r) (w.l.drop i) U= .ok m Km∧done++m=l) ?_ (w.l.length+1)
  ⟨0,σ,H,b,st,[],[],l,by omega,Au _,I,DE.of (dY.refl _ _),S,RE,by simpa using hD,dS.nil,t0,fun a ha=>(hf a ha).1,by simpa using hv,rfl⟩
 rintro n s1 ⟨i,σ1,H1,b1,U,done,M,m,hn,hi,I1,e1,S1,R1,aa,a7,t1,ab,F,hm⟩;show wpAny _ X.A ((compTurn (.ListComp a0 gens scope pos) d (.ref it) (.ref D) X.env).onRaise (fun x=>do noteFrame x X.env;theTreesLotGoes x)) _ _ s1;refine wpAny_noted ?_;rw[a6];refine AA (Cb (AA ?_));have ac:D∈b1.z:=by rw[e1.same];exact ah
 by_cases a8:i<w.l.length
 ·have hd:w.l.drop i=w.l[i]::w.l.drop (i+1):=List.drop_eq_getElem_cons a8;rw[hd]at F;unfold qq at F;by_cases hG:w.G U
  ·rw[AE hG]at F;obtain⟨h1,h2⟩:=a9 H1 b1 U e1.toWE (fun a o u h=>e1.fz a o u (fun z=>by rw[z,hD]at h;cases h) h) S1 hG;obtain⟨go,yl⟩:=h1 i w.l[i] (AJ a8);cases Z:QG g O r w.l[i] U with
   |no=>rw[Z]at F;cases F
   |ex x s5=>rw[Z]at F;cases F
   |ok l1 s5 =>
    rw[Z]at F;have F:(qq w.G (QG g O r) (w.l.drop (i+1)) s5).bind (fun m s'=>.ok (l1++m) s')= .ok m Km:=F;cases a3:qq w.G (QG g O r) (w.l.drop (i+1)) s5 with
    |no=>rw[a3]at F;cases F
    |ex x s6=>rw[a3]at F;cases F
    |ok m2 s6 =>
     rw[a3]at F;have F:Rs.ok (l1++m2) s6= .ok m Km:=F;injection F with hv1a hv1b;subst hv1a;subst hv1b;refine eE (T.item X rfl rfl rfl rfl i Kf s1 σ1 H1 _ I1 (a2 ab) t1 go) fun rr s2 ⟨u,hr,h4⟩=>?_;subst hr;refine AA (eE h4 fun _ s3 ⟨x,H3,I3,r3,y3,t3,ai⟩=>?_);obtain⟨ae,S3,aj⟩:=yl x H3 y3;have e3:dY H1 b1 H3 b1:=dY.of_same ae;have ak:=ae _ _ aa;unfold QG at Z;cases eg:g.g w.l[i] r with
     |none=>rw[eg]at Z;cases Z
     |some r' =>
      rw[eg]at Z;have Z:(wn g.ts r' U).bind (fun k s1=>if k=true then O r' s1 else .ok [] s1)= .ok l1 s5:=Z;cases et:wn g.ts r' U with
      |no=>rw[et]at Z;cases Z
      |ex x s7=>rw[et]at Z;cases Z
      |ok k s7 =>
       rw[et]at Z;have Z:(if k=true then O r' s7 else .ok [] s7)= .ok l1 s5:=Z;have al:=I3.pinned (a2 ai) (T.obj _ _ t3);refine AA (Bc (hg.tg _ s3 σ1 H3 x u (fun σ' H'=>H'=H3∧eD X.K H3 b1 r' σ') al r3 ⟨b1,r,w.l[i],U,S3,R1.ext e3,aj,r',eg,fun s' R'=>⟨rfl,R'⟩⟩) (fun _ s4 hq=>?_) fun e' s' z=>(hx e' s' z).elim);obtain⟨σ4,H4,I4,rfl,R4⟩:=hq;refine AA (pc hx hg.ts I4 S3 R4 et fun am H5 b5 I5 e5 S5=>?_);have ao:D∈b5.z:=by rw[e5.same];exact ac
       have af:=e5.hid _ _ ac ak;have ap:DE D H b H5 b5:=(e1.trans (DE.of e3)).trans (DE.of e5);have back:∀{a4:KS} {σ7:L2.St} {H7:Hp} {b7:Bz} {a5:KQ V},L2.Inv X (Kf++zq fp s3.heap) σ7 H7 a4->DE D H5 b5 H7 b7->SR X.K H7 b7 s5->eD X.K H7 b7 r' σ7->H7 D=some (.lst (Y++M++a5))->dS X.K H7 b7 l1 a5 ->
         ∃m,m<n∧∃i σ1 H1 b1 U done M mm,m=w.l.length+1-i∧i≤w.l.length∧L2.Inv X Kf σ1 H1 a4∧DE D H b H1 b1∧SR X.K H1 b1 U∧eD X.K H1 b1 r σ1∧H1 D=some (.lst (Y++M))∧dS X.K H1 b1 done M∧tn i a4.heap∧(∀a∈fp,H1 a=none) ∧
         qq w.G (QG g O r) (w.l.drop i) U= .ok mm s6∧done++mm=l:=fun {a4 σ7 H7 b7 a5} I7 e7 S7 R7 aq ar=>by
        refine⟨w.l.length+1-(i+1),by omega,i+1,σ7,H7,b7,s5,done++l1,M++a5,m2,rfl,a8,I7.unpinned,ap.trans e7,S7,R7.le (hg.fr _ _ _ eg),by rw[aq,BY],?_,T.keep _ _ _ t3 fun a ha o e=>(I7.pin (a,o) (BO _ (BO _ (zl ha e)))).1,fun a ha=>?_,a3,by rw[BY];exact hm⟩;exact dS.append (dS.wext e7.toWE done (dS.ext e5 done (dS.ext e3 done a7))) ar;obtain⟨o,e,_⟩:=T.obj _ _ t3 a ha;exact (I7.pin (a,o) (BO _ (BO _ (zl ha e)))).2.1
       cases k with
       |false=>rw[AD A6]at Z ⊢;injection Z with ek1 ek2';subst ek1;subst ek2';refine AB ⟨rfl,back I5 (DE.of (dY.refl _ _)) S5 (R4.ext e5) (by rw[BJ];exact af) dS.nil⟩
       |true =>
        rw[AE rfl]at Z ⊢;refine ag _ am σ4 H5 b5 r' s7 s5 l1 (Y++M) _ _ I5 S5 (R4.ext e5) ao af Z ?_ fun s8 σ8 H8 b8 lV I8 e8 S8 R8 as r8=>⟨rfl,back I8 e8 S8 R8 as r8⟩;have h1:=a7.length;have h2:l.length=done.length+(l1.length+m2.length):=by rw[←hm,Ac,Ac]
        rw[Ac];omega
  ·rw[AD hG]at F;cases F
 ·have hl:i=w.l.length:=by omega
  subst hl;rw[List.drop_length]at F;unfold qq at F;by_cases hG:w.G U
  ·rw[AE hG]at F;injection F with k1 k2;subst k1;subst k2;obtain⟨h1,h2⟩:=a9 H1 b1 U e1.toWE (fun a o u h=>e1.fz a o u (fun z=>by rw[z,hD]at h;cases h) h) S1 hG;refine eE (T.done X rfl rfl rfl rfl _ Kf s1 σ1 H1 _ I1 (a2 ab) t1 (h2 _ (AG _))) fun r2 s2 ⟨hr,I2⟩=>?_;subst hr;rw[BJ]at hm;subst hm;exact AB (hR s2 σ1 H1 b1 M I2 e1 S1 R1 aa a7)
  ·rw[AD hG]at F;cases F
def Ze{X:Cx}(hx:∀e s,X.xe e s->False){a1:K2}{gens:KQ Comprehension}{scope:Scope}{pos:Pos}{f:FE}{D:KU}(he:VE X E0 a1 f) :
  ∀(gs:KQ fw) (cs:KQ Comprehension) (d:Nat) (c:Comprehension) (g:fw),gens.drop d=c::cs->GOk X c g->eP X cs gs ->
  ∀(Kf:KQ (KU×Obj)) (s:KS) (σ:L2.St) (H:Hp) (b:Bz) (r:ql) (st Km:qC) (it:KU) (fp:KQ KU) (tn:Nat->Heap->Prop) (J:It) (w:ItP) (F:KQ V) (l:KQ PV) (R:Result->KS->Prop),
  L2.Inv X Kf σ H s->SR X.K H b st->eD X.K H b r σ->D∈b.z->H D=some (.lst F)->gC X.prog X.w X.K X.A c.target J fp it tn->tn 0 s.heap->(∀a∈fp,zf X Kf H a)->ZA X.K H b J w ->
  qq w.G (QG g (QY gs f) r) w.l st= .ok l Km->F.length+l.length≤sizeLine ->
  (∀s' σ' H' b' lV,L2.Inv X Kf σ' H' s'->DE D H b H' b'->SR X.K H' b' Km->eD X.K H' b' r σ'->H' D=some (.lst (F++lV))->dS X.K H' b' l lV->R (.ok .next) s') ->
  codeAny (model X.prog X.w) X.A (.compLoop (.ListComp a1 gens scope pos) d (.ref it) (.ref D) X.env) R s:=by
 intro gs;induction gs with
 |nil =>
  intro cs d c g Y hg a2 Kf s σ H b r st Km it fp tn J w F l R I S RE O hD T t0 hf a3 M U hR;cases a2;have a4:gens[d]? = some c:=by
   have:(gens.drop d)[0]? = some c:=by rw[Y];rfl
   simpa using this
  have a0:gens[d+1]? = none:=by
   have:(gens.drop d)[1]? = none:=by rw[Y];rfl
   simpa using this
  refine rL hx hg ?_ (jU a4 hg.asy a0) I S RE O hD T t0 hf a3 M U hR;intro Kf s σ H b r st Km l F QF E I S RE O hD M U q;have M:(f r st).bind (fun p s=>.ok [p] s)= .ok l Km:=M;cases ef:f r st with
  |no=>rw[ef]at M;cases M
  |ex x s1=>rw[ef]at M;cases M
  |ok p s1 =>
   rw[ef]at M;have M:Rs.ok [p] s1= .ok l Km:=M;injection M with h1 h2;subst h1;subst h2;refine AA (AA (Bc (he Kf s σ H (fun v H'=>∃b',dY H b H' b'∧SR X.K H' b' s1∧RV X.K H' b' p v) I ⟨b,r,st,S,RE,by rw[ef];exact fun v H' b' Z S' r'=>⟨b',Z,S',r'⟩⟩) (fun u s2 hq=>?_) fun Z s' z=>(hx Z s' z).elim));obtain⟨v,H2,I2,rv,b2,e2,S2,r2⟩:=hq;have a5:D∈b2.z:=by rw[e2.same];exact O
   refine AA (G8 hx I2 (e2.hid _ _ O hD) (by rw[A2]at U;omega) rv fun _ s3 I3=>AB (AB ?_));have dw:DE D H2 b2 (dW H2 D (.lst (F++[v]))) b2:=DE.wr a5;exact q s3 σ _ b2 [v] I3 ((DE.of e2).trans dw) (SR.wrz S2 a5) ((RE.ext e2).wext dw.toWE) qS (dS.cons (RV.wext dw.toWE p r2) dS.nil)
 |cons g2 gs ih =>
  intro cs d c g Y hg a2 Kf s σ H b r st Km it fp tn J w F l R I S RE O hD T t0 hf a3 M U hR;cases a2 with
  | @cons c2 _ cs _ h2 a7 =>
   have a4:gens[d]? = some c:=by
    have:(gens.drop d)[0]? = some c:=by rw[Y];rfl
    simpa using this
   have a0:gens[d+1]? = some c2:=by
    have:(gens.drop d)[1]? = some c2:=by rw[Y];rfl
    simpa using this
   have a6:gens.drop (d+1)=c2::cs:=by
    have:(gens.drop d).drop 1=c2::cs:=by rw[Y];rfl
    rwa[List.drop_drop]at this
   refine rL hx hg ?_ (jS a4 hg.asy a0 h2.asy) I S RE O hD T t0 hf a3 M U hR;intro Kf s σ H b r st Km l F QF E I S RE O hD M U q;have M:(g2.fi r st).bind (fun w s=>qq w.G (QG g2 (QY gs f) r) w.l s)= .ok l Km:=M;cases ef:g2.fi r st with
   |no=>rw[ef]at M;cases M
   |ex x s1=>rw[ef]at M;cases M
   |ok w2 s1 =>
    rw[ef]at M;have M:qq w2.G (QG g2 (QY gs f) r) w2.l s1= .ok l Km:=M;have hi:=h2.it Kf s σ H (fun J H'=>∃b',dY H b H' b'∧SR X.K H' b' s1∧ZA X.K H' b' J w2) I ⟨b,r,st,S,RE,by rw[ef];exact fun J H' b' Z S' i'=>⟨b',Z,S',i'⟩⟩;refine AA (Bc hi (fun u s2 hq=>?_) fun Z s' z=>(hx Z s' z).elim);refine AA (Cb (AA (Ar (h2.fold u) (AA (Aq (Bc hq (fun ag s3 a8=>?_) fun Z s' z=>(hx Z s' z).elim))))));obtain⟨a9,aa,ab,J2,H3,rfl,I3,T2,t2,f2,b3,e3,S3,i3⟩:=a8;have ac:D∈b3.z:=by rw[e3.same];exact O
    have ae:=e3.hid _ _ O hD;refine AA (wpAny_runOwn ?_);have Kw:=ih cs (d+1) c2 g2 a6 h2.toGOk a7 Kf s3 σ H3 b3 r s1 Km a9 aa ab J2 w2 F l (fun r s'=>match r with
     | .ok f=>wpAny (model X.prog X.w) X.A (again (.compLoop (.ListComp a1 gens scope pos) d (.ref it) (.ref D) X.env)) QF E s'
     | .error e=>cameBackBy (model X.prog X.w) X.A X.env E e s') I3 S3 (RE.ext e3) ac ae T2 t2 f2 i3 M U
     fun s' σ' H' b' lV I' Z S' R' af r'=>AB (q s' σ' H' b' lV I' ((DE.of e3).trans Z) S' R' af r')
    exact w4 a0 h2.asy Kw (T2.self X.A 0 s3 _ _ t2 Kw)
def yJ{M:Model}{A:K1}{E:KR->KS->Prop}{s:KS}{scope:Scope}{env:Env}{I:KQ (Str×KU)}{Q:Env->KS->Prop}
  (h:Q { scope:=scope,locals:=s.heap.objs.size,globals:=env.globals,cells:=cellsFrom (s.heap.objs.size+1) scope.names I,qual:=env.qual,func:=none,code:=env.code,frame:=env.frame,builtins:=env.builtins } { s with heap:=pushCells (s.heap.push { cls:=.type "dict",data:=.dict #[] }) scope.names }) :
  wpAny M A (newFunctionEnv scope env.globals I [] env.qual none .none (some env)) Q E s:=by
 simp only[newFunctionEnv,Option.isSome_some,Cr];refine AA (wpAny_alloc ?_);refine AA (wpAny_layCells _ (fun O kind cells=>by cases F:kind==NameKind.cell <;> simp[F]) _ _ _ _ ?_);rw[show ({ s with heap:=s.heap.push { cls:=.type "dict",data:=.dict #[] } }:KS).heap.objs.size=s.heap.objs.size+1 from B7 ..];exact AA (AB (AB h))
def wK(Kk:KQ Nat)(n:Nat)(r:ql):ql:=(Kk.map fun j=>(r[j]?).join)++List.replicate n none
noncomputable def QE(Kk:KQ Nat)(n:Nat)(fi:FI)(g:FG)(ts:KQ FT)(gs:KQ fw)(f:FE):FL:=fun r st=>(fi r st).bind fun w s=>match qq w.G (QG ⟨fi,g,ts⟩ (QY gs f) (wK Kk n r)) w.l s with| .ok l F=>if l.length≤sizeLine then .ok l F else .no|_=>.no
def Z9{K:KY}{H:Hp}{b:Bz}{r:ql}{σ:L2.St}{Kk:KQ Nat}{n:Nat}(R:eD K H b r σ):eD K H b (wK Kk n r) ((Kk.map fun j=>(σ[j]?).join)++List.replicate n none):=by
 refine⟨by simp[wK],fun i p e=>?_⟩;unfold wK at e;by_cases hi:i<Kk.length
 ·rw[An (by simpa using hi),Am]at e;rw[An (by simpa using hi),Am];cases I:Kk[i]? with
  |none=>rw[I]at e;cases e
  |some j =>
   rw[I]at e;have F:(r[j]?).join=some p:=Aj e;have M:r[j]? = some (some p):=by
    cases q:r[j]? with|none=>rw[q]at F;cases F|some o=>rw[q]at F;exact CK some F
   obtain⟨v,O,U⟩:=R.2 j p M;refine⟨v,?_,U⟩;show some (σ[j]?).join=some (some v);rw[O];rfl
 ·rw[BA (by simpa using hi),CJ]at e;split at e <;> cases e
def ZX{K:KY}{H:Hp}{b:Bz}{J:It}{w:ItP}{D:KU}{o:HO}(h:ZA K H b J w)(I:H D=none):ZA K (dW H D o) ⟨b.b,D::b.z⟩ J w:=fun H1 b1 F e f S g=>h H1 b1 F ((WE.hide I).trans e) (fun a o u q=>f a o u (by rw[qG (qL q I)];exact q)) S g
def Q2{X:Cx}{E:XK}{a2:K2}{c:Comprehension}{cs:KQ Comprehension}{scope:Scope}{pos:Pos}{Kn Kl:KQ Str}{Kk:KQ Nat}{fi:FI}{g:FG}{ts:KQ FT}{gs:KQ fw}{f:FE}(Z:ik X scope Kn Kl Kk)
  (hi:VI X E c.target c.iter fi) (sub:∀s H fp pn,VE (fN X scope (Kn++Kl) s H fp pn) E0 a2 f∧GOk (fN X scope (Kn++Kl) s H fp pn) c ⟨fi,g,ts⟩∧eP (fN X scope (Kn++Kl) s H fp pn) cs gs)
  (hs:∀x,foldedSetIterable c.iter X.env x=pure x:=by intro _;rfl):VN X E (.ListComp a2 (c::cs) scope pos) (QE Kk Kl.length fi g ts gs f):=by
 intro Kf s σ H Q I hq;obtain⟨b,r,st,S,RE,P⟩:=hq;have a0:∀x∈scope.names,x.2= .free->∃c,X.env.cells.lookup x.1=some c:=fun x hx hk=>I.ok.has x.1 (Z.fr x hx hk);obtain⟨c1,c2,c3,c4⟩:=c;have a3:c4=0:=(sub s H [] []).2.1.asy;subst a3;rw[eval_ListComp];refine Cn (use:=none) rfl hs (zt a0) Z.kind (fun x hx hl=>wl Z.nd (by rw[←hl];exact hx)) ?_;show wpAny _ _ (eval c2 X.env) _ _ s;unfold QE at P;cases ef:fi r st with
 |no=>rw[ef]at P;exact P.elim
 |ex x s1 =>
  rw[ef]at P;refine eE (hi Kf s σ H (fun _ _=>False) I ⟨b,r,st,S,RE,by rw[ef];exact P⟩) fun v s2 h2=>eE h2 fun a7 U h3=>?_;obtain⟨_,_,_,_,_,_,_,_,_,_,z⟩:=h3;exact z.elim
 |ok w s1 =>
  rw[ef]at P;refine eE (hi Kf s σ H (fun J H'=>∃b',dY H b H' b'∧SR X.K H' b' s1∧ZA X.K H' b' J w) I ⟨b,r,st,S,RE,by rw[ef];exact fun J H' b' e' S' i'=>⟨b',e',S',i'⟩⟩) fun v s2 h2=>eE h2 fun a7 U h3=>?_;obtain⟨it,fp,tn,J,H2,rfl,I2,T,t2,f2,Y,e2,S2,i2⟩:=h3;have P:dX X.K E H b (match qq w.G (QG ⟨fi,g,ts⟩ (QY gs f) (wK Kk Kl.length r)) w.l s1 with | .ok l s'=>if l.length≤sizeLine then .ok l s' else .no|_=>.no) Q:=P;cases ev:qq w.G (QG ⟨fi,g,ts⟩ (QY gs f) (wK Kk Kl.length r)) w.l s1 with
  |no=>rw[ev]at P;exact P.elim
  |ex x s4=>rw[ev]at P;exact P.elim
  |ok l a1 =>
   rw[ev]at P;have P:dX X.K E H b (if l.length≤sizeLine then .ok l a1 else .no) Q:=P;by_cases hl:l.length≤sizeLine
   ·rw[AE hl]at P;have M:H2 U.heap.objs.size=none:=I2.hok.fresh (AG _);refine CH ?_;generalize a4:({ U with heap:=U.heap.push { cls:=.type "list",data:=.seq ([]:KQ KR).toArray } }:KS)=O;have I3:L2.Inv X Kf σ (dW H2 U.heap.objs.size (.lst [])) O:=by rw[←a4];exact I2.laid (t':=U.toks) (fun a u e=>AC _ e) (AG _) (show ey X.prog X.w _ _ _ (.lst []) from⟨Au _,[],0,.nil,AR _ rfl⟩)
    have k3:∀a o,U.heap.get? a=some o->O.heap.get? a=some o:=fun a o e=>by rw[←a4];exact AC _ e
    have a8:∀a∈fp,a<U.heap.objs.size:=fun a F=>by obtain⟨o,e,_⟩:=T.obj _ _ t2 a F;exact AL e
    have f3:∀a∈fp,zf X Kf (dW H2 U.heap.objs.size (.lst [])) a:=fun a F=>⟨by rw[qG (Aa (a8 a F))];exact (f2 a F).1,(f2 a F).2⟩;have a5:∀a∈fp,a<O.heap.objs.size:=fun a F=>by obtain⟨o,e,_⟩:=T.obj _ _ t2 a F;exact AL (k3 a o e)
    generalize hD:U.heap.objs.size=D at I3 f3 M;refine yJ ?_;have J0:=zj Z I3 f3 a5 rfl;obtain⟨he,hg,a9⟩:=sub O (dW H2 D (.lst [])) fp (X.pn++Kf);have k4:∀a o,O.heap.get? a=some o->(pushCells (O.heap.push { cls:=.type "dict",data:=.dict #[] }) scope.names).get? a=some o:=fun a o e=>CV _ _ _ _ (AC _ e);have aa:D∉Y.z:=(S2.new_notin M).2;have Kw:=Ze (X:=fN X scope (Kn++Kl) O (dW H2 D (.lst [])) fp (X.pn++Kf)) (fun _ _ z=>z) (gens:=⟨c1,c2,c3,0⟩::cs) (scope:=scope) (pos:=pos) (D:=D) he gs cs 0 ⟨c1,c2,c3,0⟩ ⟨fi,g,ts⟩ rfl hg a9 [] _ _ _ ⟨Y.b,D::Y.z⟩ (wK Kk Kl.length r) s1 a1 it fp tn J w [] l
     (compPost (model X.prog X.w) X.A X.xe none (EP X Kf σ Q) (.ref D) O.heap.objs.size) J0 (SR.hide S2 M) (Z9 ((RE.ext e2).wext (WE.hide M))) AI qS T (T.keep _ _ _ t2 fun a F o e=>k4 a o (k3 a o e))
     (fun a F=>⟨(f3 a F).1,(J0.ok.exf a F).1,J0.ok.exfs a F,.inl F,(J0.ok.exf a F).2,fun p hp=>(f3 a F).2.2.2.2.2 p (by simpa[fN] using hp)⟩) (ZX i2 M) ev (by simpa using hl)
     (fun s' σ' H' b' lV I' e' S' R' ab r'=>by
      obtain⟨m,hn,_⟩:=I'.loc;refine⟨m,hn,fun af sb=>?_⟩;have ac:=yF I3 f3 I' sb;have ae:b'.z=D::Y.z:=e'.same;refine⟨.ref D,H',ac,rfl,?_⟩;have ex:dY H2 Y H' ⟨b'.b,Y.z⟩:=by
       refine⟨⟨?_,⟨[],rfl,by simp⟩,fun a o F ho=>?_,fun a o F=>?_⟩,rfl,fun a o hz F=>?_,fun a o u F=>e'.fz a o u (qL F M) (by rw[qG (qL F M)];exact F)⟩
       ·obtain⟨n,hb,hh⟩:=e'.more;exact⟨n,hb,fun a F=>by
         have:=hh a F
         by_cases q:a=D;rw[q];exact M;rwa[qG q]at this⟩
       ·have R:a≠D:=qL F M;exact e'.keep a o (by rw[qG R];exact F) ⟨ho.1,fun z=>(AK.mp z).elim R ho.2⟩
       ·have R:a≠D:=qL F M;exact e'.dom a o (by rw[qG R];exact F)
       ·have R:a≠D:=qL F M;exact e'.hid a o (AH _ hz) R (by rw[qG R];exact F)
      have a6:(⟨b'.b,D::Y.z⟩:Bz)=b':=by rw[←ae]
      refine P D lV H' ⟨b'.b,Y.z⟩ (e2.trans ex) (e2.none_of M) (by simpa using ab) aa ?_ ?_;show SR X.K H' ⟨b'.b,D::Y.z⟩ a1;rw[a6];exact S';show dS X.K H' ⟨b'.b,D::Y.z⟩ l lV;rw[a6];exact r')
    exact w4 rfl rfl Kw (T.self X.A 0 _ _ _ (T.keep _ _ _ t2 fun a F o e=>k4 a o (k3 a o e)) Kw)
   ·rw[AD hl]at P;exact P.elim
def QA(n:Nat)(l:KQ PV):ql:=l.map some++List.replicate (n-l.length) none
def k9:RS->Rs PV| .nx _ st=>.ok .non st| .rt v st=>.ok v st| .ex x st=>.ex x st|_=>.no
def gW(n:Nat)(r r':Rs PV):Prop:=∀(K:KY) (E:XK) (H:Hp) (b:Bz) (Q:VK),b.b.length=n->dR K E H b r' Q->dR K E H b r Q
def gW.refl{n:Nat}{r:Rs PV}:gW n r r:=fun _ _ _ _ _ _ h=>h
def eD.init{K:KY}{H:Hp}{b:Bz}{N:KQ Str}{l:KQ PV}{vs:KQ V}(h:dS K H b l vs):eD K H b (QA N.length l) (start N vs):=by
 have F:=h.length;refine⟨by simp[QA,L2.start,F],fun i p e=>?_⟩;unfold QA at e;unfold L2.start;by_cases hi:i<l.length
 ·rw[An (by simpa using hi),Am]at e;rw[An (by simpa[←F] using hi),Am];cases q:l[i]? with|none=>rw[q]at e;cases e|some O=>rw[q]at e;cases e;obtain⟨v,I,M⟩:=h.get q;exact⟨v,by rw[I];rfl,M⟩
 ·rw[BA (by simpa using hi),CJ]at e;split at e <;> cases e
section
variable{P:KZ}{w:K0}{K:KY}{mg:Str->KW KR}{base:Heap}
def gQ{CX:CXT}{x qual:Str}{st:Stmt}{f:KU}{fd:FuncData}{N ps:KQ Str}{k:Nat}{g:KQ PV->qC->Rs PV}(F:fD K x qual st f fd)(S:dU N ps (qJ st))
  (O:∀(Kr:KR) (A:K1) (outer:KQ Env) (s:KS) (H:Hp) (E:XK),eZ k (A.deeper (envOfC qual (qJ st) s.heap.objs.size f Kr))->(0<k->A.handled=none) ->
   ∃B:FS,gK (wW CX P w K mg base N qual (qJ st) f Kr A outer s H E) E (qX st) B∧∀l R,l.length=ps.length->g l R≠ .no->gW R.length (k9 (B (QA N.length l) R)) (g l R)):fZ P w K mg base CX (k+1) f fd ps (iR K ps.length g):=by
 obtain⟨oc,od,kV,Kv,pm,an,Kr,ct,KC,rfl,lk,U⟩:=F.ex;refine IP lk U S (fun vs H Q E h=>h.1) fun A outer s H vs Q E hr Y Z=>?_;obtain⟨B,hB,hg⟩:=O Kr A outer s H E hr Y;obtain⟨hl,b,l,M,S0,r0,P0⟩:=Z;refine⟨_,hB,b,QA N.length l,M,S0,eD.init r0,?_⟩;have a0:g l M≠ .no:=fun z=>by rw[z]at P0;exact P0
 have I:=hg l M (by rw[r0.length];exact hl) a0 K E H b Q S0.len P0;cases e:B (QA N.length l) M with|nx r st=>rw[e]at I;exact fun s H' b' e' S' R'=>I .non H' b' e' S' (by unfold RV;rfl)|rt v st=>rw[e]at I;exact I|bk r st=>rw[e]at I;exact I.elim|ct r st=>rw[e]at I;exact I.elim|ex x st=>rw[e]at I;exact I|no=>rw[e]at I;exact I.elim
end
mutual
def e9:PV->PV->Bool| .non,.non=>true| .bl a,.bl c=>a==c| .int a,.int c=>a==c| .bl a,.int c=>(if a then 1 else 0)==c| .int a,.bl c=>a==(if c then 1 else 0)| .str a,.str c=>a==c| .tup l,.tup m=>ft l m| .lst l,.lst m=>ft l m|_,_=>false
def ft:KQ PV->KQ PV->Bool|[],[]=>true|p::ps,q::qs=>e9 p q&&ft ps qs|_,_=>false
end
mutual
def nr:PV->Bool| .tup l=>gp l| .lst l=>gp l| .ref _=>false| .dct=>false| .ty _=>false| .fn _=>false| .exc _ _=>false|_=>true
def gp:KQ PV->Bool|[]=>true|p::ps=>nr p&&gp ps
end
mutual
def fG:PV->Nat| .tup l=>eL l+1| .lst l=>eL l+1|_=>0
def eL:KQ PV->Nat|[]=>0|p::ps=>max (fG p) (eL ps)
end
mutual
def RW(K:KY)(H:Hp):PV->V->Prop| .non,v=>v= .non| .bl x,v=>v= .bl x| .int i,v=>v= .int i| .str x,v=>v= .str x| .tup l,v=>∃a xs,v= .ref a∧fA K H a xs∧eK K H l xs| .lst l,v=>∃a xs,v= .ref a∧fq K H a xs∧eK K H l xs|_,_=>False
def eK(K:KY)(H:Hp):KQ PV->KQ V->Prop|[],xs=>xs=[]|p::ps,xs=>∃x r,xs=x::r∧RW K H p x∧eK K H ps r
end
mutual
def RV.rw{K:KY}{H:Hp}{b:Bz}:∀(p:PV) {v:V},nr p=true->RV K H b p v->RW K H p v| .non,_,_,h=>by unfold RV at h;unfold RW;exact h| .bl _,_,_,h=>by unfold RV at h;unfold RW;exact h| .int _,_,_,h=>by unfold RV at h;unfold RW;exact h| .str _,_,_,h=>by unfold RV at h;unfold RW;exact h| .tup l,_,n,h=>by unfold RV at h;unfold RW;unfold nr at n;obtain⟨a,xs,h1,h2,h3⟩:=h;exact⟨a,xs,h1,h2.sq,dS.rws l n h3⟩| .lst l,_,n,h=>by unfold RV at h;unfold RW;unfold nr at n;obtain⟨a,xs,h1,h2,h3⟩:=h;exact⟨a,xs,h1,h2.sq,dS.rws l n h3⟩| .ref _,_,n,_=>by unfold nr at n;cases n| .dct,_,n,_=>by unfold nr at n;cases n| .ty _,_,n,_=>by unfold nr at n;cases n| .fn _,_,n,_=>by unfold nr at n;cases n| .exc _ _,_,n,_=>by unfold nr at n;cases n
def dS.rws{K:KY}{H:Hp}{b:Bz}:∀(l:KQ PV) {xs:KQ V},gp l=true->dS K H b l xs->eK K H l xs|[],_,_,h=>by unfold dS at h;unfold eK;exact h|p::ps,_,n,h=>by unfold dS at h;unfold eK;unfold gp at n;rw[AY]at n;obtain⟨x,r,h1,h2,h3⟩:=h;exact⟨x,r,h1,RV.rw p n.1 h2,dS.rws ps n.2 h3⟩
end
def eK.length{K:KY}{H:Hp}:∀{l:KQ PV} {xs:KQ V},eK K H l xs->l.length=xs.length|[],_,h=>by unfold eK at h;rw[h];rfl|p::ps,_,h=>by unfold eK at h;obtain⟨x,r,rfl,_,F⟩:=h;rw[AO,AO,eK.length F]
section
variable{X:Cx}{Kf:KQ (KU×Obj)}{σ:L2.St}{H:Hp}{s:KS}
def yO(I:L2.Inv X Kf σ H s){a:KU}{xs R:KQ V}(U:fq X.K H a xs)(Y:fA X.K H a R):False:=by obtain⟨Ki,_,p,_⟩:=I.list U;obtain⟨O,_,q,_⟩:=I.tuple Y;obtain⟨o,Z,hc,n,hd⟩:=p.isList;obtain⟨o',F,M,_⟩:=q;rw[Z]at F;cases F;rw[hc]at M;injection M with z;exact absurd z (by decide)
mutual
def RW.same(I:L2.Inv X Kf σ H s):∀(p q:PV) {v:V},RW X.K H p v->RW X.K H q v->e9 p q=true
 | .non,q,v,h,g=>by unfold RW at h;subst h;cases q <;> unfold RW at g <;> first|rfl|exact (g:False).elim|(obtain⟨_,_,e,_⟩:=g;cases e)|cases g
 | .bl x,q,v,h,g=>by unfold RW at h;subst h;cases q <;> unfold RW at g <;> first|(obtain⟨_,_,e,_⟩:=g;cases e)|(cases g;simp[e9];done)|exact (g:False).elim|cases g
 | .int x,q,v,h,g=>by unfold RW at h;subst h;cases q <;> unfold RW at g <;> first|(obtain⟨_,_,e,_⟩:=g;cases e)|(cases g;simp[e9];done)|exact (g:False).elim|cases g
 | .str x,q,v,h,g=>by unfold RW at h;subst h;cases q <;> unfold RW at g <;> first|(obtain⟨_,_,e,_⟩:=g;cases e)|(cases g;simp[e9];done)|exact (g:False).elim|cases g
 | .tup l,q,v,h,g=>by
  unfold RW at h;obtain⟨a,xs,rfl,h2,h3⟩:=h;cases q with
  |tup m =>
   unfold RW at g;obtain⟨a',ys,e,g2,g3⟩:=g;cases e
   have:=I.tuple_inj h2 g2
   subst this;unfold e9;exact eK.same I l m h3 g3
  |lst m=>unfold RW at g;obtain⟨a',ys,e,g2,g3⟩:=g;cases e;exact (yO I g2 h2).elim
  |ref _=>unfold RW at g;exact g.elim
  |dct=>unfold RW at g;exact g.elim
  |ty _=>unfold RW at g;exact g.elim
  |fn _=>unfold RW at g;exact g.elim
  |exc _ _=>unfold RW at g;exact g.elim
  |non=>unfold RW at g;cases g
  |bl _=>unfold RW at g;cases g
  |int _=>unfold RW at g;cases g
  |str _=>unfold RW at g;cases g
 | .lst l,q,v,h,g=>by
  unfold RW at h;obtain⟨a,xs,rfl,h2,h3⟩:=h;cases q with
  |lst m =>
   unfold RW at g;obtain⟨a',ys,e,g2,g3⟩:=g;cases e
   have:=I.list_inj h2 g2
   subst this;unfold e9;exact eK.same I l m h3 g3
  |tup m=>unfold RW at g;obtain⟨a',ys,e,g2,g3⟩:=g;cases e;exact (yO I h2 g2).elim
  |ref _=>unfold RW at g;exact g.elim
  |dct=>unfold RW at g;exact g.elim
  |ty _=>unfold RW at g;exact g.elim
  |fn _=>unfold RW at g;exact g.elim
  |exc _ _=>unfold RW at g;exact g.elim
  |non=>unfold RW at g;cases g
  |bl _=>unfold RW at g;cases g
  |int _=>unfold RW at g;cases g
  |str _=>unfold RW at g;cases g
 | .ref _,_,_,h,_=>by unfold RW at h;exact h.elim
 | .dct,_,_,h,_=>by unfold RW at h;exact h.elim
 | .ty _,_,_,h,_=>by unfold RW at h;exact h.elim
 | .fn _,_,_,h,_=>by unfold RW at h;exact h.elim
 | .exc _ _,_,_,h,_=>by unfold RW at h;exact h.elim
def eK.same(I:L2.Inv X Kf σ H s):∀(l m:KQ PV) {xs:KQ V},eK X.K H l xs->eK X.K H m xs->ft l m=true
 |[],m,xs,h,g=>by
  unfold eK at h;subst h;cases m with|nil=>rfl|cons _ _=>unfold eK at g;obtain⟨_,_,e,_⟩:=g;cases e
 |p::ps,m,xs,h,g=>by
  unfold eK at h;obtain⟨x,r,rfl,h2,h3⟩:=h;cases m with|nil=>unfold eK at g;cases g|cons q qs=>unfold eK at g;obtain⟨y,t,e,g2,g3⟩:=g;cases e;unfold ft;rw[RW.same I p q h2 g2,eK.same I ps qs h3 g3];rfl
end
def gl(l m:KQ PV)(j:Nat):Bool:=match l[j]?,m[j]? with|some p,some q=>e9 p q|_,_=>false
def zr:∀(l m:KQ PV),l.length=m.length->(List.range l.length).all (gl l m)=ft l m
 |[],[],_=>rfl
 |p::ps,q::F,h=>by
  have I:=zr ps F (by simpa using h);rw[AO,List.range_succ_eq_map,List.all_cons,List.all_map];unfold ft;have M:gl (p::ps) (q::F) 0=e9 p q:=rfl;have O:(gl (p::ps) (q::F) ∘ Nat.succ)=gl ps F:=by funext j;rfl
  rw[M,O,I]
 |[],_::_,h=>by simp at h
 |_::_,[],h=>by simp at h
def W3:∀(l m:KQ PV),l.length≠m.length->ft l m=false|[],[],h=>absurd rfl h|[],_::_,_=>rfl|_::_,[],_=>rfl|p::ps,q::F,h=>by unfold ft;rw[W3 ps F (by intro z;apply h;rw[AO,AO,z]),Bi]
def eK.get'{K:KY}{H:Hp}:∀{l:KQ PV} {xs:KQ V} {i:Nat} {x:V},eK K H l xs->xs[i]? = some x->∃p,l[i]? = some p∧RW K H p x
 |[],_,_,_,h,e=>by unfold eK at h;subst h;simp at e
 |p::ps,_,0,x,h,e=>by unfold eK at h;obtain⟨y,r,rfl,F,I⟩:=h;simp at e;subst e;exact⟨p,rfl,F⟩
 |p::ps,_,i+1,x,h,e=>by
  unfold eK at h;obtain⟨y,r,rfl,F,I⟩:=h;obtain⟨q,M,O⟩:=eK.get' (i:=i) I (by simpa using e);exact⟨q,by simpa using M,O⟩
def Vals.get2:∀{xs:KQ V} {us:KQ KR} {i:Nat} {u:KR},Vals xs us->us[i]? = some u->∃x,xs[i]? = some x∧RelV x u
 |_,_,_,_,.nil,e=>by simp at e
 |_,_,0,_,.cons r _,e=>by simp at e;subst e;exact⟨_,rfl,r⟩
 |_,_,i+1,u,.cons _ t,e=>by
  obtain⟨x,F,I⟩:=Vals.get2 (i:=i) (u:=u) t (by simpa using e);exact⟨x,by simpa using F,I⟩
def wB(I:L2.Inv X Kf σ H s)(p q:PV){v u:V}{Z uu:KR}{A:K1}(hd:fG p=0)(R:A.units<cLine)(O:RW X.K H p v)(F:RW X.K H q u)(Y:RelV v Z)(M:RelV u uu):SeqAt.EqAt A s Z uu (e9 p q):=by
 cases p with
 |tup l=>unfold fG at hd;omega
 |lst l=>unfold fG at hd;omega
 |ref _=>unfold RW at O;exact O.elim
 |dct=>unfold RW at O;exact O.elim
 |ty _=>unfold RW at O;exact O.elim
 |fn _=>unfold RW at O;exact O.elim
 |exc _ _=>unfold RW at O;exact O.elim
 |non =>
  unfold RW at O;subst O;cases Y;cases q with|non=>unfold RW at F;subst F;cases M;exact SeqAt.EqAt.same _|bl _=>unfold RW at F;subst F;cases M;exact SeqAt.EqAt.none_bool _|int _=>unfold RW at F;subst F;obtain⟨t,rfl⟩:=M;exact SeqAt.EqAt.none_int _ _|str _=>unfold RW at F;subst F;obtain⟨t,rfl⟩:=M;exact SeqAt.EqAt.none_str _ _|tup _=>unfold RW at F;obtain⟨a,xs,rfl,U,_⟩:=F;cases M;obtain⟨Ki,_,t,_⟩:=I.tuple U;exact SeqAt.EqAt.none_tuple t R|lst _=>unfold RW at F;obtain⟨a,xs,rfl,U,_⟩:=F;cases M;obtain⟨Ki,_,t,_⟩:=I.list U;exact SeqAt.EqAt.none_list t.isList R|ref _=>unfold RW at F;exact F.elim|dct=>unfold RW at F;exact F.elim|ty _=>unfold RW at F;exact F.elim|fn _=>unfold RW at F;exact F.elim|exc _ _=>unfold RW at F;exact F.elim
 |bl x =>
  unfold RW at O;subst O;cases Y;cases q with|non=>unfold RW at F;subst F;cases M;exact SeqAt.EqAt.bool_none _|bl _=>unfold RW at F;subst F;cases M;exact SeqAt.EqAt.bool_bool _ _|int _=>unfold RW at F;subst F;obtain⟨t,rfl⟩:=M;exact SeqAt.EqAt.bool_int _ _ _|str _=>unfold RW at F;subst F;obtain⟨t,rfl⟩:=M;exact SeqAt.EqAt.bool_str _ _ _|tup _=>unfold RW at F;obtain⟨a,xs,rfl,U,_⟩:=F;cases M;obtain⟨Ki,_,t,_⟩:=I.tuple U;exact SeqAt.EqAt.bool_tuple _ t R|lst _=>unfold RW at F;obtain⟨a,xs,rfl,U,_⟩:=F;cases M;obtain⟨Ki,_,t,_⟩:=I.list U;exact SeqAt.EqAt.bool_list _ t.isList R|ref _=>unfold RW at F;exact F.elim|dct=>unfold RW at F;exact F.elim|ty _=>unfold RW at F;exact F.elim|fn _=>unfold RW at F;exact F.elim|exc _ _=>unfold RW at F;exact F.elim
 |int x =>
  unfold RW at O;subst O;obtain⟨t0,rfl⟩:=Y;cases q with|non=>unfold RW at F;subst F;cases M;exact SeqAt.EqAt.int_none _ _|bl _=>unfold RW at F;subst F;cases M;exact SeqAt.EqAt.int_bool _ _ _|int _=>unfold RW at F;subst F;obtain⟨t,rfl⟩:=M;exact SeqAt.EqAt.int_int _ _ _ _|str _=>unfold RW at F;subst F;obtain⟨t,rfl⟩:=M;exact SeqAt.EqAt.int_str _ _ _ _|tup _=>unfold RW at F;obtain⟨a,xs,rfl,U,_⟩:=F;cases M;obtain⟨Ki,_,t,_⟩:=I.tuple U;exact SeqAt.EqAt.int_tuple _ _ t R|lst _=>unfold RW at F;obtain⟨a,xs,rfl,U,_⟩:=F;cases M;obtain⟨Ki,_,t,_⟩:=I.list U;exact SeqAt.EqAt.int_list _ _ t.isList R|ref _=>unfold RW at F;exact F.elim|dct=>unfold RW at F;exact F.elim|ty _=>unfold RW at F;exact F.elim|fn _=>unfold RW at F;exact F.elim|exc _ _=>unfold RW at F;exact F.elim
 |str x =>
  unfold RW at O;subst O;obtain⟨t0,rfl⟩:=Y;cases q with|non=>unfold RW at F;subst F;cases M;exact SeqAt.EqAt.str_none _ _|bl _=>unfold RW at F;subst F;cases M;exact SeqAt.EqAt.str_bool _ _ _|int _=>unfold RW at F;subst F;obtain⟨t,rfl⟩:=M;exact SeqAt.EqAt.str_int _ _ _ _|str _=>unfold RW at F;subst F;obtain⟨t,rfl⟩:=M;exact SeqAt.EqAt.str_str _ _ _ _|tup _=>unfold RW at F;obtain⟨a,xs,rfl,U,_⟩:=F;cases M;obtain⟨Ki,_,t,_⟩:=I.tuple U;exact SeqAt.EqAt.str_tuple _ _ t R|lst _=>unfold RW at F;obtain⟨a,xs,rfl,U,_⟩:=F;cases M;obtain⟨Ki,_,t,_⟩:=I.list U;exact SeqAt.EqAt.str_list _ _ t.isList R|ref _=>unfold RW at F;exact F.elim|dct=>unfold RW at F;exact F.elim|ty _=>unfold RW at F;exact F.elim|fn _=>unfold RW at F;exact F.elim|exc _ _=>unfold RW at F;exact F.elim
def zZ:∀{l:KQ PV} {i:Nat} {p:PV},l[i]? = some p->fG p≤eL l|[],_,_,h=>by simp at h|q::F,0,p,h=>by simp at h;subst h;unfold eL;exact Nat.le_max_left _ _|q::F,i+1,p,h=>by unfold eL;exact Ab (zZ (l:=F) (i:=i) (by simpa using h)) (Nat.le_max_right _ _)
def kl(I:L2.Inv X Kf σ H s):∀(n:Nat) (p q:PV) (v u:V) (uv uu:KR) (A:K1),fG p≤n->A.units+n<cLine->RW X.K H p v->RW X.K H q u->RelV v uv->RelV u uu->SeqAt.EqAt A s uv uu (e9 p q):=by
 intro n;induction n with
 |zero=>intro p q v u uv uu A hd hu Y F rv R;exact wB I p q (Nat.le_zero.mp hd) hu Y F rv R
 |succ n ih =>
  intro p q v u uv uu A hd hu Y F rv R;have M:A.units<cLine:=Al (Nat.le_add_right _ _) hu;have a7:A.in1.units+n<cLine:=by show A.units+1+n<cLine;omega
  have a5:∀{l m:KQ PV} {xs ys:KQ V} {Ki O:KQ KR},eL l≤n->eK X.K H l xs->eK X.K H m ys->Vals xs Ki->Vals ys O->∀j (h1:j<Ki.toArray.size) (h2:j<O.toArray.size),SeqAt.EqAt A.in1 s Ki.toArray[j] O.toArray[j] (gl l m j):=fun {l m xs ys Ki O} a8 hl hm vl vm j h1 h2=>by
   have e1:Ki[j]? = some Ki.toArray[j]:=by simp
   have e2:O[j]? = some O.toArray[j]:=by simp
   obtain⟨x,hx,rx⟩:=Vals.get2 vl e1;obtain⟨y,hy,ry⟩:=Vals.get2 vm e2;obtain⟨p',a6,a9⟩:=eK.get' hl hx;obtain⟨q',aa,ab⟩:=eK.get' hm hy
   have:gl l m j=e9 p' q':=by unfold gl;rw[a6,aa]
   rw[this];exact ih p' q' x y _ _ A.in1 (Ab (zZ a6) a8) a7 a9 ab rx ry
  cases p with
  |tup l =>
   have a3:=Y;unfold RW at Y;unfold fG at hd;obtain⟨a,xs,rfl,h2,h3⟩:=Y;cases rv;obtain⟨Ki,vl,Z,_⟩:=I.tuple h2;cases q with
   |non=>unfold RW at F;subst F;cases R;exact SeqAt.EqAt.tuple_none Z M
   |bl _=>unfold RW at F;subst F;cases R;exact SeqAt.EqAt.tuple_bool _ Z M
   |int _=>unfold RW at F;subst F;obtain⟨t,rfl⟩:=R;exact SeqAt.EqAt.tuple_int _ _ Z M
   |str _=>unfold RW at F;subst F;obtain⟨t,rfl⟩:=R;exact SeqAt.EqAt.tuple_str _ _ Z M
   |lst _=>unfold RW at F;obtain⟨a,xs,rfl,h2,_⟩:=F;cases R;obtain⟨Ki,_,t,_⟩:=I.list h2;exact SeqAt.EqAt.tuple_list Z t.isList M
   |ref _=>unfold RW at F;exact F.elim
   |dct=>unfold RW at F;exact F.elim
   |ty _=>unfold RW at F;exact F.elim
   |fn _=>unfold RW at F;exact F.elim
   |exc _ _=>unfold RW at F;exact F.elim
   |tup m =>
    have a4:=F;unfold RW at F;obtain⟨a2,ys,rfl,g2,g3⟩:=F;cases R;obtain⟨O,vm,tm,_⟩:=I.tuple g2;by_cases ha:a=a2;subst ha;rw[RW.same I _ _ a3 a4];exact SeqAt.EqAt.same _
    ·refine SeqAt.EqAt.of_refs ha ?_;have rc:=SeqAt.RcAt.tuples (e:=gl l m) Z tm M (a5 (by omega) h3 g3 vl vm);have a0:Ki.toArray.size=l.length:=by rw[AX,←vl.length,h3.length]
     have a1:O.toArray.size=m.length:=by rw[AX,←vm.length,g3.length]
     rw[a0,a1]at rc;have e:((List.range (min l.length m.length)).all (gl l m)&&l.length==m.length)=e9 (.tup l) (.tup m):=by
      unfold e9;by_cases U:l.length=m.length;rw[←U,Nat.min_self,zr l m U,A1,Cs];rw[W3 l m U,CU U,Bi]
     rw[e]at rc;exact rc
  |lst l =>
   have a3:=Y;unfold RW at Y;unfold fG at hd;obtain⟨a,xs,rfl,h2,h3⟩:=Y;cases rv;obtain⟨Ki,vl,ac,_⟩:=I.list h2;have Z:=ac.isList;cases q with
   |non=>unfold RW at F;subst F;cases R;exact SeqAt.EqAt.list_none Z M
   |bl _=>unfold RW at F;subst F;cases R;exact SeqAt.EqAt.list_bool _ Z M
   |int _=>unfold RW at F;subst F;obtain⟨t,rfl⟩:=R;exact SeqAt.EqAt.list_int _ _ Z M
   |str _=>unfold RW at F;subst F;obtain⟨t,rfl⟩:=R;exact SeqAt.EqAt.list_str _ _ Z M
   |tup _=>unfold RW at F;obtain⟨a,xs,rfl,h2,_⟩:=F;cases R;obtain⟨Ki,_,t,_⟩:=I.tuple h2;exact SeqAt.EqAt.list_tuple Z t M
   |ref _=>unfold RW at F;exact F.elim
   |dct=>unfold RW at F;exact F.elim
   |ty _=>unfold RW at F;exact F.elim
   |fn _=>unfold RW at F;exact F.elim
   |exc _ _=>unfold RW at F;exact F.elim
   |lst m =>
    have a4:=F;unfold RW at F;obtain⟨a2,ys,rfl,g2,g3⟩:=F;cases R;obtain⟨O,vm,ae,_⟩:=I.list g2;have tm:=ae.isList;by_cases ha:a=a2;subst ha;rw[RW.same I _ _ a3 a4];exact SeqAt.EqAt.same _
    ·refine SeqAt.EqAt.of_refs ha ?_;have a0:Ki.toArray.size=l.length:=by rw[AX,←vl.length,h3.length]
     have a1:O.toArray.size=m.length:=by rw[AX,←vm.length,g3.length]
     unfold e9;by_cases U:l.length=m.length
     ·have rc:=SeqAt.RcAt.lists (e:=gl l m) Z tm (by rw[a0,a1,U]) M (a5 (by omega) h3 g3 vl vm);rw[a0,zr l m U]at rc;exact rc
     ·rw[W3 l m U];exact SeqAt.RcAt.lists_lengths Z tm (by rw[a0,a1];exact bne_iff_ne.mpr U) M
  |non=>exact wB I _ q rfl M Y F rv R
  |bl _=>exact wB I _ q rfl M Y F rv R
  |int _=>exact wB I _ q rfl M Y F rv R
  |str _=>exact wB I _ q rfl M Y F rv R
  |ref _=>exact wB I _ q rfl M Y F rv R
  |dct=>exact wB I _ q rfl M Y F rv R
  |ty _=>exact wB I _ q rfl M Y F rv R
  |fn _=>exact wB I _ q rfl M Y F rv R
  |exc _ _=>exact wB I _ q rfl M Y F rv R
end
section
variable{X:Cx}{Kf:KQ (KU×Obj)}{σ:L2.St}{H:Hp}{s:KS}
mutual
def RW.det(I:L2.Inv X Kf σ H s):∀(p q:PV) {v:V},RW X.K H p v->RW X.K H q v->p=q
 | .non,q,v,h,g=>by unfold RW at h;subst h;cases q <;> unfold RW at g <;> first|rfl|exact (g:False).elim|(obtain⟨_,_,e,_⟩:=g;cases e)|cases g
 | .bl x,q,v,h,g=>by unfold RW at h;subst h;cases q <;> unfold RW at g <;> first|(obtain⟨_,_,e,_⟩:=g;cases e)|(cases g;rfl)|exact (g:False).elim|cases g
 | .int x,q,v,h,g=>by unfold RW at h;subst h;cases q <;> unfold RW at g <;> first|(obtain⟨_,_,e,_⟩:=g;cases e)|(cases g;rfl)|exact (g:False).elim|cases g
 | .str x,q,v,h,g=>by unfold RW at h;subst h;cases q <;> unfold RW at g <;> first|(obtain⟨_,_,e,_⟩:=g;cases e)|(cases g;rfl)|exact (g:False).elim|cases g
 | .tup l,q,v,h,g=>by
  unfold RW at h;obtain⟨a,xs,rfl,h2,h3⟩:=h;cases q with
  |tup m =>
   unfold RW at g;obtain⟨a',ys,e,g2,g3⟩:=g;cases e
   have:=I.tuple_inj h2 g2
   subst this;rw[eK.det I l m h3 g3]
  |lst m=>unfold RW at g;obtain⟨a',ys,e,g2,g3⟩:=g;cases e;exact (yO I g2 h2).elim
  |ref _=>unfold RW at g;exact g.elim
  |dct=>unfold RW at g;exact g.elim
  |ty _=>unfold RW at g;exact g.elim
  |fn _=>unfold RW at g;exact g.elim
  |exc _ _=>unfold RW at g;exact g.elim
  |non=>unfold RW at g;cases g
  |bl _=>unfold RW at g;cases g
  |int _=>unfold RW at g;cases g
  |str _=>unfold RW at g;cases g
 | .lst l,q,v,h,g=>by
  unfold RW at h;obtain⟨a,xs,rfl,h2,h3⟩:=h;cases q with
  |lst m =>
   unfold RW at g;obtain⟨a',ys,e,g2,g3⟩:=g;cases e
   have:=I.list_inj h2 g2
   subst this;rw[eK.det I l m h3 g3]
  |tup m=>unfold RW at g;obtain⟨a',ys,e,g2,g3⟩:=g;cases e;exact (yO I h2 g2).elim
  |ref _=>unfold RW at g;exact g.elim
  |dct=>unfold RW at g;exact g.elim
  |ty _=>unfold RW at g;exact g.elim
  |fn _=>unfold RW at g;exact g.elim
  |exc _ _=>unfold RW at g;exact g.elim
  |non=>unfold RW at g;cases g
  |bl _=>unfold RW at g;cases g
  |int _=>unfold RW at g;cases g
  |str _=>unfold RW at g;cases g
 | .ref _,_,_,h,_=>by unfold RW at h;exact h.elim
 | .dct,_,_,h,_=>by unfold RW at h;exact h.elim
 | .ty _,_,_,h,_=>by unfold RW at h;exact h.elim
 | .fn _,_,_,h,_=>by unfold RW at h;exact h.elim
 | .exc _ _,_,_,h,_=>by unfold RW at h;exact h.elim
def eK.det(I:L2.Inv X Kf σ H s):∀(l m:KQ PV) {xs:KQ V},eK X.K H l xs->eK X.K H m xs->l=m
 |[],m,xs,h,g=>by
  unfold eK at h;subst h;cases m with|nil=>rfl|cons _ _=>unfold eK at g;obtain⟨_,_,e,_⟩:=g;cases e
 |p::ps,m,xs,h,g=>by
  unfold eK at h;obtain⟨x,r,rfl,h2,h3⟩:=h;cases m with|nil=>unfold eK at g;cases g|cons q qs=>unfold eK at g;obtain⟨y,t,e,g2,g3⟩:=g;cases e;rw[RW.det I p q h2 g2,eK.det I ps qs h3 g3]
end
def wX(I:L2.Inv X Kf σ H s)(p q:PV){v u:V}{Z uu:KR}{A:K1}(hd:fG p=0)(R:A.units<cLine)(O:RW X.K H p v)(F:RW X.K H q u)(Y:RelV v Z)(M:RelV u uu):SeqAt.RcAt A s Z uu (e9 p q):=by
 cases p with
 |tup l=>unfold fG at hd;omega
 |lst l=>unfold fG at hd;omega
 |ref _=>unfold RW at O;exact O.elim
 |dct=>unfold RW at O;exact O.elim
 |ty _=>unfold RW at O;exact O.elim
 |fn _=>unfold RW at O;exact O.elim
 |exc _ _=>unfold RW at O;exact O.elim
 |non =>
  unfold RW at O;subst O;cases Y;cases q with|non=>unfold RW at F;subst F;cases M;exact SeqAt.RcAt.none_none|bl _=>unfold RW at F;subst F;cases M;exact SeqAt.RcAt.none_bool _|int _=>unfold RW at F;subst F;obtain⟨t,rfl⟩:=M;exact SeqAt.RcAt.none_int _ _|str _=>unfold RW at F;subst F;obtain⟨t,rfl⟩:=M;exact SeqAt.RcAt.none_str _ _|tup _=>unfold RW at F;obtain⟨a,xs,rfl,U,_⟩:=F;cases M;obtain⟨Ki,_,t,_⟩:=I.tuple U;exact SeqAt.RcAt.none_tuple t R|lst _=>unfold RW at F;obtain⟨a,xs,rfl,U,_⟩:=F;cases M;obtain⟨Ki,_,t,_⟩:=I.list U;exact SeqAt.RcAt.none_list t.isList R|ref _=>unfold RW at F;exact F.elim|dct=>unfold RW at F;exact F.elim|ty _=>unfold RW at F;exact F.elim|fn _=>unfold RW at F;exact F.elim|exc _ _=>unfold RW at F;exact F.elim
 |bl x =>
  unfold RW at O;subst O;cases Y;cases q with|non=>unfold RW at F;subst F;cases M;exact SeqAt.RcAt.bool_none _|bl _=>unfold RW at F;subst F;cases M;exact SeqAt.RcAt.bool_bool _ _|int _=>unfold RW at F;subst F;obtain⟨t,rfl⟩:=M;exact SeqAt.RcAt.bool_int _ _ _|str _=>unfold RW at F;subst F;obtain⟨t,rfl⟩:=M;exact SeqAt.RcAt.bool_str _ _ _|tup _=>unfold RW at F;obtain⟨a,xs,rfl,U,_⟩:=F;cases M;obtain⟨Ki,_,t,_⟩:=I.tuple U;exact SeqAt.RcAt.bool_tuple _ t R|lst _=>unfold RW at F;obtain⟨a,xs,rfl,U,_⟩:=F;cases M;obtain⟨Ki,_,t,_⟩:=I.list U;exact SeqAt.RcAt.bool_list _ t.isList R|ref _=>unfold RW at F;exact F.elim|dct=>unfold RW at F;exact F.elim|ty _=>unfold RW at F;exact F.elim|fn _=>unfold RW at F;exact F.elim|exc _ _=>unfold RW at F;exact F.elim
 |int x =>
  unfold RW at O;subst O;obtain⟨t0,rfl⟩:=Y;cases q with|non=>unfold RW at F;subst F;cases M;exact SeqAt.RcAt.int_none _ _|bl _=>unfold RW at F;subst F;cases M;exact SeqAt.RcAt.int_bool _ _ _|int _=>unfold RW at F;subst F;obtain⟨t,rfl⟩:=M;exact SeqAt.RcAt.int_int _ _ _ _|str _=>unfold RW at F;subst F;obtain⟨t,rfl⟩:=M;exact SeqAt.RcAt.int_str _ _ _ _|tup _=>unfold RW at F;obtain⟨a,xs,rfl,U,_⟩:=F;cases M;obtain⟨Ki,_,t,_⟩:=I.tuple U;exact SeqAt.RcAt.int_tuple _ _ t R|lst _=>unfold RW at F;obtain⟨a,xs,rfl,U,_⟩:=F;cases M;obtain⟨Ki,_,t,_⟩:=I.list U;exact SeqAt.RcAt.int_list _ _ t.isList R|ref _=>unfold RW at F;exact F.elim|dct=>unfold RW at F;exact F.elim|ty _=>unfold RW at F;exact F.elim|fn _=>unfold RW at F;exact F.elim|exc _ _=>unfold RW at F;exact F.elim
 |str x =>
  unfold RW at O;subst O;obtain⟨t0,rfl⟩:=Y;cases q with|non=>unfold RW at F;subst F;cases M;exact SeqAt.RcAt.str_none _ _|bl _=>unfold RW at F;subst F;cases M;exact SeqAt.RcAt.str_bool _ _ _|int _=>unfold RW at F;subst F;obtain⟨t,rfl⟩:=M;exact SeqAt.RcAt.str_int _ _ _ _|str _=>unfold RW at F;subst F;obtain⟨t,rfl⟩:=M;exact SeqAt.RcAt.str_str _ _ _ _|tup _=>unfold RW at F;obtain⟨a,xs,rfl,U,_⟩:=F;cases M;obtain⟨Ki,_,t,_⟩:=I.tuple U;exact SeqAt.RcAt.str_tuple _ _ t R|lst _=>unfold RW at F;obtain⟨a,xs,rfl,U,_⟩:=F;cases M;obtain⟨Ki,_,t,_⟩:=I.list U;exact SeqAt.RcAt.str_list _ _ t.isList R|ref _=>unfold RW at F;exact F.elim|dct=>unfold RW at F;exact F.elim|ty _=>unfold RW at F;exact F.elim|fn _=>unfold RW at F;exact F.elim|exc _ _=>unfold RW at F;exact F.elim
def wU(I:L2.Inv X Kf σ H s)(p q:PV){v u:V}{Z uu:KR}{A:K1}(hd:fG p=0)(R:A.units<cLine)(O:RW X.K H p v)(F:RW X.K H q u)(Y:RelV v Z)(M:RelV u uu):SeqAt.RcNeAt A s Z uu (!e9 p q):=by
 cases p with
 |tup l=>unfold fG at hd;omega
 |lst l=>unfold fG at hd;omega
 |ref _=>unfold RW at O;exact O.elim
 |dct=>unfold RW at O;exact O.elim
 |ty _=>unfold RW at O;exact O.elim
 |fn _=>unfold RW at O;exact O.elim
 |exc _ _=>unfold RW at O;exact O.elim
 |non =>
  unfold RW at O;subst O;cases Y;cases q with|non=>unfold RW at F;subst F;cases M;exact SeqAt.RcNeAt.none_none|bl _=>unfold RW at F;subst F;cases M;exact SeqAt.RcNeAt.none_bool _|int _=>unfold RW at F;subst F;obtain⟨t,rfl⟩:=M;exact SeqAt.RcNeAt.none_int _ _|str _=>unfold RW at F;subst F;obtain⟨t,rfl⟩:=M;exact SeqAt.RcNeAt.none_str _ _|tup _=>unfold RW at F;obtain⟨a,xs,rfl,U,_⟩:=F;cases M;obtain⟨Ki,_,t,_⟩:=I.tuple U;exact SeqAt.RcNeAt.none_tuple t R|lst _=>unfold RW at F;obtain⟨a,xs,rfl,U,_⟩:=F;cases M;obtain⟨Ki,_,t,_⟩:=I.list U;exact SeqAt.RcNeAt.none_list t.isList R|ref _=>unfold RW at F;exact F.elim|dct=>unfold RW at F;exact F.elim|ty _=>unfold RW at F;exact F.elim|fn _=>unfold RW at F;exact F.elim|exc _ _=>unfold RW at F;exact F.elim
 |bl x =>
  unfold RW at O;subst O;cases Y;cases q with|non=>unfold RW at F;subst F;cases M;exact SeqAt.RcNeAt.bool_none _|bl _=>unfold RW at F;subst F;cases M;exact SeqAt.RcNeAt.bool_bool _ _|int _=>unfold RW at F;subst F;obtain⟨t,rfl⟩:=M;exact SeqAt.RcNeAt.bool_int _ _ _|str _=>unfold RW at F;subst F;obtain⟨t,rfl⟩:=M;exact SeqAt.RcNeAt.bool_str _ _ _|tup _=>unfold RW at F;obtain⟨a,xs,rfl,U,_⟩:=F;cases M;obtain⟨Ki,_,t,_⟩:=I.tuple U;exact SeqAt.RcNeAt.bool_tuple _ t R|lst _=>unfold RW at F;obtain⟨a,xs,rfl,U,_⟩:=F;cases M;obtain⟨Ki,_,t,_⟩:=I.list U;exact SeqAt.RcNeAt.bool_list _ t.isList R|ref _=>unfold RW at F;exact F.elim|dct=>unfold RW at F;exact F.elim|ty _=>unfold RW at F;exact F.elim|fn _=>unfold RW at F;exact F.elim|exc _ _=>unfold RW at F;exact F.elim
 |int x =>
  unfold RW at O;subst O;obtain⟨t0,rfl⟩:=Y;cases q with|non=>unfold RW at F;subst F;cases M;exact SeqAt.RcNeAt.int_none _ _|bl _=>unfold RW at F;subst F;cases M;exact SeqAt.RcNeAt.int_bool _ _ _|int _=>unfold RW at F;subst F;obtain⟨t,rfl⟩:=M;exact SeqAt.RcNeAt.int_int _ _ _ _|str _=>unfold RW at F;subst F;obtain⟨t,rfl⟩:=M;exact SeqAt.RcNeAt.int_str _ _ _ _|tup _=>unfold RW at F;obtain⟨a,xs,rfl,U,_⟩:=F;cases M;obtain⟨Ki,_,t,_⟩:=I.tuple U;exact SeqAt.RcNeAt.int_tuple _ _ t R|lst _=>unfold RW at F;obtain⟨a,xs,rfl,U,_⟩:=F;cases M;obtain⟨Ki,_,t,_⟩:=I.list U;exact SeqAt.RcNeAt.int_list _ _ t.isList R|ref _=>unfold RW at F;exact F.elim|dct=>unfold RW at F;exact F.elim|ty _=>unfold RW at F;exact F.elim|fn _=>unfold RW at F;exact F.elim|exc _ _=>unfold RW at F;exact F.elim
 |str x =>
  unfold RW at O;subst O;obtain⟨t0,rfl⟩:=Y;cases q with|non=>unfold RW at F;subst F;cases M;exact SeqAt.RcNeAt.str_none _ _|bl _=>unfold RW at F;subst F;cases M;exact SeqAt.RcNeAt.str_bool _ _ _|int _=>unfold RW at F;subst F;obtain⟨t,rfl⟩:=M;exact SeqAt.RcNeAt.str_int _ _ _ _|str _=>unfold RW at F;subst F;obtain⟨t,rfl⟩:=M;exact SeqAt.RcNeAt.str_str _ _ _ _|tup _=>unfold RW at F;obtain⟨a,xs,rfl,U,_⟩:=F;cases M;obtain⟨Ki,_,t,_⟩:=I.tuple U;exact SeqAt.RcNeAt.str_tuple _ _ t R|lst _=>unfold RW at F;obtain⟨a,xs,rfl,U,_⟩:=F;cases M;obtain⟨Ki,_,t,_⟩:=I.list U;exact SeqAt.RcNeAt.str_list _ _ t.isList R|ref _=>unfold RW at F;exact F.elim|dct=>unfold RW at F;exact F.elim|ty _=>unfold RW at F;exact F.elim|fn _=>unfold RW at F;exact F.elim|exc _ _=>unfold RW at F;exact F.elim
def EH(I:L2.Inv X Kf σ H s)(p q:PV){v u:V}{uv uu:KR}{A:K1}(hu:A.units+(fG p+1)<cLine)(Y:RW X.K H p v)(F:RW X.K H q u)(rv:RelV v uv)(R:RelV u uu):SeqAt.RcAt A s uv uu (e9 p q):=by
 have M:A.units<cLine:=Al (Nat.le_add_right _ _) hu;have a3:∀{n:Nat} {l m:KQ PV} {xs ys:KQ V} {Ki O:KQ KR},A.in1.units+n<cLine->eL l≤n->eK X.K H l xs->eK X.K H m ys->Vals xs Ki->Vals ys O->∀j (h1:j<Ki.toArray.size) (h2:j<O.toArray.size),SeqAt.EqAt A.in1 s Ki.toArray[j] O.toArray[j] (gl l m j):=fun {n l m xs ys Ki O} a5 a6 hl hm vl vm j h1 h2=>by
  have e1:Ki[j]? = some Ki.toArray[j]:=by simp
  have e2:O[j]? = some O.toArray[j]:=by simp
  obtain⟨x,hx,rx⟩:=Vals.get2 vl e1;obtain⟨y,hy,ry⟩:=Vals.get2 vm e2;obtain⟨p',a4,a7⟩:=eK.get' hl hx;obtain⟨q',a8,a9⟩:=eK.get' hm hy
  have:gl l m j=e9 p' q':=by unfold gl;rw[a4,a8]
  rw[this];exact kl I n p' q' x y _ _ A.in1 (Ab (zZ a4) a6) a5 a7 a9 rx ry
 cases p with
 |tup l =>
  have aa:=Y;unfold RW at Y;obtain⟨a,xs,rfl,h2,h3⟩:=Y;cases rv;obtain⟨Ki,vl,Z,_⟩:=I.tuple h2;unfold fG at hu;cases q with
  |non=>unfold RW at F;subst F;cases R;exact SeqAt.RcAt.tuple_none Z M
  |bl _=>unfold RW at F;subst F;cases R;exact SeqAt.RcAt.tuple_bool _ Z M
  |int _=>unfold RW at F;subst F;obtain⟨t,rfl⟩:=R;exact SeqAt.RcAt.tuple_int _ _ Z M
  |str _=>unfold RW at F;subst F;obtain⟨t,rfl⟩:=R;exact SeqAt.RcAt.tuple_str _ _ Z M
  |lst _=>unfold RW at F;obtain⟨a,xs,rfl,h2,_⟩:=F;cases R;obtain⟨Ki,_,t,_⟩:=I.list h2;exact SeqAt.RcAt.tuple_list Z t.isList M
  |ref _=>unfold RW at F;exact F.elim
  |dct=>unfold RW at F;exact F.elim
  |ty _=>unfold RW at F;exact F.elim
  |fn _=>unfold RW at F;exact F.elim
  |exc _ _=>unfold RW at F;exact F.elim
  |tup m =>
   unfold RW at F;obtain⟨a2,ys,rfl,g2,g3⟩:=F;cases R;obtain⟨O,vm,tm,_⟩:=I.tuple g2;have rc:=SeqAt.RcAt.tuples (e:=gl l m) Z tm M (a3 (n:=eL l) (by show A.units+1+eL l<cLine;omega) (AG _) h3 g3 vl vm);have a0:Ki.toArray.size=l.length:=by rw[AX,←vl.length,h3.length]
   have a1:O.toArray.size=m.length:=by rw[AX,←vm.length,g3.length]
   rw[a0,a1]at rc;have e:((List.range (min l.length m.length)).all (gl l m)&&l.length==m.length)=e9 (.tup l) (.tup m):=by
    unfold e9;by_cases U:l.length=m.length;rw[←U,Nat.min_self,zr l m U,A1,Cs];rw[W3 l m U,CU U,Bi]
   rw[e]at rc;exact rc
 |lst l =>
  have aa:=Y;unfold RW at Y;obtain⟨a,xs,rfl,h2,h3⟩:=Y;cases rv;obtain⟨Ki,vl,ab,_⟩:=I.list h2;have Z:=ab.isList;unfold fG at hu;cases q with
  |non=>unfold RW at F;subst F;cases R;exact SeqAt.RcAt.list_none Z M
  |bl _=>unfold RW at F;subst F;cases R;exact SeqAt.RcAt.list_bool _ Z M
  |int _=>unfold RW at F;subst F;obtain⟨t,rfl⟩:=R;exact SeqAt.RcAt.list_int _ _ Z M
  |str _=>unfold RW at F;subst F;obtain⟨t,rfl⟩:=R;exact SeqAt.RcAt.list_str _ _ Z M
  |tup _=>unfold RW at F;obtain⟨a,xs,rfl,h2,_⟩:=F;cases R;obtain⟨Ki,_,t,_⟩:=I.tuple h2;exact SeqAt.RcAt.list_tuple Z t M
  |ref _=>unfold RW at F;exact F.elim
  |dct=>unfold RW at F;exact F.elim
  |ty _=>unfold RW at F;exact F.elim
  |fn _=>unfold RW at F;exact F.elim
  |exc _ _=>unfold RW at F;exact F.elim
  |lst m =>
   unfold RW at F;obtain⟨a2,ys,rfl,g2,g3⟩:=F;cases R;obtain⟨O,vm,ac,_⟩:=I.list g2;have tm:=ac.isList;have a0:Ki.toArray.size=l.length:=by rw[AX,←vl.length,h3.length]
   have a1:O.toArray.size=m.length:=by rw[AX,←vm.length,g3.length]
   unfold e9;by_cases U:l.length=m.length
   ·have rc:=SeqAt.RcAt.lists (e:=gl l m) Z tm (by rw[a0,a1,U]) M (a3 (n:=eL l) (by show A.units+1+eL l<cLine;omega) (AG _) h3 g3 vl vm);rw[a0,zr l m U]at rc;exact rc
   ·rw[W3 l m U];exact SeqAt.RcAt.lists_lengths Z tm (by rw[a0,a1];exact bne_iff_ne.mpr U) M
 |non=>exact wX I _ q rfl M Y F rv R
 |bl _=>exact wX I _ q rfl M Y F rv R
 |int _=>exact wX I _ q rfl M Y F rv R
 |str _=>exact wX I _ q rfl M Y F rv R
 |ref _=>exact wX I _ q rfl M Y F rv R
 |dct=>exact wX I _ q rfl M Y F rv R
 |ty _=>exact wX I _ q rfl M Y F rv R
 |fn _=>exact wX I _ q rfl M Y F rv R
 |exc _ _=>exact wX I _ q rfl M Y F rv R
def Ia(I:L2.Inv X Kf σ H s)(p q:PV){v u:V}{uv uu:KR}{A:K1}(hu:A.units+(fG p+1)<cLine)(Y:RW X.K H p v)(F:RW X.K H q u)(rv:RelV v uv)(R:RelV u uu):SeqAt.RcNeAt A s uv uu (!e9 p q):=by
 have M:A.units<cLine:=Al (Nat.le_add_right _ _) hu;have a3:∀{n:Nat} {l m:KQ PV} {xs ys:KQ V} {Ki O:KQ KR},A.in1.units+n<cLine->eL l≤n->eK X.K H l xs->eK X.K H m ys->Vals xs Ki->Vals ys O->∀j (h1:j<Ki.toArray.size) (h2:j<O.toArray.size),SeqAt.EqAt A.in1 s Ki.toArray[j] O.toArray[j] (gl l m j):=fun {n l m xs ys Ki O} a5 a6 hl hm vl vm j h1 h2=>by
  have e1:Ki[j]? = some Ki.toArray[j]:=by simp
  have e2:O[j]? = some O.toArray[j]:=by simp
  obtain⟨x,hx,rx⟩:=Vals.get2 vl e1;obtain⟨y,hy,ry⟩:=Vals.get2 vm e2;obtain⟨p',a4,a7⟩:=eK.get' hl hx;obtain⟨q',a8,a9⟩:=eK.get' hm hy
  have:gl l m j=e9 p' q':=by unfold gl;rw[a4,a8]
  rw[this];exact kl I n p' q' x y _ _ A.in1 (Ab (zZ a4) a6) a5 a7 a9 rx ry
 cases p with
 |tup l =>
  have aa:=Y;unfold RW at Y;obtain⟨a,xs,rfl,h2,h3⟩:=Y;cases rv;obtain⟨Ki,vl,Z,_⟩:=I.tuple h2;unfold fG at hu;cases q with
  |non=>unfold RW at F;subst F;cases R;exact SeqAt.RcNeAt.tuple_none Z M
  |bl _=>unfold RW at F;subst F;cases R;exact SeqAt.RcNeAt.tuple_bool _ Z M
  |int _=>unfold RW at F;subst F;obtain⟨t,rfl⟩:=R;exact SeqAt.RcNeAt.tuple_int _ _ Z M
  |str _=>unfold RW at F;subst F;obtain⟨t,rfl⟩:=R;exact SeqAt.RcNeAt.tuple_str _ _ Z M
  |lst _=>unfold RW at F;obtain⟨a,xs,rfl,h2,_⟩:=F;cases R;obtain⟨Ki,_,t,_⟩:=I.list h2;exact SeqAt.RcNeAt.tuple_list Z t.isList M
  |ref _=>unfold RW at F;exact F.elim
  |dct=>unfold RW at F;exact F.elim
  |ty _=>unfold RW at F;exact F.elim
  |fn _=>unfold RW at F;exact F.elim
  |exc _ _=>unfold RW at F;exact F.elim
  |tup m =>
   unfold RW at F;obtain⟨a2,ys,rfl,g2,g3⟩:=F;cases R;obtain⟨O,vm,tm,_⟩:=I.tuple g2;have rc:=SeqAt.RcNeAt.tuples (e:=gl l m) Z tm M (a3 (n:=eL l) (by show A.units+1+eL l<cLine;omega) (AG _) h3 g3 vl vm);have a0:Ki.toArray.size=l.length:=by rw[AX,←vl.length,h3.length]
   have a1:O.toArray.size=m.length:=by rw[AX,←vm.length,g3.length]
   rw[a0,a1]at rc;have e:((List.range (min l.length m.length)).all (gl l m)&&l.length==m.length)=e9 (.tup l) (.tup m):=by
    unfold e9;by_cases U:l.length=m.length;rw[←U,Nat.min_self,zr l m U,A1,Cs];rw[W3 l m U,CU U,Bi]
   rw[e]at rc;exact rc
 |lst l =>
  have aa:=Y;unfold RW at Y;obtain⟨a,xs,rfl,h2,h3⟩:=Y;cases rv;obtain⟨Ki,vl,ab,_⟩:=I.list h2;have Z:=ab.isList;unfold fG at hu;cases q with
  |non=>unfold RW at F;subst F;cases R;exact SeqAt.RcNeAt.list_none Z M
  |bl _=>unfold RW at F;subst F;cases R;exact SeqAt.RcNeAt.list_bool _ Z M
  |int _=>unfold RW at F;subst F;obtain⟨t,rfl⟩:=R;exact SeqAt.RcNeAt.list_int _ _ Z M
  |str _=>unfold RW at F;subst F;obtain⟨t,rfl⟩:=R;exact SeqAt.RcNeAt.list_str _ _ Z M
  |tup _=>unfold RW at F;obtain⟨a,xs,rfl,h2,_⟩:=F;cases R;obtain⟨Ki,_,t,_⟩:=I.tuple h2;exact SeqAt.RcNeAt.list_tuple Z t M
  |ref _=>unfold RW at F;exact F.elim
  |dct=>unfold RW at F;exact F.elim
  |ty _=>unfold RW at F;exact F.elim
  |fn _=>unfold RW at F;exact F.elim
  |exc _ _=>unfold RW at F;exact F.elim
  |lst m =>
   unfold RW at F;obtain⟨a2,ys,rfl,g2,g3⟩:=F;cases R;obtain⟨O,vm,ac,_⟩:=I.list g2;have tm:=ac.isList;have a0:Ki.toArray.size=l.length:=by rw[AX,←vl.length,h3.length]
   have a1:O.toArray.size=m.length:=by rw[AX,←vm.length,g3.length]
   unfold e9;by_cases U:l.length=m.length
   ·have rc:=SeqAt.RcNeAt.lists (e:=gl l m) Z tm (by rw[a0,a1,U]) M (a3 (n:=eL l) (by show A.units+1+eL l<cLine;omega) (AG _) h3 g3 vl vm);rw[a0,zr l m U]at rc;exact rc
   ·rw[W3 l m U];exact SeqAt.RcNeAt.lists_lengths Z tm (by rw[a0,a1];exact bne_iff_ne.mpr U) M
 |non=>exact wU I _ q rfl M Y F rv R
 |bl _=>exact wU I _ q rfl M Y F rv R
 |int _=>exact wU I _ q rfl M Y F rv R
 |str _=>exact wU I _ q rfl M Y F rv R
 |ref _=>exact wU I _ q rfl M Y F rv R
 |dct=>exact wU I _ q rfl M Y F rv R
 |ty _=>exact wU I _ q rfl M Y F rv R
 |fn _=>exact wU I _ q rfl M Y F rv R
 |exc _ _=>exact wU I _ q rfl M Y F rv R
end
def res(st:qC)(p:PV):PV:=match gk st p with|some l=>.lst l|none=>p
def Zu{K:KY}{H:Hp}{b:Bz}{st:qC}{p:PV}{v:V}(S:SR K H b st)(r:RV K H b p v)(h:nr (res st p)=true):RW K H (res st p) v:=by
 unfold res at h ⊢;cases e:gk st p with|none=>rw[e]at h;exact RV.rw p h r|some l=>rw[e]at h;obtain⟨a,xs,rfl,F,I⟩:=w6 S r e;dsimp only at h ⊢;unfold nr at h;unfold RW;exact⟨a,xs,rfl,F,dS.rws l h I⟩
abbrev yZ:Nat:=60
def yn(p q:PV):Bool:=nr p&&nr q&&decide (fG p≤yZ)
def gEq:PV->PV->qC->Rs PV:=fun p q st=>if yn (res st p) (res st q)=true then .ok (.bl (e9 (res st p) (res st q))) st else .no
def gNe:PV->PV->qC->Rs PV:=fun p q st=>if yn (res st p) (res st q)=true then .ok (.bl (!e9 (res st p) (res st q))) st else .no
section
variable{X:Cx}{E:XK}{e a c d:K2}{es:KQ K2}{f fa fb fc:FE}{pos:Pos}
def kK(K:KY)(F:Bool):R2:=fun u v H Q=>∃p q,RW K H p u∧RW K H q v∧fG p≤yZ∧Q (.bl (if F then !e9 p q else e9 p q)) H
def Y8(U:X.A.units+64<cLine):fS X (compareOp .Eq) (kK X.K false):=by intro Kf s σ H x y v u Q I F M h;obtain⟨p,q,O,R,hd,h⟩:=h;exact EH I p q (by have:fG p≤60:=hd;omega) O R F M _ _ _ _ ⟨.bl _,H,I,rfl,h⟩
def W0(U:X.A.units+64<cLine):fS X (compareOp .NotEq) (kK X.K true):=by intro Kf s σ H x y v u Q I F M h;obtain⟨p,q,O,R,hd,h⟩:=h;exact Ia I p q (by have:fG p≤60:=hd;omega) O R F M _ _ _ _ ⟨.bl _,H,I,rfl,h⟩
def Yx{p q:PV}(h:yn p q=true):nr p=true∧nr q=true∧fG p≤yZ:=by unfold yn at h;rw[AY,AY]at h;exact⟨h.1.1,h.1.2,Az h.2⟩
def Jy:gL X E (kK X.K false) gEq:=by
 intro H b st p q u v Q S rp F P;unfold gEq at P;split at P;rename_i h;obtain⟨I,M,O⟩:=Yx h;exact⟨_,_,Zu S rp I,Zu S F M,O,dR.here P S ZE⟩;exact P.elim
def ZP:gL X E (kK X.K true) gNe:=by
 intro H b st p q u v Q S rp F P;unfold gNe at P;split at P;rename_i h;obtain⟨I,M,O⟩:=Yx h;exact⟨_,_,Zu S rp I,Zu S F M,O,dR.here P S ZE⟩;exact P.elim
def jb(F:X.A.units+64<cLine)(I:VE X E a fa)(M:VE X E c fb):VE X E (.Compare a [.Eq] [c] pos) (qN gEq fa fb):=Jj (Y8 F) Jy I M
def sj(F:X.A.units+64<cLine)(I:VE X E a fa)(M:VE X E c fb):VE X E (.Compare a [.NotEq] [c] pos) (qN gNe fa fb):=Jj (W0 F) ZP I M
def pin(x:PV):KQ PV->Bool|[]=>false|y::F=>e9 y x||pin x F
def ir(F:Bool):PV->PV->qC->Rs PV:=fun p q st=>match ZB st q with|some l=>if gp l=true∧nr (res st p)=true∧eL l≤yZ then .ok (.bl (if F then !pin (res st p) l else pin (res st p) l)) st else .no|none=>.no
def mC(K:KY)(F:Bool):R2:=fun u v H Q=>∃p l a xs,v= .ref a∧(fq K H a xs∨fA K H a xs)∧RW K H p u∧eK K H l xs∧eL l≤yZ∧Q (.bl (if F then !pin p l else pin p l)) H
def YT{X:Cx}{Kf:KQ (KU×Obj)}{σ:L2.St}{H:Hp}{s:KS}(I:L2.Inv X Kf σ H s){A:K1}{p:PV}{u:V}{R:KR}(hp:RW X.K H p u)(ru:RelV u R)(hA:A.units+60<cLine)
  {l:KQ PV} {xs:KQ V} {Ki:KQ KR} (U:eK X.K H l xs) (Y:Vals xs Ki) (hd:eL l≤yZ):∃g:KR->Bool,(∀y∈Ki,SeqAt.EqAt A s y R (g y))∧Ki.any g=pin p l:=by
 classical
 have F:∀(q:PV) (x:V) (y:KR),RW X.K H q x->RelV x y->decide (∃q x,RW X.K H q x∧RelV x y∧e9 q p=true)=e9 q p:=fun q x y Z M=>by
  by_cases O:e9 q p=true;rw[O];exact AS ⟨q,x,Z,M,O⟩
  ·rw[show e9 q p=false by simpa using O];refine AU fun⟨q',x',k1,k2,k3⟩=>O ?_;have ex:x'=x:=k2.inj M;subst ex;rw[RW.det I q q' Z k1];exact k3
 refine⟨fun y=>decide (∃q x,RW X.K H q x∧RelV x y∧e9 q p=true),fun y hy=>?_,?_⟩;obtain⟨i,hi⟩:=Bf hy;obtain⟨x,hx,rx⟩:=Vals.get2 Y hi;obtain⟨q,hq,rq⟩:=eK.get' U hx;dsimp only;rw[F q x y rq rx];exact kl I 60 q p x u y R A (Ab (zZ hq) hd) hA rq hp rx ru
 ·have go:∀(l:KQ PV) (xs:KQ V) (Ki:KQ KR),eK X.K H l xs->Vals xs Ki->Ki.any (fun y=>decide (∃q x,RW X.K H q x∧RelV x y∧e9 q p=true))=pin p l:=by
   intro l;induction l with
   |nil=>intro xs Ki h v;unfold eK at h;subst h;cases v;rfl
   |cons q qs ih =>
    intro xs Ki h v;unfold eK at h;obtain⟨x,r,rfl,M,h3⟩:=h;cases v with|cons rv vr=>rw[List.any_cons,F q x _ M rv,ih _ _ h3 vr];rfl
  exact go l xs Ki U Y
def ur(hr:X.A.units+64<cLine):fS X (compareOp .In) (mC X.K false):=by
 intro Kf s σ H x y v u Q I U ry h;obtain⟨p,l,a,xs,rfl,hs,Y,Z,hd,h⟩:=h;cases ry;have hA:X.A.in1.units+60<cLine:=by show X.A.units+1+60<cLine;omega
 rcases hs with hs|hs
 ·obtain⟨Ki,F,t,_⟩:=I.list hs;obtain⟨g,M,O⟩:=YT I Y U hA Z F hd;exact SeqAt.in_listAt g t.isList (fun y R=>M y (by simpa using R)) ⟨.bl _,H,I,by show _=_;rw[List.any_toArray,O];rfl,h⟩
 ·obtain⟨Ki,F,t,_⟩:=I.tuple hs;obtain⟨g,M,O⟩:=YT I Y U hA Z F hd;exact SeqAt.in_tupleAt g t (fun y R=>M y (by simpa using R)) ⟨.bl _,H,I,by show _=_;rw[List.any_toArray,O];rfl,h⟩
def v5(hr:X.A.units+64<cLine):fS X (compareOp .NotIn) (mC X.K true):=by
 intro Kf s σ H x y v u Q I U ry h;obtain⟨p,l,a,xs,rfl,hs,Y,Z,hd,h⟩:=h;cases ry;have hA:X.A.in1.units+60<cLine:=by show X.A.units+1+60<cLine;omega
 rcases hs with hs|hs
 ·obtain⟨Ki,F,t,_⟩:=I.list hs;obtain⟨g,M,O⟩:=YT I Y U hA Z F hd;exact SeqAt.notIn_listAt g t.isList (fun y R=>M y (by simpa using R)) ⟨.bl _,H,I,by show _=_;rw[List.any_toArray,O];rfl,h⟩
 ·obtain⟨Ki,F,t,_⟩:=I.tuple hs;obtain⟨g,M,O⟩:=YT I Y U hA Z F hd;exact SeqAt.notIn_tupleAt g t (fun y R=>M y (by simpa using R)) ⟨.bl _,H,I,by show _=_;rw[List.any_toArray,O];rfl,h⟩
def r9{F:Bool}:gL X E (mC X.K F) (ir F):=by
 intro H b st p q u v Q S rp I P;unfold ir at P;split at P
 ·rename_i l el;split at P;rename_i M;obtain⟨O,R,U⟩:=M;obtain⟨a,xs,rfl,Y,Z⟩:=zi S I el;exact⟨_,l,a,xs,rfl,Y,Zu S rp R,dS.rws l O Z,U,dR.here P S ZE⟩;exact P.elim
 ·exact P.elim
end
end EV
end
section
namespace EV
open PySem PySem.Spec PyProof.Rows L2 EX
section
variable{X:Cx}{E:XK}{e a c d:K2}{es:KQ K2}{f fa fb fc:FE}{pos:Pos}{F G:FS}
def qJQ:FS:=fun _ _=>.no
def rN{st:Stmt}:VS X E st qJQ:=PS.imp IQ fun D s H ⟨b,r,st,S,R,P⟩=>P.elim
def Jc(C:KU)(t:FA):FS:=fun r st=>match t r st with| .ok ps s=>if ps.length≤sizeLine then .ex ⟨C,[]⟩ s else .no| .ex x s=>.ex x s| .no=>.no
def Im{x:Str}{C:KU}{t:FA}{O Kq:Pos}(hz:Rz X E)(U:X.calm=true)(Y:Gl X x)(Z:X.mg x=some (.ref C))(q:W.excIn X.K C hX "ValueError.__new__" = true)(ha:VA X E (e::es) t)(F:(x==("__debug__":Str))=false:=by decide)
  (he:starEach (e::es) X.env=(false,eval e X.env)::starEach es X.env:=by rfl) (Ku:(backTo Kq (starEach es X.env)).any (·.1)=false:=by rfl):VS X E (.Raise (some (.Call (.Name x O) (e::es) [] Kq)) none pos) (Jc C t) :=
 PS.imp (um hz U Y Z q ha F he Ku) fun D s H ⟨b,r,st,S,R,P⟩=>⟨b,r,st,S,R,by
  unfold Jc at P;cases I:t r st with
  |no=>rw[I]at P;exact P.elim
  |ex x s1=>rw[I]at P;exact P
  |ok ps s1 =>
   rw[I]at P;dsimp only at P;by_cases M:ps.length≤sizeLine;rw[AE M]at P;exact fun vs H' b' e' S' r'=>⟨by rw[←r'.length];exact M,P (.ref C) none H' b' e' S' ⟨rfl,.inl ⟨rfl,rfl⟩⟩⟩;rw[AD M]at P;exact P.elim⟩
def eD.lose{K:KY}{H:Hp}{b:Bz}{r:ql}{s:L2.St}(h:eD K H b r s)(i:Nat):eD K H b (r.set i none) (s.set i none):=by
 refine⟨by simp[h.1],fun j q F=>?_⟩;by_cases I:i=j
 ·subst I;by_cases M:i<r.length;rw[BT M]at F;cases F;rw[Bs (by simpa using M)]at F;cases F
 ·rw[Bb I]at F ⊢;exact h.2 j q F
def Yd(i n:Nat)(cs:KQ KU)(M O:FS):FS:=fun r st=>match M r st with
 | .ex x s=>if x.cls∈cs then (match O ((List.replicate n none).set i (some (.exc x.cls x.fs))) s with
  | .nx I F=>.nx (I.set i none) F
  | .bk I F=>.bk (I.set i none) F
  | .ct I F=>.ct (I.set i none) F
  | .rt v F=>.rt v F
  | .ex _ _=>.no
  | .no=>.no) else .no
 |o=>o
def ti{x n:Str}{Bx:KU}{dd:KW KU}{cd:ClassData}{sl:K3 (KW KR)}{O:KQ Stmt}{b0:Stmt}{I:KQ Stmt}{np a0:Pos}{cs:KQ KU}{Fb Fh:FS}(i:Nat)(FX:g8 X)(hc:X.calm=true)(hN:X.N.Nodup)
  (hg:Gl X x) (hm:X.mg x=some (.ref Bx)) (o1:X.K.lookup Bx=some ⟨.type "type",dd,.cls cd,sl⟩) (m1:W.mroIn X.K Bx (.type "BaseException")=some true) (a3:∀C∈cs,W.mroIn X.K C (.ref Bx)=some true)
  (hb:∀(Kf:KQ (KU×Obj)) (xe:KR->KS->Prop) (E':XK),ZD (fB X.prog X.w) (iD X Kf xe) E'->gK (iD X Kf xe) E' O Fb) (hh:∀ea,gK (iU X ea) E0 (b0::I) Fh)
  (hi:X.N[i]? = some n:=by rfl) (hl:X.env.scope.names.lookup n=some .local:=by rfl) (a4:(x==("__debug__":Str))=false:=by decide) :
  VS X E (.Try O [.ExceptHandler (some (.Name x np)) (some n) (b0::I) a0] [] [] pos) (Yd i X.N.length cs Fb Fh):=by
 refine PS.imp (vp (ok:=fun v=>∃C∈cs,v= .ref C) (tb:=fun E'=>kd X.K E' Fb) (th:=kd X.K E0 Fh) FX hc hN hi hl hg hm o1 m1 (fun v ⟨C,hC,e⟩=>⟨C,e,a3 C hC⟩) hb hh a4) fun D σ H ⟨b,r,st,S,R,P⟩=>⟨b,r,st,S,R,?_⟩;unfold Yd at P;cases eb:Fb r st with
 |nx r' U=>rw[eb]at P;exact P
 |rt r' U=>rw[eb]at P;exact P
 |bk r' U=>rw[eb]at P;exact P
 |ct r' U=>rw[eb]at P;exact P
 |no=>rw[eb]at P;exact P
 |ex x s1 =>
  rw[eb]at P;dsimp only at P;by_cases hx:x.cls∈cs
  ·rw[AE hx]at P;intro c d H' b' e' S' rx;obtain⟨rc,rf⟩:=rx;refine⟨⟨x.cls,hx,rc⟩,fun σ' ea oe Y hn a1 M Z=>⟨b',(List.replicate X.N.length none).set i (some (.exc x.cls x.fs)),s1,S'.new hn,⟨by simp[Y],fun j p hp=>?_⟩,?_⟩⟩
   ·by_cases hj:i=j
    ·subst hj;have a2:i<X.N.length:=(AT.mp hi).1;rw[BT (by simpa using a2)]at hp;cases hp;refine⟨.ref ea,by rw[BT (by rw[Y];exact a2)],?_⟩;unfold RV;refine⟨ea,oe,_,rfl,qS,S'.new_notin hn,a1.trans rc,Z,rf.imp (fun q=>⟨q.1,M.trans q.2⟩) fun⟨a,q1,q2,q3⟩=>⟨a,M.trans q1,by rw[qG (qL q2 hn)];exact q2,q3⟩⟩
    ·rw[Bb hj,CJ]at hp;split at hp <;> cases hp
   ·have F:=dZ.ext P (e'.trans (dY.new (o:=.frz oe kr) hn));cases eh:Fh ((List.replicate X.N.length none).set i (some (.exc x.cls x.fs))) s1 with|nx r' U=>rw[eh]at F;exact fun s2 H2 b2 e2 S2 R2=>F _ H2 b2 e2 S2 (R2.lose i)|bk r' U=>rw[eh]at F;exact fun s2 H2 b2 e2 S2 R2=>F _ H2 b2 e2 S2 (R2.lose i)|ct r' U=>rw[eh]at F;exact fun s2 H2 b2 e2 S2 R2=>F _ H2 b2 e2 S2 (R2.lose i)|rt v U=>rw[eh]at F;exact F|ex y U=>rw[eh]at F;exact F.elim|no=>rw[eh]at F;exact F.elim
  ·rw[AD hx]at P;exact P.elim
def iy:PV->KW KR| .non=>some (.type "NoneType")| .bl _=>some (.type "bool")| .int _=>some (.type "int")| .str _=>some (.type "str")| .tup _=>some (.type "tuple")| .lst _=>some (.type "list")| .ref _=>some (.type "list")| .dct=>some (.type "dict")| .exc c _=>some (.ref c)|_=>none
def i8:PV->KW KR| .ty n=>some (.type n)| .fn a=>some (.ref a)|_=>none
def iY(kit:KR->KR->KW Bool)(p c:PV):KW Bool:=match iy p,i8 c with|some t,some c=>kit t c|_,_=>none
def iE(kit:KR->KR->KW Bool)(p:PV):KQ PV->KW Bool
 |[]=>some false
 |c::r=>match iY kit p c with|some true=>some true|some false=>iE kit p r|none=>none
def mR(kit:KR->KR->KW Bool)(p:PV):PV->KW Bool| .tup cs=>if (iy p).isSome then iE kit p cs else none|c=>iY kit p c
structure gq (K:W.Frag) (kit:Value->Value->Option Bool):Prop where
 one:∀t c b,kit t c=some b->W.kitOne K t c=some b
 exc:∀a c b,kit (.ref a) c=some b->g9 K a
end
end EV
end
section
namespace EX
open PySem PySem.Spec PyProof.Rows L2
def ot{X:Cx}{Kf:KQ (KU×Obj)}{σ:L2.St}{H:Hp}{s:KS}(I:L2.Inv X Kf σ H s){fp:KQ KU}(M:∀b∈fp,zf X Kf H b){h':Heap}{t':Nat}{x y:V}{u v:KR}(U:RelV x u)(Y:RelV y v)
  (k:∀b o,b∉fp->s.heap.get? b=some o->h'.get? b=some o) (kf:∀b∈fp,∃o,h'.get? b=some o) (Z:IsPair h' s.heap.objs.size u v):L2.Inv X Kf σ (dW H s.heap.objs.size (.tup [x,y])) { s with heap:=h',toks:=t' }:=by
 have O:H s.heap.objs.size=none:=I.hok.fresh (AG _);have nt:∀b o,s.heap.get? b=some o->b≠s.heap.objs.size:=fun b o e=>Aa (AL e);have R:∀b u,H b=some u->b∉fp:=fun b u e z=>by rw[(M b z).1]at e;cases e
 have un:Un (fE X.stack) fp H (dW H s.heap.objs.size (.tup [x,y])) s.heap h' :=
  ⟨fun b o e _ _ F=>k b o F e,fun b o e _ _ F=>⟨o.slots,k b o F e⟩,fun b o e n _=>by rw[qG (nt b o e)];exact n,fun b o e F=>⟨o,k b o F e⟩,fun b xs e=>by rw[qG (qL e O)];exact e,fun b o u e=>by rw[qG (qL e O)];exact e,fun b ps e=>⟨#[],by rw[qG (qL e O),e];simp⟩⟩
 refine I.call (g':=s.gens) (d':=s.drawn) (t':=t') (ch:=fp) un (fun b u' e=>?_) I.bare fun b F=>⟨(M b F).2.2.2.1,(M b F).2.1,(M b F).2.2.2.2.1,(M b F).2.2.2.2.2⟩;by_cases F:b=s.heap.objs.size;subst F;rw[qS]at e;cases e;exact⟨by show 2≤sizeLine;decide,[u,v],.cons U (.cons Y .nil),_,Z,rfl,0,rfl⟩
 ·rw[qG F]at e;refine (I.hok b u' e).stay (fun c w hc q=>k c w ?_ q) (fun c q=>by rw[qG (qL q O)];exact q) fun c xs q=>by rw[qG (qL q O)];exact q
  rcases hc with rfl|hc
  ·exact R _ _ e
  ·exact R _ _ hc
section
variable{X:Cx}
def Gy(K:KY):R2:=fun x y H Q=>∃l b xs F,x= .ref l∧y= .ref b∧fq K H l xs∧fq K H b F∧xs.length+F.length≤sizeLine∧∀p,H p=none->Q (.ref p) (dW H p (.lst (xs++F)))
theorem E7:fS X (binaryOp .Add) (Gy X.K):=by
 intro Kf s σ H x y v u Q I rx ry h;obtain⟨l,b,xs,zs,rfl,rfl,h1,h2,Y,q⟩:=h;cases rx;cases ry;obtain⟨us,Z,p1,_⟩:=I.list h1;obtain⟨ws,r2,p2,_⟩:=I.list h2;obtain⟨⟨c1,d1,a1,s1⟩,o1,M,m1,O⟩:=id p1.isList;obtain⟨⟨c2,d2,a2,s2⟩,o2,R,m2,U⟩:=id p2.isList;have M:c1=_:=M;have R:c2=_:=R;have O:a1=_:=O;have U:a2=_:=U;subst M;subst R;subst O;subst U;have z:us.length+ws.length≤sizeLine:=by rw[←Z.length,←r2.length];exact Y
 refine concat_meets ⟨_,o1,rfl⟩ ⟨_,o2,rfl⟩ noFill_list_add seq_list_add F.slot_list_add F.entry_list_add (F.args_list_add_2 _ _) (list_addW l b us.toArray ws.toArray m1 m2 d1 d2 s1 s2 (by simpa using z)) ⟨o1,o2,?_⟩;rw[show us.toArray++ws.toArray=(us++ws).toArray by simp];exact⟨.ref _,_,I.lnew (t':=s.toks) (Z.append r2) (by rw[Ac];exact Y),rfl,q _ I.fresh⟩
def Is(K:KY):R2:=fun x y H Q=>∃a b xs F,x= .ref a∧y= .ref b∧fA K H a xs∧fA K H b F∧xs.length+F.length≤sizeLine ∧
 (xs=[]->Q (.ref b) H)∧(xs≠[]->F=[]->Q (.ref a) H)∧(xs≠[]->F≠[]->∀p,H p=none->Q (.ref p) (dW H p (.tup (xs++F))))
theorem HF:fS X (binaryOp .Add) (Is X.K):=by
 intro Kf s σ H x y v u Q I Z ry h;obtain⟨a,b,xs,ys,rfl,rfl,ha,hb,hz,q0,q1,q2⟩:=h;by_cases M:xs=[];cases Z;cases ry;obtain⟨us,r1,p1,_⟩:=I.tuple ha;obtain⟨ws,r2,p2,_⟩:=I.tuple hb;obtain⟨⟨c1,d1,a1,s1⟩,o1,O,m1,R⟩:=id p1;obtain⟨⟨c2,d2,a2,s2⟩,o2,U,m2,Y⟩:=id p2;have O:c1=_:=O;have U:c2=_:=U;have R:a1=_:=R;have Y:a2=_:=Y;subst O;subst U;subst R;subst Y;exact concat_meets ⟨_,o1,rfl⟩ ⟨_,o2,rfl⟩ noFill_tuple_add seq_tuple_add F.slot_tuple_add F.entry_tuple_add (F.args_tuple_add_2 _ _) (tuple_addW0 a b us.toArray ws.toArray m1 m2 d1 d2 s1 s2 (by simp[r1.nil_iff.mpr M])) ⟨o1,o2,.ref b,H,I,rfl,q0 M⟩;exact Gm Kf s σ H _ _ v u Q I Z ry ⟨a,b,xs,ys,rfl,rfl,ha,hb,M,hz,q1 M,q2 M⟩
def D1(K:KY):V->KW Int->KW Int->Hp->VK->Prop:=fun x lo hi H Q=>∃a xs,x= .ref a∧fA K H a xs∧HT.sIx xs.length 0 lo=0∧HT.sIx xs.length xs.length hi=xs.length∧Q (.ref a) H
def Hi:iP X (D1 X.K):=by
 intro Kf s σ H x v vl vu lo hi sl Q I Y hs pl Z h;obtain⟨a,xs,rfl,hx,w1,w2,q⟩:=h;cases Y;obtain⟨Ki,r,F,hz⟩:=I.tuple hx;have M:Ki.toArray.size=xs.length:=by rw[AX];exact r.length.symm
 refine⟨"tuple",_,PyProof.Rows.slot_tuple_getitem.lookup,F.typeIs,?_⟩;obtain⟨os,O,R,a0⟩:=id hs;have U:s.TypeIs (.ref sl) "slice" :=⟨os,O,R⟩;unfold getItem;try with_reducible refine Aq ?_
 first|refine AA (AB ?_)|skip
 refine AA (wpAny_sequenceKey F.typeIs (by decide) ?_);refine AA (A0 (name:=Str.ofString "__getitem__") F.typeIs BZ (As BZ F.typeIs PyProof.Rows.entry_tuple_getitem ?_ (PyProof.Rows.args_tuple_getitem _ _)));show wpAny _ _ (Builtin.Tuple.tupleItemsOf (.ref a) >>= _) _ _ s;refine AA (tupleItemsOf_ F ?_);refine AA (Bp U ?_);rw[AE (by decide)];refine AA (HT.sliceApplied_gen hs pl Z ?_);rw[M,w1,w2];dsimp only;rw[AE (show ((((0:Nat):Int)==0&&(1:Int)==1&&xs.length-0==xs.length)=true) by simp)];unfold Builtin.Tuple.tupleIsExact;refine AA (AA (Bp F.typeIs (AB ?_)));rw[AE (by simp)];exact AA (Cu (AB ⟨_,rfl,AB ⟨.ref a,H,I,rfl,q⟩⟩))
def PJ(X:Cx)(es:KQ K2)(t:Str->L2.St->Hp->(Str->Hp->Prop)->Prop):Prop:=∀(out:Str) (Kf:KQ (KU×Obj)) (s:KS) (σ:L2.St) (H:Hp) (Q:Str->Hp->Prop),L2.Inv X Kf σ H s->t out σ H Q ->
 wpAny (model X.prog X.w) X.A (joinParts out (evalEach es X.env)) (fun u F=>∃x H',L2.Inv X Kf σ H' F∧(∃t,u= .str x t)∧Q x H') X.xe s
def ua:PJ X [] (fun out _ H Q=>out.length≤sizeLine∧Q out H):=fun out Kf s σ H Q I h=>joinParts_nil ⟨out,H,I.tok _,⟨_,rfl⟩,h.2⟩ h.1
def vn{e:K2}{es:KQ K2}{F:TE}{t:Str->L2.St->Hp->(Str->Hp->Prop)->Prop}(M:PE X e F)(O:PJ X es t):PJ X (e::es) (fun out σ H Q=>F σ H fun v H1=>∃y,v= .str y∧(out++y).length≤sizeLine∧t (out++y) σ H1 Q) :=
 fun out Kf s σ H Q I h=>joinParts_cons (eE (M Kf s σ H _ I h) fun u s1 ⟨v,H1,R,U,y,e,z,q⟩=>by
  subst e;obtain⟨Y,rfl⟩:=U;exact⟨z,O (out++y) Kf s1 σ H1 Q R q⟩)
def xZ{e:K2}{F:TE}{pos:Pos}(h:PE X e F):PE X (.FormattedValue e (-1) none pos) (fun σ H Q=>F σ H fun v H1=>∃i,v= .int i∧i.natAbs.log2<1920∧Q (.str (toString i)) H1) :=
 fun Kf s σ H Q I q=>FormattedValue_plain (eE (h Kf s σ H _ I q) fun u s1 ⟨v,H1,M,O,i,e,z,q⟩=>by
  subst e;obtain⟨R,rfl⟩:=O;exact wpAny_formatField_int z ⟨.str _,H1,M.tok _,⟨_,rfl⟩,q⟩)
def tB{F M:K2}{es:KQ K2}{t:Str->L2.St->Hp->(Str->Hp->Prop)->Prop}{pos:Pos}(h:PJ X (F::M::es) t):PE X (.JoinedStr (F::M::es) pos) (fun σ H Q=>t Str.empty σ H fun x H1=>Q (.str x) H1) :=
 fun Kf s σ H Q I q=>JoinedStr_many (eE (h Str.empty Kf s σ H _ I q) fun u s1 ⟨x,H1,O,R,U⟩=>⟨.str x,H1,O,R,U⟩)
end
end EX
end
section
namespace EV
open PySem PySem.Spec PyProof.Rows L2 EX
section
variable{X:Cx}{E:XK}{e a c d:K2}{es:KQ K2}{f fa fb fc:FE}{pos:Pos}{F G:FS}
def Wu{x:Str}{n:String}{pos:Pos}(F:Gl X x)(I:X.mg x=none)(M:bootBuiltins x=some (.type n))(O:x ≠ "__name__" :=by decide)(hd:(x==("__debug__":Str))=false:=by decide):VE X E (.Name x pos) (vC (.ty n)) :=
 iL (Hn (v:=.ty n) F I M rfl O hd) fun _ _=>by unfold RV;rfl
def ZL{x:Str}{a:KU}{pos:Pos}(F:Gl X x)(I:X.mg x=some (.ref a))(hd:(x==("__debug__":Str))=false:=by decide):VE X E (.Name x pos) (vC (.fn a)) :=
 iL (pS (v:=.ref a) F I rfl hd) fun _ _=>by unfold RV;rfl
def lk(st:qC):PV->Bool
 | .ref i=>match st[i]? with|some (.l _)=>true|_=>false
 |_=>true
def nE{kit:KR->KR->KW Bool}(hk:gq X.K kit){Kf:KQ (KU×Obj)}{σ:L2.St}{H:Hp}{s:KS}(I:L2.Inv X Kf σ H s){b:Bz}{st:qC}(S:SR X.K H b st){p:PV}{v:V}{u t:KR}(r:RV X.K H b p v)(Y:RelV v u)(O:iy p=some t)(F:lk st p=true)(hx:∀a,t= .ref a->g9 X.K a) :
  ∃Hh,W.KitX X.K u t Hh∧Hh s.heap∧u≠ .builtin "__main__.__loader__#opaque" :=by
 cases p with
 |non=>unfold RV at r;subst r;cases O;cases (show u=Value.none from Y);exact⟨_,W.kitx_none,trivial,fun z=>nomatch z⟩
 |bl x=>unfold RV at r;subst r;cases O;cases (show u=Value.bool x from Y);exact⟨_,W.kitx_bool,trivial,fun z=>nomatch z⟩
 |int x=>unfold RV at r;subst r;cases O;obtain⟨t,rfl⟩:=(show ∃t,u=Value.int x t from Y);exact⟨_,W.kitx_int,trivial,fun z=>nomatch z⟩
 |str x=>unfold RV at r;subst r;cases O;obtain⟨t,rfl⟩:=(show ∃t,u=Value.str x t from Y);exact⟨_,W.kitx_str,trivial,fun z=>nomatch z⟩
 |tup l=>unfold RV at r;obtain⟨a,xs,rfl,R,Z⟩:=r;cases O;cases (show u=Value.ref a from Y);obtain⟨Ki,_,⟨o,U,M,_⟩,_⟩:=I.tuple R.sq;exact⟨_,W.kitx_tuple,⟨o,U,M⟩,fun z=>nomatch z⟩
 |lst l=>unfold RV at r;obtain⟨a,xs,rfl,R,Z⟩:=r;cases O;cases (show u=Value.ref a from Y);obtain⟨Ki,_,⟨o,n,U,M,_⟩,_⟩:=I.list R.sq;exact⟨_,W.kitx_list,⟨o,U,M⟩,fun z=>nomatch z⟩
 |ref i =>
  unfold RV at r;obtain⟨a,rfl,R⟩:=r;cases O;cases (show u=Value.ref a from Y);have hl:i<st.length:=by rw[←S.len];exact (AT.mp R).1
  obtain⟨a',o,Z,U,M⟩:=S.at_ i _ (AJ hl);rw[R]at Z;cases Z;have hq:∃vs,o= .lst vs:=by
   cases hx:st[i] with|l xs=>rw[hx]at M;obtain⟨vs,e,_⟩:=M;exact⟨vs,e⟩|z xs=>unfold lk at F;dsimp only at F;rw[AJ hl,hx]at F;cases F|d xs=>unfold lk at F;dsimp only at F;rw[AJ hl,hx]at F;cases F
  obtain⟨vs,rfl⟩:=hq;obtain⟨Ki,_,⟨o,n,h6,h7,_⟩,_⟩:=I.list (fq.of U);exact⟨_,W.kitx_list,⟨o,h6,h7⟩,fun z=>nomatch z⟩
 |dct=>unfold RV at r;obtain⟨a,rfl,R,Z⟩:=r;cases O;cases (show u=Value.ref a from Y);obtain⟨_,_,vs,_,o,_,_,U,M,_⟩:=(show ey X.prog X.w H s.heap a (.dK []) from I.hok a _ R);exact⟨_,W.kitx_dict,⟨o,U,M.1⟩,fun z=>nomatch z⟩
 |exc c fs =>
  unfold RV at r;obtain⟨a,o,w,rfl,R,Z,U,⟨vs,h6⟩,M⟩:=r;cases O;cases (show u=Value.ref a from Y);have ho:s.heap.get? a=some o:=(I.hok a _ R).1;have hn:W.notCls o=true:=by obtain⟨c',d',dt,sl⟩:=o;have h6:dt=_:=h6;subst h6;rfl
  refine⟨_,DZ (hx c rfl),?_,fun z=>nomatch z⟩;rcases M with⟨_,M⟩|⟨d,M,h7,h8⟩
  ·exact⟨o,none,ho,U,hn,by rw[M];trivial⟩
  ·obtain⟨od,h9⟩:=rP (I.hok d _ h7);exact⟨o,some od,ho,U,hn,by rw[M];exact h9⟩
 |ty n=>cases O
 |fn n=>cases O
def rQ{K:KY}{H:Hp}{b:Bz}{c:PV}{v:V}{u t:KR}(r:RV K H b c v)(I:RelV v u)(F:i8 c=some t):u=t:=by
 cases c with|ty n=>unfold RV at r;subst r;cases F;exact I|fn a=>unfold RV at r;subst r;cases F;exact I|_=>cases F
def rC{kit:KR->KR->KW Bool}(I:gq X.K kit){H:Hp}{b:Bz}{p:PV}{t:KR}(M:iy p=some t):∀{cs:KQ PV} {xs:KQ V} {us:KQ KR} {k:Bool},dS X.K H b cs xs->Vals xs us->iE kit p cs=some k->W.kitAny X.K t us=some k
 |[],_,_,k,h,r,e=>by unfold dS at h;subst h;cases r;exact e
 |c::cs,_,_,k,h,r,e=>by
  unfold dS at h;obtain⟨x,xs,rfl,O,R⟩:=h;cases r with
  | @cons _ u _ us U Y =>
   unfold iE iY at e;rw[M]at e;cases F:i8 c with
   |none=>rw[F]at e;cases e
   |some c' =>
    rw[F]at e;have Z:=rQ O U F;subst Z;dsimp only at e;unfold W.kitAny;cases q:kit t u with
    |none=>rw[q]at e;cases e
    |some bb =>
     rw[q]at e;rw[I.one _ _ _ q];cases bb with|true=>exact e|false=>exact rC I M R Y e
def uj{kit:KR->KR->KW Bool}(I:gq X.K kit){p:PV}{t:KR}(M:iy p=some t):∀{cs:KQ PV} {k:Bool},cs≠[]->iE kit p cs=some k->∀a,t= .ref a->g9 X.K a
 |[],_,h,_,_,_=>absurd rfl h
 |c::cs,k,_,e,a,O=>by
  unfold iE iY at e;rw[M]at e;cases F:i8 c with
  |none=>rw[F]at e;cases e
  |some R =>
   rw[F]at e;dsimp only at e;cases q:kit t R with|none=>rw[q]at e;cases e|some U=>subst O;exact I.exc _ _ _ q
def uh{kit:KR->KR->KW Bool}(O:gq X.K kit):Wi X (.builtin "isinstance") (fun vs H Q=>∃b st p c k,SR X.K H b st∧dS X.K H b [p,c] vs∧(∀cs,c= .tup cs->cs≠[])∧lk st p=true∧mR kit p c=some k∧Q (.bl k) H):=by
 intro Kf s σ H xs us Q I r h;obtain⟨b,st,p,c,k,S,rs,U,R,e,q⟩:=h;obtain⟨x,y,rfl,r1,Y⟩:=dS.two rs;obtain⟨u,v,rfl,ru,rv⟩:=jv r;by_cases hc:∃cs,c= .tup cs
 ·obtain⟨cs,rfl⟩:=hc;have e:(if (iy p).isSome then iE kit p cs else none)=some k:=e;cases F:iy p with|none=>rw[F]at e;cases e|some t=>rw[F]at e;have e:iE kit p cs=some k:=e;obtain⟨Hh,Z,hh,hx⟩:=nE O I S r1 ru F R (uj O F (U cs rfl) e);unfold RV at Y;obtain⟨a,ys,rfl,h2,h3⟩:=Y;cases (show v=Value.ref a from rv);obtain⟨Ki,r',⟨o,h4,h5,n,h6⟩,_⟩:=I.tuple h2.sq;obtain⟨c1,d1,dt,sl⟩:=o;have h5:c1=_:=h5;have h6:dt=_:=h6;subst h5;subst h6;exact W.kia_tup Z I.kIn hh h4 (rC O F h3 r' e) hx fun tk=>⟨.bl k,H,I.tok _,rfl,q⟩
 ·have e:iY kit p c=some k:=by cases c <;> first|exact e|exact (hc ⟨_,rfl⟩).elim
  unfold iY at e;cases F:iy p with
  |none=>rw[F]at e;cases e
  |some t =>
   cases M:i8 c with
   |none=>rw[F,M]at e;cases e
   |some c' =>
    rw[F,M]at e;have eu:=rQ Y rv M;subst eu;obtain⟨Hh,Z,hh,hx⟩:=nE O I S r1 ru F R (fun a ha=>by subst ha;exact O.exc _ _ _ e);exact W.kia_one Z I.kIn hh (O.one _ _ _ e) hx fun tk=>⟨.bl k,H,I.tok _,rfl,q⟩
def QU(kit:KR->KR->KW Bool):KQ PV->qC->Rs PV:=fun ps st=>match ps with
 |[p,c]=>match c with
  | .tup []=>.no
  |c=>match mR kit p c with|some b=>if lk st p=true then .ok (.bl b) st else .no|none=>.no
 |_=>.no
def Qd{kit:KR->KR->KW Bool}{M:FA}{p:Pos}(O:gq X.K kit)(R:X.mg "isinstance" = none)(U:VA X E (e::es) M)(Y:Gl X "isinstance" :=by rfl)
  (he:starEach (e::es) X.env=(false,eval e X.env)::starEach es X.env:=by rfl) (Ku:(backTo pos (starEach es X.env)).any (·.1)=false:=by rfl):VE X E (.Call (.Name "isinstance" p) (e::es) [] pos) (qK (QU kit) M) :=
 Wd (uh O) (fun H b st ps vs Q S r P=>by
  unfold QU at P;split at P
  ·rename_i p c;split at P;exact P.elim
   ·rename_i Z;split at P
    ·rename_i k F;split at P;rename_i I;exact⟨b,st,p,c,k,S,r,fun cs e z=>by subst e;subst z;exact Z rfl,I,F,dR.here P S ZE⟩;exact P.elim
    ·exact P.elim
  ·exact P.elim) Y R PyProof.Rows.boot_isinstance U (he:=he) (Ku:=Ku)
end
def kz:PV->KW Bool| .bl b=>some b|_=>none
def YN:PV->KW Int| .int i=>some i|_=>none
def QV{α:Type}(f:PV->KW α):KQ PV->KW (KQ α)
 |[]=>some []
 |p::ps=>match f p with
  |some a=>match QV f ps with|some r=>some (a::r)|none=>none
  |none=>none
section
variable{X:Cx}{E:XK}{e a c d:K2}{es:KQ K2}{f fa fb fc:FE}{pos:Pos}{F G:FS}
def nA{K:KY}{H:Hp}{b:Bz}:∀{l:KQ PV} {xs:KQ V} {bs:KQ Bool},dS K H b l xs->QV kz l=some bs->xs=bs.map V.bl
 |[],_,_,h,e=>by unfold dS at h;subst h;cases e;rfl
 |p::ps,_,bs,h,e=>by
  unfold dS at h;obtain⟨x,r,rfl,F,I⟩:=h;unfold QV at e;cases p with
  |bl k =>
   unfold RV at F;subst F;cases q:QV kz ps with|none=>rw[q]at e;cases e|some M=>rw[q]at e;cases e;rw[nA I q];rfl
  |_=>cases e
def yD{K:KY}{H:Hp}{b:Bz}:∀{l:KQ PV} {xs:KQ V} {bs:KQ Int},dS K H b l xs->QV YN l=some bs->xs=bs.map V.int
 |[],_,_,h,e=>by unfold dS at h;subst h;cases e;rfl
 |p::ps,_,bs,h,e=>by
  unfold dS at h;obtain⟨x,r,rfl,F,I⟩:=h;unfold QV at e;cases p with
  |int k =>
   unfold RV at F;subst F;cases q:QV YN ps with|none=>rw[q]at e;cases e|some M=>rw[q]at e;cases e;rw[yD I q];rfl
  |_=>cases e
def J5{α:Type}(k:PV->KW α)(g:KQ α->PV):KQ PV->qC->Rs PV:=fun ps st=>match ps with
 |[p]=>match gk st p with
  |some l=>match QV k l with|some r=>.ok (g r) st|none=>.no
  |none=>.no
 |_=>.no
def yQ:=J5 kz fun bs=>.bl (bs.all id)
def qHM:=J5 YN fun F=>.int F.sum
def Gq:ZC X E (fun xs H Q=>∃(p:KU) (bs:KQ Bool),xs=[.ref p]∧fq X.K H p (bs.map V.bl)∧Q (.bl (bs.all id)) H) yQ:=by
 intro H b st ps vs Q S r P;unfold yQ J5 at P;split at P
 ·obtain⟨v,rfl,I⟩:=dS.one r;split at P
  ·rename_i l e;split at P;rename_i bs M;obtain⟨a,xs,rfl,F,O⟩:=w6 S I e;rw[nA O M]at F;exact⟨a,bs,rfl,F,dR.here P S ZE⟩;exact P.elim
  ·exact P.elim
 ·exact P.elim
def sC:ZC X E (fun xs H Q=>∃(p:KU) (ns:KQ Int),xs=[.ref p]∧fq X.K H p (ns.map V.int)∧Q (.int ns.sum) H) qHM:=by
 intro H b st ps vs Q S r P;unfold qHM J5 at P;split at P
 ·obtain⟨v,rfl,I⟩:=dS.one r;split at P
  ·rename_i l e;split at P;rename_i bs M;obtain⟨a,xs,rfl,F,O⟩:=w6 S I e;rw[yD O M]at F;exact⟨a,bs,rfl,F,dR.here P S Qz⟩;exact P.elim
  ·exact P.elim
 ·exact P.elim
section
variable{ta:FA}{p:Pos}(ha:VA X E (e::es) ta)
include ha
def Jn(F:X.mg "all" = none)(I:Gl X "all" :=by rfl)(he:starEach (e::es) X.env=(false,eval e X.env)::starEach es X.env:=by rfl)(Ku:(backTo pos (starEach es X.env)).any (·.1)=false:=by rfl):VE X E (.Call (.Name "all" p) (e::es) [] pos) (qK yQ ta) :=
 Wd uT Gq I F Boot.«all» ha (he:=he) (Ku:=Ku)
def xP(F:X.mg "sum" = none)(I:Gl X "sum" :=by rfl)(he:starEach (e::es) X.env=(false,eval e X.env)::starEach es X.env:=by rfl)(Ku:(backTo pos (starEach es X.env)).any (·.1)=false:=by rfl):VE X E (.Call (.Name "sum" p) (e::es) [] pos) (qK qHM ta) :=
 Wd sV sC I F Boot.«sum» ha (he:=he) (Ku:=Ku)
def zC(F:X.mg "len" = none)(I:Gl X "len" :=by rfl)(he:starEach (e::es) X.env=(false,eval e X.env)::starEach es X.env:=by rfl)(Ku:(backTo pos (starEach es X.env)).any (·.1)=false:=by rfl):VE X E (.Call (.Name "len" p) (e::es) [] pos) (qK ZF ta) :=
 Wd JS Ga I F Boot.«len» ha (he:=he) (Ku:=Ku)
def Dp(F:X.calm=true)(I:X.mg "max" = none)(M:Gl X "max" :=by rfl)(he:starEach (e::es) X.env=(false,eval e X.env)::starEach es X.env:=by rfl)(Ku:(backTo pos (starEach es X.env)).any (·.1)=false:=by rfl):VE X E (.Call (.Name "max" p) (e::es) [] pos) (qK qEe ta) :=
 Wd (vR F) DR M I Boot.«max» ha (he:=he) (Ku:=Ku)
def xE(F:X.calm=true)(I:X.mg "min" = none)(M:Gl X "min" :=by rfl)(he:starEach (e::es) X.env=(false,eval e X.env)::starEach es X.env:=by rfl)(Ku:(backTo pos (starEach es X.env)).any (·.1)=false:=by rfl):VE X E (.Call (.Name "min" p) (e::es) [] pos) (qK qFT ta) :=
 Wd (vW F) HX M I Boot.«min» ha (he:=he) (Ku:=Ku)
def zU(F:X.mg "tuple" = none)(I:Gl X "tuple" :=by rfl)(he:starEach (e::es) X.env=(false,eval e X.env)::starEach es X.env:=by rfl)(Ku:(backTo pos (starEach es X.env)).any (·.1)=false:=by rfl):VE X E (.Call (.Name "tuple" p) (e::es) [] pos) (qK WO ta) :=
 jt jR sM I F Boot.«tuple» ha (he:=he) (Ku:=Ku)
def Dt(F:X.mg "int" = none)(I:Gl X "int" :=by rfl)(he:starEach (e::es) X.env=(false,eval e X.env)::starEach es X.env:=by rfl)(Ku:(backTo pos (starEach es X.env)).any (·.1)=false:=by rfl):VE X E (.Call (.Name "int" p) (e::es) [] pos) (qK qEd ta) :=
 jt G4 Dk I F Boot.«int» ha (he:=he) (Ku:=Ku)
end
def oJ{p:Pos}(F:X.mg "list" = none)(I:VE X E e f)(M:Gl X "list" :=by rfl)(he:starEach [e] X.env=(false,eval e X.env)::starEach [] X.env:=by rfl)(Ku:(backTo pos (starEach [] X.env)).any (·.1)=false:=by rfl):VN X E (.Call (.Name "list" p) [e] [] pos) (jd f) :=
 vM M F Boot.«list» I he Ku
def YG(fa fb:FE):FL:=fun r st=>(fa r st).bind fun p s1=>(fb r s1).bind fun q s2=>match gk s2 p with
 |some l=>match gk s2 q with|some m=>if l.length+m.length≤sizeLine then .ok (l++m) s2 else .no|none=>.no
 |none=>.no
def yq(U:VE X E a fa)(Y:VE X E c fb):VN X E (.BinOp a .Add c pos) (YG fa fb):=PE.imp (sd E7 U Y) fun s H Q ⟨b,r,st,S,R,P⟩ =>
 ⟨b,r,st,S,R,dR.bindN P fun p s1 u H1 b1 Z S1 r1 P1=>⟨b1,r,s1,S1,R.ext Z,dR.bindN P1 fun q s2 v H2 b2 e2 I r2 F=>by
  split at F
  ·rename_i l el;split at F
   ·rename_i m em;split at F;rename_i hl;obtain⟨x,xs,rfl,h2,M⟩:=w6 I (RV.ext e2 p r1) el;obtain⟨y,ys,rfl,h4,O⟩:=w6 I r2 em;exact⟨x,y,xs,ys,rfl,rfl,h2,h4,by rw[←M.length,←O.length];exact hl,fun z hz=>dX.lay F I (M.append O) hz⟩;exact F.elim
   ·exact F.elim
  ·exact F.elim⟩⟩
end
section
variable{X:Cx}{E:XK}{e a c d:K2}{es:KQ K2}{f fa fb fc:FE}{fl:FL}{pos:Pos}{F G:FS}
def wT:PV->PV->qC->Rs PV:=fun p q st=>match p,q with| .tup l,.tup m=>if l.length+m.length≤sizeLine then .ok (.tup (l++m)) st else .no|_,_=>.no
def WW(U:VE X E a fa)(Y:VE X E c fb):VE X E (.BinOp a .Add c pos) (qN wT fa fb):=yG HF (fun H b st p q u v Q S rp F P=>by
 unfold wT at P;split at P
 ·rename_i l m;split at P
  ·rename_i Z;have I:=rp;have M:=F;unfold RV at rp F;obtain⟨x,xs,rfl,h2,O⟩:=rp;obtain⟨y,ys,rfl,h4,R⟩:=F;have n1:=O.length;have n2:=R.length;refine⟨x,y,xs,ys,rfl,rfl,h2.sq,h4.sq,by rw[←n1,←n2];exact Z,fun z=>?_,fun _ z=>?_,fun _ _ w hw=>dR.layT P S (O.append R) hw⟩
   ·have:l=[]:=List.length_eq_zero_iff.mp (by rw[n1,z];rfl)
    subst this;exact dR.here P S M
   ·have:m=[]:=List.length_eq_zero_iff.mp (by rw[n2,z];rfl)
    subst this;rw[BJ]at P;exact dR.here P S I
  ·exact P.elim
 ·exact P.elim) U Y
abbrev FO:=ql->qC->Rs (KW Int)
def gb(K:KY)(E:XK)(H:Hp)(b:Bz)(r:Rs (KW Int))(Q:KW Int->Hp->Prop):Prop:=match r with| .ok k st=>∀H' b',dY H b H' b'->SR K H' b' st->Q k H'| .ex x st=>XP K E H b x st| .no=>False
def EF(K:KY)(E:XK)(f:FO):TO:=fun s H Q=>∃b r st,SR K H b st∧eD K H b r s∧gb K E H b (f r st) Q
abbrev VO(X:Cx)(E:XK)(e:KW K2)(f:FO):Prop:=PO X e (EF X.K E f)
def QZ:FO:=fun _ st=>.ok none st
def qy(f:FE):FO:=fun r st=>(f r st).bind fun p s=>match p with| .int i=>.ok (some i) s|_=>.no
def wj:VO X E none QZ:=fun Kf s σ H Q I ⟨b,r,st,S,R,P⟩=>tz Kf s σ H Q I (P H b (dY.refl _ _) S)
def wV(h:VE X E e f):VO X E (some e) (qy f):=fun Kf s σ H Q I ⟨b,r,st,S,R,P⟩=>HS h Kf s σ H Q I ⟨b,r,st,S,R,by
 unfold qy at P;cases F:f r st with
 |no=>rw[F]at P;exact P.elim
 |ex x s1=>rw[F]at P;exact P
 |ok p s1 =>
  rw[F]at P;intro v H1 b1 O U M;dsimp only[Rs.bind]at P;split at P;rename_i i;unfold RV at M;exact⟨i,M,P H1 b1 O U⟩;exact P.elim⟩
def W9(l:KQ PV)(lo hi:KW Int):KQ PV:=(l.drop (HT.sIx l.length 0 lo)).take (HT.sIx l.length l.length hi-HT.sIx l.length 0 lo)
def Wb(f:FE)(lo hi:FO):FE:=fun r st=>(f r st).bind fun p s1=>(lo r s1).bind fun a s2=>(hi r s2).bind fun c F=>match p with| .tup l=>.ok (.tup (W9 l a c)) F|_=>.no
def gb.bind{K:KY}{E:XK}{H:Hp}{b:Bz}{r:Rs (KW Int)}{k:KW Int->qC->Rs PV}{Q:VK}{R:KW Int->Hp->Prop}(P:dR K E H b (r.bind k) Q)
  (h:∀p st H1 b1,dY H b H1 b1->SR K H1 b1 st->dR K E H1 b1 (k p st) Q->R p H1):gb K E H b r R:=by
 cases r with|ok p st=>exact fun H1 b1 e S=>h p st H1 b1 e S (dR.ext (show dR K E H b (k p st) Q from P) e)|ex x st=>exact P|no=>exact P
def W7{lo hi:KW K2}{flo I:FO}{p2:Pos}(h:VE X E e f)(hl:VO X E lo flo)(hh:VO X E hi I):VE X E (.Subscript e (.Slice lo hi none p2) pos) (Wb f flo I) :=
 PE.imp (uB (iN.or Hi) h hl hh) fun s H Q ⟨b,r,st,S,R,P⟩=>⟨b,r,st,S,R,dR.bind P fun p s1 u H1 b1 U S1 r1 P1=>⟨b1,r,s1,S1,R.ext U,gb.bind P1 fun k s2 H2 b2 Y S2 P2=>⟨b2,r,s2,S2,(R.ext U).ext Y,gb.bind P2 fun m s3 H3 b3 e3 Z P3=>by
  split at P3
  ·rename_i l;have O:=RV.ext e3 _ (RV.ext Y _ r1);have r0:=O;unfold RV at O;obtain⟨x,xs,rfl,h2,h3⟩:=O;have F:=h3.length;by_cases M:HT.sIx xs.length 0 k=0∧HT.sIx xs.length xs.length m=xs.length
   ·refine .inr ⟨x,xs,rfl,h2.sq,M.1,M.2,?_⟩
    have:W9 l k m=l:=by unfold W9;rw[F,M.1,M.2,List.drop_zero,Nat.sub_zero,←F,C7]
    rw[this]at P3;exact dR.here P3 Z r0
   ·refine .inl ⟨x,xs,rfl,h2.sq,M,fun z hz=>?_⟩;have hc:dS X.K H3 b3 (W9 l k m) (iT xs k m):=by unfold W9 iT;rw[F];exact (h3.drop _).take _
    exact dR.layT P3 Z hc hz
  ·exact P3.elim⟩⟩⟩
def iX(p:PV):KQ PV->KW Nat|[]=>none|q::F=>if e9 q p=true then some 0 else (iX p F).map (· + 1)
def j5(p:PV):∀{l:KQ PV} {j:Nat},iX p l=some j->(∃q,l[j]? = some q∧e9 q p=true)∧∀m,m<j->∃q,l[m]? = some q∧e9 q p=false
 |[],_,h=>by cases h
 |q::M,j,h=>by
  unfold iX at h;split at h;rename_i F;cases h;exact⟨⟨q,rfl,F⟩,fun m I=>by omega⟩
  ·rename_i F;cases e:iX p M with
   |none=>rw[e]at h;cases h
   |some k =>
    rw[e]at h;cases h;obtain⟨⟨O,R,U⟩,Y⟩:=j5 p e;refine⟨⟨O,by simpa using R,U⟩,fun m I=>?_⟩;cases m with|zero=>exact⟨q,rfl,by simpa using F⟩|succ m=>obtain⟨Z,h4,h5⟩:=Y m (by have I:m+1<k+1:=I;omega);exact⟨Z,by simpa using h4,h5⟩
def uM{Kf:KQ (KU×Obj)}{σ:L2.St}{H:Hp}{s:KS}(I:L2.Inv X Kf σ H s){A:K1}{p:PV}{u:V}{Y:KR}(hp:RW X.K H p u)(ru:RelV u Y)(hA:A.units+60<cLine)
  {l:KQ PV} {xs:KQ V} {Ki:KQ KR} (hl:eK X.K H l xs) (vl:Vals xs Ki) (hd:eL l≤yZ):∃g:KR->Bool,(∀y∈Ki,SeqAt.EqAt A s y Y (g y))∧∀(i:Nat) (q:PV) (y:KR),l[i]? = some q->Ki[i]? = some y->g y=e9 q p:=by
 classical
 have F:∀(q:PV) (x:V) (y:KR),RW X.K H q x->RelV x y->decide (∃q x,RW X.K H q x∧RelV x y∧e9 q p=true)=e9 q p:=fun q x y h1 h2=>by
  by_cases O:e9 q p=true;rw[O];exact AS ⟨q,x,h1,h2,O⟩
  ·rw[show e9 q p=false by simpa using O];refine AU fun⟨q',x',k1,k2,k3⟩=>O ?_;have ex:x'=x:=k2.inj h2;subst ex;rw[RW.det I q q' h1 k1];exact k3
 refine⟨fun y=>decide (∃q x,RW X.K H q x∧RelV x y∧e9 q p=true),fun y Z=>?_,fun i q y hq Z=>?_⟩;obtain⟨i,hi⟩:=Bf Z;obtain⟨x,hx,R⟩:=Vals.get2 vl hi;obtain⟨q,hq,U⟩:=eK.get' hl hx;dsimp only;rw[F q x y U R];exact kl I 60 q p x u y Y A (Ab (zZ hq) hd) hA U hp R ru;obtain⟨x,hx,R⟩:=Vals.get2 vl Z;obtain⟨q',M,U⟩:=eK.get' hl hx;rw[hq]at M;cases M;exact F q x y U R
theorem tW(hr:X.A.units+64<cLine):oZ X "list.index" (fun x vs H Q=>∃l xs a p v j,x= .ref a∧vs=[v]∧fq X.K H a xs∧eK X.K H l xs∧RW X.K H p v∧eL l≤yZ∧iX p l=some j∧Q (.int j) H):=by
 intro Kf s σ H x vs v us Q I rx rv h;obtain⟨l,xs,ad,p,y,j,rfl,rfl,hs,Y,hp,hd,hj,q⟩:=h;cases rx;obtain⟨u,rfl,ru⟩:=rv.one;obtain⟨Ki,M,pl,hz⟩:=I.list hs;obtain⟨⟨c1,d1,a1,s1⟩,Z,O,m1,R⟩:=id pl.isList;have O:c1=_:=O;have R:a1=_:=R;subst O;subst R;have hA:X.A.in1.units+60<cLine:=by show X.A.units+1+60<cLine;omega
 obtain⟨g,g1,g2⟩:=uM I hp ru hA Y M hd;obtain⟨⟨q1,k1,k2⟩,k3⟩:=j5 p hj;have n1:l.length=Ki.length:=by rw[Y.length,M.length]
 have jl:j<l.length:=(AT.mp k1).1;have ji:j<Ki.length:=by rw[←n1];exact jl
 refine call_meets F.slot_list_index ⟨_,Z,rfl⟩ F.entry_list_index (F.args_list_index_2 _ _) (SeqAt.list_indexAt ad Ki.toArray m1 d1 s1 u g j (by simpa using ji) ?_ ?_ fun m hm U=>?_) ⟨Z,fun y hy=>g1 y (by simpa using hy),⟨.int j,H,I.tok _,⟨_,rfl⟩,q⟩⟩
 ·have:Ki.length≤sizeLine:=by rw[←M.length];exact hz
  have h2:(sizeLine:Nat)<2 ^ 62:=by decide
  omega
 ·rw[show Ki.toArray[j]=Ki[j] by simp,g2 j q1 _ k1 (AJ ji)];exact k2
 ·obtain⟨q2,k4,k5⟩:=k3 m U;have mi:m<Ki.length:=by simpa using hm
  rw[show Ki.toArray[m]=Ki[m] by simp,g2 m q2 _ k4 (AJ mi)];exact k5
def nW(fo f:FE):FE:=fun r st=>(fo r st).bind fun o s1=>match gk s1 o with
 |some _=>(f r s1).bind fun p s2=>match gk s2 o with|some l=>if gp l=true∧nr p=true∧eL l≤yZ then (match iX p l with|some j=>.ok (.int j) s2|none=>.no) else .no|none=>.no
 |none=>.no
def vi{fo:FE}{o:K2}{Kt Kq:Pos}(hr:X.A.units+64<cLine)(ho:VE X E o fo)(h:VE X E e f)(M:attributeBase o "index" X.env (eval o X.env)=eval o X.env:=by rfl)
  (Y:((backTo Kq (starEach [e] X.env)).all (fun x=> !x.1)&&(backToKw Kq (keywordEach [] X.env)).all (fun x=>x.1.isSome)&&decide ([e].length+([]:KQ Keyword).length+(if ([]:KQ Keyword).isEmpty then 0 else 1)<30))=true:=by rfl)
  (O:(Kt.endLine==Kq.line)=true:=by rfl) (h1:starEach [e] X.env=(false,eval e X.env)::starEach [] X.env:=by rfl) (I:(backTo Kq (starEach [] X.env)).any (·.1)=false:=by rfl) :
  VE X E (.Call (.Attribute o "index" Kt) [e] [] Kq) (nW fo f) :=
 PE.imp (Iq PySem.F.plainAttrs_list PySem.F.slot_list_index PySem.F.type_list_index (tW hr) ho (YS h JN h1) M Y O h1 I) fun s H Q ⟨b,r,st,S,R,P⟩=>⟨b,r,st,S,R,dR.bind P fun o s1 u H1 b1 e1 S1 r1 Z=>by
  split at Z
  ·rename_i l1 a0;obtain⟨x,xs,rfl,h2,h3⟩:=w6 S1 r1 a0;refine⟨.inl ⟨rfl,xs,h2⟩,b1,r,s1,S1,R.ext e1,dR.bind Z fun p s2 v H2 b2 e2 S2 r2 U=>?_⟩;split at U
   ·rename_i l el;split at U
    ·rename_i hc;split at U;rename_i j hj;obtain⟨x',ys,ex,h4,h5⟩:=w6 S2 (RV.ext e2 o r1) el;cases ex;exact⟨l,ys,x,p,v,j,rfl,rfl,h4,dS.rws l hc.1 h5,RV.rw p hc.2.1 r2,hc.2.2,hj,dR.here U S2 Qz⟩;exact U.elim
    ·exact U.elim
   ·exact U.elim
  ·exact Z.elim⟩
def Dh(i:Int):Str:=toString i
def l4(f:FE):FE:=fun r st=>(f r st).bind fun p s=>match p with| .int i=>if i.natAbs.log2<1920 then .ok (.str (Dh i)) s else .no|_=>.no
def pO(h:VE X E e f):VE X E (.FormattedValue e (-1) none pos) (l4 f):=PE.imp (xZ h) fun s H Q ⟨b,r,st,S,R,P⟩=>⟨b,r,st,S,R,dR.bind P fun p s1 u H1 b1 O M I F=>by
 split at F
 ·rename_i i;split at F;rename_i hi;unfold RV at I;exact⟨i,I,hi,dR.here F M (by unfold RV;rfl)⟩;exact F.elim
 ·exact F.elim⟩
def vJ:KQ FE->Str->ql->qC->Rs PV
 |[],out,_,st=>if out.length≤sizeLine then .ok (.str out) st else .no
 |f::fs,out,r,st=>(f r st).bind fun p s=>match p with| .str y=>if (out++y).length≤sizeLine then vJ fs (out++y) r s else .no|_=>.no
def VJ(X:Cx)(E:XK)(es:KQ K2)(fs:KQ FE):Prop:=PJ X es (fun out σ H Q=>∃b r st,SR X.K H b st∧eD X.K H b r σ∧dR X.K E H b (vJ fs out r st) (fun v H'=>∃x,v= .str x∧Q x H'))
def Gc:VJ X E [] []:=fun out Kf s σ H Q I ⟨b,r,st,S,R,P⟩=>ua out Kf s σ H Q I (by
 unfold vJ at P;split at P
 ·rename_i h;obtain⟨x,e,q⟩:=dR.here P S (by unfold RV;rfl);cases e;exact⟨h,q⟩
 ·exact P.elim)
def YW{fs:KQ FE}(O:VE X E e f)(U:VJ X E es fs):VJ X E (e::es) (f::fs):=fun out Kf s σ H Q I ⟨b,r,st,S,R,P⟩=>vn O U out Kf s σ H Q I (by
 unfold vJ at P;refine⟨b,r,st,S,R,dR.bind P fun p s1 u H1 b1 Y Z M F=>?_⟩;split at F
 ·rename_i y;split at F;rename_i h;unfold RV at M;exact⟨y,M,h,b1,r,s1,Z,R.ext Y,F⟩;exact F.elim
 ·exact F.elim)
def Da{U Y:K2}{fs:KQ FE}(h:VJ X E (U::Y::es) fs):VE X E (.JoinedStr (U::Y::es) pos) (vJ fs Str.empty):=fun Kf s σ H Q I ⟨b,r,st,S,R,P⟩=>tB h Kf s σ H Q I ⟨b,r,st,S,R,by
 cases e:vJ fs Str.empty r st with
 |ex x s1=>rw[e]at P;exact P
 |no=>rw[e]at P;exact P
 |ok p s1 =>
  rw[e]at P;intro v H' b' Z S' F;have q:=P v H' b' Z S' F;have hp:∃y,p= .str y:=by
   have M:∀(fs:KQ FE) (out:Str) (st:qC) (p:PV) (s1:qC),vJ fs out r st= .ok p s1->∃y,p= .str y:=by
    intro fs;induction fs with
    |nil=>intro out st p s1 h;unfold vJ at h;split at h;(cases h;exact⟨_,rfl⟩);cases h
    |cons g gs ih =>
     intro out st p s1 h;unfold vJ at h;cases O:g r st with
     |no=>rw[O]at h;cases h
     |ex x s2=>rw[O]at h;cases h
     |ok p2 s2 =>
      rw[O]at h;dsimp only[Rs.bind]at h;split at h
      ·split at h;exact ih _ _ _ _ h;cases h
      ·cases h
   exact M _ _ _ _ _ e
  obtain⟨y,rfl⟩:=hp;unfold RV at F;exact⟨y,F,by rw[F]at q;exact q⟩⟩
def qr{P:KZ}{w:K0}(X:Cx):ZD (fB P w) X E0:=fun Kf σ H s e F I h=>by obtain⟨_,_,_,_,_,_,_,_,_,_,_,_,q⟩:=h;exact q.elim
def q5(i:Nat):FG:=fun p r=>match r[i]? with|some none=>some (r.set i (some p))|_=>none
def nH{i:Nat}{p:PV}{r r':ql}(h:q5 i p r=some r'):r[i]? = some none∧r'=r.set i (some p):=by
 unfold q5 at h;split at h;rename_i e;cases h;exact⟨e,rfl⟩;cases h
def Qe(i:Nat){x:Str}(F:X.N.Nodup)(hi:X.N[i]? = some x:=by rfl)(I:Loc X.env.scope x:=by first|exact Or.inl rfl|exact Or.inr rfl)(M:X.fn x=true∨X.env.scope.names.lookup x=some .local:=by first|exact .inl rfl|exact .inr rfl|assumption):VG X (.Name x pos) (q5 i) :=
 PG.imp (qw i F hi I M) fun v s H Q ⟨b,r,p,st,S,R,O,U,e,q⟩=>⟨b,r,p,st,S,R,O,U,by rw[(nH e).2];rfl,q⟩
def Le.refl(r:ql):Le r r:=⟨rfl,fun _ _ h=>h⟩
def Le.trans{r r1 F:ql}(h:Le r r1)(g:Le r1 F):Le r F:=⟨h.1.trans g.1,fun i p e=>g.2 i p (h.2 i p e)⟩
def qe(i:Nat):la (q5 i):=fun p r M h=>by
 obtain⟨I,rfl⟩:=nH h;refine⟨by simp,fun j q e=>?_⟩;by_cases F:i=j;subst F;rw[I]at e;cases e;rw[Bb F];exact e
def JY(g:FGs):Prop:=∀p r F,g p r=some F->Le r F
def zd:JY Wg:=fun p r F h=>by
 unfold Wg at h;split at h;cases h;exact Le.refl _;cases h
def Qr{g:FG}{gs:FGs}(F:la g)(I:JY gs):JY (qm g gs):=fun p r M h=>by
 unfold qm at h;split at h
 ·split at h;rename_i O e;exact (F _ _ _ e).trans (I _ _ _ h);cases h
 ·cases h
def zY{n:Nat}{gs:FGs}(F:JY gs):la (We n gs):=fun p r I h=>by
 unfold We at h;split at h
 ·split at h;exact F _ _ _ h;cases h
 ·cases h
end
structure eN (P:Program) (w:World) (K:W.Frag) (mg:Str->Option Value) (base:Heap) (k:Nat) (x:Str) (fa:Addr) (n:Nat) (g:List PV->qC->Rs PV):Prop where
 ok:∃fd ps,ps.length=n∧fZ P w K mg base (fB P w) k fa fd ps (iR K ps.length g)∧L2.Binds K fd ps []∧∀l st,g l st≠ .no->l.length=ps.length
 mg:mg x=some (.ref fa)
 kp:W.keepIn K (.ref fa)=true
section
variable{X:Cx}{E:XK}{e a c d:K2}{es:KQ K2}{f fa fb fc:FE}{fl:FL}{pos:Pos}{F G:FS}
def eN.call{k n:Nat}{x:Str}{fa:KU}{g:KQ PV->qC->Rs PV}(D:eN X.prog X.w X.K X.mg X.base k x fa n g)(M:eZ k X.A)(O:ZD (fB X.prog X.w) X E)(R:Gl X x:=by rfl)(I:(x==("__debug__":Str))=false:=by decide):mz X E x g:=by obtain⟨fd,ps,_,F,B,U⟩:=D.ok;exact Em (n:=n) F M R D.mg D.kp B O U I
end
def QD(n N:Nat)(B:FS):KQ PV->qC->Rs PV:=fun l st=>if l.length=n then k9 (B (QA N l) st) else .no
def Wn{n N:Nat}{B:FS}{l:KQ PV}{st:qC}(h:QD n N B l st≠ .no):l.length=n:=by
 unfold QD at h;split at h;assumption;exact absurd rfl h
section
variable{X:Cx}{E:XK}{e a c d:K2}{f fa fb fc:FE}{pos:Pos}
def yj(f:FE):FE:=fun r st=>(f r st).bind fun p s=>match p with| .int i=>.ok (.int (-i)) s|_=>.no
def ZQ(h:VE X E e f):VE X E (.UnaryOp .USub e pos) (yj f):=PE.imp (vT tu h) fun s H Q ⟨b,r,st,S,R,P⟩=>⟨b,r,st,S,R,dR.bind P fun p s1 u H1 b1 O M I F=>by
 split at F;rename_i i;unfold RV at I;exact⟨i,I,dR.here F M Qz⟩;exact F.elim⟩
end
def sK{k:Nat}{A:K1}{v:KW KR}(h:eZ k A)(F:1≤k:=by omega):eZ 1 (A.mark v) :=
 ⟨fun z=>absurd z (by decide),by have:=h.dp;show A.depth+3*1+5<recursionLimit;omega,by have:=h.un;show A.units+16*1+200<cLine;omega,h.gd⟩
def WM{n N m:Nat}{B:FS}{l:KQ PV}{F:qC}(I:l.length=n):gW m (k9 (B (QA N l) F)) (QD n N B l F):=by unfold QD;rw[AE I];exact gW.refl
section
variable{P:KZ}{w:K0}{K:KY}{mg:Str->KW KR}{base:Heap}
def jn{x:Str}{st:Stmt}{fa:KU}{fd:FuncData}{N ps:KQ Str}{k:Nat}{B:FS}{g:KQ PV->qC->Rs PV}(F:fD K x x st fa fd)(S:dU N ps (qJ st))(b:L2.Binds K fd ps [])(m:mg x=some (.ref fa))(I:∀l s,g l s≠ .no->l.length=ps.length)
  (M:∀(Kr:KR) (A:K1) (outer:KQ Env) (s:KS) (H:Hp) (E:XK),eZ k (A.deeper (envOfC x (qJ st) s.heap.objs.size fa Kr))->(0<k->A.handled=none)->gK (wW (fB P w) P w K mg base N x (qJ st) fa Kr A outer s H E) E (qX st) B)
  (R:∀l O,l.length=ps.length->g l O≠ .no->gW O.length (k9 (B (QA N.length l) O)) (g l O)):eN P w K mg base (k+1) x fa ps.length g :=
 ⟨⟨fd,ps,rfl,gQ F S fun Kr A outer s H E U Y=>⟨B,M Kr A outer s H E U Y,R⟩,b,I⟩,m,F.kp⟩
def DW{x:Str}{st:Stmt}{fa:KU}{fd:FuncData}{ps:KQ Str}{k:Nat}{g:KQ PV->qC->Rs PV}(F:fD K x x st fa fd)(b:L2.Binds K fd ps [])(m:mg x=some (.ref fa))(I:∀l s,g l s= .no):eN P w K mg base k x fa ps.length g:=by
 have no:∀vs H Q E,¬iR K ps.length g vs H Q E:=fun vs H Q E ⟨_,b,l,st,_,_,h⟩=>by rw[I]at h;exact h
 exact⟨⟨fd,ps,rfl,⟨fun vs H Q E h=>absurd h (no vs H Q E),fun A outer s H args us vs Q E _ _ _ _ h=>absurd h (no vs H Q E)⟩,b,fun l s h=>absurd (I l s) h⟩,m,F.kp⟩
end
section
variable{X:Cx}{E:XK}{es:KQ K2}{f:FE}{g:FA}{pos:Pos}
def qd{c:Const}{j:Nat}(h:VE X E (.Constant c j pos) f)(F:VA X E es g):VA X E (.Constant c j pos::es) (qA f g):=Q4 h F rfl
def qR{x:Str}(h:VE X E (.Name x pos) f)(F:VA X E es g):VA X E (.Name x pos::es) (qA f g):=Q4 h F rfl
def WD{a b c}(h:VE X E (.Call a b c pos) f)(F:VA X E es g):VA X E (.Call a b c pos::es) (qA f g):=Q4 h F rfl
def W2{a b c}(h:VE X E (.BinOp a b c pos) f)(F:VA X E es g):VA X E (.BinOp a b c pos::es) (qA f g):=Q4 h F rfl
def WJ{a b}(h:VE X E (.Tuple a b pos) f)(F:VA X E es g):VA X E (.Tuple a b pos::es) (qA f g):=Q4 h F rfl
def kB{a}(h:VE X E (.List a pos) f)(F:VA X E es g):VA X E (.List a pos::es) (qA f g):=Q4 h F rfl
def JD{a b}(h:VE X E (.Subscript a b pos) f)(F:VA X E es g):VA X E (.Subscript a b pos::es) (qA f g):=Q4 h F rfl
def iO{a b}(h:VE X E (.UnaryOp a b pos) f)(F:VA X E es g):VA X E (.UnaryOp a b pos::es) (qA f g):=Q4 h F rfl
def Kb{a b c}(h:VE X E (.Compare a b c pos) f)(F:VA X E es g):VA X E (.Compare a b c pos::es) (qA f g):=Q4 h F rfl
def jV{a b c}(h:VE X E (.ListComp a b c pos) f)(F:VA X E es g):VA X E (.ListComp a b c pos::es) (qA f g):=Q4 h F rfl
def xO{a}(h:VE X E (.JoinedStr a pos) f)(F:VA X E es g):VA X E (.JoinedStr a pos::es) (qA f g):=Q4 h F rfl
def Ka{a b c}(h:VE X E (.IfExp a b c pos) f)(F:VA X E es g):VA X E (.IfExp a b c pos::es) (qA f g):=Q4 h F rfl
def Ke{a b}(h:VE X E (.BoolOp a b pos) f)(F:VA X E es g):VA X E (.BoolOp a b pos::es) (qA f g):=Q4 h F rfl
end
section
variable{X:Cx}{E:XK}{e a c d:K2}{es:KQ K2}{f fa fb fc:FE}{fl:FL}{pos:Pos}{F G:FS}
def tU:VE X E (.Dict [] [] pos) (vC .dct):=PE.imp uI fun s H Q ⟨b,r,st,S,R,P⟩ p F=>by refine P (.ref p) _ b (dY.new F) (S.new F) ?_;unfold RV;exact⟨p,rfl,qS,S.new_notin F⟩
end
section
variable{X:Cx}{E:XK}{es:KQ K2}{f:FE}{g:FA}{pos:Pos}
def tR{a b}(h:VE X E (.Dict a b pos) f)(F:VA X E es g):VA X E (.Dict a b pos::es) (qA f g):=Q4 h F rfl
end
end EV
end
section
namespace KJ
open PySem PySem.W PySem.Calls PyProof.Rows
def Yb:∀{ns:KQ Int} {n:Int},n∈ns->WData.weight (.int n)≤WData.weightAll (ns.map WData.int)
 |m::ns,n,h=>by
  show _≤WData.weight (.int m)+1+WData.weightAll (ns.map WData.int);rcases AK.mp h with rfl|h
  ·omega
  ·have:=Yb h;omega
def Jz{ns:KQ Int}(h:WData.layableAll [WData.list (ns.map WData.int)]=true):∀n∈ns,Builtin.Int.intBits n≤2 ^ 20:=by
 intro n I;unfold WData.layableAll at h;have F:WData.layable (WData.list (ns.map WData.int))=true:=by simpa using h
 unfold WData.layable at F;rw[AY]at F;have M:WData.weight (WData.list (ns.map WData.int))≤2 ^ 20:=Az F.2;have O:WData.weightAll (ns.map WData.int)≤2 ^ 20:=M;exact Ab (Yb I) O
def attach_callB{l:OpenLaw}{n:Nat}{q:KZ}{F:KQ Str}{XP:(Str->KW KR)->Heap->Prop}{YP:K0->Heap->Prop}{d:DefRec}
  (hn:l.most=some n) (a0:d.params.defaults=[])
  (call:∀(w:K0) (s₀ I:KS) (mg mb:Str->KW KR) (fa:KU) (o:Obj) (pm cd Kv:KR) (a:KU) (vs:KQ KR) (ns:KQ Int),
   Ground q F [] XP w s₀ mg mb I.heap->YP w I.heap ->
   I.heap.get? fa=some o->o.data= .func (docDef d.name d.params d.body d.scope pm cd Kv)->I.heap.CodeRec cd d.name->mg d.name=some (.ref fa) ->
   I.heap.get? a=some { cls:=.type "list",data:=.seq vs.toArray }->IntsAre vs ns->ns.length≤n->(∀k∈ns,Builtin.Int.intBits k≤2 ^ 20)->I.gens = #[] ->
   codeAny (model l.prog w) callerA (.call (.ref fa) ⟨[.ref a],[]⟩) (fun r s'=>r= .ok (.ret (.bool true))∧OldK I.heap s'.heap∧s'.os=I.os∧AllBare s'.gens) I) :
  WalkO q F XP YP l.row.toRowW d [] (fun f vs=>PySem.call f vs):=by intro w s₀ I mg mb G Y fa o pm cd Kv dV kV ho hd a1 hD a2 hg args a4 as O R a5 a3 a6;obtain rfl:dV= .none:=Dflts.none hD a0;obtain rfl:kV= .none:=Dflts.noKw hD;obtain⟨a,vs,ns,rfl,rfl,U,M,Z⟩:=vo hn O a3;refine enter_call (codeAny_mono (call w s₀ I mg mb fa o pm cd Kv a vs ns G Y ho (fd_plain hd) a1 a2 U M Z (Jz R) hg) fun r s' hq=>?_);obtain⟨rfl,h2,h3,h4⟩:=hq;exact⟨.inl ⟨.bool true,.bool true,[],rfl,fun _=>rfl,.bool true,Ge l _,fun _=>⟨List.Pairwise.nil,fun _ hm=>(nomatch hm)⟩⟩,h2,h3,h4⟩
end KJ
end
section
namespace EX
open PySem PySem.Spec PyProof.Rows L2
end EX
namespace EV
open PySem PySem.Spec PyProof.Rows L2 EX
end EV
end
section
namespace HT
open PySem PySem.Spec PyProof.Rows L2
section
variable{prog:KZ}{w:K0}{A:K1}{E:KR->KS->Prop}{s:KS}
def cutS{α:Type}(l:KQ α)(lo hi:KW Int)(st:Int):KQ α :=
 (List.range (Builtin.Slice.slicePlaces (Builtin.Slice.sliceAdjust lo hi st l.length).1 (Builtin.Slice.sliceAdjust lo hi st l.length).2 st)).filterMap fun (m:Nat)=>l[((Builtin.Slice.sliceAdjust lo hi st l.length).1+(m:Int)*st).toNat]?
def yM{sl:KU}{M O vs:KR}{lo hi:KW Int}{st:Int}{n:Nat}{Q:Int×Int×Nat->KS->Prop}(hs:s.heap.IsSliceOf sl M O vs)(pl:IsPart M lo)(R:IsPart O hi)(ps:IsPart vs (some st))(U:st≠0)
  (h:Q ((Builtin.Slice.sliceAdjust lo hi st n).1,st,Builtin.Slice.slicePlaces (Builtin.Slice.sliceAdjust lo hi st n).1 (Builtin.Slice.sliceAdjust lo hi st n).2 st) s):wpAny (model prog w) A (Builtin.Slice.sliceApplied (.ref sl) (pure (n:Int))) Q E s:=by
 obtain⟨os,F,Y,I⟩:=id hs;unfold Builtin.Slice.sliceApplied Builtin.Slice.sliceFields;refine AA (AA (A9 F I (x:=M) rfl (AA (A9 F I (x:=O) rfl (AA (A9 F I (x:=vs) rfl (AB ?_)))))));refine AA (Ww ps ?_);show wpAny _ _ (if (st==0)=true then _ else _) _ _ s;rw[AD (by simpa using U)];refine AA (Ww pl (AA (Ww R (AA (AB ?_)))));exact AB h
def getItem_tuple_step{t sl:KU}{items:K3 KR}{Y Z vs:KR}{lo hi:KW Int}{st:Int}{Q:KR->KS->Prop}(I:IsTup s.heap t items)(hs:s.heap.IsSliceOf sl Y Z vs)(pl:IsPart Y lo)(pu:IsPart Z hi)(ps:IsPart vs (some st))(h0:st<0)
  (h:Q (.ref s.heap.objs.size) { s with heap:=s.heap.push { cls:=.type "tuple",data:=.seq (cutS items.toList lo hi st).toArray } })
  (hsz:(cutS items.toList lo hi st).length≤sizeLine):wpAny (model prog w) A (getItem (.ref t) (.ref sl)) Q E s:=by
 have F:sizeOk (.seq (cutS items.toList lo hi st).toArray):=by show (cutS items.toList lo hi st).toArray.size≤sizeLine;rw[AX];exact hsz
 obtain⟨os,M,O,a0⟩:=id hs;have R:s.TypeIs (.ref sl) "slice" :=⟨os,M,O⟩;unfold getItem;try with_reducible refine Aq ?_
 first|refine AA (AB ?_)|skip
 refine AA (wpAny_sequenceKey I.typeIs (by decide) ?_);refine AA (A0 (name:=Str.ofString "__getitem__") I.typeIs BZ
  (As BZ I.typeIs entry_tuple_getitem ?_ (args_tuple_getitem _ _)))
 show wpAny _ _ (Builtin.Tuple.tupleItemsOf (.ref t) >>= _) _ _ s;refine AA (tupleItemsOf_ I ?_);refine AA (Bp R ?_);rw[AE (by decide)];refine AA (yM hs pl pu ps (by omega) ?_);have U:¬(((Builtin.Slice.sliceAdjust lo hi st items.size).1==0&&st==1&&Builtin.Slice.slicePlaces (Builtin.Slice.sliceAdjust lo hi st items.size).1 (Builtin.Slice.sliceAdjust lo hi st items.size).2 st==items.size)=true):=by intro q;rw[AY,AY]at q;have q1:st=1:=DK q.1.2;omega
 show wpAny _ _ (if ((Builtin.Slice.sliceAdjust lo hi st items.size).1==0&&st==1&&Builtin.Slice.slicePlaces (Builtin.Slice.sliceAdjust lo hi st items.size).1 (Builtin.Slice.sliceAdjust lo hi st items.size).2 st==items.size)=true then _ else _) _ _ s;rw[AD U];have e:((List.range (Builtin.Slice.slicePlaces (Builtin.Slice.sliceAdjust lo hi st items.size).1 (Builtin.Slice.sliceAdjust lo hi st items.size).2 st)).filterMap fun (m:Nat)=>items[((Builtin.Slice.sliceAdjust lo hi st items.size).1+(m:Int)*st).toNat]?).toArray=(cutS items.toList lo hi st).toArray:=by unfold cutS;rw[AW];congr 2;funext m;rw[A5]
 rw[e];first
  |exact AA (m:=Builtin.Tuple.tupleExact _) (A3 (AB ⟨_,rfl,AB h⟩) F)
  |exact AA (m:=Builtin.Tuple.tupleExact _) (A3 (AA (AB (AB ⟨_,rfl,AB h⟩))) F)
  |exact AA (AA (m:=Builtin.Tuple.tupleExact _) (A3 (AB (AB ⟨_,rfl,AB h⟩)) F))
  |exact AA (AA (m:=Builtin.Tuple.tupleExact _) (A3 (AB ⟨_,rfl,AB h⟩) F))
end
end HT
namespace L2
open PySem PySem.Spec PyProof.Rows
section
variable{X:Cx}{e:K2}{te:TE}{lo hi:KW K2}{tl th tt:TO}{sp:K2}{p2 pos:Pos}
def Vals.pick{xs:KQ V}{us:KQ KR}(r:Vals xs us)(f:Nat->Nat):∀js:KQ Nat,Vals (js.filterMap fun m=>xs[f m]?) (js.filterMap fun m=>us[f m]?)
 |[]=>.nil
 |j::js=>by
  have O:=r.length;rw[BI,BI];by_cases I:f j<xs.length
  ·obtain⟨u,R,U⟩:∃u,us[f j]? = some u∧RelV (xs[f j]) u:=by
    have F:f j<us.length:=by rw[←O];exact I
    obtain⟨x,M,Y⟩:=EV.Vals.get2 r (AJ F);rw[AJ I]at M;cases M;exact⟨_,AJ F,Y⟩
   rw[R,AJ I];exact .cons U (Vals.pick r f js)
  ·rw[Bs (by omega),Bs (by omega)];exact Vals.pick r f js
def uZ(K:KY)(te:TE)(tl th tt:TO):TE:=fun σ H Q=>te σ H fun x H1=>tl σ H1 fun l I=>th σ I fun u M=>tt σ M fun o F=>∃st a xs,o=some st∧st<0∧x= .ref a∧fA K F a xs∧(HT.cutS xs l u st).length≤sizeLine∧∀p,F p=none->Q (.ref p) (dW F p (.tup (HT.cutS xs l u st)))
def Ep(he:PE X e te)(hl:PO X lo tl)(hu:PO X hi th)(hp:PO X (some sp) tt):PE X (.Subscript e (.Slice lo hi (some sp) p2) pos) (uZ X.K te tl th tt):=by
 intro Kf s σ H Q I h;refine Subscript_ (eE (he Kf s σ H _ I h) fun v s1 ⟨x,H1,I1,r1,q1⟩=>?_);refine wpAny_Slice (eE (hl Kf s1 σ H1 _ I1 q1) fun R s2 ⟨l,H2,I2,pl,q2⟩=>eE (hu Kf s2 σ H2 _ I2 q2) fun U s3 ⟨u,H3,I3,pu,q3⟩=>eE (hp Kf s3 σ H3 _ I3 q3) fun vs F ⟨o,H4,I4,po,st,a,xs,eo,h0,ex,hx,Y,q⟩=>?_);subst eo;subst ex;cases r1;have O:Inv X Kf σ H4 { F with heap:=F.heap.push { cls:=.type "slice",data:=.fields #[R,U,vs] } }:=I4.kept (t':=F.toks) fun b ob q=>AC _ q;obtain⟨Ki,r,Z,a0⟩:=O.tuple hx;have M:=r.length;have hc:Vals (HT.cutS xs l u st) (HT.cutS Ki l u st):=by unfold HT.cutS;rw[←M];exact Vals.pick r _ _
 show wpAny (model X.prog X.w) X.A (subscriptTail e (.Slice lo hi (some sp) p2) (.ref a) (.ref F.heap.objs.size)) (EP X Kf σ Q) X.xe { F with heap:=F.heap.push { cls:=.type "slice",data:=.fields #[R,U,vs] } };refine tail_any (T := "tuple") (id := "tuple.__getitem__") (ops:=[.ref a,.ref F.heap.objs.size]) Z.typeIs ?_ (HT.getItem_tuple_step Z (Heap.IsSliceOf.new ..) pl pu po h0 ?_ ?_) (by with_unfolding_all rfl);exact PyProof.Rows.slot_tuple_getitem.lookup;refine⟨.ref _,_,O.laid (t':=F.toks) (o:=.tup (HT.cutS xs l u st)) (fun b ob q=>AC _ q) (AG _) ?_,rfl,q _ (O.hok.fresh (AG _))⟩;exact⟨Y,_,hc,IsTup.new _ _⟩
 ·have:=hc.length
  rw[←this];exact Y
end
end L2
end
section
namespace EV
open PySem PySem.Spec PyProof.Rows L2 EX
section
variable{X:Cx}{E:XK}{e a c d:K2}{es:KQ K2}{f fa fb fc:FE}{fl:FL}{pos:Pos}{F G:FS}
def dS.pick{K:KY}{H:Hp}{b:Bz}{l:KQ PV}{xs:KQ V}(r:dS K H b l xs)(f:Nat->Nat):∀js:KQ Nat,dS K H b (js.filterMap fun m=>l[f m]?) (js.filterMap fun m=>xs[f m]?)
 |[]=>dS.nil
 |j::js=>by
  have O:=r.length;rw[BI,BI];by_cases F:f j<l.length;obtain⟨x,I,M⟩:=r.get (AJ F);rw[I,AJ F];exact dS.cons M (dS.pick r f js)
  ·rw[Bs (by omega),Bs (by omega)];exact dS.pick r f js
def kX(f:FE)(lo hi sp:FO):FE:=fun r st=>(f r st).bind fun p s1=>(lo r s1).bind fun a s2=>(hi r s2).bind fun c F=>(sp r F).bind fun o I=>match p,o with| .tup l,some k=>if k<0∧(HT.cutS l a c k).length≤sizeLine then .ok (.tup (HT.cutS l a c k)) I else .no|_,_=>.no
def Gr{lo hi:KW K2}{sp:K2}{flo F I:FO}{p2:Pos}(h:VE X E e f)(hl:VO X E lo flo)(hh:VO X E hi F)(hs:VO X E (some sp) I):VE X E (.Subscript e (.Slice lo hi (some sp) p2) pos) (kX f flo F I) :=
 PE.imp (Ep h hl hh hs) fun s H Q ⟨b,r,st,S,R,P⟩=>⟨b,r,st,S,R,dR.bind P fun p s1 u H1 b1 U S1 r1 P1=>⟨b1,r,s1,S1,R.ext U,gb.bind P1 fun k s2 H2 b2 Y S2 P2=>⟨b2,r,s2,S2,(R.ext U).ext Y,gb.bind P2 fun m s3 H3 b3 e3 S3 P3=>⟨b3,r,s3,S3,((R.ext U).ext Y).ext e3,gb.bind P3 fun o s4 H4 b4 e4 S4 M=>by
  split at M
  ·rename_i l Z;split at M
   ·rename_i hc;have r3:=RV.ext e4 _ (RV.ext e3 _ (RV.ext Y _ r1));unfold RV at r3;obtain⟨x,xs,rfl,h2,h3⟩:=r3;have O:=h3.length;have hr:dS X.K H4 b4 (HT.cutS l k m Z) (HT.cutS xs k m Z):=by unfold HT.cutS;rw[←O];exact dS.pick h3 _ _
    exact⟨Z,x,xs,rfl,hc.1,rfl,h2.sq,by rw[←hr.length];exact hc.2,fun z hz=>dR.layT M S4 hr hz⟩
   ·exact M.elim
  ·exact M.elim⟩⟩⟩⟩
end
end EV
end
section
namespace EV
open PySem PySem.Spec PyProof.Rows L2
def tj{X:Cx}{E:XK}(i:Nat){x:Str}{p' Z:Pos}{a0:K2}{c:Comprehension}{cs:KQ Comprehension}{scope:Scope}{pos:Pos}{Kn Kl:KQ Str}{Kk:KQ Nat}{fi:FI}{g:FG}{ts:KQ FT}{gs:KQ fw}{f:FE}(hN:X.N.Nodup)(af:X.N[i]? = some x)(hx:Loc X.env.scope x)(hf:X.fn x=true∨X.env.scope.names.lookup x=some .local)(ag:swapsWith (.ListComp a0 (c::cs) scope pos) (some (.Name x p')) Z.line X.env=pure true)(a1:ik X scope Kn Kl Kk)
  (hi:VI X E c.target c.iter fi) (sub:∀s H fp pn,VE (fN X scope (Kn++Kl) s H fp pn) E0 a0 f∧GOk (fN X scope (Kn++Kl) s H fp pn) c ⟨fi,g,ts⟩∧eP (fN X scope (Kn++Kl) s H fp pn) cs gs)
  (hs:∀x,foldedSetIterable c.iter X.env x=pure x):PS X (.Assign [.Name x p'] (.ListComp a0 (c::cs) scope pos) Z) (k8 (mA X.K E (QE Kk Kl.length fi g ts gs f)) (k7 i)):=by
 intro Kf s σ H D0 I hq;obtain⟨b,r,st,S,RE,P⟩:=hq;have a2:∀x∈scope.names,x.2= .free->∃c,X.env.cells.lookup x.1=some c:=fun x hx hk=>I.ok.has x.1 (a1.fr x hx hk);obtain⟨c1,c2,c3,c4⟩:=c;have a4:c4=0:=(sub s H [] []).2.1.asy;subst a4;rw[exec_Assign_Name_used x p' _ Z ag];refine AA (Cb ?_);refine AA (Bc (Q:=fun _ U=>∃v H',L2.Inv X Kf (σ.set i (some v)) H' U∧D0.nx (σ.set i (some v)) H') ?_ (fun _ U ⟨v,H',I',q'⟩=>AB ⟨_,H',I',q'⟩) fun _ _ z=>z);rw[arm_evalThenUse_ListComp];refine AA (Bc (Q:=fun _ U=>∃v H',L2.Inv X Kf (σ.set i (some v)) H' U∧D0.nx (σ.set i (some v)) H') ?_ (fun _ U q'=>AB q') fun _ _ z=>z);refine Cn (e:= .ListComp a0 (⟨c1,c2,c3,0⟩::cs) scope pos) (use:=some (assign (.Name x p') X.env)) rfl hs (zt a2) a1.kind (fun x hx hl=>wl a1.nd (by rw[←hl];exact hx)) ?_;show wpAny _ _ (eval c2 X.env) _ _ s;unfold QE at P;cases ef:fi r st with
 |no=>rw[ef]at P;exact P.elim
 |ex xx s1 =>
  rw[ef]at P;refine eE (hi Kf s σ H (fun _ _=>False) I ⟨b,r,st,S,RE,by rw[ef];exact P⟩) fun v s2 h2=>eE h2 fun ah s3 h3=>?_;obtain⟨_,_,_,_,_,_,_,_,_,_,z⟩:=h3;exact z.elim
 |ok w s1 =>
  rw[ef]at P;refine eE (hi Kf s σ H (fun J H'=>∃b',dY H b H' b'∧SR X.K H' b' s1∧ZA X.K H' b' J w) I ⟨b,r,st,S,RE,by rw[ef];exact fun J H' b' e' S' i'=>⟨b',e',S',i'⟩⟩) fun v s2 h2=>eE h2 fun ah s3 h3=>?_;obtain⟨it,fp,tn,J,H2,rfl,I2,T,t2,f2,b2,e2,S2,i2⟩:=h3;have P:dX X.K E H b (match qq w.G (QG ⟨fi,g,ts⟩ (QY gs f) (wK Kk Kl.length r)) w.l s1 with | .ok l U=>if l.length≤sizeLine then .ok l U else .no|_=>.no) (fun v H'=>D0.nx (σ.set i (some v)) H'):=P;cases ev:qq w.G (QG ⟨fi,g,ts⟩ (QY gs f) (wK Kk Kl.length r)) w.l s1 with
  |no=>rw[ev]at P;exact P.elim
  |ex xx s4=>rw[ev]at P;exact P.elim
  |ok l a3 =>
   rw[ev]at P;have P:dX X.K E H b (if l.length≤sizeLine then .ok l a3 else .no) (fun v H'=>D0.nx (σ.set i (some v)) H'):=P;by_cases hl:l.length≤sizeLine
   ·rw[AE hl]at P;have O:H2 s3.heap.objs.size=none:=I2.hok.fresh (AG _);refine CH ?_;generalize a5:({ s3 with heap:=s3.heap.push { cls:=.type "list",data:=.seq ([]:KQ KR).toArray } }:KS)=F;have I3:L2.Inv X Kf σ (dW H2 s3.heap.objs.size (.lst [])) F:=by rw[←a5];exact I2.laid (t':=s3.toks) (fun a u e=>AC _ e) (AG _) (show ey X.prog X.w _ _ _ (.lst []) from⟨Au _,[],0,.nil,AR _ rfl⟩)
    have k3:∀a o,s3.heap.get? a=some o->F.heap.get? a=some o:=fun a o e=>by rw[←a5];exact AC _ e
    have ai:∀a∈fp,a<s3.heap.objs.size:=fun a M=>by obtain⟨o,e,_⟩:=T.obj _ _ t2 a M;exact AL e
    have f3:∀a∈fp,zf X Kf (dW H2 s3.heap.objs.size (.lst [])) a:=fun a M=>⟨by rw[qG (Aa (ai a M))];exact (f2 a M).1,(f2 a M).2⟩;have a6:∀a∈fp,a<F.heap.objs.size:=fun a M=>by obtain⟨o,e,_⟩:=T.obj _ _ t2 a M;exact AL (k3 a o e)
    generalize hD:s3.heap.objs.size=D at I3 f3 O;refine yJ ?_;have J0:=zj a1 I3 f3 a6 rfl;obtain⟨he,hg,aj⟩:=sub F (dW H2 D (.lst [])) fp (X.pn++Kf);have k4:∀a o,F.heap.get? a=some o->(pushCells (F.heap.push { cls:=.type "dict",data:=.dict #[] }) scope.names).get? a=some o:=fun a o e=>CV _ _ _ _ (AC _ e);have ak:D∉b2.z:=(S2.new_notin O).2;have Kw:=Ze (X:=fN X scope (Kn++Kl) F (dW H2 D (.lst [])) fp (X.pn++Kf)) (fun _ _ z=>z) (gens:=⟨c1,c2,c3,0⟩::cs) (scope:=scope) (pos:=pos) (D:=D) he gs cs 0 ⟨c1,c2,c3,0⟩ ⟨fi,g,ts⟩ rfl hg aj [] _ _ _ ⟨b2.b,D::b2.z⟩ (wK Kk Kl.length r) s1 a3 it fp tn J w [] l
     (compPost (model X.prog X.w) X.A X.xe (some (assign (.Name x p') X.env)) (fun _ U=>∃v H',L2.Inv X Kf (σ.set i (some v)) H' U∧D0.nx (σ.set i (some v)) H') (.ref D) F.heap.objs.size) J0 (SR.hide S2 O) (Z9 ((RE.ext e2).wext (WE.hide O))) AI qS T (T.keep _ _ _ t2 fun a M o e=>k4 a o (k3 a o e))
     (fun a M=>⟨(f3 a M).1,(J0.ok.exf a M).1,J0.ok.exfs a M,.inl M,(J0.ok.exf a M).2,fun p hp=>(f3 a M).2.2.2.2.2 p (by simpa[fN] using hp)⟩) (ZX i2 O) ev (by simpa using hl)
     (fun U σ' H' b' lV I' e' S' R' al r'=>by
      obtain⟨m,hn,_⟩:=I'.loc;have hn:U.heap.Ns F.heap.objs.size m:=hn;have am:L2.Inv X Kf σ H' U:=yF I3 f3 I' ⟨rfl,fun _ _=>rfl⟩;have hC:H' F.heap.objs.size=none:=I'.free;have Y:zf X Kf H' F.heap.objs.size:=I3.fpOk (AG _) hC;obtain⟨oC,ao,ap,a7,a8,aq⟩:=id hn;have a9:=am.pinned (fp:=[F.heap.objs.size]) (fun b hb=>by rw[Af.mp hb];exact Y) (fun b hb=>by rw[Af.mp hb];exact⟨oC,a7,fun v z=>by rw[a8]at z;cases z⟩);have ar:b'.z=D::b2.z:=e'.same;show wpAny (model X.prog X.w) X.A (assign (.Name x p') X.env (.ref D)) _ _ U;refine wpAny_assign_Name ?_;refine wg a9 hN af hx (v:=.ref D) rfl (fun aa ab=>?_) hf;have ac:aa.heap.get? F.heap.objs.size=some oC:=by
       have hm:(F.heap.objs.size,oC)∈X.pn++(Kf++zq [F.heap.objs.size] U.heap):=by unfold zq;simp[a7]
       exact (ab.pin _ hm).1
      refine⟨m,⟨oC,ao,ap,ac,a8,aq⟩,fun as sb=>⟨.ref D,H',(ab.unpinned).turned (t':=aa.toks) (fun b o hb e=>sb.extBut b o hb e) Y.1 Y.2.1 Y.2.2.2.1 Y.2.2.2.2.1 (fun p hp=>Y.2.2.2.2.2 p hp),?_⟩⟩;have ex:dY H2 b2 H' ⟨b'.b,b2.z⟩:=by
       refine⟨⟨?_,⟨[],rfl,by simp⟩,fun a o M ho=>?_,fun a o M=>?_⟩,rfl,fun a o hz M=>?_,fun a o u M=>e'.fz a o u (qL M O) (by rw[qG (qL M O)];exact M)⟩
       ·obtain⟨n,hb,hh⟩:=e'.more;exact⟨n,hb,fun a M=>by
         have:=hh a M
         by_cases q:a=D;rw[q];exact O;rwa[qG q]at this⟩
       ·have R:a≠D:=qL M O;exact e'.keep a o (by rw[qG R];exact M) ⟨ho.1,fun z=>(AK.mp z).elim R ho.2⟩
       ·have R:a≠D:=qL M O;exact e'.dom a o (by rw[qG R];exact M)
       ·have R:a≠D:=qL M O;exact e'.hid a o (AH _ hz) R (by rw[qG R];exact M)
      have ae:(⟨b'.b,D::b2.z⟩:Bz)=b':=by rw[←ar]
      refine P D lV H' ⟨b'.b,b2.z⟩ (e2.trans ex) (e2.none_of O) (by simpa using al) ak ?_ ?_;show SR X.K H' ⟨b'.b,D::b2.z⟩ a3;rw[ae];exact S';show dS X.K H' ⟨b'.b,D::b2.z⟩ l lV;rw[ae];exact r')
    exact w4 rfl rfl Kw (T.self X.A 0 _ _ _ (T.keep _ _ _ t2 fun a M o e=>k4 a o (k3 a o e)) Kw)
   ·rw[AD hl]at P;exact P.elim
end EV
namespace EV
open PySem PySem.Spec PyProof.Rows L2
section
variable{X:Cx}{E:XK}{x:Str}{p' Kx:Pos}{KH:K2}{c:Comprehension}{cs:KQ Comprehension}{scope:Scope}{pos:Pos}{Kn Kl:KQ Str}{Kk:KQ Nat}{fi:FI}{g:FG}{ts:KQ FT}{gs:KQ fw}{f:FE}
def pq(i:Nat)(O:X.N.Nodup)(F:ik X scope Kn Kl Kk)
  (hi:VI X E c.target c.iter fi) (sub:∀s H fp pn,VE (fN X scope (Kn++Kl) s H fp pn) E0 KH f∧GOk (fN X scope (Kn++Kl) s H fp pn) c ⟨fi,g,ts⟩∧eP (fN X scope (Kn++Kl) s H fp pn) cs gs)
  (I:X.N[i]? = some x:=by rfl) (U:Loc X.env.scope x:=by first|exact Or.inl rfl|exact Or.inr rfl) (Y:X.fn x=true∨X.env.scope.names.lookup x=some .local:=by first|exact .inl rfl|exact .inr rfl|assumption)
  (M:swapsWith (.ListComp KH (c::cs) scope pos) (some (.Name x p')) Kx.line X.env=pure true:=by rfl) (hs:∀x,foldedSetIterable c.iter X.env x=pure x:=by intro _;rfl) :
  VS X E (.Assign [.Name x p'] (.ListComp KH (c::cs) scope pos) Kx) (qx i (eI (QE Kk Kl.length fi g ts gs f))) :=
 PS.imp (tj i O I U Y M F hi sub hs) fun D s H ⟨b,r,st,S,R,P⟩=>⟨b,r,st,S,R,dX.of (dR.bindS P fun p s1 u H1 b1 Z S1 r1 P1=>P1 _ H1 b1 (dY.refl _ _) S1 ((R.ext Z).set r1 i))⟩
end
end EV
end
section
namespace EX
open PySem PySem.Spec PyProof.Rows L2
end EX
namespace EV
open PySem PySem.Spec PyProof.Rows L2 EX
end EV
end
section
namespace EV
open PySem PySem.Spec PyProof.Rows L2 EX
section
variable{X:Cx}{E:XK}
def mq(sc:Scope)(x:Str):Bool:=match sc.names.lookup x with|some .local=>true|some .cell=>true|some .free=>true|_=>false
def wh{sc:Scope}{x:Str}(h:mq sc x=true):i6 sc x:=by
 unfold mq at h;unfold i6;split at h;rename_i e;exact .inl e;rename_i e;exact .inr (.inl e);rename_i e;exact .inr (.inr e);cases h
def qH(i:Nat){x:Str}{pos:Pos}(F:X.N[i]? = some x:=by rfl)(I:mq X.env.scope x=true:=by rfl)(hd:((x==("__debug__":Str))||(x==("__classdict__":Str)))=false:=by rfl):VE X E (.Name x pos) (qB i):=by rw[Bool.or_eq_false_iff]at hd;exact Hc (pv i F (wh I) hd.1 hd.2)
def iV(X:Cx):KQ (Str×NameKind)->Bool|[]=>true|(x,.free)::l=>(match X.env.kindOf x with|some .cell=>true|some .free=>true|_=>false)&&iV X l|_::l=>iV X l
def nG:∀{l:KQ (Str×NameKind)},iV X l=true->∀x∈l,x.2= .free->(X.env.kindOf x.1=some .cell∨X.env.kindOf x.1=some .free)
 |[],_,x,hx,_=>by cases hx
 |(y,k)::l,h,x,hx,I=>by
  rcases AK.mp hx with rfl|hx
  ·have I:k= .free:=I;subst I;unfold iV at h;rw[AY]at h;have h:=h.1;split at h;rename_i e;exact .inl e;rename_i e;exact .inr e;cases h
  ·refine nG (l:=l) ?_ x hx I;unfold iV at h;split at h;rename_i F;cases F;rename_i F;cases F;rw[AY]at h;exact h.2;rename_i F;cases F;exact h
def kF(X:Cx)(l:KQ (Str×NameKind)):KQ Str->KQ Nat->Prop|x::xs,j::js=>(X.N[j]? = some x∧l.lookup x=some .free)∧kF X l xs js|_,_=>True
def Yv{x:Str}{k:NameKind}:∀{l:KQ (Str×NameKind)},l.lookup x=some k->(x,k)∈l
 |[],h=>by cases h
 |(y,q)::l,h=>by
  rw[BB]at h;split at h;rename_i e;cases h;rw[DK e];exact AI;exact AH _ (Yv h)
def rA{l:KQ (Str×NameKind)}:∀{xs:KQ Str} {js:KQ Nat},kF X l xs js->∀(i:Nat) (x:Str) (j:Nat),xs[i]? = some x->js[i]? = some j->X.N[j]? = some x∧(x,NameKind.free)∈l
 |[],_,_,i,x,j,F,_=>by cases F
 |_::_,[],_,i,x,j,_,I=>by cases I
 |a::xs,b::js,h,i,x,j,F,I=>by
  unfold kF at h;cases i with|zero=>cases F;cases I;exact⟨h.1.1,Yv h.1.2⟩|succ i=>exact rA h.2 i x j F I
def Q5{scope:Scope}{Kn Kl:KQ Str}{Kk:KQ Nat}(F:scope.kind= .function)(I:(scope.names.map (·.1)).Nodup)(M:iV X scope.names=true)(O:Kn.length=Kk.length)(R:kF X scope.names Kn Kk):ik X scope Kn Kl Kk :=
 ⟨F,I,nG M,O,rA R⟩
end
end EV
end
section
namespace EX
open PySem PySem.Spec PyProof.Rows L2
end EX
namespace EV
open PySem PySem.Spec PyProof.Rows L2 EX
section
variable{X:Cx}{E:XK}{e a c d:K2}{pos:Pos}
def dS.three{K:KY}{H:Hp}{b:Bz}{p q z:PV}{vs:KQ V}(h:dS K H b [p,q,z] vs):∃v w y,vs=[v,w,y]∧RV K H b p v∧RV K H b q w∧RV K H b z y:=by unfold dS at h;obtain⟨x,r,rfl,F,I⟩:=h;obtain⟨y,w,rfl,M,O⟩:=dS.two I;exact⟨x,y,w,rfl,F,M,O⟩
end
end EV
end
section
namespace EV
open PySem PySem.Spec PyProof.Rows L2 EX
section
variable{X:Cx}{E:XK}{e:K2}{es:KQ K2}{pos:Pos}
def Kc{a:K2}{n:Str}{f:FE}{g:FA}(h:VE X E (.Attribute a n pos) f)(F:VA X E es g):VA X E (.Attribute a n pos::es) (qA f g):=Q4 h F rfl
end
end EV
end
section
namespace EX
open PySem PySem.Spec PyProof.Rows L2
structure eQ (h:Heap) (d:Addr) (es:Array DictEntry) (ep:Nat):Prop where
 ex:∃o,h.get? d=some o∧o.ExactDict∧o.data= .dict es ep
section
variable{prog:KZ}{w:K0}{A:K1}{E:KR->KS->Prop}{s:KS}{d it:KU}{es:K3 DictEntry}{ep i:Nat}
def eQ.typeIs(m:eQ s.heap d es ep):s.TypeIs (.ref d) "dict" :=let ⟨o,h,c,_⟩:=m.ex;⟨o,h,c.1⟩
theorem nu{Q:KR->KS->Prop}(hd:(d==sysModules)=false)(m:eQ s.heap d es ep)
  (O:Q (.ref s.heap.objs.size) { s with heap:=s.heap.push { cls:=.type "dict_keyiterator",data:=.fields #[.ref d,.int 0 0,.int es.size 0,.int ep 0] } }):wpAny (model prog w) A (pyIter (.ref d)) Q E s:=by
 obtain⟨o,M,R,I⟩:=m.ex;refine C0 m.typeIs F.slot_dict_iter (As F.slot_dict_iter m.typeIs F.entry_dict_iter ?_ (F.args_dict_iter_1 _));unfold Builtin.«dict.__iter__» Builtin.Dict.dictSlotNone Builtin.Dict.showsAll;refine AA (AA (wpAny_notOrdered_dict m.typeIs (AB ?_)));show wpAny _ _ ((if (d==sysModules)=true then _ else _) >>= _) _ _ s;rw[AD (by rw[hd];exact A6)];refine AA (AB (AA (By M I (AA (CC M I ?_)))));exact AA (A3 (AB ⟨_,rfl,"dict_keyiterator",_,⟨_,AR _ rfl,rfl⟩,F.slot_dict_keyiterator_next.lookup,by simpa[rawInt] using O⟩))
theorem nR{Q:KW KR->KS->Prop}(I:s.heap.IsKeyIter it d i es.size ep)(m:eQ s.heap d es ep){e:DictEntry}(hx:es[i]? = some e)
  (hQ:∀h',h'.IsKeyIter it d (i+1) es.size ep->Heap.SameBut it s.heap h'->Q (some e.key) { s with heap:=h' }):wpAny (model prog w) A (pyNext (.ref it)) Q E s:=by
 obtain⟨o,Y,hc,hd⟩:=id I;obtain⟨od,O,a0,R⟩:=m.ex;have U:Builtin.Dict_items.ownsTuple "dict_keyiterator" = false:=by decide
 obtain⟨Z,rfl⟩:=BG.mp hx;unfold pyNext;refine AA (Bh (A0 (name:=Str.ofString "__next__") I.typeIs CL (As CL I.typeIs F.entry_dict_keyiterator_next ?_ (F.args_dict_keyiterator_next_1 _))));refine AA (AB (AA (AA ?_)));first|refine AA (CI I.typeIs (AB (AA (BU Y hd ?_))))|refine AA (Co I.typeIs (AB (AA (BU Y hd ?_))))
 simp only[U,A4,BQ];show wpAny _ _ (if (Value.ref d==Value.none)=true then _ else _) _ _ s;rw[AD (show ¬((Value.ref d==Value.none)=true) from A6)];refine AA (AB (AA (By O R ?_)));rw[AD (by simp)];refine AA (AB (AA (CC O R ?_)));rw[AD (by simp)];refine AB ?_;simp only[show ¬((i:Int)<0) from by omega,BQ,BC,AN Z];refine AA ?_;first|refine AA (CI I.typeIs (AB (AA (wpAny_isOneOf_keyiter I.typeIs ?_))))|refine AA (Co I.typeIs (AB (AA (wpAny_isOneOf_keyiter I.typeIs ?_))))
 show wpAny _ _ (setField (.ref it) 1 (rawInt ((i:Int)+1)) >>= _) _ _ s;refine AA (Ba Y hd (by simp) ?_);have M:(s.heap.update it (Obj.mapFields (·.setIfInBounds 1 (rawInt ((i:Int)+1))))).IsKeyIter it d (i+1) es.size ep:=⟨_,Av _ Y (B6 (BN hd _)),(Cy ..).trans hc,by rw[BN hd];simp[rawInt]⟩;refine AA (Aq (AA (wpAny_isOneOf_keyiter (s:={ s with heap:=s.heap.update it (Obj.mapFields (·.setIfInBounds 1 (rawInt ((i:Int)+1)))) }) M.typeIs ?_)));exact AB (AB ⟨_,rfl,AB (hQ _ M (Heap.SameBut.update ..))⟩)
theorem n4{Q:KW KR->KS->Prop}(hn:Hnd A s.heap)(z4:∀v,A.handled=some v->v≠ .ref it)(I:s.heap.IsKeyIter it d i es.size ep)(m:eQ s.heap d es ep)(hx:es.size≤i)
  (hQ:∀h',(∀b o,b≠it->s.heap.get? b=some o->h'.get? b=some o)->Q none { s with heap:=h' }):wpAny (model prog w) A (pyNext (.ref it)) Q E s:=by
 obtain⟨o,U,hc,hd⟩:=id I;obtain⟨od,M,a0,O⟩:=m.ex;have R:Builtin.Dict_items.ownsTuple "dict_keyiterator" = false:=by decide
 unfold pyNext;refine AA (Bh (A0 (name:=Str.ofString "__next__") I.typeIs CL (As CL I.typeIs F.entry_dict_keyiterator_next ?_ (F.args_dict_keyiterator_next_1 _))));refine AA (AB (AA (AA ?_)));first|refine AA (CI I.typeIs (AB (AA (BU U hd ?_))))|refine AA (Co I.typeIs (AB (AA (BU U hd ?_))))
 simp only[R,A4,BQ];show wpAny _ _ (if (Value.ref d==Value.none)=true then _ else _) _ _ s;rw[AD (show ¬((Value.ref d==Value.none)=true) from A6)];refine AA (AB (AA (By M O ?_)));rw[AD (by simp)];refine AA (AB (AA (CC M O ?_)));rw[AD (by simp)];refine AB ?_;simp only[show ¬((i:Int)<0) from by omega,BQ,BC,CP hx];refine AA ?_;first|refine AA (CI I.typeIs (AB ?_))|refine AA (Co I.typeIs (AB ?_))
 show wpAny _ A.in1 (setField (.ref it) 0 .none >>= _) _ _ s;refine AA (Ba U hd (by simp) ?_);refine wm (A:=A.in1) ?_ fun h' e k ht=>?_
 ·intro v Z;obtain⟨ea,oe,vs,e1,e2,e3⟩:=hn v Z;refine⟨ea,oe,vs,e1,?_,e3⟩;have Y:ea≠it:=fun z=>z4 v Z (by rw[e1,z]);exact (AV _ _ (Ne.symm Y)).trans e2
 ·refine AA (BL (T := "StopIteration") (b:=true) ht Cg ?_);exact AB (hQ _ fun b o' hb q=>k b o' ((AV _ _ (Ne.symm hb)).trans q))
theorem jw{v:KU}{Q:KR->KS->Prop}(O:s.heap.IsItemsView v d)(m:eQ s.heap d es ep)
  (Z:Q (.ref s.heap.objs.size) { s with heap:=s.heap.push { cls:=.type "dict_itemiterator",data:=.fields #[.none,.bool false,.ref d,.int 0 0,.int es.size 0,.int ep 0,.none,.none] } }):wpAny (model prog w) A (pyIter (.ref v)) Q E s:=by
 obtain⟨ov,R,a0,U⟩:=id O;obtain⟨o,Y,hc,I⟩:=m.ex;have M:Builtin.Dict_items.ownsTuple "dict_itemiterator" = true:=by decide
 refine C0 O.typeIs F.slot_dict_items_iter (As F.slot_dict_items_iter O.typeIs F.entry_dict_items_iter ?_ (F.args_dict_items_iter_1 _));unfold Builtin.«dict_items.__iter__» Builtin.Dict_items.dictOf Builtin.Dict_items.newIterator;refine AA (AB (AA (AA (A9 R U (x:=.ref d) rfl (AB (AA (AA (By Y I (AA (CC Y I ?_))))))))));simp only[M,Cr];refine A3 (AB ⟨_,rfl,"dict_itemiterator",_,⟨_,AR _ rfl,rfl⟩,F.slot_dict_itemiterator_next.lookup,?_⟩) (by simp only[sizeOk,Builtin.Dict_items.ownedTupleFields,AX,Ac,AO,CT,Bk];omega);simpa[rawInt,Builtin.Dict_items.ownedTupleFields] using Z
def jY{Q:KW KR->KS->Prop}{ok U:KR}(F:IsItemIter s.heap it d i es.size ep ok U)(m:eQ s.heap d es ep){e:DictEntry}(hx:es[i]? = some e)
  (hQ:∀h',IsItemIterOut h' it d (i+1) es.size ep e.key e.val s.heap.objs.size->h'.get? s.heap.objs.size=some { cls:=.type "tuple",data:=.seq #[e.key,e.val] } ->
   (∀b o,b≠it->s.heap.get? b=some o->h'.get? b=some o)->Q (some (.ref s.heap.objs.size)) { s with heap:=h' }):wpAny (model prog w) A (pyNext (.ref it)) Q E s:=by
 obtain⟨I,g,dr,tk,os⟩:=s;obtain⟨od,Y,a3,Z⟩:=m.ex;obtain⟨a2,rfl⟩:=BG.mp hx;have R:Shared.TypeIs ⟨I,g,dr,tk,os⟩ (.ref it) "dict_itemiterator" :=⟨_,F,rfl⟩;have a0:Builtin.Dict_items.ownsTuple "dict_itemiterator" = true:=by decide
 unfold pyNext;refine AA (Bh (A0 (name:=Str.ofString "__next__") R BH (As BH R CD ?_ (CA _))));refine AA (AB (AA (AA ?_)));first|refine AA (BE R (AB (AA (BU F rfl ?_))))|refine AA (BS R (AB (AA (BU F rfl ?_))))
 simp only[a0,Cr];show wpAny _ _ (if (Value.ref d==Value.none)=true then _ else _) _ _ _;rw[AD (show ¬((Value.ref d==Value.none)=true) from A6)];refine AA (AB (AA (By Y Z ?_)));rw[AD (by simp)];refine AA (AB (AA (CC Y Z ?_)));rw[AD (by simp)];refine AB ?_;simp only[show ¬((i:Int)<0) from by omega,BQ,BC,AN a2];refine AA ?_;first|refine AA (BE R (AB (AA (Bg R ?_))))|refine AA (BS R (AB (AA (Bg R ?_))))
 show wpAny _ _ (setField (.ref it) 3 (rawInt ((i:Int)+1)) >>= _) _ _ ⟨I,g,dr,tk,os⟩;refine AA (B8 F (by simp) fun M k1 s1=>?_);have s1:Heap.SameBut it I M:=s1;have k1:IsItemIter M it d (i+1) es.size ep ok U:=by
  have e:((i+1:Nat):Int)=(i:Int)+1:=by omega
  unfold IsItemIter;rw[e];simpa[rawInt] using k1
 have T1:Shared.TypeIs ⟨M,g,dr,tk,os⟩ (.ref it) "dict_itemiterator" :=⟨_,k1,rfl⟩;refine AA (Aq (AA (Bg T1 (AA (Bg T1 ?_)))));show wpAny _ _ (Builtin.Dict_items.pairFromOwner (.ref it) 6 es[i].key es[i].val) _ _ ⟨M,g,dr,tk,os⟩;unfold Builtin.Dict_items.pairFromOwner Builtin.Dict_items.ownedTupleIsFree;refine AA (wpAny_newTuple ?_);have z1:M.objs.size=I.objs.size:=s1.1;have k2:IsItemIter (M.push { cls:=.type "tuple",data:=.seq #[es[i].key,es[i].val] }) it d (i+1) es.size ep ok U:=AC _ k1;have t2:(M.push { cls:=.type "tuple",data:=.seq #[es[i].key,es[i].val] }).get? I.objs.size=some { cls:=.type "tuple",data:=.seq #[es[i].key,es[i].val] }:=by rw[←z1];exact AR _ rfl
 have b2:∀b o,b≠it->I.get? b=some o->(M.push { cls:=.type "tuple",data:=.seq #[es[i].key,es[i].val] }).get? b=some o:=fun b o O q=>AC _ (s1.extBut b o O q);have ne:I.objs.size≠it:=Bt (AL F);generalize M.push { cls:=.type "tuple",data:=.seq #[es[i].key,es[i].val] }=h2 at k2 t2 b2 ⊢;rw[z1];refine AA (AA (A9 k2 rfl (x:=.none) rfl (AB ?_)));simp only[Cr];refine AA (A9 k2 rfl (x:=ok) rfl (AA (A9 k2 rfl (x:=U) rfl ?_)));refine AA (B8 k2 (by simp) fun h3 k3 s3=>?_);have k3:IsItemIter h3 it d (i+1) es.size ep es[i].key U:=k3;have s3:Heap.SameBut it h2 h3:=s3;refine AA (B8 k3 (by simp) fun h4 k4 s4=>?_);have k4:IsItemIter h4 it d (i+1) es.size ep es[i].key es[i].val:=k4;have s4:Heap.SameBut it h3 h4:=s4;refine AA (B8 k4 (by simp) fun h5 k5 s5=>?_);have k5:IsItemIterOut h5 it d (i+1) es.size ep es[i].key es[i].val I.objs.size:=k5;have s5:Heap.SameBut it h4 h5:=s5;refine AA (B8 k5 (by simp) fun h6 k6 s6=>?_);have k6:IsItemIterOut h6 it d (i+1) es.size ep es[i].key es[i].val I.objs.size:=k6;have s6:Heap.SameBut it h5 h6:=s6;have a1:∀b o,b≠it->h2.get? b=some o->h6.get? b=some o:=fun b o O q=>s6.extBut b o O (s5.extBut b o O (s4.extBut b o O (s3.extBut b o O q)));exact AA (wpAny_letGo (AB (AB ⟨_,rfl,AB (hQ h6 k6 (a1 _ _ ne t2) fun b o O q=>a1 b o O (b2 b o O q))⟩)))
def pF{Q:KW KR->KS->Prop}{ok ov:KR}(hn:Hnd A s.heap)(z4:∀v,A.handled=some v->v≠ .ref it)(F:IsItemIter s.heap it d i es.size ep ok ov)(m:eQ s.heap d es ep)(hx:es.size≤i)
  (hQ:∀h',(∀b o,b≠it->s.heap.get? b=some o->h'.get? b=some o)->Q none { s with heap:=h' }):wpAny (model prog w) A (pyNext (.ref it)) Q E s:=by
 obtain⟨od,M,a0,O⟩:=m.ex;have I:s.TypeIs (.ref it) "dict_itemiterator" :=⟨_,F,rfl⟩;have R:Builtin.Dict_items.ownsTuple "dict_itemiterator" = true:=by decide
 unfold pyNext;refine AA (Bh (A0 (name:=Str.ofString "__next__") I BH (As BH I CD ?_ (CA _))));refine AA (AB (AA (AA ?_)));first|refine AA (BE I (AB (AA (BU F rfl ?_))))|refine AA (BS I (AB (AA (BU F rfl ?_))))
 simp only[R,Cr];show wpAny _ _ (if (Value.ref d==Value.none)=true then _ else _) _ _ s;rw[AD (show ¬((Value.ref d==Value.none)=true) from A6)];refine AA (AB (AA (By M O ?_)));rw[AD (by simp)];refine AA (AB (AA (CC M O ?_)));rw[AD (by simp)];refine AB ?_;simp only[show ¬((i:Int)<0) from by omega,BQ,BC,CP hx];refine AA ?_;first|refine AA (BE I (AB ?_))|refine AA (BS I (AB ?_))
 show wpAny _ A.in1 (setField (.ref it) 2 .none >>= _) _ _ s;refine AA (Ba F rfl (by simp) ?_);refine wm (A:=A.in1) ?_ fun h' e k ht=>?_
 ·intro v Y;obtain⟨Z,oe,vs,e1,e2,e3⟩:=hn v Y;refine⟨Z,oe,vs,e1,?_,e3⟩;have U:Z≠it:=fun z=>z4 v Y (by rw[e1,z]);exact (AV _ _ (Ne.symm U)).trans e2
 ·refine AA (BL (T := "StopIteration") (b:=true) ht Cg ?_);exact AB (hQ _ fun b o' hb q=>k b o' ((AV _ _ (Ne.symm hb)).trans q))
end
structure fV (H:Hp) (a:Addr) (od:Obj) (es:Array DictEntry) (ep:Nat) (Kh:List (List Key×V)):Prop where
 at_:H a=some (.frz od (.dT Kh))
 dat:od.data= .dict es ep
def kU(a:KU)(od:Obj)(es:K3 DictEntry)(ep:Nat)(Kh:KQ (KQ Key×V)):It :=
 ⟨fun i H=>fV H a od es ep Kh∧i<Kh.length,fun i H x H'=>H'=H∧∃b k v,Kh[i]? = some (k,v)∧x= .ref b∧H b=some (.tup (k.map kV)),fun i H=>fV H a od es ep Kh∧Kh.length≤i⟩
def kP(a:KU)(od:Obj)(es:K3 DictEntry)(ep:Nat)(Kh:KQ (KQ Key×V)):It :=
 ⟨fun i H=>fV H a od es ep Kh∧i<Kh.length,fun i H x H'=>∃T b k v,H T=none∧x= .ref T∧H'=dW H T (.tup [.ref b,v])∧Kh[i]? = some (k,v)∧H b=some (.tup (k.map kV)),fun i H=>fV H a od es ep Kh∧Kh.length≤i⟩
def Z4{α β:Type}{F:α->β->Prop}:∀{l:KQ α} {m:KQ β} {i:Nat} {x:α},Paired F l m->l[i]? = some x->∃y,m[i]? = some y∧F x y
 |_,_,_,_,.nil,e=>by simp at e
 |_,_,0,_,.cons r _,e=>by simp at e;subst e;exact⟨_,rfl,r⟩
 |_,_,i+1,x,.cons _ t,e=>by
  obtain⟨y,I,M⟩:=Z4 (i:=i) (x:=x) t (by simpa using e);exact⟨y,by simpa using I,M⟩
section
variable{P:KZ}{w:K0}{H:Hp}{h:Heap}{a:KU}{od:Obj}{es:K3 DictEntry}{ep:Nat}{Kh:KQ (KQ Key×V)}
def fV.raw(ok:fP P w H h)(z:fV H a od es ep Kh):eQ h a es ep∧es.size=Kh.length ∧
  ∀(i:Nat) (k:KQ Key) (v:V),Kh[i]? = some (k,v)->∃(e:DictEntry) (b:KU) (u:KR),es[i]? = some e∧e.key= .ref b∧e.val=u∧H b=some (.tup (k.map kV))∧RelV v u:=by
 obtain⟨F,_,_,xs,r,o,O,R,I,ex,M,el,_⟩:=(show ey P w H h a (.frz od (.dT Kh)) from ok a _ z.at_);rw[F]at I;cases I;have q:=z.dat;rw[M]at q;cases q;have U:=r.length;refine⟨⟨od,F,ex,M⟩,?_,fun i k v Y=>?_⟩;rw[←AW,el,AF];exact U.symm;obtain⟨x,Z,p1,p2,p3⟩:=Z4 r Y;refine⟨entryOfKey (tupleKind (Qn P w)) x,x.2.1,x.2.2,?_,rfl,rfl,p2,p3⟩;rw[←A5,el,Am,Z];rfl
end
section
variable{P:KZ}{w:K0}{K:KY}{A:K1}{a it:KU}{od:Obj}{es:K3 DictEntry}{ep:Nat}{Kh:KQ (KQ Key×V)}
theorem Go{tg:K2}:gC P w K A tg (kU a od es ep Kh) [it] it (fun i h=>h.IsKeyIter it a i es.size ep) where
 mem:=by simp
 obj:=fun i h st b hb=>by
  have e:b=it:=by simpa using hb
  subst e;obtain⟨o,e,c,d⟩:=st;exact⟨o,e,fun v z=>by rw[d]at z;cases z⟩
 keep:=fun i h h' ⟨o,e,r⟩ k=>⟨o,k it (by simp) o e,r⟩
 item:=by
  intro X hP hw hK _ i Kf s σ H E I hf st hg;subst hP hw hK;obtain⟨z,hi⟩:=hg;obtain⟨m,sz,get⟩:=z.raw I.hok;obtain⟨e,b,u,g1,g2,g3,g4,g5⟩:=get i _ _ (AJ hi);obtain⟨f0,f1,f2,f3,f4,f5⟩:=hf it (by simp);refine nR st m g1 fun h' Km sb=>?_;have I1:L2.Inv X Kf σ H { s with heap:=h' }:=I.turned (t':=s.toks) (fun b o hb e=>(sb.2 b hb).trans e) f0 f1 f3 f4 f5;obtain⟨o,e1,c,d⟩:=id Km;exact⟨e.key,rfl,kD (s:={ s with heap:=h' }) e1 c d (by decide) ⟨.ref b,H,I1,by rw[g2];rfl,⟨rfl,b,_,_,AJ hi,rfl,g4⟩,Km,fun b hb=>(hf b hb).1⟩⟩
 done:=by
  intro X hP hw hK _ i Kf s σ H E I hf st hg;subst hP hw hK;obtain⟨z,hi⟩:=hg;obtain⟨m,sz,get⟩:=z.raw I.hok;obtain⟨f0,f1,f2,f3,f4,f5⟩:=hf it (by simp);exact n4 I.hndH (I.hndNe f0) st m (by omega) fun h' eb=>⟨rfl,I.turned (t':=s.toks) (fun b o hb e=>eb b o hb e) f0 f1 f3 f4 f5⟩
 self:=fun _ _ _ _ _ st h=>by refine C0 st.typeIs F.slot_dict_keyiterator_iter (As F.slot_dict_keyiterator_iter st.typeIs F.entry_dict_keyiterator_iter ?_ (F.args_dict_keyiterator_iter_1 _));exact AA (AB (AB ⟨_,rfl,"dict_keyiterator",_,st.typeIs,F.slot_dict_keyiterator_next.lookup,h⟩))
theorem Gb{KF:KQ K2}{n:Nat}{pos:Pos}:gC P w K A (.Tuple KF n pos) (kP a od es ep Kh) [it] it (fun i h=>∃ok ov,IsItemIter h it a i es.size ep ok ov) where
 mem:=by simp
 obj:=fun i h ⟨ok,ov,st⟩ b hb=>by
  have e:b=it:=by simpa using hb
  subst e;exact⟨_,st,fun v z=>by cases (show Data.fields _=Data.cell v from z)⟩
 keep:=fun i h h' ⟨ok,ov,st⟩ k=>⟨ok,ov,k it (by simp) _ st⟩
 item:=by
  intro X hP hw hK _ i Kf s σ H E I hf st hg;subst hP hw hK;obtain⟨z,hi⟩:=hg;obtain⟨ok,ov,st⟩:=st;obtain⟨m,sz,get⟩:=z.raw I.hok;obtain⟨e,b,u,g1,g2,g3,g4,g5⟩:=get i _ _ (AJ hi);refine jY st m g1 fun h' y1 y2 y3=>⟨_,rfl,?_⟩;refine wpAny_letOwnedTupleGo_items (s:={ s with heap:=h' }) y1 fun h2 x1 x2=>?_;have nt:s.heap.objs.size≠it:=Bt (AL st);have oth:∀b o,b≠it->s.heap.get? b=some o->h2.get? b=some o:=fun b o hb q=>(x2.2 b hb).trans (y3 b o hb q);have hT:IsPair h2 s.heap.objs.size (.ref b) u:=by
   have:=(x2.2 _ nt).trans y2
   rw[g2,g3]at this;exact this
  have I2:=ot (t':=s.toks) (h':=h2) (x:=.ref b) (y:=Kh[i].2) I hf rfl g5 (fun c o hc q=>oth c o (fun y=>hc (by simp[y])) q) (fun c hc=>by
   have e:c=it:=by simpa using hc
   subst e;exact⟨_,x1⟩) hT
  refine⟨.ref s.heap.objs.size,_,I2,rfl,⟨_,b,_,_,I.hok.fresh (AG _),rfl,rfl,AJ hi,g4⟩,⟨_,_,x1⟩,fun c hc=>?_⟩;have e:c=it:=by simpa using hc
  subst e;rw[qG (Ne.symm nt)];exact (hf c hc).1
 done:=by
  intro X hP hw hK _ i Kf s σ H E I hf st hg;subst hP hw hK;obtain⟨z,hi⟩:=hg;obtain⟨ok,ov,st⟩:=st;obtain⟨m,sz,get⟩:=z.raw I.hok;obtain⟨f0,f1,f2,f3,f4,f5⟩:=hf it (by simp);exact pF I.hndH (I.hndNe f0) st m (by omega) fun h' eb=>⟨rfl,I.turned (t':=s.toks) (fun b o hb e=>eb b o hb e) f0 f1 f3 f4 f5⟩
 self:=fun _ _ _ _ _ ⟨ok,ov,st⟩ h=>by have hT:Shared.TypeIs _ (.ref it) "dict_itemiterator" :=⟨_,st,rfl⟩;refine C0 hT F.slot_dict_itemiterator_iter (As F.slot_dict_itemiterator_iter hT W.kcp_entry ?_ (F.args_dict_itemiterator_iter_1 _));exact AA (AB (AB ⟨_,rfl,"dict_itemiterator",_,hT,F.slot_dict_itemiterator_next.lookup,h⟩))
end
section
variable{X:Cx}{Kf:KQ (KU×Obj)}{σ:L2.St}{H:Hp}{s:KS}{a:KU}{Kh:KQ (KQ Key×V)}
def md(I:L2.Inv X Kf σ H s)(e:H a=some (.dT Kh)):∃od es ep,od.data= .dict es ep∧L2.Inv X Kf σ (dW H a (.frz od (.dT Kh))) s∧(a==sysModules)=false∧eQ s.heap a es ep∧es.size=Kh.length:=by
 have ok:ey X.prog X.w H s.heap a (.dT Kh):=I.hok a _ e;obtain⟨_,y,xs,r,o,es,ep,F,ex,M,el,nd⟩:=id ok;have O:=r.length;refine⟨o,es,ep,M,?_,y,⟨o,F,ex,M⟩,by rw[←AW,el,AF];exact O.symm⟩
 have:=I.write (x:=a) (e:=a) (o:=.frz o (.dT Kh)) (h':=s.heap) (t':=s.toks) (by rw[e];exact True.intro) (.inl rfl) (fun b u _ q=>q) ⟨_,F⟩ ⟨F,ok.stay (fun b u _ q=>q) (fun b q=>by rw[qG (lW q e (by nofun))];exact q) fun b xs q=>by rw[qG (lW q e (by nofun))];exact q⟩
 exact this
def l9{od:Obj}(I:L2.Inv X Kf σ H s)(e:H a=some (.frz od (.dT Kh)))(Y:∀o u,X.H₀ a≠some (.frz o u))(Z:∀v,X.A.handled=some v->v≠ .ref a):L2.Inv X Kf σ (dW H a (.dT Kh)) s:=by
 have ok:=(show ey X.prog X.w H s.heap a (.frz od (.dT Kh)) from I.hok a _ e).2;have ne:∀b,H b=none->b≠a:=fun b n z=>by rw[z,e]at n;cases n
 have F:∀b u,H b=some u->(∀o v,u≠ .frz o v)->b≠a:=fun b u q n z=>by rw[z,e]at q;cases q;exact n _ _ rfl
 have nn:∀b,H b=none->dW H a (.dT Kh) b=none:=fun b n=>by rw[qG (ne b n)];exact n
 have bs:=I.base;refine⟨I.ok,I.os,I.bare,⟨bs.keep,bs.slot,fun b o q n x=>nn b (bs.free b o q n x),bs.there,fun b xs q=>?_,fun b o u q=>?_,fun b ps q=>?_⟩,I.loc,I.cell,nn _ I.free,fun x c q=>nn _ (I.freeC x c q),fun p hp=>?_,fun b u q=>?_,I.len,fun v U=>?_⟩;have z:=bs.tups b xs q;rw[qG (F b _ z fun _ _ h=>nomatch h)];exact z;have z:=bs.frzs b o u q;rw[qG (fun y=>by rw[y]at q;exact Y o u q)];exact z;obtain⟨more,z⟩:=bs.tbls b ps q;exact⟨more,by rw[qG (F b _ z fun _ _ h=>nomatch h)];exact z⟩;obtain⟨M,O,R,z4,z5⟩:=I.pin p hp;exact⟨M,nn _ O,R,z4,z5⟩
 ·by_cases z:b=a;subst z;rw[qS]at q;cases q;exact ok.stay (fun c v _ q=>q) (fun c q=>by rw[qG (F c _ q fun _ _ h=>nomatch h)];exact q) fun c xs q=>by rw[qG (F c _ q fun _ _ h=>nomatch h)];exact q
  ·rw[qG z]at q;exact (I.hok b u q).stay (fun c v _ q=>q) (fun c q=>by rw[qG (F c _ q fun _ _ h=>nomatch h)];exact q) fun c xs q=>by rw[qG (F c _ q fun _ _ h=>nomatch h)];exact q
 ·obtain⟨ea,oe,u,vs,M,O,R⟩:=I.hnd v U;exact⟨ea,oe,u,vs,M,by rw[qG (fun y=>Z v U (by rw[M,y]))];exact O,R⟩
end
def NF(X:Cx)(a:KU):Prop:=(∀o u,X.H₀ a≠some (.frz o u))∧∀v,X.A.handled=some v->v≠ .ref a
section
variable{X:Cx}{tg:K2}
def mD{Kf:KQ (KU×Obj)}{σ:L2.St}{H:Hp}{s:KS}{a:KU}{Kh:KQ (KQ Key×V)}(I:L2.Inv X Kf σ H s)(e:H a=some (.dT Kh)):NF X a:=by
 refine⟨fun o u z=>?_,fun v O z=>?_⟩
 ·have:=I.base.frzs a o u z
  rw[e]at this;cases this
 ·obtain⟨R,U,u,vs,F,M,_⟩:=I.hnd v O;rw[z]at F;cases F;rw[e]at M;cases M
def xv(X:Cx)(F:TE):TI:=fun σ H R=>F σ H fun x H1=>∃a Kh,x= .ref a∧H1 a=some (.dT Kh)∧∀od es ep,od.data= .dict es ep->NF X a->R (kU a od es ep Kh) (dW H1 a (.frz od (.dT Kh)))
def Er(X:Cx)(F:TE):TI:=fun σ H R=>F σ H fun x H1=>∃a Kh,x= .ref a∧H1 a=some (.dT Kh)∧∀od es ep,od.data= .dict es ep->NF X a->R (kP a od es ep Kh) (dW H1 a (.frz od (.dT Kh)))
def vY{l:K2}{M:TE}(U:PE X l M):PI X tg l (xv X M):=by
 intro Kf s σ H R I h;refine eE (U Kf s σ H _ I h) fun v s1 ⟨x,H1,O,Y,a,Kh,ex,e,q⟩=>?_;subst ex;cases Y;obtain⟨od,es,ep,hd,F,hs,m,sz⟩:=md O e;refine nu hs m ?_;have Z:dW H1 a (.frz od (.dT Kh)) s1.heap.objs.size=none:=F.hok.fresh (AG _);refine⟨s1.heap.objs.size,[s1.heap.objs.size],_,_,_,rfl,F.kept (t':=s1.toks) fun b o e=>AC _ e,Go,⟨_,AR _ rfl,rfl,rfl⟩,fun b hb=>?_,q od es ep hd (mD O e)⟩;have e:b=s1.heap.objs.size:=by simpa using hb
 subst e;exact F.fpOk (AG _) Z
def uA{l:K2}{tl:TE}{Kt Kq:Pos}{U:KQ K2}{n:Nat}{Y:Pos}(hl:PE X l tl)(M:attributeBase l "items" X.env (eval l X.env)=eval l X.env:=by rfl)(O:(Kt.endLine==Kq.line)=true:=by rfl) :
  PI X (.Tuple U n Y) (.Call (.Attribute l "items" Kt) [] [] Kq) (Er X tl):=by
 intro Kf s σ H R I h;refine wpAny_Call_method0_late M O (eE (hl Kf s σ H _ I h) fun v s1 ⟨x,H1,Z,r1,a,Kh,ex,e,q⟩=>?_);subst ex;cases r1;obtain⟨t1,t2,_⟩:=ms Z (.inr ⟨Kh,.inl e⟩);obtain⟨od,es,ep,hd,I2,hs,m,sz⟩:=md Z e;refine⟨"dict","dict.items",PySem.F.plainAttrs_dict,Cq,PySem.F.type_dict_items,t1,t2,Cw rfl (PySem.evalArgs_none ?_)⟩;refine As Cq t1 PySem.F.entry_dict_items ?_ (PySem.F.args_dict_items_1 _);unfold Builtin.«dict.items» Builtin.Dict.noArgs Builtin.Dict.showsAll;refine AA (AA (wpAny_notOrdered_dict t1 (AB ?_)));show wpAny _ _ ((if (a==sysModules)=true then _ else _) >>= _) _ _ s1;rw[AD (by rw[hs];exact A6)];refine AA (AB (AA (A3 (AB ⟨_,rfl,?_⟩))));have k1:∀b o,s1.heap.get? b=some o->(s1.heap.push { cls:=.type "dict_items",data:=.fields #[.ref a] }).get? b=some o:=fun b o q=>AC _ q;have hv:(s1.heap.push { cls:=.type "dict_items",data:=.fields #[.ref a] }).IsItemsView s1.heap.objs.size a:=⟨_,AR _ rfl,rfl,rfl⟩;have I3:=I2.kept (t':=s1.toks) (h':=s1.heap.push { cls:=.type "dict_items",data:=.fields #[.ref a] }) k1;obtain⟨oo,mm,mx⟩:=m.ex;refine jw (s:={ s1 with heap:=s1.heap.push { cls:=.type "dict_items",data:=.fields #[.ref a] } }) hv ⟨oo,k1 _ _ mm,mx⟩ ?_;have hf:dW H1 a (.frz od (.dT Kh)) (s1.heap.push { cls:=.type "dict_items",data:=.fields #[.ref a] }).objs.size=none:=I3.hok.fresh (AG _);refine⟨(s1.heap.push { cls:=.type "dict_items",data:=.fields #[.ref a] }).objs.size,[(s1.heap.push { cls:=.type "dict_items",data:=.fields #[.ref a] }).objs.size],_,_,_,rfl,I3.kept (t':=s1.toks) fun b o e=>AC _ e,Gb,⟨_,_,AR _ rfl⟩,fun b hb=>?_,q od es ep hd (mD Z e)⟩;have e:b=(s1.heap.push { cls:=.type "dict_items",data:=.fields #[.ref a] }).objs.size:=by simpa using hb
 subst e;exact I3.fpOk (AG _) hf
end
end EX
end
section
namespace EV
open PySem PySem.Spec PyProof.Rows L2 EX
def Wv:PV->KW (KQ L2.Key)
 | .tup (p::l)=>match QV YN (p::l) with|some F=>some (F.map Sum.inl)|none=>none
 |_=>none
def iZ(K:KY):Prop:=∀a F,KT K a (F.map V.int)->F=[]
def nV(K:KY):Bool:=K.all fun p=>match p.2.data with
 | .seq Ki _=>match Ki.toList with
  | .int _ _::_=>match p.2.cls with| .type "tuple" =>false|_=>true
  |_=>true
 |_=>true
def yz{a:KU}{o:Obj}:∀{l:KQ (KU×Obj)},l.lookup a=some o->∃c,(c,o)∈l
 |[],h=>by cases h
 |(q,k)::l,h=>by
  rw[BB]at h;split at h;cases h;exact⟨q,AI⟩;obtain⟨c,F⟩:=yz h;exact⟨c,AH _ F⟩
def Ij{K:KY}(h:nV K=true):iZ K:=fun a I ⟨o,Ki,n,O,R,U,_,F⟩=>by
 obtain⟨c,Y⟩:=yz O;cases I with
 |nil=>rfl
 |cons i I =>
  have:=Aw.mp h _ Y
  dsimp only at this;rw[U]at this;dsimp only at this;rw[AM]at F;cases M:Ki.toList with
  |nil=>rw[M]at F;cases F
  |cons u us =>
   rw[M]at this F;cases F with|cons r _=>obtain⟨t,rfl⟩:=(show ∃t,u=Value.int i t from r);rw[R]at this;cases this
section
variable{X:Cx}{E:XK}{e a c d o:K2}{es:KQ K2}{f fa fb fc fd fk fx:FE}{pos:Pos}{F G:FS}
def lJ{K:KY}{H:Hp}{b:Bz}{p:PV}{v:V}{k:KQ L2.Key}(nk:iZ K)(r:RV K H b p v)(h:Wv p=some k):∃a,v= .ref a∧H a=some (.tup (k.map kV)):=by
 unfold Wv at h;split at h
 ·rename_i p l;split at h
  ·rename_i I M;cases h;unfold RV at r;obtain⟨a,xs,rfl,O,F⟩:=r
   have:=yD F M
   subst this;refine⟨a,rfl,?_⟩;rcases O with q|q
   ·rw[q.1];congr 2;simp[kV]
   ·have:=nk a I q
    subst this
    have:=F.length
    cases this
  ·cases h
 ·cases h
def dY.newS{H:Hp}{b:Bz}{p:KU}{o:HO}(h:H p=none):dY H b (dW H p o) ⟨b.b++[p],b.z⟩ :=
 ⟨⟨⟨[p],rfl,fun a F=>by rw[Af.mp F];exact h⟩,⟨[],rfl,by simp⟩,fun a u e _=>by rw[qG (qL e h)];exact e,fun a u e=>⟨u,by rw[qG (qL e h)];exact e⟩⟩,rfl,fun a u _ e=>by rw[qG (qL e h)];exact e,fun a u _ e=>by rw[qG (qL e h)];exact e⟩
def SR.newS{K:KY}{H:Hp}{b:Bz}{st:qC}(S:SR K H b st){p:KU}{o:HO}{x:SO}(h:H p=none)(U:gV K (dW H p o) ⟨b.b++[p],b.z⟩ x o):SR K (dW H p o) ⟨b.b++[p],b.z⟩ (st++[x]):=by
 have O:=S.new_notin h;refine⟨by simp[S.len],?_,fun i y I=>?_,fun a F=>?_,fun a F Y=>?_⟩;exact List.nodup_append.mpr ⟨S.nd,by simp,fun a F c Z=>by rw[Af.mp Z];intro z;subst z;exact O.1 F⟩
 ·by_cases hi:i<st.length;rw[An hi]at I;obtain⟨a,u,h1,R,h3⟩:=S.at_ i y I;exact⟨a,u,(dY.newS (b:=b) (o:=o) h).ix h1,by rw[qG (qL R h)];exact R,h3.ext (dY.newS h)⟩
  ·have M:i=st.length:=by
    have:=(AT.mp I).1
    rw[Ac,A2]at this;omega
   subst M;have e1:(st++[x])[st.length]? = some x:=by simp
   rw[e1]at I;cases I;exact⟨p,o,by show (b.b++[p])[st.length]? = some p;rw[←S.len];simp,qS,U⟩
 ·obtain⟨u,e⟩:=S.zo a F;exact⟨u,by rw[qG (qL e h)];exact e⟩
 ·rcases At.mp Y with q|q
  ·exact S.zb a F q
  ·rw[Af.mp q]at F;exact O.2 F
def tH{K:KY}{H H':Hp}{b:Bz}{st:qC}(S:SR K H b st){p:KU}:RV K H' ⟨b.b++[p],b.z⟩ (.ref st.length) (.ref p):=by unfold RV;exact⟨p,rfl,by show (b.b++[p])[st.length]? = some p;rw[←S.len];simp⟩
def qAH:FE:=fun _ st=>.ok (.ref st.length) (st++[.d []])
def JP:VE X E (.Dict [] [] pos) qAH:=PE.imp vU fun s H Q ⟨b,r,st,S,R,P⟩ p F =>
 P (.ref p) _ ⟨b.b++[p],b.z⟩ (dY.newS F) (S.newS (x:=.d []) F ⟨[],rfl,rfl,dS.nil⟩) (tH S)
def jD(Kh:KQ (KQ L2.Key×PV))(k:KQ L2.Key):KW PV:=(Kh.find? fun F=>decide (F.1=k)).map (·.2)
def iz(Kh:KQ (KQ L2.Key×PV))(k:KQ L2.Key)(v:PV):KQ (KQ L2.Key×PV) :=
 if (Kh.any fun F=>decide (F.1=k))=true then Kh.map (fun F=>if F.1=k then (F.1,v) else F) else Kh++[(k,v)]
def j9{K:KY}{H:Hp}{b:Bz}{k:KQ L2.Key}:∀{Kh:KQ (KQ L2.Key×PV)} {vs:KQ (KQ L2.Key×V)},Kh.map (·.1)=vs.map (·.1)->dS K H b (Kh.map (·.2)) (vs.map (·.2)) ->
  (∃p v,jD Kh k=some p∧Z2 vs k=some v∧RV K H b p v)∨(jD Kh k=none∧Z2 vs k=none)
 |[],[],_,_=>.inr ⟨rfl,rfl⟩
 |[],_::_,h,_=>by cases h
 |_::_,[],h,_=>by cases h
 |(F,p)::r,(I,v)::vs,h,M=>by
  rw[AM,AM]at h M;obtain⟨O,R⟩:=List.cons.inj h;unfold dS at M;obtain⟨x,xs,U,Y,Z⟩:=M;obtain⟨rfl,rfl⟩:=List.cons.inj U;by_cases e:F=k;exact .inl ⟨p,v,by simp[jD,BW,e],by simp[Z2,BW,←e,show F=I from O],Y⟩
  ·have e':¬I=k:=fun z=>e ((show F=I from O).trans z)
   have:=j9 (k:=k) R Z
   simpa[jD,Z2,BW,e,e'] using this
def xW{k:KQ L2.Key}{Kh:KQ (KQ L2.Key×PV)}{vs:KQ (KQ L2.Key×V)}(h:Kh.map (·.1)=vs.map (·.1)):(Kh.any fun F=>decide (F.1=k))=(vs.any fun F=>decide (F.1=k)):=by
 have I:(Kh.any fun F=>decide (F.1=k))=(Kh.map (·.1)).any fun x=>decide (x=k):=by rw[List.any_map];rfl
 have M:(vs.any fun F=>decide (F.1=k))=(vs.map (·.1)).any fun x=>decide (x=k):=by rw[List.any_map];rfl
 rw[I,M,h]
def rk{K:KY}{H:Hp}{b:Bz}{k:KQ L2.Key}{p:PV}{v:V}(rp:RV K H b p v):∀{Kh:KQ (KQ L2.Key×PV)} {vs:KQ (KQ L2.Key×V)},Kh.map (·.1)=vs.map (·.1)->dS K H b (Kh.map (·.2)) (vs.map (·.2)) ->
  (Kh.map (fun F=>if F.1=k then (F.1,p) else F)).map (·.1)=(vs.map (fun F=>if F.1=k then (F.1,v) else F)).map (·.1) ∧
  dS K H b ((Kh.map (fun F=>if F.1=k then (F.1,p) else F)).map (·.2)) ((vs.map (fun F=>if F.1=k then (F.1,v) else F)).map (·.2))
 |[],[],_,_=>⟨rfl,dS.nil⟩
 |[],_::_,h,_=>by cases h
 |_::_,[],h,_=>by cases h
 |(R,q)::r,(Y,w)::vs,h,M=>by
  rw[AM,AM]at h M;obtain⟨O,Z⟩:=List.cons.inj h;unfold dS at M;obtain⟨x,xs,e1,e2,e3⟩:=M;obtain⟨rfl,rfl⟩:=List.cons.inj e1;have O:R=Y:=O;subst O;obtain⟨I,U⟩:=rk (k:=k) rp Z e3;by_cases e:R=k;exact⟨by simp only[AM,e,Cr]at I ⊢;rw[I],by simp only[AM,e,Cr];exact dS.cons rp U⟩;exact⟨by simp only[AM,e,BQ]at I ⊢;rw[I],by simp only[AM,e,BQ];exact dS.cons e2 U⟩
def DT{K:KY}{H:Hp}{b:Bz}{k:KQ L2.Key}{p:PV}{v:V}(rp:RV K H b p v){Kh:KQ (KQ L2.Key×PV)}{vs:KQ (KQ L2.Key×V)}(h:Kh.map (·.1)=vs.map (·.1))(F:dS K H b (Kh.map (·.2)) (vs.map (·.2))) :
  (iz Kh k p).map (·.1)=(Zq vs k v).map (·.1)∧dS K H b ((iz Kh k p).map (·.2)) ((Zq vs k v).map (·.2)):=by
 unfold iz Zq;rw[xW h];by_cases q:(vs.any fun I=>decide (I.1=k))=true;rw[AE q,AE q];exact rk rp h F
 ·rw[AD q,AD q];refine⟨by rw[BK,BK,h];rfl,?_⟩;rw[BK,BK];exact F.append (dS.cons rp dS.nil)
def gy(st:qC)(i:Nat):KW (KQ (KQ L2.Key×PV)):=match st[i]? with|some (.d Kh)=>some Kh|some (.z Kh)=>some Kh|_=>none
def l6{K:KY}{H:Hp}{b:Bz}{st:qC}{i:Nat}{a:KU}{Kh:KQ (KQ L2.Key×PV)}(S:SR K H b st)(R:b.b[i]? = some a)(h:gy st i=some Kh):∃vs,Rd H a (.dT vs)∧Kh.map (·.1)=vs.map (·.1)∧dS K H b (Kh.map (·.2)) (vs.map (·.2)):=by
 unfold gy at h;split at h;rename_i q e;cases h;obtain⟨U,o,F,I,vs,rfl,M,O⟩:=S.at_ i _ e;rw[R]at F;cases F;exact⟨vs,.inl I,M,O⟩;rename_i q e;cases h;obtain⟨U,o,F,I,od,vs,rfl,M,O⟩:=S.at_ i _ e;rw[R]at F;cases F;exact⟨vs,.inr ⟨od,I⟩,M,O⟩;cases h
def zh:PV->PV->qC->Rs PV:=fun p q st=>match p with
 | .ref i=>match Wv q,gy st i with
  |some k,some Kh=>match jD Kh k with|some v=>.ok v st|none=>.no
  |_,_=>.no
 |_=>.no
def Yw(U:X.A.units+1<cLine)(nk:iZ X.K)(Y:VE X E o fd)(hi:VE X E c fk)(hs:ls c:=by exact fun _ _=>rfl):VE X E (.Subscript o c pos) (qN zh fd fk) :=
 PE.imp (Fs U Y hi hs) fun s H Q ⟨b,r,st,S,R,P⟩=>⟨b,r,st,S,R,dR.bind P fun p s1 u H1 b1 Z S1 r1 P1=>⟨b1,r,s1,S1,R.ext Z,dR.bind P1 fun q s2 w H2 b2 e2 O r2 F=>by
  unfold zh at F;split at F
  ·rename_i i;split at F
   ·rename_i k Kh hk hd;have I:=RV.ext e2 _ r1;unfold RV at I;obtain⟨x,rfl,hx⟩:=I;obtain⟨y,rfl,hy⟩:=lJ nk r2 hk;obtain⟨vs,g1,g2,g3⟩:=l6 O hx hd;rcases j9 (k:=k) g2 g3 with⟨p,v,M,v2,v3⟩|⟨M,_⟩
    ·rw[M]at F;exact⟨x,v,rfl,.inr ⟨vs,k,y,g1,rfl,hy,v2.symm⟩,dR.here F O v3⟩
    ·rw[M]at F;exact F.elim
   ·exact F.elim
  ·exact F.elim⟩⟩
def zQ(fd fk fx:FE):FE:=fun r st=>(fd r st).bind fun o s1=>match o with
 | .ref i=>match gy s1 i with
  |some _=>(fk r s1).bind fun q s2=>(fx r s2).bind fun z F=>match Wv q,gy F i with|some k,some Kh=>.ok ((jD Kh k).getD z) F|_,_=>.no
  |none=>.no
 |_=>.no
def yK{Kt Kq:Pos}(hu:X.A.units+1<cLine)(nk:iZ X.K)(ho:VE X E o fd)(he:VE X E e fk)(hf:VE X E d fx)(F:attributeBase o "get" X.env (eval o X.env)=eval o X.env:=by rfl)
  (M:((backTo Kq (starEach [e,d] X.env)).all (fun x=> !x.1)&&(backToKw Kq (keywordEach [] X.env)).all (fun x=>x.1.isSome)&&decide ([e,d].length+([]:KQ Keyword).length+(if ([]:KQ Keyword).isEmpty then 0 else 1)<30))=true:=by rfl)
  (I:(Kt.endLine==Kq.line)=true:=by rfl) (ht:backTo Kq (starEach [e,d] X.env)=[(false,eval e X.env),(false,eval d X.env)]:=by rfl) :
  VE X E (.Call (.Attribute o "get" Kt) [e,d] [] Kq) (zQ fd fk fx) :=
 PE.imp (Ev hu ho he hf ⟨F,M,I,ht⟩) fun s H Q ⟨b,r,st,S,R,P⟩=>⟨b,r,st,S,R,dR.bind P fun p s1 u H1 b1 e1 S1 r1 O=>by
  split at O
  ·rename_i i;split at O
   ·rename_i a0 U;unfold RV at r1;obtain⟨x,rfl,hx⟩:=r1;obtain⟨Y,g0,_,_⟩:=l6 S1 hx U;refine⟨x,rfl,.inr ⟨Y,g0⟩,b1,r,s1,S1,R.ext e1,dR.bind O fun q s2 w H2 b2 e2 S2 r2 P2=>⟨b2,r,s2,S2,(R.ext e1).ext e2,dR.bind P2 fun z s3 y H3 b3 e3 Z r3 P3=>?_⟩⟩;split at P3
    ·rename_i k Kh hk hd;obtain⟨c1,rfl,hy⟩:=lJ nk (RV.ext e3 _ r2) hk;obtain⟨vs,g1,g2,g3⟩:=l6 Z (e3.ix (e2.ix hx)) hd;refine⟨Z2 vs k,.inr ⟨vs,k,c1,g1,rfl,hy,rfl⟩,?_⟩;rcases j9 (k:=k) g2 g3 with⟨p,v,v1,v2,v3⟩|⟨v1,v2⟩
     ·rw[v1]at P3;rw[v2];exact dR.here P3 Z v3
     ·rw[v1]at P3;rw[v2];exact dR.here P3 Z r3
    ·exact P3.elim
   ·exact O.elim
  ·exact O.elim⟩
def WU(fd fk f:FE):FS:=fun r st=>(f r st).bindS fun p s1=>(fd r s1).bindS fun o s2=>(fk r s2).bindS fun q F=>match o with
 | .ref i=>match Wv q,F[i]? with|some k,some (.d Kh)=>if Kh.length<sizeLine then .nx r (F.set i (.d (iz Kh k p))) else .no|_,_=>.no
 |_=>.no
def yH{F:Pos}(hu:X.A.units+1<cLine)(nk:iZ X.K)(ho:VE X E o fd)(hi:VE X E c fk)(h:VE X E e f)(hs:swapsWith e (some (.Subscript o c F)) pos.line X.env=pure false:=by rfl) :
  VS X E (.Assign [.Subscript o c F] e pos) (WU fd fk f) :=
 PS.imp (sA hu ho hi h hs) fun D s H ⟨b,r,st,S,R,P⟩=>⟨b,r,st,S,R,dR.bindS P fun p s1 u H1 b1 Y S1 r1 P1 =>
  ⟨b1,r,s1,S1,R.ext Y,dR.bindS P1 fun o s2 w H2 b2 Z S2 r2 P2=>⟨b2,r,s2,S2,(R.ext Y).ext Z,dR.bindS P2 fun q s3 y H3 O e3 S3 r3 P3=>by
   split at P3
   ·rename_i i;split at P3
    ·rename_i k Kh hk hd;split at P3
     ·rename_i hl;have I:=RV.ext e3 _ r2;unfold RV at I;obtain⟨x,rfl,hx⟩:=I;obtain⟨c1,rfl,hy⟩:=lJ nk r3 hk;obtain⟨a',o',g1,g2,vs,rfl,g3,g4⟩:=S3.at_ i _ hd;rw[hx]at g1;cases g1;have M:Kh.length=vs.length:=by have:=CK List.length g3;simpa using this
      have hm:x∈O.b:=Ap hx;have U:dY H3 O (dW H3 x (.dT (Zq vs k u))) O:=dY.wr hm S3.zb (oK g2 fun _ _ z=>nomatch z);refine⟨x,_,rfl,hV.t g2 hy (by rw[←M];exact hl),?_⟩;obtain⟨q1,q2⟩:=DT (k:=k) (RV.ext U _ (RV.ext e3 _ (RV.ext Z _ r1))) g3 (dS.ext U _ g4);exact P3 s _ O U (S3.wr (x:=.d (iz Kh k p)) hx ⟨_,rfl,q1,q2⟩) ((((R.ext Y).ext Z).ext e3).ext U)
     ·exact P3.elim
    ·exact P3.elim
   ·exact P3.elim⟩⟩⟩
def SR.tup_out{K:KY}{H:Hp}{b:Bz}{st:qC}(S:SR K H b st){x:KU}{xs:KQ V}(h:H x=some (.tup xs)):b.out x:=by
 refine⟨fun I=>?_,fun I=>?_⟩
 ·obtain⟨i,hi⟩:=Bf I;have O:i<b.b.length:=(AT.mp hi).1;have hs:st[i]? = some (st[i]'(by rw[←S.len];exact O)):=AJ _;obtain⟨Y,o,R,U,F⟩:=S.at_ i _ hs;rw[hi]at R;cases R;rw[h]at U;cases U;cases M:st[i]'(by rw[←S.len];exact O) with|l xs=>rw[M]at F;obtain⟨_,e,_⟩:=F;cases e|d xs=>rw[M]at F;obtain⟨_,e,_⟩:=F;cases e|z xs=>rw[M]at F;obtain⟨_,_,e,_⟩:=F;cases e
 ·obtain⟨Z,e⟩:=S.zo x I;rw[h]at e;cases e
def kp:L2.Key->PV| .inl i=>.int i| .inr x=>.str x
def wS(k:KQ L2.Key):PV:=.tup (k.map kp)
def lw{K:KY}{H:Hp}{b:Bz}:∀k:KQ L2.Key,dS K H b (k.map kp) (k.map kV)|[]=>dS.nil| .inl i::k=>dS.cons (by show RV K H b (.int i) (.int i);unfold RV;rfl) (lw k)| .inr i::k=>dS.cons (by show RV K H b (.str i) (.str i);unfold RV;rfl) (lw k)
def JZ{K:KY}{H:Hp}{b:Bz}{st:qC}(S:SR K H b st){x:KU}{k:KQ L2.Key}(h:H x=some (.tup (k.map kV))):RV K H b (wS k) (.ref x):=by unfold wS RV;exact⟨x,_,rfl,.inl ⟨h,S.tup_out h⟩,lw k⟩
def WC(it:Bool)(F:KQ L2.Key×PV):PV:=match it with|true=>.tup [wS F.1,F.2]|false=>wS F.1
def pz{H1 H':Hp}{b1 b':Bz}{x:KU}{od:Obj}{vs:KQ (KQ L2.Key×V)}(e:dY (dW H1 x (.frz od (.dT vs))) b1 H' b')(h:H1 x=some (.dT vs))(R:x∈b1.b)(hz:∀y∈b1.z,y∉b1.b):dY H1 b1 (dW H' x (.dT vs)) b':=by
 have nn:∀y,dW H1 x (.frz od (.dT vs)) y=none->H1 y=none:=fun y O=>by
  by_cases F:y=x;subst F;rw[qS]at O;cases O;rw[qG F]at O;exact O
 obtain⟨n,Y,Z⟩:=e.more;obtain⟨y,h3,h4⟩:=e.zm;refine⟨⟨⟨n,Y,fun a M=>nn a (Z a M)⟩,⟨y,h3,fun a M=>nn a (h4 a M)⟩,fun a o I U=>?_,fun a o I=>?_⟩,e.same,fun a o M I=>?_,fun a o u I=>?_⟩
 ·have F:a≠x:=fun z=>U.1 (by rw[z];exact R);rw[qG F];exact e.keep a o (by rw[qG F];exact I) U
 ·by_cases F:a=x;exact⟨_,by rw[F];exact qS⟩;rw[qG F];exact e.dom a o (by rw[qG F];exact I)
 ·have F:a≠x:=fun z=>hz a M (by rw[z];exact R);rw[qG F];exact e.hid a o M (by rw[qG F];exact I)
 ·have F:a≠x:=fun z=>by rw[z,h]at I;cases I
  rw[qG F];exact e.fz a o u (by rw[qG F];exact I)
structure gr (K:W.Frag) (H1:Hp) (b1:Bz) (s1:qC) (i:Nat) (x:Addr) (Kh:List (List L2.Key×PV)) (vs:List (List L2.Key×V)):Prop where
 S:SR K H1 b1 s1
 ix:b1.b[i]? = some x
 h:H1 x=some (.dT vs)
 ks:Kh.map (·.1)=vs.map (·.1)
 rs:dS K H1 b1 (Kh.map (·.2)) (vs.map (·.2))
def gr.of{K:KY}{H1:Hp}{b1:Bz}{s1:qC}{i:Nat}{u:V}{Kh:KQ (KQ L2.Key×PV)}(S:SR K H1 b1 s1)(r:RV K H1 b1 (.ref i) u)(hs:s1[i]? = some (.d Kh)):∃x vs,u= .ref x∧gr K H1 b1 s1 i x Kh vs:=by unfold RV at r;obtain⟨x,rfl,F⟩:=r;obtain⟨U,o,I,M,vs,rfl,O,R⟩:=S.at_ i _ hs;rw[F]at I;cases I;exact⟨x,vs,rfl,S,F,M,O,R⟩
def gr.fr{K:KY}{H1:Hp}{b1:Bz}{s1:qC}{i:Nat}{x:KU}{Kh:KQ (KQ L2.Key×PV)}{vs:KQ (KQ L2.Key×V)}(B:gr K H1 b1 s1 i x Kh vs)(od:Obj):SR K (dW H1 x (.frz od (.dT vs))) b1 (s1.set i (.z Kh)) :=
 B.S.wr (x:=.z Kh) B.ix ⟨od,vs,rfl,B.ks,dS.wext (WE.wr (.inl (Ap B.ix))) _ B.rs⟩
def gr.len{K:KY}{H1:Hp}{b1:Bz}{s1:qC}{i:Nat}{x:KU}{Kh:KQ (KQ L2.Key×PV)}{vs:KQ (KQ L2.Key×V)}(B:gr K H1 b1 s1 i x Kh vs):Kh.length=vs.length:=by
 have:=CK List.length B.ks;simpa using this
def gr.get{K:KY}{H1:Hp}{b1:Bz}{s1:qC}{i:Nat}{x:KU}{Kh:KQ (KQ L2.Key×PV)}{vs:KQ (KQ L2.Key×V)}(B:gr K H1 b1 s1 i x Kh vs){it:Bool}{j:Nat}{p:PV}(h:(Kh.map (WC it))[j]? = some p):∃k q v,p=WC it (k,q)∧vs[j]? = some (k,v)∧j<vs.length∧(Kh.map (·.2))[j]? = some q:=by
 rw[Am]at h;cases F:Kh[j]? with
 |none=>rw[F]at h;cases h
 |some I =>
  rw[F]at h;cases h;have O:j<vs.length:=by rw[←B.len];exact (AT.mp F).1
  have M:(Kh.map (·.1))[j]? = some I.1:=by rw[Am,F];rfl
  rw[B.ks,Am,AJ O]at M;have M:vs[j].1=I.1:=Aj M;exact⟨I.1,I.2,vs[j].2,rfl,by rw[AJ O,←M],O,by rw[Am,F];rfl⟩
end
end EV
end
section
namespace EX
open PySem PySem.Spec PyProof.Rows L2
end EX
namespace EV
open PySem PySem.Spec PyProof.Rows L2 EX
end EV
end
section
namespace EX
open PySem PySem.Spec PyProof.Rows L2
end EX
namespace EV
open PySem PySem.Spec PyProof.Rows L2 EX
end EV
end
section
namespace EX
open PySem PySem.Spec PyProof.Rows L2
end EX
namespace EV
open PySem PySem.Spec PyProof.Rows L2 EX
end EV
end
section
namespace EV
open PySem PySem.Spec PyProof.Rows L2 EX
section
variable{X:Cx}{E:XK}{e a c d:K2}{es:KQ K2}{f fa fb fc:FE}{fl:FL}{pos:Pos}{F G:FS}
def rK{F:FA}{p:Pos}(I:VA X E (e::es) F)(M:X.mg "abs" = none)(O:Gl X "abs" :=by rfl)(he:starEach (e::es) X.env=(false,eval e X.env)::starEach es X.env:=by rfl)(Ku:(backTo pos (starEach es X.env)).any (·.1)=false:=by rfl):VE X E (.Call (.Name "abs" p) (e::es) [] pos) (qK qD6 F) :=
 Wd EU F3 O M PyProof.Rows.boot_abs I (he:=he) (Ku:=Ku)
end
end EV
end
section
namespace EX
open PySem PySem.Spec PyProof.Rows L2
section
variable{X:Cx}{pos:Pos}
def GX(i j k:Nat)(F:TA):TS:=fun D σ H=>F σ H fun vs H1=>∃v w z,vs=[v,w,z]∧D.nx (((σ.set i (some v)).set j (some w)).set k (some z)) H1
def Hs{i j k:Nat}{x y z:Str}{a b c:K2}{ta:TA}{U Y Z pt:Pos}{kt k2 F}(hc:X.calm=true)(hN:X.N.Nodup)(hi:X.N[i]? = some x)(hj:X.N[j]? = some y)(hk:X.N[k]? = some z)(a0:i≠j)(a1:i≠k)(a2:j≠k)
  (hx:X.env.scope.names.lookup x=some .local) (hy:X.env.scope.names.lookup y=some .local) (hz:X.env.scope.names.lookup z=some .local) (ha:PA X [a,b,c] ta)
  (hw:swappedStores [.Tuple [.Name x U,.Name y Y,.Name z Z] kt pt] (.Tuple [a,b,c] k2 F) X.env=pure (some [x,y,z]))
  (hs:swapsWithSole [.Tuple [.Name x U,.Name y Y,.Name z Z] kt pt] (.Tuple [a,b,c] k2 F) pos.line X.env=pure false:=by rfl) :
  PS X (.Assign [.Tuple [.Name x U,.Name y Y,.Name z Z] kt pt] (.Tuple [a,b,c] k2 F) pos) (GX i j k ta):=by
 intro Kf s σ H D I h;rw[exec_Assign_arm];refine AA (Cb ?_);rw[hs];refine AA (AB ?_);rw[AD (by decide)];refine AA (Tuple_ (eE (ha _ Kf s σ H _ I h) fun us s1 ⟨vs,H1,I1,r1,q1⟩=>?_));obtain⟨v,w,z',e1,q1⟩:=q1;subst e1;obtain⟨M,O,R,rfl,rv,a3,rz⟩:∃M O R,us=[M,O,R]∧RelV v M∧RelV w O∧RelV z' R:=by
  cases r1 with
  |cons p q =>
   cases q with
   |cons p' q' =>
    cases q' with|cons a4 a5=>cases a5;exact⟨_,_,_,rfl,p,p',a4⟩
 refine A3 ?_ (by show 3≤sizeLine;decide);have I2:L2.Inv X Kf σ H1 { s1 with heap:=s1.heap.push { cls:=.type "tuple",data:=.seq [M,O,R].toArray } }:=I1.kept (t':=s1.toks) fun b o e=>AC _ e;rw[hw];refine AA (AB ?_);show wpAny (model X.prog X.w) X.A (do rule "assign.swapped-stores";let items ← unpackItems (.ref s1.heap.objs.size) 3 none;assignInOrder [fun v=>bindName X.env z v,fun v=>bindName X.env y v,fun v=>bindName X.env x v] items.reverse;pure Flow.next) _ _ _;refine AA (Cu (AA (unpackItems_tuple (items := #[M,O,R]) (I.ok.hd hc) (IsTup.new s1.heap _) fun h' a6=>?_)));have I3:=I2.kept (h':=h') (t':=s1.toks) fun b o e=>a6 b o (Aa (AL e)) e;show wpAny _ _ (assignInOrder [fun v=>bindName X.env z v,fun v=>bindName X.env y v,fun v=>bindName X.env x v] [R,O,M] >>= fun _=>pure Flow.next) _ _ _;refine AA (CS (DO (wg I3 hN hk (.inl hz) rz (fun s2 I4=>?_) (.inr hz))));refine CS (DO (wg I4 hN hj (.inl hy) a3 (fun s3 I5=>?_) (.inr hy)));refine CS (DO (wg I5 hN hi (.inl hx) rv (fun s4 I6=>assignInOrder_nil (AB ?_)) (.inr hx)));have e6:((σ.set k (some z')).set j (some w)).set i (some v)=((σ.set i (some v)).set j (some w)).set k (some z'):=by rw[List.set_comm _ _ (Ne.symm a0),List.set_comm _ _ (Ne.symm a1),List.set_comm _ _ (Ne.symm a2)]
 rw[e6]at I6;exact⟨_,H1,I6,q1⟩
end
end EX
namespace EV
open PySem PySem.Spec PyProof.Rows L2 EX
section
variable{X:Cx}{E:XK}{a c d:K2}{pos:Pos}
def jM(i j k:Nat)(t:FA):FS:=fun r st=>(t r st).bindS fun l s=>match l with|[p,q,w]=>.nx (((r.set i (some p)).set j (some q)).set k (some w)) s|_=>.no
def ug(i j k:Nat){x y z:Str}{t:FA}{I M O pt:Pos}{U k2 F}(hc:X.calm=true)(hN:X.N.Nodup)(ha:VA X E [a,c,d] t)(hw:swappedStores [.Tuple [.Name x I,.Name y M,.Name z O] U pt] (.Tuple [a,c,d] k2 F) X.env=pure (some [x,y,z]):=by rfl)
  (hi:X.N[i]? = some x:=by rfl) (hj:X.N[j]? = some y:=by rfl) (hk:X.N[k]? = some z:=by rfl) (Y:i≠j:=by decide) (Z:i≠k:=by decide) (a0:j≠k:=by decide) (hx:X.env.scope.names.lookup x=some .local:=by rfl) (hy:X.env.scope.names.lookup y=some .local:=by rfl) (hz:X.env.scope.names.lookup z=some .local:=by rfl)
  (hs:swapsWithSole [.Tuple [.Name x I,.Name y M,.Name z O] U pt] (.Tuple [a,c,d] k2 F) pos.line X.env=pure false:=by rfl):VS X E (.Assign [.Tuple [.Name x I,.Name y M,.Name z O] U pt] (.Tuple [a,c,d] k2 F) pos) (jM i j k t) :=
 PS.imp (Hs hc hN hi hj hk Y Z a0 hx hy hz ha hw hs) fun D s H ⟨b,r,st,S,R,P⟩=>⟨b,r,st,S,R,eC.bindS P fun l s1 us H1 b1 e1 S1 r1 P1=>by
  split at P1;obtain⟨u,v,w,rfl,h1,h2,h3⟩:=dS.three r1;exact⟨u,v,w,rfl,P1 _ H1 b1 (dY.refl _ _) S1 ((((R.ext e1).set h1 i).set h2 j).set h3 k)⟩;exact P1.elim⟩
end
end EV
end
section
namespace EX
open PySem PySem.Spec PyProof.Rows L2
def gg(w:K0):Bool:=w.params.followText "set-order"
section
variable{prog:KZ}{w:K0}{A:K1}{E:KR->KS->Prop}{s:KS}
theorem nI{a:KR}{Q:KR->KS->Prop}(h:Q (.ref s.heap.objs.size) { s with heap:=s.heap.push { cls:=.type "set",data:=.set #[] 0 (SetTable.fresh 0 0 (!gg w)) } }) :
  codeAny (model prog w) A (.call (.builtin "set.__new__") ⟨[.type "set",a],[]⟩) (wants Q E) s:=by
 refine C6 F.plain_set_new F.entry_set_new (Ar (F.newCall_set_1 a) ?_);unfold Builtin.«set.__new__» Builtin.Frozenset.newClass;dsimp only;refine AA (AA (Ar (a:=true) rfl ?_));rw[AD (by decide)];refine AA (Ar sub_set_self ?_);rw[AD (by decide)];refine AB (AA ?_);unfold newSet setsByText;refine AA (AA (Cm (AB ?_)));dsimp only;unfold newObj;dsimp only;rw[AD (by decide)];unfold newObjAsIs;refine AA (wpAny_alloc ?_);dsimp only;exact AB (AB h)
end
def JK:entryFor table "set.__iter__" = some Builtin.«frozenset.__iter__» :=entryFor_alias (id' := "frozenset.__iter__") (by kernel_rfl) (by kernel_rfl) (by kernel_rfl) (by kernel_rfl)
def Z6:entryFor table "set_iterator.__next__" = some Builtin.«set_iterator.__next__» :=entryFor_of_fast (by kernel_rfl)
def fg:Slot "set_iterator" (Str.ofString "__next__") "set_iterator.__next__" :=@Slot.of "set_iterator" (Str.ofString "__next__") "set_iterator.__next__" "set_iterator" "__next__" (by rw[typeLookup_type,builtinLookup_eq_fast];rfl) (by decide) (by decide) (by decide) (Or.inl (by decide +kernel)) (by rw[isSubtype_type];rfl) (by decide +kernel)
def jO(a:KR):argsOk "set_iterator.__next__" { pos:=[a] }:=by
 unfold argsOk
 kernel_rfl
def rG{α:Type}:∀{l:KQ α} {i:Nat} (h:i<l.length),(l[i]::l.eraseIdx i).Perm l|x::l,0,_=>.refl _|x::l,i+1,h=>(List.Perm.swap x _ _).trans ((rG (l:=l) (i:=i) (by simpa using h)).cons x)
def ra{α:Type}(next:Nat->Nat):∀(n k:Nat) (left:KQ α) (out:K3 α),left.length=n->(pickOrder.go next n k left out).toList.Perm (out.toList++left)
 |0,k,left,out,h=>by
  have:left=[]:=List.eq_nil_of_length_eq_zero h
  subst this;show out.toList.Perm _;rw[BJ]
 |n+1,k,left,out,h=>by
  have F:next k%left.length<left.length:=Nat.mod_lt _ (by omega);show (match left[next k%left.length]? with|some x=>pickOrder.go next n (k+1) (left.eraseIdx (next k%left.length)) (out.push x)|none=>out).toList.Perm _;rw[AJ F];dsimp only;refine (ra next n (k+1) _ _ (by rw[List.length_eraseIdx_of_lt F];omega)).trans ?_;rw[Array.toList_push,BY];exact List.Perm.append_left _ (rG F)
def wb(w:K0)(a:KU)(ep:Nat)(es:K3 (Int×KR)):K3 (Int×KR):=if gg w=true then pickOrder (w.params.setOrder a ep) es else es
def oM{w:K0}{a:KU}{ep:Nat}{es:K3 (Int×KR)}:(wb w a ep es).toList.Perm es.toList:=by
 unfold wb;split;exact ra _ _ _ _ _ (by simp);exact .refl _
def zc{w:K0}{a:KU}{ep:Nat}{es:K3 (Int×KR)}:(wb w a ep es).size=es.size:=by
 have:=(oM (w:=w) (a:=a) (ep:=ep) (es:=es)).length_eq
 rwa[AW,AW]at this
def je:entryFor table "list.extend.loop" = some Builtin.«list.extend.loop» :=entryFor_of_fast (by kernel_rfl)
def zD:plainId "list.extend.loop" = true:=by decide +kernel
section
variable{prog:KZ}{w:K0}{A:K1}{E:KR->KS->Prop}{R:Result->KS->Prop}{a it:KU}{es:K3 (Int×KR)}{ep:Nat}{t:SetTable}
theorem hint_set{s:KS}{Q:Bool->KS->Prop}(I:s.TypeIs (.ref a) "set")(h:Q false s):wpAny (model prog w) A (Builtin.List.listLengthHint (.ref a)) Q E s:=by
 unfold Builtin.List.listLengthHint;refine AA (DF I F.slot_set_len.lookup ?_);dsimp only;rw[show splitId "set.__len__" = some ("set","__len__") by decide];dsimp only;refine AA (BL I sub_set_self ?_);rw[AD (by decide),AE (by decide +kernel)];exact AA (Bp I (AB h))
end
end EX
namespace EV
open PySem PySem.Spec PyProof.Rows L2 EX
section
variable{X:Cx}{E:XK}{e:K2}{f:FE}{p p2 pos Kx:Pos}
def za{K:KY}{H:Hp}{b:Bz}:∀(ns:KQ Int),dS K H b (ns.map PV.int) (ns.map V.int)|[]=>dS.nil|n::ns=>dS.cons Qz (za ns)
end
end EV
end
section
namespace EX
open PySem PySem.Spec PyProof.Rows L2
inductive gv (A:Around) (s:Shared) (r:Bool):List Value->List Value->Prop where|nn:r=false->gv A s r [] []|nc {w ws}:r=true->gv A s r [] (w::ws)|cn {v vs}:r=false->gv A s r (v::vs) []|eq {v vs w ws}:SeqAt.EqAt A s v w true->gv A s r vs ws->gv A s r (v::vs) (w::ws)|ne {v vs w ws}:SeqAt.EqAt A s v w false->(∀(prog:Program) (wd:World) (E:Value->Shared->Prop) (Q:Value->Shared->Prop),Q (.bool r) s->wpAny (model prog wd) A (richCompare .Lt v w) Q E s)->gv A s r (v::vs) (w::ws)
section
open PySem.SeqAt
open PySem.AutoSeq1 (wpAny_loadPart')
open PySem.MeetsSeq PySem.MeetsSeq2 PySem.MeetsSeq3
def Jx(l b:KU)(items F:K3 KR)(n n2:Nat)(dd a1:KW KU)(sl a2:K3 (KW KR))(r:Bool) :
  Meets (Builtin.«tuple.__lt__» ⟨[.ref l,.ref b],[]⟩)
   (fun A R s=>s.heap.get? l=some { cls:=.type "tuple",dict:=dd,data:=.seq items n,slots:=sl }∧s.heap.get? b=some { cls:=.type "tuple",dict:=a1,data:=.seq F n2,slots:=a2 }∧gv A.in1 s r items.toList F.toList ∧
    R (.ok (.ret (.bool r))) s) :=
 .of_wp fun prog w A R s h=>by
  obtain⟨hp,g,d,tk,os⟩:=s;obtain⟨hl,hb,hG,h⟩:=h;have f2:=AutoSeq1.sub_tuple_tuple
  wp_walk using wpAny_loadPart' hl,wpAny_loadPart' hb,wpAny_forIn_list _ (fun O b s'=>b.1=none∧s'=⟨hp,g,d,tk,os⟩∧∃(vs ws:KQ KR),O=vs.zip ws∧gv A.in1 ⟨hp,g,d,tk,os⟩ r vs ws ∧
   vs.length+F.size=ws.length+items.size) _
  case turn =>
   rintro⟨y,x⟩ O b s' ⟨U,rfl,vs,ws,M,Y,I⟩;cases Y with
   |nn _=>cases M
   |nc _=>cases M
   |cn _=>rw[List.zip_nil_right]at M;cases M
   |eq Z a0 =>
    rw[Bl]at M;injection M with KO hrest;injection KO with hy hx;subst hy hx;simp only[AO]at I;refine AA (Z prog w _ _ ?_)
    wp_walk
    exact⟨rfl,rfl,_,_,hrest,a0,by omega⟩
   |ne Z hc =>
    rw[Bl]at M;injection M with KO hrest;injection KO with hy hx;subst hy hx;refine AA (Z prog w _ _ ?_);have a3:=hc prog w
    wp_walk using a3
    exact⟨_,rfl,by simpa using h⟩
  case fin =>
   rintro⟨b1,b2⟩ s' ⟨U,rfl,vs,ws,M,Y,I⟩;simp only at U;subst U;have hv:r=decide (items.size<F.size):=by
    cases Y with|nn hr=>simp only[CT]at I;rw[hr];exact (AU (by omega)).symm|nc hr=>simp only[CT,AO]at I;rw[hr];exact (AS (by omega)).symm|cn hr=>simp only[CT,AO]at I;rw[hr];exact (AU (by omega)).symm|eq Z a0=>rw[Bl]at M;cases M|ne Z hc=>rw[Bl]at M;cases M
   rw[hv]at h
   wp_walk
   exact⟨_,rfl,by simpa[Builtin.Tuple.tupleCompareSizes] using h⟩
  case h=>exact⟨rfl,rfl,items.toList,F.toList,rfl,hG,by simp;omega⟩
end
end EX
namespace EV
open PySem PySem.Spec PyProof.Rows L2 EX
mutual
def gY:PV->PV->KW Bool| .int i,.int j=>some (decide (i<j))| .tup l,.tup m=>gh l m|_,_=>none
def gh:KQ PV->KQ PV->KW Bool|[],[]=>some false|[],_::_=>some true|_::_,[]=>some false|p::ps,q::qs=>if e9 p q=true then gh ps qs else gY p q
end
section
variable{X:Cx}{Kf:KQ (KU×Obj)}{σ:L2.St}{H:Hp}{s:KS}
def nZ(X:Cx)(H:Hp)(s:KS)(A:K1)(p q:PV):Prop:=∀{v u:V} {F I:KR} {r:Bool},RW X.K H p v->RW X.K H q u->RelV v F->RelV u I->gY p q=some r ->
  ∀(prog:KZ) (wd:K0) (E:KR->KS->Prop) (Q:KR->KS->Prop),Q (.bool r) s->wpAny (model prog wd) A (richCompare .Lt F I) Q E s
def DU(I:L2.Inv X Kf σ H s){n:Nat}{A:K1}{r:Bool}(hu:A.units+n<cLine)(ih:∀p q,fG p≤n->nZ X H s A p q):∀{l m:KQ PV} {xs U:KQ V} {Ki F:KQ KR},eL l≤n->eK X.K H l xs->eK X.K H m U->Vals xs Ki->Vals U F->gh l m=some r->gv A s r Ki F:=by
 intro l;induction l with
 |nil =>
  intro m xs U Ki F _ O M Z R e;unfold eK at O;subst O;cases Z;cases m with|nil=>unfold eK at M;subst M;cases R;unfold gh at e;cases e;exact .nn rfl|cons q qs=>unfold eK at M;obtain⟨y,yr,rfl,_,_⟩:=M;cases R;unfold gh at e;cases e;exact .nc rfl
 |cons p ps a0 =>
  intro m xs U Ki F hd O M Z R e;unfold eK at O;obtain⟨x,xr,rfl,hx,a1⟩:=O;unfold eL at hd;cases Z with
  |cons rx a2 =>
   cases m with
   |nil=>unfold eK at M;subst M;cases R;unfold gh at e;cases e;exact .cn rfl
   |cons q qs =>
    unfold eK at M;obtain⟨y,yr,rfl,hy,a3⟩:=M;cases R with
    |cons ry a4 =>
     have Y:=kl I n p q x y _ _ A (by omega) hu hx hy rx ry;unfold gh at e;cases hq:e9 p q with|true=>rw[hq]at e Y;exact .eq Y (a0 (by omega) a1 a3 a2 a4 e)|false=>rw[hq]at e Y;exact .ne Y (ih p q (by omega) hx hy rx ry e)
def rh(I:L2.Inv X Kf σ H s):∀(n:Nat) (p q:PV) (A:K1),fG p≤n->A.units+n<cLine->nZ X H s A p q:=by
 intro n;induction n with
 |zero =>
  intro p q A hd hu v u uv uu r O R rv ru e prog wd E Q h;cases p with
  |int i =>
   cases q with|int j=>unfold RW at O R;subst O;subst R;obtain⟨t,rfl⟩:=rv;obtain⟨t',rfl⟩:=ru;unfold gY at e;cases e;exact HT.rcLt_int A s i t j t' prog wd E Q h|_=>simp[gY]at e
  |tup l=>unfold fG at hd;omega
  |_=>cases q <;> simp[gY]at e
 |succ n ih =>
  intro p q A hd hu v u uv uu r O R rv ru e prog wd E Q h;cases p with
  |int i =>
   cases q with|int j=>unfold RW at O R;subst O;subst R;obtain⟨t,rfl⟩:=rv;obtain⟨t',rfl⟩:=ru;unfold gY at e;cases e;exact HT.rcLt_int A s i t j t' prog wd E Q h|_=>simp[gY]at e
  |tup l =>
   cases q with
   |tup m =>
    unfold RW at O R;obtain⟨a,xs,rfl,h2,h3⟩:=O;obtain⟨a',ys,rfl,k2,k3⟩:=R;cases rv;cases ru;obtain⟨Ki,r1,t1,_⟩:=I.tuple h2;obtain⟨U,r2,t2,_⟩:=I.tuple k2;unfold gY at e;unfold fG at hd;obtain⟨⟨cls,dd,data,sl⟩,ho,hc,n1,Y⟩:=id t1;obtain⟨⟨a4,a2,data2,a3⟩,Z,a0,n2,M⟩:=id t2;simp only at hc Y a0 M;subst hc Y a0 M;have a1:A.in1.units+n<cLine:=by show A.units+1+n<cLine;omega
    have G:=DU I (n:=n) (A:=A.in1) a1 (fun p q hd=>ih p q A.in1 hd a1) (by omega) h3 k3 r1 r2 e;exact richCompare_meets_room (op:= .Lt) ⟨_,ho,rfl⟩ ⟨_,Z,rfl⟩ PySem.F.slot_tuple_lt PySem.F.entry_tuple_lt (PySem.F.args_tuple_lt_2 _ _) (Jx _ _ Ki.toArray U.toArray n1 n2 dd a2 sl a3 r)
     ⟨ho,Z,by simpa using G,show Value.bool r≠Value.notImplemented∧Q (.bool r) s from⟨(fun x=>nomatch x),h⟩⟩ (by omega)
   |_=>simp[gY]at e
  |_=>cases q <;> simp[gY]at e
end
section
variable{X:Cx}{E:XK}{a c:K2}{fa fb:FE}{pos:Pos}
def mT(K:KY):R2:=fun u v H Q=>∃p q r,RW K H p u∧RW K H q v∧fG p≤yZ∧gY p q=some r∧Q (.bl r) H
def vv(U:X.A.units+64<cLine):fS X (compareOp .Lt) (mT X.K):=by intro Kf s σ H x y v u Q I F M h;obtain⟨p,q,r,O,R,hd,e,h⟩:=h;exact rh I 60 p q X.A hd (by omega) O R F M e _ _ _ _ ⟨.bl _,H,I,rfl,h⟩
def qDd:PV->PV->qC->Rs PV:=fun p q st=>if yn (res st p) (res st q)=true then (match gY (res st p) (res st q) with|some r=>.ok (.bl r) st|none=>.no) else .no
def uN:gL X E (mT X.K) qDd:=by
 intro H b st p q u v Q S rp F P;unfold qDd at P;split at P
 ·rename_i h;obtain⟨I,M,O⟩:=Yx h;split at P;rename_i r R;exact⟨_,_,r,Zu S rp I,Zu S F M,O,R,dR.here P S ZE⟩;exact P.elim
 ·exact P.elim
def vG(F:X.A.units+64<cLine)(I:VE X E a fa)(M:VE X E c fb):VE X E (.Compare a [.Lt] [c] pos) (qN qDd fa fb):=Jj (vv F) uN I M
end
end EV
end
section
namespace EV
open PySem PySem.Spec PyProof.Rows L2 EX
section
variable{X:Cx}{E:XK}{e:K2}{te:TE}{f:FE}{p kp kpos pos:Pos}{j:Nat}
def qCl:=gI fun i j=>if 0<j∧j<2 ^ 64 then some (.int (i/j)) else none
def FB:fS X (binaryOp .FloorDiv) (rI (fun _ j=>0<j∧j<2 ^ 64) fun i j=>.int (i/j)):=ko fun i j _ _ _ _ _ F q=>by
 have O:(0:Int)<j:=F.1;have R:j<2 ^ 64:=F.2;refine floordiv_int (by omega) (by rw[Int.fdiv_eq_ediv_of_nonneg i (by omega)];exact q) (.inl (PyProof.noPylong_of_log2 ?_));have I:j.natAbs<2 ^ 64:=by omega
 have M:j.natAbs≠0:=by omega
 exact DH ((Nat.log2_lt M).mpr I) (by decide)
def D5{a c:K2}{fa fb:FE}(F:VE X E a fa)(I:VE X E c fb):VE X E (.BinOp a .FloorDiv c pos) (qN qCl fa fb):=yG FB (kh fun i j z e=>by
 split at e;rename_i h;cases e;exact⟨h,fun _ _=>Qz⟩;cases e) F I
end
mutual
def Zg:PV->KW PyData| .non=>some .none| .bl b=>some (.bool b)| .int i=>some (.int i)| .str x=>some (.str x)| .tup l=>(fQ l).map .tuple| .lst l=>(fQ l).map .list|_=>none
def fQ:KQ PV->KW (KQ PyData)
 |[]=>some []
 |p::ps=>match Zg p,fQ ps with|some d,some ds=>some (d::ds)|_,_=>none
end
def gU(d:PyData):KW Str:=if d.showable=true∧d.depth≤60∧d.shown.length≤sizeLine then some d.shown else none
def iC:PV->KW Str| .non=>some "None"| .bl b=>some (if b=true then "True" else "False")| .int i=>if i.natAbs.log2<1920 then some (Str.ofString (toString i)) else none| .str x=>if (reprText x).length≤sizeLine then some (reprText x) else none| .dct=>gU (.dict [])| .tup l=>(Zg (.tup l)).bind gU| .lst l=>(Zg (.lst l)).bind gU|_=>none
section
variable{X:Cx}{E:XK}{e:K2}{es:KQ K2}{pos:Pos}{Kf:KQ (KU×Obj)}{σ:L2.St}{H:Hp}{s:KS}{b:Bz}
mutual
def Y7(I:L2.Inv X Kf σ H s):∀(p:PV) {v:V} {u:KR} {d:PyData},RV X.K H b p v->RelV v u->Zg p=some d->d.hasDict=false∧∃as,Reads s.heap u d as
 | .non,_,_,_,r,q,e=>by unfold RV at r;subst r;cases q;cases e;exact⟨rfl,_,.none⟩
 | .bl x,_,_,_,r,q,e=>by unfold RV at r;subst r;cases q;cases e;exact⟨rfl,_,.bool x⟩
 | .int x,_,_,_,r,q,e=>by unfold RV at r;subst r;obtain⟨t,rfl⟩:=q;cases e;exact⟨rfl,_,.int x t⟩
 | .str x,_,_,_,r,q,e=>by unfold RV at r;subst r;obtain⟨t,rfl⟩:=q;cases e;exact⟨rfl,_,.str x t⟩
 | .tup l,_,_,d,r,q,e=>by
  unfold RV at r;obtain⟨a,xs,rfl,h1,h2⟩:=r;cases q;unfold Zg at e;cases el:fQ l with|none=>rw[el]at e;cases e|some ds=>rw[el]at e;cases e;obtain⟨Ki,rv,⟨o,g1,g2,n,g3⟩,_⟩:=I.tuple h1.sq;obtain⟨hd,as,ha⟩:=fI I l h2 rv el;exact⟨hd,as,.tuple g1 g2 g3 (by simpa using ha)⟩
 | .lst l,_,_,d,r,q,e=>by
  unfold RV at r;obtain⟨a,xs,rfl,h1,h2⟩:=r;cases q;unfold Zg at e;cases el:fQ l with|none=>rw[el]at e;cases e|some ds=>rw[el]at e;cases e;obtain⟨Ki,rv,⟨o,n,g1,g2,_,g3⟩,_⟩:=I.list h1.sq;obtain⟨hd,as,ha⟩:=fI I l h2 rv el;exact⟨hd,_,.list g1 g2 g3 (by simpa using ha)⟩
 | .ref _,_,_,_,_,_,e=>by cases e
 | .dct,_,_,_,_,_,e=>by cases e
 | .ty _,_,_,_,_,_,e=>by cases e
 | .fn _,_,_,_,_,_,e=>by cases e
 | .exc _ _,_,_,_,_,_,e=>by cases e
def fI(I:L2.Inv X Kf σ H s):∀(l:KQ PV) {xs:KQ V} {us:KQ KR} {ds:KQ PyData},dS X.K H b l xs->Vals xs us->fQ l=some ds->PyData.hasDictAll ds=false∧∃as,ReadsAll s.heap us ds as
 |[],_,_,_,r,q,e=>by unfold dS at r;subst r;cases q;cases e;exact⟨rfl,_,.nil⟩
 |p::ps,_,_,ds,r,q,e=>by
  unfold dS at r;obtain⟨x,t,rfl,h2,h3⟩:=r;cases q with
  |cons q1 q2 =>
   unfold fQ at e;cases e1:Zg p with
   |none=>rw[e1]at e;cases e
   |some d =>
    cases e2:fQ ps with|none=>rw[e1,e2]at e;cases e|some ds=>rw[e1,e2]at e;cases e;obtain⟨a1,a2,a3⟩:=Y7 I p h2 q1 e1;obtain⟨b1,b2,b3⟩:=fI I ps h3 q2 e2;exact⟨by rw[PyData.hasDictAll.eq_2,a1,b1];rfl,_,.cons a3 b3⟩
end
def lA{a:KU}{d:PyData}{as:KQ KU}{t:Str}{Q:VK}(I:L2.Inv X Kf σ H s)(F:X.A.guards=some [])(U:X.A.units+64<cLine)(M:Reads s.heap (.ref a) d as)(hd:d.hasDict=true->¬sysModules∈as)(e:gU d=some t)(q:Q (.str t) H) :
  wpAny (model X.prog X.w) X.A (call (.builtin "repr") [.ref a]) (EP X Kf σ Q) X.xe s:=by
 unfold gU at e;split at e;rename_i hs;cases e;exact repr_of_reads' M hs.1 hd F (by have:=hs.2.1;omega) (fun _ _ h=>h) (fun h' u O R=>⟨.str d.shown,H,I.kept (h':=h') (t':=O) R,⟨u,rfl⟩,q⟩) hs.2.2;cases e
def Hg(R:X.A.guards=some [])(U:X.A.units+64<cLine):Wi X (.builtin "repr") (fun xs H Q=>∃x p b t,xs=[x]∧RV X.K H b p x∧iC p=some t∧Q (.str t) H):=by
 intro Kf s σ H xs us Q I r h;obtain⟨x,p,b,t,rfl,rp,e,q⟩:=h;obtain⟨u,rfl,F⟩:=Zi r;cases p with
 |non=>unfold RV at rp;subst rp;cases F;cases e;exact P.repr_of_none ⟨.str _,H,I.tok _,⟨_,rfl⟩,q⟩
 |bl x=>unfold RV at rp;subst rp;cases F;cases e;refine P.repr_of_bool ⟨.str _,H,I.tok _,⟨_,rfl⟩,q⟩
 |int i =>
  unfold RV at rp;subst rp;obtain⟨t',rfl⟩:=F;have e:(if i.natAbs.log2<1920 then some (Str.ofString (toString i)) else none)=some t:=e;split at e;rename_i Y;cases e;exact P.repr_of_int Y ⟨.str _,H,I.tok _,⟨_,rfl⟩,q⟩;cases e
 |str x =>
  unfold RV at rp;subst rp;obtain⟨t',rfl⟩:=F;have e:(if (reprText x).length≤sizeLine then some (reprText x) else none)=some t:=e;split at e;rename_i Y;cases e;exact P.repr_of_str ⟨.str _,H,I.tok _,⟨_,rfl⟩,q⟩ Y;cases e
 |dct =>
  unfold RV at rp;obtain⟨a,rfl,O,_⟩:=rp;cases F;obtain⟨_,hs,vs,kv,ob,es,ep,g1,g2,g3,_,g5,_⟩:=rW I.hok O;cases kv;have h0:es.toList=[]:=by cases h:es.toList with|nil=>rfl|cons=>rw[h]at g5;cases g5
  refine lA I R U (d:=.dict []) (as:=[a]) (Reads.dict (as:=[]) (bs:=[]) g1 g2.1 g3 (by rw[h0];exact .nil) (by rw[h0];exact .nil)) (fun _ hm=>?_) e q;simp only[Af]at hm;rw[←hm]at hs;exact absurd hs (by decide)
 |tup l =>
  have M:(Zg (.tup l)).bind gU=some t:=e;cases el:Zg (.tup l) with|none=>rw[el]at M;cases M|some d=>rw[el]at M;have hv:=Y7 I _ rp F el;unfold RV at rp;obtain⟨a,xs,rfl,h1,h2⟩:=rp;cases F;obtain⟨z,Z,O⟩:=hv;exact lA I R U O (fun y=>absurd (z.symm.trans y) (by decide)) M q
 |lst l =>
  have M:(Zg (.lst l)).bind gU=some t:=e;cases el:Zg (.lst l) with|none=>rw[el]at M;cases M|some d=>rw[el]at M;have hv:=Y7 I _ rp F el;unfold RV at rp;obtain⟨a,xs,rfl,h1,h2⟩:=rp;cases F;obtain⟨z,Z,O⟩:=hv;exact lA I R U O (fun y=>absurd (z.symm.trans y) (by decide)) M q
 |_=>cases e
def YD:KQ PV->qC->Rs PV:=fun ps st=>match ps with
 |[p]=>match iC p with|some t=>.ok (.str t) st|none=>.no
 |_=>.no
def EK:ZC X E (fun xs H Q=>∃x p b t,xs=[x]∧RV X.K H b p x∧iC p=some t∧Q (.str t) H) YD:=by
 intro H b st ps vs Q S r P;unfold YD at P;split at P
 ·obtain⟨v,rfl,F⟩:=dS.one r;split at P;rename_i t I;exact⟨v,_,b,t,rfl,F,I,dR.here P S (by unfold RV;rfl)⟩;exact P.elim
 ·exact P.elim
def o5{I:FA}{p:Pos}(F:X.A.guards=some [])(M:X.A.units+64<cLine)(O:VA X E (e::es) I)(R:X.mg "repr" = none)(U:Gl X "repr" :=by rfl)(he:starEach (e::es) X.env=(false,eval e X.env)::starEach es X.env:=by rfl)(Ku:(backTo pos (starEach es X.env)).any (·.1)=false:=by rfl):VE X E (.Call (.Name "repr" p) (e::es) [] pos) (qK YD I) :=
 Wd (Hg F M) EK U R PyProof.Rows.boot_repr O (he:=he) (Ku:=Ku)
end
end EV
end
section
namespace ET
open PySem
def Rz(xs:K3 Nat):Prop:=∀i k,i<k->k<xs.size->xs.getD i 0<xs.getD k 0
def uo{xs:K3 Nat}{i a b:Nat}(h:i<xs.size):xs.getD i a=xs.getD i b:=by rw[AQ,AQ,AN h];rfl
def Yj{xs:K3 Nat}{j:Nat}(R:Rz xs):∀(f lo hi:Nat),lo≤hi->hi≤xs.size->hi-lo≤f->(∀i,i<lo->xs.getD i 0<j)->(∀i,hi≤i->i<xs.size->j≤xs.getD i 0) ->
  (∀i,i<SetTable.below.go xs j f lo hi->xs.getD i 0<j)∧(∀i,SetTable.below.go xs j f lo hi≤i->i<xs.size->j≤xs.getD i 0)∧SetTable.below.go xs j f lo hi≤xs.size
 |0,lo,hi,h1,F,h3,I,M=>by
  have:lo=hi:=by omega
  subst this;exact⟨I,M,F⟩
 |f+1,lo,hi,h1,F,h3,I,M=>by
  unfold SetTable.below.go;by_cases Z:lo<hi
  ·rw[AE Z];have a0:lo≤(lo+hi)/2:=by omega
   have a1:(lo+hi)/2<hi:=by omega
   dsimp only;rw[uo (b:=0) (show (lo+hi)/2<xs.size by omega)];by_cases O:xs.getD ((lo+hi)/2) 0<j
   ·rw[AE O];refine Yj R f _ _ (by omega) F (by omega) (fun i U=>?_) M;by_cases Y:i=(lo+hi)/2;rw[Y];exact O;exact DH (R i _ (by omega) (by omega)) O
   ·rw[AD O];refine Yj R f _ _ (by omega) (by omega) (by omega) I (fun i U hs=>?_);by_cases Y:i=(lo+hi)/2;rw[Y];omega
    ·have:=R _ i (show (lo+hi)/2<i by omega) hs
     omega
  ·rw[AD Z]
   have:lo=hi:=by omega
   subst this;exact⟨I,M,F⟩
def WT{xs:K3 Nat}(R:Rz xs)(j:Nat):(∀i,i<SetTable.below xs j->xs.getD i 0<j)∧(∀i,SetTable.below xs j≤i->i<xs.size->j≤xs.getD i 0)∧SetTable.below xs j≤xs.size :=
 Yj R _ _ _ (Au _) (AG _) (AG _) (fun i h=>absurd h (BP _)) (fun i I F=>absurd F (by omega))
def xz{xs:K3 Nat}(R:Rz xs){i:Nat}(h:i<xs.size):SetTable.below xs (xs.getD i 0)=i:=by
 obtain⟨I,M,O⟩:=WT R (xs.getD i 0);by_cases F:SetTable.below xs (xs.getD i 0)=i;exact F
 ·rcases Nat.lt_or_gt_of_ne F with q|q
  ·have:=M _ (AG _) (by omega)
   have:=R _ _ q h
   omega
  ·have:=I i q;omega
def Ei{xs:K3 Nat}(R:Rz xs){i:Nat}(h:i<xs.size):SetTable.below xs (xs.getD i 0+1)=i+1:=by
 obtain⟨I,M,O⟩:=WT R (xs.getD i 0+1);by_cases F:SetTable.below xs (xs.getD i 0+1)=i+1;exact F
 ·rcases Nat.lt_or_gt_of_ne F with q|q
  ·have:=M i (by omega) h
   omega
  ·have a:=I (i+1) q
   have:=R i (i+1) (by omega) (by omega)
   omega
def vA{xs:K3 Nat}(R:Rz xs):SetTable.below xs 0=0:=by
 obtain⟨F,I,M⟩:=WT R 0;cases h:SetTable.below xs 0 with|zero=>rfl|succ n=>have:=F 0 (by omega);omega
def mem_getD{xs:K3 Nat}{j:Nat}:j∈xs.toList ↔ ∃i,i<xs.size∧xs.getD i 0=j:=by
 constructor
 ·intro h;obtain⟨i,hi,e⟩:=List.getElem_of_mem h;refine⟨i,by simpa using hi,?_⟩;rw[AQ,AN (by simpa using hi)];simpa using e
 ·rintro⟨i,hi,rfl⟩;rw[AQ,AN hi];exact Array.mem_toList_iff.mpr (Array.getElem_mem hi)
def oz(j:Nat):SetTable.has #[] j=false:=by unfold SetTable.has;simp
def jz{t:SetTable}(R:Rz t.place){i:Nat}(h:i<t.place.size):t.slot (t.place.getD i 0)= .live i:=by unfold SetTable.slot;rw[xz R h];dsimp only;rw[AE];rw[AQ,AN h];simp
def Ib{t:SetTable}(hd:t.dummies = #[]){j:Nat}(h:j∉t.place.toList):t.slot j= .empty:=by
 unfold SetTable.slot;dsimp only;rw[AD,hd,oz];simp;intro q;refine h (mem_getD.mpr ⟨SetTable.below t.place j,?_⟩);have q:=DK q;obtain⟨F,I⟩:=BG.mp q;refine⟨F,?_⟩;rw[AQ,q];rfl
def iQ(Kg:Nat)(p:SetTable.Probe):SetTable.Probe :=
 if p.more>0 then { p with j:=p.j+1,more:=p.more-1 } else
 { p with j:=(SetTable.leap Kg p.i p.perturb).1,more:=SetTable.runEnd Kg (SetTable.leap Kg p.i p.perturb).1-(SetTable.leap Kg p.i p.perturb).1,i:=(SetTable.leap Kg p.i p.perturb).1,perturb:=(SetTable.leap Kg p.i p.perturb).2 }
def xH(t:SetTable)(p:SetTable.Probe):t.advance p=iQ t.mask p:=rfl
def sq(Kg:Nat)(h:Int):Nat->SetTable.Probe|0=>⟨SetTable.bits h%(Kg+1),SetTable.runEnd Kg (SetTable.bits h%(Kg+1))-SetTable.bits h%(Kg+1),SetTable.bits h%(Kg+1),SetTable.bits h,none⟩|n+1=>iQ Kg (sq Kg h n)
def lp(Kg:Nat)(h:Int):Nat->Nat×Nat|0=>(SetTable.bits h%(Kg+1),SetTable.bits h)|n+1=>SetTable.leap Kg (lp Kg h n).1 (lp Kg h n).2
def rn(Kg i:Nat):Nat:=SetTable.runEnd Kg i-i
def ge(Kg:Nat)(h:Int):Nat->Nat|0=>0|n+1=>ge Kg h n+rn Kg (lp Kg h n).1+1
def lz{Kg:Nat}{h:Int}{m n:Nat}(e:sq Kg h n=⟨(lp Kg h m).1,rn Kg (lp Kg h m).1,(lp Kg h m).1,(lp Kg h m).2,none⟩):∀k,k≤rn Kg (lp Kg h m).1->sq Kg h (n+k)=⟨(lp Kg h m).1+k,rn Kg (lp Kg h m).1-k,(lp Kg h m).1,(lp Kg h m).2,none⟩
 |0,_=>e
 |k+1,F=>by
  rw[←Nat.add_assoc,sq,lz e k (by omega)];unfold iQ;rw[AE (show rn Kg (lp Kg h m).1-k>0 by omega)];show SetTable.Probe.mk _ _ _ _ _=_;rw[show rn Kg (lp Kg h m).1-k-1=rn Kg (lp Kg h m).1-(k+1) by omega,Nat.add_assoc]
def kR{Kg:Nat}{h:Int}:∀m,sq Kg h (ge Kg h m)=⟨(lp Kg h m).1,rn Kg (lp Kg h m).1,(lp Kg h m).1,(lp Kg h m).2,none⟩
 |0=>rfl
 |m+1=>by
  rw[ge,sq,lz (kR m) _ (AG _)];unfold iQ;rw[AD (show ¬rn Kg (lp Kg h m).1-rn Kg (lp Kg h m).1>0 by omega)];rfl
def ny{Kg:Nat}{h:Int}{m k:Nat}(F:k≤rn Kg (lp Kg h m).1):(sq Kg h (ge Kg h m+k)).j=(lp Kg h m).1+k:=by rw[lz (kR m) k F]
def Ii(Kg i:Nat):rn Kg i≤9:=by unfold rn SetTable.runEnd;split <;> omega
def mX{Kg:Nat}{h:Int}:∀m,ge Kg h m≤10*m
 |0=>AG _
 |m+1=>by
  have:=mX (Kg:=Kg) (h:=h) m
  have:=Ii Kg (lp Kg h m).1
  rw[ge];omega
def v8{Kg:Nat}{h:Int}:∀m,(lp Kg h m).1≤Kg|0=>C1 (Nat.mod_lt _ (Nat.succ_pos _))|m+1=>C1 (Nat.mod_lt _ (Nat.succ_pos _))
def nq{Kg:Nat}{h:Int}:∀m,(lp Kg h m).2=SetTable.bits h/32 ^ m|0=>by simp[lp]|m+1=>by show (lp Kg h m).2/32=_;rw[nq m,Nat.div_div_eq_div_mul,Nat.pow_succ]
def Dq(h:Int):SetTable.bits h<2 ^ 64:=by
 unfold SetTable.bits
 have:=Int.emod_lt_of_pos h (show (0:Int)<2 ^ 64 by decide)
 have:=Int.emod_nonneg h (show (2 ^ 64:Int)≠0 by decide)
 omega
def Gp{Kg:Nat}{h:Int}(m:Nat)(F:13≤m):(lp Kg h m).2=0:=by rw[nq];refine Nat.div_eq_of_lt (Ax (Dq h) ?_);exact Ab (show 2 ^ 64≤32 ^ 13 by decide) (Nat.pow_le_pow_right (by decide) F)
def cy(Kg:Nat)(a:Nat):Nat->Nat|0=>a|n+1=>(cy Kg a n*5+1)%(Kg+1)
def jP{Kg a:Nat}(m:Nat):∀n,cy Kg (cy Kg a m) n=cy Kg a (m+n)|0=>rfl|n+1=>by rw[←Nat.add_assoc,cy,cy,jP m n]
def gR(Kg:Nat):Prop:=∀a,a≤Kg->∀e,e≤Kg->∃k,k≤Kg∧cy Kg a k=e
def i7(Kg:Nat):Nat->Nat->KQ Nat|0,_=>[]|n+1,a=>a::i7 Kg n ((a*5+1)%(Kg+1))
def nv{Kg:Nat}:∀(n a i:Nat),i<n->(i7 Kg n a)[i]? = some (cy Kg a i)
 |0,_,_,h=>absurd h (BP _)
 |n+1,a,0,_=>rfl
 |n+1,a,i+1,h=>by
  rw[i7,List.getElem?_cons_succ,nv n _ i (by omega)]
  have:=jP (Kg:=Kg) (a:=a) 1 i
  rw[show i+1=1+i by omega,←this];rfl
def sw{Kg:Nat}:∀(n a:Nat),(i7 Kg n a).length=n|0,_=>rfl|n+1,a=>by rw[i7,AO,sw n]
def nJ(Kg:Nat):Bool:=Nat.beq (cy Kg 0 (Kg+1)) 0&&(List.range (Kg+1)).all fun e=>(i7 Kg (Kg+1) 0).any fun x=>Nat.beq x e
def Jb{Kg:Nat}(h:nJ Kg=true):gR Kg:=by
 unfold nJ at h;rw[AY,Aw]at h;obtain⟨R,M⟩:=h;have R:=Nat.eq_of_beq_eq_true R;have O:∀e,e≤Kg->∃k,k≤Kg∧cy Kg 0 k=e:=fun e Y=>by
  obtain⟨x,hx,q⟩:=List.any_eq_true.mp (M e (BM.mpr (by omega)));have q:=Nat.eq_of_beq_eq_true q;obtain⟨k,U⟩:=Bf hx;have Z:=(AT.mp U).1;rw[sw]at Z;rw[nv _ _ _ Z]at U;cases U;exact⟨k,by omega,q⟩
 intro a ha e Y;obtain⟨F,h1,e1⟩:=O a ha;obtain⟨I,h2,e2⟩:=O e Y;by_cases hq:F≤I
 ·refine⟨I-F,by omega,?_⟩;rw[←e1,jP,show F+(I-F)=I by omega,e2]
 ·refine⟨I+(Kg+1)-F,by omega,?_⟩;rw[←e1,jP,show F+(I+(Kg+1)-F)=(Kg+1)+I by omega,←jP,R,e2]
def Ht:gR 7:=Jb (by decide +kernel)
def uD:gR 31:=Jb (by decide +kernel)
def xC:gR 127:=Jb (by decide +kernel)
def Hk:gR 511:=Jb (by decide +kernel)
def rH{Kg:Nat}{h:Int}:∀n,(lp Kg h (13+n)).1=cy Kg (lp Kg h 13).1 n
 |0=>rfl
 |n+1=>by
  show ((lp Kg h (13+n)).1*5+1+(lp Kg h (13+n)).2/32)%(Kg+1)=_;rw[Gp _ (by omega),rH n];rfl
def su{Kg:Nat}{h:Int}(C:gR Kg){e:Nat}(he:e≤Kg):∃m,m≤Kg+13∧(lp Kg h m).1=e:=by obtain⟨k,F,q⟩:=C _ (v8 (Kg:=Kg) (h:=h) 13) e he;exact⟨13+k,by omega,by rw[rH,q]⟩
def Ej{Kg:Nat}{h:Int}(C:gR Kg){e:Nat}(he:e≤Kg):∃n,n<10*SetTable.turns Kg∧(sq Kg h n).j=e:=by
 obtain⟨m,F,q⟩:=su (h:=h) C he;refine⟨ge Kg h m,?_,?_⟩
 ·have:=mX (Kg:=Kg) (h:=h) m
  unfold SetTable.turns;omega
 ·rw[kR];exact q
structure ic (t:SetTable) (n:Nat):Prop where
 dum:t.dummies = #[]
 sz:t.place.size=n
 ris:Rz t.place
 le:∀j∈t.place.toList,j≤t.mask
 room:n≤t.mask
def lS:∀(n:Nat) (l:KQ Nat),l.length<n->∃e,e<n∧e∉l
 |0,l,h=>absurd h (BP _)
 |n+1,l,h=>by
  by_cases F:n∈l
  ·obtain⟨e,M,I⟩:=lS n (l.filter (· ≠ n)) (by
    have:(l.filter (· ≠ n)).length<l.length:=by apply List.length_filter_lt_length_iff_exists.mpr;exact⟨n,F,by simp⟩
    omega)
   refine⟨e,by omega,fun q=>I (Bj.mpr ⟨q,by simp;omega⟩)⟩
  ·exact⟨n,by omega,F⟩
def ic.free{t:SetTable}{n:Nat}(T:ic t n):∃e,e≤t.mask∧e∉t.place.toList:=by
 obtain⟨e,I,F⟩:=lS (t.mask+1) t.place.toList (by rw[AW,T.sz];have:=T.room;omega);exact⟨e,by omega,F⟩
def rD{P:Nat->Prop}(hd:∀n,Decidable (P n)):∀{n:Nat},P n->∃k,k≤n∧P k∧∀m,m<k->¬P m
 |0,h=>⟨0,AG _,h,fun m F=>absurd F (BP _)⟩
 |n+1,h=>by
  by_cases U:∃m,m≤n∧P m
  ·obtain⟨m,F,I⟩:=U
   have:∀(f:Nat) (m:Nat),m≤f->P m->∃k,k≤m∧P k∧∀m',m'<k->¬P m':=by
    intro f;induction f with
    |zero =>
     intro m F I
     have:m=0:=by omega
     subst this;exact⟨0,AG _,I,fun m F=>absurd F (BP _)⟩
    |succ f ih =>
     intro m F I;by_cases Y:∃m',m'<m∧P m'
     ·obtain⟨m',Z,M⟩:=Y;obtain⟨k,k1,O,R⟩:=ih m' (by omega) M;exact⟨k,by omega,O,R⟩
     ·exact⟨m,AG _,I,fun m' Z M=>Y ⟨m',Z,M⟩⟩
   obtain⟨k,k1,O,R⟩:=this m m (AG _) I;exact⟨k,by omega,O,R⟩
  ·exact⟨n+1,AG _,h,fun m F I=>U ⟨m,by omega,I⟩⟩
def ic.first{t:SetTable}{n:Nat}(T:ic t n)(C:gR t.mask)(h:Int):∃k,k<10*SetTable.turns t.mask∧(sq t.mask h k).j∉t.place.toList∧∀m,m<k->(sq t.mask h m).j∈t.place.toList:=by
 obtain⟨e,F,I⟩:=T.free;obtain⟨k,Z,M⟩:=Ej (h:=h) C F;obtain⟨O,k1,R,U⟩:=rD (P:=fun k=>(sq t.mask h k).j∉t.place.toList) (fun _=>inferInstance) (n:=k) (by rw[M];exact I);exact⟨O,by omega,R,fun m Y=>Decidable.not_not.mp (U m Y)⟩
def Y4(Kg:Nat)(h:Int):∀n,(sq Kg h n).dummy=none
 |0=>rfl
 |n+1=>by
  rw[sq];unfold iQ;split;exact Y4 Kg h n;exact Y4 Kg h n
def J3{t:SetTable}{n:Nat}(T:ic t n)(f:Nat->Int)(h:Int){k:Nat}(hk:(sq t.mask h k).j∉t.place.toList)(hb:∀m,m<k->(sq t.mask h m).j∈t.place.toList):∀(F m:Nat),m≤k->k-m<F ->
  ((∀x,m≤x->x<k->∀i,t.place.getD i 0=(sq t.mask h x).j->i<t.place.size->f i≠h)∧SetTable.probe.go t f h F (sq t.mask h m)=some (.empty (sq t.mask h k).j none)) ∨
  ∃x i,m≤x∧x<k∧i<t.place.size∧t.place.getD i 0=(sq t.mask h x).j∧f i=h∧(∀y,m≤y->y<x->∀i,t.place.getD i 0=(sq t.mask h y).j->i<t.place.size->f i≠h)∧SetTable.probe.go t f h F (sq t.mask h m)=some (.candidate (sq t.mask h x).j i (sq t.mask h (x+1)))
 |0,m,_,O=>absurd O (BP _)
 |F+1,m,h1,O=>by
  rw[SetTable.probe.go];by_cases he:m=k
  ·subst he;left;refine⟨fun x a b=>absurd b (by omega),?_⟩;rw[Ib T.dum hk,Y4]
  ·have hm:=hb m (by omega);obtain⟨i,hi,e⟩:=mem_getD.mp hm;have Z:t.slot (sq t.mask h m).j= .live i:=by rw[←e];exact jz T.ris hi
   rw[Z];dsimp only;have M:∀I,t.place.getD I 0=(sq t.mask h m).j->I<t.place.size->I=i:=fun I R h'=>by
    rcases Nat.lt_trichotomy I i with q|q|q
    ·have:=T.ris _ _ q hi;omega
    ·exact q
    ·have:=T.ris _ _ q h';omega
   by_cases U:f i=h
   ·rw[AE (by rw[U];exact A1 h)];right;exact⟨m,i,AG _,by omega,hi,e,U,fun y a b=>absurd b (by omega),rfl⟩
   ·rw[AD (by simpa using U)]
    have:=J3 T f h hk hb F (m+1) (by omega) (by omega)
    rw[xH];have hs:iQ t.mask (sq t.mask h m)=sq t.mask h (m+1):=rfl;rw[hs];rcases this with⟨a,b⟩|⟨x,I,a,b,c,d,e1,e2,e3⟩
    ·left;refine⟨fun x h1 O I R h'=>?_,b⟩;by_cases hx:x=m;subst hx;rw[M I R h'];exact U;exact a x (by omega) O I R h'
    ·right;refine⟨x,I,by omega,b,c,d,e1,fun y h1 O Y R h'=>?_,e3⟩;by_cases hx:y=m;subst hx;rw[M Y R h'];exact U;exact e2 y (by omega) O Y R h'
def kC{α:Type}(t:SetTable)(es:KQ (Int×α)):Prop:=∀q∈t.place.toList.zip es,∃m,(sq t.mask q.2.1 m).j=q.1∧∀m',m'<m->(sq t.mask q.2.1 m').j∈t.place.toList
def kI{α:Type}(xs:K3 α)(p:Nat)(x:α):(SetTable.insertAt xs p x).toList=xs.toList.take p++x::xs.toList.drop p:=by unfold SetTable.insertAt;simp[Array.toList_append,CQ]
def gi{xs:K3 Nat}:Rz xs ↔ xs.toList.Pairwise (· < ·):=by
 rw[Cd];constructor
 ·intro R i j hi M F
  have:=R i j F (by simpa using M)
  rw[AQ,AQ,AN (by simpa using hi),AN (by simpa using M)]at this;simpa using this
 ·intro R i k I O
  have:=R i k (by simp;omega) (by simpa using O) I
  rw[AQ,AQ,AN (by omega),AN O];simpa using this
def FJ{xs:K3 Nat}(R:Rz xs){j:Nat}:∀x∈xs.toList.take (SetTable.below xs j),x<j:=by
 intro x F;obtain⟨i,hi,e⟩:=List.getElem_of_mem F;rw[BX,AW]at hi
 have:=(WT R j).1 i (by omega)
 rw[AQ,AN (by omega)]at this;rw[List.getElem_take]at e;simp at e this;omega
def pB{xs:K3 Nat}(R:Rz xs){j:Nat}:∀x∈xs.toList.drop (SetTable.below xs j),j≤x:=by
 intro x F;obtain⟨i,hi,e⟩:=List.getElem_of_mem F;rw[Bn,AW]at hi
 have:=(WT R j).2.1 (SetTable.below xs j+i) (by omega) (by omega)
 rw[AQ,AN (by omega)]at this;rw[List.getElem_drop]at e;simp at e this;omega
def y9{xs:K3 Nat}(R:Rz xs){j:Nat}(h:j∉xs.toList):Rz (SetTable.insertAt xs (SetTable.below xs j) j):=by
 rw[gi,kI];have P:=gi.mp R;rw[List.pairwise_append];refine⟨P.sublist (List.take_sublist _ _),?_,?_⟩
 ·rw[Bm];refine⟨fun x F=>?_,P.sublist (List.drop_sublist _ _)⟩
  have:=pB R x F
  have:x≠j:=fun q=>h (by rw[←q];exact CF F)
  omega
 ·intro a I b M;have O:=FJ R a I;rcases AK.mp M with q|q
  ·omega
  ·have:=pB R b q;omega
def xm{α β:Type}{xs:KQ α}{F:KQ β}{p:Nat}{x:α}{y:β}(I:xs.length=F.length):(xs.take p++x::xs.drop p).zip (F.take p++y::F.drop p)=(xs.zip F).take p++(x,y)::(xs.zip F).drop p:=by rw[List.zip_append (by simp[I]),Bl,List.zip_eq_zipWith,List.zip_eq_zipWith,List.zip_eq_zipWith,List.take_zipWith,List.drop_zipWith]
def Jo{α:Type}{t:SetTable}{es:K3 (Int×α)}{h:Int}{x:α}{k:Nat}(T:ic t es.size)(U:es.size+1≤t.mask)(R:kC t es.toList)(I:(sq t.mask h k).j≤t.mask)(Y:(sq t.mask h k).j∉t.place.toList)(Z:∀m,m<k->(sq t.mask h m).j∈t.place.toList) :
  ic (t.put (sq t.mask h k).j).1 (es.size+1)∧kC (t.put (sq t.mask h k).j).1 (SetTable.insertAt es (t.put (sq t.mask h k).j).2 (h,x)).toList∧(SetTable.insertAt es (t.put (sq t.mask h k).j).2 (h,x)).toList.Perm ((h,x)::es.toList):=by
 have M:(t.put (sq t.mask h k).j).1.place.toList=t.place.toList.take (SetTable.below t.place (sq t.mask h k).j)++(sq t.mask h k).j::t.place.toList.drop (SetTable.below t.place (sq t.mask h k).j):=kI _ _ _;have F:∀j,j∈(t.put (sq t.mask h k).j).1.place.toList ↔ j=(sq t.mask h k).j∨j∈t.place.toList:=by
  intro j;rw[M,At,AK];constructor
  ·rintro (q|q|q);exact .inr (Ce q);exact .inl q;exact .inr (CF q)
  ·rintro (q|q);exact .inr (.inl q)
   ·rw[←CW (SetTable.below t.place (sq t.mask h k).j) t.place.toList,At]at q;rcases q with q|q
    ·exact .inl q
    ·exact .inr (.inr q)
 refine⟨⟨?_,?_,y9 T.ris Y,?_,U⟩,?_,?_⟩;show (if SetTable.has t.dummies _=true then SetTable.eraseAt t.dummies _ else t.dummies) = #[];rw[T.dum,oz];rfl
 ·rw[←AW,M]
  have:=(WT T.ris (sq t.mask h k).j).2.2
  rw[Ac,BX,AO,Bn,AW,T.sz]at *;omega
 ·intro j hj;rcases (F j).mp hj with q|q
  ·rw[q];exact I
  ·exact T.le j q
 ·intro q hq;rw[M,kI]at hq;have hq:q∈(t.place.toList.take (SetTable.below t.place (sq t.mask h k).j)++(sq t.mask h k).j::t.place.toList.drop (SetTable.below t.place (sq t.mask h k).j)).zip (es.toList.take (SetTable.below t.place (sq t.mask h k).j)++(h,x)::es.toList.drop (SetTable.below t.place (sq t.mask h k).j)):=hq;rw[xm (by rw[AW,AW,T.sz]),At,AK]at hq;have old:q∈t.place.toList.zip es.toList->∃m,(sq t.mask q.2.1 m).j=q.1∧∀m',m'<m->(sq t.mask q.2.1 m').j∈(t.put (sq t.mask h k).j).1.place.toList:=fun hq=>by obtain⟨m,h1,h2⟩:=R q hq;exact⟨m,h1,fun m' O=>(F _).mpr (.inr (h2 m' O))⟩
  rcases hq with hq|hq|hq
  ·exact old (Ce hq)
  ·subst hq;exact⟨k,rfl,fun m' O=>(F _).mpr (.inr (Z m' O))⟩
  ·exact old (CF hq)
 ·rw[kI];refine List.perm_middle.trans ?_;rw[CW]
structure Ow (Kg:Nat) (Kp:Array (Option Nat)) (hs:List Int) (js:List Nat):Prop where
 size:Kp.size=Kg+1
 len:js.length=hs.length
 iff:∀(j k:Nat),Kp[j]? = some (some k) ↔ js[k]? = some j
 way:∀(k:Nat) (h:Int) (j:Nat),hs[k]? = some h->js[k]? = some j->∃m,(sq Kg h m).j=j∧∀m',m'<m->(sq Kg h m').j∈js
 le:∀j∈js,j≤Kg
def oN{Kg:Nat}{h:Int}{a:Nat}:∀{b:Nat},a≤b->ge Kg h a≤ge Kg h b
 |0,q=>by
  have:a=0:=by omega
  subst this;exact AG _
 |b+1,q=>by
  by_cases e:a=b+1;subst e;exact AG _
  ·have:=oN (Kg:=Kg) (h:=h) (a:=a) (b:=b) (by omega)
   rw[ge];omega
def Dl{Kg:Nat}{h:Int}{a b:Nat}(q:a<b):ge Kg h a<ge Kg h b:=by
 have:=oN (Kg:=Kg) (h:=h) (show a+1≤b by omega)
 rw[ge]at this;omega
def n6{Kg:Nat}{Kp:K3 (KW Nat)}{hs:KQ Int}{js:KQ Nat}(O:Ow Kg Kp hs js){h:Int}{k0:Nat}(hk:(sq Kg h k0).j∉js)(R:(sq Kg h k0).j≤Kg)(hb:∀m,m<k0->(sq Kg h m).j∈js) :
  ∀(F m:Nat),ge Kg h m≤k0->k0<ge Kg h (m+F)->SetTable.layClean.free Kg Kp F (lp Kg h m).1 (lp Kg h m).2=some (sq Kg h k0).j
 |0,m,h1,U=>by rw[Nat.add_zero]at U;omega
 |F+1,m,h1,U=>by
  rw[SetTable.layClean.free];have Y:SetTable.runEnd Kg (lp Kg h m).1+1-(lp Kg h m).1=rn Kg (lp Kg h m).1+1:=by unfold rn SetTable.runEnd;split <;> omega
  have I:∀k,k≤rn Kg (lp Kg h m).1->ge Kg h m+k<k0->(Kp.getD ((lp Kg h m).1+k) (some 0)).isNone=false:=fun k a b=>by
   have:=hb _ b
   rw[ny a]at this;obtain⟨i,hi⟩:=Bf this
   have:=(O.iff _ _).mpr hi
   rw[AQ,this];rfl
  rw[Y];by_cases hq:k0≤ge Kg h m+rn Kg (lp Kg h m).1
  ·have ej:(sq Kg h k0).j=(lp Kg h m).1+(k0-ge Kg h m):=by
    have:=ny (Kg:=Kg) (h:=h) (m:=m) (k:=k0-ge Kg h m) (by omega)
    rw[show ge Kg h m+(k0-ge Kg h m)=k0 by omega]at this;exact this
   have Z:(List.range (rn Kg (lp Kg h m).1+1)).find? (fun k=>(Kp.getD ((lp Kg h m).1+k) (some 0)).isNone)=some (k0-ge Kg h m):=by
    rw[List.find?_range_eq_some];refine⟨?_,BM.mpr (by omega),fun j hj=>?_⟩
    ·rw[←ej,AQ,AN (by rw[O.size];omega)];cases hx:Kp[(sq Kg h k0).j]'(by rw[O.size];omega) with|none=>rfl|some k'=>exfalso;refine hk (Ap ((O.iff _ k').mp ?_));rw[AN (by rw[O.size];omega),hx]
    ·rw[I j (by omega) (by omega)];rfl
   rw[Z,ej]
  ·have Z:(List.range (rn Kg (lp Kg h m).1+1)).find? (fun k=>(Kp.getD ((lp Kg h m).1+k) (some 0)).isNone)=none:=by
    rw[List.find?_eq_none];intro k M;rw[I k (by have:=BM.mp M;omega) (by have:=BM.mp M;omega)];simp
   rw[Z];exact n6 O hk R hb F (m+1) (by rw[ge];omega) (by rw[show m+1+F=m+(F+1) by omega];exact U)
def oj{Kg:Nat}{h:Int}(n:Nat):(sq Kg h n).j≤Kg:=by
 have:∀n,(sq Kg h n).j+(sq Kg h n).more≤Kg∧(sq Kg h n).i≤Kg:=by
  intro n;have F:∀i,i≤Kg->i+(SetTable.runEnd Kg i-i)≤Kg:=fun i hi=>by unfold SetTable.runEnd;split <;> omega
  induction n with
  |zero=>have hi:SetTable.bits h%(Kg+1)≤Kg:=C1 (Nat.mod_lt _ (Nat.succ_pos _));exact⟨F _ hi,hi⟩
  |succ n I =>
   rw[sq];unfold iQ;split;rename_i M;exact⟨by show (sq Kg h n).j+1+((sq Kg h n).more-1)≤Kg;omega,I.2⟩;have hi:(SetTable.leap Kg (sq Kg h n).i (sq Kg h n).perturb).1≤Kg:=C1 (Nat.mod_lt _ (Nat.succ_pos _));exact⟨F _ hi,hi⟩
 have:=(this n).1
 omega
def Ow.step{Kg:Nat}{Kp:K3 (KW Nat)}{hs:KQ Int}{js:KQ Nat}(O:Ow Kg Kp hs js)(C:gR Kg)(hl:hs.length≤Kg)(h:Int):∃j,SetTable.layClean.free Kg Kp (SetTable.turns Kg) (SetTable.bits h%(Kg+1)) (SetTable.bits h)=some j∧Ow Kg (Kp.setIfInBounds j (some hs.length)) (hs++[h]) (js++[j]):=by
 obtain⟨e,he,hq⟩:=lS (Kg+1) js (by rw[O.len];omega);obtain⟨m,hm,q⟩:=su (h:=h) C (show e≤Kg by omega);obtain⟨Y,k1,k2,k3⟩:=rD (P:=fun k=>(sq Kg h k).j∉js) (fun _=>inferInstance) (n:=ge Kg h m) (by rw[kR,q];exact hq);have hb:∀m,m<Y->(sq Kg h m).j∈js:=fun m hm=>Decidable.not_not.mp (k3 m hm);have hj:=oj (Kg:=Kg) (h:=h) Y;refine⟨_,n6 O k2 hj hb (SetTable.turns Kg) 0 (Au _) ?_,?_⟩;rw[Nat.zero_add];refine Al k1 (Dl ?_);unfold SetTable.turns;omega
 ·have I:∀x,x∈js++[(sq Kg h Y).j] ↔ x∈js∨x=(sq Kg h Y).j:=fun x=>by simp
  refine⟨by simp[O.size],by simp[O.len],fun j k=>?_,fun k h' j Z R=>?_,fun j a0=>?_⟩
  ·rw[Array.getElem?_setIfInBounds];by_cases M:(sq Kg h Y).j=j
   ·rw[AE M,AE (by rw[O.size];omega)];constructor
    ·intro z;cases z;rw[BA (by rw[O.len];exact AG _),O.len,DL];simp[M]
    ·intro z;by_cases F:k<js.length;rw[An F]at z;exact absurd (by rw[M];exact Ap z) k2
     ·rw[BA (by omega)]at z
      have:k-js.length=0:=by
       have:=(AT.mp z).1
       simp at this;omega
      rw[show k=hs.length by have:=O.len;omega]
   ·rw[AD M,O.iff];constructor;intro z;rw[An (AT.mp z).1];exact z
    ·intro z;by_cases F:k<js.length;rwa[An F]at z
     ·rw[BA (by omega)]at z;have h0:=(AT.mp z).1
      have:k-js.length=0:=by simp at h0;omega
      rw[this]at z;simp at z;exact absurd z M
  ·by_cases F:k<js.length
   ·rw[An F]at R;rw[An (by rw[←O.len];exact F)]at Z;obtain⟨m,a,b⟩:=O.way k h' j Z R;exact⟨m,a,fun m' U=>(I _).mpr (.inl (b m' U))⟩
   ·rw[BA (by omega)]at R;rw[BA (by have:=O.len;omega)]at Z;have h0:=(AT.mp R).1;have z:k-js.length=0:=by simp at h0;omega
    rw[←O.len,z]at Z;rw[z]at R;simp at Z R;subst Z;subst R;exact⟨Y,rfl,fun m' U=>(I _).mpr (.inl (hb m' U))⟩
  ·rcases (I j).mp a0 with q|q
   ·exact O.le j q
   ·rw[q];exact hj
def nw{Kg:Nat}(C:gR Kg):∀(r hs:KQ Int) (Kp:K3 (KW Nat)) (js:KQ Nat),Ow Kg Kp hs js->hs.length+r.length≤Kg+1 ->
  ∃F I,r.foldl (fun Ks h=>do
   let (Kp,k) ← Ks;let j ← SetTable.layClean.free Kg Kp (SetTable.turns Kg) (SetTable.bits h%(Kg+1)) (SetTable.bits h)
   pure (Kp.setIfInBounds j (some k),k+1)) (some (Kp,hs.length))=some (F,(hs++r).length)∧Ow Kg F (hs++r) I
 |[],hs,Kp,js,O,_=>⟨Kp,js,by simp,by simpa using O⟩
 |h::r,hs,Kp,js,O,M=>by
  rw[AO]at M;obtain⟨j,e,R⟩:=O.step C (by omega) h;obtain⟨U,I,Y,Z⟩:=nw C r (hs++[h]) _ _ R (by rw[Ac,A2];omega);refine⟨U,I,?_,by simpa using Z⟩;rw[DG]
  have:(do
   let (Kp,k) ← some (Kp,hs.length);let j ← SetTable.layClean.free Kg Kp (SetTable.turns Kg) (SetTable.bits h%(Kg+1)) (SetTable.bits h)
   pure (Kp.setIfInBounds j (some k),k+1))=some (Kp.setIfInBounds j (some hs.length),hs.length+1):=by
   show (do
    let j ← SetTable.layClean.free Kg Kp (SetTable.turns Kg) (SetTable.bits h%(Kg+1)) (SetTable.bits h)
    pure (Kp.setIfInBounds j (some hs.length),hs.length+1))=_
   rw[e];rfl
  rw[this];simpa using Y
def EG{Kg:Nat}(C:gR Kg)(F:K3 Int)(M:F.size≤Kg+1):∃Kp js,SetTable.layClean Kg F=some Kp∧Ow Kg Kp F.toList js:=by
 obtain⟨Kp,js,e,O⟩:=nw C F.toList [] (Array.replicate (Kg+1) none) [] ⟨by simp,rfl,fun j k=>by
  constructor;intro z;rw[Array.getElem?_replicate]at z;split at z <;> simp at z;intro z;simp at z,fun k h j R Y=>by simp at R,fun j h=>by simp at h⟩ (by simpa using M)
 refine⟨Kp,js,?_,by simpa using O⟩;unfold SetTable.layClean;rw[←Array.foldl_toList];have I:=e;simp only[List.nil_append]at I;have U:(some (Array.replicate (Kg+1) none,([]:KQ Int).length):KW (K3 (KW Nat)×Nat))=some (Array.replicate (Kg+1) none,0):=rfl;rw[U]at I;rw[I];rfl
def Zj{α:Type}[DecidableEq α]:∀{l m:KQ α},l.Nodup->m.Nodup->(∀x,x∈l ↔ x∈m)->l.Perm m
 |[],m,_,_,h=>by
  cases m with|nil=>exact .refl _|cons y m=>exact absurd ((h y).mpr AI) (by simp)
 |x::l,m,F,I,h=>by
  have O:=(h x).mp AI;refine List.Perm.trans ?_ (List.perm_cons_erase O).symm;refine List.Perm.cons x (Zj (Bd.mp F).2 (I.erase x) fun y=>?_);rw[I.mem_erase_iff];constructor;intro M;exact⟨fun z=>(Bd.mp F).1 (by rw[←z];exact M),(h y).mp (AH _ M)⟩
  ·rintro⟨a,b⟩;rcases AK.mp ((h y).mpr b) with q|q
   ·exact absurd q a
   ·exact q
def jG{α:Type}(l:KQ α):(List.range l.length).filterMap (fun i=>l[i]?)=l:=by
 induction l with|nil=>rfl|cons x l F=>rw[AO,List.range_succ_eq_map,BI];show x::((List.range l.length).map Nat.succ).filterMap _=_;rw[List.filterMap_map];congr 1
def o7{α β:Type}{f:α->KW β}{g:α->β}:∀{l:KQ α},(∀x∈l,f x=some (g x))->l.filterMap f=l.map g|[],_=>rfl|x::l,h=>by rw[BI,h x AI,AM,o7 fun y F=>h y (AH _ F)]
def Dd{α:Type}[Inhabited α]{Kg finger moves:Nat}{led plain:Bool}(C:gR Kg){es:K3 (Int×α)}(hl:es.size≤Kg):∃t I,SetTable.laid Kg finger moves led plain (es.map (·.1))=some (t,I)∧t.mask=Kg∧t.led=led∧t.plain=plain ∧
  (I.filterMap (es[·]?)).toList.Perm es.toList∧ic t es.size∧kC t (I.filterMap (es[·]?)).toList:=by
 obtain⟨Kp,js,e,O⟩:=EG C (es.map (·.1)) (by simp;omega);refine⟨_,_,by unfold SetTable.laid;rw[e];rfl,rfl,rfl,rfl,?_⟩;generalize hL:(List.range (Kg+1)).filterMap (fun j=>(Kp.getD j none).map (j,·))=L;have F:∀q,q∈L ↔ js[q.2]? = some q.1:=by
  intro⟨j,k⟩;rw[←hL,DJ];constructor
  ·rintro⟨a,ha,Z⟩;have ha:=BM.mp ha;rw[AQ,AN (by rw[O.size];omega)]at Z;cases hx:Kp[a]'(by rw[O.size];omega) with|none=>rw[hx]at Z;simp at Z|some k'=>rw[hx]at Z;simp at Z;obtain⟨rfl,rfl⟩:=Z;exact (O.iff _ _).mp (by rw[AN (by rw[O.size];omega),hx])
  ·intro z;have z':=(O.iff _ _).mpr z;refine⟨j,BM.mpr (by have:=O.le j (Ap z);omega),?_⟩;rw[AQ,z'];rfl
 have a7:js.length=es.size:=by rw[O.len];simp
 have a8:∀a b j,js[a]? = some j->js[b]? = some j->a=b:=fun a b j Y h2=>by have Y:=(O.iff j a).mpr Y;have h2:=(O.iff j b).mpr h2;rw[Y]at h2;cases h2;rfl
 have a0:L.Pairwise (fun p q=>p.1<q.1):=by rw[←hL,List.pairwise_filterMap];refine List.Pairwise.imp ?_ List.pairwise_lt_range;intro a b a1 x hx y hy;simp only[Option.map_eq_some_iff]at hx hy;obtain⟨_,_,rfl⟩:=hx;obtain⟨_,_,rfl⟩:=hy;exact a1
 have hnd:(L.map (·.2)).Nodup:=by
  rw[List.nodup_iff_pairwise_ne,B1];refine List.Pairwise.imp_of_mem (R:=fun p q=>p.1<q.1) ?_ a0;intro a b ha Z a1 z;have Y:=(F a).mp ha;have h2:=(F b).mp Z;rw[z,h2]at Y
  have:=Aj Y
  omega
 have M:(L.map (·.2)).Perm (List.range es.size):=by
  refine Zj hnd List.nodup_range fun k=>?_;rw[BM,AZ];constructor
  ·rintro⟨q,U,rfl⟩
   have:=(AT.mp ((F q).mp U)).1
   omega
  ·intro hk
   have:js[k]? = some (js[k]'(by omega)):=AJ _
   exact⟨(js[k]'(by omega),k),(F _).mpr this,rfl⟩
 have a3:L.length=es.size:=by have:=M.length_eq;simpa using this
 have a4:(((L.map (·.2)).toArray.filterMap (es[·]?)).toList)=L.map fun q=>es.toList.getD q.2 (0,default):=by
  rw[List.filterMap_toArray];show (L.map (·.2)).filterMap (fun i=>es[i]?)=_;rw[List.filterMap_map];refine o7 fun q U=>?_
  have:=(AT.mp ((F q).mp U)).1
  show es[q.2]? = _;rw[AN (by omega),Ao,A5,AN (by omega)];rfl
 refine⟨?_,⟨rfl,by simp[a3],?_,?_,hl⟩,?_⟩
 ·have Y:((L.map (·.2)).toArray.filterMap (es[·]?)).toList=(L.map (·.2)).filterMap (fun i=>es.toList[i]?):=by rw[List.filterMap_toArray];simp
  rw[Y];refine (M.filterMap _).trans ?_
  have:=jG es.toList
  rw[AW]at this;rw[this]
 ·rw[gi];show (L.map (·.1)).Pairwise _;rw[B1];exact a0
 ·intro j hj;have hj:j∈L.map (·.1):=hj;obtain⟨q,U,rfl⟩:=AZ.mp hj;exact O.le _ (Ap ((F q).mp U))
 ·intro q U;rw[a4]at U;have U:q∈(L.map (·.1)).zip (L.map fun q=>es.toList.getD q.2 (0,default)):=U;rw[List.zip_map,AZ]at U;obtain⟨⟨u,v⟩,a5,rfl⟩:=U;have a2:u=v∧u∈L:=by
   have:∀(l:KQ (Nat×Nat)) (p:(Nat×Nat)×(Nat×Nat)),p∈l.zip l->p.1=p.2∧p.1∈l:=by
    intro l;induction l with
    |nil=>intro p hp;simp at hp
    |cons a l ih =>
     intro p hp;rw[Bl]at hp;rcases AK.mp hp with z|z
     ·subst z;exact⟨rfl,AI⟩
     ·exact⟨(ih p z).1,AH _ (ih p z).2⟩
   exact this L _ a5
  obtain⟨rfl,hu⟩:=a2;have hj:=(F u).mp hu;have a9:=(AT.mp hj).1;have hh:(es.map (·.1)).toList[u.2]? = some (es.toList.getD u.2 (0,default)).1:=by
   rw[Ao,A5,A5,Array.getElem?_map,AN (show u.2<es.size by omega)];rfl
  obtain⟨m,Y,h2⟩:=O.way _ _ _ hh hj;refine⟨m,Y,fun m' a6=>?_⟩
  have:=h2 m' a6
  obtain⟨i,hi⟩:=Bf this;show _∈L.map (·.1);exact AZ.mpr ⟨((sq Kg (es.toList.getD u.2 (0,default)).1 m').j,i),(F _).mpr hi,rfl⟩
end ET
end
section
namespace ET
open PySem PySem.Spec PyProof.Rows L2 EX
section
variable{prog:KZ}{w:K0}{A:K1}{E:KR->KS->Prop}{s:KS}
abbrev TK(prog:KZ)(w:K0)(h:Heap)(ks:KQ Int)(b:KU):Prop:=IsTupleKey (intKind prog w) h ks b
abbrev fu(prog:KZ)(w:K0)(ks:KQ Int):Int:=tupleKeyHash (intKind prog w) ks
def ZN{ks:KQ Int}{vs:KQ KR}(h:ItemsAre (intKind prog w) ks vs):∀v∈vs,∃n t,v=Value.int n t:=by
 induction h with
 |nil=>intro v F;cases F
 | @cons k v ks vs I _ M =>
  intro u O;rcases AK.mp O with q|q
  ·subst q;cases u with|int n t=>exact⟨n,t,rfl⟩|_=>exact Bool.noConfusion (show false=true from I)
  ·exact M u q
def TK.keep{h h':Heap}{ks:KQ Int}{b:KU}(k:TK prog w h ks b)(e:∀o,h.get? b=some o->h'.get? b=some o):TK prog w h' ks b:=by obtain⟨o,Ki,n,F,I⟩:=k;exact⟨o,Ki,n,e o F,I⟩
theorem vZ{ks:KQ Int}{b:KU}{Q:Bool->KS->Prop}(k:TK prog w s.heap ks b)(h:Q true s):wpAny (model prog w) A (hashByValue 8 (.ref b)) Q E s:=by
 have Z:=k.typeIs;obtain⟨o,O,n,ho,_,hd,hi⟩:=k;unfold hashByValue;refine AA (DF Z F.slot_tuple_hash.lookup ?_);dsimp only;refine AA (DN ho hd ?_);show wpAny _ _ (forIn O _ _ >>= _) _ _ s;refine AA ?_;rw[←Array.forIn_toList];refine wpAny_forIn_list _ (fun I r R=>r.1=none∧R=s∧∀v∈I,∃n t,v=Value.int n t) _ ?_ ?_ _ _ ⟨rfl,rfl,ZN hi⟩
 ·rintro v I r R ⟨U,rfl,M⟩;obtain⟨n,t,rfl⟩:=M v AI;refine AA (Ar (a:=true) (by rw[hashByValue_scannable 7 (x:=.int n t) rfl];rfl) ?_);simp only[Bool.not_true,A4,BQ];exact AB ⟨rfl,rfl,fun u Y=>M u (AH _ Y)⟩
 ·rintro⟨r1,r2⟩ R ⟨U,rfl,_⟩;simp only at U;subst U;exact AB h
def rT{ks:KQ Int}{b:KU}{Q:Bool->KS->Prop}(k:TK prog w s.heap ks b)(h:Q false s):wpAny (model prog w) A (ofAClassStatement 8 (.ref b)) Q E s:=by
 have Y:=k.typeIs;obtain⟨o,M,n,Z,_,hd,hi⟩:=k;unfold ofAClassStatement;refine AA (Bp Y ?_);dsimp only;rw[AE (by decide)];refine AA (AB ?_);rw[AD (by decide)];refine AA (DN Z hd ?_);dsimp only;refine AA ?_;rw[←Array.forIn_toList];refine wpAny_forIn_list _ (fun F r O=>r.1=none∧O=s∧∀v∈F,∃n t,v=Value.int n t) _ ?_ ?_ _ _ ⟨rfl,rfl,ZN hi⟩
 ·rintro v F r O ⟨R,rfl,I⟩;obtain⟨n,t,rfl⟩:=I v AI;refine AA (Ar (a:=false) (by unfold ofAClassStatement;rfl) ?_);rw[AD (by decide)];exact AB ⟨rfl,rfl,fun u U=>I u (AH _ U)⟩
 ·rintro⟨r1,r2⟩ O ⟨R,rfl,_⟩;simp only at R;subst R;exact AB h
def vt{ks:KQ Int}{b:KU}{Q:Bool->KS->Prop}(k:TK prog w s.heap ks b)(l:KQ KR)(hl:∀v∈l,∃c I,v= .ref c∧TK prog w s.heap I c)(h:Q false s):wpAny (model prog w) A (searchCouldBeSeen (.ref b) l) Q E s:=by
 unfold searchCouldBeSeen;refine AA ?_;refine wpAny_forIn_list _ (fun M r U=>r.1=none∧U=s∧∀v∈M,∃c I,v= .ref c∧TK prog w s.heap I c) _ ?_ ?_ _ _ ⟨rfl,rfl,hl⟩
 ·rintro v M r U ⟨Y,rfl,F⟩;obtain⟨c,I,rfl,Z⟩:=F v AI;dsimp only;by_cases R:(b==c||(carriedByValue (.ref b)&&carriedByValue (.ref c)))=true;rw[AE R];exact AB ⟨rfl,rfl,fun u O=>F u (AH _ O)⟩
  ·rw[AD R];refine AA (wpAny_eqIsQuiet_tuple k ?_);rw[AD (by decide)];refine AA (wpAny_eqIsQuiet_tuple Z ?_);rw[AD (by decide)];refine AA (rT k ?_);rw[AD (by decide)];refine AA (rT Z ?_);rw[AD (by decide)];exact AB ⟨rfl,rfl,fun u O=>F u (AH _ O)⟩
 ·rintro⟨r1,r2⟩ U ⟨Y,rfl,_⟩;simp only at Y;subst Y;exact AB h
inductive gm (prog:Program) (w:World) (h:Heap):List (Int×Value)->List (List Int)->Prop
 |nil:gm prog w h [] []
 |cons {ks:List Int} {b:Addr} {l:List (Int×Value)} {Kj:List (List Int)}:TK prog w h ks b->gm prog w h l Kj->gm prog w h ((fu prog w ks,.ref b)::l) (ks::Kj)
def gm.len{h:Heap}{l:KQ (Int×KR)}{Kj:KQ (KQ Int)}(e:gm prog w h l Kj):l.length=Kj.length:=by
 induction e with|nil=>rfl|cons _ _ F=>rw[AO,AO,F]
def gm.keep{h h':Heap}{l:KQ (Int×KR)}{Kj:KQ (KQ Int)}(e:gm prog w h l Kj)(k:∀b ks,TK prog w h ks b->TK prog w h' ks b):gm prog w h' l Kj:=by
 induction e with|nil=>exact .nil|cons a _ F=>exact .cons (k _ _ a) F
def gm.get{h:Heap}{l:KQ (Int×KR)}{Kj:KQ (KQ Int)}(e:gm prog w h l Kj):∀{i:Nat} {x:Int×KR},l[i]? = some x->∃ks b,Kj[i]? = some ks∧x=(fu prog w ks,.ref b)∧TK prog w h ks b:=by
 induction e with
 |nil=>intro i x F;simp at F
 | @cons ks b l Kj a _ I =>
  intro i x F;cases i with|zero=>simp at F;exact⟨ks,b,rfl,F.symm,a⟩|succ i=>simp at F;simpa using I F
def gm.get'{h:Heap}{l:KQ (Int×KR)}{Kj:KQ (KQ Int)}(e:gm prog w h l Kj):∀{i:Nat} {ks:KQ Int},Kj[i]? = some ks->∃b,l[i]? = some (fu prog w ks,.ref b)∧TK prog w h ks b:=by
 induction e with
 |nil=>intro i x F;simp at F
 | @cons ks b l Kj a _ I =>
  intro i x F;cases i with|zero=>simp at F;subst F;exact⟨b,rfl,a⟩|succ i=>simp at F;simpa using I F
def gm.perm{h:Heap}{l O:KQ (Int×KR)}(p:l.Perm O):∀{Kj:KQ (KQ Int)},gm prog w h l Kj->∃F,Kj.Perm F∧gm prog w h O F:=by
 induction p with
 |nil=>intro Kj e;exact⟨Kj,.refl _,e⟩
 |cons x _ R =>
  intro Kj e;cases e with|cons a e=>obtain⟨k',q,r⟩:=R e;exact⟨_,q.cons _,.cons a r⟩
 |swap x y l =>
  intro Kj e;cases e with
  |cons a e =>
   cases e with|cons b e=>exact⟨_,.swap _ _ _,.cons b (.cons a e)⟩
 |trans _ _ I M=>intro Kj e;obtain⟨k1,U,Y⟩:=I e;obtain⟨Z,q2,r2⟩:=M Y;exact⟨Z,U.trans q2,r2⟩
def gm.mem{h:Heap}{l:KQ (Int×KR)}{Kj:KQ (KQ Int)}(e:gm prog w h l Kj):∀x∈l,∃ks b,ks∈Kj∧x=(fu prog w ks,.ref b)∧TK prog w h ks b:=by intro x F;obtain⟨i,hi⟩:=Bf F;obtain⟨ks,b,I,M,O⟩:=e.get hi;exact⟨ks,b,Ap I,M,O⟩
def Lv(Kg n:Nat):Prop:=(Kg=7∧n≤4)∨(Kg=31∧n≤18)∨(Kg=127∧n≤76)∨(Kg=511∧n≤306)
def Lv.cyc{Kg n:Nat}(h:Lv Kg n):gR Kg:=by
 rcases h with⟨rfl,_⟩|⟨rfl,_⟩|⟨rfl,_⟩|⟨rfl,_⟩
 ·exact Ht
 ·exact uD
 ·exact xC
 ·exact Hk
structure oG (w:World) (t:SetTable) (es:Array (Int×Value)):Prop where
 g:ic t es.size
 r:kC t es.toList
 lv:Lv t.mask es.size
 led:t.led= !gg w
 pl:t.plain=true
structure fy (prog:Program) (w:World) (h:Heap) (a:Addr) (es:Array (Int×Value)) (ep:Nat) (t:SetTable) (Kj:List (List Int)):Prop where
 ex:∃o,h.get? a=some o∧o.ExactSet∧o.data=Data.set es ep t
 el:gm prog w h es.toList Kj
 nd:Kj.Nodup
 tb:oG w t es
def Jm{t:SetTable}{n:Nat}(T:ic t n):t.fits n=true:=by
 unfold SetTable.fits;rw[AY];refine⟨by rw[T.sz];exact A1 _,AS ?_⟩;unfold SetTable.fill;rw[T.dum,T.sz];exact T.room
def E5{t:SetTable}{n:Nat}(h:Lv t.mask n):t.gaveWay=false:=by unfold SetTable.gaveWay;rcases h with⟨h,_⟩|⟨h,_⟩|⟨h,_⟩|⟨h,_⟩ <;> rw[h] <;> rfl
def oV{a:KU}{es:K3 (Int×KR)}{ep:Nat}{t:SetTable}{Kj:KQ (KQ Int)}{ks:KQ Int}{b:KU}{Ky:Bool}{Q:SetFound->KS->Prop}(hu:A.units<cLine)(S:fy prog w s.heap a es ep t Kj)(k:TK prog w s.heap ks b){k0:Nat}
  (hk:(sq t.mask (fu prog w ks) k0).j∉t.place.toList) (hb:∀m,m<k0->(sq t.mask (fu prog w ks) m).j∈t.place.toList) (a6:k0<10*SetTable.turns t.mask)
  (h1:ks∈Kj->∀oi,(Ky=false->oi.isSome=true)->Q (.there oi) s) (h2:ks∉Kj->Q (.free (sq t.mask (fu prog w ks) k0).j false) s) :
  ∀(f m:Nat) (st:KW SetTable.Probe),m≤k0->k0-m<f->st.getD (t.probeStart (fu prog w ks))=sq t.mask (fu prog w ks) m->(∀y,y<m->∀i,t.place.getD i 0=(sq t.mask (fu prog w ks) y).j->i<t.place.size->Kj[i]? ≠ some ks) ->
   wpAny (model prog w) A (setSearchFrom a (.ref b) (fu prog w ks) Ky f st) Q E s
 |0,m,st,_,hf,_,_=>absurd hf (BP _)
 |f+1,m,st,hm,hf,a7,hn=>by
  obtain⟨o,ho,hx,hd⟩:=S.ex;have O:=Jm S.tb.g;have af:t.place.size=es.size:=S.tb.g.sz;have a8:es.size=Kj.length:=by rw[←S.el.len,AW]
  rw[setSearchFrom];refine AA (BF ho hd O ?_);dsimp only;rw[E5 S.tb.lv];simp only[A4,BQ];rw[a7];have hp:=J3 S.tb.g (fun i=>(es[i]?.map (·.1)).getD 0) (fu prog w ks) hk hb (10*SetTable.turns t.mask) m hm (by omega);rcases hp with⟨I,e⟩|⟨x,i,ag,ah,hi,a1,ai,I,e⟩
  ·generalize hg:t.probe _ (fu prog w ks) (sq t.mask (fu prog w ks) m)=pr;have e2:=hg.symm.trans e;subst e2;dsimp only;refine AB (h2 fun F=>?_);obtain⟨i,hi⟩:=Bf F;have aj:i<es.size:=by rw[a8];exact (AT.mp hi).1
   obtain⟨c,hc,_⟩:=S.el.get' hi;have hz:(t.place.getD i 0,(fu prog w ks,Value.ref c))∈t.place.toList.zip es.toList:=by
    refine Ap (i:=i) ?_;rw[List.getElem?_zip_eq_some];refine⟨?_,hc⟩;rw[A5,AN (by omega),AQ,AN (by omega)];rfl
   obtain⟨y,U,a9⟩:=S.tb.r _ hz;have aa:y<k0:=by
    rcases Nat.lt_trichotomy y k0 with q|q|q
    ·exact q
    ·subst q;exact absurd (by rw[U];exact mem_getD.mpr ⟨i,by omega,rfl⟩) hk
    ·exact absurd (a9 k0 q) hk
   by_cases Y:y<m;exact hn y Y i U.symm (by omega) hi
   ·refine I y (by omega) aa i U.symm (by omega) ?_;show (es[i]?.map (·.1)).getD 0=_;rw[←A5,hc];rfl
  ·generalize hg:t.probe _ (fu prog w ks) (sq t.mask (fu prog w ks) m)=pr;have e2:=hg.symm.trans e;subst e2;dsimp only;have M:i<es.size:=by omega
   obtain⟨a2,c,R,hc,kc⟩:=S.el.get (i:=i) (x:=es[i]) (by rw[A5,AN M]);have a3:t.slot (sq t.mask (fu prog w ks) x).j= .live i:=by rw[←a1];exact jz S.tb.g.ris hi
   cases ae:t.led
   case' true=>simp only[Bool.not_true,A4,BQ]
   case' false =>
    simp only[Bool.not_false,Cr];refine AA (vt k _ (fun v hv=>(by
     obtain⟨e',Z,rfl⟩:=AZ.mp hv;have Z:e'∈es.toList:=Array.mem_toList_iff.mpr (Array.mem_filter.mp (Array.mem_toList_iff.mp Z)).1;obtain⟨a4,c',_,hh,kk⟩:=S.el.mem _ Z;exact⟨c',a4,by rw[hh],kk⟩)) ?_)
    simp only[A4,BQ]
   all_goals
    rw[AN M,hc];dsimp only;refine AA (Aq (wpAny_eqBool_tuple hu kc k ?_));refine AA (BF ho hd O ?_);dsimp only;by_cases hq:a2=ks
    ·subst hq;rw[AS rfl];have F:a2∈Kj:=Ap R;cases Ky with
     |true=>exact AB (h1 F none fun z=>by cases z)
     |false =>
      simp only[Ci,A4,BQ];rw[show t.sameMemory t.moves t.mask=some true by unfold SetTable.sameMemory;rw[AE (A1 _)]];dsimp only;rw[AE rfl,a3];dsimp only;rw[AN M,hc];dsimp only;refine AA (wpAny_isSame_ref_self (AA (AB ?_)));rw[AE rfl];dsimp only;exact AB (h1 F (some i) fun _=>rfl)
    ·rw[AU hq];rw[Bi];simp only[A4,BQ];rw[show t.sameMemory t.moves t.mask=some true by unfold SetTable.sameMemory;rw[AE (A1 _)]];dsimp only;rw[AE rfl,a3];dsimp only;rw[AN M,hc];dsimp only;refine AA (wpAny_isSame_ref_self (AA (AB ?_)));rw[AE rfl];dsimp only;refine oV hu S k hk hb a6 h1 h2 f (x+1) _ (by omega) (by omega) rfl fun y hy j hj a0=>?_;by_cases Y:y<m;exact hn y Y j hj a0
     ·have a5:t.place.getD j 0=t.place.getD i 0->j=i:=fun e'=>by
       rcases Nat.lt_trichotomy j i with q|q|q
       ·have:=S.tb.g.ris _ _ q hi;omega
       ·exact q
       ·have:=S.tb.g.ris _ _ q a0;omega
      by_cases ab:y=x;subst ab;rw[a5 (hj.trans a1.symm),R];intro z;cases z;exact hq rfl
      ·intro z;refine I y (by omega) (by omega) j hj a0 ?_;obtain⟨c',ac,_⟩:=S.el.get' z;show (es[j]?.map (·.1)).getD 0=_;rw[←A5,ac];rfl
def fy.first{h:Heap}{a:KU}{es:K3 (Int×KR)}{ep:Nat}{t:SetTable}{Kj:KQ (KQ Int)}(S:fy prog w h a es ep t Kj)(hs:Int):∃k,k<10*SetTable.turns t.mask∧(sq t.mask hs k).j∉t.place.toList∧∀m,m<k->(sq t.mask hs m).j∈t.place.toList:=S.tb.g.first S.tb.lv.cyc hs
def EI{Kg n:Nat}(h:Lv Kg n):10*SetTable.turns Kg<100000:=by unfold SetTable.turns;rcases h with⟨h,_⟩|⟨h,_⟩|⟨h,_⟩|⟨h,_⟩ <;> omega
def tG{a:KU}{es:K3 (Int×KR)}{ep:Nat}{t:SetTable}{Kj:KQ (KQ Int)}{ks:KQ Int}{b:KU}{Ky:Bool}{Q:SetFound->KS->Prop}(R:A.units<cLine)(S:fy prog w s.heap a es ep t Kj)(k:TK prog w s.heap ks b)
  (U:ks∈Kj->∀I,(Ky=false->I.isSome=true)->Q (.there I) s)
  (Y:ks∉Kj->∀k0,(sq t.mask (fu prog w ks) k0).j∉t.place.toList->(∀m,m<k0->(sq t.mask (fu prog w ks) m).j∈t.place.toList)->Q (.free (sq t.mask (fu prog w ks) k0).j false) s) :
  wpAny (model prog w) A (setSearch a (.ref b) (fu prog w ks) Ky) Q E s:=by
 obtain⟨k0,F,M,O⟩:=S.first (fu prog w ks)
 have:=EI S.tb.lv
 exact oV R S k M O F U (fun q=>Y q k0 M O) 100000 0 none (Au _) (by omega) rfl fun y Z=>absurd Z (BP _)
def Fy{Kg n:Nat}(h:Lv Kg n)(F:n+1≤300)(I:¬(n+1)*5≥Kg*3):Lv Kg (n+1):=by
 rcases h with⟨rfl,h⟩|⟨rfl,h⟩|⟨rfl,h⟩|⟨rfl,h⟩
 ·exact .inl ⟨rfl,by omega⟩
 ·exact .inr (.inl ⟨rfl,by omega⟩)
 ·exact .inr (.inr (.inl ⟨rfl,by omega⟩))
 ·exact .inr (.inr (.inr ⟨rfl,by omega⟩))
def sO{Kg n:Nat}(h:Lv Kg n)(F:n+1≤300)(I:(n+1)*5≥Kg*3):Lv (SetTable.sizeAbove (SetTable.grown (n+1))-1) (n+1)∧SetTable.sizeAbove (SetTable.grown (n+1))≤512:=by
 rcases h with⟨rfl,h⟩|⟨rfl,h⟩|⟨rfl,h⟩|⟨rfl,h⟩
 ·have:n=4:=by omega
  subst this;exact⟨.inr (.inl ⟨by decide,by omega⟩),by decide⟩
 ·have:n=18:=by omega
  subst this;exact⟨.inr (.inr (.inl ⟨by decide,by omega⟩)),by decide⟩
 ·have:n=76:=by omega
  subst this;exact⟨.inr (.inr (.inr ⟨by decide,by omega⟩)),by decide⟩
 ·omega
def si{Kg n:Nat}(h:Lv Kg n):n+1≤Kg:=by rcases h with⟨rfl,h⟩|⟨rfl,h⟩|⟨rfl,h⟩|⟨rfl,h⟩ <;> omega
def uq{a:KU}{es:K3 (Int×KR)}{ep:Nat}{t:SetTable}{Kj:KQ (KQ Int)}{ks:KQ Int}{b:KU}{Q:Bool->KS->Prop}(hu:A.units<cLine)(S:fy prog w s.heap a es ep t Kj)(k:TK prog w s.heap ks b)(hn:Kj.length+1≤300)
  (h:∀(h':Heap) (U:K3 (Int×KR)) (a6:Nat) (t':SetTable) (M:KQ (KQ Int)),Heap.SameBut a s.heap h'->fy prog w h' a U a6 t' M->M.Perm (if ks∈Kj then Kj else Kj++[ks])->(∀e∈U.toList,e∈es.toList∨e.2= .ref b)->Q (decide (ks∉Kj)) { s with heap:=h' }) :
  wpAny (model prog w) A (setAddHashed a (.ref b) (fu prog w ks)) Q E s:=by
 obtain⟨o,ho,hx,hd⟩:=S.ex;have a9:=Jm S.tb.g;have am:es.size=Kj.length:=by rw[←S.el.len,AW]
 unfold setAddHashed;refine Aq ?_;rw[setAddHashedIn.eq_def];refine AA (BF ho hd a9 ?_);dsimp only;rw[AD (by unfold byScan;exact fun q=>Bool.noConfusion (show false=true from q))];refine AA (tG (Ky:=true) hu S k (fun q oi _=>?_) fun q k0 hk hb=>?_)
 ·dsimp only;refine AB ?_
  have:=h s.heap es ep t Kj ⟨rfl,fun _ _=>rfl⟩ S (by rw[AE q]) (fun e he=>.inl he)
  rw[AU (not_not_intro q)]at this;exact this
 ·dsimp only;refine AA (BF ho hd a9 ?_);dsimp only;have ak:∀O c,TK prog w s.heap O c->c≠a:=fun O c kc z=>by subst z;obtain⟨o',_,_,g1,g2,g3,_⟩:=kc;rw[ho]at g1;cases g1;rw[hd]at g3;cases g3
  obtain⟨T1,R1,P1⟩:=Jo (x:=Value.ref b) S.tb.g (si S.tb.lv) S.tb.r (oj k0) hk hb;generalize ht:t.put (sq t.mask (fu prog w ks) k0).j=tp at T1 R1 P1 ⊢;obtain⟨t1,R⟩:=tp;dsimp only at T1 R1 P1 ⊢;have af:t1.mask=t.mask:=by have:=CK (fun x=>x.1.mask) ht;exact this.symm
  have ag:t1.led=t.led:=by have:=CK (fun x=>x.1.led) ht;exact this.symm
  have ab:t1.plain=t.plain:=by have:=CK (fun x=>x.1.plain) ht;exact this.symm
  rw[AE (ab.trans S.tb.pl)];refine AA (vZ k ?_);rw[AE rfl];have I:(SetTable.insertAt es R (fu prog w ks,Value.ref b)).size=es.size+1:=by
   have:=P1.length_eq
   simpa using this
  refine AA (wpAny_storeSet_of ho hd ?_ (by rw[I];exact Ab (show es.size+1≤300 by omega) (by decide)));obtain⟨oc,od,al,KC⟩:=o;have hd:al=Data.set es ep t:=hd;subst hd;have a5:(s.heap.update a (Obj.putSet (SetTable.insertAt es R (fu prog w ks,.ref b)) t1)).get? a=some ⟨oc,od,Data.set (SetTable.insertAt es R (fu prog w ks,.ref b)) (ep+1) t1,KC⟩:=by rw[Av _ ho rfl];rfl
  have a7:Heap.SameBut a s.heap (s.heap.update a (Obj.putSet (SetTable.insertAt es R (fu prog w ks,.ref b)) t1)):=⟨CM ..,fun c hc=>Heap.get?_update_ne _ _ _ _ hc⟩;generalize s.heap.update a (Obj.putSet (SetTable.insertAt es R (fu prog w ks,.ref b)) t1)=h1 at a5 a7 ⊢;have keep:∀c O,TK prog w s.heap O c->TK prog w h1 O c:=fun c O kc=>kc.keep fun o' ac=>(a7.2 c (ak O c kc)).trans ac;have E1:gm prog w h1 ((fu prog w ks,Value.ref b)::es.toList) (ks::Kj):=.cons (keep _ _ k) (S.el.keep keep);obtain⟨a8,q1,E2⟩:=E1.perm P1.symm;have ah:a8.Nodup:=q1.nodup_iff.mp (Bd.mpr ⟨q,S.nd⟩);have qp:a8.Perm (if ks∈Kj then Kj else Kj++[ks]):=by rw[AD q];exact q1.symm.trans (List.perm_append_comm (l₁:=[ks]) (l₂:=Kj))
  have ae:t1.tooFull=decide ((es.size+1)*5≥t.mask*3):=by unfold SetTable.tooFull SetTable.fill;rw[T1.dum,T1.sz,af];rfl
  rw[ae];have Y:∀e∈(SetTable.insertAt es R (fu prog w ks,Value.ref b)).toList,e∈es.toList∨e.2= .ref b:=fun e he=>by
   rcases AK.mp (P1.mem_iff.mp he) with z|z
   ·exact .inr (by rw[z])
   ·exact .inl z
  have ai:∀(h2:Heap),(∀U a6 t' M,Heap.SameBut a s.heap h2->fy prog w h2 a U a6 t' M->M.Perm (if ks∈Kj then Kj else Kj++[ks])->(∀e∈U.toList,e∈es.toList∨e.2= .ref b)->Q true { s with heap:=h2 }):=fun h2 U a6 t' M a1 a2 a3 a4=>by
   have:=h h2 U a6 t' M a1 a2 a3 a4
   rw[AS q]at this;exact this
  by_cases hf:(es.size+1)*5≥t.mask*3
  ·rw[AS hf];simp only[Bool.not_false,Bool.and_self,Cr];obtain⟨L1,L2⟩:=sO S.tb.lv (by omega) hf;unfold setRelay;refine AA ?_;refine AA (BF (s:={ s with heap:=h1 }) a5 rfl (by rw[I];exact Jm T1) ?_);dsimp only;rw[AD (by rw[Bk];omega)];obtain⟨t2,F,e2,m2,l2,p2,P2,T2,R2⟩:=Dd (finger:=t1.finger) (moves:=t1.movedTo (SetTable.sizeAbove (SetTable.grown (es.size+1))-1)) (led:=t1.led) (plain:=t1.plain) L1.cyc (es:=SetTable.insertAt es R (fu prog w ks,Value.ref b)) (by rw[I];have:=si L1;omega);have e2:t1.relaid ((SetTable.insertAt es R (fu prog w ks,Value.ref b)).map (·.1)) (SetTable.grown (es.size+1))=some (t2,F):=e2;rw[e2];have Z:(F.filterMap ((SetTable.insertAt es R (fu prog w ks,Value.ref b))[·]?)).size=es.size+1:=by
    have:=P2.length_eq
    rw[AW,AW,I]at this;exact this
   refine AA (Ar (a:=(F.filterMap ((SetTable.insertAt es R (fu prog w ks,Value.ref b))[·]?),t2)) ?_ ?_);show (if ((F.filterMap ((SetTable.insertAt es R (fu prog w ks,Value.ref b))[·]?)).size != (SetTable.insertAt es R (fu prog w ks,Value.ref b)).size)=true then _ else pure _)=pure _;rw[AD (by rw[Z,I];simp)]
   ·dsimp only;refine wpAny_storeSet_of (s:={ s with heap:=h1 }) a5 rfl ?_ (by rw[Z];exact Ab (show es.size+1≤300 by omega) (by decide));have aj:(h1.update a (Obj.putSet (F.filterMap ((SetTable.insertAt es R (fu prog w ks,Value.ref b))[·]?)) t2)).get? a=some ⟨oc,od,Data.set (F.filterMap ((SetTable.insertAt es R (fu prog w ks,Value.ref b))[·]?)) (ep+1+1) t2,KC⟩:=by rw[Av _ a5 rfl];rfl
    have a0:Heap.SameBut a h1 (h1.update a (Obj.putSet (F.filterMap ((SetTable.insertAt es R (fu prog w ks,Value.ref b))[·]?)) t2)):=⟨CM ..,fun c hc=>Heap.get?_update_ne _ _ _ _ hc⟩;refine AB ?_;generalize h1.update a (Obj.putSet (F.filterMap ((SetTable.insertAt es R (fu prog w ks,Value.ref b))[·]?)) t2)=h2 at aj a0 ⊢;obtain⟨aa,q2,E3⟩:=E2.perm P2.symm;have E4:gm prog w h2 (F.filterMap ((SetTable.insertAt es R (fu prog w ks,Value.ref b))[·]?)).toList aa:=E3.keep fun c O kc=>kc.keep fun o' ac=>(a0.2 c (fun z=>by
     subst z;obtain⟨o',_,_,g1,g2,g3,_⟩:=kc;rw[a5]at g1;cases g1;cases g3)).trans ac
    refine ai h2 _ _ _ aa ⟨a0.1.trans a7.1,fun c hc=>(a0.2 c hc).trans (a7.2 c hc)⟩ ⟨⟨_,aj,hx,rfl⟩,E4,q2.nodup_iff.mp ah,⟨?_,R2,?_,?_,?_⟩⟩ (q2.symm.trans qp) (fun e he=>Y e (P2.mem_iff.mp he));rw[Z,←I];exact T2;rw[Z,m2];exact L1;rw[l2,ag];exact S.tb.led;rw[p2,ab];exact S.tb.pl
  ·rw[AU hf];simp only[Bool.not_false,Bi,A4,BQ];refine AB (ai h1 _ _ _ a8 a7 ⟨⟨_,a5,hx,rfl⟩,E2,ah,⟨?_,R1,?_,?_,?_⟩⟩ qp Y);rw[I];exact T1;rw[I,af];exact Fy S.tb.lv (by omega) hf;rw[ag];exact S.tb.led;rw[ab];exact S.tb.pl
end
end ET
end
section
namespace ET
open PySem PySem.Spec PyProof.Rows L2 EX PySem.W
section
variable{O:KeyOrd}{Ko:Nat->O.α}{n:Nat}
def gz(Ko:Nat->O.α)(n:Nat){α:Type}:KasT α->(α->Prop)->Prop| .ret a,P=>P a| .ask i j k,P=>i<n∧j<n∧gz Ko n (k (O.blt (Ko i) (Ko j))) P
def zV{α β:Type}{f:α->KasT β}{P:β->Prop}:∀{t:KasT α},gz Ko n t (fun a=>gz Ko n (f a) P)->gz Ko n (t.bind f) P| .ret a,h=>h| .ask i j k,h=>⟨h.1,h.2.1,zV h.2.2⟩
def nL{α:Type}{F:Nat->Nat->(Bool->KS->Prop)->KS->Prop}{s:KS}(I:∀i j C,i<n->j<n->C (O.blt (Ko i) (Ko j)) s->F i j C s){P:α->Prop}{Q:α->KS->Prop}(M:∀a,P a->Q a s):∀(t:KasT α),gz Ko n t P->t.kasWp F Q s| .ret a,h=>M a h| .ask i j k,h=>I i j _ h.1 h.2.1 (nL I M _ h.2.2)
structure PB (n:Nat) (p:Array Nat):Prop where
 perm:p.Perm (List.range n).toArray
def PB.size{p:K3 Nat}(h:PB n p):p.size=n:=by
 have:=h.perm.size_eq;simpa using this
def PB.lt{p:K3 Nat}(h:PB n p){k:Nat}(F:k<n):p.getD k 0<n:=by
 have hs:=h.size;rw[AQ,AN (by omega)]
 have:p[k]∈(List.range n).toArray.toList:=(Cc.mp h.perm).mem_iff.mp (by simp)
 simpa using this
def kq(Ko:Nat->O.α)(p:K3 Nat)(k:Nat):O.α:=Ko (p.getD k 0)
def gF(Ko:Nat->O.α)(p:K3 Nat)(k:Nat):Prop:=∀i j,i≤j->j<k->O.kle (kq Ko p i) (kq Ko p j)
def j2(Ko:Nat->O.α)(p:K3 Nat)(k:Nat):Prop:=∀i j,i≤j->j<k->O.kle (kq Ko p j) (kq Ko p i)
def yp{p:K3 Nat}{i j:Nat}(F:j≤p.size)(k:Nat):kq Ko (kas_rev p i j) k=if i≤k∧k<j then kq Ko p (i+j-1-k) else kq Ko p k:=by
 have e:=getElem?_mirror_all (i:=i) F k;unfold kq kas_rev;rw[AQ,e];split;rw[AQ];rw[AQ]
def WA{p:K3 Nat}{i j:Nat}(I:j≤p.size)(F:∀k,i≤k->k<j->kq Ko p k=kq Ko p (j-1))(k:Nat):kq Ko (kas_rev p i j) k=kq Ko p k:=by
 rw[yp I];split;rw[F _ (by omega) (by omega),F k (by omega) (by omega)];rfl
def jf{p:K3 Nat}{F d:Nat}(hs:F<p.size)(hd:d≤F)(k:Nat):kq Ko (bubble p F d) k=if k=F-d then kq Ko p F else if F-d<k∧k≤F then kq Ko p (k-1) else kq Ko p k:=by
 have e:=getElem?_bubble hs d hd k;unfold kq;rw[AQ,AQ,AQ,AQ,e];split;rfl;split <;> rfl
def PB.rev{p:K3 Nat}(h:PB n p)(i j:Nat):PB n (kas_rev p i j):=⟨(mirror_perm _ _ _ _).trans h.perm⟩
def lE{p:K3 Nat}(B:PB n p){F:Nat}(Z:F≤n){P:Nat->Prop}(h:∀m,1≤m->m≤F->gF Ko p m->(m=F∨O.klt (kq Ko p m) (kq Ko p (m-1)))->P m):∀(f a:Nat),1≤a->a+f=F->gF Ko p a->gz Ko n (kas_asc p f a) P
 |0,a,I,h2,hs=>h a I (by omega) hs (.inl (by omega))
 |f+1,a,I,h2,hs=>by
  refine⟨B.lt (by omega),B.lt (by omega),?_⟩;show gz Ko n (if O.blt (kq Ko p a) (kq Ko p (a-1))=true then .ret a else kas_asc p f (a+1)) P;cases Y:O.blt (kq Ko p a) (kq Ko p (a-1)) with
  |true=>rw[AE rfl];exact h a I (by omega) hs (.inr Y)
  |false =>
   rw[AD (by simp)];refine lE B Z h f (a+1) (by omega) (by omega) fun i j M hj=>?_;by_cases R:j<a;exact hs i j M R
   ·have:j=a:=by omega
    subst this;by_cases U:i=j;subst U;exact B3 _;exact C8 (hs i (j-1) (by omega) (by omega)) Y
def rZ{p:K3 Nat}(B:PB n p){F m:Nat}(O:F≤n)(R:1≤m)(Y:m≤F)(hs:j2 Ko p m){P:Nat×K3 Nat->Prop}(h:∀m' M,PB n M->1≤m'->m'≤F->gF Ko M m'->P (m',M)):gz Ko n (kas_tail3 m F p) P:=by
 unfold kas_tail3;have I:m≤p.size:=by rw[B.size];omega
 refine zV (lE (B.rev 0 m) O (fun m' a b c _=>h m' _ (B.rev 0 m) a b c) _ _ R (by omega) fun i j U Z=>?_);rw[yp I,yp I,AE (by omega),AE (by omega)];exact hs _ _ (by omega) (by omega)
def YX{I:Nat}(hn:I≤n){P:K3 Nat×Nat×Nat->Prop}
  (h:∀m F R,PB n R->1≤m->m≤I->j2 Ko R m->F+1≤m->(∀i,m-(F+1)≤i->i<m->kq Ko R i=kq Ko R (m-1))->P (R,m,F)) :
  ∀(f:Nat) (p:K3 Nat) (x F:Nat),PB n p->1≤x->x+f=I->j2 Ko p x->F+1≤x->(∀i,x-(F+1)≤i->i<x->kq Ko p i=kq Ko p (x-1))->gz Ko n (kas_desc f p x F) P
 |0,p,x,F,B,h1,h2,hs,hq,he=>h x F p B h1 (by omega) hs hq he
 |f+1,p,x,F,B,h1,h2,hs,hq,he=>by
  have a3:x≤p.size:=by rw[B.size];omega
  refine⟨B.lt (by omega),B.lt (by omega),?_⟩;show gz Ko n (if O.blt (kq Ko p x) (kq Ko p (x-1))=true then (if F>0 then kas_desc f (kas_rev p (x-(F+1)) x) (x+1) 0 else kas_desc f p (x+1) 0) else .ask (p.getD (x-1) 0) (p.getD x 0) fun d=>if d=true then .ret (p,x,F) else kas_desc f p (x+1) (F+1)) P;cases hl:O.blt (kq Ko p x) (kq Ko p (x-1)) with
  |true =>
   rw[AE rfl];have M:∀R:K3 Nat,(∀k,kq Ko R k=kq Ko p k)->j2 Ko R (x+1):=by
    intro R hk i j Z hj;rw[hk,hk];by_cases a0:j<x;exact hs i j Z a0
    ·have a1:j=x:=by omega
     subst a1;by_cases a2:i=j;subst a2;exact B3 _;exact C8 (C2 hl) (hs i (j-1) (by omega) (by omega))
   by_cases U:F>0;rw[AE U];exact YX hn h f _ _ _ (B.rev _ _) (by omega) (by omega) (M _ (WA a3 he)) (by omega) fun i h1 h2=>by congr 1;omega
   ·rw[AD U];exact YX hn h f _ _ _ B (by omega) (by omega) (M _ fun _=>rfl) (by omega) fun i h1 h2=>by congr 1;omega
  |false =>
   rw[AD (by simp)];refine⟨B.lt (by omega),B.lt (by omega),?_⟩;show gz Ko n (if O.blt (kq Ko p (x-1)) (kq Ko p x)=true then .ret (p,x,F) else kas_desc f p (x+1) (F+1)) P;cases hg:O.blt (kq Ko p (x-1)) (kq Ko p x) with
   |true=>rw[AE rfl];exact h x F p B h1 (by omega) hs hq he
   |false =>
    rw[AD (by simp)];have Y:kq Ko p x=kq Ko p (x-1):=KeyOrd.kle_antisymm hg hl;refine YX hn h f _ _ _ B (by omega) (by omega) (fun i j Z hj=>?_) (by omega) fun i h1 h2=>?_
    ·by_cases a0:j<x;exact hs i j Z a0
     ·have a1:j=x:=by omega
      subst a1;by_cases a2:i=j;subst a2;exact B3 _;rw[Y];exact hs i (j-1) (by omega) (by omega)
    ·rw[show x+1-1=x by omega];by_cases a4:i=x;subst a4;rfl;rw[Y];exact he i (by omega) (by omega)
def y0{p:K3 Nat}(B:PB n p){F m:Nat}(U:F≤n)(hm:m+1≤F)(hs:j2 Ko p (m+1)){P:Nat×K3 Nat->Prop}(h:∀m' M,PB n M->1≤m'->m'≤F->gF Ko M m'->P (m',M)):gz Ko n (kas_descPart m F p) P:=by
 unfold kas_descPart;refine zV (YX U (fun m' Y M Z a1 a2 O hq he=>?_) _ _ _ _ B (by omega) (by omega) hs (by omega) fun i h1 h2=>by congr 1;omega);dsimp only;have R:m'≤M.size:=by rw[Z.size];omega
 by_cases I:Y>0;rw[AE I];refine rZ (Z.rev _ _) U a1 a2 (fun i j a0 hj=>?_) h;rw[WA R he,WA R he];exact O i j a0 hj;rw[AD I];exact rZ Z U a1 a2 O h
def Fx{p:K3 Nat}(B:PB n p)(h1:1≤n){P:Nat×K3 Nat->Prop}(h:∀m' p',PB n p'->1≤m'->m'≤n->gF Ko p' m'->P (m',p')):gz Ko n (kas_count n p) P:=by
 unfold kas_count;refine zV (lE B (AG n) (fun m Y Z I a7=>?_) _ _ (AG 1) (by omega) fun i j a0 hj=>by have:i=j:=(by omega);subst this;exact B3 _);by_cases M:m=n
 ·rw[AE (by simpa using M)];exact h m p B Y Z I
 ·rw[AD (by simpa using M)];have a3:O.klt (kq Ko p m) (kq Ko p (m-1)):=a7.resolve_left M;have a4:m≤p.size:=by rw[B.size];omega
  by_cases a5:m>1
  ·rw[AE a5];refine⟨B.lt (by omega),B.lt (by omega),?_⟩;show gz Ko n (if O.blt (kq Ko p 0) (kq Ko p (m-1))=true then .ret (m,p) else kas_descPart m n (kas_rev p 0 m)) P;cases R:O.blt (kq Ko p 0) (kq Ko p (m-1)) with
   |true=>rw[AE rfl];exact h m p B Y Z I
   |false =>
    rw[AD (by simp)];have F:∀k,0≤k->k<m->kq Ko p k=kq Ko p (m-1):=by
     intro k _ hk;have a1:=I 0 k (by omega) hk;have a2:=I k (m-1) (by omega) (by omega);exact KeyOrd.kle_antisymm a2 (C8 R a1)
    refine y0 (B.rev _ _) (AG n) (by omega) (fun i j a0 hj=>?_) h;rw[WA a4 F,WA a4 F];by_cases a8:j<m;rw[F i (by omega) (by omega),F j (by omega) a8];exact B3 _
    ·have a9:j=m:=by omega
     subst a9;by_cases U:i=j;subst U;exact B3 _;rw[F i (by omega) (by omega)];exact C2 a3
  ·rw[AD a5];have a6:m=1:=by omega
   subst a6;refine y0 B (AG n) (by omega) (fun i j a0 hj=>?_) h;by_cases U:i=j;subst U;exact B3 _
   ·have aa:i=0:=by omega
    have ab:j=1:=by omega
    subst aa;subst ab;exact C2 a3
def Yn{p:K3 Nat}(B:PB n p){k:Nat}(U:k<n)(hs:gF Ko p k){P:Nat->Prop}(h:∀l,l≤k->(∀i,i<l->O.kle (kq Ko p i) (kq Ko p k))->(∀i,l≤i->i<k->O.klt (kq Ko p k) (kq Ko p i))->P l) :
  ∀(f l r:Nat),l≤r->r≤k->r-l≤f->(∀i,i<l->O.kle (kq Ko p i) (kq Ko p k))->(∀i,r≤i->i<k->O.klt (kq Ko p k) (kq Ko p i))->gz Ko n (kas_place p k f l r) P
 |0,l,r,Z,Y,h3,M,R=>by
  have:l=r:=by omega
  subst this;exact h l Y M R
 |f+1,l,r,Z,Y,h3,M,R=>by
  unfold kas_place;by_cases I:l≥r
  ·rw[AE I]
   have:l=r:=by omega
   subst this;exact h l Y M R
  ·rw[AD I];refine⟨B.lt U,B.lt (by omega),?_⟩;show gz Ko n (if O.blt (kq Ko p k) (kq Ko p ((l+r)/2))=true then kas_place p k f l ((l+r)/2) else kas_place p k f ((l+r)/2+1) r) P;cases F:O.blt (kq Ko p k) (kq Ko p ((l+r)/2)) with
   |true=>rw[AE rfl];exact Yn B U hs h f _ _ (by omega) (by omega) (by omega) M fun i a b=>KeyOrd.klt_of_klt_of_kle F (hs _ _ a b)
   |false =>
    rw[AD (by simp)];exact Yn B U hs h f _ _ (by omega) (by omega) (by omega) (fun i a=>C8 (hs i ((l+r)/2) (by omega) (by omega)) (show O.kle _ _ from F)) R
def QM{P:K3 Nat->Prop}(h:∀p,PB n p->gF Ko p n->P p):∀(f:Nat) (p:K3 Nat) (k:Nat),PB n p->k+f=n->gF Ko p k->gz Ko n (kas_bin f p k) P
 |0,p,k,B,O,hs=>h p B (by
  have:k=n:=by omega
  subst this;exact hs)
 |f+1,p,k,B,O,hs=>by
  unfold kas_bin;refine zV (Yn B (by omega) hs (fun l R I M=>?_) k 0 k (by omega) (AG _) (by omega) (fun i hi=>absurd hi (BP _)) fun i a b=>absurd b (by omega));refine QM h f _ (k+1) ⟨(bubble_perm _ _ _).trans B.perm⟩ (by omega) fun i j U Y=>?_;have F:k<p.size:=by rw[B.size];omega
  rw[jf F (by omega),jf F (by omega),show k-(k-l)=l by omega]
  repeat' split
  all_goals first
   |(exfalso;omega)
   |exact B3 _
   |exact I _ (by omega)
   |exact C2 (M _ (by omega) (by omega))
   |exact hs _ _ (by omega) (by omega)
def HY(I:1≤n):gz Ko n (kas_sort n) fun p=>PB n p∧gF Ko p n:=by
 unfold kas_sort;refine zV (Fx ⟨Array.Perm.refl _⟩ I fun m p B a b hs=>?_);dsimp only;by_cases F:m<n
 ·rw[AE F,show max m 1=m by omega];exact QM (fun p B hs=>⟨B,hs⟩) _ _ _ B (by omega) hs
 ·rw[AD F]
  have:m=n:=by omega
  subst this;exact⟨B,hs⟩
end
section
variable{prog:KZ}{w:K0}{A:K1}{E:KR->KS->Prop}{s:KS}{O:KeyOrd}
def uQ{vs:KQ KR}(hsz:vs.toArray.size=vs.length)(F:vs.toArray.size<2):List.toArray ((List.range vs.length).toArray.toList.map fun i=>vs.getD i Value.none)=(vs.toArray.zip vs.toArray).map (·.2):=by
 match vs,hsz,F with|[],_,_=>simp|[v],_,_=>simp|M::O::I,hsz,F=>rw[hsz,AO,AO]at F;omega
def p6{a:KU}{vs:KQ KR}{n:Nat}{P:PySem.Fin->KS->Prop}{Ko:Nat->O.α}{κ:SortKind}(ho:s.heap.get? a=some (seqObj "list" vs.toArray n))(h64:vs.length<64)
  (hk:2≤vs.length->∀(R:Heap) (Q:SortKind->KS->Prop),(∀b o,b≠a->s.heap.get? b=some o->R.get? b=some o)->Q κ { s with heap:=R }->wpAny (model prog w) A (keyKind' vs.toArray) Q E { s with heap:=R })
  (hc:∀(R:Heap) (i j:Nat) (C:Bool->KS->Prop),(∀b o,b≠a->s.heap.get? b=some o->R.get? b=some o)->i<vs.length->j<vs.length->C (O.blt (Ko i) (Ko j)) { s with heap:=R }->wpAny (model prog w) A (keyLt' κ (vs.getD i Value.none) (vs.getD j Value.none)) C (fun _ _=>False) { s with heap:=R })
  (h:∀p:K3 Nat,PB vs.length p->gF Ko p vs.length->P (.done (.ret .none)) { s with heap:=sortedHeap s.heap a vs (List.toArray (p.toList.map fun i=>vs.getD i Value.none)) }) :
  wpAny (model prog w) A (Builtin.«list.sort» ⟨[.ref a],[]⟩) P E s:=by
 rw[list_sort_plain];have ha:a<s.heap.objs.size:=AL ho;refine AA (listItems_at ho rfl ?_);refine AA (listUpdate_at ho rfl ?_);obtain⟨e1,U⟩:∃e1,(s.heap.update a (Obj.mapSeq fun _ => #[])).get? a=some (seqObj "list" #[] e1):=⟨_,get?_update_seq ho (fun _ => #[])⟩;refine AA (seqEpoch_at U rfl ?_);refine AA (wpAny_newTuple ?_);refine AA (CH ?_);refine Aq ?_;have F:(((s.heap.update a (Obj.mapSeq fun _ => #[])).push (seqObj "tuple" vs.toArray 0)).push (seqObj "list" #[] 0)).get? a=some (seqObj "list" #[] e1):=by
  rw[Heap.get?_push_ne _ _ _ (by rw[size_push',CM];exact Aa (BR ha)),Heap.get?_push_ne _ _ _ (by rw[CM];exact Aa ha)];exact U
 have keep:∀b o,b≠a->s.heap.get? b=some o->(((s.heap.update a (Obj.mapSeq fun _ => #[])).push (seqObj "tuple" vs.toArray 0)).push (seqObj "list" #[] 0)).get? b=some o:=fun b o hb q =>
  AC _ (AC _ ((AV _ _ (Ne.symm hb)).trans q))
 show wpAny (model prog w) A _ P E { s with heap:=((s.heap.update a (Obj.mapSeq fun _ => #[])).push (seqObj "tuple" vs.toArray 0)).push (seqObj "list" #[] 0) };dsimp only;have a0:vs.toArray.size=vs.length:=by simp
 by_cases Y:vs.toArray.size<2
 ·rw[AE Y,AE Y];refine AA (AB ?_);rw[StateT.run_pure];refine AA (AB ?_);dsimp only;refine AA (seqEpoch_at F rfl ?_);refine AA (listUpdate_at F rfl ?_ (hsz2:=by rw[Array.size_map];show (pairsOf vs).size≤_;rw[pairsOf_size,Bk];omega));simp only[bne_self_eq_false,A4,BQ];refine AB ?_
  have:=h (List.range vs.length).toArray ⟨Array.Perm.refl _⟩ fun i j a6 hj=>by
   have:i=j:=by omega
   subst this;exact B3 _
  have e:List.toArray ((List.range vs.length).toArray.toList.map fun i=>vs.getD i Value.none)=(arrOf (SortSt.mk' general' (vs.toArray.zip vs.toArray) #[] 7 none)).map (·.2):=uQ a0 Y;rw[e]at this;exact this
 ·rw[AD Y,AD Y];have Z:2≤vs.length:=by omega
  refine AA (hk Z _ _ keep ?_);have hw:(kas_sort vs.length).kasWp (kas_ask prog w A κ vs) (fun p s'=>s'={ s with heap:=((s.heap.update a (Obj.mapSeq fun _ => #[])).push (seqObj "tuple" vs.toArray 0)).push (seqObj "list" #[] 0) }∧PB vs.length p∧gF Ko p vs.length) { s with heap:=((s.heap.update a (Obj.mapSeq fun _ => #[])).push (seqObj "tuple" vs.toArray 0)).push (seqObj "list" #[] 0) } :=
   nL (O:=O) (Ko:=Ko) (n:=vs.length) (fun i j C hi hj hC=>hc _ i j C keep hi hj hC) (P:=fun p=>PB vs.length p∧gF Ko p vs.length) (fun p hp=>⟨rfl,hp⟩) _ (HY (by omega))
  refine AA (Bc (kat_run (Q:=fun I s'=>∃p:K3 Nat,p.size=vs.length∧arrOf I=p.map (kas_item (vs.toArray.zip vs.toArray))∧failedOf I=none∧s'={ s with heap:=((s.heap.update a (Obj.mapSeq fun _ => #[])).push (seqObj "tuple" vs.toArray 0)).push (seqObj "list" #[] 0) }∧PB vs.length p∧gF Ko p vs.length)
   rfl Z h64 (fun p' I s' a1 a2 a3 a4=>⟨p',a1,a2,a3,a4⟩) hw) ?_ fun _ _ e=>e)
  rintro⟨⟨⟩,I⟩ s' ⟨p,hp,a5,hf,rfl,B,S⟩;dsimp only;have M:=kat_snds rfl a5;refine AA (seqEpoch_at F rfl ?_);refine AA (listUpdate_at F rfl ?_ (hsz2:=by rw[M,AX,AF,AW,hp,Bk];omega));rw[hf];simp only[bne_self_eq_false,A4,BQ];rw[M];exact AB (h p B S)
def yt{l:KU}{vs:KQ KR}{Q:KQ KR->KS->Prop}(M:∃o,s.heap.get? l=some o∧o.cls= .type "tuple" ∧∃n,o.data= .seq vs.toArray n)(hz:vs.length≤sizeLine)
  (h:Q vs { s with heap:=(s.heap.push (seqObj "list" #[] 0)).update s.heap.objs.size (Obj.mapSeq (· ++ vs.toArray)) }):wpAny (model prog w) A (collect (.ref l)) Q E s:=by
 obtain⟨F,O,R,nn,U⟩:=M;unfold collect;refine AA (DM (BV entry_proto_collect' ?_));show wpAny _ _ (do again (.builtin "list.__iadd__" ⟨[←newList [],.ref l],[]⟩)) _ _ s;refine AA (CH (AB ⟨Code.quiet_builtin _ (by decide +kernel),BV entry_list_iadd' ?_⟩));show wpAny _ _ (Builtin.List.listExtendWith (.ref s.heap.objs.size) (.ref l) (.ref s.heap.objs.size)) _ _ { s with heap:=s.heap.push (seqObj "list" #[] 0) };unfold Builtin.List.listExtendWith;have I:(s.heap.push (seqObj "list" #[] 0)).get? l=some F:=AC _ O;refine AA (Bp (T := "tuple") ⟨F,I,R⟩ ?_);have Y:(Value.type "tuple" == Value.type "tuple")=true:=by rfl
 rw[AE (by rw[Y];simp)];refine AA (listItems_at I U ?_);refine AA (listItems_at (xs := #[]) (n:=0) (AR _ rfl) rfl ?_);rw[AD (by simp)];refine AA (listUpdate_at (xs := #[]) (n:=0) (AR _ rfl) rfl ?_ (Au _) (by show (#[]++vs.toArray).size≤sizeLine+1;simp only[Array.size_append,AX,CT];omega));refine AB ?_;show wpAny _ _ (load s.heap.objs.size >>= _) Q E _;refine AA (wpAny_load (get?_update_seq (AR _ rfl) _) ?_);show wpAny _ _ (pure ((#[]:K3 KR)++vs.toArray).toList) Q E _;rw[show ((#[]:K3 KR)++vs.toArray).toList=vs by simp];exact AB h
def ja{l:KU}{vs:KQ KR}{Q:KR->KS->Prop}{Ko:Nat->O.α}{κ:SortKind}(R:∀{E':KR->KS->Prop} {Q':KQ KR->KS->Prop},Q' vs { s with heap:=(s.heap.push (seqObj "list" #[] 0)).update s.heap.objs.size (Obj.mapSeq (· ++ vs.toArray)) }->wpAny (model prog w) A.in1 (collect (.ref l)) Q' E' s)(h64:vs.length<64)
  (hk:2≤vs.length->∀(A':K1) (E':KR->KS->Prop) (F:Heap) (Q:SortKind->KS->Prop),(∀b o,s.heap.get? b=some o->F.get? b=some o)->Q κ { s with heap:=F }->wpAny (model prog w) A' (keyKind' vs.toArray) Q E' { s with heap:=F })
  (hc:∀(F:Heap) (i j:Nat) (C:Bool->KS->Prop),(∀b o,s.heap.get? b=some o->F.get? b=some o)->i<vs.length->j<vs.length->C (O.blt (Ko i) (Ko j)) { s with heap:=F }->wpAny (model prog w) A.in1.in1 (keyLt' κ (vs.getD i Value.none) (vs.getD j Value.none)) C (fun _ _=>False) { s with heap:=F })
  (h:∀p:K3 Nat,PB vs.length p->gF Ko p vs.length->Q (.ref (s.heap.objs.size+1)) { s with heap:=sortedAll s.heap vs (List.toArray (p.toList.map fun i=>vs.getD i Value.none)) }) :
  wpAny (model prog w) A (call (.builtin "sorted") [.ref l]) Q E s:=by
 refine Calls.call_function_entry kind_sorted plain_sorted entry_sorted (args_sorted1 _) ?_;unfold Builtin.«sorted»;refine AA (m:=checkCount "sorted" 1 1 _) (AB ?_);refine AA (R ?_);refine AA (CH ?_ (by rw[Bk];omega));have I:((s.heap.push (seqObj "list" #[] 0)).update s.heap.objs.size (Obj.mapSeq (· ++ vs.toArray))).objs.size=s.heap.objs.size+1:=by rw[CM,size_push']
 have U:(((s.heap.push (seqObj "list" #[] 0)).update s.heap.objs.size (Obj.mapSeq (· ++ vs.toArray))).push (seqObj "list" vs.toArray 0)).get? (s.heap.objs.size+1)=some (seqObj "list" vs.toArray 0):=by rw[←I];exact AR _ rfl
 have keep:∀b o,s.heap.get? b=some o->(((s.heap.push (seqObj "list" #[] 0)).update s.heap.objs.size (Obj.mapSeq (· ++ vs.toArray))).push (seqObj "list" vs.toArray 0)).get? b=some o:=fun b o q=>by
  have M:b<s.heap.objs.size:=AL q;rw[Heap.get?_push_ne _ _ _ (by rw[I];exact Aa (BR M)),Heap.get?_update_ne _ _ _ _ (Aa M),Heap.get?_push_ne _ _ _ (Aa M)];exact q
 show wpAny _ _ _ _ _ { s with heap:=((s.heap.push (seqObj "list" #[] 0)).update s.heap.objs.size (Obj.mapSeq (· ++ vs.toArray))).push (seqObj "list" vs.toArray 0) };rw[I];have Y:∀b o,s.heap.get? b=some o->b≠s.heap.objs.size+1:=fun b o q=>Aa (BR (AL q));refine AA (Aq (As slot_list_sort ⟨_,U,rfl⟩ entry_list_sort (p6 (O:=O) (Ko:=Ko) (κ:=κ) U h64 (fun h2 F Q' k q=>hk h2 _ _ F Q' (fun b o Z=>k b o (Y b o Z) (keep b o Z)) q) (fun F i j C k hi hj q=>hc F i j C (fun b o Z=>k b o (Y b o Z) (keep b o Z)) hi hj q) fun p a1 a2=>⟨_,rfl,?_⟩) (args_list_sort _)));exact AB ⟨_,rfl,h p a1 a2⟩
end
def fj:KQ Int->KQ Int->Bool|_,[]=>false|[],_::_=>true|a::l,b::m=>if a<b then true else if b<a then false else fj l m
def Zc:∀l,fj l l=false|[]=>rfl|a::l=>by rw[fj,AD (B5 a),AD (B5 a)];exact Zc l
def Jg:∀a b c,fj a b=true->fj b c=true->fj a c=true
 |_,_,[],_,h=>by cases ‹KQ Int› <;> simp[fj]at h
 |_,[],_::_,h,_=>by simp[fj]at h
 |[],_::_,_::_,_,_=>rfl
 |x::l,y::m,z::n,O,F=>by
  unfold fj at O F ⊢;by_cases U:x<y
  ·by_cases M:y<z;rw[AE (by omega)]
   ·rw[AD M]at F;by_cases I:z<y;rw[AE I]at F;cases F;rw[AE (by omega)]
  ·rw[AD U]at O;by_cases R:y<x;rw[AE R]at O;cases O
   ·rw[AD R]at O;by_cases M:y<z;rw[AE (by omega)]
    ·rw[AD M]at F;by_cases I:z<y;rw[AE I]at F;cases F
     ·rw[AD I]at F;rw[AD (by omega),AD (by omega)];exact Jg l m n O F
def yC:∀a b,fj a b=false->fj b a=false->a=b
 |[],[],_,_=>rfl
 |[],_::_,h,_=>by cases h
 |_::_,[],_,h=>by cases h
 |x::l,y::m,M,O=>by
  unfold fj at M O;by_cases F:x<y;rw[AE F]at M;cases M
  ·by_cases I:y<x;rw[AE I]at O;cases O
   ·rw[AD F,AD I]at M;rw[AD I,AD F]at O
    have:x=y:=by omega
    rw[this,yC l m M O]
def iJ:KeyOrd where
 α:=KQ Int
 blt:=fj
 irrefl:=Zc
 trans:=Jg
 total:=yC
 negTrans:=fun a b c h=>by
  cases h1:fj a b with
  |true=>exact .inl rfl
  |false =>
   right;cases h2:fj b a with|true=>exact Jg b a c h2 h|false=>rw[←yC a b h1 h2];exact h
section
variable{prog:KZ}{w:K0}{A:K1}{E:KR->KS->Prop}{s:KS}
def nQ(b:Bool){x y:Int}{t u:Tok}{Q:Bool->KS->Prop}(h:Q (decide (x<y)) s):wpAny (model prog w) A (oneLt' b (.int x t) (.int y u)) Q E s:=by
 cases b with|true=>exact oneLt_int h|false=>exact kat_one _ _ (wpAny_lt_int h)
def GO{b I:Bool}{Q:Bool->KS->Prop}{ks:KQ Int}{vs:KQ KR}(hx:ItemsAre (intKind prog w) ks vs):∀{F:KQ Int} {us:KQ KR} (i:Nat),ItemsAre (intKind prog w) F us->decide (vs.length<us.length)=I->Q (fj ks F) s->KatLex prog w A b I Q (vs.zip us) i s:=by
 induction hx with
 |nil =>
  intro F us i R M h;refine kat_nil ?_;cases R with|nil=>rw[←M];exact h|cons _ _=>rw[←M,CT,AO,AS (Nat.succ_pos _)];exact h
 | @cons k v ks vs U h2 ih =>
  intro F us i R M h;cases R with
  |nil=>refine kat_nil ?_;rw[←M];exact h
  | @cons k' u F us Y Z =>
   rw[Bl];refine kat_cons ((intKind prog w).eqBool U Y ?_);obtain⟨n1,t1,rfl⟩:=ZN (.cons U h2) v AI;obtain⟨n2,t2,rfl⟩:=ZN (.cons Y Z) u AI;have e1:n1=k:=(intKind prog w).inj _ _ _ (intKind_is prog w n1 t1) U;have e2:n2=k':=(intKind prog w).inj _ _ _ (intKind_is prog w n2 t2) Y;subst e1;subst e2;unfold fj at h;by_cases hq:n1=n2
   ·rw[AS hq];rw[AD (by omega),AD (by omega)]at h;exact kat_yes (ih (i+1) Z (by simpa using M) h)
   ·rw[AU hq];refine kat_no (nQ _ ?_);by_cases O:n1<n2;rw[AE O]at h;rw[AS O];exact h;rw[AD O,AE (by omega)]at h;rw[AU O];exact h
def pP{b:Bool}{ks F:KQ Int}{x y:KU}{Q:Bool->KS->Prop}(I:TK prog w s.heap ks x)(M:TK prog w s.heap F y)(h:Q (fj ks F) s):wpAny (model prog w) A (keyLt' (tuples' b) (.ref x) (.ref y)) Q E s:=by obtain⟨ox,xs,n,O,_,R,U⟩:=I;obtain⟨oy,ys,m,Y,_,Z,g4⟩:=M;exact kat_lt O R Y Z (GO U 0 g4 (by simp) h)
inductive fT (prog:Program) (w:World) (h:Heap):List Value->List (List Int)->Prop
 |nil:fT prog w h [] []
 |cons {ks:List Int} {b:Addr} {vs:List Value} {Kj:List (List Int)}:TK prog w h ks b->ks≠[]->fT prog w h vs Kj->fT prog w h (.ref b::vs) (ks::Kj)
def fT.len{h:Heap}{vs:KQ KR}{Kj:KQ (KQ Int)}(e:fT prog w h vs Kj):vs.length=Kj.length:=by
 induction e with|nil=>rfl|cons _ _ _ F=>rw[AO,AO,F]
def fT.keep{h h':Heap}{vs:KQ KR}{Kj:KQ (KQ Int)}(e:fT prog w h vs Kj)(k:∀b o,(∃ks,TK prog w h ks b)->h.get? b=some o->h'.get? b=some o):fT prog w h' vs Kj:=by
 induction e with|nil=>exact .nil|cons a ne _ F=>exact .cons (a.keep fun o=>k _ o ⟨_,a⟩) ne F
def fT.get{h:Heap}{vs:KQ KR}{Kj:KQ (KQ Int)}(e:fT prog w h vs Kj):∀{i:Nat},i<vs.length->∃b,vs.getD i Value.none= .ref b∧TK prog w h (Kj.getD i []) b:=by
 induction e with
 |nil=>intro i hi;exact absurd hi (BP _)
 | @cons ks b vs Kj a _ _ F =>
  intro i hi;cases i with|zero=>exact⟨b,rfl,a⟩|succ i=>simpa using F (i:=i) (by simpa using hi)
def fT.kat{h:Heap}{vs:KQ KR}{Kj:KQ (KQ Int)}(e:fT prog w h vs Kj):∃fs:KQ KR,KatTups h vs fs∧fs.length=vs.length∧∀v∈fs,∃n t,v=Value.int n t:=by
 induction e with
 |nil=>exact⟨[],KatTups.nil,rfl,fun v F=>(Ak F).elim⟩
 | @cons ks b vs Kj a ne _ R =>
  obtain⟨fs,U,Y,Z⟩:=R;obtain⟨o,Ki,n,g1,g2,g3,I⟩:=a;have F:=ZN I;cases M:Ki.toList with
  |nil=>rw[M]at I;cases I;exact absurd rfl ne
  |cons f r =>
   have hf:Ki[0]? = some f:=by rw[←A5,M];rfl
   refine⟨f::fs,KatTups.cons g1 g2 g3 hf U,by rw[AO,AO,Y],fun v O=>?_⟩;rcases AK.mp O with q|q
   ·rw[q];exact F f (by rw[M];exact AI)
   ·exact Z v q
def mO{vs:KQ KR}{Kj:KQ (KQ Int)}{Q:SortKind->KS->Prop}(e:fT prog w s.heap vs Kj)(O:2≤vs.length)(h:Q (tuples' true) s):wpAny (model prog w) A (keyKind' vs.toArray) Q E s:=by
 obtain⟨fs,F,R,I⟩:=e.kat;refine kat_kind (T:=.type "int") F (by omega) (fun v M=>?_) (by decide) ?_;obtain⟨n,t,rfl⟩:=I v M;exact .now;rw[show (Value.type "int" != Value.type "tuple")=true by decide];exact h
def fm(Kj:KQ (KQ Int)):KQ (KQ Int):=Kj.mergeSort fun a b=> !fj b a
def QO(Kj:KQ (KQ Int)):(fm Kj).Perm Kj:=List.mergeSort_perm _ _
def Wx(Kj:KQ (KQ Int)):(fm Kj).Pairwise fun a b=>fj b a=false:=by
 have:=List.pairwise_mergeSort (le:=fun a b:KQ Int=> !fj b a) (fun a b c F I=>by
  simp only[Bool.not_eq_eq_eq_not,Bool.not_true]at F I ⊢;exact C8 (O:=iJ) F I) (fun a b=>by
  cases h:fj b a with
  |false=>simp
  |true =>
   have:fj a b=false:=C2 (O:=iJ) (a:=b) (b:=a) h
   simp[this]) Kj
 exact this.imp fun h=>by simpa using h
def Yg:∀{l m:KQ (KQ Int)},l.Pairwise (fun a b=>fj b a=false)->m.Pairwise (fun a b=>fj b a=false)->l.Perm m->l=m
 |[],m,_,_,p=>(List.Perm.eq_nil p.symm).symm
 |x::l,[],_,_,p=>by have:=p.length_eq;simp at this
 |x::l,y::m,F,I,p=>by
  have M:x∈y::m:=p.mem_iff.mp AI;have O:y∈x::l:=p.mem_iff.mpr AI;have e:x=y:=by
   have R:fj y x=false:=by
    rcases AK.mp O with q|q
    ·rw[q];exact Zc _
    ·exact (Bm.mp F).1 y q
   have U:fj x y=false:=by
    rcases AK.mp M with q|q
    ·rw[q];exact Zc _
    ·exact (Bm.mp I).1 x q
   exact yC _ _ U R
  subst e;rw[Yg (Bm.mp F).2 (Bm.mp I).2 (List.Perm.cons_inv p)]
def nj{h:Heap}{vs:KQ KR}{Kj:KQ (KQ Int)}(e:fT prog w h vs Kj){p:K3 Nat}(B:PB vs.length p)(S:gF (O:=iJ) (fun i=>Kj.getD i []) p vs.length):p.toList.map (fun i=>Kj.getD i [])=fm Kj:=by
 have I:=B.size;refine Yg ?_ (Wx Kj) ?_
 ·rw[B1,Cd];intro i j hi F M
  have:=S i j (by omega) (by rw[AW]at F;omega)
  unfold kq at this;rw[AQ,AQ,AN (by simpa using hi),AN (by simpa using F)]at this;exact this
 ·refine ((Cc.mp B.perm).map _).trans (.trans ?_ (QO Kj).symm)
  have:(List.range vs.length).map (fun i=>Kj.getD i [])=Kj:=by
   rw[e.len];refine List.ext_getElem (by simp) fun i U R=>?_;simp[Ao,AJ R]
  show ((List.range vs.length).map fun i=>Kj.getD i []).Perm Kj;rw[this]
end
end ET
end
section
namespace ET
open PySem PySem.Spec PyProof.Rows L2
open EX
structure fM (w:World) (h:Heap) (a:Addr) (es:Array (Int×Value)) (ep:Nat) (t:SetTable):Prop where
 ex:∃o,h.get? a=some o∧o.ExactSet∧o.data=Data.set es ep t
 T:oG w t es
 n:es.size≤300
def im(w:K0)(h:Heap)(it a:KU)(es:K3 (Int×KR))(ep:Nat)(t:SetTable)(i:Nat):Prop:=∃(o:Obj) (slot:Nat),h.get? it=some o∧o.cls= .type "set_iterator" ∧o.data= .fields #[.int slot 0,.int i 0,.ref a,.int es.size 0,.int ep 0]∧(gg w=false->SetTable.below t.place slot=i)
section
variable{prog:KZ}{w:K0}{A:K1}{E:KR->KS->Prop}{s:KS}{a it:KU}{es:K3 (Int×KR)}{ep i:Nat}{t:SetTable}
def fM.fits(L:fM w s.heap a es ep t):t.fits es.size=true:=Jm L.T.g
def fM.typeIs(L:fM w s.heap a es ep t):s.TypeIs (.ref a) "set" :=let ⟨o,h,c,_⟩:=L.ex;⟨o,h,c.1⟩
def im.typeIs(I:im w s.heap it a es ep t i):s.TypeIs (.ref it) "set_iterator" :=let ⟨o,_,h,c,_⟩:=I;⟨o,h,c⟩
theorem He{Q:KR->KS->Prop}(L:fM w s.heap a es ep t)
  (O:Q (.ref s.heap.objs.size) { s with heap:=s.heap.push { cls:=.type "set_iterator",data:=.fields #[.int 0 0,.int 0 0,.ref a,.int es.size 0,.int ep 0] } }):wpAny (model prog w) A (pyIter (.ref a)) Q E s:=by
 obtain⟨o,I,R,hd⟩:=L.ex;refine C0 L.typeIs F.slot_set_iter (As F.slot_set_iter L.typeIs JK ?_ (F.args_set_iter_1 _));unfold Builtin.«frozenset.__iter__» Builtin.Frozenset.slot0 Builtin.Frozenset.sizeOf setEntries;refine AA (Ar (a:=a) rfl ?_);refine AA (AA (AA (BF I hd L.fits (AB (AB ?_)))));unfold setDrawn setsByText;refine AA (AA (BF I hd L.fits ?_));dsimp only;refine AA (AA (Cm (AB (AB ?_))));rw[AD (by
  rw[AY];intro q;have M:(!t.plain&&decide (es.size>1))=true:=q.2;rw[L.T.pl]at M;cases M)]
 refine AA (AB ?_);unfold setEpoch newFields;refine AA (AA (BF I hd L.fits (AB ?_)));exact AA (A3 (AB ⟨_,rfl,"set_iterator",_,⟨_,AR _ rfl,rfl⟩,fg.lookup,by simpa[rawInt] using O⟩))
def jc{R:KW (KR×Nat)->KS->Prop}{slot:Nat}(L:fM w s.heap a es ep t)(hb:gg w=false->SetTable.below t.place slot=i)
  (U:∀e nx,(wb w a ep es)[i]? = some e->(gg w=false->SetTable.below t.place nx=i+1)->R (some (e.2,nx)) s) (Y:(wb w a ep es)[i]? = none->R none s):wpAny (model prog w) A (setNext a ((slot:Int)).toNat ((i:Int)).toNat ((ep:Int)).toNat) R E s:=by
 obtain⟨o,ho,a0,hd⟩:=L.ex;have hf:=L.fits;unfold setNext;refine AA (BF ho hd hf ?_);unfold setsByText;dsimp only;refine AA (AA (Cm (AB ?_)));rw[BC,BC,BC];by_cases F:gg w=true
 ·rw[AE (by exact F),AD (by simp)];unfold setWalk setsByText;refine AA (AA (BF ho hd hf ?_));dsimp only;refine AA (AA (Cm (AB ?_)));rw[AE (by exact F)];refine AA (Cm (AB (AB ?_)));have Z:wb w a ep es=pickOrder (w.params.setOrder a ep) es:=by unfold wb;rw[AE F]
  rw[Z]at U Y;show R (((pickOrder (w.params.setOrder a ep) es)[i]?).map fun e=>(e.2,slot)) s;cases M:(pickOrder (w.params.setOrder a ep) es)[i]? with|none=>exact Y M|some e=>exact U e slot M fun q=>by rw[q]at F;cases F
 ·have I:gg w=false:=by cases h:gg w with|true=>exact absurd h F|false=>rfl
  rw[AD (by exact F),AD (by
   intro q;have q2:(!t.plain&&decide (es.size>1))=true:=q;rw[L.T.pl]at q2;cases q2)]
  have Z:wb w a ep es=es:=by unfold wb;rw[AD F]
  rw[Z]at U Y;have O:t.led=true:=by rw[L.T.led,I];rfl
  refine AA (Ar (a:=()) ?_ (AB ?_));show (if (!t.led && !es.isEmpty)=true then unsupported "set:maker-not-led" else pure ())=pure ();rw[O];rfl
  ·rw[hb I];have a1:t.place.size=es.size:=L.T.g.sz;cases M:es[i]? with
   |none=>exact Y M
   |some e =>
    have hi:i<es.size:=(BG.mp M).1;have hp:t.place[i]? = some (t.place.getD i 0):=by rw[AQ,AN (by omega)];rfl
    rw[hp];exact U e _ M fun _=>Ei L.T.g.ris (by omega)
def GS{Q:KW KR->KS->Prop}(L:fM w s.heap a es ep t)(I:im w s.heap it a es ep t i){e:Int×KR}(hx:(wb w a ep es)[i]? = some e)
  (hQ:∀h',im w h' it a es ep t (i+1)->Heap.SameBut it s.heap h'->Q (some e.2) { s with heap:=h' }):wpAny (model prog w) A (pyNext (.ref it)) Q E s:=by
 obtain⟨o,ho,a0,hd⟩:=L.ex;obtain⟨oi,slot,M,Y,F,hb⟩:=id I;unfold pyNext;refine AA (Bh (A0 (name:=Str.ofString "__next__") I.typeIs fg (As fg I.typeIs Z6 ?_ (jO _))));unfold Builtin.«set_iterator.__next__»;refine AA (Ar (a:=(.ref it,[])) rfl ?_);dsimp only;refine AA (BU M F ?_);dsimp only;unfold setEntries;refine AA (AA (BF ho hd L.fits (AB ?_)));rw[AD (by simp)];refine AA (jc L hb (fun e' nx O hn=>?_) fun O=>?_)
 ·rw[hx]at O;cases O;dsimp only;refine AA (Ba M F (by simp) ?_);have R:=Av (Obj.mapFields fun x=>x.setIfInBounds 0 (rawInt (nx:Int))) M (B6 (BN F _));refine AA (Ba R (BN F _) (by simp) ?_);have Z:=Av (Obj.mapFields fun x=>x.setIfInBounds 1 (rawInt ((i:Int)+1))) R (B6 (BN (BN F _) _));refine AB ⟨_,rfl,AB (hQ _ ⟨_,nx,Z,?_,?_,hn⟩ ⟨?_,fun b U=>?_⟩)⟩;rw[Cy,Cy];exact Y;rw[BN (BN F _)];simp[rawInt];rw[CM,CM];exact (AV _ _ (Ne.symm U)).trans (AV _ _ (Ne.symm U))
 ·rw[hx]at O;cases O
def xj{Q:KW KR->KS->Prop}(Y:A.handled=none)(L:fM w s.heap a es ep t)(I:im w s.heap it a es ep t i)(Z:(wb w a ep es)[i]? = none)
  (hQ:∀h',(∀b o,b≠it->s.heap.get? b=some o->h'.get? b=some o)->Q none { s with heap:=h' }):wpAny (model prog w) A (pyNext (.ref it)) Q E s:=by
 obtain⟨o,ho,a0,hd⟩:=L.ex;obtain⟨oi,slot,F,a1,M,hb⟩:=id I;unfold pyNext;refine AA (Bh (A0 (name:=Str.ofString "__next__") I.typeIs fg (As fg I.typeIs Z6 ?_ (jO _))));unfold Builtin.«set_iterator.__next__»;refine AA (Ar (a:=(.ref it,[])) rfl ?_);dsimp only;refine AA (BU F M ?_);dsimp only;unfold setEntries;refine AA (AA (BF ho hd L.fits (AB ?_)));rw[AD (by simp)];refine AA (jc L hb (fun e' nx O hn=>by rw[Z]at O;cases O) fun O=>?_);dsimp only;refine AA (Ba F M (by simp) ?_);refine wm (A:=A.in1) (fun v U=>by rw[show A.in1.handled=A.handled from rfl,Y]at U;cases U) fun h' e k ht=>?_;refine AA (BL (T := "StopIteration") (b:=true) ht Cg ?_);exact AB (hQ _ fun b o' R q=>k b o' ((AV _ _ (Ne.symm R)).trans q))
end
section
variable{prog:KZ}{w:K0}{A:K1}{E:KR->KS->Prop}{R:Result->KS->Prop}{a it:KU}{es:K3 (Int×KR)}{ep:Nat}{t:SetTable}
def fM.same{h h':Heap}(L:fM w h a es ep t)(e:∀o,h.get? a=some o->h'.get? a=some o):fM w h' a es ep t:=by obtain⟨⟨o,F,I⟩,T,n⟩:=L;exact⟨⟨o,e o F,I⟩,T,n⟩
def im.same{h h':Heap}{i:Nat}(L:im w h it a es ep t i)(e:∀o,h.get? it=some o->h'.get? it=some o):im w h' it a es ep t i:=by obtain⟨o,sl,F,I⟩:=L;exact⟨o,sl,e o F,I⟩
def xL{D:KU}(hh:A.handled=none)(a0:a≠D)(M:it≠D)(a1:a≠it):∀(k i:Nat) (s:KS) (n:Nat),es.size-i=k->i≤es.size->fM w s.heap a es ep t->im w s.heap it a es ep t i->s.heap.get? D=some (seqObj "list" (((wb w a ep es).toList.take i).map (·.2)).toArray n) ->
  (∀(h':Heap) (n':Nat),(∀b o,b≠D->b≠it->s.heap.get? b=some o->h'.get? b=some o)->h'.get? D=some (seqObj "list" ((wb w a ep es).toList.map (·.2)).toArray n')->R (.ok (.ret (.ref D))) { s with heap:=h' }) ->
  codeAny (model prog w) A (.builtin "list.extend.loop" ⟨[.ref D,.ref it,.ref D],[]⟩) R s:=by
 intro k;induction k with
 |zero =>
  intro i s n hk hi L I hD h;have F:i=es.size:=by omega
  refine BV je ?_;rw[Bo zD];unfold Builtin.«list.extend.loop»;refine AA (xj hh L I (by rw[CP];rw[zc];omega) fun h' O=>?_);dsimp only;refine AB (h h' n (fun b o h1 h2=>O b o h2) ?_);rw[O D _ (Ne.symm M) hD,CQ (by rw[AW,zc];omega)]
 |succ k ih =>
  intro i s n hk hi L I hD h;have F:i<(wb w a ep es).size:=by rw[zc];omega
  refine BV je ?_;rw[Bo zD];unfold Builtin.«list.extend.loop»;refine AA (GS L I (AN F) fun h' I' sb=>?_);dsimp only;unfold Builtin.List.listUpdate;dsimp only;have U:h'.get? D=some (seqObj "list" (((wb w a ep es).toList.take i).map (·.2)).toArray n):=(sb.2 D (Ne.symm M)).trans hD;have Y:(((wb w a ep es).toList.take i).map (·.2)).length≤300:=by
   rw[AF,BX,AW,zc]
   have:=L.n
   omega
  have Z:(((wb w a ep es).toList.take i).map (·.2)).toArray.size≤300:=by rw[AX];exact Y
  refine AA (CY U rfl ?_ (Ab Z (by decide)) (by rw[Array.size_push];exact Ab (C9 Z) (by decide)));have e1:((((wb w a ep es).toList.take i).map (·.2)).toArray.push (wb w a ep es)[i].2)=((((wb w a ep es).toList.take (i+1)).map (·.2)).toArray):=by
   have hl:i<(wb w a ep es).toList.length:=by rw[AW];exact F
   rw[Ck hl,BK,List.push_toArray];rfl
  have hu:∃n2,(h'.update D (Obj.mapSeq fun x=>x.push (wb w a ep es)[i].2)).get? D=some (seqObj "list" (((wb w a ep es).toList.take (i+1)).map (·.2)).toArray n2):=by rw[Av _ U rfl,←e1];exact⟨_,rfl⟩
  obtain⟨n2,hu⟩:=hu;refine AB ⟨Ct zD _,?_⟩;refine ih (i+1) _ n2 (by omega) (by rw[zc]at F;omega) (L.same fun o ho=>?_) (I'.same fun o ho=>?_) hu fun h2 n3 a2 a3=>h h2 n3 (fun b o h3 h4 ho=>a2 b o h3 h4 ?_) a3;exact (AV _ _ (Ne.symm a0)).trans ((sb.2 a a1).trans ho);exact (AV _ _ (Ne.symm M)).trans ho;exact (AV _ _ (Ne.symm h3)).trans ((sb.2 b h4).trans ho)
theorem Du{s:KS}{Q:KQ KR->KS->Prop}(hh:A.handled=none)(L:fM w s.heap a es ep t)
  (hQ:∀h',(∀b o,s.heap.get? b=some o->h'.get? b=some o)->s.heap.objs.size≤h'.objs.size->Q ((wb w a ep es).toList.map (·.2)) { s with heap:=h' }):wpAny (model prog w) A (collect (.ref a)) Q E s:=by
 have O:a<s.heap.objs.size:=by obtain⟨o,M,_⟩:=L.ex;exact AL M
 unfold collect;refine AA (DM (BV F.entry_proto_collect ?_));rw[Bo F.plain_proto_collect];unfold Builtin.«proto.collect»;dsimp only;refine AA (CH ?_);refine AB ⟨Ct F.plain_list_iadd _,BV F.entry_list_iadd ?_⟩;rw[Bo F.plain_list_iadd];unfold Builtin.«list.__iadd__»;refine AA (Ar (a:=(.ref s.heap.objs.size,[.ref a])) rfl ?_);dsimp only;unfold Builtin.List.listExtendWith;have L1:fM w (s.heap.push { cls:=.type "list",data:=.seq ([]:KQ KR).toArray }) a es ep t:=L.same fun o M=>AC _ M;refine AA (Bp (T := "set") L1.typeIs ?_);have a0:(s.heap.objs.size==a)=false:=Ag.mpr (Bt O);rw[AD (by
  show ¬((s.heap.objs.size==a||_||_)=true);rw[a0]
  decide)]
 refine AA (He L1 ?_);have L2:fM w ((s.heap.push { cls:=.type "list",data:=.seq ([]:KQ KR).toArray }).push { cls:=.type "set_iterator",data:=.fields #[.int 0 0,.int 0 0,.ref a,.int es.size 0,.int ep 0] }) a es ep t:=L1.same fun o M=>AC _ M;refine AA (Aq (EX.hint_set L2.typeIs ?_));dsimp only;rw[AE (by decide +kernel)];have hz:(s.heap.push { cls:=.type "list",data:=.seq ([]:KQ KR).toArray }).objs.size=s.heap.objs.size+1:=B7 ..;have U:((s.heap.push { cls:=.type "list",data:=.seq ([]:KQ KR).toArray }).push { cls:=.type "set_iterator",data:=.fields #[.int 0 0,.int 0 0,.ref a,.int es.size 0,.int ep 0] }).get? s.heap.objs.size=some (seqObj "list" #[] 0):=AC _ (AR _ rfl);refine AA (Cu (AA ?_));unfold Builtin.List.listTouch Builtin.List.listUpdate;dsimp only;refine AA (CY U rfl ?_ (by decide) (by decide));have Y:=Av (Obj.mapSeq fun x=>x.push Value.none) U rfl;refine CY Y rfl ?_ (by decide) (by decide);have R:∃n,((((s.heap.push { cls:=.type "list",data:=.seq ([]:KQ KR).toArray }).push { cls:=.type "set_iterator",data:=.fields #[.int 0 0,.int 0 0,.ref a,.int es.size 0,.int ep 0] }).update s.heap.objs.size (Obj.mapSeq fun x=>x.push Value.none)).update s.heap.objs.size (Obj.mapSeq fun x=>x.pop)).get? s.heap.objs.size=some (seqObj "list" #[] n):=by rw[Av _ Y rfl];exact⟨_,rfl⟩
 obtain⟨n2,R⟩:=R;have I:∀b o,b≠s.heap.objs.size->((s.heap.push { cls:=.type "list",data:=.seq ([]:KQ KR).toArray }).push { cls:=.type "set_iterator",data:=.fields #[.int 0 0,.int 0 0,.ref a,.int es.size 0,.int ep 0] }).get? b=some o->((((s.heap.push { cls:=.type "list",data:=.seq ([]:KQ KR).toArray }).push { cls:=.type "set_iterator",data:=.fields #[.int 0 0,.int 0 0,.ref a,.int es.size 0,.int ep 0] }).update s.heap.objs.size (Obj.mapSeq fun x=>x.push Value.none)).update s.heap.objs.size (Obj.mapSeq fun x=>x.pop)).get? b=some o:=fun b o hb M=>(AV _ _ (Ne.symm hb)).trans ((AV _ _ (Ne.symm hb)).trans M);have Z:(s.heap.push { cls:=.type "list",data:=.seq ([]:KQ KR).toArray }).objs.size≠s.heap.objs.size:=by rw[hz];exact Bt (Nat.lt_succ_self _)
 refine AB ⟨Ct zD _,?_⟩;refine xL (w:=w) (t:=t) (ep:=ep) (es:=es) (a:=a) hh (Aa O) Z (by rw[hz];exact Aa (BR O)) _ 0 _ n2 rfl (Au _) (L2.same fun o M=>I a o (Aa O) M) ⟨_,0,I _ _ Z (AR _ rfl),rfl,rfl,fun _=>vA L.T.g.ris⟩ R fun h' n' hk hD=>?_;dsimp only;refine AA (wpAny_load' hD ?_);refine AB ?_
 have:=hQ h' (fun b o M=>hk b o (Aa (AL M)) (by rw[hz];exact Aa (BR (AL M))) (I b o (Aa (AL M)) (AC _ (AC _ M)))) (DI (AL hD))
 simpa using this
end
open EX
def yL(Ks:KQ (KQ Int))(k:KQ Int):KQ (KQ Int):=if k∈Ks then Ks else Ks++[k]
def gf(Kj:KQ (KQ Int)):KQ (KQ Int):=Kj.foldl yL []
def Hy{Kj:KQ (KQ Int)}{i:Nat}(h:i<Kj.length):gf (Kj.take (i+1))=yL (gf (Kj.take i)) (Kj.getD i []):=by unfold gf;rw[Ck h,List.foldl_append,Ao,AJ h];rfl
def HG{a b:KQ (KQ Int)}{k:KQ Int}(h:a.Perm b):(if k∈a then a else a++[k]).Perm (yL b k):=by
 unfold yL;by_cases q:k∈a;rw[AE q,AE (h.mem_iff.mp q)];exact h;rw[AD q,AD (fun z=>q (h.mem_iff.mpr z))];exact h.append_right _
def j7:∀(Kj Ks:KQ (KQ Int)),(Kj.foldl yL Ks).length≤Ks.length+Kj.length
 |[],Ks=>AG _
 |k::vs,Ks=>by
  rw[DG,AO];have h:=j7 vs (yL Ks k)
  have:(yL Ks k).length≤Ks.length+1:=by
   unfold yL;split;omega;rw[Ac];exact AG _
  omega
section
variable{prog:KZ}{w:K0}{A:K1}{E:KR->KS->Prop}{R:Result->KS->Prop}
def fy.same{h h':Heap}{a:KU}{es:K3 (Int×KR)}{ep:Nat}{t:SetTable}{Kj:KQ (KQ Int)}(S:fy prog w h a es ep t Kj)(e:∀b o,(b=a∨∃ks,TK prog w h ks b)->h.get? b=some o->h'.get? b=some o):fy prog w h' a es ep t Kj:=by obtain⟨⟨o,I,M⟩,el,nd,tb⟩:=S;exact⟨⟨o,e a o (.inl rfl) I,M⟩,el.keep fun b ks k=>k.keep fun o' F=>e b o' (.inr ⟨ks,k⟩) F,nd,tb⟩
def yT{h:Heap}{b:KU}{o:Obj}(I:h.get? b=some o)(M:o.cls≠ .type "tuple"):∀ks,¬TK prog w h ks b:=fun ks ⟨o',_,_,F,O,_⟩=>by rw[I]at F;cases F;exact M O
def fy.not{h:Heap}{a:KU}{es:K3 (Int×KR)}{ep:Nat}{t:SetTable}{Kj:KQ (KQ Int)}(S:fy prog w h a es ep t Kj)(ks:KQ Int):¬TK prog w h ks a:=by obtain⟨o,F,I,_⟩:=S.ex;exact yT F (by rw[I.1];decide) ks
theorem mY{I:KU}{fp wr:KQ KU}{n:Nat}{P:Nat->KR->Prop}{St:Nat->Heap->Prop}(W:Walks prog w A.in1 I fp wr n P St)(a1:∀i h,St i h->∀b∈wr,∀ks,¬TK prog w h ks b)(hu:A.in1.units<cLine){Sa:KU}(hS:Sa∉fp){Ki:KQ KR}{Kj:KQ (KQ Int)}(hn:Ki.length=n)(h3:n≤299)(hv:∀i v,P i v->Ki[i]? = some v) :
  ∀(k i:Nat) (s:KS) (es:K3 (Int×KR)) (ep:Nat) (t:SetTable) (M:KQ (KQ Int)),n-i=k->i≤n->St i s.heap->fT prog w s.heap Ki Kj->fy prog w s.heap Sa es ep t M->(∀e∈es.toList,e.2∈Ki)->M.Perm (gf (Kj.take i)) ->
   (∀(h':Heap) (tk:Nat) (a2:K3 (Int×KR)) (a7:Nat) (t':SetTable) (a3:KQ (KQ Int)),(∀b o,b∉Sa::wr->s.heap.get? b=some o->h'.get? b=some o)->fy prog w h' Sa a2 a7 t' a3->a3.Perm (gf Kj)->(∀e∈a2.toList,e.2∈Ki)->R (.ok (.ret .none)) { s with heap:=h',toks:=tk }) ->
   codeAny (model prog w) A (.builtin "set.update.loop" ⟨[.ref Sa,.ref I],[]⟩) R s:=by
 intro k;induction k with
 |zero =>
  intro i s es ep t M hk hi U V S hE hp h
  have:i=n:=by omega
  subst this;refine BV F.entry_set_update_loop ?_;rw[Bo F.plain_set_update_loop];unfold Builtin.«set.update.loop»;refine AA (W.done _ _ _ U fun h' tk O=>?_);dsimp only;refine AB ?_;refine h h' tk es ep t M (fun b o a8=>O b o fun q=>a8 (AH _ q)) (S.same fun b o hb=>O b o fun q=>hb.elim (fun z=>hS (W.sub _ (by rw[←z];exact q))) fun⟨ks,z⟩=>a1 _ _ U b q ks z) ?_ ?_;rw[←hn,V.len,C7]at hp;exact hp;exact hE
 |succ k ih =>
  intro i s es ep t M hk hi U V S hE hp h;have a9:i<n:=by omega
  refine BV F.entry_set_update_loop ?_;rw[Bo F.plain_set_update_loop];unfold Builtin.«set.update.loop»;refine AA (W.item i _ _ _ a9 U fun v h' tk hP a4 O=>?_);obtain⟨b,hb,kb⟩:=V.get (i:=i) (by omega);have a5:=hv i v hP;have aa:v= .ref b:=by rw[Ao,a5]at hb;exact hb
  subst aa;have Y:∀c o,(∃ks,TK prog w s.heap ks c)->s.heap.get? c=some o->h'.get? c=some o:=fun c o ⟨ks,z⟩=>O c o fun q=>a1 _ _ U c q ks z;have a6:TK prog w h' (Kj.getD i []) b:=kb.keep fun o=>Y b o ⟨_,kb⟩;have S':fy prog w h' Sa es ep t M:=S.same fun c o hc=>hc.elim (fun z=>O c o fun q=>hS (W.sub _ (by rw[←z];exact q))) fun z=>Y c o z;have V':fT prog w h' Ki Kj:=V.keep Y;dsimp only;refine AA (Aq ?_);unfold setAdd;refine Aq (AA (wpAny_pyHash_tuple (s:={ s with heap:=h',toks:=tk }) hu a6 ?_));have hl:M.length+1≤300:=by
   have:=j7 (Kj.take i) []
   have e:(gf (Kj.take i)).length≤i:=by have q:=List.length_take_le i Kj;unfold gf;have z:([]:KQ (KQ Int)).length=0:=rfl;omega
   rw[hp.length_eq];omega
  refine uq (s:={ s with heap:=h',toks:=tk+((Kj.getD i []).length+1) }) hu S' a6 hl fun h2 ab ac t2 ae Z S2 af ag=>?_;refine AB ⟨Ct F.plain_set_update_loop _,?_⟩;refine ih (i+1) _ ab ac t2 ae (by omega) (by omega) (W.frame _ _ _ a4 fun b ah o ho=>by
   rw[Z.2 b (fun z=>hS (by rw[←z];exact ah))];exact ho) ?_ S2 (fun e he=>(ag e he).elim (hE e) fun z=>by rw[z];exact Ap a5) ?_ fun h3 ai aj ak t3 al hh S3 am ao=>?_
  ·exact V'.keep fun c o ⟨ks,z⟩ ho=>(Z.2 c (fun e=>S'.not ks (by rw[←e];exact z))).trans ho
  ·rw[Hy (by rw[←V.len];omega)];exact af.trans (HG hp)
  ·exact h h3 ai aj ak t3 al (fun b o a0 ho=>hh b o a0 (by
    have:b≠Sa:=fun z=>a0 (by rw[z];exact AI)
    rw[Z.2 b this];exact O b o (fun q=>a0 (AH _ q)) ho)) S3 am ao
def nK{h:Heap}{led:Bool}(F:led= !gg w):fy prog w (h.push { cls:=.type "set",data:=.set #[] 0 (SetTable.fresh 0 0 led) }) h.objs.size #[] 0 (SetTable.fresh 0 0 led) [] :=
 ⟨⟨_,AR _ rfl,⟨rfl,rfl,rfl⟩,rfl⟩,.nil,Cj,⟨⟨rfl,rfl,fun i k _ I=>absurd I (BP _),fun j M=>(Ak M).elim,Au _⟩,fun q O=>(Ak O).elim,.inl ⟨rfl,Au _⟩,F,rfl⟩⟩
theorem FZ{s:KS}{l:KU}{items:K3 KR}{Kj:KQ (KQ Int)}{Q:KR->KS->Prop}(hh:A.handled=none)(hu:A.units+8<cLine)(hl:s.heap.IsList l items)(V:fT prog w s.heap items.toList Kj)(h3:Kj.length≤299)
  (h:∀(h':Heap) (tk:Nat) (M:K3 (Int×KR)) (U:Nat) (t':SetTable) (O:KQ (KQ Int)),fy prog w h' s.heap.objs.size M U t' O->O.Perm (gf Kj)->(∀e∈M.toList,e.2∈items.toList)->(∀b o,b<s.heap.objs.size->s.heap.get? b=some o->h'.get? b=some o)->Q (.ref s.heap.objs.size) { s with heap:=h',toks:=tk }) :
  wpAny (model prog w) A (call (.type "set") [.ref l]) Q E s:=by
 refine Cv (codeAny_of_tree (Ar (a:=Fin.again (.builtin "type.__call__" ⟨[.type "set",.ref l],[]⟩)) rfl ⟨Code.quiet_builtin _ (by decide +kernel),?_⟩));refine BV F.entry_type_call ?_;rw[Around.under_plain (weight_type_call_type _ _ _) rfl];unfold Builtin.«type.__call__»;dsimp only;rw[AD (by rw[F.called_set.notType];decide),AD (by rw[F.called_set.canCreate];decide)];refine AA (Ar (F.typeCall_set_1 _) ?_);obtain⟨c,tl,hm⟩:=F.called_set.mro;refine AA (Ar hm ?_);rw[AD (by simp)];refine AA (Ar F.called_set.made ?_);dsimp only;refine AA (AB (AA (Aq (Cv (nI ?_)))));have hT:({ s with heap:=s.heap.push { cls:=.type "set",data:=.set #[] 0 (SetTable.fresh 0 0 (!gg w)) } }:KS).TypeIs (.ref s.heap.objs.size) "set" :=⟨_,AR _ rfl,rfl⟩;refine AA (BL hT sub_set_self ?_);rw[AD (by decide)];refine AA (Aq ?_);unfold callSpecial?;refine AA (DF hT F.called_set.init.lookup ?_);dsimp only;refine Aq (AA (Ar (F.called_set.init.bind _) ?_));dsimp only;refine AA (Cv (C6 F.called_set.init.plain F.entry_set_init (check_set_init_1 hT ?_)));unfold Builtin.«set.__init__»;refine AA (Ar (a:=()) rfl ?_);show wpAny _ _ (do
  let n ← typeNameOfCut 200 (.ref s.heap.objs.size)
  checkCount n 0 1 1
  let a ← Builtin.Frozenset.addrOf (.ref s.heap.objs.size);let u ← setUsed a
  if u=true then do
   Builtin.Frozenset.clearAll a
   Builtin.Frozenset.updateFrom "set.__init__" a (.ref l)
   ret Value.none
  else do
   Builtin.Frozenset.updateFrom "set.__init__" a (.ref l)
   ret Value.none) _ _ _
 unfold typeNameOfCut shownTypeOf;refine AA (AA (AA (Bp hT ?_)));rw[AD (by decide)];refine AB (Ar (a := "set") (by rfl) ?_);refine AA (Ar (a:=()) rfl ?_);refine AA (Ar (a:=s.heap.objs.size) rfl ?_);unfold setUsed;have hg:(s.heap.push { cls:=.type "set",data:=.set #[] 0 (SetTable.fresh 0 0 (!gg w)) }).get? s.heap.objs.size=some { cls:=.type "set",data:=.set #[] 0 (SetTable.fresh 0 0 (!gg w)) }:=AR _ rfl;refine AA (AA (BF hg rfl rfl (AB ?_)));rw[AD (by intro q;exact Bool.noConfusion (show false=true from q))];refine AA ?_;unfold Builtin.Frozenset.updateFrom Builtin.Frozenset.isAnySet;have I:(s.heap.push { cls:=.type "set",data:=.set #[] 0 (SetTable.fresh 0 0 (!gg w)) }).IsList l items:=hl.push _;refine AA (AA (BL (T := "list") I.typeIs F.sub_list_set ?_));show wpAny _ _ (isInstance (.ref l) (.type "frozenset")) _ _ _;refine BL (T := "list") I.typeIs F.sub_list_frozenset ?_;rw[AD (by decide)];refine AA (Bp (T := "list") I.typeIs ?_);rw[AD (by decide)];refine AA (wpAny_pyIter_list I (AA (DM ?_)));have Z:l<s.heap.objs.size:=by obtain⟨o,R,_⟩:=hl;exact AL R
 have hS:=nK (prog:=prog) (w:=w) (h:=s.heap) (led:= !gg w) rfl;have Y:(s.heap.push { cls:=.type "set",data:=.set #[] 0 (SetTable.fresh 0 0 (!gg w)) }).objs.size=s.heap.objs.size+1:=B7 ..;have a3:items.size=Kj.length:=by rw[←V.len,AW]
 refine mY (A:=A.in1.in1) (Walks.list (A:=A.in1.in1.in1) hh (s.heap.push { cls:=.type "set",data:=.set #[] 0 (SetTable.fresh 0 0 (!gg w)) }).objs.size l (by rw[Y];exact Aa (BR Z)) items) (fun i h' a1 b hb ks=>by
  rw[Af.mp hb];obtain⟨o,R,hc,_⟩:=a1.1;exact yT R (by rw[hc];decide) ks) (by show A.units+3<cLine;omega) (Sa:=s.heap.objs.size) (by
  rw[Y];intro q;rcases AK.mp q with q|q
  ·exact absurd q (by show ¬s.heap.objs.size=s.heap.objs.size+1;omega)
  ·have:=Af.mp q;exact absurd Z (by rw[←this];exact Bw _)) (Ki:=items.toList) (Kj:=Kj) (by rw[AW]) (by omega) (fun i v hi=>by rw[A5];exact hi) _ 0 _ #[] 0 _ [] rfl (Au _) ⟨⟨_,AR _ rfl,rfl,rfl⟩,I.push _⟩ (V.keep fun b o _ R=>AC _ (AC _ R)) (hS.same fun b o _ R=>AC _ R) (fun e he=>(Ak he).elim) (by rw[List.take_zero];exact .refl _) fun h' tk M U t' O hk S' hp a2=>?_
 refine AB (AB ?_);refine AB ?_;dsimp only;rw[AD (by decide)];refine AB ?_;refine h h' tk M U t' O S' hp a2 fun b o a0 R=>hk b o (fun q=>?_) (AC _ (AC _ R));rw[Y]at q;rcases AK.mp q with q|q
 ·exact absurd a0 (by rw[q];exact Bw _)
 ·have:=Af.mp q;exact absurd a0 (by rw[this];exact Nat.not_lt_of_le (DD _))
theorem HN{s:KS}{l:KU}{items:K3 KR}{Kj:KQ (KQ Int)}{Q:KR->KS->Prop}(hh:A.handled=none)(hu:A.units+8<cLine)(hl:s.heap.IsTuple l items)(V:fT prog w s.heap items.toList Kj)(h3:Kj.length≤299)
  (h:∀(h':Heap) (tk:Nat) (M:K3 (Int×KR)) (U:Nat) (t':SetTable) (O:KQ (KQ Int)),fy prog w h' s.heap.objs.size M U t' O->O.Perm (gf Kj)->(∀e∈M.toList,e.2∈items.toList)->(∀b o,b<s.heap.objs.size->s.heap.get? b=some o->h'.get? b=some o)->Q (.ref s.heap.objs.size) { s with heap:=h',toks:=tk }) :
  wpAny (model prog w) A (call (.type "set") [.ref l]) Q E s:=by
 refine Cv (codeAny_of_tree (Ar (a:=Fin.again (.builtin "type.__call__" ⟨[.type "set",.ref l],[]⟩)) rfl ⟨Code.quiet_builtin _ (by decide +kernel),?_⟩));refine BV F.entry_type_call ?_;rw[Around.under_plain (weight_type_call_type _ _ _) rfl];unfold Builtin.«type.__call__»;dsimp only;rw[AD (by rw[F.called_set.notType];decide),AD (by rw[F.called_set.canCreate];decide)];refine AA (Ar (F.typeCall_set_1 _) ?_);obtain⟨c,tl,hm⟩:=F.called_set.mro;refine AA (Ar hm ?_);rw[AD (by simp)];refine AA (Ar F.called_set.made ?_);dsimp only;refine AA (AB (AA (Aq (Cv (nI ?_)))));have hT:({ s with heap:=s.heap.push { cls:=.type "set",data:=.set #[] 0 (SetTable.fresh 0 0 (!gg w)) } }:KS).TypeIs (.ref s.heap.objs.size) "set" :=⟨_,AR _ rfl,rfl⟩;refine AA (BL hT sub_set_self ?_);rw[AD (by decide)];refine AA (Aq ?_);unfold callSpecial?;refine AA (DF hT F.called_set.init.lookup ?_);dsimp only;refine Aq (AA (Ar (F.called_set.init.bind _) ?_));dsimp only;refine AA (Cv (C6 F.called_set.init.plain F.entry_set_init (check_set_init_1 hT ?_)));unfold Builtin.«set.__init__»;refine AA (Ar (a:=()) rfl ?_);show wpAny _ _ (do
  let n ← typeNameOfCut 200 (.ref s.heap.objs.size)
  checkCount n 0 1 1
  let a ← Builtin.Frozenset.addrOf (.ref s.heap.objs.size);let u ← setUsed a
  if u=true then do
   Builtin.Frozenset.clearAll a
   Builtin.Frozenset.updateFrom "set.__init__" a (.ref l)
   ret Value.none
  else do
   Builtin.Frozenset.updateFrom "set.__init__" a (.ref l)
   ret Value.none) _ _ _
 unfold typeNameOfCut shownTypeOf;refine AA (AA (AA (Bp hT ?_)));rw[AD (by decide)];refine AB (Ar (a := "set") (by rfl) ?_);refine AA (Ar (a:=()) rfl ?_);refine AA (Ar (a:=s.heap.objs.size) rfl ?_);unfold setUsed;have hg:(s.heap.push { cls:=.type "set",data:=.set #[] 0 (SetTable.fresh 0 0 (!gg w)) }).get? s.heap.objs.size=some { cls:=.type "set",data:=.set #[] 0 (SetTable.fresh 0 0 (!gg w)) }:=AR _ rfl;refine AA (AA (BF hg rfl rfl (AB ?_)));rw[AD (by intro q;exact Bool.noConfusion (show false=true from q))];refine AA ?_;unfold Builtin.Frozenset.updateFrom Builtin.Frozenset.isAnySet;have I:(s.heap.push { cls:=.type "set",data:=.set #[] 0 (SetTable.fresh 0 0 (!gg w)) }).IsTuple l items:=hl.push _;refine AA (AA (BL (T := "tuple") I.typeIs F.sub_tuple_set ?_));show wpAny _ _ (isInstance (.ref l) (.type "frozenset")) _ _ _;refine BL (T := "tuple") I.typeIs F.sub_tuple_frozenset ?_;rw[AD (by decide)];refine AA (Bp (T := "tuple") I.typeIs ?_);rw[AD (by decide)];refine AA (wpAny_pyIter_tuple I (AA (DM ?_)));have Z:l<s.heap.objs.size:=by obtain⟨o,R,_⟩:=hl;exact AL R
 have hS:=nK (prog:=prog) (w:=w) (h:=s.heap) (led:= !gg w) rfl;have Y:(s.heap.push { cls:=.type "set",data:=.set #[] 0 (SetTable.fresh 0 0 (!gg w)) }).objs.size=s.heap.objs.size+1:=B7 ..;have a3:items.size=Kj.length:=by rw[←V.len,AW]
 refine mY (A:=A.in1.in1) (Walks.tuple (A:=A.in1.in1.in1) hh (s.heap.push { cls:=.type "set",data:=.set #[] 0 (SetTable.fresh 0 0 (!gg w)) }).objs.size l (by rw[Y];exact Aa (BR Z)) items) (fun i h' a1 b hb ks=>by
  rw[Af.mp hb];obtain⟨o,R,hc,_⟩:=a1.1;exact yT R (by rw[hc];decide) ks) (by show A.units+3<cLine;omega) (Sa:=s.heap.objs.size) (by
  rw[Y];intro q;rcases AK.mp q with q|q
  ·exact absurd q (by show ¬s.heap.objs.size=s.heap.objs.size+1;omega)
  ·have:=Af.mp q;exact absurd Z (by rw[←this];exact Bw _)) (Ki:=items.toList) (Kj:=Kj) (by rw[AW]) (by omega) (fun i v hi=>by rw[A5];exact hi) _ 0 _ #[] 0 _ [] rfl (Au _) ⟨⟨_,AR _ rfl,rfl,rfl⟩,I.push _⟩ (V.keep fun b o _ R=>AC _ (AC _ R)) (hS.same fun b o _ R=>AC _ R) (fun e he=>(Ak he).elim) (by rw[List.take_zero];exact .refl _) fun h' tk M U t' O hk S' hp a2=>?_
 refine AB (AB ?_);refine AB ?_;dsimp only;rw[AD (by decide)];refine AB ?_;refine h h' tk M U t' O S' hp a2 fun b o a0 R=>hk b o (fun q=>?_) (AC _ (AC _ R));rw[Y]at q;rcases AK.mp q with q|q
 ·exact absurd a0 (by rw[q];exact Bw _)
 ·have:=Af.mp q;exact absurd a0 (by rw[this];exact Nat.not_lt_of_le (DD _))
end
end ET
end
section
namespace ET
open PySem PySem.Spec PyProof.Rows L2 PySem.W
open EX
section
variable{prog:KZ}{w:K0}{A:K1}{E:KR->KS->Prop}{s:KS}
def fT.pick{h:Heap}{vs:KQ KR}{Kj:KQ (KQ Int)}(e:fT prog w h vs Kj)(F:∀ks∈Kj,ks≠[]):∀(l:KQ Nat),(∀i∈l,i<vs.length)->fT prog w h (l.map fun i=>vs.getD i Value.none) (l.map fun i=>Kj.getD i [])
 |[],_=>.nil
 |i::l,I=>by
  have hi:=I i AI;obtain⟨b,O,R⟩:=e.get hi;rw[AM,AM,O];refine .cons R ?_ (e.pick F l fun j U=>I j (AH _ U));have M:i<Kj.length:=by rw[←e.len];exact hi
  refine F _ ?_;rw[Ao,AJ M];exact DA M
def fT.ne{h:Heap}{vs:KQ KR}{Kj:KQ (KQ Int)}(e:fT prog w h vs Kj):∀ks∈Kj,ks≠[]:=by
 induction e with
 |nil=>intro ks F;cases F
 |cons _ ne _ I =>
  intro ks F;rcases AK.mp F with q|q
  ·rw[q];exact ne
  ·exact I ks q
def PB.mem{n:Nat}{p:K3 Nat}(B:PB n p):∀i∈p.toList,i<n:=fun i hi=>by
 have:=(Cc.mp B.perm).mem_iff.mp hi
 simpa using this
def IB{a:KU}{vs:KQ KR}{Kj:KQ (KQ Int)}{n:Nat}{P:PySem.Fin->KS->Prop}(hu:A.units<cLine)(I:s.heap.get? a=some (seqObj "list" vs.toArray n))(V:fT prog w s.heap vs Kj)(h64:vs.length<64)
  (h:∀out:KQ KR,(∀v∈out,v∈vs)->out.length=vs.length->fT prog w s.heap out (fm Kj)->P (.done (.ret .none)) { s with heap:=sortedHeap s.heap a vs out.toArray }) :
  wpAny (model prog w) A (Builtin.«list.sort» ⟨[.ref a],[]⟩) P E s:=by
 have F:∀b,(∃ks,TK prog w s.heap ks b)->b≠a:=fun b ⟨ks,k⟩ z=>yT I (show Value.type "list" ≠ Value.type "tuple" by decide) ks (by rw[←z];exact k);refine p6 (O:=iJ) (Ko:=fun i=>Kj.getD i []) (κ:=tuples' true) I h64 (fun Y M Q k q=>?_) (fun M i j C k hi Z q=>?_) fun p B S=>?_;exact mO (s:={ s with heap:=M }) (V.keep fun b o z I=>k b o (F b z) I) Y q;obtain⟨b,e1,R⟩:=V.get hi;obtain⟨c,e2,U⟩:=V.get Z;rw[e1,e2];exact pP (s:={ s with heap:=M }) (R.keep fun o=>k b o (F b ⟨_,R⟩)) (U.keep fun o=>k c o (F c ⟨_,U⟩)) q
 ·have:=V.pick V.ne p.toList B.mem
  rw[nj V B S]at this;refine h _ (fun v hv=>?_) (by rw[AF,AW,B.size]) this;obtain⟨i,hi,rfl⟩:=AZ.mp hv;have hi:=B.mem i hi;rw[Ao,AJ hi];exact DA hi
def FY{a:KU}{es:K3 (Int×KR)}{ep:Nat}{t:SetTable}{Kj:KQ (KQ Int)}{Ki:KQ KR}{Q:KR->KS->Prop}(hh:A.handled=none)(hu:A.units+8<cLine)(S:fy prog w s.heap a es ep t Kj)(hn:Kj.length<64)(a2:∀ks∈Kj,ks≠[])(hE:∀e∈es.toList,e.2∈Ki)
  (h:∀(h':Heap) (D:KU) (out:KQ KR) (e:Nat),s.heap.objs.size≤D->h'.get? D=some (seqObj "list" out.toArray e)->fT prog w h' out (fm Kj)->out.length=Kj.length->(∀v∈out,v∈Ki)->(∀b o,s.heap.get? b=some o->h'.get? b=some o)->Q (.ref D) { s with heap:=h' }) :
  wpAny (model prog w) A (call (.builtin "sorted") [.ref a]) Q E s:=by
 have a3:es.size=Kj.length:=by rw[←S.el.len,AW]
 have L:fM w s.heap a es ep t:=⟨S.ex,S.tb,by omega⟩;refine Calls.call_function_entry kind_sorted plain_sorted entry_sorted (args_sorted1 _) ?_;unfold Builtin.sorted;refine AA (Ar (a:=()) rfl ?_);refine AA (Du (A:=A.in1) hh L fun M Z a4=>?_);have O:=oM (w:=w) (a:=a) (ep:=ep) (es:=es);have a0:((wb w a ep es).toList.map (·.2)).length=Kj.length:=by rw[AF,AW,zc,a3]
 obtain⟨F,q2,E2⟩:=S.el.perm O.symm;have V1:fT prog w M ((wb w a ep es).toList.map (·.2)) F:=by
  have a1:∀ks∈F,ks≠[]:=fun ks hk=>a2 ks (q2.mem_iff.mpr hk)
  have:∀{l:KQ (Int×KR)} {k:KQ (KQ Int)},gm prog w s.heap l k->(∀ks∈k,ks≠[])->fT prog w M (l.map (·.2)) k:=by
   intro l k e;induction e with|nil=>intro _;exact .nil|cons a _ ih=>intro hn;exact .cons (a.keep fun o=>Z _ o) (hn _ AI) (ih fun ks hk=>hn ks (AH _ hk))
  exact this E2 a1
 refine AA (CH ?_ (Ab (Nat.le_of_eq a0) (by rw[Bk];omega)));have hD:(M.push { cls:=.type "list",data:=.seq ((wb w a ep es).toList.map (·.2)).toArray }).get? M.objs.size=some (seqObj "list" ((wb w a ep es).toList.map (·.2)).toArray 0):=AR _ rfl;refine AA (Aq (As slot_list_sort ⟨_,hD,rfl⟩ entry_list_sort ?_ (args_list_sort _)));refine IB (s:={ s with heap:=M.push { cls:=.type "list",data:=.seq ((wb w a ep es).toList.map (·.2)).toArray } }) (by show A.units+2<cLine;omega) hD (V1.keep fun b o _ Y=>AC _ Y) (by omega) fun out a5 a9 V2=>⟨_,rfl,?_⟩;refine AB ⟨_,rfl,?_⟩;obtain⟨e,he⟩:=sortedHeap_at (vs:=(wb w a ep es).toList.map (·.2)) (out:=out.toArray) hD;have R:∀b o,b≠M.objs.size->(M.push { cls:=.type "list",data:=.seq ((wb w a ep es).toList.map (·.2)).toArray }).get? b=some o->b<M.objs.size->(sortedHeap (M.push { cls:=.type "list",data:=.seq ((wb w a ep es).toList.map (·.2)).toArray }) M.objs.size ((wb w a ep es).toList.map (·.2)) out.toArray).get? b=some o:=fun b o hb Y I=>by
  rw[sortedHeap_old hb (by rw[B7];exact BR I)];exact Y
 have a6:fm F=fm Kj:=Yg (Wx _) (Wx _) (((QO F).trans q2.symm).trans (QO Kj).symm);refine h _ _ out e a4 he ?_ (by omega) (fun v hv=>?_) fun b o' hb=>?_
 ·rw[←a6];refine V2.keep fun b o ⟨ks,k⟩ Y=>R b o (fun z=>yT hD (show Value.type "list" ≠ Value.type "tuple" by decide) ks (by rw[←z];exact k)) Y ?_;have I:=AL Y;have a7:b≠M.objs.size:=fun z=>yT hD (show Value.type "list" ≠ Value.type "tuple" by decide) ks (by rw[←z];exact k);rw[B7]at I;have I:b<M.objs.size+1:=I;exact Nat.lt_of_le_of_ne (C1 I) a7
 ·obtain⟨e',a8,rfl⟩:=AZ.mp (a5 v hv);exact hE e' (O.mem_iff.mp a8)
 ·have U:=Z b o' hb;exact R b o' (Aa (AL U)) (AC _ U) (AL U)
end
inductive gS (K:W.Frag) (H:Hp):List V->List (List Int)->Prop
 |nil:gS K H [] []
 |cons {a:Addr} {ks:List Int} {xs:List V} {Kj:List (List Int)}:fA K H a (ks.map V.int)->ks≠[]->gS K H xs Kj->gS K H (.ref a::xs) (ks::Kj)
section
variable{X:Cx}{Kf:KQ (KU×Obj)}{σ:L2.St}{H:Hp}{s:KS}
def pg{prog:KZ}{w:K0}:∀{ks:KQ Int} {Ki:KQ KR},Vals (ks.map V.int) Ki->ItemsAre (intKind prog w) ks Ki
 |[],Ki,h=>by
  cases Ki with|nil=>exact .nil|cons u us=>cases h
 |k::ks,Ki,h=>by
  rw[AM]at h;cases h with|cons r t=>obtain⟨F,rfl⟩:=(show ∃t,_=Value.int k t from r);exact .cons (intKind_is prog w k F) (pg t)
def kS(I:L2.Inv X Kf σ H s){a:KU}{ks:KQ Int}(h:fA X.K H a (ks.map V.int)):TK X.prog X.w s.heap ks a:=by obtain⟨Ki,F,⟨o,M,O,n,R⟩,U⟩:=I.tuple h;exact⟨o,Ki.toArray,n,M,O,R,pg F⟩
def JJ(I:L2.Inv X Kf σ H s){xs:KQ V}{Kj:KQ (KQ Int)}(h:gS X.K H xs Kj):∀{Ki:KQ KR},Vals xs Ki->fT X.prog X.w s.heap Ki Kj:=by
 induction h with
 |nil=>intro Ki F;cases F;exact .nil
 | @cons a ks xs Kj M ne _ O =>
  intro Ki F;cases F with|cons r t=>obtain rfl:=(show _=Value.ref a from r);exact .cons (kS I M) ne (O t)
def gS.mem{xs:KQ V}{Kj:KQ (KQ Int)}(h:gS X.K H xs Kj):∀x∈xs,∃a ks,x= .ref a∧fA X.K H a (ks.map V.int)∧ks≠[]:=by
 induction h with
 |nil=>intro x F;cases F
 |cons I ne _ M =>
  intro x F;rcases AK.mp F with q|q
  ·exact⟨_,_,q,I,ne⟩
  ·exact M x q
def D7{xs:KQ V}{Ki:KQ KR}(h:Vals xs Ki):∀b,Value.ref b∈Ki->(∀x∈xs,∃a,x=V.ref a)->V.ref b∈xs:=by
 induction h with
 |nil=>intro b F;cases F
 | @cons x u xs us r t M =>
  intro b F I;obtain⟨a,rfl⟩:=I _ AI;obtain rfl:=(show u=Value.ref a from r);rcases AK.mp F with q|q
  ·cases q;exact AI
  ·exact AH _ (M b q fun y O=>I y (AH _ O))
def gS.zip{xs:KQ V}{Kj:KQ (KQ Int)}(h:gS X.K H xs Kj):∀a,V.ref a∈xs->∃ks,(V.ref a,ks)∈xs.zip Kj∧fA X.K H a (ks.map V.int):=by
 induction h with
 |nil=>intro a F;cases F
 | @cons b ks xs Kj I ne _ M =>
  intro a F;rw[Bl];rcases AK.mp F with q|q
  ·cases q;exact⟨ks,AI,I⟩
  ·obtain⟨ks,O,R⟩:=M a q;exact⟨ks,AH _ O,R⟩
def sv(I:L2.Inv X Kf σ H s){xs:KQ V}{F:KQ (KQ Int)}(T:gS X.K H xs F){Ki:KQ KR}(U:Vals xs Ki){h':Heap}(Y:∀b o,s.heap.get? b=some o->h'.get? b=some o) :
  ∀{out:KQ KR} {Kj:KQ (KQ Int)},fT X.prog X.w h' out Kj->(∀v∈out,v∈Ki)->∃L:KQ (V×KQ Int),L.map (·.2)=Kj∧Vals (L.map (·.1)) out∧∀q∈L,q∈xs.zip F:=by
 intro out Kj V;induction V with
 |nil=>intro _;exact⟨[],rfl,.nil,fun y O=>(Ak O).elim⟩
 | @cons ks b vs Kj k ne _ Z =>
  intro M;obtain⟨L,h1,h2,h3⟩:=Z fun v hv=>M v (AH _ hv);have hm:=D7 U b (M _ AI) fun x hx=>by obtain⟨a,_,e,_⟩:=T.mem x hx;exact⟨a,e⟩
  obtain⟨R,hz,hs⟩:=T.zip b hm;have k2:TK X.prog X.w h' R b:=(kS I hs).keep fun o=>Y b o
  have:=k.inj k2
  subst this;exact⟨(.ref b,ks)::L,by rw[AM,h1],.cons rfl h2,fun y O=>(AK.mp O).elim (fun z=>by rw[z];exact hz) (h3 y)⟩
end
section
variable{X:Cx}{e:K2}{te:TE}{p p2 pos Kx:Pos}
def pY:∀{Kj Ks:KQ (KQ Int)},∀x∈Kj.foldl yL Ks,x∈Ks∨x∈Kj
 |[],Ks,x,h=>.inl h
 |k::Kj,Ks,x,h=>by
  rw[DG]at h;rcases pY x h with q|q
  ·unfold yL at q;split at q;exact .inl q
   ·rcases At.mp q with q|q
    ·exact .inl q
    ·exact .inr (by rw[Af.mp q];exact AI)
  ·exact .inr (AH _ q)
def G0(K:KY)(te:TE):TE:=fun σ H Q=>te σ H fun x H1=>∃a xs Kj,x= .ref a∧(fq K H1 a xs∨fA K H1 a xs)∧gS K H1 xs Kj∧Kj.length≤299∧(gf Kj).length<64∧∀p (L:KQ (V×KQ Int)),H1 p=none->(∀q∈L,q∈xs.zip Kj)->L.map (·.2)=fm (gf Kj)->Q (.ref p) (dW H1 p (.lst (L.map (·.1))))
def GF{A:K1}{E:KR->KS->Prop}{Kf:KQ (KU×Obj)}{σ:L2.St}{H:Hp}{s:KS}{Q:KR->KS->Prop}{a:KU}{xs:KQ V}{Kj:KQ (KQ Int)}(I:L2.Inv X Kf σ H s)(hh:A.handled=none)(hu:A.units+8<cLine)(hq:fq X.K H a xs∨fA X.K H a xs)(T:gS X.K H xs Kj)(h3:Kj.length≤299)
  (h:∀(Ki:KQ KR) (h':Heap) (R:Nat) (F:K3 (Int×KR)) (O:Nat) (t':SetTable) (M:KQ (KQ Int)),Vals xs Ki->fy X.prog X.w h' s.heap.objs.size F O t' M->M.Perm (gf Kj)->(∀e∈F.toList,e.2∈Ki)->(∀b o,b<s.heap.objs.size->s.heap.get? b=some o->h'.get? b=some o)->Q (.ref s.heap.objs.size) { s with heap:=h',toks:=R }) :
  wpAny (model X.prog X.w) A (call (.type "set") [.ref a]) Q E s:=by
 rcases hq with hq|hq
 ·obtain⟨Ki,U,Y,hz⟩:=I.list hq;exact FZ hh hu Y.isList (by simpa using JJ I T U) h3 fun h' R F O t' M S Z hE hk=>h Ki h' R F O t' M U S Z (by simpa using hE) hk
 ·obtain⟨Ki,U,Y,hz⟩:=I.tuple hq;exact HN hh hu Y (by simpa using JJ I T U) h3 fun h' R F O t' M S Z hE hk=>h Ki h' R F O t' M U S Z (by simpa using hE) hk
def ue(hc:X.calm=true)(hu:X.A.units+64<cLine)(hg:Gl X "sorted")(hm:X.mg "sorted" = none)(a1:Gl X "set")(a2:X.mg "set" = none)(he:PE X e te)
  (h1:starEach [.Call (.Name "set" p2) [e] [] Kx] X.env=(false,eval (.Call (.Name "set" p2) [e] [] Kx) X.env)::starEach [] X.env:=by rfl) (h2:starEach [e] X.env=(false,eval e X.env)::starEach [] X.env:=by rfl) :
  PE X (.Call (.Name "sorted" p) [.Call (.Name "set" p2) [e] [] Kx] [] pos) (G0 X.K te):=by
 intro Kf s σ H Q I h;refine Bv (zL I hg hm PyProof.Rows.boot_sorted ?_ (by decide) (by decide));refine CB ?_ h1 rfl;rw[h1];show wpAny _ _ (spliced ((false,eval (.Call (.Name "set" p2) [e] [] Kx) X.env)::[])) _ _ s;refine Bu ?_;refine Bv (zL I a1 a2 PyProof.Rows.Boot.«set» ?_ (by decide) (by decide));refine B2 ?_ h2 rfl;rw[h2];show wpAny _ _ (spliced ((false,eval e X.env)::[])) _ _ s;refine Bu (eE (he Kf s σ H _ I h) fun u s1 ⟨x,H1,M,r1,q1⟩=>CG ?_);obtain⟨a,xs,Kj,rfl,hq,T,h3,h64,q⟩:=q1;cases r1;have hh:X.A.handled=none:=I.ok.hd hc;refine GF M hh (by omega) hq T h3 fun Ki h' tk a9 aa t' F rv S hp hE hk=>CG ?_;have a3:∀ks∈F,ks≠[]:=fun ks a4=>by
  rcases pY ks (hp.mem_iff.mp a4) with z|z
  ·cases z
  ·exact (JJ M T rv).ne ks z
 refine FY (s:={ s1 with heap:=h',toks:=tk }) hh (by omega) S (by rw[hp.length_eq];exact h64) a3 hE fun h3 D out e' hD a5 V a6 a7 O=>?_;have es:fm F=fm (gf Kj):=Yg (Wx _) (Wx _) (((QO F).trans hp).trans (QO _).symm);rw[es]at V;have a8:s1.heap.objs.size≤h'.objs.size:=by obtain⟨o,ho,_⟩:=S.ex;exact DI (AL ho)
 have R:s1.heap.objs.size≤D:=Ab a8 hD;obtain⟨L,lk,U,Y⟩:=sv M T rv (h':=h3) (fun b Z hb=>O b Z (hk b Z (AL hb) hb)) V a7;have a0:(L.map (·.1)).length≤sizeLine:=by rw[U.length,a6,hp.length_eq,Bk];omega
 refine⟨.ref D,_,M.laid (t':=tk) (h':=h3) (o:=.lst (L.map (·.1))) (fun b Z hb=>O b Z (hk b Z (AL hb) hb)) R ⟨a0,out,e',U,by simpa using a5⟩,rfl,q _ L (M.hok.fresh R) Y lk⟩
def xb(K:KY)(te:TE):TE:=fun σ H Q=>te σ H fun x H1=>∃a xs Kj,x= .ref a∧(fq K H1 a xs∨fA K H1 a xs)∧gS K H1 xs Kj∧Kj.length<64∧∀p (L:KQ (V×KQ Int)),H1 p=none->(∀q∈L,q∈xs.zip Kj)->L.map (·.2)=fm Kj->Q (.ref p) (dW H1 p (.lst (L.map (·.1))))
def uE(hu:X.A.units+64<cLine)(hg:Gl X "sorted")(hm:X.mg "sorted" = none)(he:PE X e te)(h1:starEach [e] X.env=(false,eval e X.env)::starEach [] X.env:=by rfl) :
  PE X (.Call (.Name "sorted" p) [e] [] pos) (xb X.K te):=by
 intro Kf s σ H Q I h;refine Bv (zL I hg hm PyProof.Rows.boot_sorted ?_ (by decide) (by decide));refine CB ?_ h1 rfl;rw[h1];show wpAny _ _ (spliced ((false,eval e X.env)::[])) _ _ s;refine Bu (eE (he Kf s σ H _ I h) fun u s1 ⟨x,H1,F,r1,q1⟩=>CG ?_);obtain⟨a,xs,Kj,rfl,hq,T,h64,q⟩:=q1;cases r1;obtain⟨Ki,M,R⟩:∃Ki,Vals xs Ki∧(Ki.length<64->∀{E':KR->KS->Prop} {Q':KQ KR->KS->Prop},Q' Ki { s1 with heap:=(s1.heap.push (seqObj "list" #[] 0)).update s1.heap.objs.size (Obj.mapSeq (· ++ Ki.toArray)) }->wpAny (model X.prog X.w) X.A.in1 (collect (.ref a)) Q' E' s1):=by
  rcases hq with hq|hq
  ·obtain⟨Ki,M,ht,_⟩:=F.list hq;exact⟨Ki,M,fun h _ _ q=>collect_list ht.isList q (by rw[Bk];omega)⟩
  ·obtain⟨Ki,M,ht,_⟩:=F.tuple hq;exact⟨Ki,M,fun h _ _ q=>yt ht (by rw[Bk];omega) q⟩
 have V:=JJ F T M;have hl:=V.len;refine ja (O:=iJ) (Ko:=fun i=>Kj.getD i []) (κ:=tuples' true) (s:=s1) (vs:=Ki) (R (by omega)) (by omega) (fun h2 A' E' h6 Q' k q'=>mO (s:={ s1 with heap:=h6 }) (V.keep fun b o _ ho=>k b o ho) h2 q') (fun h6 i j C k hi hj q'=>?_) fun pp B S=>?_;obtain⟨b,e1,k1⟩:=V.get hi;obtain⟨c,e2,k2⟩:=V.get hj;rw[e1,e2];exact pP (s:={ s1 with heap:=h6 }) (k1.keep fun o=>k b o) (k2.keep fun o=>k c o) q'
 ·have V2:=V.pick V.ne pp.toList B.mem;rw[nj V B S]at V2;have keep:∀b o,s1.heap.get? b=some o->(sortedAll s1.heap Ki (List.toArray (pp.toList.map fun i=>Ki.getD i Value.none))).get? b=some o:=fun b o hb=>sortedAll_old hb;obtain⟨L,lk,U,Y⟩:=sv F T M keep (V2.keep fun b o _ ho=>keep b o ho) fun v hv=>by obtain⟨i,hi,rfl⟩:=AZ.mp hv;have hi:=B.mem i hi;rw[Ao,AJ hi];exact DA hi
  obtain⟨e',a0⟩:=sortedAll_at s1.heap Ki (List.toArray (pp.toList.map fun i=>Ki.getD i Value.none));have Z:(L.map (·.1)).length≤sizeLine:=by rw[U.length,AF,AW,B.size,Bk];omega
  refine⟨.ref (s1.heap.objs.size+1),_,F.laid (t':=s1.toks) (o:=.lst (L.map (·.1))) keep (DD _) ⟨Z,_,e',U,a0⟩,rfl,q _ L (F.hok.fresh (DD _)) Y lk⟩
end
open EX
end ET
namespace EV
open PySem PySem.Spec PyProof.Rows L2 EX ET
def YF:PV->KW (KQ Int)| .tup (p::l)=>QV YN (p::l)|_=>none
def wL(ks:KQ Int):PV:=.tup (ks.map PV.int)
section
variable{K:KY}{H:Hp}{b:Bz}
def Ix{p:PV}{v:V}{ks:KQ Int}(r:RV K H b p v)(h:YF p=some ks):∃a,v= .ref a∧fA K H a (ks.map V.int)∧ks≠[]∧RV K H b (wL ks) v:=by
 unfold YF at h;split at h
 ·rename_i p l;have M:=r;unfold RV at r;obtain⟨a,xs,rfl,F,I⟩:=r;have e:=yD I h;subst e;refine⟨a,rfl,F.sq,?_,?_⟩
  ·intro z;subst z
   have:=I.length
   simp at this
  ·unfold wL RV;exact⟨a,ks.map V.int,rfl,F,za ks⟩
 ·cases h
def mj:∀{l:KQ PV} {xs:KQ V} {Kj:KQ (KQ Int)},dS K H b l xs->QV YF l=some Kj->gS K H xs Kj∧∀q∈xs.zip Kj,RV K H b (wL q.2) q.1
 |[],xs,Kj,r,h=>by unfold dS at r;subst r;cases h;exact⟨.nil,fun q F=>(Ak F).elim⟩
 |p::l,xs,Kj,r,h=>by
  unfold dS at r;obtain⟨x,t,rfl,R,U⟩:=r;unfold QV at h;cases I:YF p with
  |none=>rw[I]at h;cases h
  |some ks =>
   rw[I]at h;dsimp only at h;cases M:QV YF l with
   |none=>rw[M]at h;cases h
   |some O =>
    rw[M]at h;cases h;obtain⟨a,rfl,Y,Z,h6⟩:=Ix R I;obtain⟨i1,i2⟩:=mj U M;refine⟨.cons Y Z i1,fun q F=>?_⟩;rw[Bl]at F;rcases AK.mp F with z|z
    ·rw[z];exact h6
    ·exact i2 q z
def yk{xs:KQ V}{Kj:KQ (KQ Int)}(F:∀q∈xs.zip Kj,RV K H b (wL q.2) q.1):∀{L:KQ (V×KQ Int)},(∀q∈L,q∈xs.zip Kj)->dS K H b ((L.map (·.2)).map wL) (L.map (·.1))|[],_=>dS.nil|q::L,h=>by rw[AM,AM,AM];exact dS.cons (F q (h q AI)) (yk F fun y I=>h y (AH _ I))
end
section
variable{X:Cx}{E:XK}{e:K2}{f:FE}{p p2 pos Kx:Pos}
def Y3:PV->qC->Rs PV:=fun q st=>match ZB st q with
 |some l=>match QV YF l with|some Kj=>if Kj.length≤299∧(gf Kj).length<64 then .ok (.lst ((fm (gf Kj)).map wL)) st else .no|none=>.no
 |none=>.no
def yX(f:FE):FE:=fun r st=>(f r st).bind Y3
def D9(hc:X.calm=true)(hu:X.A.units+64<cLine)(hm:X.mg "sorted" = none)(I:X.mg "set" = none)(h:VE X E e f)(hg:Gl X "sorted" :=by rfl)(M:Gl X "set" :=by rfl)
  (h1:starEach [.Call (.Name "set" p2) [e] [] Kx] X.env=(false,eval (.Call (.Name "set" p2) [e] [] Kx) X.env)::starEach [] X.env:=by rfl) (O:starEach [e] X.env=(false,eval e X.env)::starEach [] X.env:=by rfl) :
  VE X E (.Call (.Name "sorted" p) [.Call (.Name "set" p2) [e] [] Kx] [] pos) (yX f) :=
 PE.imp (ue hc hu hg hm M I h h1 O) fun s H Q ⟨b,r,st,S,R,P⟩=>⟨b,r,st,S,R,dR.bind P fun q s1 u H1 b1 e1 Y r1 F=>by
  unfold Y3 at F;split at F
  ·rename_i l el;split at F
   ·rename_i Kj ek;split at F;rename_i Z;obtain⟨x,xs,rfl,O,h3⟩:=zi Y r1 el;obtain⟨T,hr⟩:=mj h3 ek;exact⟨x,xs,Kj,rfl,O,T,Z.1,Z.2,fun p L hp U hL=>dX.lay (dX.of (r:=.ok ((fm (gf Kj)).map wL) s1) F) Y (by rw[←hL];exact yk hr U) hp⟩;exact F.elim
   ·exact F.elim
  ·exact F.elim⟩
def Zw:PV->qC->Rs PV:=fun q st=>match ZB st q with
 |some l=>match QV YF l with|some Kj=>if Kj.length<64 then .ok (.lst ((fm Kj).map wL)) st else .no|none=>.no
 |none=>.no
def zP(f:FE):FE:=fun r st=>(f r st).bind Zw
def rg(O:X.A.units+64<cLine)(U:X.mg "sorted" = none)(h:VE X E e f)(Y:Gl X "sorted" :=by rfl)(Z:starEach [e] X.env=(false,eval e X.env)::starEach [] X.env:=by rfl) :
  VE X E (.Call (.Name "sorted" p) [e] [] pos) (zP f) :=
 PE.imp (uE O Y U h Z) fun s H Q ⟨b,r,st,S,R,P⟩=>⟨b,r,st,S,R,dR.bind P fun q s1 u H1 b1 e1 M r1 F=>by
  unfold Zw at F;split at F
  ·rename_i l el;split at F
   ·rename_i Kj ek;split at F;rename_i hn;obtain⟨x,xs,rfl,h2,h3⟩:=zi M r1 el;obtain⟨T,hr⟩:=mj h3 ek;exact⟨x,xs,Kj,rfl,h2,T,hn,fun p L hp I hL=>dX.lay (dX.of (r:=.ok ((fm Kj).map wL) s1) F) M (by rw[←hL];exact yk hr I) hp⟩;exact F.elim
   ·exact F.elim
  ·exact F.elim⟩
end
end EV
end
section
namespace EJ
open PySem PySem.Spec PyProof.Rows L2 PySem.W EX ET
end EJ
namespace EV
open PySem PySem.Spec PyProof.Rows L2 EX ET EJ
end EV
end
section
namespace EX
open PySem PySem.Spec PyProof.Rows L2 PySem.W
end EX
namespace EX
open PySem PySem.Spec PyProof.Rows L2 PySem.W
end EX
namespace EV
open PySem PySem.Spec PyProof.Rows L2 EX
end EV
end
section
namespace EX
open PySem PySem.Spec PyProof.Rows L2 PySem.W
end EX
namespace EV
open PySem PySem.Spec PyProof.Rows L2 EX ET
end EV
end
section
namespace EX
open PySem PySem.Spec PyProof.Rows L2
end EX
namespace EV
open PySem PySem.Spec PyProof.Rows L2 EX
end EV
end
section
namespace EV
open PySem PySem.Spec PyProof.Rows L2 EX
noncomputable def Wf(it:Bool)(Kk:KQ Nat)(n:Nat)(fo:FE)(g:FG)(ts:KQ FT)(gs:KQ fw)(f:FE):FL:=fun r st=>(fo r st).bind fun o s=>match o with
 | .ref i=>match s[i]? with
  |some (.d Kh)=>match qq (fun _=>True) (QG ⟨fun _ _=>.no,g,ts⟩ (QY gs f) (wK Kk n r)) (Kh.map (WC it)) (s.set i (.z Kh)) with| .ok l F=>if l.length≤sizeLine then .ok l (F.set i (.d Kh)) else .no|_=>.no
  |_=>.no
 |_=>.no
section
variable{X:Cx}{H1:Hp}{b1:Bz}{s1:qC}{i:Nat}{x:KU}{Kh:KQ (KQ L2.Key×PV)}{vs:KQ (KQ L2.Key×V)}{od:Obj}{es:K3 DictEntry}{ep:Nat}
def uH(B:gr X.K H1 b1 s1 i x Kh vs)(I:od.data= .dict es ep):ZA X.K (dW H1 x (.frz od (.dT vs))) b1 (kU x od es ep vs) ⟨Kh.map (WC false),fun _=>True⟩:=fun H' b2 R e2 U M _=>by
 have fz:fV H' x od es ep vs:=⟨U x od _ qS,I⟩;refine⟨fun j p Y=>?_,fun j F=>⟨fz,by have F:(Kh.map (WC false)).length≤j:=F;rw[AF,B.len]at F;exact F⟩⟩;obtain⟨k,q,v,rfl,Z,F,_⟩:=B.get Y;refine⟨⟨fz,F⟩,fun y H2 ⟨eH,c,k',v',O,h2,h3⟩=>?_⟩;subst eH;rw[Z]at O;cases O;subst h2;exact⟨gB.refl _,M,JZ M h3⟩
def vz(B:gr X.K H1 b1 s1 i x Kh vs)(I:od.data= .dict es ep):ZA X.K (dW H1 x (.frz od (.dT vs))) b1 (kP x od es ep vs) ⟨Kh.map (WC true),fun _=>True⟩:=fun H' O a0 e2 f2 R _=>by
 have hm:x∈b1.b:=Ap B.ix;have fz:fV H' x od es ep vs:=⟨f2 x od _ qS,I⟩;refine⟨fun j p hp=>?_,fun j F=>⟨fz,by have F:(Kh.map (WC true)).length≤j:=F;rw[AF,B.len]at F;exact F⟩⟩;obtain⟨k,q,v,rfl,Y,F,hq⟩:=B.get hp;refine⟨⟨fz,F⟩,fun y H2 ⟨T,c,k',v',M,h1,h2,Z,h4⟩=>?_⟩;rw[Y]at Z;cases Z;subst h1;subst h2;have en:dY H' O (dW H' T (.tup [.ref c,v])) O:=dY.new M;obtain⟨w,hw,U⟩:=(dS.wext e2 _ (dS.wext (WE.wr (.inl hm)) _ B.rs)).get hq;rw[Am,Y]at hw;cases hw;refine⟨fun a o q=>by rw[qG (qL q M)];exact q,R.new M,?_⟩;show RV X.K _ O (.tup [wS k,q]) (.ref T);unfold RV;exact⟨T,_,rfl,.inl ⟨qS,R.new_notin M⟩,dS.cons (RV.ext en _ (JZ R h4)) (dS.cons (RV.ext en _ U) dS.nil)⟩
end
def tI{X:Cx}{E:XK}{it:Bool}{a6:K2}{c:Comprehension}{cs:KQ Comprehension}{scope:Scope}{pos:Pos}{Kn Kl:KQ Str}{Kk:KQ Nat}{fo:FE}{g:FG}{ts:KQ FT}{gs:KQ fw}{f:FE}{J:KU->Obj->K3 DictEntry->Nat->KQ (KQ L2.Key×V)->It}(a1:ik X scope Kn Kl Kk)
  (hi:PI X c.target c.iter (fun σ H R=>rd X.K E fo σ H fun x H1=>∃a Kh,x= .ref a∧H1 a=some (.dT Kh)∧∀od es ep,od.data= .dict es ep->NF X a->R (J a od es ep Kh) (dW H1 a (.frz od (.dT Kh)))))
  (hJ:∀{H1:Hp} {b1:Bz} {s1:qC} {i:Nat} {x:KU} {Kh:KQ (KQ L2.Key×PV)} {vs:KQ (KQ L2.Key×V)} {od:Obj} {es:K3 DictEntry} {ep:Nat},gr X.K H1 b1 s1 i x Kh vs->od.data= .dict es ep->ZA X.K (dW H1 x (.frz od (.dT vs))) b1 (J x od es ep vs) ⟨Kh.map (WC it),fun _=>True⟩)
  (sub:∀s H fp pn,VE (fN X scope (Kn++Kl) s H fp pn) E0 a6 f∧GOk (fN X scope (Kn++Kl) s H fp pn) c ⟨fun _ _=>.no,g,ts⟩∧eP (fN X scope (Kn++Kl) s H fp pn) cs gs)
  (hs:∀x,foldedSetIterable c.iter X.env x=pure x):VN X E (.ListComp a6 (c::cs) scope pos) (Wf it Kk Kl.length fo g ts gs f):=by
 intro Kf s σ H Q I hq;obtain⟨b,r,st,S,RE,P⟩:=hq;have a2:∀x∈scope.names,x.2= .free->∃c,X.env.cells.lookup x.1=some c:=fun x hx hk=>I.ok.has x.1 (a1.fr x hx hk);obtain⟨c1,c2,c3,c4⟩:=c;have a7:c4=0:=(sub s H [] []).2.1.asy;subst a7;rw[eval_ListComp];refine Cn (use:=none) rfl hs (zt a2) a1.kind (fun x hx hl=>wl a1.nd (by rw[←hl];exact hx)) ?_;show wpAny _ _ (eval c2 X.env) _ _ s;unfold Wf at P;cases ef:fo r st with
 |no=>rw[ef]at P;exact P.elim
 |ex x s1 =>
  rw[ef]at P;refine eE (hi Kf s σ H (fun _ _=>False) I ⟨b,r,st,S,RE,by rw[ef];exact P⟩) fun v s2 h2=>eE h2 fun ae s3 h3=>?_;obtain⟨_,_,_,_,_,_,_,_,_,_,z⟩:=h3;exact z.elim
 |ok o s1 =>
  rw[ef]at P;have⟨i,Kh,ho,hd⟩:∃i Kh,o= .ref i∧s1[i]? = some (.d Kh):=by
   cases o with
   |ref i =>
    have P:dX X.K E H b (match s1[i]? with
     |some (.d Kh)=>match qq (fun _=>True) (QG ⟨fun _ _=>.no,g,ts⟩ (QY gs f) (wK Kk Kl.length r)) (Kh.map (WC it)) (s1.set i (.z Kh)) with| .ok l s'=>if l.length≤sizeLine then .ok l (s'.set i (.d Kh)) else .no|_=>.no
     |_=>.no) Q:=P
    cases hd:s1[i]? with
    |none=>rw[hd]at P;exact P.elim
    |some so =>
     rw[hd]at P;cases so with|d Kh=>exact⟨i,Kh,rfl,hd⟩|l _=>exact P.elim|z _=>exact P.elim
   |_=>exact P.elim
  subst ho;have P:dX X.K E H b (match qq (fun _=>True) (QG ⟨fun _ _=>.no,g,ts⟩ (QY gs f) (wK Kk Kl.length r)) (Kh.map (WC it)) (s1.set i (.z Kh)) with
   | .ok l s'=>if l.length≤sizeLine then .ok l (s'.set i (.d Kh)) else .no
   |_=>.no) Q:=by
   have P:dX X.K E H b (match s1[i]? with
     |some (.d Kh)=>match qq (fun _=>True) (QG ⟨fun _ _=>.no,g,ts⟩ (QY gs f) (wK Kk Kl.length r)) (Kh.map (WC it)) (s1.set i (.z Kh)) with| .ok l s'=>if l.length≤sizeLine then .ok l (s'.set i (.d Kh)) else .no|_=>.no
     |_=>.no) Q:=P
   rw[hd]at P;exact P
  refine eE (hi Kf s σ H (fun J' H'=>∃H1 b1 x vs od es ep,dY H b H1 b1∧gr X.K H1 b1 s1 i x Kh vs∧od.data= .dict es ep∧NF X x∧J'=J x od es ep vs∧H'=dW H1 x (.frz od (.dT vs))) I ⟨b,r,st,S,RE,by
   rw[ef];exact fun v H1 b1 e1 S1 r1=>by
    obtain⟨x,vs,rfl,B⟩:=gr.of S1 r1 hd;exact⟨x,vs,rfl,B.h,fun od es ep Z nf=>⟨H1,b1,x,vs,od,es,ep,e1,B,Z,nf,rfl,rfl⟩⟩⟩) fun v s2 h2=>eE h2 fun ae s3 h3=>?_
  obtain⟨af,fp,tn,J',H2,rfl,I2,T,t2,f2,H1,O,x,vs,od,es,ep,e2,B,Z,nf,rfl,a0⟩:=h3;have hm:x∈O.b:=Ap B.ix;have S2:SR X.K H2 O (s1.set i (.z Kh)):=by rw[a0];exact B.fr od
  have i2:ZA X.K H2 O (J x od es ep vs) ⟨Kh.map (WC it),fun _=>True⟩:=by rw[a0];exact hJ B Z
  have w1:WE H1 O H2 O:=by rw[a0];exact WE.wr (.inl hm)
  have a3:H2 x=some (.frz od (.dT vs)):=by rw[a0];exact qS
  cases ev:qq (fun _=>True) (QG ⟨fun _ _=>.no,g,ts⟩ (QY gs f) (wK Kk Kl.length r)) (Kh.map (WC it)) (s1.set i (.z Kh)) with
  |no=>rw[ev]at P;exact P.elim
  |ex x s4=>rw[ev]at P;exact P.elim
  |ok l a4 =>
   rw[ev]at P;have P:dX X.K E H b (if l.length≤sizeLine then .ok l (a4.set i (.d Kh)) else .no) Q:=P;by_cases hl:l.length≤sizeLine
   ·rw[AE hl]at P;have M:H2 s3.heap.objs.size=none:=I2.hok.fresh (AG _);refine CH ?_;generalize a8:({ s3 with heap:=s3.heap.push { cls:=.type "list",data:=.seq ([]:KQ KR).toArray } }:KS)=U;have I3:L2.Inv X Kf σ (dW H2 s3.heap.objs.size (.lst [])) U:=by rw[←a8];exact I2.laid (t':=s3.toks) (fun a u e=>AC _ e) (AG _) (show ey X.prog X.w _ _ _ (.lst []) from⟨Au _,[],0,.nil,AR _ rfl⟩)
    have k3:∀a o,s3.heap.get? a=some o->U.heap.get? a=some o:=fun a o e=>by rw[←a8];exact AC _ e
    have ag:∀a∈fp,a<s3.heap.objs.size:=fun a F=>by obtain⟨o,e,_⟩:=T.obj _ _ t2 a F;exact AL e
    have f3:∀a∈fp,zf X Kf (dW H2 s3.heap.objs.size (.lst [])) a:=fun a F=>⟨by rw[qG (Aa (ag a F))];exact (f2 a F).1,(f2 a F).2⟩;have a9:∀a∈fp,a<U.heap.objs.size:=fun a F=>by obtain⟨o,e,_⟩:=T.obj _ _ t2 a F;exact AL (k3 a o e)
    generalize hD:s3.heap.objs.size=D at I3 f3 M;refine yJ ?_;have J0:=zj a1 I3 f3 a9 rfl;obtain⟨he,hg,ah⟩:=sub U (dW H2 D (.lst [])) fp (X.pn++Kf);have k4:∀a o,U.heap.get? a=some o->(pushCells (U.heap.push { cls:=.type "dict",data:=.dict #[] }) scope.names).get? a=some o:=fun a o e=>CV _ _ _ _ (AC _ e);have ai:D∉O.z:=(S2.new_notin M).2;have Kw:=Ze (X:=fN X scope (Kn++Kl) U (dW H2 D (.lst [])) fp (X.pn++Kf)) (fun _ _ z=>z) (gens:=⟨c1,c2,c3,0⟩::cs) (scope:=scope) (pos:=pos) (D:=D) he gs cs 0 ⟨c1,c2,c3,0⟩ ⟨fun _ _=>.no,g,ts⟩ rfl hg ah [] _ _ _ ⟨O.b,D::O.z⟩ (wK Kk Kl.length r) (s1.set i (.z Kh)) a4 af fp tn _ ⟨Kh.map (WC it),fun _=>True⟩ [] l
     (compPost (model X.prog X.w) X.A X.xe none (EP X Kf σ Q) (.ref D) U.heap.objs.size) J0 (SR.hide S2 M) (Z9 (((RE.ext e2).wext w1).wext (WE.hide M))) AI qS T (T.keep _ _ _ t2 fun a F o e=>k4 a o (k3 a o e))
     (fun a F=>⟨(f3 a F).1,(J0.ok.exf a F).1,J0.ok.exfs a F,.inl F,(J0.ok.exf a F).2,fun p hp=>(f3 a F).2.2.2.2.2 p (by simpa[fN] using hp)⟩) (ZX i2 M) ev (by simpa using hl)
     (fun s' σ' H' b' lV I' e' S' R' aj r'=>by
      obtain⟨m,hn,_⟩:=I'.loc;refine⟨m,hn,fun ao sb=>?_⟩;have ak:=yF I3 f3 I' sb;have al:b'.z=D::O.z:=e'.same;have a5:x≠D:=fun z=>by rw[z,M]at a3;cases a3
      have am:H' x=some (.frz od (.dT vs)):=e'.fz x od _ a5 (by rw[qG a5];exact a3);refine⟨.ref D,dW H' x (.dT vs),l9 ak am nf.1 nf.2,rfl,?_⟩;have ex:dY H2 O H' ⟨b'.b,O.z⟩:=by
       refine⟨⟨?_,⟨[],rfl,by simp⟩,fun a o F ho=>?_,fun a o F=>?_⟩,rfl,fun a o hz F=>?_,fun a o u F=>e'.fz a o u (qL F M) (by rw[qG (qL F M)];exact F)⟩
       ·obtain⟨n,hb,hh⟩:=e'.more;exact⟨n,hb,fun a F=>by
         have:=hh a F
         by_cases q:a=D;rw[q];exact M;rwa[qG q]at this⟩
       ·have Y:a≠D:=qL F M;exact e'.keep a o (by rw[qG Y];exact F) ⟨ho.1,fun z=>(AK.mp z).elim Y ho.2⟩
       ·have Y:a≠D:=qL F M;exact e'.dom a o (by rw[qG Y];exact F)
       ·have Y:a≠D:=qL F M;exact e'.hid a o (AH _ hz) Y (by rw[qG Y];exact F)
      have te:dY H1 O (dW H' x (.dT vs)) ⟨b'.b,O.z⟩:=pz (by rw[←a0];exact ex) B.h hm B.S.zb;have aa:(⟨b'.b,D::O.z⟩:Bz)=b':=by rw[←al]
      have ab:b'.b[i]? = some x:=e'.toWE.ix B.ix;have ac:x∈b'.b:=Ap ab;have we:WE H1 O (dW H' x (.dT vs)) b':=(w1.trans ((WE.hide M).trans e'.toWE)).trans (WE.wr (.inl ac));refine P D lV (dW H' x (.dT vs)) ⟨b'.b,O.z⟩ (e2.trans te) (e2.none_of (w1.none_of M)) (by rw[qG a5.symm];simpa using aj) ai ?_ ?_;show SR X.K _ ⟨b'.b,D::O.z⟩ (a4.set i (.d Kh));rw[aa];exact S'.wr (x:=.d Kh) ab ⟨vs,rfl,B.ks,dS.wext we _ B.rs⟩;show dS X.K _ ⟨b'.b,D::O.z⟩ l lV;rw[aa];exact dS.wext (WE.wr (.inl ac)) _ r')
    exact w4 rfl rfl Kw (T.self X.A 0 _ _ _ (T.keep _ _ _ t2 fun a F o e=>k4 a o (k3 a o e)) Kw)
   ·rw[AD hl]at P;exact P.elim
def Gw{X:Cx}{E:XK}{F:K2}{c:Comprehension}{cs:KQ Comprehension}{scope:Scope}{pos:Pos}{Kn Kl:KQ Str}{Kk:KQ Nat}{fo:FE}{g:FG}{ts:KQ FT}{gs:KQ fw}{f:FE}(I:ik X scope Kn Kl Kk)
  (M:VE X E c.iter fo) (sub:∀s H fp pn,VE (fN X scope (Kn++Kl) s H fp pn) E0 F f∧GOk (fN X scope (Kn++Kl) s H fp pn) c ⟨fun _ _=>.no,g,ts⟩∧eP (fN X scope (Kn++Kl) s H fp pn) cs gs)
  (hs:∀x,foldedSetIterable c.iter X.env x=pure x:=by intro _;rfl):VN X E (.ListComp F (c::cs) scope pos) (Wf false Kk Kl.length fo g ts gs f) :=
 tI (J:=kU) I (vY M) uH sub hs
end EV
end
section
namespace EV
open PySem PySem.Spec PyProof.Rows L2 EX ET PySem.W
def sa:∀k k':KQ Int,gh (k.map PV.int) (k'.map PV.int)=some (fj k k')
 |[],[]=>rfl
 |[],_::_=>rfl
 |_::_,[]=>rfl
 |a::k,b::k'=>by
  show (if (a==b)=true then gh (k.map PV.int) (k'.map PV.int) else some (decide (a<b)))=some (if a<b then true else if b<a then false else fj k k');rw[sa k k'];by_cases h:a=b;subst h;rw[AE (A1 a),AD (B5 a),AD (B5 a)]
  ·rw[AD (fun z=>h (DK z))];by_cases F:a<b;rw[AE F,AS F];rw[AD F,AE (by omega),AU F]
def rR:∀(k:KQ Int) (t t':Int),fj (k++[t]) (k++[t'])=decide (t<t')
 |[],t,t'=>by
  show (if t<t' then true else if t'<t then false else false)=_;by_cases h:t<t';rw[AE h,AS h];rw[AD h,AU h];split <;> rfl
 |a::k,t,t'=>by show (if a<a then true else if a<a then false else fj (k++[t]) (k++[t']))=_;rw[AD (B5 a),AD (B5 a),rR k t t']
def mv:∀{k k':KQ Int} {t t':Int},k.length=k'.length->k≠k'->fj (k++[t]) (k'++[t'])=fj k k'
 |[],[],_,_,_,h=>absurd rfl h
 |[],_::_,_,_,h,_=>by cases h
 |_::_,[],_,_,h,_=>by cases h
 |a::k,b::k',t,t',M,O=>by
  show (if a<b then true else if b<a then false else fj (k++[t]) (k'++[t']))=(if a<b then true else if b<a then false else fj k k');by_cases F:a<b;rw[AE F,AE F]
  ·by_cases I:b<a;rw[AD F,AD F,AE I,AE I]
   ·rw[AD F,AD F,AD I,AD I];have e:a=b:=by omega
    subst e;exact mv (by simpa using M) (fun z=>O (by rw[z]))
def nM{K:KY}{H:Hp}:∀k:KQ Int,eK K H (k.map PV.int) (k.map V.int)|[]=>by unfold eK;rfl|a::k=>by show eK K H (.int a::k.map PV.int) (.int a::k.map V.int);unfold eK;exact⟨_,_,rfl,by unfold RW;rfl,nM k⟩
def Yt:∀k:KQ Int,eL (k.map PV.int)=0|[]=>rfl|a::k=>by rw[AM,eL,Yt k];rfl
def km(K:KY)(H:Hp)(m:Nat)(x:V)(ks:KQ Int):Prop:=∃a c k t,x= .ref a∧fA K H a [.ref c,.int t]∧fA K H c (k.map V.int)∧ks=k++[t]∧k.length=m
section
variable{X:Cx}{Kf:KQ (KU×Obj)}{σ:L2.St}{H:Hp}{s:KS}
def vw{A:K1}{E:KR->KS->Prop}(I:L2.Inv X Kf σ H s)(hu:A.units+8<cLine){m:Nat}{x y:V}{ks F:KQ Int}{ux uy:KR}(hx:km X.K H m x ks)(hy:km X.K H m y F)(rx:RelV x ux)(ry:RelV y uy){Q:Bool->KS->Prop}(h:Q (fj ks F) s):wpAny (model X.prog X.w) A (keyLt' (tuples' false) ux uy) Q E s:=by
 obtain⟨a,c,k,t,rfl,h1,h2,rfl,h3⟩:=hx;obtain⟨a',c',R,U,rfl,g1,g2,rfl,g3⟩:=hy;cases rx;cases ry;obtain⟨Ki,rv,⟨o,o1,o2,n,o3⟩,_⟩:=I.tuple h1;obtain⟨a1,Y,⟨o',p1,p2,n',p3⟩,_⟩:=I.tuple g1;obtain⟨u1,u2,rfl,r1,r2⟩:=jv rv;obtain⟨a2,a3,rfl,Z,a0⟩:=jv Y;cases r1;cases Z;obtain⟨tk,rfl⟩:=r2;obtain⟨M,rfl⟩:=a0;refine kat_lt o1 o3 p1 p3 ?_;show KatLex X.prog X.w A false false Q [(.ref c,.ref c'),(.int t tk,.int U M)] 0 s;refine kat_cons (wpAny_eqBool_tuple (by omega) (kS I h2) (kS I g2) ?_);by_cases O:k=R
 ·rw[AS O];refine kat_yes (kat_cons ((intKind X.prog X.w).eqBool (intKind_is X.prog X.w t tk) (intKind_is X.prog X.w U M) ?_));subst O;rw[rR]at h;by_cases ht:t=U
  ·rw[AS ht];refine kat_yes (kat_nil ?_);rw[AU (by omega)]at h;exact h
  ·rw[AU ht];exact kat_no (nQ _ h)
 ·rw[AU O];refine kat_no (kat_one _ _ ?_);rw[mv (h3.trans g3.symm) O]at h;have hw:∀{c:KU} {k:KQ Int},fA X.K H c (k.map V.int)->RW X.K H (wL k) (.ref c):=fun {c k} z=>by unfold wL RW;exact⟨c,_,rfl,z,nM k⟩
  refine rh I 2 (wL k) (wL R) A (by unfold wL;rw[fG,Yt];decide) (by omega) (hw h2) (hw g2) rfl rfl (sa k R) _ _ _ _ ?_;exact h
inductive ib (K:W.Frag) (H:Hp) (m:Nat):List V->List (List Int)->Prop
 |nil:ib K H m [] []
 |cons {x:V} {ks:List Int} {xs:List V} {Kj:List (List Int)}:km K H m x ks->ib K H m xs Kj->ib K H m (x::xs) (ks::Kj)
def ib.len{K:KY}{m:Nat}{xs:KQ V}{Kj:KQ (KQ Int)}(h:ib K H m xs Kj):xs.length=Kj.length:=by
 induction h with|nil=>rfl|cons _ _ F=>rw[AO,AO,F]
def ib.get{K:KY}{m:Nat}{xs:KQ V}{Kj:KQ (KQ Int)}(h:ib K H m xs Kj):∀{i:Nat},i<xs.length->km K H m (xs.getD i .non) (Kj.getD i []):=by
 induction h with
 |nil=>intro i hi;exact absurd hi (BP _)
 |cons a _ F =>
  intro i hi;cases i with|zero=>exact a|succ i=>simpa using F (i:=i) (by simpa using hi)
def yS{xs:KQ V}{Ki:KQ KR}(h:Vals xs Ki):∀{i:Nat},i<Ki.length->RelV (xs.getD i .non) (Ki.getD i Value.none):=by
 induction h with
 |nil=>intro i hi;exact absurd hi (BP _)
 |cons a _ F =>
  intro i hi;cases i with|zero=>exact a|succ i=>simpa using F (i:=i) (by simpa using hi)
def jh{xs:KQ V}{Ki:KQ KR}(h:Vals xs Ki):∀(l:KQ Nat),(∀i∈l,i<Ki.length)->Vals (l.map fun i=>xs.getD i .non) (l.map fun i=>Ki.getD i Value.none)|[],_=>.nil|i::l,F=>.cons (yS h (F i AI)) (jh h l fun j I=>F j (AH _ I))
def E8{Kj:KQ (KQ Int)}{n:Nat}(I:Kj.length=n){p:K3 Nat}(B:PB n p)(S:gF (O:=iJ) (fun i=>Kj.getD i []) p n):p.toList.map (fun i=>Kj.getD i [])=fm Kj:=by
 have M:=B.size;refine Yg ?_ (Wx Kj) ?_
 ·rw[B1,Cd];intro i j hi F R
  have:=S i j (by omega) (by rw[AW]at F;omega)
  unfold kq at this;rw[AQ,AQ,AN (by simpa using hi),AN (by simpa using F)]at this;exact this
 ·refine ((Cc.mp B.perm).map _).trans (.trans ?_ (QO Kj).symm)
  have:(List.range n).map (fun i=>Kj.getD i [])=Kj:=by
   rw[←I];refine List.ext_getElem (by simp) fun i Y U=>?_;simp[Ao,AJ U]
  show ((List.range n).map fun i=>Kj.getD i []).Perm Kj;rw[this]
def ED{A:K1}{E:KR->KS->Prop}(I:L2.Inv X Kf σ H s){m:Nat}{xs:KQ V}{Kj:KQ (KQ Int)}(T:ib X.K H m xs Kj){Ki:KQ KR}(R:Vals xs Ki)(F:2≤Ki.length){Q:SortKind->KS->Prop}(h:Q (tuples' false) s):wpAny (model X.prog X.w) A (keyKind' Ki.toArray) Q E s:=by
 obtain⟨fs,Z,f2,f3⟩:∃fs:KQ KR,KatTups s.heap Ki fs∧fs.length=Ki.length∧∀v∈fs,Looks (model X.prog X.w) s.heap (typeOf v) (.type "tuple"):=by
  clear F;induction T generalizing Ki with
  |nil=>cases R;exact⟨[],KatTups.nil,rfl,fun v M=>(Ak M).elim⟩
  | @cons x ks xs Kj a _ ih =>
   cases R with
   | @cons _ u _ us r1 r2 =>
    obtain⟨fs,g1,g2,g3⟩:=ih r2;obtain⟨ad,c,k,t,rfl,h1,F,rfl,h3⟩:=a;cases r1;obtain⟨U,O,⟨o,o1,o2,n,o3⟩,_⟩:=I.tuple h1;obtain⟨u1,u2,rfl,q1,q2⟩:=jv O;cases q1;obtain⟨Y,a0,⟨o',p1,p2,n',p3⟩,_⟩:=I.tuple F;refine⟨.ref c::fs,KatTups.cons o1 o2 o3 rfl g1,by rw[AO,AO,g2],fun v M=>?_⟩;rcases AK.mp M with z|z
    ·rw[z,←p2];exact (Looks.ld p1).andThen .now
    ·exact g3 v z
 exact kat_kind (T:=.type "tuple") Z (by omega) f3 (by decide) h
end
section
variable{X:Cx}{e:K2}{te:TE}{p pos:Pos}
def Dy(K:KY)(te:TE):TE:=fun σ H Q=>te σ H fun x H1=>∃a xs Kj m,x= .ref a∧(fq K H1 a xs∨fA K H1 a xs)∧ib K H1 m xs Kj∧Kj.length<64∧∀p (L:KQ Nat),H1 p=none->(∀i∈L,i<xs.length)->L.map (fun i=>Kj.getD i [])=fm Kj->Q (.ref p) (dW H1 p (.lst (L.map fun i=>xs.getD i .non)))
def HZ(hu:X.A.units+64<cLine)(hg:Gl X "sorted")(hm:X.mg "sorted" = none)(he:PE X e te)(h1:starEach [e] X.env=(false,eval e X.env)::starEach [] X.env:=by rfl) :
  PE X (.Call (.Name "sorted" p) [e] [] pos) (Dy X.K te):=by
 intro Kf s σ H Q I h;refine Bv (zL I hg hm PyProof.Rows.boot_sorted ?_ (by decide) (by decide));refine CB ?_ h1 rfl;rw[h1];show wpAny _ _ (spliced ((false,eval e X.env)::[])) _ _ s;refine Bu (eE (he Kf s σ H _ I h) fun u s1 ⟨x,H1,M,r1,q1⟩=>CG ?_);obtain⟨a,xs,Kj,m,rfl,hq,T,h64,q⟩:=q1;cases r1;obtain⟨Ki,F,R⟩:∃Ki,Vals xs Ki∧(Ki.length<64->∀{E':KR->KS->Prop} {Z:KQ KR->KS->Prop},Z Ki { s1 with heap:=(s1.heap.push (seqObj "list" #[] 0)).update s1.heap.objs.size (Obj.mapSeq (· ++ Ki.toArray)) }->wpAny (model X.prog X.w) X.A.in1 (collect (.ref a)) Z E' s1):=by
  rcases hq with hq|hq
  ·obtain⟨Ki,F,ht,_⟩:=M.list hq;exact⟨Ki,F,fun h _ _ q=>collect_list ht.isList q (by rw[Bk];omega)⟩
  ·obtain⟨Ki,F,ht,_⟩:=M.tuple hq;exact⟨Ki,F,fun h _ _ q=>yt ht (by rw[Bk];omega) q⟩
 have hl:xs.length=Ki.length:=F.length;have hk:=T.len;refine ja (O:=iJ) (Ko:=fun i=>Kj.getD i []) (κ:=tuples' false) (s:=s1) (vs:=Ki) (R (by omega)) (by omega) (fun h2 A' E' U Z k q'=>ED (s:={ s1 with heap:=U }) (M.kept (h':=U) (t':=s1.toks) k) T F h2 q') (fun U i j C k hi hj q'=>?_) fun pp B S=>?_;exact vw (s:={ s1 with heap:=U }) (M.kept (h':=U) (t':=s1.toks) k) (by show X.A.units+2+8<cLine;omega) (T.get (by omega)) (T.get (by omega)) (yS F hi) (yS F hj) q'
 ·have keep:∀b o,s1.heap.get? b=some o->(sortedAll s1.heap Ki (List.toArray (pp.toList.map fun i=>Ki.getD i Value.none))).get? b=some o:=fun b o hb=>sortedAll_old hb;have a0:=jh F pp.toList B.mem;obtain⟨e',a1⟩:=sortedAll_at s1.heap Ki (List.toArray (pp.toList.map fun i=>Ki.getD i Value.none));have Y:(pp.toList.map fun i=>xs.getD i V.non).length≤sizeLine:=by rw[AF,AW,B.size,Bk];omega
  exact⟨.ref (s1.heap.objs.size+1),_,M.laid (t':=s1.toks) (o:=.lst (pp.toList.map fun i=>xs.getD i V.non)) keep (DD _) ⟨Y,_,e',a0,a1⟩,rfl,q _ pp.toList (M.hok.fresh (DD _)) (fun i hi=>by rw[hl];exact B.mem i hi) (E8 (by omega) B S)⟩
end
def ij:PV->KW (KQ Int)| .tup [.tup l,.int t]=>(QV YN l).map (· ++ [t])|_=>none
def gZ(ks:KQ Int):PV:=.tup [.tup (ks.dropLast.map PV.int),.int (ks.getLastD 0)]
def IU{K:KY}{H:Hp}{b:Bz}{p:PV}{v:V}{ks:KQ Int}(r:RV K H b p v)(h:ij p=some ks):km K H (ks.length-1) v ks∧RV K H b (gZ ks) v:=by
 unfold ij at h;split at h
 ·rename_i l t;cases el:QV YN l with
  |none=>rw[el]at h;cases h
  |some k =>
   rw[el]at h;cases h;have r':=r;unfold RV at r;obtain⟨a,xs,rfl,I,M⟩:=r;unfold dS at M;obtain⟨x,xs,rfl,F,O⟩:=M;unfold dS at O;obtain⟨y,ys,rfl,R,U⟩:=O;unfold dS at U;subst U;unfold RV at R;subst R;have Z:=F;unfold RV at F;obtain⟨c,zs,rfl,Y,h9⟩:=F;have e:=yD h9 el;subst e;refine⟨⟨a,c,k,t,rfl,I.sq,Y.sq,rfl,by simp⟩,?_⟩;have e1:gZ (k++[t])= .tup [.tup (k.map PV.int),.int t]:=by unfold gZ;rw[List.dropLast_concat,List.getLastD_concat]
   rw[e1];unfold RV;exact⟨a,_,rfl,I,dS.cons (by unfold RV;exact⟨c,_,rfl,Y,za k⟩) (dS.cons (by unfold RV;rfl) dS.nil)⟩
 ·cases h
def pH{K:KY}{H:Hp}{b:Bz}{m:Nat}:∀{l:KQ PV} {xs:KQ V} {Kj:KQ (KQ Int)},dS K H b l xs->QV ij l=some Kj->(∀ks∈Kj,ks.length=m+1)->ib K H m xs Kj∧∀i,i<xs.length->RV K H b (gZ (Kj.getD i [])) (xs.getD i .non)
 |[],xs,Kj,r,h,_=>by unfold dS at r;subst r;cases h;exact⟨.nil,fun i hi=>absurd hi (BP _)⟩
 |p::l,xs,Kj,r,h,M=>by
  unfold dS at r;obtain⟨x,t,rfl,U,Y⟩:=r;unfold QV at h;cases F:ij p with
  |none=>rw[F]at h;cases h
  |some ks =>
   rw[F]at h;dsimp only at h;cases I:QV ij l with
   |none=>rw[I]at h;cases h
   |some O =>
    rw[I]at h;cases h;obtain⟨R,Z⟩:=IU U F;obtain⟨i1,i2⟩:=pH Y I fun ks hk=>M ks (AH _ hk);rw[M ks AI,Nat.add_sub_cancel]at R;refine⟨.cons R i1,fun i hi=>?_⟩;cases i with|zero=>exact Z|succ i=>simpa using i2 i (by simpa using hi)
def pd{K:KY}{H:Hp}{b:Bz}{xs:KQ V}{Kj:KQ (KQ Int)}(h:∀i,i<xs.length->RV K H b (gZ (Kj.getD i [])) (xs.getD i .non)):∀{L:KQ Nat},(∀i∈L,i<xs.length)->dS K H b ((L.map fun i=>Kj.getD i []).map gZ) (L.map fun i=>xs.getD i .non)|[],_=>dS.nil|i::L,F=>by rw[AM,AM,AM];exact dS.cons (h i (F i AI)) (pd h fun j I=>F j (AH _ I))
def Je:PV->qC->Rs PV:=fun q st=>match ZB st q with
 |some l=>match QV ij l with|some Kj=>if Kj.length<64∧(∀ks∈Kj,ks.length=(Kj.headD []).length-1+1) then .ok (.lst ((fm Kj).map gZ)) st else .no|none=>.no
 |none=>.no
def nC(f:FE):FE:=fun r st=>(f r st).bind Je
def sB{X:Cx}{E:XK}{e:K2}{f:FE}{p pos:Pos}(U:X.A.units+64<cLine)(Y:X.mg "sorted" = none)(h:VE X E e f)(Z:Gl X "sorted" :=by rfl)(h1:starEach [e] X.env=(false,eval e X.env)::starEach [] X.env:=by rfl) :
  VE X E (.Call (.Name "sorted" p) [e] [] pos) (nC f) :=
 PE.imp (HZ U Z Y h h1) fun s H Q ⟨b,r,st,S,R,P⟩=>⟨b,r,st,S,R,dR.bind P fun q s1 u H1 b1 e1 M r1 F=>by
  unfold Je at F;split at F
  ·rename_i l el;split at F
   ·rename_i Kj ek;split at F;rename_i O;obtain⟨x,xs,rfl,h2,h3⟩:=zi M r1 el;obtain⟨T,hr⟩:=pH h3 ek O.2;exact⟨x,xs,Kj,_,rfl,h2,T,O.1,fun p L hp I hL=>dX.lay (dX.of (r:=.ok ((fm Kj).map gZ) s1) F) M (by rw[←hL];exact pd hr I) hp⟩;exact F.elim
   ·exact F.elim
  ·exact F.elim⟩
end EV
end
section
namespace EX
open PySem PySem.Spec PyProof.Rows L2 PySem.W
section
variable{prog:KZ}{w:K0}{d:KU}{es:K3 DictEntry}{ep:Nat}
def eQ.at{h h':Heap}(m:eQ h d es ep)(e:∀o,h.get? d=some o->h'.get? d=some o):eQ h' d es ep:=by obtain⟨o,F,I⟩:=m.ex;exact⟨o,e o F,I⟩
def FQ{A:K1}(hh:A.handled=none)(I:KU)(KN:d≠I):Walks prog w A I [I,d] [I] es.size (fun i v=>∃e,es[i]? = some e∧v=e.key) (fun i h=>h.IsKeyIter I d i es.size ep∧eQ h d es ep) where
 sub:=fun b hb=>by simp at hb;simp[hb]
 frame:=fun _ _ _ st hk=>⟨st.1.at fun o e=>hk I (by simp) o e,st.2.at fun o e=>hk d (by simp) o e⟩
 item:=fun i s Q E hi st hQ=>by
  obtain⟨e,hx⟩:∃p,es[i]? = some p:=⟨es[i],by simp[hi]⟩;refine nR st.1 st.2 hx fun h' hit' hs'=>?_;exact hQ e.key h' s.toks ⟨e,hx,rfl⟩ ⟨hit',st.2.at fun o ho=>hs'.extBut d o KN ho⟩ fun b o hb e=>hs'.extBut b o (fun h=>hb (by simp[h])) e
 done:=fun s Q E st hQ=>n4 (fun v hv=>by rw[hh]at hv;cases hv) (fun v hv=>by rw[hh]at hv;cases hv) st.1 st.2 (AG _) fun h' he'=>hQ h' s.toks fun b o hb e=>he' b o (fun h=>hb (by simp[h])) e
 self:=fun _ _ _ _ st hQ=>wpAny_pyIter_keyiter st.1 hQ
def Ft(lo:(d==sysModules)=false):KdlSrc prog w "dict" d d es.size (fun i v=>∃e,es[i]? = some e∧v=e.key) (fun h=>eQ h d es ep) where
 type:=fun _ hm=>hm.typeIs
 there:=fun _ hm=>let ⟨_,h,_⟩:=hm.ex;⟨AL h,AL h⟩
 keep:=fun _ _ hm hk=>hm.at fun o e=>hk d (.inl rfl) o e
 notList:=by decide
 notTuple:=by decide
 hint:=fun _ _ _ _ hm hq=>kdl_hint_dict hm.typeIs hq
 iter:=fun _ s hh hm=>⟨_,_,(fun _ _ hq=>nu lo hm hq),FQ hh _ (let ⟨_,h,_⟩:=hm.ex;Aa (AL h)),⟨⟨_,AR _ rfl,rfl,rfl⟩,hm.at fun o e=>AC _ e⟩⟩
end
section
variable{X:Cx}
def ID{H:Hp}{Kh:KQ (KQ Key×V)}{xs:KQ (KQ Key×KU×KR)}(r:L2.KT H Kh xs):Vals (xs.map fun x=>V.ref x.2.1) (xs.map fun x=>Value.ref x.2.1):=by
 clear r;induction xs with|nil=>exact .nil|cons x xs F=>exact .cons rfl F
def Gn(hc:X.calm=true):Wi X (.type "list") (fun xs H Q=>∃a vs,xs=[.ref a]∧H a=some (.dT vs)∧∀(l:KU) (ks:KQ KU),H l=none->ks.length=vs.length->(∀(i:Nat) (k:KQ Key) (v:V),vs[i]? = some (k,v)->∃c,ks[i]? = some c∧H c=some (.tup (k.map kV)))->Q (.ref l) (dW H l (.lst (ks.map V.ref)))):=by
 intro Kf s σ H xs us Q I r h;obtain⟨a,vs,rfl,e,q⟩:=h;obtain⟨u,rfl,rx⟩:=Zi r;cases rx;have hh:X.A.handled=none:=I.ok.hd hc;have ok:ey X.prog X.w H s.heap a (.dT vs):=I.hok a _ e;obtain⟨hz,y,xs,Z,o,es,ep,e1,ex,ed,el,nd⟩:=id ok;have hl:es.size=vs.length:=by rw[←AW,el,AF];exact Z.length.symm
 refine kdl_call (Ft (es:=es) (ep:=ep) y) hh ⟨o,e1,ex,ed⟩ (by omega) fun h' tk F c' hk hD M=>?_;have U:∀(i:Nat) (x:KQ Key×KU×KR),xs[i]? = some x->F[i]? = some (Value.ref x.2.1):=fun i x O=>by
  have hi:i<F.size:=by rw[M.1,←AW,el,AF];exact (AT.mp O).1
  obtain⟨en,h1,h2⟩:=M.2 i _ (AN hi);rw[←A5,el,Am,O]at h1;cases h1;rw[AN hi,h2];rfl
 have R:F.toList=xs.map fun x=>Value.ref x.2.1:=by
  refine List.ext_getElem? fun i=>?_;rw[A5,Am];cases O:xs[i]? with
  |some x=>rw[U i x O];rfl
  |none =>
   have:xs.length≤i:=List.getElem?_eq_none_iff.mp O
   exact CP (by rw[M.1,←AW,el,AF];exact this)
 have Y:xs.length=vs.length:=Z.length.symm;have hv:Vals ((xs.map fun x=>x.2.1).map V.ref) F.toList:=by rw[R,Ah];exact ID Z
 refine⟨.ref s.heap.objs.size,_,I.laid (t':=tk) hk (AG _) (show ey X.prog X.w _ h' _ (.lst ((xs.map fun x=>x.2.1).map V.ref)) from⟨by rw[AF,AF,Y];exact hz,F.toList,c',hv,by rw[Array.toArray_toList];exact hD⟩),rfl,q _ (xs.map fun x=>x.2.1) (I.hok.fresh (AG _)) (by rw[AF,Y]) fun i k v hi=>?_⟩;obtain⟨x,O,z1,z2,_⟩:=Z4 Z hi;exact⟨x.2.1,by rw[Am,O];rfl,z2⟩
end
end EX
namespace EV
open PySem PySem.Spec PyProof.Rows L2 EX
section
variable{X:Cx}{E:XK}{e:K2}{f:FE}{pos:Pos}
def Zn(f:FE):FL:=fun r st=>(f r st).bind fun o s=>match o with
 | .ref i=>match s[i]? with|some (.d Kh)=>.ok (Kh.map fun F=>wS F.1) s|_=>.no
 |_=>.no
def o8{K:KY}{H:Hp}{b:Bz}{st:qC}(S:SR K H b st):∀{Kh:KQ (KQ L2.Key×PV)} {ks:KQ KU},ks.length=Kh.length->(∀(i:Nat) (k:KQ L2.Key) (p:PV),Kh[i]? = some (k,p)->∃c,ks[i]? = some c∧H c=some (.tup (k.map kV)))->dS K H b (Kh.map fun F=>wS F.1) (ks.map V.ref)|[],[],_,_=>dS.nil|[],_::_,h,_=>by cases h|_::_,[],h,_=>by cases h|(k,p)::Kh,c::ks,I,h=>by obtain⟨R,M,O⟩:=h 0 k p rfl;cases M;exact dS.cons (JZ S O) (o8 S (by simpa using I) fun i k p hi=>by simpa using h (i+1) k p (by simpa using hi))
def Ic{p:Pos}(M:X.calm=true)(Y:X.mg "list" = none)(Z:VE X E e f)(hg:Gl X "list" :=by rfl)(he:starEach [e] X.env=(false,eval e X.env)::starEach [] X.env:=by rfl)(Ku:(backTo pos (starEach [] X.env)).any (·.1)=false:=by rfl):VN X E (.Call (.Name "list" p) [e] [] pos) (Zn f) :=
 PE.imp (yg (Gn M) hg Y Boot.«list» (YS Z JN he) (he:=he) (Ku:=Ku)) fun s H Q ⟨b,r,st,S,R,P⟩=>⟨b,r,st,S,R,dR.bindN P fun q s1 u H1 b1 e1 O r1 F=>by
  split at F
  ·rename_i i;split at F
   ·rename_i Kh hd;obtain⟨x,vs,rfl,B⟩:=gr.of O r1 hd;refine⟨x,vs,rfl,B.h,fun l ks hl hk M=>dX.lay F O (o8 O (by rw[hk,B.len]) fun i k p hi=>?_) hl⟩;have I:(Kh.map (·.1))[i]? = some k:=by rw[Am,hi];rfl
    rw[B.ks,Am]at I;cases U:vs[i]? with|none=>rw[U]at I;cases I|some kv=>rw[U]at I;obtain⟨k',v⟩:=kv;cases I;exact M i _ v U
   ·exact F.elim
  ·exact F.elim⟩
end
end EV
end
section
namespace EV
open PySem PySem.Spec PyProof.Rows L2 EX
def uW{X:Cx}{E:XK}{it:Bool}(i:Nat){x:Str}{p' a2:Pos}{a5:K2}{c:Comprehension}{cs:KQ Comprehension}{scope:Scope}{pos:Pos}{Kn Kl:KQ Str}{Kk:KQ Nat}{fo:FE}{g:FG}{ts:KQ FT}{gs:KQ fw}{f:FE}{J:KU->Obj->K3 DictEntry->Nat->KQ (KQ L2.Key×V)->It}(hN:X.N.Nodup)(ap:X.N[i]? = some x)(hx:Loc X.env.scope x)(hf:X.fn x=true∨X.env.scope.names.lookup x=some .local)(aq:swapsWith (.ListComp a5 (c::cs) scope pos) (some (.Name x p')) a2.line X.env=pure true)(a6:ik X scope Kn Kl Kk)
  (hi:PI X c.target c.iter (fun σ H R=>rd X.K E fo σ H fun x H1=>∃a Kh,x= .ref a∧H1 a=some (.dT Kh)∧∀od es ep,od.data= .dict es ep->NF X a->R (J a od es ep Kh) (dW H1 a (.frz od (.dT Kh)))))
  (hJ:∀{H1:Hp} {b1:Bz} {s1:qC} {i:Nat} {x:KU} {Kh:KQ (KQ L2.Key×PV)} {vs:KQ (KQ L2.Key×V)} {od:Obj} {es:K3 DictEntry} {ep:Nat},gr X.K H1 b1 s1 i x Kh vs->od.data= .dict es ep->ZA X.K (dW H1 x (.frz od (.dT vs))) b1 (J x od es ep vs) ⟨Kh.map (WC it),fun _=>True⟩)
  (sub:∀s H fp pn,VE (fN X scope (Kn++Kl) s H fp pn) E0 a5 f∧GOk (fN X scope (Kn++Kl) s H fp pn) c ⟨fun _ _=>.no,g,ts⟩∧eP (fN X scope (Kn++Kl) s H fp pn) cs gs)
  (hs:∀x,foldedSetIterable c.iter X.env x=pure x):PS X (.Assign [.Name x p'] (.ListComp a5 (c::cs) scope pos) a2) (k8 (mA X.K E (Wf it Kk Kl.length fo g ts gs f)) (k7 i)):=by
 intro Kf s σ H D0 I hq;obtain⟨b,r,st,S,RE,P⟩:=hq;have a7:∀x∈scope.names,x.2= .free->∃c,X.env.cells.lookup x.1=some c:=fun x hx hk=>I.ok.has x.1 (a6.fr x hx hk);obtain⟨c1,c2,c3,c4⟩:=c;have ab:c4=0:=(sub s H [] []).2.1.asy;subst ab;rw[exec_Assign_Name_used x p' _ a2 aq];refine AA (Cb ?_);refine AA (Bc (Q:=fun _ Y=>∃v H',L2.Inv X Kf (σ.set i (some v)) H' Y∧D0.nx (σ.set i (some v)) H') ?_ (fun _ Y ⟨v,H',I',q'⟩=>AB ⟨_,H',I',q'⟩) fun _ _ z=>z);rw[arm_evalThenUse_ListComp];refine AA (Bc (Q:=fun _ Y=>∃v H',L2.Inv X Kf (σ.set i (some v)) H' Y∧D0.nx (σ.set i (some v)) H') ?_ (fun _ Y q'=>AB q') fun _ _ z=>z);refine Cn (e:= .ListComp a5 (⟨c1,c2,c3,0⟩::cs) scope pos) (use:=some (assign (.Name x p') X.env)) rfl hs (zt a7) a6.kind (fun x hx hl=>wl a6.nd (by rw[←hl];exact hx)) ?_;show wpAny _ _ (eval c2 X.env) _ _ s;unfold Wf at P;cases ef:fo r st with
 |no=>rw[ef]at P;exact P.elim
 |ex x s1 =>
  rw[ef]at P;refine eE (hi Kf s σ H (fun _ _=>False) I ⟨b,r,st,S,RE,by rw[ef];exact P⟩) fun v s2 h2=>eE h2 fun ar s3 h3=>?_;obtain⟨_,_,_,_,_,_,_,_,_,_,z⟩:=h3;exact z.elim
 |ok o s1 =>
  rw[ef]at P;have⟨sl,Kh,ho,hd⟩:∃sl Kh,o= .ref sl∧s1[sl]? = some (.d Kh):=by
   cases o with
   |ref sl =>
    have P:dX X.K E H b (match s1[sl]? with
     |some (.d Kh)=>match qq (fun _=>True) (QG ⟨fun _ _=>.no,g,ts⟩ (QY gs f) (wK Kk Kl.length r)) (Kh.map (WC it)) (s1.set sl (.z Kh)) with| .ok l Y=>if l.length≤sizeLine then .ok l (Y.set sl (.d Kh)) else .no|_=>.no
     |_=>.no) (fun v H'=>D0.nx (σ.set i (some v)) H'):=P
    cases hd:s1[sl]? with
    |none=>rw[hd]at P;exact P.elim
    |some so =>
     rw[hd]at P;cases so with|d Kh=>exact⟨sl,Kh,rfl,hd⟩|l _=>exact P.elim|z _=>exact P.elim
   |_=>exact P.elim
  subst ho;have P:dX X.K E H b (match qq (fun _=>True) (QG ⟨fun _ _=>.no,g,ts⟩ (QY gs f) (wK Kk Kl.length r)) (Kh.map (WC it)) (s1.set sl (.z Kh)) with
   | .ok l Y=>if l.length≤sizeLine then .ok l (Y.set sl (.d Kh)) else .no
   |_=>.no) (fun v H'=>D0.nx (σ.set i (some v)) H'):=by
   have P:dX X.K E H b (match s1[sl]? with
     |some (.d Kh)=>match qq (fun _=>True) (QG ⟨fun _ _=>.no,g,ts⟩ (QY gs f) (wK Kk Kl.length r)) (Kh.map (WC it)) (s1.set sl (.z Kh)) with| .ok l Y=>if l.length≤sizeLine then .ok l (Y.set sl (.d Kh)) else .no|_=>.no
     |_=>.no) (fun v H'=>D0.nx (σ.set i (some v)) H'):=P
   rw[hd]at P;exact P
  refine eE (hi Kf s σ H (fun J' H'=>∃H1 b1 U vs od es ep,dY H b H1 b1∧gr X.K H1 b1 s1 sl U Kh vs∧od.data= .dict es ep∧NF X U∧J'=J U od es ep vs∧H'=dW H1 U (.frz od (.dT vs))) I ⟨b,r,st,S,RE,by
   rw[ef];exact fun v H1 b1 e1 S1 r1=>by
    obtain⟨U,vs,rfl,B⟩:=gr.of S1 r1 hd;exact⟨U,vs,rfl,B.h,fun od es ep a3 nf=>⟨H1,b1,U,vs,od,es,ep,e1,B,a3,nf,rfl,rfl⟩⟩⟩) fun v s2 h2=>eE h2 fun ar s3 h3=>?_
  obtain⟨as,fp,tn,J',H2,rfl,I2,T,t2,f2,H1,Z,U,vs,od,es,ep,e2,B,a3,nf,rfl,a4⟩:=h3;have hm:U∈Z.b:=Ap B.ix;have S2:SR X.K H2 Z (s1.set sl (.z Kh)):=by rw[a4];exact B.fr od
  have i2:ZA X.K H2 Z (J U od es ep vs) ⟨Kh.map (WC it),fun _=>True⟩:=by rw[a4];exact hJ B a3
  have w1:WE H1 Z H2 Z:=by rw[a4];exact WE.wr (.inl hm)
  have a8:H2 U=some (.frz od (.dT vs)):=by rw[a4];exact qS
  cases ev:qq (fun _=>True) (QG ⟨fun _ _=>.no,g,ts⟩ (QY gs f) (wK Kk Kl.length r)) (Kh.map (WC it)) (s1.set sl (.z Kh)) with
  |no=>rw[ev]at P;exact P.elim
  |ex x s4=>rw[ev]at P;exact P.elim
  |ok l a9 =>
   rw[ev]at P;have P:dX X.K E H b (if l.length≤sizeLine then .ok l (a9.set sl (.d Kh)) else .no) (fun v H'=>D0.nx (σ.set i (some v)) H'):=P;by_cases hl:l.length≤sizeLine
   ·rw[AE hl]at P;have O:H2 s3.heap.objs.size=none:=I2.hok.fresh (AG _);refine CH ?_;generalize ac:({ s3 with heap:=s3.heap.push { cls:=.type "list",data:=.seq ([]:KQ KR).toArray } }:KS)=F;have I3:L2.Inv X Kf σ (dW H2 s3.heap.objs.size (.lst [])) F:=by rw[←ac];exact I2.laid (t':=s3.toks) (fun a u e=>AC _ e) (AG _) (show ey X.prog X.w _ _ _ (.lst []) from⟨Au _,[],0,.nil,AR _ rfl⟩)
    have k3:∀a o,s3.heap.get? a=some o->F.heap.get? a=some o:=fun a o e=>by rw[←ac];exact AC _ e
    have au:∀a∈fp,a<s3.heap.objs.size:=fun a M=>by obtain⟨o,e,_⟩:=T.obj _ _ t2 a M;exact AL e
    have f3:∀a∈fp,zf X Kf (dW H2 s3.heap.objs.size (.lst [])) a:=fun a M=>⟨by rw[qG (Aa (au a M))];exact (f2 a M).1,(f2 a M).2⟩;have ae:∀a∈fp,a<F.heap.objs.size:=fun a M=>by obtain⟨o,e,_⟩:=T.obj _ _ t2 a M;exact AL (k3 a o e)
    generalize hD:s3.heap.objs.size=D at I3 f3 O;refine yJ ?_;have J0:=zj a6 I3 f3 ae rfl;obtain⟨he,hg,av⟩:=sub F (dW H2 D (.lst [])) fp (X.pn++Kf);have k4:∀a o,F.heap.get? a=some o->(pushCells (F.heap.push { cls:=.type "dict",data:=.dict #[] }) scope.names).get? a=some o:=fun a o e=>CV _ _ _ _ (AC _ e);have aw:D∉Z.z:=(S2.new_notin O).2;have Kw:=Ze (X:=fN X scope (Kn++Kl) F (dW H2 D (.lst [])) fp (X.pn++Kf)) (fun _ _ z=>z) (gens:=⟨c1,c2,c3,0⟩::cs) (scope:=scope) (pos:=pos) (D:=D) he gs cs 0 ⟨c1,c2,c3,0⟩ ⟨fun _ _=>.no,g,ts⟩ rfl hg av [] _ _ _ ⟨Z.b,D::Z.z⟩ (wK Kk Kl.length r) (s1.set sl (.z Kh)) a9 as fp tn _ ⟨Kh.map (WC it),fun _=>True⟩ [] l
     (compPost (model X.prog X.w) X.A X.xe (some (assign (.Name x p') X.env)) (fun _ Y=>∃v H',L2.Inv X Kf (σ.set i (some v)) H' Y∧D0.nx (σ.set i (some v)) H') (.ref D) F.heap.objs.size) J0 (SR.hide S2 O) (Z9 (((RE.ext e2).wext w1).wext (WE.hide O))) AI qS T (T.keep _ _ _ t2 fun a M o e=>k4 a o (k3 a o e))
     (fun a M=>⟨(f3 a M).1,(J0.ok.exf a M).1,J0.ok.exfs a M,.inl M,(J0.ok.exf a M).2,fun p hp=>(f3 a M).2.2.2.2.2 p (by simpa[fN] using hp)⟩) (ZX i2 O) ev (by simpa using hl)
     (fun Y σ' H' b' lV I' e' S' R' ax r'=>by
      obtain⟨m,hn,_⟩:=I'.loc;have hn:Y.heap.Ns F.heap.objs.size m:=hn;have ay:L2.Inv X Kf σ H' Y:=yF I3 f3 I' ⟨rfl,fun _ _=>rfl⟩;have hC:H' F.heap.objs.size=none:=I'.free;have a1:zf X Kf H' F.heap.objs.size:=I3.fpOk (AG _) hC;obtain⟨oC,az,aA,af,ag,aB⟩:=id hn;have ah:=ay.pinned (fp:=[F.heap.objs.size]) (fun b hb=>by rw[Af.mp hb];exact a1) (fun b hb=>by rw[Af.mp hb];exact⟨oC,af,fun v z=>by rw[ag]at z;cases z⟩);have aC:b'.z=D::Z.z:=e'.same;have aa:U≠D:=fun z=>by rw[z,O]at a8;cases a8
      have aD:H' U=some (.frz od (.dT vs)):=e'.fz U od _ aa (by rw[qG aa];exact a8);show wpAny (model X.prog X.w) X.A (assign (.Name x p') X.env (.ref D)) _ _ Y;refine wpAny_assign_Name ?_;refine wg ah hN ap hx (v:=.ref D) rfl (fun ai aj=>?_) hf;have ak:ai.heap.get? F.heap.objs.size=some oC:=by
       have hm:(F.heap.objs.size,oC)∈X.pn++(Kf++zq [F.heap.objs.size] Y.heap):=by unfold zq;simp[af]
       exact (aj.pin _ hm).1
      refine⟨m,⟨oC,az,aA,ak,ag,aB⟩,fun aE sb=>⟨.ref D,dW H' U (.dT vs),l9 ((aj.unpinned).turned (t':=ai.toks) (fun b o hb e=>sb.extBut b o hb e) a1.1 a1.2.1 a1.2.2.2.1 a1.2.2.2.2.1 (fun p hp=>a1.2.2.2.2.2 p hp)) aD nf.1 nf.2,?_⟩⟩;have ex:dY H2 Z H' ⟨b'.b,Z.z⟩:=by
       refine⟨⟨?_,⟨[],rfl,by simp⟩,fun a o M ho=>?_,fun a o M=>?_⟩,rfl,fun a o hz M=>?_,fun a o u M=>e'.fz a o u (qL M O) (by rw[qG (qL M O)];exact M)⟩
       ·obtain⟨n,hb,hh⟩:=e'.more;exact⟨n,hb,fun a M=>by
         have:=hh a M
         by_cases q:a=D;rw[q];exact O;rwa[qG q]at this⟩
       ·have a0:a≠D:=qL M O;exact e'.keep a o (by rw[qG a0];exact M) ⟨ho.1,fun z=>(AK.mp z).elim a0 ho.2⟩
       ·have a0:a≠D:=qL M O;exact e'.dom a o (by rw[qG a0];exact M)
       ·have a0:a≠D:=qL M O;exact e'.hid a o (AH _ hz) a0 (by rw[qG a0];exact M)
      have te:dY H1 Z (dW H' U (.dT vs)) ⟨b'.b,Z.z⟩:=pz (by rw[←a4];exact ex) B.h hm B.S.zb;have al:(⟨b'.b,D::Z.z⟩:Bz)=b':=by rw[←aC]
      have am:b'.b[sl]? = some U:=e'.toWE.ix B.ix;have ao:U∈b'.b:=Ap am;have we:WE H1 Z (dW H' U (.dT vs)) b':=(w1.trans ((WE.hide O).trans e'.toWE)).trans (WE.wr (.inl ao));refine P D lV (dW H' U (.dT vs)) ⟨b'.b,Z.z⟩ (e2.trans te) (e2.none_of (w1.none_of O)) (by rw[qG aa.symm];simpa using ax) aw ?_ ?_;show SR X.K _ ⟨b'.b,D::Z.z⟩ (a9.set sl (.d Kh));rw[al];exact S'.wr (x:=.d Kh) am ⟨vs,rfl,B.ks,dS.wext we _ B.rs⟩;show dS X.K _ ⟨b'.b,D::Z.z⟩ l lV;rw[al];exact dS.wext (WE.wr (.inl ao)) _ r')
    exact w4 rfl rfl Kw (T.self X.A 0 _ _ _ (T.keep _ _ _ t2 fun a M o e=>k4 a o (k3 a o e)) Kw)
   ·rw[AD hl]at P;exact P.elim
section
variable{X:Cx}{E:XK}{x:Str}{p' Kx:Pos}{KH iter:K2}{KF:KQ K2}{n:Nat}{KG Kt Kq:Pos}{KP:KQ K2}{cs:KQ Comprehension}{scope:Scope}{pos:Pos}{Kn Kl:KQ Str}{Kk:KQ Nat}{fo:FE}{g:FG}{ts:KQ FT}{gs:KQ fw}{f:FE}
def G7(i:Nat)(Y:X.N.Nodup)(M:ik X scope Kn Kl Kk)
  (Z:VE X E iter fo) (sub:∀s H fp pn,VE (fN X scope (Kn++Kl) s H fp pn) E0 KH f∧GOk (fN X scope (Kn++Kl) s H fp pn) ⟨.Tuple KF n KG,.Call (.Attribute iter "items" Kt) [] [] Kq,KP,0⟩ ⟨fun _ _=>.no,g,ts⟩∧eP (fN X scope (Kn++Kl) s H fp pn) cs gs)
  (O:X.N[i]? = some x:=by rfl) (hx:Loc X.env.scope x:=by first|exact Or.inl rfl|exact Or.inr rfl) (hf:X.fn x=true∨X.env.scope.names.lookup x=some .local:=by first|exact .inl rfl|exact .inr rfl|assumption)
  (U:swapsWith (.ListComp KH (⟨.Tuple KF n KG,.Call (.Attribute iter "items" Kt) [] [] Kq,KP,0⟩::cs) scope pos) (some (.Name x p')) Kx.line X.env=pure true:=by rfl) (hs:∀x,foldedSetIterable (.Call (.Attribute iter "items" Kt) [] [] Kq) X.env x=pure x:=by intro _;rfl)
  (F:attributeBase iter "items" X.env (eval iter X.env)=eval iter X.env:=by rfl) (I:(Kt.endLine==Kq.line)=true:=by rfl) :
  VS X E (.Assign [.Name x p'] (.ListComp KH (⟨.Tuple KF n KG,.Call (.Attribute iter "items" Kt) [] [] Kq,KP,0⟩::cs) scope pos) Kx) (qx i (eI (Wf true Kk Kl.length fo g ts gs f))) :=
 PS.imp (uW (J:=kP) i Y O hx hf U M (uA Z F I) vz sub hs) fun D s H ⟨b,r,st,S,R,P⟩=>⟨b,r,st,S,R,dX.of (dR.bindS P fun p s1 u H1 b1 e1 S1 r1 P1=>P1 _ H1 b1 (dY.refl _ _) S1 ((R.ext e1).set r1 i))⟩
end
end EV
end
section
namespace EX
open PySem PySem.Spec PyProof.Rows L2 PySem.W
section
variable{prog:KZ}{w:K0}{A:K1}{E:KR->KS->Prop}{s:KS}{d it a:KU}{es:K3 DictEntry}{ep i:Nat}{f:Bool}
def IE{Q:KW KR->KS->Prop}{ok U:KR}{oa:Obj}(F:KdxIt s.heap it d i es.size ep ok U a f)(ha:s.heap.get? a=some oa)(a4:a≠it)(m:eQ s.heap d es ep){e:DictEntry}(hx:es[i]? = some e)
  (hQ:∀h',KdxIt h' it d (i+1) es.size ep ok U a true->h'.get? s.heap.objs.size=some { cls:=.type "tuple",data:=.seq #[e.key,e.val] } ->
   (∀b o,b≠it->s.heap.get? b=some o->h'.get? b=some o)->Q (some (.ref s.heap.objs.size)) { s with heap:=h' }):wpAny (model prog w) A (pyNext (.ref it)) Q E s:=by
 obtain⟨O,g,Z,tk,os⟩:=s;obtain⟨od,a0,a6,a1⟩:=m.ex;obtain⟨a5,rfl⟩:=BG.mp hx;have R:Shared.TypeIs ⟨O,g,Z,tk,os⟩ (.ref it) "dict_itemiterator" :=⟨_,F,rfl⟩;have a2:Builtin.Dict_items.ownsTuple "dict_itemiterator" = true:=by decide
 unfold pyNext;refine AA (Bh (A0 (name:=Str.ofString "__next__") R BH (As BH R CD ?_ (CA _))));refine AA (AB (AA (AA ?_)));first|refine AA (BE R (AB (AA (BU F rfl ?_))))|refine AA (BS R (AB (AA (BU F rfl ?_))))
 simp only[a2,Cr];show wpAny _ _ (if (Value.ref d==Value.none)=true then _ else _) _ _ _;rw[AD (show ¬((Value.ref d==Value.none)=true) from A6)];refine AA (AB (AA (By a0 a1 ?_)));rw[AD (by simp)];refine AA (AB (AA (CC a0 a1 ?_)));rw[AD (by simp)];refine AB ?_;simp only[show ¬((i:Int)<0) from by omega,BQ,BC,AN a5];refine AA ?_;first|refine AA (BE R (AB (AA (Bg R ?_))))|refine AA (BS R (AB (AA (Bg R ?_))))
 show wpAny _ _ (setField (.ref it) 3 (rawInt ((i:Int)+1)) >>= _) _ _ ⟨O,g,Z,tk,os⟩;refine AA (B8 F (by simp) fun I k1 s1=>?_);have s1:Heap.SameBut it O I:=s1;have k1:KdxIt I it d (i+1) es.size ep ok U a f:=by
  have e:((i+1:Nat):Int)=(i:Int)+1:=by omega
  unfold KdxIt;rw[e];simpa[rawInt] using k1
 have T1:Shared.TypeIs ⟨I,g,Z,tk,os⟩ (.ref it) "dict_itemiterator" :=⟨_,k1,rfl⟩;refine AA (Aq (AA (Bg T1 (AA (Bg T1 ?_)))));show wpAny _ _ (Builtin.Dict_items.pairFromOwner (.ref it) 6 es[i].key es[i].val) _ _ ⟨I,g,Z,tk,os⟩;unfold Builtin.Dict_items.pairFromOwner;refine AA (wpAny_newTuple ?_);have z1:I.objs.size=O.objs.size:=s1.1;have k2:KdxIt (I.push { cls:=.type "tuple",data:=.seq #[es[i].key,es[i].val] }) it d (i+1) es.size ep ok U a f:=AC _ k1;have t2:(I.push { cls:=.type "tuple",data:=.seq #[es[i].key,es[i].val] }).get? O.objs.size=some { cls:=.type "tuple",data:=.seq #[es[i].key,es[i].val] }:=by rw[←z1];exact AR _ rfl
 have b2:∀b o,b≠it->O.get? b=some o->(I.push { cls:=.type "tuple",data:=.seq #[es[i].key,es[i].val] }).get? b=some o:=fun b o hb q=>AC _ (s1.extBut b o hb q);have ne:O.objs.size≠it:=Bt (AL F);generalize I.push { cls:=.type "tuple",data:=.seq #[es[i].key,es[i].val] }=h2 at k2 t2 b2 ⊢;rw[z1];have a3:∀M:Heap,KdxIt M it d (i+1) es.size ep ok U a true->Heap.SameBut it h2 M->Q (some (.ref O.objs.size)) ⟨M,g,Z,tk,os⟩:=fun M k3 Y=>hQ M k3 (Y.extBut _ _ ne t2) fun b o hb q=>Y.extBut b o hb (b2 b o hb q);unfold Builtin.Dict_items.ownedTupleIsFree;refine AA (AA (A9 k2 rfl (x:=rawInt a) rfl ?_));show wpAny _ _ (loadIfAlive ((a:Int).toNat) >>= _) _ _ _;rw[BC];refine AA (kdx_alive (b2 a oa a4 ha) ?_);simp only[Option.isNone_some,A4,BQ];refine AA (A9 k2 rfl (x:=.bool f) rfl ?_);cases f with
 |true=>rw[AD (show ¬((Value.bool true != Value.bool true)=true) from A6)];refine AB ?_;simp only[A4,BQ];exact AB (AB ⟨_,rfl,AB (a3 h2 k2 (Heap.SameBut.refl _ _))⟩)
 |false =>
  rw[AE (show (Value.bool false != Value.bool true)=true from rfl)];refine AA (B8 k2 (by simp) fun M k3 Y=>?_);have Y:Heap.SameBut it h2 M:=Y;have k3:KdxIt M it d (i+1) es.size ep ok U a true:=k3;refine AB ?_;simp only[A4,BQ];exact AB (AB ⟨_,rfl,AB (a3 M k3 Y)⟩)
def sD{Q:KW KR->KS->Prop}{ok ov:KR}(hn:Hnd A s.heap)(z4:∀v,A.handled=some v->v≠ .ref it)(F:KdxIt s.heap it d i es.size ep ok ov a f)(m:eQ s.heap d es ep)(hx:es.size≤i)
  (hQ:∀h',(∀b o,b≠it->s.heap.get? b=some o->h'.get? b=some o)->Q none { s with heap:=h' }):wpAny (model prog w) A (pyNext (.ref it)) Q E s:=by
 obtain⟨od,M,a0,O⟩:=m.ex;have I:s.TypeIs (.ref it) "dict_itemiterator" :=⟨_,F,rfl⟩;have R:Builtin.Dict_items.ownsTuple "dict_itemiterator" = true:=by decide
 unfold pyNext;refine AA (Bh (A0 (name:=Str.ofString "__next__") I BH (As BH I CD ?_ (CA _))));refine AA (AB (AA (AA ?_)));first|refine AA (BE I (AB (AA (BU F rfl ?_))))|refine AA (BS I (AB (AA (BU F rfl ?_))))
 simp only[R,Cr];show wpAny _ _ (if (Value.ref d==Value.none)=true then _ else _) _ _ s;rw[AD (show ¬((Value.ref d==Value.none)=true) from A6)];refine AA (AB (AA (By M O ?_)));rw[AD (by simp)];refine AA (AB (AA (CC M O ?_)));rw[AD (by simp)];refine AB ?_;simp only[show ¬((i:Int)<0) from by omega,BQ,BC,CP hx];refine AA ?_;first|refine AA (BE I (AB ?_))|refine AA (BS I (AB ?_))
 show wpAny _ A.in1 (setField (.ref it) 2 .none >>= _) _ _ s;refine AA (Ba F rfl (by simp) ?_);refine wm (A:=A.in1) ?_ fun h' e k ht=>?_
 ·intro v Y;obtain⟨Z,oe,vs,e1,e2,e3⟩:=hn v Y;refine⟨Z,oe,vs,e1,?_,e3⟩;have U:Z≠it:=fun z=>z4 v Y (by rw[e1,z]);exact (AV _ _ (Ne.symm U)).trans e2
 ·refine AA (BL (T := "StopIteration") (b:=true) ht Cg ?_);exact AB (hQ _ fun b o' hb q=>k b o' ((AV _ _ (Ne.symm hb)).trans q))
def ii(h:Heap)(it d:KU)(i n ep:Nat):Prop:=(∃ok F,IsItemIter h it d i n ep ok F)∨∃ok F a f I,KdxIt h it d i n ep ok F a f∧h.get? a=some I∧a≠it∧I.cls= .type "tuple"
def ii.there{h:Heap}{n:Nat}(st:ii h it d i n ep):∃o,h.get? it=some o∧∀v,o.data≠ .cell v:=by
 rcases st with⟨ok,F,x⟩|⟨ok,F,a,f,I,x,_⟩
 ·exact⟨_,x,fun v z=>by cases (show Data.fields _=Data.cell v from z)⟩
 ·exact⟨_,x,fun v z=>by cases (show Data.fields _=Data.cell v from z)⟩
def ii.keep{h h':Heap}{n:Nat}{S:KU}{R:Obj}(st:ii h it d i n ep)(Y:h.get? S=some R)(Z:R.cls= .type "list")(F:it≠S)(k:∀b o,b≠S->h.get? b=some o->h'.get? b=some o):ii h' it d i n ep:=by
 rcases st with⟨ok,I,x⟩|⟨ok,I,a,f,U,x,M,x3,O⟩
 ·exact .inl ⟨ok,I,k _ _ F x⟩
 ·exact .inr ⟨ok,I,a,f,U,k _ _ F x,k a U (fun z=>by rw[z,Y]at M;cases M;rw[Z]at O;exact absurd O (by decide)) M,x3,O⟩
def EY{Q:KW KR->KS->Prop}(st:ii s.heap it d i es.size ep)(m:eQ s.heap d es ep){e:DictEntry}(R:es[i]? = some e)
  (U:∀h',ii h' it d (i+1) es.size ep->h'.get? s.heap.objs.size=some { cls:=.type "tuple",data:=.seq #[e.key,e.val] } ->
   (∀b o,b≠it->s.heap.get? b=some o->h'.get? b=some o)->Q (some (.ref s.heap.objs.size)) { s with heap:=h' }):wpAny (model prog w) A (pyNext (.ref it)) Q E s:=by
 rcases st with⟨ok,Z,x⟩|⟨ok,Z,a,f,oa,x,Y,M,x4⟩
 ·exact jY x m R fun h' O F I=>U h' (.inr ⟨_,_,_,_,_,O,F,Bt (AL x),rfl⟩) F I
 ·exact IE x Y M m R fun h' O F I=>U h' (.inr ⟨_,_,_,_,_,O,I a oa M Y,M,x4⟩) F I
def sW{Q:KW KR->KS->Prop}(I:A.handled=none)(st:ii s.heap it d i es.size ep)(m:eQ s.heap d es ep)(M:es.size≤i)
  (O:∀h',(∀b o,b≠it->s.heap.get? b=some o->h'.get? b=some o)->Q none { s with heap:=h' }):wpAny (model prog w) A (pyNext (.ref it)) Q E s:=by
 have R:Hnd A s.heap:=fun v F=>by rw[I]at F;cases F
 rcases st with⟨ok,U,x⟩|⟨ok,U,a,f,Y,x,Z,x3,x4⟩
 ·exact pF R (fun v F=>by rw[I]at F;cases F) x m M O
 ·exact sD R (fun v F=>by rw[I]at F;cases F) x m M O
end
def WN(H:Hp)(ts:KQ (KU×KU×V)):Hp:=ts.foldl (fun H t=>dW H t.1 (.tup [.ref t.2.1,t.2.2])) H
def ZY{H:Hp}{ts:KQ (KU×KU×V)}{t:KU×KU×V}:WN H (ts++[t])=dW (WN H ts) t.1 (.tup [.ref t.2.1,t.2.2]):=by unfold WN;rw[List.foldl_append];rfl
inductive Ch (H0:Hp) (S:Addr) (vs:List (List Key×V)):List (Addr×Addr×V)->Prop
 |nil:Ch H0 S vs []
 |snoc {ts:List (Addr×Addr×V)} {T c:Addr} {k:List Key} {v:V}:Ch H0 S vs ts->WN H0 ts T=none->T≠S->vs[ts.length]? = some (k,v)->H0 c=some (.tup (k.map kV))->Ch H0 S vs (ts++[(T,c,v)])
def Ch.old{H0:Hp}{S:KU}{vs:KQ (KQ Key×V)}{ts:KQ (KU×KU×V)}(h:Ch H0 S vs ts){x:KU}{o:HO}(e:H0 x=some o):WN H0 ts x=some o:=by
 induction h with|nil=>exact e|snoc _ I _ _ _ F=>rw[ZY,qG (qL F I)];exact F
def Dx{G:Hp}{S T:KU}{x y z:HO}:dW (dW (dW G S x) T y) S z=dW (dW G T y) S z:=by
 funext b;by_cases h:b=S;rw[h,qS,qS]
 ·rw[qG h,qG h];by_cases F:b=T;rw[F,qS,qS];rw[qG F,qG F,qG h]
def G9{X:Cx}{Kf:KQ (KU×Obj)}{σ:L2.St}{A:K1}(hh:A.handled=none){S it a:KU}{od:Obj}{es:K3 DictEntry}{ep:Nat}{vs:KQ (KQ Key×V)}{H0:Hp}{R:Result->KS->Prop}{res:KR}(ac:H0 S=none)(hsz:vs.length≤sizeLine)(Y:it≠S)(a3:a≠S)(z:fV H0 a od es ep vs)
  (g0:∀(i:Nat) (k:KQ Key) (v:V),vs[i]? = some (k,v)->∃(e:DictEntry) (b:KU),es[i]? = some e∧e.key= .ref b∧H0 b=some (.tup (k.map kV)))
  (fp:∀H,H it=none->zf X Kf H it)
  (hR:∀s' ts,L2.Inv X Kf σ (dW (WN H0 ts) S (.lst (ts.map fun t=>V.ref t.1))) s'->ts.length=vs.length->Ch H0 S vs ts->R (.ok (.ret res)) s') :
  ∀(k:Nat) (s:KS) (ts:KQ (KU×KU×V)),vs.length-ts.length=k->ts.length≤vs.length->L2.Inv X Kf σ (dW (WN H0 ts) S (.lst (ts.map fun t=>V.ref t.1))) s->WN H0 ts it=none->Ch H0 S vs ts->ii s.heap it a ts.length es.size ep ->
  codeAny (model X.prog X.w) A (.builtin "list.extend.loop" ⟨[.ref S,.ref it,res],[]⟩) R s:=by
 intro k;induction k with
 |zero =>
  intro s ts hk hi I Z O st;have z':fV (dW (WN H0 ts) S (.lst (ts.map fun t=>V.ref t.1))) a od es ep vs:=⟨by rw[qG a3];exact O.old z.at_,z.dat⟩;obtain⟨m,sz,get⟩:=z'.raw I.hok;have M:=fp (dW (WN H0 ts) S (.lst (ts.map fun t=>V.ref t.1))) (by rw[qG Y];exact Z);refine BV PySem.F.entry_extend_loop ?_;rw[Bo B9 _];show wpAny _ A.in1 (pyNext (.ref it) >>= _) _ _ _;refine AA (sW (A:=A.in1) hh st m (by omega) fun h' he=>?_);refine AB (hR _ ts (I.turned (t':=s.toks) (fun b o U e=>he b o U e) M.1 M.2.1 M.2.2.2.1 M.2.2.2.2.1 (fun p hp=>M.2.2.2.2.2 p hp)) (by omega) O)
 |succ k ih =>
  intro s ts hk hi I Z O st;have a0:ts.length<vs.length:=by omega
  have z':fV (dW (WN H0 ts) S (.lst (ts.map fun t=>V.ref t.1))) a od es ep vs:=⟨by rw[qG a3];exact O.old z.at_,z.dat⟩;obtain⟨m,sz,get⟩:=z'.raw I.hok;obtain⟨e,c,u,g1,g2,g3,g4,g5⟩:=get ts.length _ _ (AJ a0);have M:=fp (dW (WN H0 ts) S (.lst (ts.map fun t=>V.ref t.1))) (by rw[qG Y];exact Z);have a8:ey X.prog X.w (dW (WN H0 ts) S (.lst (ts.map fun t=>V.ref t.1))) s.heap S (.lst (ts.map fun t=>V.ref t.1)):=I.hok S _ qS;obtain⟨hz,Ki,n,rv,eS⟩:=id a8;have a4:Ki.length=ts.length:=by rw[←rv.length,AF]
  have a1:S<s.heap.objs.size:=AL eS;obtain⟨oi,a9,_⟩:=st.there;have a5:it<s.heap.objs.size:=AL a9;have aa:WN H0 ts s.heap.objs.size=none:=by
   have:=I.hok.fresh (AG s.heap.objs.size)
   rwa[qG (Bt a1)]at this
  refine BV PySem.F.entry_extend_loop ?_;rw[Bo B9 _];show wpAny _ A.in1 (pyNext (.ref it) >>= _) _ _ _;refine AA (EY (A:=A.in1) st m g1 fun h' a6 y2 y3=>?_);have hT:IsPair h' s.heap.objs.size (.ref c) u:=by rw[g2,g3]at y2;exact y2
  have I2:=ot (t':=s.toks) (h':=h') (fp:=[it]) (x:=.ref c) (y:=vs[ts.length].2) I (fun b U=>by rw[Af.mp U];exact M) rfl g5 (fun b o U q=>y3 b o (fun y=>U (by simp[y])) q) (fun b U=>by rw[Af.mp U];obtain⟨o',ab,_⟩:=a6.there;exact⟨o',ab⟩) hT;have a2:=y3 S _ (Ne.symm Y) eS;show wpAny _ A.in1 (updateSeq S (·.push (Value.ref s.heap.objs.size)) >>= _) _ _ _;refine AA ?_;have up:∀b o,b≠S->h'.get? b=some o->(h'.update S (Obj.mapSeq (·.push (Value.ref s.heap.objs.size)))).get? b=some o:=fun b o U q=>(AV _ _ (Ne.symm U)).trans q;have a7:=Av (Obj.mapSeq (·.push (Value.ref s.heap.objs.size))) a2 rfl;have I3:=I2.write (x:=S) (e:=S) (o:=.lst ((ts++[(s.heap.objs.size,c,vs[ts.length].2)]).map fun t=>V.ref t.1)) (h':=h'.update S (Obj.mapSeq (·.push (Value.ref s.heap.objs.size)))) (t':=s.toks) (by rw[qG (Aa a1),qS];exact True.intro) (.inl rfl) (fun b o U q=>up b o U q) ⟨_,a7⟩ ⟨by rw[AF,Ac,A2];omega,Ki++[Value.ref s.heap.objs.size],_,by rw[BK];exact rv.append (.cons rfl .nil),by have:=a7;simpa[Obj.mapSeq] using this⟩;rw[Dx]at I3;refine CY a2 rfl (AB ⟨Ct B9 _,ih _ (ts++[(s.heap.objs.size,c,vs[ts.length].2)]) (by rw[Ac,A2];omega) (by rw[Ac,A2];omega) (by rw[ZY];exact I3) (by rw[ZY,qG (Aa a5)];exact Z) (.snoc (k:=vs[ts.length].1) O aa (Bt a1) (AJ a0) ?_) ?_⟩) (by rw[AX,a4];omega) (by rw[Array.size_push,AX,a4];omega);obtain⟨e',b',q1,q2,q3⟩:=g0 ts.length _ _ (AJ a0);rw[g1]at q1;cases q1;rw[g2]at q2;cases q2;exact q3;rw[Ac,A2];exact a6.keep a2 rfl Y up
section
variable{X:Cx}{Kf:KQ (KU×Obj)}{σ:L2.St}{A:K1}{S r a:KU}{od:Obj}{es:K3 DictEntry}{ep:Nat}{vs:KQ (KQ Key×V)}{H0:Hp}{s:KS}
def IsItemsView.at{h h':Heap}(x:h.IsItemsView r a)(e:∀o,h.get? r=some o->h'.get? r=some o):h'.IsItemsView r a:=let ⟨o,F,q⟩:=x;⟨o,e o F,q⟩
def GA{R:Result->KS->Prop}(hh:A.handled=none)(a4:H0 S=none)(hsz:vs.length≤sizeLine)(U:a≠S)(Y:r≠S)(z:fV H0 a od es ep vs)
  (g0:∀(i:Nat) (k:KQ Key) (v:V),vs[i]? = some (k,v)->∃(e:DictEntry) (b:KU),es[i]? = some e∧e.key= .ref b∧H0 b=some (.tup (k.map kV)))
  (I:L2.Inv X Kf σ (dW H0 S (.lst [])) s) (hv:s.heap.IsItemsView r a) (hS:s.heap.get? S=some { cls:=.type "list",data:=.seq #[] })
  (hR:∀s' ts,L2.Inv X Kf σ (dW (WN H0 ts) S (.lst (ts.map fun t=>V.ref t.1))) s'->ts.length=vs.length->Ch H0 S vs ts->R (.ok (.ret .none)) s') :
  wpAny (model X.prog X.w) A.in1 (Builtin.«list.__init__» ⟨[.ref S,.ref r],[]⟩)
   (fun a5 s'=>match a5 with | .done f=>R (.ok f) s' | .again c'=>c'.quiet=true∧codeAny (model X.prog X.w) A c' R s') (fun e s'=>R (.error e) s') s:=by
 show wpAny _ _ (do let old ← Builtin.List.listItems (.ref S);Builtin.List.listUpdate (.ref S) (fun _ => #[]);letGo old.toList.reverse;Builtin.List.listExtendWith (.ref S) (.ref r) .none) _ _ s;refine AA ?_;unfold Builtin.List.listItems;refine AA (DN hS rfl (AB ?_));show wpAny _ _ (updateSeq S (fun _ => #[]) >>= fun _=>letGo (#[]:K3 KR).toList.reverse >>= fun _=>Builtin.List.listExtendWith (.ref S) (.ref r) .none) _ _ s;refine AA (CY hS rfl ?_);have wr:∀(s1:KS) (f:Obj->Obj) (c:Nat),L2.Inv X Kf σ (dW H0 S (.lst [])) s1->(s1.heap.update S f).get? S=some { cls:=.type "list",data:=.seq #[] c }->L2.Inv X Kf σ (dW H0 S (.lst [])) { s1 with heap:=s1.heap.update S f }:=fun s1 f c I1 e=>by
  have:=I1.write (x:=S) (e:=S) (o:=.lst []) (h':=s1.heap.update S f) (t':=s1.toks) (by rw[qS];exact True.intro) (.inl rfl) (fun b o hb q=>(AV _ _ (Ne.symm hb)).trans q) ⟨_,e⟩ ⟨Au _,[],c,.nil,e⟩
  have e2:dW (dW H0 S (.lst [])) S (.lst [])=dW H0 S (.lst []):=by funext b;by_cases h:b=S;(rw[h,qS,qS]);(rw[qG h])
  rw[e2]at this;exact this
 have F:=Av (Obj.mapSeq (fun _=>(#[]:K3 KR))) hS rfl;have Z:=wr s (Obj.mapSeq (fun _=>(#[]:K3 KR))) _ I F;refine AA (wpAny_letGo ?_);have M:(s.heap.update S (Obj.mapSeq (fun _=>(#[]:K3 KR)))).IsItemsView r a:=IsItemsView.at hv fun o e=>(AV _ _ (Ne.symm Y)).trans e;generalize a0:({ s with heap:=s.heap.update S (Obj.mapSeq (fun _=>(#[]:K3 KR))) }:KS)=s2 at Z ⊢;have M:s2.heap.IsItemsView r a:=by rw[←a0];exact M
 have F:∃c,s2.heap.get? S=some { cls:=.type "list",data:=.seq #[] c }:=by rw[←a0];exact⟨_,F⟩
 obtain⟨c0,F⟩:=F;have z2:fV (dW H0 S (.lst [])) a od es ep vs:=⟨by rw[qG U];exact z.at_,z.dat⟩;obtain⟨m,sz,_⟩:=z2.raw Z.hok;unfold Builtin.List.listExtendWith;refine AA (Bp (T := "dict_items") M.typeIs ?_);have h1:Builtin.List.listSameRef (.ref S) (.ref r)=false:=by simp[Builtin.List.listSameRef,Ne.symm Y]
 have h2:(Value.type "dict_items" == Value.type "list")=false:=by decide
 have h3:(Value.type "dict_items" == Value.type "tuple")=false:=by decide
 simp only[h1,h2,h3,Bool.or_false,A4,BQ];refine AA (jw M m ?_);have hf:dW H0 S (.lst []) s2.heap.objs.size=none:=Z.hok.fresh (AG _);have O:S<s2.heap.objs.size:=AL F;have fp:∀H,H s2.heap.objs.size=none->zf X Kf H s2.heap.objs.size:=fun H hn=>Z.fpOk (AG _) hn;have a1:=AC { cls:=.type "dict_itemiterator",data:=.fields #[.none,.bool false,.ref a,.int 0 0,.int es.size 0,.int ep 0,.none,.none] } F;have I3:=Z.kept (t':=s2.toks) (h':=s2.heap.push { cls:=.type "dict_itemiterator",data:=.fields #[.none,.bool false,.ref a,.int 0 0,.int es.size 0,.int ep 0,.none,.none] }) fun b o e=>AC _ e;have Ko:∀(h:Heap),(h.get? s2.heap.objs.size=some { cls:=.type "dict_itemiterator",data:=.fields #[.none,.bool false,.ref a,.int 0 0,.int es.size 0,.int ep 0,.none,.none] })->L2.Inv X Kf σ (dW H0 S (.lst [])) { s2 with heap:=h }->codeAny (model X.prog X.w) A (.builtin "list.extend.loop" ⟨[.ref S,.ref s2.heap.objs.size,.none],[]⟩) R { s2 with heap:=h }:=fun h e I4 =>
  G9 hh a4 hsz (Bt O) U z g0 fp hR vs.length _ [] (Nat.sub_zero _) (Au _) I4 (by rw[qG (Bt O)]at hf;exact hf) .nil (.inl ⟨.none,.none,e⟩)
 refine AA (Aq (kdx_hint (let ⟨o,ho,hc,_⟩:=M;⟨o,AC _ ho,hc⟩) ?_));refine wpAny_ite_split (fun _=>?_) (fun _=>AB ⟨Ct B9 _,Ko _ (AR _ rfl) I3⟩);refine AA (Cu ?_);refine AA ?_;show wpAny _ _ (updateSeq S (·.push .none) >>= fun _=>updateSeq S (·.pop)) _ _ _;refine AA (CY a1 rfl ?_);have a2:=Av (Obj.mapSeq (·.push Value.none)) a1 rfl;refine CY (hz:=by seq_fits) a2 rfl ?_;have a3:=Av (Obj.mapSeq (·.pop)) a2 rfl;refine AB ⟨Ct B9 _,Ko _ ?_ ?_⟩;exact (AV _ _ (Aa O)).trans ((AV _ _ (Aa O)).trans (AR _ rfl))
 ·have:=I3.write (x:=S) (e:=S) (o:=.lst []) (h':=_) (t':=s2.toks) (by rw[qS];exact True.intro) (.inl rfl) (fun b o hb q=>(AV _ _ (Ne.symm hb)).trans ((AV _ _ (Ne.symm hb)).trans q)) ⟨_,a3⟩ ⟨Au _,[],_,.nil,a3⟩
  have e2:dW (dW H0 S (.lst [])) S (.lst [])=dW H0 S (.lst []):=by funext b;by_cases h:b=S;(rw[h,qS,qS]);(rw[qG h])
  rw[e2]at this;exact this
def Eu{Q:KR->KS->Prop}{E:KR->KS->Prop}(I:L2.Inv X Kf σ H0 s)(Y:A.handled=none)(z:fV H0 a od es ep vs)(hsz:vs.length≤sizeLine)(O:s.heap.IsItemsView r a)
  (Z:∀s' S ts,H0 S=none->L2.Inv X Kf σ (dW (WN H0 ts) S (.lst (ts.map fun t=>V.ref t.1))) s'->ts.length=vs.length->Ch H0 S vs ts->Q (.ref S) s'):wpAny (model X.prog X.w) A (call (.type "list") [.ref r]) Q E s:=by
 obtain⟨m,sz,get⟩:=z.raw I.hok;refine callType_codes (Q₁:=fun obj R=>obj= .ref s.heap.objs.size∧R={ s with heap:=s.heap.push { cls:=.type "list",data:=.seq #[] } }) PySem.F.called_list (PySem.F.typeCall_list_1 _) PySem.F.entry_list_init
  (code_list_new _ ⟨rfl,rfl⟩) fun obj R h₁=>?_
 obtain⟨rfl,rfl⟩:=h₁;have M:(s.heap.push { cls:=.type "list",data:=.seq #[] }).get? s.heap.objs.size=some { cls:=.type "list",data:=.seq #[] }:=AR _ rfl;have hr:r<s.heap.objs.size:=let ⟨_,ho,_⟩:=O;AL ho
 have ha:a<s.heap.objs.size:=let ⟨_,h,_⟩:=m.ex;AL h
 have U:H0 s.heap.objs.size=none:=I.hok.fresh (AG _);have I1:L2.Inv X Kf σ (dW H0 s.heap.objs.size (.lst [])) { s with heap:=s.heap.push { cls:=.type "list",data:=.seq #[] } }:=I.laid (t':=s.toks) (fun b o e=>AC _ e) (AG _) ⟨Au _,[],0,.nil,M⟩;refine⟨⟨_,M,rfl⟩,PySem.F.args_list_init_2 _ _,GA (A:=A.in1) Y U hsz (Aa ha) (Aa hr) z (fun i k v hi=>?_) I1 (IsItemsView.at O fun o e=>AC _ e) M (fun s' ts I' h1 h2=>?_)⟩;obtain⟨e,b,u,g1,g2,_,g4,_⟩:=get i k v hi;exact⟨e,b,g1,g2,g4⟩;exact⟨rfl,Z s' _ ts U I' h1 h2⟩
end
def Zs{b:KU}:∀{ts:KQ (KU×KU×V)} {G G':Hp},G b=G' b->WN G ts b=WN G' ts b
 |[],_,_,h=>h
 |t::ts,G,G',h=>by
  refine Zs (ts:=ts) (G:=dW G t.1 (.tup [.ref t.2.1,t.2.2])) (G':=dW G' t.1 (.tup [.ref t.2.1,t.2.2])) ?_;by_cases e:b=t.1;rw[e,qS,qS];rw[qG e,qG e];exact h
def Ch.thaw{H1:Hp}{a S:KU}{od:Obj}{w:HO}{vs:KQ (KQ Key×V)}{ts:KQ (KU×KU×V)}(h:Ch (dW H1 a (.frz od w)) S vs ts):Ch H1 S vs ts:=by
 induction h with
 |nil=>exact .nil
 | @snoc ts T c k v M I O R F U =>
  have Y:T≠a:=(qL (M.old qS) I).symm;have Z:c≠a:=fun z=>by rw[z,qS]at F;cases F
  exact .snoc U (by rw[←Zs (G:=dW H1 a (.frz od w)) (by rw[qG Y])];exact I) O R (by rw[qG Z]at F;exact F)
def Ch.back{H1:Hp}{a S:KU}{od:Obj}{vs:KQ (KQ Key×V)}{ts:KQ (KU×KU×V)}{l:HO}(h:Ch (dW H1 a (.frz od (.dT vs))) S vs ts)(O:H1 a=some (.dT vs))(F:a≠S):dW (dW (WN (dW H1 a (.frz od (.dT vs))) ts) S l) a (.dT vs)=dW (WN H1 ts) S l:=by
 funext b;by_cases I:b=a;rw[I,qS,qG F];exact (h.thaw.old O).symm
 ·rw[qG I];by_cases M:b=S;rw[M,qS,qS];rw[qG M,qG M];exact Zs (by rw[qG I])
section
variable{X:Cx}{l:K2}{tl:TE}{p pos Kt Kq:Pos}
def tF(tl:TE):TE:=fun σ H Q=>tl σ H fun x H1=>∃a vs,x= .ref a∧H1 a=some (.dT vs)∧∀(S:KU) (ts:KQ (KU×KU×V)),H1 S=none->ts.length=vs.length->Ch H1 S vs ts->Q (.ref S) (dW (WN H1 ts) S (.lst (ts.map fun t=>V.ref t.1)))
def HR(hc:X.calm=true)(hg:Gl X "list")(hm:X.mg "list" = none)(hl:PE X l tl)(M:attributeBase l "items" X.env (eval l X.env)=eval l X.env:=by rfl)(O:(Kt.endLine==Kq.line)=true:=by rfl)
  (he:starEach [.Call (.Attribute l "items" Kt) [] [] Kq] X.env=(false,eval (.Call (.Attribute l "items" Kt) [] [] Kq) X.env)::starEach [] X.env:=by rfl) (Ku:(backTo pos (starEach [] X.env)).any (·.1)=false:=by rfl) :
  PE X (.Call (.Name "list" p) [.Call (.Attribute l "items" Kt) [] [] Kq] [] pos) (tF tl):=by
 intro Kf s σ H Q I h;refine Bv (zL I hg hm Boot.«list» ?_ (by decide) (by decide));refine B2 ?_ he Ku;rw[he];show wpAny _ _ (spliced ((false,eval (.Call (.Attribute l "items" Kt) [] [] Kq) X.env)::[])) _ _ s;refine Bu ?_;refine wpAny_Call_method0_late M O (eE (hl Kf s σ H _ I h) fun v s1 ⟨x,H1,U,r1,a,vs,ex,e,q⟩=>?_);subst ex;cases r1;obtain⟨Z,t2,_⟩:=ms U (.inr ⟨vs,.inl e⟩);have nf:=mD U e;have hz:vs.length≤sizeLine:=(oq U.hok e).1;obtain⟨od,es,ep,hd,I2,hs,m,sz⟩:=md U e;refine⟨"dict","dict.items",PySem.F.plainAttrs_dict,Cq,PySem.F.type_dict_items,Z,t2,Cw rfl (PySem.evalArgs_none ?_)⟩;refine As Cq Z PySem.F.entry_dict_items ?_ (PySem.F.args_dict_items_1 _);unfold Builtin.«dict.items» Builtin.Dict.noArgs Builtin.Dict.showsAll;refine AA (AA (wpAny_notOrdered_dict Z (AB ?_)));show wpAny _ _ ((if (a==sysModules)=true then _ else _) >>= _) _ _ s1;rw[AD (by rw[hs];exact A6)];refine AA (AB (AA (A3 (AB ⟨_,rfl,?_⟩))));refine CG ?_;have k1:∀b o,s1.heap.get? b=some o->(s1.heap.push { cls:=.type "dict_items",data:=.fields #[.ref a] }).get? b=some o:=fun b o q=>AC _ q;have hv:(s1.heap.push { cls:=.type "dict_items",data:=.fields #[.ref a] }).IsItemsView s1.heap.objs.size a:=⟨_,AR _ rfl,rfl,rfl⟩;have I3:=I2.kept (t':=s1.toks) (h':=s1.heap.push { cls:=.type "dict_items",data:=.fields #[.ref a] }) k1;refine Eu (s:={ s1 with heap:=s1.heap.push { cls:=.type "dict_items",data:=.fields #[.ref a] } }) I3 (I.ok.hd hc) ⟨qS,hd⟩ hz hv fun s' S ts Y I' h1 h2=>?_;have R:a≠S:=fun y=>by rw[←y,qS]at Y;cases Y
 have It:=l9 I' (a:=a) (od:=od) (Kh:=vs) (by rw[qG R];exact h2.old qS) nf.1 nf.2;rw[h2.back e R]at It;exact⟨.ref S,_,It,rfl,q S ts (by rw[qG (Ne.symm R)]at Y;exact Y) h1 h2.thaw⟩
end
end EX
namespace EV
open PySem PySem.Spec PyProof.Rows L2 EX
def ye(f:FE):FL:=fun r st=>(f r st).bind fun o s=>match o with
 | .ref i=>match s[i]? with|some (.d Kh)=>.ok (Kh.map (WC true)) s|_=>.no
 |_=>.no
def Gs{K:KY}{H1:Hp}{b1:Bz}{s1:qC}{i:Nat}{x S:KU}{Kh:KQ (KQ L2.Key×PV)}{vs:KQ (KQ L2.Key×V)}(B:gr K H1 b1 s1 i x Kh vs){ts:KQ (KU×KU×V)}(h:Ch H1 S vs ts) :
  dS K (WN H1 ts) b1 ((Kh.take ts.length).map (WC true)) (ts.map fun t=>V.ref t.1)∧SR K (WN H1 ts) b1 s1∧dY H1 b1 (WN H1 ts) b1∧(H1 S=none->WN H1 ts S=none):=by
 induction h with
 |nil=>exact⟨dS.nil,B.S,dY.refl _ _,id⟩
 | @snoc ts T c k v h1 M h3 O h5 ih =>
  obtain⟨i1,R,Y,i4⟩:=ih;rw[ZY];have I:dY (WN H1 ts) b1 (dW (WN H1 ts) T (.tup [.ref c,v])) b1:=dY.new M;have F:ts.length<Kh.length:=by rw[B.len];exact (AT.mp O).1
  obtain⟨k',q,v',e1,Z,_,e4⟩:=B.get (it:=true) (j:=ts.length) (p:=WC true Kh[ts.length]) (by rw[Am,AJ F];rfl);rw[O]at Z;cases Z;obtain⟨w,hw,U⟩:=(dS.ext Y _ B.rs).get e4;rw[Am,O]at hw;cases hw;refine⟨?_,R.new M,Y.trans I,fun hS=>by rw[qG (Ne.symm h3)];exact i4 hS⟩;rw[Ac,A2,List.take_add_one,AJ F,BK,BK];refine dS.append (dS.ext I _ i1) (dS.cons ?_ dS.nil);rw[e1];show RV K _ b1 (.tup [wS k,q]) (.ref T);unfold RV;exact⟨T,_,rfl,.inl ⟨qS,R.new_notin M⟩,dS.cons (RV.ext I _ (JZ R (h1.old h5))) (dS.cons (RV.ext I _ U) dS.nil)⟩
def xX{X:Cx}{E:XK}{e:K2}{f:FE}{p pos Kt Kq:Pos}(hc:X.calm=true)(hm:X.mg "list" = none)(ha:VE X E e f)(hg:Gl X "list" :=by rfl)(F:attributeBase e "items" X.env (eval e X.env)=eval e X.env:=by rfl)(I:(Kt.endLine==Kq.line)=true:=by rfl)
  (he:starEach [.Call (.Attribute e "items" Kt) [] [] Kq] X.env=(false,eval (.Call (.Attribute e "items" Kt) [] [] Kq) X.env)::starEach [] X.env:=by rfl) (Ku:(backTo pos (starEach [] X.env)).any (·.1)=false:=by rfl):VN X E (.Call (.Name "list" p) [.Call (.Attribute e "items" Kt) [] [] Kq] [] pos) (ye f) :=
 PE.imp (HR hc hg hm ha F I he Ku) fun s H Q ⟨b,r,st,S,R,P⟩=>⟨b,r,st,S,R,dR.bindN P fun q s1 u H1 b1 e1 S1 r1 M=>by
  split at M
  ·rename_i i;split at M;rename_i Kh hd;obtain⟨x,vs,rfl,B⟩:=gr.of S1 r1 hd;refine⟨x,vs,rfl,B.h,fun l ts Z O Y=>?_⟩;obtain⟨g1,g2,g3,g4⟩:=Gs B Y;have U:=g4 Z;rw[O,←B.len,C7]at g1;exact M l _ _ b1 (g3.trans (dY.new U)) Z qS (g2.new_notin U).2 (SR.hide g2 U) (dS.wext (WE.hide U) _ g1);exact M.elim
  ·exact M.elim⟩
end EV
end
noncomputable section
namespace K51
open PySem PySem.Spec PyProof.Rows L2 EX EV
structure Ad where
 (Z0 Z1 Z2 Z3 Z4 Z5 Z6 Z7 Z8 Z9 Z10 Z11:Addr)
 (is_whole is_whole_within is_rising is_length need_length is_bar places_of is_signed_bar covers_of is_signed law_cell law_box law_take law_whole law_odd law_kind law_same law_no_length law_cover law_together law_is_share law_is_signed law_shares law_bent law_asked law:Addr)
def gG:KQ ((String×String)×Bool):=[(("NoneType","int"),false),(("NoneType","bool"),false),(("NoneType","tuple"),false),(("NoneType","list"),false),(("int","int"),true),(("int","bool"),false),(("int","tuple"),false),(("int","list"),false),(("bool","int"),true),(("bool","bool"),true),(("bool","tuple"),false),(("bool","list"),false),(("str","int"),false),(("str","bool"),false),(("str","tuple"),false),(("str","list"),false),(("tuple","int"),false),(("tuple","bool"),false),(("tuple","tuple"),true),(("tuple","list"),false),(("list","int"),false),(("list","bool"),false),(("list","tuple"),false),(("list","list"),true),(("dict","int"),false),(("dict","bool"),false),(("dict","tuple"),false),(("dict","list"),false)]
def nF(s T:String):KW Bool:=gG.lookup (s,T)
def Ad.kinds(a:Ad):KQ KU:=[a.Z1,a.Z2,a.Z3,a.Z4,a.Z5,a.Z6,a.Z7,a.Z8,a.Z9,a.Z10,a.Z11]
def fW(a:Ad):Prop:=a.kinds.Nodup
instance (a:Ad):Decidable (fW a):=by unfold fW;infer_instance
def fW.nd{a:Ad}(h:fW a):a.kinds.Nodup:=h
def wD(a:Ad):KQ KU:=[a.Z1]
def kit(a:Ad):KR->KR->KW Bool| .type s,.type T=>nF s T| .ref x,.ref d=>if x∈wD a∧d∈a.kinds then some (x==d) else none| .ref x,.type T=>if x∈wD a∧T = "ValueError" then some true else none|_,_=>none
def f9(i:Nat):Stmt:=PySem.Challenge.pw_barfloors_k51_signed_fillings_looked_at.main.body.getD i (.Pass ⟨0,0,0,0⟩)
abbrev WS:Stmt:=f9 16
abbrev Qc:Stmt:=f9 17
abbrev wx:Stmt:=f9 18
abbrev wt:Stmt:=f9 19
abbrev Qs:Stmt:=f9 20
abbrev Wt:Stmt:=f9 25
abbrev wJ:Stmt:=f9 26
abbrev Qk:Stmt:=f9 28
abbrev wy:Stmt:=f9 29
abbrev wq:Stmt:=f9 30
abbrev WI:Stmt:=f9 32
abbrev Ws:Stmt:=f9 33
abbrev WP:Stmt:=f9 34
abbrev wp:Stmt:=f9 35
abbrev Wp:Stmt:=f9 36
abbrev WQ:Stmt:=f9 37
abbrev WL:Stmt:=f9 38
abbrev Qm:Stmt:=f9 39
abbrev wu:Stmt:=f9 40
abbrev Qx:Stmt:=f9 41
abbrev Qw:Stmt:=f9 42
abbrev Qj:Stmt:=f9 43
abbrev wY:Stmt:=f9 44
abbrev WR:Stmt:=f9 45
abbrev wO:Stmt:=f9 46
abbrev zz:Stmt:=f9 47
def Hz(a:Ad):FS:=(qg (ZO (qK (QU (kit a)) (qA (qB 0) (qA (vC (.ty "int")) qD))) (lM (qK (QU (kit a)) (qA (qB 0) (qA (vC (.ty "bool")) qD))))))
def zw(a:Ad):KQ PV->qC->Rs PV:=QD 1 1 (Hz a)
def zE(a:Ad):FS:=(qg (ZO (qK (zw a) (qA (qB 0) qD)) (sy gLe gLe (qB 1) (qB 0) (qB 2))))
def Qa(a:Ad):KQ PV->qC->Rs PV:=QD 3 3 (zE a)
def tS(a:Ad):FS:=(qg (qK yQ (qA (eI (QE [0] 1 (ki (qA (vC (.int 1)) (qA (qK ZF (qA (qB 0) qD)) qD))) (q5 1) [] [] (qN qDd (qN eV (qB 0) (qN zp (qB 1) (vC (.int 1)))) (qN eV (qB 0) (qB 1))))) qD)))
def ZT(a:Ad):KQ PV->qC->Rs PV:=QD 1 1 (tS a)
def ZJ(a:Ad):FS:=(qg (qK (Qa a) (qA (qB 0) (qA (vC (.int 2)) (qA (vC (.int 5)) qD)))))
def ZH(a:Ad):KQ PV->qC->Rs PV:=QD 1 1 (ZJ a)
def zH(a:Ad):FS:=(Q3 (Qt (QI (qK (ZH a) (qA (qB 0) qD)))) (Jc a.Z1 (qA (vJ [(vC (.str "a length is a whole number from ")),(l4 (vC (.int 2))),(vC (.str " to ")),(l4 (vC (.int 5)))] Str.empty) qD)) Qh)
def Qq(a:Ad):KQ PV->qC->Rs PV:=QD 1 1 (zH a)
def pR(a:Ad):FS:=(qU (Q3 (ZV (Qt (QI (qK (QU (kit a)) (qA (qB 0) (qA (vC (.ty "tuple")) qD))))) (fF (qN gNe (qK ZF (qA (qB 0) qD)) (vC (.int 3))))) (qg (vC (.bl false))) Qh) (qU (yx (qB 0) (We 3 (qm (q9 1) (qm (q9 2) (qm (q9 3) Wg))))) (qU (Q3 (ZV (Qt (QI (qK (Qa a) (qA (qB 1) (qA (yj (vC (.int 40))) (qA (vC (.int 40)) qD)))))) (Qt (QI (qK (Qa a) (qA (qB 2) (qA (yj (vC (.int 40))) (qA (vC (.int 40)) qD))))))) (qg (vC (.bl false))) Qh) (qg (qK (Qa a) (qA (qB 3) (qA (vC (.int 0)) (qA (vC (.int 1)) qD))))))))
def jJ(a:Ad):KQ PV->qC->Rs PV:=QD 1 4 (pR a)
def ZK(a:Ad):FS:=(qU (yx (qB 0) (We 3 (qm (q9 2) (qm (q9 3) (qm (q9 4) Wg))))) (qU (Q3 (fF (qN gEq (qB 4) (vC (.int 0)))) (qg (qK WO (qA (eI (QE [2,3] 1 (Wj (qA (qB 1) qD)) (q5 2) [] [] (qz (qA (qB 0) (qA (qN QK (qB 1) (qB 2)) qD))))) qD))) Qh) (qg (qK WO (qA (eI (QE [3,2] 1 (Wj (qA (qB 1) qD)) (q5 2) [] [] (qz (qA (qN QK (qB 1) (qB 2)) (qA (qB 0) qD))))) qD)))))
def zB(a:Ad):KQ PV->qC->Rs PV:=QD 2 5 (ZK a)
def YJ(a:Ad):FS:=(qU (Q3 (ZV (Qt (QI (qK (QU (kit a)) (qA (qB 0) (qA (vC (.ty "tuple")) qD))))) (fF (qN gNe (qK ZF (qA (qB 0) qD)) (vC (.int 2))))) (qg (vC (.bl false))) Qh) (qU (yx (qB 0) (We 2 (qm (q9 1) (qm (q9 2) Wg)))) (qg (ZO (qK (jJ a) (qA (qB 1) qD)) (ZO (qK (zw a) (qA (qB 2) qD)) (qN gNe (qB 2) (vC (.int 0))))))))
def Q7(a:Ad):KQ PV->qC->Rs PV:=QD 1 3 (YJ a)
def lP:FS:=(WU (qB 2) (qB 5) (qN QK (zQ (qB 2) (qB 5) (vC (.int 0))) (qB 4)))
def Hq(a:Ad):FS:=(qU (qx 2 qAH) (qU (WF (qt (qB 0)) (We 2 (qm (q9 3) (qm (q9 4) Wg))) (WF (qt (qK (zB a) (qA (qB 3) (qA (qB 1) qD)))) (q9 5) lP)) (qg (qB 2))))
def ZU(a:Ad):KQ PV->qC->Rs PV:=QD 2 6 (Hq a)
def xV(a:Ad):FS:=(qU (zn (qK (Qq a) (qA (qB 1) qD))) (qU (Q3 (ZV (Qt (QI (qK (QU (kit a)) (qA (qB 2) (qA (vC (.ty "tuple")) qD))))) (Qt (QI (qK yQ (qA (eI (QE [] 1 (qt (qB 2)) (q5 0) [] [] (qK (Q7 a) (qA (qB 0) qD)))) qD))))) (qg (vC (.bl false))) Qh) (qU (Q3 (Qt (QI (qK (ZT a) (qA (eI (QE [] 2 (qt (qB 2)) (We 2 (qm (q5 0) (qm (q5 1) Wg))) [] [] (qB 0))) qD)))) (qg (vC (.bl false))) Qh) (qU (qx 3 (qK (ZU a) (qA (qB 2) (qA (qB 1) qD)))) (qU (qx 4 (eI (Wf true [] 2 (qB 3) (We 2 (qm (q5 0) (qm (q5 1) Wg))) [(fF (qN gNe (qB 1) (vC (.int 0))))] [] (qB 0)))) (qg (ZO (qN gEq (qK WO (qA (zP (qB 4)) qD)) (qB 0)) (qK yQ (qA (eI (QE [3] 1 (qt (qB 4)) (q5 1) [] [] (qN gEq (qN zh (qB 0) (qB 1)) (vC (.int 1))))) qD)))))))))
def Wa(a:Ad):KQ PV->qC->Rs PV:=QD 3 5 (xV a)
def Z1(a:Ad):FS:=(qU (Q3 (fF (qN gLt (qB 1) (qK ZF (qA (qB 0) qD)))) (qg (qN eV (qB 0) (qB 1))) Qh) (qg (qN QK (qN YO (vC (.int 6151)) (qB 1)) (vC (.int 29)))))
def zk(a:Ad):KQ PV->qC->Rs PV:=QD 2 2 (Z1 a)
def YZ:FS:=(qU (qx 4 (qN qAO (qN QK (qN QK (qN QK (qN YO (qB 4) (vC (.int 48271))) (qN YO (qN YO (vC (.int 7)) (qB 5)) (qB 5))) (qN YO (vC (.int 11)) (qB 1))) (vC (.int 1))) (vC (.int 2147483647)))) (qx 3 (qN QK (qN YO (qB 3) (vC (.int 2147483647))) (qB 4))))
def ym(a:Ad):FS:=(qU (qx 2 (qK (zk a) (qA (qB 0) (qA (qB 1) qD)))) (qU (Q3 (fF (qN gEq (qN qAO (qB 2) (vC (.int 2))) (vC (.int 0)))) (Yl (wf (qA (qN qGy (qB 2) (vC (.int 2))) qD))) Qh) (qU (qx 3 (vC (.int 0))) (qU (qx 4 (qN qAO (qB 2) (vC (.int 2147483647)))) (qU (WF (Wj (qA (vC (.int 24)) qD)) (q9 5) YZ) (Yl (wf (qA (qB 3) qD))))))))
def Zf(a:Ad):KQ PV->qC->Rs PV:=QD 2 6 (ym a)
def jQ(a:Ad):FS:=(qU (qx 2 (qN qAO (qN eV (qB 0) (vC (.int 0))) (qB 1))) (qU (lG (qB 0) (vC (.int 0)) (qN qCl (qN eV (qB 0) (vC (.int 0))) (qB 1))) (qg (qB 2))))
def qY(a:Ad):KQ PV->qC->Rs PV:=QD 2 3 (jQ a)
def xM(a:Ad):FS:=(qg (ZO (qK (QU (kit a)) (qA (qB 0) (qA (vC (.ty "int")) qD))) (lM (qK (QU (kit a)) (qA (qB 0) (qA (vC (.ty "bool")) qD))))))
def WY(a:Ad):KQ PV->qC->Rs PV:=QD 1 1 (xM a)
def sG(a:Ad):FS:=(qU (qx 1 (eI (wf (qA (vC .non) (qA (vC (.bl true)) (qA (vC (.int 7)) (qA (vC (.str "")) (qA (vC (.str "0")) (qA (qz qD) (qA (eI (wf qD)) (qA (vC .dct) (qA (qz (qA (vC (.int 1)) (qA (vC (.int 2)) qD))) (qA (qz (qA (vC (.int 0)) qD)) (qA (qz (qA (vC (.int 1)) (qA (vC (.int 0)) (qA (vC (.int 0)) qD)))) (qA (yj (vC (.int 1))) (qA (qz (qA (vC (.int 0)) (qA (vC (.int 0)) qD))) (qA (eI (wf (qA (qz (qA (vC (.int 0)) (qA (vC (.int 0)) qD))) qD))) (qA (vC (.bl false)) (qA (qz (qA (qz (qA (vC (.int 0)) (qA (vC (.int 0)) qD))) (qA (qz (qA (vC (.int 0)) (qA (vC (.int 1)) qD))) qD))) qD))))))))))))))))))) (qg (qN eV (qB 1) (qK (qY a) (qA (qB 0) (qA (vC (.int 16)) qD))))))
def ya(a:Ad):KQ PV->qC->Rs PV:=QD 1 2 (sG a)
def Y5(a:Ad):FS:=(qU (qx 1 (eI (wf (qA (qK (QU (kit a)) (qA (qB 0) (qA (vC (.fn a.Z1)) qD))) (qA (qK (QU (kit a)) (qA (qB 0) (qA (vC (.fn a.Z2)) qD))) (qA (qK (QU (kit a)) (qA (qB 0) (qA (vC (.fn a.Z3)) qD))) (qA (qK (QU (kit a)) (qA (qB 0) (qA (vC (.fn a.Z4)) qD))) qD))))))) (qU (qx 1 (eI (YG (qB 1) (eI (wf (qA (qK (QU (kit a)) (qA (qB 0) (qA (vC (.fn a.Z5)) qD))) (qA (qK (QU (kit a)) (qA (qB 0) (qA (vC (.fn a.Z6)) qD))) (qA (qK (QU (kit a)) (qA (qB 0) (qA (vC (.fn a.Z7)) qD))) (qA (qK (QU (kit a)) (qA (qB 0) (qA (vC (.fn a.Z8)) qD))) qD))))))))) (qU (qx 1 (eI (YG (qB 1) (eI (wf (qA (qK (QU (kit a)) (qA (qB 0) (qA (vC (.fn a.Z9)) qD))) (qA (qK (QU (kit a)) (qA (qB 0) (qA (vC (.fn a.Z10)) qD))) (qA (qK (QU (kit a)) (qA (qB 0) (qA (vC (.fn a.Z11)) qD))) qD)))))))) (qU (Q3 (ZV (Qt (QI (qK (QU (kit a)) (qA (qB 0) (qA (vC (.ty "ValueError")) qD))))) (fF (qN gNe (qK qHM (qA (eI (QE [] 1 (qt (qB 1)) (q5 0) [] [] (qK qEd (qA (qB 0) qD)))) qD)) (vC (.int 1))))) (qg (vC (.str "! none of the classes"))) Qh) (qU (qx 2 (eI (wf (qA (vC (.str "length")) (qA (vC (.str "number")) (qA (vC (.str "bars")) (qA (vC (.str "box")) (qA (vC (.str "weights")) (qA (vC (.str "sorts")) (qA (vC (.str "turn")) (qA (vC (.str "place")) (qA (vC (.str "text")) (qA (vC (.str "row")) (qA (vC (.str "many")) qD)))))))))))))) (qg (qN ly (vC (.str "! ")) (qN eV (qB 2) (nW (qB 1) (vC (.bl true)))))))))))
def Zt(a:Ad):KQ PV->qC->Rs PV:=QD 1 3 (Y5 a)
def Zy(a:Ad)(rec:KQ PV->qC->Rs PV):FS:=(qU (Q3 (QI (qK (QU (kit a)) (qA (qB 1) (qA (qz (qA (vC (.ty "tuple")) (qA (vC (.ty "list")) qD))) qD)))) (qU qJQ qJQ) Qh) (qg (ZO (qN gEq (qB 0) (qB 1)) (qN gEq (qK (QU (kit a)) (qA (qB 0) (qA (vC (.ty "bool")) qD))) (qK (QU (kit a)) (qA (qB 1) (qA (vC (.ty "bool")) qD)))))))
def Qg:Nat->Ad->KQ PV->qC->Rs PV|0,_=>fun _ _=>.no|n+1,a=>QD 2 2 (Zy a (Qg n a))
def zy(a:Ad):FS:=(qg (qN eV (eI (wf (qA (vC (.int 1)) (qA (vC (.int 6)) (qA (vC (.int 0)) (qA (yj (vC (.int 2))) (qA (vC (.bl true)) (qA (vC .non) (qA (vC (.str "3")) (qA (qz (qA (vC (.int 2)) qD)) (qA (eI (wf (qA (vC (.int 3)) qD))) (qA (qN qJL (vC (.int 10)) (vC (.int 39))) qD)))))))))))) (qK (qY a) (qA (qB 0) (qA (vC (.int 10)) qD)))))
def Q9(a:Ad):KQ PV->qC->Rs PV:=QD 1 1 (zy a)
def YA(a:Ad):FS:=(qU (yx (qB 0) (We 3 (qm (q9 2) (qm (q9 3) (qm (q9 4) Wg))))) (qU (Q3 (fF (qN gEq (qB 4) (vC (.int 0)))) (qg (eI (QE [2,3] 1 (Wj (qA (qB 1) qD)) (q5 2) [] [] (qz (qA (qB 0) (qA (qN QK (qB 1) (qB 2)) qD)))))) Qh) (qg (eI (QE [3,2] 1 (Wj (qA (qB 1) qD)) (q5 2) [] [] (qz (qA (qN QK (qB 1) (qB 2)) (qA (qB 0) qD))))))))
def WZ(a:Ad):KQ PV->qC->Rs PV:=QD 2 5 (YA a)
def Y9(a:Ad):FS:=(qU (qx 2 qAH) (qU (WF (qt (qB 0)) (We 2 (qm (q9 3) (qm (q9 4) Wg))) (WF (qt (qK (WZ a) (qA (qB 3) (qA (qB 1) qD)))) (q9 5) (WU (qB 2) (qB 5) (qN QK (zQ (qB 2) (qB 5) (vC (.int 0))) (qB 4))))) (qg (nC (eI (Wf false [2] 1 (qB 2) (q5 1) [(fF (qN gNe (qN zh (qB 0) (qB 1)) (vC (.int 0))))] [] (qz (qA (qB 1) (qA (qN zh (qB 0) (qB 1)) qD)))))))))
def qu(a:Ad):KQ PV->qC->Rs PV:=QD 2 6 (Y9 a)
def Y2(a:Ad):FS:=(qU (Q3 (ZV (Qt (QI (qK (QU (kit a)) (qA (qB 0) (qA (vC (.ty "tuple")) qD))))) (ZV (fF (qN gNe (qK ZF (qA (qB 0) qD)) (vC (.int 2)))) (ZV (Qt (QI (qK (QU (kit a)) (qA (qN eV (qB 0) (vC (.int 0))) (qA (vC (.ty "tuple")) qD))))) (fF (qN gNe (qK ZF (qA (qN eV (qB 0) (vC (.int 0))) qD)) (vC (.int 3))))))) (qg (vC (.bl false))) Qh) (qU (Q3 (ZV (Qt (QI (qK yQ (qA (eI (QE [] 1 (qt (qN wT (qN eV (qB 0) (vC (.int 0))) (Wb (qB 0) (qy (vC (.int 1))) QZ))) (q5 0) [] [] (qK (WY a) (qA (qB 0) qD)))) qD)))) (fF (qN (ir true) (qN eV (qN eV (qB 0) (vC (.int 0))) (vC (.int 2))) (qz (qA (vC (.int 0)) (qA (vC (.int 1)) qD)))))) (qg (vC (.bl false))) Qh) (qg (ZO (qN gLe (qK qD6 (qA (qN eV (qN eV (qB 0) (vC (.int 0))) (vC (.int 0))) qD)) (vC (.int 40))) (ZO (qN gLe (qK qD6 (qA (qN eV (qN eV (qB 0) (vC (.int 0))) (vC (.int 1))) qD)) (vC (.int 40))) (qN gNe (qN eV (qB 0) (vC (.int 1))) (vC (.int 0))))))))
def Wz(a:Ad):KQ PV->qC->Rs PV:=QD 1 1 (Y2 a)
def JQ(a:Ad):FS:=(Q3 (Qt (QI (qK (Wz a) (qA (qB 3) qD)))) (qg (vC (.bl false))) Qh)
def YK(a:Ad):FS:=(qU (Q3 (Qt (QI (qK (QU (kit a)) (qA (qB 2) (qA (vC (.ty "tuple")) qD))))) (qg (vC (.bl false))) Qh) (qU (WF (qt (qB 2)) (q9 3) (JQ a)) (qU (qx 4 (eI (QE [] 2 (qt (qB 2)) (We 2 (qm (q5 0) (qm (q5 1) Wg))) [] [] (qB 0)))) (qg (ZO (qN gEq (qB 4) (yX (qB 4))) (qN gEq (qK (qu a) (qA (qB 2) (qA (qB 1) qD))) (eI (QE [] 1 (qt (qB 0)) (q5 0) [] [] (qz (qA (qB 0) (qA (vC (.int 1)) qD)))))))))))
def wA(a:Ad):KQ PV->qC->Rs PV:=QD 3 5 (YK a)
def JE(a:Ad):FS:=(qU (qx 4 (qK (qY a) (qA (qB 0) (qA (vC (.int 2)) qD)))) (qU (kW 5 6 (qA (qK (qY a) (qA (qB 0) (qA (qN zp (vC (.int 9)) (qN eV (eI (wf (qA (vC (.int 1)) (qA (qB 1) qD)))) (qB 4))) qD))) (qA (qK (qY a) (qA (qB 0) (qA (qN zp (vC (.int 9)) (qN eV (eI (wf (qA (qB 1) (qA (vC (.int 1)) qD)))) (qB 4))) qD))) qD))) (qU (qx 7 (qK (WZ a) (qA (qz (qA (qB 5) (qA (qB 6) (qA (qB 4) qD)))) (qA (qB 1) qD)))) (Q3 (fF (qN gEq (eI (QE [7] 2 (qt (qK (qu a) (qA (eI (ye (qB 2))) (qA (qB 1) qD)))) (We 2 (qm (q5 1) (qm (q5 2) Wg))) [(fF (qN (ir false) (qB 1) (qB 0)))] [] (qB 1))) (eI (wf qD)))) (WU (qB 2) (qz (qA (qB 5) (qA (qB 6) (qA (qB 4) qD)))) (vC (.int 1))) Qh))))
def lU:FS:=(qU (WU (qB 2) (qz (qA (qN QK (qB 5) (qB 9)) (qA (qB 6) (qA (vC (.int 0)) qD)))) (qN QK (zQ (qB 2) (qz (qA (qN QK (qB 5) (qB 9)) (qA (qB 6) (qA (vC (.int 0)) qD)))) (vC (.int 0))) (qB 8))) (WU (qB 2) (qz (qA (qB 5) (qA (qN QK (qB 6) (qB 9)) (qA (vC (.int 1)) qD)))) (qN zp (zQ (qB 2) (qz (qA (qB 5) (qA (qN QK (qB 6) (qB 9)) (qA (vC (.int 1)) qD)))) (vC (.int 0))) (qB 8))))
def JT(a:Ad):FS:=(qU (qx 2 qAH) (qU (WF (Wj (qA (qN QK (vC (.int 1)) (qK (qY a) (qA (qB 0) (qA (vC (.int 6)) qD)))) qD)) (q9 3) (JE a)) (qU (WF (Wj (qA (qK (qY a) (qA (qB 0) (qA (vC (.int 3)) qD))) qD)) (q9 3) (qU (jM 5 6 8 (qA (qN zp (qK (qY a) (qA (qB 0) (qA (vC (.int 30)) qD))) (vC (.int 9))) (qA (qN zp (qK (qY a) (qA (qB 0) (qA (vC (.int 30)) qD))) (vC (.int 9))) (qA (qN eV (eI (wf (qA (vC (.int 1)) (qA (yj (vC (.int 1))) (qA (vC (.int 7)) qD))))) (qK (qY a) (qA (qB 0) (qA (vC (.int 3)) qD)))) qD)))) (WF (Wj (qA (qB 1) qD)) (q9 9) lU))) (qg (qK WO (qA (eI (QE [2] 1 (qt (zP (eI (Zn (qB 2))))) (q5 1) [(fF (qN gNe (qN zh (qB 0) (qB 1)) (vC (.int 0))))] [] (qz (qA (qB 1) (qA (qN zh (qB 0) (qB 1)) qD))))) qD))))))
def Wm(a:Ad):KQ PV->qC->Rs PV:=QD 2 10 (JT a)
def jB(a:Ad):FS:=(qU (qx 2 (qK (qY a) (qA (qB 0) (qA (qN QK (qK ZF (qA (qB 1) qD)) (vC (.int 1))) qD)))) (qU (yx (qN eV (qN wT (qB 1) (qz (qA (qz (qA (qz (qA (vC (.int 0)) (qA (vC (.int 0)) (qA (vC (.int 0)) qD)))) (qA (vC (.int 1)) qD))) qD))) (qB 2)) (We 2 (qm (q9 3) (qm (q9 4) Wg)))) (qU (qx 5 (qK (qY a) (qA (qB 0) (qA (vC (.int 3)) qD)))) (qU (qx 6 (qN eV (eI (wf (qA (vC (.int 41)) (qA (yj (vC (.int 41))) (qA (vC (.int 40)) (qA (vC (.bl true)) (qA (vC .non) (qA (vC (.str "0")) (qA (qz (qA (vC (.int 0)) qD)) (qA (vC (.int 2)) (qA (yj (vC (.int 1))) (qA (qN qJL (vC (.int 10)) (vC (.int 39))) qD)))))))))))) (qK (qY a) (qA (qB 0) (qA (vC (.int 10)) qD))))) (qU (qx 7 (eI (wf (qA (qz (qA (qB 3) (qA (qN QK (qB 4) (vC (.int 1))) qD))) (qA (qz (qA (qB 3) (qA (vC (.int 0)) qD))) (qA (qz (qA (qB 3) (qA (vC (.bl true)) qD))) (qA (qz (qA (qN wT (qN wT (Wb (qB 3) QZ (qy (qB 5))) (qz (qA (qB 6) qD))) (Wb (qB 3) (qy (qN QK (qB 5) (vC (.int 1)))) QZ)) (qA (qB 4) qD))) (qA (qz (qA (qB 3) (qA (qN zp (vC (.int 0)) (qB 4)) qD))) qD)))))))) (qU (qx 7 (eI (YG (qB 7) (eI (wf (qA (eI (wf (qA (qB 3) (qA (qB 4) qD)))) (qA (qz (qA (qB 3) qD)) (qA (qz (qA (qB 3) (qA (qB 4) (qA (vC (.int 0)) qD)))) (qA (qB 3) (qA (qz (qA (eI (jd (qB 3))) (qA (qB 4) qD))) (qA (qB 6) qD))))))))))) (qU (qx 8 (eI (QE [1,2] 1 (qt (qB 7)) (q5 2) [] [] (qN wT (qN wT (Wb (qB 0) QZ (qy (qB 1))) (qz (qA (qB 2) qD))) (Wb (qB 0) (qy (qN QK (qB 1) (vC (.int 1)))) QZ))))) (qU (qx 8 (eI (YG (qB 8) (eI (wf (qA (qN wT (Wb (qB 1) QZ (qy (qB 2))) (Wb (qB 1) (qy (qN QK (qB 2) (vC (.int 1)))) QZ)) (qA (qN wT (qN wT (Wb (qB 1) QZ (qy (qB 2))) (Wb (qB 1) (qy (qB 2)) (qy (qN QK (qB 2) (vC (.int 1)))))) (Wb (qB 1) (qy (qB 2)) QZ)) (qA (kX (qB 1) QZ QZ (qy (yj (vC (.int 1))))) qD)))))))) (qg (qN eV (eI (YG (qB 8) (eI (wf (qA (eI (jd (qB 1))) (qA (qN wT (qB 1) (qz (qA (qz (qA (qz (qA (vC (.int 40)) (qA (vC (.int 40)) (qA (vC (.int 1)) qD)))) (qA (vC (.int 1)) qD))) qD))) (qA (qK (ya a) (qA (qB 0) qD)) (qA (qz qD) qD)))))))) (qK (qY a) (qA (qB 0) (qA (vC (.int 18)) qD)))))))))))))
def W4(a:Ad):KQ PV->qC->Rs PV:=QD 2 9 (jB a)
def yw(a:Ad):FS:=(Yd 3 4 (wD a) (qg (qK (Wa a) (qA (qB 0) (qA (qB 1) (qA (qB 2) qD))))) (qg (qK (Zt a) (qA (qB 3) qD))))
def QQ(a:Ad):KQ PV->qC->Rs PV:=QD 3 4 (yw a)
def lg(a:Ad):FS:=(qU (qx 7 (qK YD (qA (qB 6) qD))) (qU (Q3 (Qt (QI (qK (Qg 3 a) (qA (qK (QQ a) (qA (qB 5) (qA (qB 3) (qA (qB 6) qD)))) (qA (qK (wA a) (qA (qB 5) (qA (qB 3) (qA (qB 6) qD)))) qD))))) (qg (vC (.bl false))) Qh) (Q3 (fF (qN gNe (qK YD (qA (qB 6) qD)) (qB 7))) (qg (vC (.bl false))) Qh)))
def oW(a:Ad):FS:=(qU (WF (Wj (qA (qK qEe (qA (vC (.int 1)) (qA (qK qFT (qA (qK ZF (qA (qB 0) qD)) (qA (vC (.int 5)) qD))) qD))) qD)) (q9 1) (qU (qx 2 (qK (Zf a) (qA (qB 0) (qA (qB 1) qD)))) (qU (qx 3 (qN QK (vC (.int 2)) (qK (qY a) (qA (qB 2) (qA (vC (.int 4)) qD))))) (qU (qx 4 (qK (Wm a) (qA (qB 2) (qA (qB 3) qD)))) (qU (qx 5 (qK WO (qA (eI (QE [] 2 (qt (qK (qu a) (qA (qB 4) (qA (qB 3) qD)))) (We 2 (qm (q5 0) (qm (q5 1) Wg))) [] [] (qB 0))) qD))) (qU (Q3 (Qt (QI (qK (Qg 3 a) (qA (qK (QQ a) (qA (qB 5) (qA (qB 3) (qA (qB 4) qD)))) (qA (vC (.bl true)) qD))))) (qg (vC (.bl false))) Qh) (qU (WF (qt (eI (YG (eI (QE [2,4] 1 (Wj (qA (vC (.int 6)) qD)) (q5 2) [] [] (qK (W4 a) (qA (qB 0) (qA (qB 1) qD))))) (eI (wf (qA (qz qD) qD)))))) (q9 6) (lg a)) (qU (Q3 (Qt (QI (qK (Qg 3 a) (qA (qK (QQ a) (qA (Wb (qB 5) (qy (vC (.int 1))) QZ) (qA (qB 3) (qA (qB 4) qD)))) (qA (vC (.bl false)) qD))))) (qg (vC (.bl false))) Qh) (Q3 (fF (qN gNe (qK (QQ a) (qA (qB 5) (qA (qK (Q9 a) (qA (qB 2) qD)) (qA (qB 4) qD)))) (vC (.str "! length")))) (qg (vC (.bl false))) Qh))))))))) (qg (vC (.bl true))))
def kA(a:Ad):KQ PV->qC->Rs PV:=QD 1 8 (oW a)
structure Env (K:W.Frag) (mg:Str->Option Value) (a:Ad):Prop where
 kit:gq K (kit a)
 nk:iZ K
 n_ValueError:mg "ValueError" = none
 n_abs:mg "abs" = none
 n_all:mg "all" = none
 n_bool:mg "bool" = none
 n_int:mg "int" = none
 n_isinstance:mg "isinstance" = none
 n_len:mg "len" = none
 n_list:mg "list" = none
 n_max:mg "max" = none
 n_min:mg "min" = none
 n_range:mg "range" = none
 n_repr:mg "repr" = none
 n_set:mg "set" = none
 n_sorted:mg "sorted" = none
 n_sum:mg "sum" = none
 n_tuple:mg "tuple" = none
 c_LEAST_LENGTH:∃t,mg "LEAST_LENGTH" = some (.int 2 t)
 c_MOST_LENGTH:∃t,mg "MOST_LENGTH" = some (.int 5 t)
 c_FURTHEST:∃t,mg "FURTHEST" = some (.int 40 t)
 c_ACROSS:∃t,mg "ACROSS" = some (.int 0 t)
 c_DOWN:∃t,mg "DOWN" = some (.int 1 t)
 k_Z0:mg "BarError" = some (.ref a.Z0)
 k_Z1:mg "NoLength" = some (.ref a.Z1)
 k_Z2:mg "NoNumber" = some (.ref a.Z2)
 k_Z3:mg "NoBars" = some (.ref a.Z3)
 k_Z4:mg "NoBox" = some (.ref a.Z4)
 k_Z5:mg "NoWeights" = some (.ref a.Z5)
 k_Z6:mg "NoSorts" = some (.ref a.Z6)
 k_Z7:mg "NoTurn" = some (.ref a.Z7)
 k_Z8:mg "NoPlace" = some (.ref a.Z8)
 k_Z9:mg "NoText" = some (.ref a.Z9)
 k_Z10:mg "NoRow" = some (.ref a.Z10)
 k_Z11:mg "TooMany" = some (.ref a.Z11)
 x_Z1:W.excIn K a.Z1 hX "ValueError.__new__" = true
 e_Z1:W.mroIn K a.Z1 (.ref a.Z0)=some true
 o_Z0:∃dd cd sl,K.lookup a.Z0=some ⟨.type "type",dd,.cls cd,sl⟩
 b_Z0:W.mroIn K a.Z0 (.type "BaseException")=some true
 m_is_whole:mg "is_whole" = some (.ref a.is_whole)
 f_is_whole:∃fd,fD K "is_whole" "is_whole" WS a.is_whole fd
 m_is_whole_within:mg "is_whole_within" = some (.ref a.is_whole_within)
 f_is_whole_within:∃fd,fD K "is_whole_within" "is_whole_within" Qc a.is_whole_within fd
 m_is_rising:mg "is_rising" = some (.ref a.is_rising)
 f_is_rising:∃fd,fD K "is_rising" "is_rising" wx a.is_rising fd
 m_is_length:mg "is_length" = some (.ref a.is_length)
 f_is_length:∃fd,fD K "is_length" "is_length" wt a.is_length fd
 m_need_length:mg "need_length" = some (.ref a.need_length)
 f_need_length:∃fd,fD K "need_length" "need_length" Qs a.need_length fd
 m_is_bar:mg "is_bar" = some (.ref a.is_bar)
 f_is_bar:∃fd,fD K "is_bar" "is_bar" Wt a.is_bar fd
 m_places_of:mg "places_of" = some (.ref a.places_of)
 f_places_of:∃fd,fD K "places_of" "places_of" wJ a.places_of fd
 m_is_signed_bar:mg "is_signed_bar" = some (.ref a.is_signed_bar)
 f_is_signed_bar:∃fd,fD K "is_signed_bar" "is_signed_bar" Qk a.is_signed_bar fd
 m_covers_of:mg "covers_of" = some (.ref a.covers_of)
 f_covers_of:∃fd,fD K "covers_of" "covers_of" wy a.covers_of fd
 m_is_signed:mg "is_signed" = some (.ref a.is_signed)
 f_is_signed:∃fd,fD K "is_signed" "is_signed" wq a.is_signed fd
 m_law_cell:mg "_law_cell" = some (.ref a.law_cell)
 f_law_cell:∃fd,fD K "_law_cell" "_law_cell" WI a.law_cell fd
 m_law_box:mg "_law_box" = some (.ref a.law_box)
 f_law_box:∃fd,fD K "_law_box" "_law_box" Ws a.law_box fd
 m_law_take:mg "_law_take" = some (.ref a.law_take)
 f_law_take:∃fd,fD K "_law_take" "_law_take" WP a.law_take fd
 m_law_whole:mg "_law_whole" = some (.ref a.law_whole)
 f_law_whole:∃fd,fD K "_law_whole" "_law_whole" wp a.law_whole fd
 m_law_odd:mg "_law_odd" = some (.ref a.law_odd)
 f_law_odd:∃fd,fD K "_law_odd" "_law_odd" Wp a.law_odd fd
 m_law_kind:mg "_law_kind" = some (.ref a.law_kind)
 f_law_kind:∃fd,fD K "_law_kind" "_law_kind" WQ a.law_kind fd
 m_law_same:mg "_law_same" = some (.ref a.law_same)
 f_law_same:∃fd,fD K "_law_same" "_law_same" WL a.law_same fd
 m_law_no_length:mg "_law_no_length" = some (.ref a.law_no_length)
 f_law_no_length:∃fd,fD K "_law_no_length" "_law_no_length" Qm a.law_no_length fd
 m_law_cover:mg "_law_cover" = some (.ref a.law_cover)
 f_law_cover:∃fd,fD K "_law_cover" "_law_cover" wu a.law_cover fd
 m_law_together:mg "_law_together" = some (.ref a.law_together)
 f_law_together:∃fd,fD K "_law_together" "_law_together" Qx a.law_together fd
 m_law_is_share:mg "_law_is_share" = some (.ref a.law_is_share)
 f_law_is_share:∃fd,fD K "_law_is_share" "_law_is_share" Qw a.law_is_share fd
 m_law_is_signed:mg "_law_is_signed" = some (.ref a.law_is_signed)
 f_law_is_signed:∃fd,fD K "_law_is_signed" "_law_is_signed" Qj a.law_is_signed fd
 m_law_shares:mg "_law_shares" = some (.ref a.law_shares)
 f_law_shares:∃fd,fD K "_law_shares" "_law_shares" wY a.law_shares fd
 m_law_bent:mg "_law_bent" = some (.ref a.law_bent)
 f_law_bent:∃fd,fD K "_law_bent" "_law_bent" WR a.law_bent fd
 m_law_asked:mg "_law_asked" = some (.ref a.law_asked)
 f_law_asked:∃fd,fD K "_law_asked" "_law_asked" wO a.law_asked fd
 m_law:mg "law" = some (.ref a.law)
 f_law:∃fd,fD K "law" "law" zz a.law fd
def xu{CX:CXT}{P:KZ}{w:K0}{K:KY}{mg:Str->KW KR}{base:Heap}{N:KQ Str}{x:Str}{sc:Scope}{fa:KU}{Kr:KR}{A:K1}{outer:KQ PySem.Env}{s:KS}{H:Hp}{E:XK}(h:A.handled=none):(wW CX P w K mg base N x sc fa Kr A outer s H E).calm=true:=by show A.handled.isNone=true;rw[h];rfl
def f7{N P:KQ Str}{sc:Scope}(F:sc.kind= .function:=by rfl)(I:sc.isCoroutine=false:=by rfl)(M:sc.isGenerator=false:=by rfl)(O:N.Nodup:=by decide +kernel)(R:N.take P.length=P:=by rfl)(U:∀x∈P,sc.names.lookup x=some .local∨sc.names.lookup x=some .cell:=by decide +kernel)(Y:∀y∈sc.names,y.2≠ .free:=by decide +kernel):dU N P sc:=⟨F,I,M,O,R,U,Y⟩
def mf{P:KZ}{w:K0}{K:KY}{mg:Str->KW KR}{base:Heap}{x:Str}{st:Stmt}{fa:KU}{N ps:KQ Str}{k:Nat}{B:FS}(F:∃fd,fD K x x st fa fd)(S:dU N ps (qJ st))(m:mg x=some (.ref fa))(I:∀(Kr:KR) (A:K1) (outer:KQ PySem.Env) (s:KS) (H:Hp) (E:XK),eZ k (A.deeper (envOfC x (qJ st) s.heap.objs.size fa Kr))->(0<k->A.handled=none)->(0<k->(wW (fB P w) P w K mg base N x (qJ st) fa Kr A outer s H E).calm=true)->gK (wW (fB P w) P w K mg base N x (qJ st) fa Kr A outer s H E) E (qX st) B)(O:∀(kV Kv pm:KR) (an:KW KU) (Kr ct:KR) (us:KQ KR),us.length=ps.length->bindArgs (W.fnOf x x (qa st) (qX st) (qJ st) Value.none kV Kv pm an Kr ct) { pos:=us }=pure (ps.zip us)):eN P w K mg base (k+1) x fa ps.length (QD ps.length N.length B):=by obtain⟨fd,F⟩:=F;exact jn (B:=B) F S (F.binds (ps:=ps) O) m (fun l st h=>Wn h) (fun Kr A outer s H E R M=>I Kr A outer s H E R M fun h=>xu (M h)) (fun l Y U Z=>WM U)
def iF{P:KZ}{w:K0}{K:KY}{mg:Str->KW KR}{base:Heap}{x:Str}{st:Stmt}{fa:KU}{N ps:KQ Str}{k:Nat}{B:FS}(F:∃fd,fD K x x st fa fd)(S:dU N ps (qJ st))(m:mg x=some (.ref fa))(I:∀(Kr:KR) (A:K1) (outer:KQ PySem.Env) (s:KS) (H:Hp) (E:XK),eZ k (A.deeper (envOfC x (qJ st) s.heap.objs.size fa Kr))->(0<k->A.handled=none)->(0<k->(wW (fB P w) P w K mg base N x (qJ st) fa Kr A outer s H E).calm=true)->gK (wW (fB P w) P w K mg base N x (qJ st) fa Kr A outer s H E) E (qX st) B)(O:ps.length=1:=by rfl)(R:∀(kV Kv pm:KR) (an:KW KU) (Kr ct M:KR),bindArgs (W.fnOf x x (qa st) (qX st) (qJ st) Value.none kV Kv pm an Kr ct) { pos:=[M] }=pure (ps.zip [M]):=by intros;rfl):eN P w K mg base (k+1) x fa ps.length (QD ps.length N.length B) :=
 mf F S m I fun kV Kv pm an Kr ct us U=>match us,U.trans O with|[M],_=>R kV Kv pm an Kr ct M
def Js{P:KZ}{w:K0}{K:KY}{mg:Str->KW KR}{base:Heap}{x:Str}{st:Stmt}{fa:KU}{N ps:KQ Str}{k:Nat}{B:FS}(F:∃fd,fD K x x st fa fd)(S:dU N ps (qJ st))(m:mg x=some (.ref fa))(I:∀(Kr:KR) (A:K1) (outer:KQ PySem.Env) (s:KS) (H:Hp) (E:XK),eZ k (A.deeper (envOfC x (qJ st) s.heap.objs.size fa Kr))->(0<k->A.handled=none)->(0<k->(wW (fB P w) P w K mg base N x (qJ st) fa Kr A outer s H E).calm=true)->gK (wW (fB P w) P w K mg base N x (qJ st) fa Kr A outer s H E) E (qX st) B)(R:ps.length=2:=by rfl)(U:∀(kV Kv pm:KR) (an:KW KU) (Kr ct M O:KR),bindArgs (W.fnOf x x (qa st) (qX st) (qJ st) Value.none kV Kv pm an Kr ct) { pos:=[M,O] }=pure (ps.zip [M,O]):=by intros;rfl):eN P w K mg base (k+1) x fa ps.length (QD ps.length N.length B) :=
 mf F S m I fun kV Kv pm an Kr ct us Y=>match us,Y.trans R with|[M,O],_=>U kV Kv pm an Kr ct M O
def lx{P:KZ}{w:K0}{K:KY}{mg:Str->KW KR}{base:Heap}{x:Str}{st:Stmt}{fa:KU}{N ps:KQ Str}{k:Nat}{B:FS}(F:∃fd,fD K x x st fa fd)(S:dU N ps (qJ st))(m:mg x=some (.ref fa))(I:∀(Kr:KR) (A:K1) (outer:KQ PySem.Env) (s:KS) (H:Hp) (E:XK),eZ k (A.deeper (envOfC x (qJ st) s.heap.objs.size fa Kr))->(0<k->A.handled=none)->(0<k->(wW (fB P w) P w K mg base N x (qJ st) fa Kr A outer s H E).calm=true)->gK (wW (fB P w) P w K mg base N x (qJ st) fa Kr A outer s H E) E (qX st) B)(U:ps.length=3:=by rfl)(Y:∀(kV Kv pm:KR) (an:KW KU) (Kr ct M O R:KR),bindArgs (W.fnOf x x (qa st) (qX st) (qJ st) Value.none kV Kv pm an Kr ct) { pos:=[M,O,R] }=pure (ps.zip [M,O,R]):=by intros;rfl):eN P w K mg base (k+1) x fa ps.length (QD ps.length N.length B) :=
 mf F S m I fun kV Kv pm an Kr ct us Z=>match us,Z.trans U with|[M,O,R],_=>Y kV Kv pm an Kr ct M O R
section
variable{P:KZ}{w:K0}{K:KY}{mg:Str->KW KR}{base:Heap}{a:Ad}
def GJ:dU ["thing"] ["thing"] (qJ WS):=f7
def Yo(V:Env K mg a):eN P w K mg base 2 "is_whole" a.is_whole 1 (zw a):=by refine iF V.f_is_whole GJ V.m_is_whole fun Kr A outer s H E F I M=>?_;have O:=F.units;exact (qT (qc (zN (Qd V.kit V.n_isinstance (@qR _ _ _ _ _ _ _ (qH 0) (@qR _ _ _ _ _ _ _ (Wu rfl V.n_int Boot.«int») qF))) (ZI (oE (Qd V.kit V.n_isinstance (@qR _ _ _ _ _ _ _ (qH 0) (@qR _ _ _ _ _ _ _ (Wu rfl V.n_bool Boot.«bool») qF))))))))
def Zr:dU ["thing","least","most"] ["thing","least","most"] (qJ Qc):=f7
def wI(V:Env K mg a):eN P w K mg base 3 "is_whole_within" a.is_whole_within 3 (Qa a):=by refine lx V.f_is_whole_within Zr V.m_is_whole_within fun Kr A outer s H E F I M=>?_;have O:=F.units;exact (qT (qc (zN (qV ((Yo V).call (F.mono (by omega)) qk) (@qR _ _ _ _ _ _ _ (qH 0) qF)) (ZI (Gz lH lH lZ lZ (qH 1) (qH 0) (qH 2))))))
def Jl:dU ["things"] ["things"] (qJ wx):=f7
def Hx(V:Env K mg a):eN P w K mg base 2 "is_rising" a.is_rising 1 (ZT a):=by refine iF V.f_is_rising Jl V.m_is_rising fun Kr A outer s H E F I M=>?_;have O:=F.units;exact (qT (qc (Jn (@jV _ _ _ _ _ _ _ _ _ (qv (Q2 (Kn:=(["things"])) (Kl:=(["at"])) (Kk:=([0])) (by exact Q5 rfl (by decide +kernel) rfl rfl ⟨⟨rfl,rfl⟩,trivial⟩) (De rfl V.n_range (@qd _ _ _ _ _ _ _ _ qI (@WD _ _ _ _ _ _ _ _ _ (zC (@qR _ _ _ _ _ _ _ (qH 0) qF) V.n_len) qF))) (fun R H' fp pn=>⟨(vG O (wH (qH 0) (Zx (qH 1) qI)) (wH (qH 0) (qH 1))),⟨(Qe 1 (show (["things","at"]:KQ Str).Nodup by decide +kernel)),(qe 1),eR.nil,rfl⟩,eP.nil⟩))) qF) V.n_all)))
def j6:dU ["thing"] ["thing"] (qJ wt):=f7
def xk(V:Env K mg a):eN P w K mg base 4 "is_length" a.is_length 1 (ZH a):=by obtain⟨fd,F⟩:=V.f_is_length;obtain⟨_,c_LEAST_LENGTH⟩:=V.c_LEAST_LENGTH;obtain⟨_,c_MOST_LENGTH⟩:=V.c_MOST_LENGTH;refine jn (B:=ZJ a) F j6 (F.binds (ps:=["thing"]) fun _ _ _ _ _ _ us I=>match us,I with|[_],_=>rfl) V.m_is_length (fun l st h=>Wn h) (fun Kr A outer s H E M O=>?_) (fun l R I U=>WM I);have Y:=M.units;exact (qT (qc (qV ((wI V).call (M.mono (by omega)) qk) (@qR _ _ _ _ _ _ _ (qH 0) (@qR _ _ _ _ _ _ _ (WB rfl c_LEAST_LENGTH) (@qR _ _ _ _ _ _ _ (WB rfl c_MOST_LENGTH) qF))))))
def Yy:dU ["thing"] ["thing"] (qJ Qs):=f7
def jT(V:Env K mg a):eN P w K mg base 5 "need_length" a.need_length 1 (Qq a):=by
 obtain⟨fd,F⟩:=V.f_need_length;obtain⟨_,c_LEAST_LENGTH⟩:=V.c_LEAST_LENGTH;obtain⟨_,c_MOST_LENGTH⟩:=V.c_MOST_LENGTH;refine jn (B:=zH a) F Yy (F.binds (ps:=["thing"]) fun _ _ _ _ _ _ us I=>match us,I with|[_],_=>rfl) V.m_need_length (fun l st h=>Wn h) (fun Kr A outer s H E O M=>?_) (fun l U I Y=>WM I);have Z:=O.units;have R:(wW (fB P w) P w K mg base ["thing"] "need_length" (qJ Qs) a.need_length Kr A outer s H E).calm=true:=by show A.handled.isNone=true;rw[M (by omega)];rfl
 exact (qT (wa (wM (wF (qV ((xk V).call (O.mono (by omega)) qk) (@qR _ _ _ _ _ _ _ (qH 0) qF)))) (qT (Im D8 R rfl V.k_Z1 V.x_Z1 (@xO _ _ _ _ _ _ _ (Da (YW Qv (YW (pO (WB rfl c_LEAST_LENGTH)) (YW Qv (YW (pO (WB rfl c_MOST_LENGTH)) Gc))))) qF))) QS))
def fL:dU ["thing","row","column","way"] ["thing"] (qJ Wt):=f7
def EA(V:Env K mg a):eN P w K mg base 4 "is_bar" a.is_bar 1 (jJ a):=by
 obtain⟨fd,F⟩:=V.f_is_bar;obtain⟨_,c_FURTHEST⟩:=V.c_FURTHEST;obtain⟨_,c_ACROSS⟩:=V.c_ACROSS;obtain⟨_,c_DOWN⟩:=V.c_DOWN;refine jn (B:=pR a) F fL (F.binds (ps:=["thing"]) fun _ _ _ _ _ _ us M=>match us,M with|[_],_=>rfl) V.m_is_bar (fun l st h=>Wn h) (fun Kr A outer s H E I O=>?_) (fun l Y M Z=>WM M);have R:=I.units;have U:(wW (fB P w) P w K mg base ["thing","row","column","way"] "is_bar" (qJ Wt) a.is_bar Kr A outer s H E).calm=true:=by show A.handled.isNone=true;rw[O (by omega)];rfl
 exact (qO (wa (iM (yA (wM (wF (Qd V.kit V.n_isinstance (@qR _ _ _ _ _ _ _ (qH 0) (@qR _ _ _ _ _ _ _ (Wu rfl V.n_tuple Boot.«tuple») qF))))) (Z0 (wQ (W0 R) ZP (zC (@qR _ _ _ _ _ _ _ (qH 0) qF) V.n_len) qI)))) (qT (qc wN)) QS) (qO (jH (qH 0) (Wh U (qj (qw 1 fL.nd) (qj (qw 2 fL.nd) (qj (qw 3 fL.nd) wk))))) (qO (wa (iM (yA (wM (wF (qV ((wI V).call (I.mono (by omega)) qk) (@qR _ _ _ _ _ _ _ (qH 1) (@iO _ _ _ _ _ _ _ _ (ZQ (WB rfl c_FURTHEST)) (@qR _ _ _ _ _ _ _ (WB rfl c_FURTHEST) qF)))))) (Z0 (wM (wF (qV ((wI V).call (I.mono (by omega)) qk) (@qR _ _ _ _ _ _ _ (qH 2) (@iO _ _ _ _ _ _ _ _ (ZQ (WB rfl c_FURTHEST)) (@qR _ _ _ _ _ _ _ (WB rfl c_FURTHEST) qF))))))))) (qT (qc wN)) QS) (qT (qc (qV ((wI V).call (I.mono (by omega)) qk) (@qR _ _ _ _ _ _ _ (qH 3) (@qR _ _ _ _ _ _ _ (WB rfl c_ACROSS) (@qR _ _ _ _ _ _ _ (WB rfl c_DOWN) qF)))))))))
def fe:dU ["bar","length","row","column","way"] ["bar","length"] (qJ wJ):=f7
def Ek(V:Env K mg a):eN P w K mg base 2 "places_of" a.places_of 2 (zB a):=by
 obtain⟨fd,F⟩:=V.f_places_of;obtain⟨_,c_ACROSS⟩:=V.c_ACROSS;refine jn (B:=ZK a) F fe (F.binds (ps:=["bar","length"]) fun _ _ _ _ _ _ us I=>match us,I with|[_,_],_=>rfl) V.m_places_of (fun l st h=>Wn h) (fun Kr A outer s H E O M=>?_) (fun l Z I hn=>WM I);have R:=O.units;have U:(wW (fB P w) P w K mg base ["bar","length","row","column","way"] "places_of" (qJ wJ) a.places_of Kr A outer s H E).calm=true:=by show A.handled.isNone=true;rw[M (by omega)];rfl
 exact (qO (jH (qH 0) (Wh U (qj (qw 2 fe.nd) (qj (qw 3 fe.nd) (qj (qw 4 fe.nd) wk))))) (qO (wa (wQ (Y8 R) Jy (qH 4) (WB rfl c_ACROSS)) (qT (qc (zU (@jV _ _ _ _ _ _ _ _ _ (qv (Q2 (Kn:=(["row","column"])) (Kl:=(["step"])) (Kk:=([2,3])) (by exact Q5 rfl (by decide +kernel) rfl rfl ⟨⟨rfl,rfl⟩,⟨⟨rfl,rfl⟩,trivial⟩⟩) (wC rfl V.n_range (@qR _ _ _ _ _ _ _ (qH 1) qF)) (fun Y H' fp pn=>⟨(qb (@qR _ _ _ _ _ _ _ (qH 0) (@W2 _ _ _ _ _ _ _ _ _ (QH (qH 1) (qH 2)) qF))),⟨(Qe 2 (show (["row","column","step"]:KQ Str).Nodup by decide +kernel)),(qe 2),eR.nil,rfl⟩,eP.nil⟩))) qF) V.n_tuple))) QS) (qT (qc (zU (@jV _ _ _ _ _ _ _ _ _ (qv (Q2 (Kn:=(["column","row"])) (Kl:=(["step"])) (Kk:=([3,2])) (by exact Q5 rfl (by decide +kernel) rfl rfl ⟨⟨rfl,rfl⟩,⟨⟨rfl,rfl⟩,trivial⟩⟩) (wC rfl V.n_range (@qR _ _ _ _ _ _ _ (qH 1) qF)) (fun Y H' fp pn=>⟨(qb (@W2 _ _ _ _ _ _ _ _ _ (QH (qH 1) (qH 2)) (@qR _ _ _ _ _ _ _ (qH 0) qF))),⟨(Qe 2 (show (["column","row","step"]:KQ Str).Nodup by decide +kernel)),(qe 2),eR.nil,rfl⟩,eP.nil⟩))) qF) V.n_tuple)))))
def eW:dU ["thing","bar","times"] ["thing"] (qJ Qk):=f7
def YE(V:Env K mg a):eN P w K mg base 5 "is_signed_bar" a.is_signed_bar 1 (Q7 a):=by
 refine iF V.f_is_signed_bar eW V.m_is_signed_bar fun Kr A outer s H E F O I=>?_;have M:=F.units;have R:=I (by omega);exact (qO (wa (iM (yA (wM (wF (Qd V.kit V.n_isinstance (@qR _ _ _ _ _ _ _ (qH 0) (@qR _ _ _ _ _ _ _ (Wu rfl V.n_tuple Boot.«tuple») qF))))) (Z0 (wQ (W0 M) ZP (zC (@qR _ _ _ _ _ _ _ (qH 0) qF) V.n_len) qI)))) (qT (qc wN)) QS) (qO (jH (qH 0) (Wh R (qj (qw 1 eW.nd) (qj (qw 2 eW.nd) wk)))) (qT (qc (zN (qV ((EA V).call (F.mono (by omega)) qk) (@qR _ _ _ _ _ _ _ (qH 1) qF)) (zN (qV ((Yo V).call (F.mono (by omega)) qk) (@qR _ _ _ _ _ _ _ (qH 2) qF)) (ZI (sj M (qH 2) qI))))))))
def eT:dU ["signed","length","covers","bar","times","place"] ["signed","length"] (qJ wy):=f7
def z0(V:Env K mg a):eN P w K mg base 3 "covers_of" a.covers_of 2 (ZU a):=by
 refine Js V.f_covers_of eT V.m_covers_of fun Kr A outer s H E I O F=>?_;have M:=I.units;have R:=F (by omega);exact (qO (QR 2 eT.nd JP) (qO (W8 (wP (qH 0)) (Wh R (qj (qw 3 eT.nd) (qj (qw 4 eT.nd) wk))) (qT (W8 (wP (qV ((Ek V).call (I.mono (by omega)) (qr _)) (@qR _ _ _ _ _ _ _ (qH 3) (@qR _ _ _ _ _ _ _ (qH 1) qF)))) (qw 5 eT.nd) (qT (yH (Al (A8 (by decide) _) M) V.nk (qH 2) (qH 5) (QH (yK (Al (A8 (by decide) _) M) V.nk (qH 2) (qH 5) qI) (qH 4))))))) (qT (qc (qH 2)))))
def fC:dU ["floor","length","thing","covers","covered"] ["floor","length","thing"] (qJ wq):=f7
def tf(V:Env K mg a):eN P w K mg base 6 "is_signed" a.is_signed 3 (Wa a):=by
 refine lx V.f_is_signed fC V.m_is_signed fun Kr A outer s H E F U M=>?_;have I:=F.units;have R:=M (by omega);exact (qO (Fa (qV ((jT V).call (F.mono (by omega)) qk) (@qR _ _ _ _ _ _ _ (qH 1) qF))) (qO (wa (iM (yA (wM (wF (Qd V.kit V.n_isinstance (@qR _ _ _ _ _ _ _ (qH 2) (@qR _ _ _ _ _ _ _ (Wu rfl V.n_tuple Boot.«tuple») qF))))) (Z0 (wM (wF (Jn (@jV _ _ _ _ _ _ _ _ _ (qv (Q2 (Kn:=([])) (Kl:=(["part"])) (Kk:=([])) (by exact Q5 rfl (by decide +kernel) rfl rfl trivial) (wP (qH 2)) (fun O H' fp pn=>⟨(qV ((YE V).call (F.mono (by omega)) (qr _)) (@qR _ _ _ _ _ _ _ (qH 0) qF)),⟨(Qe 0 (show (["part"]:KQ Str).Nodup by decide +kernel)),(qe 0),eR.nil,rfl⟩,eP.nil⟩))) qF) V.n_all)))))) (qT (qc wN)) QS) (qO (wa (wM (wF (qV ((Hx V).call (F.mono (by omega)) qk) (@jV _ _ _ _ _ _ _ _ _ (qv (Q2 (Kn:=([])) (Kl:=(["bar","times"])) (Kk:=([])) (by exact Q5 rfl (by decide +kernel) rfl rfl trivial) (wP (qH 2)) (fun O H' fp pn=>⟨(qH 0),⟨(Wh R (qj (Qe 0 (show (["bar","times"]:KQ Str).Nodup by decide +kernel)) (qj (Qe 1 (show (["bar","times"]:KQ Str).Nodup by decide +kernel)) wk))),(zY (Qr (qe 0) (Qr (qe 1) zd))),eR.nil,rfl⟩,eP.nil⟩))) qF)))) (qT (qc wN)) QS) (qO (QR 3 fC.nd (qV ((z0 V).call (F.mono (by omega)) qk) (@qR _ _ _ _ _ _ _ (qH 2) (@qR _ _ _ _ _ _ _ (qH 1) qF)))) (qO (G7 (Kn:=([])) (Kl:=(["place","many"])) (Kk:=([])) 4 fC.nd (by exact Q5 rfl (by decide +kernel) rfl rfl trivial) (qH 3) (fun O H' fp pn=>⟨(qH 0),⟨(Wh R (qj (Qe 0 (show (["place","many"]:KQ Str).Nodup by decide +kernel)) (qj (Qe 1 (show (["place","many"]:KQ Str).Nodup by decide +kernel)) wk))),(zY (Qr (qe 0) (Qr (qe 1) zd))),(eR.cons (wQ (W0 I) ZP (qH 1) qI) eR.nil),rfl⟩,eP.nil⟩)) (qT (qc (zN (jb I (zU (@WD _ _ _ _ _ _ _ _ _ (rg I V.n_sorted (qH 4)) qF) V.n_tuple) (qH 0)) (ZI (Jn (@jV _ _ _ _ _ _ _ _ _ (qv (Q2 (Kn:=(["covers"])) (Kl:=(["place"])) (Kk:=([3])) (by exact Q5 rfl (by decide +kernel) rfl rfl ⟨⟨rfl,rfl⟩,trivial⟩) (wP (qH 4)) (fun O H' fp pn=>⟨(jb I (Yw (Al (A8 (by decide) _) I) V.nk (qH 0) (qH 1)) qI),⟨(Qe 1 (show (["covers","place"]:KQ Str).Nodup by decide +kernel)),(qe 1),eR.nil,rfl⟩,eP.nil⟩))) qF) V.n_all))))))))))
def Fc:dU ["_law_script","_law_k"] ["_law_script","_law_k"] (qJ WI):=f7
def s0(V:Env K mg a):eN P w K mg base 2 "_law_cell" a.law_cell 2 (zk a):=by refine Js V.f_law_cell Fc V.m_law_cell fun Kr A outer s H E F I M=>?_;have O:=F.units;exact (qO (wa (wQ uX GG (qH 1) (zC (@qR _ _ _ _ _ _ _ (qH 0) qF) V.n_len)) (qT (qc (wH (qH 0) (qH 1)))) QS) (qT (qc (QH (yh qI (qH 1)) qI))))
def eO:dU ["_law_script","_law_k","_law_cell_here","_law_number","_law_mixed","_law_j"] ["_law_script","_law_k"] (qJ Ws):=f7
def D6(V:Env K mg a):eN P w K mg base 3 "_law_box" a.law_box 2 (Zf a):=by refine Js V.f_law_box eO V.m_law_box fun Kr A outer s H E F I M=>?_;have O:=F.units;exact (qO (QR 2 eO.nd (qV ((s0 V).call (F.mono (by omega)) qk) (@qR _ _ _ _ _ _ _ (qH 0) (@qR _ _ _ _ _ _ _ (qH 1) qF)))) (qO (wa (wQ (Y8 O) Jy (JR (qH 2) qI) qI) (qT (mP (Qi (@W2 _ _ _ _ _ _ _ _ _ (uR (qH 2) qI) qF)))) QS) (qO (QR 3 eO.nd qI) (qO (QR 4 eO.nd (JR (qH 2) qI)) (qO (W8 (wC rfl V.n_range (@qd _ _ _ _ _ _ _ _ qI qF)) (qw 5 eO.nd) (qO (QR 4 eO.nd (JR (QH (QH (QH (yh (qH 4) qI) (yh (yh qI (qH 5)) (qH 5))) (yh qI (qH 1))) qI) qI)) (qT (QR 3 eO.nd (QH (yh (qH 3) qI) (qH 4)))))) (qT (mP (Qi (@qR _ _ _ _ _ _ _ (qH 3) qF)))))))))
def f8:dU ["_law_box_here","_law_many","_law_digit"] ["_law_box_here","_law_many"] (qJ WP):=f7
def QB(V:Env K mg a):eN P w K mg base 2 "_law_take" a.law_take 2 (qY a):=by refine Js V.f_law_take f8 V.m_law_take fun Kr A outer s H E F I M=>?_;have O:=F.units;exact (qO (QR 2 f8.nd (JR (wH (qH 0) qI) (qH 1))) (qO (Fj (qH 0) qI (D5 (wH (qH 0) qI) (qH 1))) (qT (qc (qH 2)))))
def Jf:dU ["_law_thing"] ["_law_thing"] (qJ wp):=f7
def J4(V:Env K mg a):eN P w K mg base 2 "_law_whole" a.law_whole 1 (WY a):=by refine iF V.f_law_whole Jf V.m_law_whole fun Kr A outer s H E F I M=>?_;have O:=F.units;exact (qT (qc (zN (Qd V.kit V.n_isinstance (@qR _ _ _ _ _ _ _ (qH 0) (@qR _ _ _ _ _ _ _ (Wu rfl V.n_int Boot.«int») qF))) (ZI (oE (Qd V.kit V.n_isinstance (@qR _ _ _ _ _ _ _ (qH 0) (@qR _ _ _ _ _ _ _ (Wu rfl V.n_bool Boot.«bool») qF))))))))
def gj:dU ["_law_box_here","_law_some"] ["_law_box_here"] (qJ Wp):=f7
def vB(V:Env K mg a):eN P w K mg base 3 "_law_odd" a.law_odd 1 (ya a):=by refine iF V.f_law_odd gj V.m_law_odd fun Kr A outer s H E F I M=>?_;have O:=F.units;exact (@qO _ _ _ _ _ _ (@QR _ _ _ _ _ 1 _ _ gj.nd (@qv _ _ _ _ (@Qi _ _ _ _ _ (@qd _ _ _ _ _ _ _ _ lK (@qd _ _ _ _ _ _ _ _ wN (@qd _ _ _ _ _ _ _ _ qI (@qd _ _ _ _ _ _ _ _ Qv (@qd _ _ _ _ _ _ _ _ Qv (@WJ _ _ _ _ _ _ _ _ (@qb _ _ _ _ _ _ qF) (@kB _ _ _ _ _ _ _ (@qv _ _ _ _ (@Qi _ _ _ _ _ qF)) (@tR _ _ _ _ _ _ _ _ tU (@WJ _ _ _ _ _ _ _ _ (@qb _ _ _ _ _ _ (@qd _ _ _ _ _ _ _ _ qI (@qd _ _ _ _ _ _ _ _ qI qF))) (@WJ _ _ _ _ _ _ _ _ (@qb _ _ _ _ _ _ (@qd _ _ _ _ _ _ _ _ qI qF)) (@WJ _ _ _ _ _ _ _ _ (@qb _ _ _ _ _ _ (@qd _ _ _ _ _ _ _ _ qI (@qd _ _ _ _ _ _ _ _ qI (@qd _ _ _ _ _ _ _ _ qI qF)))) (@iO _ _ _ _ _ _ _ _ (@ZQ _ _ _ _ _ qI) (@WJ _ _ _ _ _ _ _ _ (@qb _ _ _ _ _ _ (@qd _ _ _ _ _ _ _ _ qI (@qd _ _ _ _ _ _ _ _ qI qF))) (@kB _ _ _ _ _ _ _ (@qv _ _ _ _ (@Qi _ _ _ _ _ (@WJ _ _ _ _ _ _ _ _ (@qb _ _ _ _ _ _ (@qd _ _ _ _ _ _ _ _ qI (@qd _ _ _ _ _ _ _ _ qI qF))) qF))) (@qd _ _ _ _ _ _ _ _ wN (@WJ _ _ _ _ _ _ _ _ (@qb _ _ _ _ _ _ (@WJ _ _ _ _ _ _ _ _ (@qb _ _ _ _ _ _ (@qd _ _ _ _ _ _ _ _ qI (@qd _ _ _ _ _ _ _ _ qI qF))) (@WJ _ _ _ _ _ _ _ _ (@qb _ _ _ _ _ _ (@qd _ _ _ _ _ _ _ _ qI (@qd _ _ _ _ _ _ _ _ qI qF))) qF))) qF)))))))))))))))))) (by rfl) (by first|exact Or.inl rfl|exact Or.inr rfl) (by rfl) (by first|exact .inl rfl|exact .inr rfl|assumption)) (@qT _ _ _ _ (@qc _ _ _ _ _ (@wH _ _ _ _ _ _ _ (qH 1) (@qV _ _ _ _ _ _ _ _ _ ((QB V).call (F.mono (by omega)) qk) (@qR _ _ _ _ _ _ _ (qH 0) (@qd _ _ _ _ _ _ _ _ qI qF)) (by rfl) (by rfl)) (by exact fun _ _=>rfl)))))
def eY:dU ["_law_e","_law_kinds","_law_words"] ["_law_e"] (qJ WQ):=f7
def IV(V:Env K mg a):eN P w K mg base 1 "_law_kind" a.law_kind 1 (Zt a):=by refine iF V.f_law_kind eY V.m_law_kind fun Kr A outer s H E I M O=>?_;have F:=I.units;exact (@qO _ _ _ _ _ _ (@QR _ _ _ _ _ 1 _ _ eY.nd (@qv _ _ _ _ (@Qi _ _ _ _ _ (@WD _ _ _ _ _ _ _ _ _ (Qd V.kit V.n_isinstance (@qR _ _ _ _ _ _ _ (qH 0) (@qR _ _ _ _ _ _ _ (@ZL _ _ _ _ _ rfl V.k_Z1 (by decide)) qF))) (@WD _ _ _ _ _ _ _ _ _ (Qd V.kit V.n_isinstance (@qR _ _ _ _ _ _ _ (qH 0) (@qR _ _ _ _ _ _ _ (@ZL _ _ _ _ _ rfl V.k_Z2 (by decide)) qF))) (@WD _ _ _ _ _ _ _ _ _ (Qd V.kit V.n_isinstance (@qR _ _ _ _ _ _ _ (qH 0) (@qR _ _ _ _ _ _ _ (@ZL _ _ _ _ _ rfl V.k_Z3 (by decide)) qF))) (@WD _ _ _ _ _ _ _ _ _ (Qd V.kit V.n_isinstance (@qR _ _ _ _ _ _ _ (qH 0) (@qR _ _ _ _ _ _ _ (@ZL _ _ _ _ _ rfl V.k_Z4 (by decide)) qF))) qF)))))) (by rfl) (by first|exact Or.inl rfl|exact Or.inr rfl) (by rfl) (by first|exact .inl rfl|exact .inr rfl|assumption)) (@qO _ _ _ _ _ _ (@QR _ _ _ _ _ 1 _ _ eY.nd (@qv _ _ _ _ (@yq _ _ _ _ _ _ _ (qH 1) (@qv _ _ _ _ (@Qi _ _ _ _ _ (@WD _ _ _ _ _ _ _ _ _ (Qd V.kit V.n_isinstance (@qR _ _ _ _ _ _ _ (qH 0) (@qR _ _ _ _ _ _ _ (@ZL _ _ _ _ _ rfl V.k_Z5 (by decide)) qF))) (@WD _ _ _ _ _ _ _ _ _ (Qd V.kit V.n_isinstance (@qR _ _ _ _ _ _ _ (qH 0) (@qR _ _ _ _ _ _ _ (@ZL _ _ _ _ _ rfl V.k_Z6 (by decide)) qF))) (@WD _ _ _ _ _ _ _ _ _ (Qd V.kit V.n_isinstance (@qR _ _ _ _ _ _ _ (qH 0) (@qR _ _ _ _ _ _ _ (@ZL _ _ _ _ _ rfl V.k_Z7 (by decide)) qF))) (@WD _ _ _ _ _ _ _ _ _ (Qd V.kit V.n_isinstance (@qR _ _ _ _ _ _ _ (qH 0) (@qR _ _ _ _ _ _ _ (@ZL _ _ _ _ _ rfl V.k_Z8 (by decide)) qF))) qF)))))))) (by rfl) (by first|exact Or.inl rfl|exact Or.inr rfl) (by rfl) (by first|exact .inl rfl|exact .inr rfl|assumption)) (@qO _ _ _ _ _ _ (@QR _ _ _ _ _ 1 _ _ eY.nd (@qv _ _ _ _ (@yq _ _ _ _ _ _ _ (qH 1) (@qv _ _ _ _ (@Qi _ _ _ _ _ (@WD _ _ _ _ _ _ _ _ _ (Qd V.kit V.n_isinstance (@qR _ _ _ _ _ _ _ (qH 0) (@qR _ _ _ _ _ _ _ (@ZL _ _ _ _ _ rfl V.k_Z9 (by decide)) qF))) (@WD _ _ _ _ _ _ _ _ _ (Qd V.kit V.n_isinstance (@qR _ _ _ _ _ _ _ (qH 0) (@qR _ _ _ _ _ _ _ (@ZL _ _ _ _ _ rfl V.k_Z10 (by decide)) qF))) (@WD _ _ _ _ _ _ _ _ _ (Qd V.kit V.n_isinstance (@qR _ _ _ _ _ _ _ (qH 0) (@qR _ _ _ _ _ _ _ (@ZL _ _ _ _ _ rfl V.k_Z11 (by decide)) qF))) qF))))))) (by rfl) (by first|exact Or.inl rfl|exact Or.inr rfl) (by rfl) (by first|exact .inl rfl|exact .inr rfl|assumption)) (@qO _ _ _ _ _ _ (@wa _ _ _ _ _ _ _ _ _ (@iM _ _ _ _ (@yA _ _ _ _ _ _ _ _ (@wM _ _ _ _ _ (@wF _ _ _ _ (Qd V.kit V.n_isinstance (@qR _ _ _ _ _ _ _ (qH 0) (@qR _ _ _ _ _ _ _ (@Wu _ _ _ _ _ rfl V.n_ValueError Boot.«ValueError» (by decide) (by decide)) qF))) (by intro _;rfl))) (@Z0 _ _ _ _ _ (@wQ _ _ _ _ _ _ _ _ _ _ (W0 F) ZP (@xP _ _ _ _ _ _ _ (@jV _ _ _ _ _ _ _ _ _ (@qv _ _ _ _ (@Q2 _ _ _ _ _ _ _ ([]) (["_law_kind_here"]) ([]) _ _ _ _ _ (by exact Q5 rfl (by decide +kernel) rfl rfl trivial) (@wP _ _ _ _ _ (qH 1)) (fun R H' fp pn=>⟨(@Dt _ _ _ _ _ _ _ (@qR _ _ _ _ _ _ _ (qH 0) qF) V.n_int (by rfl) (by rfl) (by rfl)),⟨(@Qe _ _ 0 _ (show (["_law_kind_here"]:KQ Str).Nodup by decide +kernel) (by rfl) (by first|exact Or.inl rfl|exact Or.inr rfl) (by first|exact .inl rfl|exact .inr rfl|assumption)),(qe 0),eR.nil,rfl⟩,eP.nil⟩) (by intro _;rfl))) qF) V.n_sum (by rfl) (by rfl) (by rfl)) qI (by first|exact lr _|with_unfolding_all rfl))))) (@qT _ _ _ _ (@qc _ _ _ _ _ Qv)) QS) (@qO _ _ _ _ _ _ (@QR _ _ _ _ _ 2 _ _ eY.nd (@qv _ _ _ _ (@Qi _ _ _ _ _ (@qd _ _ _ _ _ _ _ _ Qv (@qd _ _ _ _ _ _ _ _ Qv (@qd _ _ _ _ _ _ _ _ Qv (@qd _ _ _ _ _ _ _ _ Qv (@qd _ _ _ _ _ _ _ _ Qv (@qd _ _ _ _ _ _ _ _ Qv (@qd _ _ _ _ _ _ _ _ Qv (@qd _ _ _ _ _ _ _ _ Qv (@qd _ _ _ _ _ _ _ _ Qv (@qd _ _ _ _ _ _ _ _ Qv (@qd _ _ _ _ _ _ _ _ Qv qF))))))))))))) (by rfl) (by first|exact Or.inl rfl|exact Or.inr rfl) (by rfl) (by first|exact .inl rfl|exact .inr rfl|assumption)) (@qT _ _ _ _ (@qc _ _ _ _ _ (@Hj _ _ _ _ _ _ _ Qv (@wH _ _ _ _ _ _ _ (qH 2) (@vi _ _ _ _ _ _ _ _ F (qH 1) wN (by rfl) (by rfl) (by rfl) (by rfl) (by rfl)) (by exact fun _ _=>rfl))))))))))
def J6:dU ["_law_found","_law_due"] ["_law_found","_law_due"] (qJ WL):=f7
def yv(V:Env K mg a):∀n,eN P w K mg base (n+1) "_law_same" a.law_same 2 (Qg n a)|0=>by obtain⟨fd,F⟩:=V.f_law_same;exact DW F (F.binds (ps:=["_law_found","_law_due"]) fun _ _ _ _ _ _ us M=>match us,M with|[_,_],_=>rfl) V.m_law_same fun _ _=>rfl|n+1=>by have Y:=yv V n;refine Js V.f_law_same J6 V.m_law_same fun Kr A outer s H E O R U=>?_;have I:=O.units;exact (qO (wa (wF (Qd V.kit V.n_isinstance (@qR _ _ _ _ _ _ _ (qH 1) (@WJ _ _ _ _ _ _ _ _ (qb (@qR _ _ _ _ _ _ _ (Wu rfl V.n_tuple Boot.«tuple») (@qR _ _ _ _ _ _ _ (Wu rfl V.n_list Boot.«list») qF))) qF)))) (qO rN (qT rN)) QS) (qT (qc (zN (jb I (qH 0) (qH 1)) (ZI (jb I (Qd V.kit V.n_isinstance (@qR _ _ _ _ _ _ _ (qH 0) (@qR _ _ _ _ _ _ _ (Wu rfl V.n_bool Boot.«bool») qF))) (Qd V.kit V.n_isinstance (@qR _ _ _ _ _ _ _ (qH 1) (@qR _ _ _ _ _ _ _ (Wu rfl V.n_bool Boot.«bool») qF)))))))))
def Zz(V:Env K mg a):eN P w K mg base 4 "_law_same" a.law_same 2 (Qg 3 a):=yv V 3
def yY:dU ["_law_box_here"] ["_law_box_here"] (qJ Qm):=f7
def YR(V:Env K mg a):eN P w K mg base 3 "_law_no_length" a.law_no_length 1 (Q9 a):=by refine iF V.f_law_no_length yY V.m_law_no_length fun Kr A outer s H E F I M=>?_;have O:=F.units;exact (qT (qc (wH (qv (Qi (@qd _ _ _ _ _ _ _ _ qI (@qd _ _ _ _ _ _ _ _ qI (@qd _ _ _ _ _ _ _ _ qI (@iO _ _ _ _ _ _ _ _ (ZQ qI) (@qd _ _ _ _ _ _ _ _ wN (@qd _ _ _ _ _ _ _ _ lK (@qd _ _ _ _ _ _ _ _ Qv (@WJ _ _ _ _ _ _ _ _ (qb (@qd _ _ _ _ _ _ _ _ qI qF)) (@kB _ _ _ _ _ _ _ (qv (Qi (@qd _ _ _ _ _ _ _ _ qI qF))) (@W2 _ _ _ _ _ _ _ _ _ (o0 qI qI) qF)))))))))))) (qV ((QB V).call (F.mono (by omega)) qk) (@qR _ _ _ _ _ _ _ (qH 0) (@qd _ _ _ _ _ _ _ _ qI qF))))))
def ff:dU ["_law_bar","_law_length","_law_row","_law_column","_law_way"] ["_law_bar","_law_length"] (qJ wu):=f7
def YB(V:Env K mg a):eN P w K mg base 2 "_law_cover" a.law_cover 2 (WZ a):=by
 refine Js V.f_law_cover ff V.m_law_cover fun Kr A outer s H E I M F=>?_;have O:=I.units;have R:=F (by omega);exact (qO (jH (qH 0) (Wh R (qj (qw 2 ff.nd) (qj (qw 3 ff.nd) (qj (qw 4 ff.nd) wk))))) (qO (wa (wQ (Y8 O) Jy (qH 4) qI) (qT (qc (qv (Q2 (Kn:=(["_law_row","_law_column"])) (Kl:=(["_law_k"])) (Kk:=([2,3])) (by exact Q5 rfl (by decide +kernel) rfl rfl ⟨⟨rfl,rfl⟩,⟨⟨rfl,rfl⟩,trivial⟩⟩) (wC rfl V.n_range (@qR _ _ _ _ _ _ _ (qH 1) qF)) (fun U H' fp pn=>⟨(qb (@qR _ _ _ _ _ _ _ (qH 0) (@W2 _ _ _ _ _ _ _ _ _ (QH (qH 1) (qH 2)) qF))),⟨(Qe 2 (show (["_law_row","_law_column","_law_k"]:KQ Str).Nodup by decide +kernel)),(qe 2),eR.nil,rfl⟩,eP.nil⟩))))) QS) (qT (qc (qv (Q2 (Kn:=(["_law_column","_law_row"])) (Kl:=(["_law_k"])) (Kk:=([3,2])) (by exact Q5 rfl (by decide +kernel) rfl rfl ⟨⟨rfl,rfl⟩,⟨⟨rfl,rfl⟩,trivial⟩⟩) (wC rfl V.n_range (@qR _ _ _ _ _ _ _ (qH 1) qF)) (fun U H' fp pn=>⟨(qb (@W2 _ _ _ _ _ _ _ _ _ (QH (qH 1) (qH 2)) (@qR _ _ _ _ _ _ _ (qH 0) qF))),⟨(Qe 2 (show (["_law_column","_law_row","_law_k"]:KQ Str).Nodup by decide +kernel)),(qe 2),eR.nil,rfl⟩,eP.nil⟩)))))))
def eJ:dU ["_law_shares_here","_law_length","_law_found","_law_bar","_law_times","_law_place"] ["_law_shares_here","_law_length"] (qJ Qx):=f7
def W6(V:Env K mg a):eN P w K mg base 3 "_law_together" a.law_together 2 (qu a):=by
 refine Js V.f_law_together eJ V.m_law_together fun Kr A outer s H E M O I=>?_;have F:=M.units;have R:=I (by omega);exact (qO (QR 2 eJ.nd JP) (qO (W8 (wP (qH 0)) (Wh R (qj (qw 3 eJ.nd) (qj (qw 4 eJ.nd) wk))) (qT (W8 (wP (qV ((YB V).call (M.mono (by omega)) (qr _)) (@qR _ _ _ _ _ _ _ (qH 3) (@qR _ _ _ _ _ _ _ (qH 1) qF)))) (qw 5 eJ.nd) (qT (yH (Al (A8 (by decide) _) F) V.nk (qH 2) (qH 5) (QH (yK (Al (A8 (by decide) _) F) V.nk (qH 2) (qH 5) qI) (qH 4))))))) (qT (qc (sB F V.n_sorted (qv (Gw (Kn:=(["_law_found"])) (Kl:=(["_law_place"])) (Kk:=([2])) (by exact Q5 rfl (by decide +kernel) rfl rfl ⟨⟨rfl,rfl⟩,trivial⟩) (qH 2) (fun U H' fp pn=>⟨(qb (@qR _ _ _ _ _ _ _ (qH 1) (@JD _ _ _ _ _ _ _ _ (Yw (Al (A8 (by decide) _) F) V.nk (qH 0) (qH 1)) qF))),⟨(Qe 1 (show (["_law_found","_law_place"]:KQ Str).Nodup by decide +kernel)),(qe 1),(eR.cons (wQ (W0 F) ZP (Yw (Al (A8 (by decide) _) F) V.nk (qH 0) (qH 1)) qI) eR.nil),rfl⟩,eP.nil⟩))))))))
def YI:dU ["_law_thing"] ["_law_thing"] (qJ Qw):=f7
def Yu(V:Env K mg a):eN P w K mg base 3 "_law_is_share" a.law_is_share 1 (Wz a):=by refine iF V.f_law_is_share YI V.m_law_is_share fun Kr A outer s H E I M O=>?_;have F:=I.units;exact (qO (wa (iM (yA (wM (wF (Qd V.kit V.n_isinstance (@qR _ _ _ _ _ _ _ (qH 0) (@qR _ _ _ _ _ _ _ (Wu rfl V.n_tuple Boot.«tuple») qF))))) (yA (wQ (W0 F) ZP (zC (@qR _ _ _ _ _ _ _ (qH 0) qF) V.n_len) qI) (yA (wM (wF (Qd V.kit V.n_isinstance (@JD _ _ _ _ _ _ _ _ (wH (qH 0) qI) (@qR _ _ _ _ _ _ _ (Wu rfl V.n_tuple Boot.«tuple») qF))))) (Z0 (wQ (W0 F) ZP (zC (@JD _ _ _ _ _ _ _ _ (wH (qH 0) qI) qF) V.n_len) qI)))))) (qT (qc wN)) QS) (qO (wa (iM (yA (wM (wF (Jn (@jV _ _ _ _ _ _ _ _ _ (qv (Q2 (Kn:=([])) (Kl:=(["_law_one"])) (Kk:=([])) (by exact Q5 rfl (by decide +kernel) rfl rfl trivial) (wP (WW (wH (qH 0) qI) (W7 (qH 0) (wV qI) wj))) (fun R H' fp pn=>⟨(qV ((J4 V).call (I.mono (by omega)) (qr _)) (@qR _ _ _ _ _ _ _ (qH 0) qF)),⟨(Qe 0 (show (["_law_one"]:KQ Str).Nodup by decide +kernel)),(qe 0),eR.nil,rfl⟩,eP.nil⟩))) qF) V.n_all))) (Z0 (wQ (v5 F) r9 (wH (wH (qH 0) qI) qI) (qb (@qd _ _ _ _ _ _ _ _ qI (@qd _ _ _ _ _ _ _ _ qI qF))))))) (qT (qc wN)) QS) (qT (qc (zN (ng (rK (@JD _ _ _ _ _ _ _ _ (wH (wH (qH 0) qI) qI) qF) V.n_abs) qI) (zN (ng (rK (@JD _ _ _ _ _ _ _ _ (wH (wH (qH 0) qI) qI) qF) V.n_abs) qI) (ZI (sj F (wH (qH 0) qI) qI))))))))
def eX:dU ["_law_floor","_law_length","_law_thing","_law_one","_law_bars"] ["_law_floor","_law_length","_law_thing"] (qJ Qj):=f7
def YM(V:Env K mg a):eN P w K mg base 4 "_law_is_signed" a.law_is_signed 3 (wA a):=by
 refine lx V.f_law_is_signed eX V.m_law_is_signed fun Kr A outer s H E F R I=>?_;have M:=F.units;have O:=I (by omega);exact (qO (wa (wM (wF (Qd V.kit V.n_isinstance (@qR _ _ _ _ _ _ _ (qH 2) (@qR _ _ _ _ _ _ _ (Wu rfl V.n_tuple Boot.«tuple») qF))))) (qT (qc wN)) QS) (qO (W8 (wP (qH 2)) (qw 3 eX.nd) (qT (wa (wM (wF (qV ((Yu V).call (F.mono (by omega)) (qr _)) (@qR _ _ _ _ _ _ _ (qH 3) qF)))) (qT (qc wN)) QS))) (qO (pq (Kn:=([])) (Kl:=(["_law_bar","_law_times"])) (Kk:=([])) 4 eX.nd (by exact Q5 rfl (by decide +kernel) rfl rfl trivial) (wP (qH 2)) (fun U H' fp pn=>⟨(qH 0),⟨(Wh O (qj (Qe 0 (show (["_law_bar","_law_times"]:KQ Str).Nodup by decide +kernel)) (qj (Qe 1 (show (["_law_bar","_law_times"]:KQ Str).Nodup by decide +kernel)) wk))),(zY (Qr (qe 0) (Qr (qe 1) zd))),eR.nil,rfl⟩,eP.nil⟩)) (qT (qc (zN (jb M (qH 4) (D9 O M V.n_sorted V.n_set (qH 4))) (ZI (jb M (qV ((W6 V).call (F.mono (by omega)) qk) (@qR _ _ _ _ _ _ _ (qH 2) (@qR _ _ _ _ _ _ _ (qH 1) qF))) (qv (Q2 (Kn:=([])) (Kl:=(["_law_cell_here"])) (Kk:=([])) (by exact Q5 rfl (by decide +kernel) rfl rfl trivial) (wP (qH 0)) (fun U H' fp pn=>⟨(qb (@qR _ _ _ _ _ _ _ (qH 0) (@qd _ _ _ _ _ _ _ _ qI qF))),⟨(Qe 0 (show (["_law_cell_here"]:KQ Str).Nodup by decide +kernel)),(qe 0),eR.nil,rfl⟩,eP.nil⟩)))))))))))
def ee:dU ["_law_box_here","_law_length","_law_found","_law_turn","_law_way","_law_row","_law_column","_law_places","_law_times","_law_k"] ["_law_box_here","_law_length"] (qJ wY):=f7
def Jv(V:Env K mg a):eN P w K mg base 4 "_law_shares" a.law_shares 2 (Wm a):=by
 refine Js V.f_law_shares ee V.m_law_shares fun Kr A outer s H E F R O=>?_;have I:=F.units;have M:=O (by omega);exact (qO (QR 2 ee.nd JP) (qO (W8 (wC rfl V.n_range (@W2 _ _ _ _ _ _ _ _ _ (QH qI (qV ((QB V).call (F.mono (by omega)) qk) (@qR _ _ _ _ _ _ _ (qH 0) (@qd _ _ _ _ _ _ _ _ qI qF)))) qF)) (qw 3 ee.nd) (qO (QR 4 ee.nd (qV ((QB V).call (F.mono (by omega)) (qr _)) (@qR _ _ _ _ _ _ _ (qH 0) (@qd _ _ _ _ _ _ _ _ qI qF)))) (qO (u0 5 6 M ee.nd (@WD _ _ _ _ _ _ _ _ _ (qV ((QB V).call (F.mono (by omega)) (qr _)) (@qR _ _ _ _ _ _ _ (qH 0) (@W2 _ _ _ _ _ _ _ _ _ (Zx qI (wH (qv (Qi (@qd _ _ _ _ _ _ _ _ qI (@qR _ _ _ _ _ _ _ (qH 1) qF)))) (qH 4))) qF))) (@WD _ _ _ _ _ _ _ _ _ (qV ((QB V).call (F.mono (by omega)) (qr _)) (@qR _ _ _ _ _ _ _ (qH 0) (@W2 _ _ _ _ _ _ _ _ _ (Zx qI (wH (qv (Qi (@qR _ _ _ _ _ _ _ (qH 1) (@qd _ _ _ _ _ _ _ _ qI qF)))) (qH 4))) qF))) qF))) (qO (QR 7 ee.nd (qV ((YB V).call (F.mono (by omega)) (qr _)) (@WJ _ _ _ _ _ _ _ _ (qb (@qR _ _ _ _ _ _ _ (qH 5) (@qR _ _ _ _ _ _ _ (qH 6) (@qR _ _ _ _ _ _ _ (qH 4) qF)))) (@qR _ _ _ _ _ _ _ (qH 1) qF)))) (qT (wa (wQ (Y8 I) Jy (qv (Q2 (Kn:=(["_law_places"])) (Kl:=(["_law_place","_law_times"])) (Kk:=([7])) (by exact Q5 rfl (by decide +kernel) rfl rfl ⟨⟨rfl,rfl⟩,trivial⟩) (wP (qV ((W6 V).call (F.mono (by omega)) (qr _)) (@WD _ _ _ _ _ _ _ _ _ (qv (xX M V.n_list (qH 2))) (@qR _ _ _ _ _ _ _ (qH 1) qF)))) (fun U H' fp pn=>⟨(qH 1),⟨(Wh M (qj (Qe 1 (show (["_law_places","_law_place","_law_times"]:KQ Str).Nodup by decide +kernel)) (qj (Qe 2 (show (["_law_places","_law_place","_law_times"]:KQ Str).Nodup by decide +kernel)) wk))),(zY (Qr (qe 1) (Qr (qe 2) zd))),(eR.cons (wQ (ur I) r9 (qH 1) (qH 0)) eR.nil),rfl⟩,eP.nil⟩))) (qv (Qi qF))) (qT (yH (Al (A8 (by decide) _) I) V.nk (qH 2) (qb (@qR _ _ _ _ _ _ _ (qH 5) (@qR _ _ _ _ _ _ _ (qH 6) (@qR _ _ _ _ _ _ _ (qH 4) qF)))) qI)) QS)))))) (qO (W8 (wC rfl V.n_range (@WD _ _ _ _ _ _ _ _ _ (qV ((QB V).call (F.mono (by omega)) qk) (@qR _ _ _ _ _ _ _ (qH 0) (@qd _ _ _ _ _ _ _ _ qI qF))) qF)) (qw 3 ee.nd) (qO (ug 5 6 8 M ee.nd (@W2 _ _ _ _ _ _ _ _ _ (Zx (qV ((QB V).call (F.mono (by omega)) (qr _)) (@qR _ _ _ _ _ _ _ (qH 0) (@qd _ _ _ _ _ _ _ _ qI qF))) qI) (@W2 _ _ _ _ _ _ _ _ _ (Zx (qV ((QB V).call (F.mono (by omega)) (qr _)) (@qR _ _ _ _ _ _ _ (qH 0) (@qd _ _ _ _ _ _ _ _ qI qF))) qI) (@JD _ _ _ _ _ _ _ _ (wH (qv (Qi (@qd _ _ _ _ _ _ _ _ qI (@iO _ _ _ _ _ _ _ _ (ZQ qI) (@qd _ _ _ _ _ _ _ _ qI qF))))) (qV ((QB V).call (F.mono (by omega)) (qr _)) (@qR _ _ _ _ _ _ _ (qH 0) (@qd _ _ _ _ _ _ _ _ qI qF)))) qF)))) (qT (W8 (wC rfl V.n_range (@qR _ _ _ _ _ _ _ (qH 1) qF)) (qw 9 ee.nd) (qO (yH (Al (A8 (by decide) _) I) V.nk (qH 2) (qb (@W2 _ _ _ _ _ _ _ _ _ (QH (qH 5) (qH 9)) (@qR _ _ _ _ _ _ _ (qH 6) (@qd _ _ _ _ _ _ _ _ qI qF)))) (QH (yK (Al (A8 (by decide) _) I) V.nk (qH 2) (qb (@W2 _ _ _ _ _ _ _ _ _ (QH (qH 5) (qH 9)) (@qR _ _ _ _ _ _ _ (qH 6) (@qd _ _ _ _ _ _ _ _ qI qF)))) qI) (qH 8))) (qT (yH (Al (A8 (by decide) _) I) V.nk (qH 2) (qb (@qR _ _ _ _ _ _ _ (qH 5) (@W2 _ _ _ _ _ _ _ _ _ (QH (qH 6) (qH 9)) (@qd _ _ _ _ _ _ _ _ qI qF)))) (Zx (yK (Al (A8 (by decide) _) I) V.nk (qH 2) (qb (@qR _ _ _ _ _ _ _ (qH 5) (@W2 _ _ _ _ _ _ _ _ _ (QH (qH 6) (qH 9)) (@qd _ _ _ _ _ _ _ _ qI qF)))) qI) (qH 8))))))))) (qT (qc (zU (@jV _ _ _ _ _ _ _ _ _ (qv (Q2 (Kn:=(["_law_found"])) (Kl:=(["_law_bar"])) (Kk:=([2])) (by exact Q5 rfl (by decide +kernel) rfl rfl ⟨⟨rfl,rfl⟩,trivial⟩) (wP (rg I V.n_sorted (qv (Ic M V.n_list (qH 2))))) (fun U H' fp pn=>⟨(qb (@qR _ _ _ _ _ _ _ (qH 1) (@JD _ _ _ _ _ _ _ _ (Yw (Al (A8 (by decide) _) I) V.nk (qH 0) (qH 1)) qF))),⟨(Qe 1 (show (["_law_found","_law_bar"]:KQ Str).Nodup by decide +kernel)),(qe 1),(eR.cons (wQ (W0 I) ZP (Yw (Al (A8 (by decide) _) I) V.nk (qH 0) (qH 1)) qI) eR.nil),rfl⟩,eP.nil⟩))) qF) V.n_tuple))))))
def ez:dU ["_law_box_here","_law_shares_here","_law_at","_law_bar","_law_times","_law_spot","_law_odd_here","_law_new","_law_some"] ["_law_box_here","_law_shares_here"] (qJ WR):=f7
def uz(V:Env K mg a):eN P w K mg base 4 "_law_bent" a.law_bent 2 (W4 a):=by
 refine Js V.f_law_bent ez V.m_law_bent fun Kr A outer s H E F M I=>?_;have R:=F.units;have O:=I (by omega);exact (qO (QR 2 ez.nd (qV ((QB V).call (F.mono (by omega)) qk) (@qR _ _ _ _ _ _ _ (qH 0) (@W2 _ _ _ _ _ _ _ _ _ (QH (zC (@qR _ _ _ _ _ _ _ (qH 1) qF) V.n_len) qI) qF)))) (qO (jH (wH (WW (qH 1) (qb (@WJ _ _ _ _ _ _ _ _ (qb (@WJ _ _ _ _ _ _ _ _ (qb (@qd _ _ _ _ _ _ _ _ qI (@qd _ _ _ _ _ _ _ _ qI (@qd _ _ _ _ _ _ _ _ qI qF)))) (@qd _ _ _ _ _ _ _ _ qI qF))) qF))) (qH 2)) (Wh O (qj (qw 3 ez.nd) (qj (qw 4 ez.nd) wk)))) (qO (QR 5 ez.nd (qV ((QB V).call (F.mono (by omega)) qk) (@qR _ _ _ _ _ _ _ (qH 0) (@qd _ _ _ _ _ _ _ _ qI qF)))) (qO (QR 6 ez.nd (wH (qv (Qi (@qd _ _ _ _ _ _ _ _ qI (@iO _ _ _ _ _ _ _ _ (ZQ qI) (@qd _ _ _ _ _ _ _ _ qI (@qd _ _ _ _ _ _ _ _ wN (@qd _ _ _ _ _ _ _ _ lK (@qd _ _ _ _ _ _ _ _ Qv (@WJ _ _ _ _ _ _ _ _ (qb (@qd _ _ _ _ _ _ _ _ qI qF)) (@qd _ _ _ _ _ _ _ _ qI (@iO _ _ _ _ _ _ _ _ (ZQ qI) (@W2 _ _ _ _ _ _ _ _ _ (o0 qI qI) qF)))))))))))) (qV ((QB V).call (F.mono (by omega)) qk) (@qR _ _ _ _ _ _ _ (qH 0) (@qd _ _ _ _ _ _ _ _ qI qF))))) (qO (QR 7 ez.nd (qv (Qi (@WJ _ _ _ _ _ _ _ _ (qb (@qR _ _ _ _ _ _ _ (qH 3) (@W2 _ _ _ _ _ _ _ _ _ (QH (qH 4) qI) qF))) (@WJ _ _ _ _ _ _ _ _ (qb (@qR _ _ _ _ _ _ _ (qH 3) (@qd _ _ _ _ _ _ _ _ qI qF))) (@WJ _ _ _ _ _ _ _ _ (qb (@qR _ _ _ _ _ _ _ (qH 3) (@qd _ _ _ _ _ _ _ _ wN qF))) (@WJ _ _ _ _ _ _ _ _ (qb (@W2 _ _ _ _ _ _ _ _ _ (WW (WW (W7 (qH 3) wj (wV (qH 5))) (qb (@qR _ _ _ _ _ _ _ (qH 6) qF))) (W7 (qH 3) (wV (QH (qH 5) qI)) wj)) (@qR _ _ _ _ _ _ _ (qH 4) qF))) (@WJ _ _ _ _ _ _ _ _ (qb (@qR _ _ _ _ _ _ _ (qH 3) (@W2 _ _ _ _ _ _ _ _ _ (Zx qI (qH 4)) qF))) qF)))))))) (qO (QR 7 ez.nd (qv (yq (qH 7) (qv (Qi (@kB _ _ _ _ _ _ _ (qv (Qi (@qR _ _ _ _ _ _ _ (qH 3) (@qR _ _ _ _ _ _ _ (qH 4) qF)))) (@WJ _ _ _ _ _ _ _ _ (qb (@qR _ _ _ _ _ _ _ (qH 3) qF)) (@WJ _ _ _ _ _ _ _ _ (qb (@qR _ _ _ _ _ _ _ (qH 3) (@qR _ _ _ _ _ _ _ (qH 4) (@qd _ _ _ _ _ _ _ _ qI qF)))) (@qR _ _ _ _ _ _ _ (qH 3) (@WJ _ _ _ _ _ _ _ _ (qb (@WD _ _ _ _ _ _ _ _ _ (qv (oJ V.n_list (qH 3))) (@qR _ _ _ _ _ _ _ (qH 4) qF))) (@qR _ _ _ _ _ _ _ (qH 6) qF))))))))))) (qO (pq (Kn:=(["_law_shares_here","_law_at"])) (Kl:=(["_law_one"])) (Kk:=([1,2])) 8 ez.nd (by exact Q5 rfl (by decide +kernel) rfl rfl ⟨⟨rfl,rfl⟩,⟨⟨rfl,rfl⟩,trivial⟩⟩) (wP (qH 7)) (fun U H' fp pn=>⟨(WW (WW (W7 (qH 0) wj (wV (qH 1))) (qb (@qR _ _ _ _ _ _ _ (qH 2) qF))) (W7 (qH 0) (wV (QH (qH 1) qI)) wj)),⟨(Qe 2 (show (["_law_shares_here","_law_at","_law_one"]:KQ Str).Nodup by decide +kernel)),(qe 2),eR.nil,rfl⟩,eP.nil⟩)) (qO (QR 8 ez.nd (qv (yq (qH 8) (qv (Qi (@W2 _ _ _ _ _ _ _ _ _ (WW (W7 (qH 1) wj (wV (qH 2))) (W7 (qH 1) (wV (QH (qH 2) qI)) wj)) (@W2 _ _ _ _ _ _ _ _ _ (WW (WW (W7 (qH 1) wj (wV (qH 2))) (W7 (qH 1) (wV (qH 2)) (wV (QH (qH 2) qI)))) (W7 (qH 1) (wV (qH 2)) wj)) (@JD _ _ _ _ _ _ _ _ (Gr (qH 1) wj wj (wV (ZQ qI))) qF)))))))) (qT (qc (wH (qv (yq (qH 8) (qv (Qi (@WD _ _ _ _ _ _ _ _ _ (qv (oJ V.n_list (qH 1))) (@W2 _ _ _ _ _ _ _ _ _ (WW (qH 1) (qb (@WJ _ _ _ _ _ _ _ _ (qb (@WJ _ _ _ _ _ _ _ _ (qb (@qd _ _ _ _ _ _ _ _ qI (@qd _ _ _ _ _ _ _ _ qI (@qd _ _ _ _ _ _ _ _ qI qF)))) (@qd _ _ _ _ _ _ _ _ qI qF))) qF))) (@WD _ _ _ _ _ _ _ _ _ (qV ((vB V).call (F.mono (by omega)) qk) (@qR _ _ _ _ _ _ _ (qH 0) qF)) (@WJ _ _ _ _ _ _ _ _ (qb qF) qF)))))))) (qV ((QB V).call (F.mono (by omega)) qk) (@qR _ _ _ _ _ _ _ (qH 0) (@qd _ _ _ _ _ _ _ _ qI qF))))))))))))))
def GM(V:Env K mg a):∀C∈wD a,W.mroIn K C (.ref a.Z0)=some true:=by
 intro C hC;unfold wD at hC;rcases AK.mp hC with rfl|hC
 ·exact V.e_Z1
 cases hC
def fU:dU ["_law_floor","_law_length","_law_thing","_law_e"] ["_law_floor","_law_length","_law_thing"] (qJ wO):=f7
def zF(V:Env K mg a):eN P w K mg base 7 "_law_asked" a.law_asked 3 (QQ a):=by
 obtain⟨fd,F⟩:=V.f_law_asked;obtain⟨_,_,_,o_Z0⟩:=V.o_Z0;refine jn (B:=yw a) F fU (F.binds (ps:=["_law_floor","_law_length","_law_thing"]) fun _ _ _ _ _ _ us I=>match us,I with|[_,_,_],_=>rfl) V.m_law_asked (fun l st h=>Wn h) (fun Kr A outer s H E M O=>?_) (fun l Y I Z=>WM I);have hu:=M.units;have R:(wW (fB P w) P w K mg base ["_law_floor","_law_length","_law_thing","_law_e"] "_law_asked" (qJ wO) a.law_asked Kr A outer s H E).calm=true:=by show A.handled.isNone=true;rw[O (by omega)];rfl
 exact (qT (ti 3 ⟨rfl,rfl,rfl⟩ R fU.nd rfl V.k_Z0 o_Z0 V.b_Z0 (GM V) (fun Kf xe E' U=>(qT (qc (qV ((tf V).call (M.mono (by omega)) U) (@qR _ _ _ _ _ _ _ (qH 0) (@qR _ _ _ _ _ _ _ (qH 1) (@qR _ _ _ _ _ _ _ (qH 2) qF))))))) (fun ea=>(qT (qc (qV ((IV V).call (sK M) (qr _)) (@qR _ _ _ _ _ _ _ (qH 3) qF)))))))
def fH:dU ["_law_script","_law_k","_law_box_here","_law_length","_law_shares_here","_law_floor","_law_thing","_law_held"] ["_law_script"] (qJ zz):=f7
def Hl{fd:FuncData}(V:Env K mg a)(F:fD K "law" "law" zz a.law fd):fZ P w K mg base (fB P w) 8 a.law fd ["_law_script"] (iR K 1 (kA a)):=by
 refine gQ F fH fun Kr A outer s H E I O=>⟨oW a,?_,fun l Z U hn=>WM U⟩;have M:=I.units;have R:(wW (fB P w) P w K mg base ["_law_script","_law_k","_law_box_here","_law_length","_law_shares_here","_law_floor","_law_thing","_law_held"] "law" (qJ zz) a.law Kr A outer s H E).calm=true:=by show A.handled.isNone=true;rw[O (by omega)];rfl
 exact (qO (W8 (wC rfl V.n_range (@WD _ _ _ _ _ _ _ _ _ (Dp (@qd _ _ _ _ _ _ _ _ qI (@WD _ _ _ _ _ _ _ _ _ (xE (@WD _ _ _ _ _ _ _ _ _ (zC (@qR _ _ _ _ _ _ _ (qH 0) qF) V.n_len) (@qd _ _ _ _ _ _ _ _ qI qF)) R V.n_min) qF)) R V.n_max) qF)) (qw 1 fH.nd) (qO (QR 2 fH.nd (qV ((D6 V).call (I.mono (by omega)) (qr _)) (@qR _ _ _ _ _ _ _ (qH 0) (@qR _ _ _ _ _ _ _ (qH 1) qF)))) (qO (QR 3 fH.nd (QH qI (qV ((QB V).call (I.mono (by omega)) (qr _)) (@qR _ _ _ _ _ _ _ (qH 2) (@qd _ _ _ _ _ _ _ _ qI qF))))) (qO (QR 4 fH.nd (qV ((Jv V).call (I.mono (by omega)) (qr _)) (@qR _ _ _ _ _ _ _ (qH 2) (@qR _ _ _ _ _ _ _ (qH 3) qF)))) (qO (QR 5 fH.nd (zU (@jV _ _ _ _ _ _ _ _ _ (qv (Q2 (Kn:=([])) (Kl:=(["_law_place","_law_times"])) (Kk:=([])) (by exact Q5 rfl (by decide +kernel) rfl rfl trivial) (wP (qV ((W6 V).call (I.mono (by omega)) (qr _)) (@qR _ _ _ _ _ _ _ (qH 4) (@qR _ _ _ _ _ _ _ (qH 3) qF)))) (fun Y H' fp pn=>⟨(qH 0),⟨(Wh R (qj (Qe 0 (show (["_law_place","_law_times"]:KQ Str).Nodup by decide +kernel)) (qj (Qe 1 (show (["_law_place","_law_times"]:KQ Str).Nodup by decide +kernel)) wk))),(zY (Qr (qe 0) (Qr (qe 1) zd))),eR.nil,rfl⟩,eP.nil⟩))) qF) V.n_tuple)) (qO (wa (wM (wF (qV ((Zz V).call (I.mono (by omega)) (qr _)) (@WD _ _ _ _ _ _ _ _ _ (qV ((zF V).call (I.mono (by omega)) (qr _)) (@qR _ _ _ _ _ _ _ (qH 5) (@qR _ _ _ _ _ _ _ (qH 3) (@qR _ _ _ _ _ _ _ (qH 4) qF)))) (@qd _ _ _ _ _ _ _ _ wN qF))))) (qT (qc wN)) QS) (qO (W8 (wP (qv (yq (qv (Q2 (Kn:=(["_law_box_here","_law_shares_here"])) (Kl:=(["_law_turn"])) (Kk:=([2,4])) (by exact Q5 rfl (by decide +kernel) rfl rfl ⟨⟨rfl,rfl⟩,⟨⟨rfl,rfl⟩,trivial⟩⟩) (wC rfl V.n_range (@qd _ _ _ _ _ _ _ _ qI qF)) (fun Y H' fp pn=>⟨(qV ((uz V).call (I.mono (by omega)) (qr _)) (@qR _ _ _ _ _ _ _ (qH 0) (@qR _ _ _ _ _ _ _ (qH 1) qF))),⟨(Qe 2 (show (["_law_box_here","_law_shares_here","_law_turn"]:KQ Str).Nodup by decide +kernel)),(qe 2),eR.nil,rfl⟩,eP.nil⟩))) (qv (Qi (@WJ _ _ _ _ _ _ _ _ (qb qF) qF)))))) (qw 6 fH.nd) (qO (QR 7 fH.nd (o5 I.gd M (@qR _ _ _ _ _ _ _ (qH 6) qF) V.n_repr)) (qO (wa (wM (wF (qV ((Zz V).call (I.mono (by omega)) (qr _)) (@WD _ _ _ _ _ _ _ _ _ (qV ((zF V).call (I.mono (by omega)) (qr _)) (@qR _ _ _ _ _ _ _ (qH 5) (@qR _ _ _ _ _ _ _ (qH 3) (@qR _ _ _ _ _ _ _ (qH 6) qF)))) (@WD _ _ _ _ _ _ _ _ _ (qV ((YM V).call (I.mono (by omega)) (qr _)) (@qR _ _ _ _ _ _ _ (qH 5) (@qR _ _ _ _ _ _ _ (qH 3) (@qR _ _ _ _ _ _ _ (qH 6) qF)))) qF))))) (qT (qc wN)) QS) (qT (wa (wQ (W0 M) ZP (o5 I.gd M (@qR _ _ _ _ _ _ _ (qH 6) qF) V.n_repr) (qH 7)) (qT (qc wN)) QS))))) (qO (wa (wM (wF (qV ((Zz V).call (I.mono (by omega)) (qr _)) (@WD _ _ _ _ _ _ _ _ _ (qV ((zF V).call (I.mono (by omega)) (qr _)) (@JD _ _ _ _ _ _ _ _ (W7 (qH 5) (wV qI) wj) (@qR _ _ _ _ _ _ _ (qH 3) (@qR _ _ _ _ _ _ _ (qH 4) qF)))) (@qd _ _ _ _ _ _ _ _ wN qF))))) (qT (qc wN)) QS) (qT (wa (wQ (W0 M) ZP (qV ((zF V).call (I.mono (by omega)) (qr _)) (@qR _ _ _ _ _ _ _ (qH 5) (@WD _ _ _ _ _ _ _ _ _ (qV ((YR V).call (I.mono (by omega)) (qr _)) (@qR _ _ _ _ _ _ _ (qH 2) qF)) (@qR _ _ _ _ _ _ _ (qH 4) qF)))) Qv) (qT (qc wN)) QS)))))))))) (qT (qc wN)))
end
end K51
end
section
namespace EV
open PySem L2 EX
def ww{G:qC->Prop}{k:PV->qC->Rs (KQ PV)}{st:qC}(I:G st){F:PV->KQ PV}:∀{l:KQ PV},(∀p∈l,k p st= .ok (F p) st)->qq G k l st= .ok (l.flatMap F) st|[],_=>by unfold qq;rw[AE I];rfl|p::l,h=>by unfold qq;rw[AE I,h p AI];show (qq G k l st).bind _=_;rw[ww I fun q M=>h q (AH _ M)];rfl
def yy{F:PV->PV}:∀l:KQ PV,l.flatMap (fun p=>[F p])=l.map F|[]=>rfl|p::l=>by rw[C3,yy l];rfl
def Ql{Kk:KQ Nat}{n:Nat}{fi:FI}{g:FG}{f:FE}{r:ql}{st:qC}{w:ItP}{F:PV->PV}(I:fi r st= .ok w st)(M:w.G st)(O:w.l.length≤sizeLine)
  (h:∀p∈w.l,∃r',g p (wK Kk n r)=some r'∧f r' st= .ok (F p) st):QE Kk n fi g [] [] f r st= .ok (w.l.map F) st:=by
 unfold QE;rw[I];show (match qq w.G (QG ⟨fi,g,[]⟩ (QY [] f) (wK Kk n r)) w.l st with | .ok l R=>if l.length≤sizeLine then Rs.ok l R else Rs.no|_=>Rs.no)=_;rw[ww (F:=fun p=>[F p]) M fun p U=>by
  obtain⟨r',Y,Z⟩:=h p U;unfold QG;show (match g p (wK Kk n r) with|none=>_|some r'=>_)=_;rw[Y];show (QY [] f) r' st=_;unfold QY;rw[Z];rfl]
 rw[yy];dsimp only;rw[AE (by rw[AF];exact O)]
def jy{G:qC->Prop}{g:FG}{F:FS}{r:ql}{st:qC}(h:G st):Qf G g F [] r st= .nx r st:=by unfold Qf;rw[AE h]
def Yq{G:qC->Prop}{g:FG}{F:FS}{r r1 I:ql}{st s2:qC}{p:PV}{ps:KQ PV}(h:G st)(M:g p r=some r1)(O:F r1 st= .nx I s2):Qf G g F (p::ps) r st=Qf G g F ps I s2:=by rw[Qf,AE h,M];dsimp only;rw[O]
section
variable{F G:FS}{f:FE}{fl:FL}{fi:FI}{g:FG}{t:FT}{r r':ql}{st Km:qC}{p:PV}{l:KQ PV}{w:ItP}{i:Nat}
def wc(h:F r st= .nx r' Km):qU F G r st=G r' Km:=by unfold qU;rw[h]
def l3(h:F r st= .rt p Km):qU F G r st= .rt p Km:=by unfold qU;rw[h]
def Eh{x:hZ}(h:F r st= .ex x Km):qU F G r st= .ex x Km:=by unfold qU;rw[h]
def FU{x:hZ}(h:f r st= .ex x Km):zn f r st= .ex x Km:=by unfold zn;rw[h];rfl
def ud{x:hZ}{n N:Nat}{B:FS}(F:l.length=n)(h:B (QA N l) st= .ex x Km):QD n N B l st= .ex x Km:=by unfold QD;rw[AE F,h];rfl
def EC(h:f r st= .ok p Km):zn f r st= .nx r Km:=by unfold zn;rw[h];rfl
def zG(h:f r st= .ok p Km):qx i f r st= .nx (r.set i (some p)) Km:=by unfold qx;rw[h];rfl
def yR(h:f r st= .ok p Km):qg f r st= .rt p Km:=by unfold qg;rw[h];rfl
def sx(h:fl r st= .ok l Km):Yl fl r st= .rt (.ref Km.length) (Km++[.l l]):=by unfold Yl;rw[h];rfl
def pK(h:fi r st= .ok w Km):WF fi g F r st=Qf w.G g F w.l r Km:=by unfold WF;rw[h];rfl
def lQ(h:t r st= .ok true Km):Q3 t F G r st=F r Km:=by unfold Q3;rw[h];rfl
def kO(h:t r st= .ok false Km):Q3 t F G r st=G r Km:=by unfold Q3;rw[h];rfl
def Yz(h:fl r st= .ok l Km):eI fl r st= .ok (.lst l) Km:=by unfold eI;rw[h];rfl
def w8{k:KQ PV->qC->Rs PV}{fa:FA}(h:fa r st= .ok l Km):qK k fa r st=k l Km:=by unfold qK;rw[h];rfl
def wG{fa:FA}{Kz:qC}(h:f r st= .ok p Km)(F:fa r Km= .ok l Kz):qA f fa r st= .ok (p::l) Kz:=by unfold qA;rw[h];show (fa r Km).bind _=_;rw[F];rfl
def QM{k:PV->PV->qC->Rs PV}{fb:FE}{q:PV}{Kz:qC}(h:f r st= .ok p Km)(F:fb r Km= .ok q Kz):qN k f fb r st=k p q Kz:=by unfold qN;rw[h];show (fb r Km).bind _=_;rw[F];rfl
def j4{b:Bool}(h:f r st= .ok (.bl b) Km):QI f r st= .ok b Km:=by unfold QI;rw[h];rfl
def pA{b:Bool}(h:t r st= .ok b Km):Qt t r st= .ok (!b) Km:=by unfold Qt;rw[h];rfl
def ke{b:Bool}(h:f r st= .ok (.bl b) Km):fF f r st= .ok b Km:=by unfold fF;rw[h];rfl
def WV{n N:Nat}{B:FS}(F:l.length=n)(h:B (QA N l) st= .rt p Km):QD n N B l st= .ok p Km:=by unfold QD;rw[AE F,h];rfl
end
section
variable{F G:FS}{f fb fo fi2:FE}{fl:FL}{fi:FI}{fa:FA}{g:FG}{t u:FT}{r r1 r':ql}{st s1 s2 s3:qC}{p q z:PV}{l m:KQ PV}{w:ItP}{i:Nat}{b c:Bool}{x:hZ}{o:RS}{R:Rs PV}
def qW{k:PV->PV->qC->Rs PV}(h:f r st= .ok p s1)(F:fb r s1= .ok q s2)(I:k p q s2=R):qN k f fb r st=R:=by rw[QM h F];exact I
def qQ{k:KQ PV->qC->Rs PV}(h:fa r st= .ok l s1)(F:k l s1=R):qK k fa r st=R:=by rw[w8 h];exact F
def qf:qD r st= .ok [] st:=rfl
def qM(h:f r st= .ok p s1)(F:fa r s1= .ok l s2):qA f fa r st= .ok (p::l) s2:=wG h F
def zA(h:fa r st= .ok l s1)(F:l.length≤sizeLine):qz fa r st= .ok (.tup l) s1:=by unfold qz;rw[h];exact AE F
def Ye(h:fa r st= .ok l s1)(F:l.length≤sizeLine):wf fa r st= .ok l s1:=by unfold wf;rw[h];exact AE F
def wz(h:fl r st= .ok l s1):eI fl r st= .ok (.lst l) s1:=Yz h
def kT(h:f r st= .ok p s1)(F:fb r s1= .ok q s2)(I:gk s2 p=some l)(M:gk s2 q=some m)(O:l.length+m.length≤sizeLine):YG f fb r st= .ok (l++m) s2:=by unfold YG;rw[h];show (fb r s1).bind _=_;rw[F];show (match gk s2 p with|some l=>_|none=>_)=_;rw[I];dsimp only;rw[M];dsimp only;rw[AE O]
def qo(h:f r st= .ok (.bl b) s1):QI f r st= .ok b s1:=j4 h
def zI(h:f r st= .ok (.bl b) s1):fF f r st= .ok b s1:=ke h
def w_not(h:t r st= .ok b s1):Qt t r st= .ok (!b) s1:=pA h
def ZM(h:t r st= .ok true s1):ZV t u r st= .ok true s1:=by unfold ZV;rw[h];rfl
def Q1(h:t r st= .ok false s1)(F:u r s1= .ok b s2):ZV t u r st= .ok b s2:=by unfold ZV;rw[h];exact F
def qi(h:F r st= .nx r' s1)(I:G r' s1=o):qU F G r st=o:=by rw[wc h];exact I
def QP(h:F r st= .rt p s1):qU F G r st= .rt p s1:=l3 h
def tJ(h:F r st= .ex x s1):qU F G r st= .ex x s1:=Eh h
def WG(h:f r st= .ok p s1):qx i f r st= .nx (r.set i (some p)) s1:=zG h
def xp(h:f r st= .ok p s1):zn f r st= .nx r s1:=EC h
def Ex(h:f r st= .ex x s1):zn f r st= .ex x s1:=FU h
def QW(h:f r st= .ok p s1):qg f r st= .rt p s1:=yR h
def Ds(h:f r st= .ex x s1):qg f r st= .ex x s1:=by unfold qg;rw[h];rfl
def Qu(h:t r st= .ok true s1)(I:F r s1=o):Q3 t F G r st=o:=by rw[lQ h];exact I
def wE(h:t r st= .ok false s1)(I:G r s1=o):Q3 t F G r st=o:=by rw[kO h];exact I
def Zk(h:fi r st= .ok w s1)(I:Qf w.G g F w.l r s1=o):WF fi g F r st=o:=by rw[pK h];exact I
def wR{I:qC->Prop}(h:I st):Qf I g F [] r st= .nx r st:=jy h
def zu{I:qC->Prop}{ps:KQ PV}(h:I st)(M:g p r=some r1)(O:F r1 st= .nx r' s2)(R:Qf I g F ps r' s2=o):Qf I g F (p::ps) r st=o:=by rw[Yq h M O];exact R
def J7{r1:ql}(h:f r st= .ok p s1)(F:g p r=some r1):yx f g r st= .nx r1 s1:=by unfold yx;rw[h];show (match g p r with|some r'=>RS.nx r' s1|none=>RS.no)=_;rw[F]
def Fi{j:Nat}(h:fa r st= .ok [p,q] s1):kW i j fa r st= .nx ((r.set i (some p)).set j (some q)) s1:=by unfold kW;rw[h];rfl
def QJ{n N:Nat}{B:FS}(F:l.length=n)(h:B (QA N l) st= .rt p s1):QD n N B l st= .ok p s1:=WV F h
def F1{n N:Nat}{B:FS}(F:l.length=n)(h:B (QA N l) st= .ex x s1):QD n N B l st= .ex x s1:=ud F h
def sz{n:Nat}(h:Nat.ble n 1000=true):n≤sizeLine:=Ab (C5 h) (by decide)
def zx{i j:Int}:QK (.int i) (.int j) st= .ok (.int (i+j)) st:=rfl
def Z3{i j:Int}:zp (.int i) (.int j) st= .ok (.int (i-j)) st:=rfl
def tw{i j:Int}:gLe (.int i) (.int j) st= .ok (.bl (decide (i≤j))) st:=rfl
def mh{i:Int}(h:ZB st p=some l)(F:atI l i=some z):eV p (.int i) st= .ok z st:=by unfold eV;simp only[h,F]
def Zl(h:ZB st p=some l){n:Int}(F:(l.length:Int)=n):ZF [p] st= .ok (.int n) st:=by unfold ZF;simp only[h];rw[F]
def wo{n:Nat}(h:r[n]? = some (some p)):qB n r st= .ok p st:=by unfold qB;rw[h]
def JW{n:Nat}{k:Int}(F:0≤k)(I:k<n):ixN n k=some k.toNat:=by unfold ixN;rw[AE F,AE (by omega)]
def ml{Kk:KQ Nat}{n:Nat}{ts:KQ FT}{gs:KQ fw}(F:fi r st= .ok w s1)(h:qq w.G (QG ⟨fi,g,ts⟩ (QY gs f) (wK Kk n r)) w.l s1= .ok l s2)(I:l.length≤sizeLine):QE Kk n fi g ts gs f r st= .ok l s2:=by unfold QE;rw[F];show (match qq w.G (QG ⟨fi,g,ts⟩ (QY gs f) (wK Kk n r)) w.l s1 with | .ok l M=>if l.length≤sizeLine then Rs.ok l M else Rs.no|_=>Rs.no)=_;rw[h];exact AE I
def yI(h:ZB st p=some l):WO [p] st= .ok (.tup l) st:=by unfold WO;simp only[h]
def Q6(h:f r st= .ok (.lst l) s1):qt f r st= .ok ⟨l,fun _=>True⟩ s1:=by unfold qt;rw[h];rfl
def Q0(h:f r st= .ok (.tup l) s1):qt f r st= .ok ⟨l,fun _=>True⟩ s1:=by unfold qt;rw[h];rfl
end
abbrev CE:=ql->KW PV
section
variable{F G:FS}{f fb fc fo fi2:FE}{fl:FL}{fi:FI}{fa:FL}{g:FG}{t u:FT}{c d e:CE}{co cp:CO}{f1 f2:FO}{r r':ql}{st s1 s2 s3:qC}{p q z:PV}{l:KQ PV}{n:Nat}{o:RS}
def mK{Kh F:KQ (KQ L2.Key×PV)}{k:KQ L2.Key}(h:f r st= .ok (.ref n) s1)(I:gy s1 n=some F)(M:fb r s1= .ok q s2)(O:fc r s2= .ok z s3)(R:Wv q=some k)(hd:gy s3 n=some Kh):zQ f fb fc r st= .ok ((jD Kh k).getD z) s3:=by unfold zQ;rw[h];show (match gy s1 n with|some _=>_|none=>_)=_;rw[I];show (fb r s1).bind _=_;rw[M];show (fc r s2).bind _=_;rw[O];show (match Wv q,gy s3 n with|some k,some Kh=>_|_,_=>_)=_;rw[R,hd]
def mw{Kh:KQ (KQ L2.Key×PV)}{k:KQ L2.Key}(h:f r st= .ok p s1)(F:fb r s1= .ok (.ref n) s2)(I:fc r s2= .ok q s3)(M:Wv q=some k)(hd:s3[n]? = some (.d Kh))(O:Kh.length<sizeLine):WU fb fc f r st= .nx r (s3.set n (.d (iz Kh k p))):=by unfold WU;rw[h];show (fb r s1).bindS _=_;rw[F];show (fc r s2).bindS _=_;rw[I];show (match Wv q,s3[n]? with|some k,some (.d Kh)=>_|_,_=>_)=_;rw[M,hd];dsimp only;rw[AE O]
end
end EV
end
section
namespace EV
open PySem ET
abbrev qZ:=Int×Int
def cP(c:qZ):PV:=.tup [.int c.1,.int c.2]
def cL(c:qZ):KQ Int:=[c.1,c.2]
def lC:KQ Int->qZ|[x,y]=>(x,y)|_=>(0,0)
def kY:∀l:KQ qZ,gp (l.map cP)=true|[]=>rfl|c::l=>by rw[AM,gp,kY l];rfl
def lO:∀l:KQ qZ,eL (l.map cP)≤1
 |[]=>Au _
 |c::l=>by
  rw[AM,eL]
  have:=lO l
  have h:fG (cP c)=1:=rfl;omega
def l8(a b:qZ):e9 (cP a) (cP b)=decide (a=b):=by
 obtain⟨M,O⟩:=a;obtain⟨b1,R⟩:=b;show ((M==b1)&&((O==R)&&true))=_;rw[Cs];by_cases F:M=b1
 ·by_cases I:O=R;subst F;subst I;simp;rw[Ag.mpr I,Bi];exact (AU (by simp[I])).symm
 ·rw[Ag.mpr F,Ci];exact (AU (by simp[F])).symm
def rX(c:qZ):∀l:KQ qZ,pin (cP c) (l.map cP)=decide (c∈l)
 |[]=>rfl
 |d::l=>by
  rw[AM,pin,l8,rX c l];by_cases h:d=c;subst h;rw[AS rfl,Bool.true_or];exact (AS AI).symm
  ·rw[AU h,Bool.false_or];refine decide_eq_decide.mpr ⟨fun q=>AH _ q,fun q=>?_⟩;rcases AK.mp q with z|z
   ·exact absurd z.symm h
   ·exact z
def ER{F:Bool}{c:qZ}{l:KQ qZ}{q:PV}{st:qC}(h:ZB st q=some (l.map cP)):ir F (cP c) q st= .ok (.bl (if F then !decide (c∈l) else decide (c∈l))) st:=by
 unfold ir;rw[h];dsimp only;rw[AE ⟨kY l,rfl,Ab (lO l) (by decide)⟩];show Rs.ok (PV.bl (if F then !pin (cP c) (l.map cP) else pin (cP c) (l.map cP))) st=_;rw[rX]
def ut(c:qZ):YF (cP c)=some (cL c):=rfl
def pG:∀l:KQ qZ,QV YF (l.map cP)=some (l.map cL)|[]=>rfl|c::l=>by rw[AM,QV,ut];dsimp only;rw[pG l];rfl
def yb:∀(vs Ks:KQ (KQ Int)),Ks.Nodup->(vs.foldl yL Ks).Nodup
 |[],Ks,h=>h
 |k::vs,Ks,h=>by
  rw[DG];refine yb vs _ ?_;unfold yL;split;exact h;rename_i q;exact List.nodup_append.mpr ⟨h,by simp,fun a F b I=>by rw[Af.mp I];intro z;subst z;exact q F⟩
def p7:∀(vs Ks:KQ (KQ Int)) (x:KQ Int),x∈vs.foldl yL Ks ↔ x∈Ks∨x∈vs
 |[],Ks,x=>by simp
 |k::vs,Ks,x=>by
  rw[DG,p7 vs _ x];unfold yL;split
  ·rename_i q;constructor
   ·rintro (h|h);exact .inl h;exact .inr (AH _ h)
   ·rintro (h|h);exact .inl h
    ·rcases AK.mp h with rfl|h
     ·exact .inl q
     ·exact .inr h
  ·simp only[At,AK,Ak,CN];constructor
   ·rintro ((h|h)|h);exact .inl h;exact .inr (.inl h);exact .inr (.inr h)
   ·rintro (h|h|h);exact .inl (.inl h);exact .inl (.inr h);exact .inr h
def zW(l:KQ qZ):KQ qZ:=(fm (l.map cL)).map lC
def pC(c:qZ):lC (cL c)=c:=rfl
def Fu{l:KQ (KQ Int)}{m:KQ qZ}(h:∀x∈l,x∈m.map cL):l.map wL=(l.map lC).map cP:=by rw[Ah];refine Ai fun x F=>?_;obtain⟨c,_,rfl⟩:=AZ.mp (h x F);rfl
def xD(l:KQ qZ):(fm (l.map cL)).map wL=(zW l).map cP:=Fu fun x F=>(QO _).mem_iff.mp F
def iK{l:KQ qZ}{c:qZ}:cL c∈l.map cL ↔ c∈l:=by
 rw[AZ];constructor
 ·rintro⟨d,hd,e⟩
  have:d=c:=by rw[←pC d,e,pC]
  rw[←this];exact hd
 ·intro h;exact⟨c,h,rfl⟩
def gD{l:KQ qZ}{c:qZ}:c∈zW l ↔ c∈l:=by
 unfold zW;rw[AZ];constructor
 ·rintro⟨x,F,rfl⟩;obtain⟨d,hd,rfl⟩:=AZ.mp ((QO _).mem_iff.mp F);exact hd
 ·intro h;exact⟨cL c,(QO _).mem_iff.mpr (iK.mpr h),rfl⟩
def kn(a b:qZ):Prop:=a.1<b.1∨(a.1=b.1∧a.2<b.2)
instance (a b:qZ):Decidable (kn a b):=by unfold kn;infer_instance
def sU{l:KQ qZ}{q:PV}{st:qC}(h:ZB st q=some (l.map cP))(F:l.length≤63):Zw q st= .ok (.lst ((zW l).map cP)) st:=by unfold Zw;rw[h];dsimp only;rw[pG];dsimp only;rw[AE (by rw[AF];omega),xD]
section
variable{F G:FS}{f fb fo fi2:FE}{fl:FL}{fi:FI}{fa:FA}{g:FG}{t u:FT}{r r1 r':ql}{st s1 s2 s3 s4:qC}{p q z:PV}{l m:KQ PV}{w:ItP}{n:Nat}
def vO(h:f r st= .ok p s1){R:Rs PV}(F:Y3 p s1=R):yX f r st=R:=by unfold yX;rw[h];exact F
def xN(h:f r st= .ok p s1){R:Rs PV}(F:Zw p s1=R):zP f r st=R:=by unfold zP;rw[h];exact F
def Fv{i k:Nat}{cs:KQ KU}{F I:FS}(h:F r st= .rt p s1):Yd i k cs F I r st= .rt p s1:=by unfold Yd;rw[h]
def xq{i k:Nat}{cs:KQ KU}{F I:FS}{x:hZ}(h:F r st= .ex x s1)(M:x.cls∈cs)(O:I ((List.replicate k none).set i (some (.exc x.cls x.fs))) s1= .rt p s2):Yd i k cs F I r st= .rt p s2:=by unfold Yd;rw[h];dsimp only;rw[AE M,O]
def Df{I:qC->Prop}{ps:KQ PV}(h:I st)(M:g p r=some r1)(O:F r1 st= .rt z s2):Qf I g F (p::ps) r st= .rt z s2:=by rw[Qf,AE h,M];dsimp only;rw[O]
def vP{k:Int}(h:f r st= .ok (.int k) s1):qy f r st= .ok (some k) s1:=by unfold qy;rw[h];rfl
end
end EV
end
noncomputable section
namespace K51
open PySem EV
def wZ:PV->Bool
 | .non=>true | .bl _=>true | .int _=>true | .str _=>true | .tup _=>true | .lst _=>true | .dct=>true|_=>false
def isInt:PV->Bool| .int _=>true|_=>false
def jF{a:Ad}{v:PV}{st:qC}(h:wZ v=true):zw a [v] st= .ok (.bl (isInt v)) st:=by cases v <;> first|rfl|cases h
def QN(lo hi:Int):PV->Bool| .int i=>decide (lo≤i)&&decide (i≤hi)|_=>false
def yB{a:Ad}{v:PV}{st:qC}{lo hi:Int}(h:wZ v=true):Qa a [v,.int lo,.int hi] st= .ok (.bl (QN lo hi v)) st:=by
 refine WV rfl ?_;unfold zE;refine (yR (p:=.bl (QN lo hi v)) (Km:=st) ?_);unfold ZO;rw[w8 (l:=[v]) (Km:=st) rfl,jF h];cases v with|int i=>show (match (PV.bl (decide (lo≤i))) with | .bl true=>Rs.ok (PV.bl (decide (i≤hi))) st | .bl false=>Rs.ok (.bl false) st|_=>.no)=_;unfold QN;dsimp only;cases decide (lo≤i) <;> rfl|_=>rfl
def ub{a:Ad}{v:PV}{st:qC}(h:wZ v=true):ZH a [v] st= .ok (.bl (QN 2 5 v)) st:=by refine WV rfl ?_;unfold ZJ;refine (yR (p:=.bl (QN 2 5 v)) (Km:=st) ?_);rw[w8 (l:=[v,.int 2,.int 5]) (Km:=st) rfl];exact yB h
def Zh{a:Ad}{v:PV}{st:qC}(h:wZ v=true):Qq a [v] st=if QN 2 5 v=true then .ok .non st else .ex ⟨a.Z1,[]⟩ st:=by unfold Qq QD;rw[AE (show [v].length=1 from rfl)];unfold zH Q3 Qt QI;rw[w8 (l:=[v]) (Km:=st) rfl,ub h];cases F:QN 2 5 v <;> rfl
def oO{f:PV->Bool}:∀l:KQ PV,QV kz (l.map fun p=>.bl (f p))=some (l.map f)|[]=>rfl|p::l=>by simp only[AM,QV,kz,oO l]
def yW{i j:Int}{st:qC}:gEq (.int i) (.int j) st= .ok (.bl (i==j)) st:=rfl
def Wc{n:Nat}(h:n≤100000):n≤sizeLine:=Ab h (by decide)
def WH(L:Int):KQ Int:=(List.range L.toNat).map fun (i:Nat)=>(i:Int)
def GP{L:Int}:yf 0 L=(WH L).map PV.int:=by unfold yf WH;rw[Ah,Int.sub_zero];refine Ai fun i _=>?_;show PV.int (0+(i:Int))=PV.int i;rw[Int.zero_add]
def fJ{L i:Int}:i∈WH L ↔ 0≤i∧i<L:=by
 unfold WH;rw[AZ];constructor;rintro⟨j,F,rfl⟩;rw[BM]at F;omega;rintro⟨I,M⟩;exact⟨i.toNat,by rw[BM];omega,by omega⟩
def zR{L:Int}:(WH L).length=L.toNat:=by simp[WH]
def HM{l:KQ Int}{L i:Int}(I:l.length=L.toNat)(F:0≤i)(M:i<L):L2.atI (l.map PV.int) i=some (.int (l.getD i.toNat 0)):=by
 unfold L2.atI L2.ixN;rw[AF,AE F,AE (by omega)];show (l.map PV.int)[i.toNat]? = _;have hi:i.toNat<l.length:=by omega
 rw[Am,AJ hi,Ao,AJ hi];rfl
def vh{l:KQ Int}{L i:Int}{st:qC}(F:l.length=L.toNat)(I:0≤i)(M:i<L):eV (.lst (l.map PV.int)) (.int i) st= .ok (.int (l.getD i.toNat 0)) st:=by unfold eV;simp only[ZB,gk,HM F I M]
def lq{i j:Int}{st:qC}(h:-(2 ^ 64)<j∧j<2 ^ 64):YO (.int i) (.int j) st= .ok (.int (i*j)) st:=by unfold YO gI;dsimp only;rw[AE (.inr h)]
def Jd{i j:Int}{st:qC}(h:0<j):qAO (.int i) (.int j) st= .ok (.int (i%j)) st:=by unfold qAO gI;dsimp only;rw[AE h]
def tX{i j:Int}{st:qC}(h:0<j)(F:j<1073741824):qGy (.int i) (.int j) st= .ok (.int (i/j)) st:=by unfold qGy gI;dsimp only;rw[AE ⟨h,F⟩]
def HU{i j:Int}{st:qC}(h:0<j)(F:j<2 ^ 64):qCl (.int i) (.int j) st= .ok (.int (i/j)) st:=by unfold qCl gI;dsimp only;rw[AE ⟨h,F⟩]
def Qy{a:Ad}{st j:qC}{x m:Int}(F:0<m)(M:m<2 ^ 64):qY a [.ref st.length,.int m] (st ++ .l [.int x]::j)= .ok (.int (x%m)) (st ++ .l [.int (x/m)]::j):=by
 have hs:(st++SO.l [.int x]::j)[st.length]? = some (.l [.int x]):=by simp
 have I:eV (.ref st.length) (.int 0) (st++SO.l [.int x]::j)= .ok (.int x) (st++SO.l [.int x]::j):=by unfold eV;simp only[ZB,gk,hs];rfl
 refine WV rfl ?_;unfold jQ;rw[wc (zG (p:=.int (x%m)) (Km:=st++SO.l [.int x]::j) (r:=QA 3 [.ref st.length,.int m]) ?_),wc (r':=[some (.ref st.length),some (.int m),some (.int (x%m))]) (Km:=st++SO.l [.int (x/m)]::j) ?_];rfl
 ·unfold lG;rw[QM (p:=.int x) (q:=.int m) (Km:=st++SO.l [.int x]::j) (Kz:=st++SO.l [.int x]::j) ?_ rfl,HU F M]
  ·show (match jr (st++SO.l [.int x]::j) (.ref st.length) (.int 0) (.int (x/m)) with|some O=>RS.nx _ O|none=>RS.no)=_
   have:jr (st++SO.l [.int x]::j) (.ref st.length) (.int 0) (.int (x/m))=some (st++SO.l [.int (x/m)]::j):=by unfold jr;simp only[hs];show some ((st++SO.l [.int x]::j).set st.length (.l [.int (x/m)]))=_;rw[CZ _ _ (AG _),DL];rfl
   rw[this];rfl
  ·rw[QM (p:=.ref st.length) (q:=.int 0) rfl rfl];exact I
 ·rw[QM (p:=.int x) (q:=.int m) (Km:=st++SO.l [.int x]::j) (Kz:=st++SO.l [.int x]::j) ?_ rfl,Jd F];rw[QM (p:=.ref st.length) (q:=.int 0) rfl rfl];exact I
def vE{a:Ad}{ns:KQ Int}{k:Int}{st:qC}(I:0≤k):∃c,zk a [.lst (ns.map PV.int),.int k] st= .ok (.int c) st:=by
 by_cases F:k<(ns.length:Int)
 ·refine⟨ns.getD k.toNat 0,WV rfl ?_⟩;unfold Z1;rw[l3 (p:=.int (ns.getD k.toNat 0)) (Km:=st) (r:=QA 2 [.lst (ns.map PV.int),.int k]) ?_];rw[lQ (Km:=st) ?_,yR (p:=.int (ns.getD k.toNat 0)) (Km:=st) ?_];rw[QM (p:=.lst (ns.map PV.int)) (q:=.int k) rfl rfl,vh (L:=ns.length) (by omega) I F]
  ·refine ke ?_;rw[QM (p:=.int k) (q:=.int ns.length) rfl ?_];show Rs.ok (PV.bl (decide (k<(ns.length:Int)))) st=_;rw[AS F];rw[w8 (l:=[.lst (ns.map PV.int)]) rfl];show Rs.ok (PV.int ((ns.map PV.int).length:Int)) st=_;rw[AF]
 ·refine⟨6151*k+29,WV rfl ?_⟩;unfold Z1;rw[wc (r':=QA 2 [.lst (ns.map PV.int),.int k]) (Km:=st) (r:=QA 2 [.lst (ns.map PV.int),.int k]) ?_]
  ·rw[yR (p:=.int (6151*k+29)) (Km:=st) ?_];rw[QM (p:=.int (6151*k)) (q:=.int 29) (Km:=st) (Kz:=st) ?_ rfl];rfl;rw[QM (p:=.int 6151) (q:=.int k) rfl rfl];unfold YO gI;dsimp only;rw[AE (.inl ⟨by decide,by decide⟩)]
  ·rw[kO (Km:=st) ?_];rfl
   ·refine ke ?_;rw[QM (p:=.int k) (q:=.int ns.length) rfl ?_];show Rs.ok (PV.bl (decide (k<(ns.length:Int)))) st=_;rw[AU F];rw[w8 (l:=[.lst (ns.map PV.int)]) rfl];show Rs.ok (PV.int ((ns.map PV.int).length:Int)) st=_;rw[AF]
def pk{i j:Int}{st:qC}(h:-(2 ^ 64)<i∧i<2 ^ 64):YO (.int i) (.int j) st= .ok (.int (i*j)) st:=by unfold YO gI;dsimp only;rw[AE (.inl h)]
def rF{s:PV}{c k:Int}{st:qC}:∀(js:KQ Int) (n m:Int) (x:KW PV),(∀j∈js,0≤j∧j<24)->∃F m' I,Qf (fun _=>True) (q9 5) YZ (js.map PV.int) [some s,some (.int k),some (.int c),some (.int n),some (.int m),x] st= .nx [some s,some (.int k),some (.int c),some (.int F),some (.int m'),I] st
 |[],n,m,x,_=>⟨n,m,x,by rw[List.map_nil,jy trivial]⟩
 |j::js,n,m,x,h=>by
  have R:=h j AI;have e:YZ [some s,some (.int k),some (.int c),some (.int n),some (.int m),some (.int j)] st= .nx [some s,some (.int k),some (.int c),some (.int (n*2147483647+(m*48271+7*j*j+11*k+1)%2147483647)),some (.int ((m*48271+7*j*j+11*k+1)%2147483647)),some (.int j)] st:=by
   unfold YZ;rw[wc (zG (p:=.int ((m*48271+7*j*j+11*k+1)%2147483647)) (Km:=st) ?_),zG (p:=.int (n*2147483647+(m*48271+7*j*j+11*k+1)%2147483647)) (Km:=st) ?_];rfl
   ·rw[QM (p:=.int (n*2147483647)) (q:=.int ((m*48271+7*j*j+11*k+1)%2147483647)) (Km:=st) (Kz:=st) ?_ rfl];rfl;rw[QM (p:=.int n) (q:=.int 2147483647) rfl rfl,lq ⟨by decide,by decide⟩]
   ·rw[QM (p:=.int (m*48271+7*j*j+11*k+1)) (q:=.int 2147483647) (Km:=st) (Kz:=st) ?_ rfl,Jd (by decide)];rw[QM (p:=.int (m*48271+7*j*j+11*k)) (q:=.int 1) (Km:=st) (Kz:=st) ?_ rfl];rfl;rw[QM (p:=.int (m*48271+7*j*j)) (q:=.int (11*k)) (Km:=st) (Kz:=st) ?_ ?_];rfl
    ·rw[QM (p:=.int (m*48271)) (q:=.int (7*j*j)) (Km:=st) (Kz:=st) ?_ ?_];rfl;rw[QM (p:=.int m) (q:=.int 48271) rfl rfl,lq ⟨by decide,by decide⟩]
     ·rw[QM (p:=.int (7*j)) (q:=.int j) (Km:=st) (Kz:=st) ?_ rfl,lq ⟨by omega,by omega⟩];rw[QM (p:=.int 7) (q:=.int j) rfl rfl,pk ⟨by decide,by decide⟩]
    ·rw[QM (p:=.int 11) (q:=.int k) rfl rfl,pk ⟨by decide,by decide⟩]
  obtain⟨F,m',I,M⟩:=rF js _ _ (some (.int j)) fun q O=>h q (AH _ O);exact⟨F,m',I,by rw[AM,Yq (r1:=[some s,some (.int k),some (.int c),some (.int n),some (.int m),some (.int j)]) trivial rfl e];exact M⟩
def F9{a:Ad}{ns:KQ Int}{k:Int}{st:qC}(R:0≤k):∃x,Zf a [.lst (ns.map PV.int),.int k] st= .ok (.ref st.length) (st++[.l [.int x]]):=by
 obtain⟨c,U⟩:=vE (a:=a) (ns:=ns) (k:=k) (st:=st) R;have M:qx 2 (qK (zk a) (qA (qB 0) (qA (qB 1) qD))) (QA 6 [.lst (ns.map PV.int),.int k]) st= .nx [some (.lst (ns.map PV.int)),some (.int k),some (.int c),none,none,none] st:=by
  rw[zG (p:=.int c) (Km:=st) ?_];rfl;rw[w8 (l:=[.lst (ns.map PV.int),.int k]) rfl];exact U
 have O:∀b:Bool,(c%2==0)=b->fF (qN gEq (qN qAO (qB 2) (vC (.int 2))) (vC (.int 0))) [some (.lst (ns.map PV.int)),some (.int k),some (.int c),none,none,none] st= .ok b st:=by intro b F;refine ke ?_;rw[QM (p:=.int (c%2)) (q:=.int 0) (Km:=st) (Kz:=st) ?_ rfl,yW,F];rw[QM (p:=.int c) (q:=.int 2) rfl rfl,Jd (by decide)]
 cases F:(c%2==0) with
 |true =>
  refine⟨c/2,WV rfl ?_⟩;unfold ym;rw[wc M,l3 (p:=.ref st.length) (Km:=st++[.l [.int (c/2)]]) ?_];rw[lQ (O true F),sx (l:=[.int (c/2)]) (Km:=st) ?_];unfold wf;rw[wG (p:=.int (c/2)) (l:=[]) (Km:=st) (Kz:=st) ?_ rfl];rfl;rw[QM (p:=.int c) (q:=.int 2) rfl rfl,tX (by decide) (by decide)]
 |false =>
  obtain⟨I,m',Y,e⟩:=rF (s:=.lst (ns.map PV.int)) (c:=c) (k:=k) (st:=st) (WH 24) 0 (c%2147483647) none fun j Z=>fJ.mp Z;refine⟨I,WV rfl ?_⟩;unfold ym;rw[wc M,wc (r':=[some (.lst (ns.map PV.int)),some (.int k),some (.int c),none,none,none]) (Km:=st) (by rw[kO (O false F)];rfl),wc (zG (p:=.int 0) (Km:=st) rfl),wc (zG (p:=.int (c%2147483647)) (Km:=st) ?_),wc (r':=[some (.lst (ns.map PV.int)),some (.int k),some (.int c),some (.int I),some (.int m'),Y]) (Km:=st) ?_,sx (l:=[.int I]) (Km:=st) rfl];rw[pK (w:=⟨(WH 24).map PV.int,fun _=>True⟩) (Km:=st) rfl];exact e;rw[QM (p:=.int c) (q:=.int 2147483647) rfl rfl,Jd (by decide)]
section
variable{F G:FS}{f fb:FE}{fl:FL}{t u:FT}{r:ql}{st Km Kz:qC}{p q:PV}{l m:KQ PV}
def lc{fa:FA}(h:fa r st= .ok l Km)(F:l.length≤sizeLine):wf fa r st= .ok l Km:=by unfold wf;rw[h];show (if l.length≤sizeLine then _ else _)=_;rw[AE F]
def oY(h:f r st= .ok p Km)(F:fb r Km= .ok q Kz)(I:gk Kz p=some l)(M:gk Kz q=some m)(O:l.length+m.length≤sizeLine):YG f fb r st= .ok (l++m) Kz:=by unfold YG;rw[h];show (fb r Km).bind _=_;rw[F];show (match gk Kz p with|some l=>_|none=>_)=_;rw[I];dsimp only;rw[M];dsimp only;rw[AE O]
def sY{b:Bool}(h:t r st= .ok false Km)(F:u r Km= .ok b Kz):ZV t u r st= .ok b Kz:=by unfold ZV;rw[h];exact F
end
def W5{a:Ad}{x d:KU}{fs:KQ (Str×Int)}{st:qC}{r:ql}{b:Bool}(F:r[0]? = some (some (.exc x fs)))(I:x∈wD a)(hd:d∈a.kinds)(M:(x==d)=b):qK (QU (kit a)) (qA (qB 0) (qA (vC (.fn d)) qD)) r st= .ok (.bl b) st:=by
 rw[w8 (l:=[.exc x fs,.fn d]) (Km:=st) (by unfold qA qB;rw[F];rfl)];show (match (if x∈wD a∧d∈a.kinds then some (x==d) else none) with|some b=>Rs.ok (PV.bl b) st|none=>.no)=_;rw[AE ⟨I,hd⟩,M]
def Ig{a:Ad}{x:KU}{fs:KQ (Str×Int)}{st:qC}{r:ql}(F:r[0]? = some (some (.exc x fs)))(I:x∈wD a):qK (QU (kit a)) (qA (qB 0) (qA (vC (.ty "ValueError")) qD)) r st= .ok (.bl true) st:=by
 rw[w8 (l:=[.exc x fs,.ty "ValueError"]) (Km:=st) (by unfold qA qB;rw[F];rfl)];show (match (if x∈wD a ∧ "ValueError" = "ValueError" then some true else none) with|some b=>Rs.ok (PV.bl b) st|none=>.no)=_;rw[AE ⟨I,rfl⟩]
def Gf(a:Ad):a.Z1∈a.kinds∧a.Z2∈a.kinds∧a.Z3∈a.kinds∧a.Z4∈a.kinds∧a.Z5∈a.kinds∧a.Z6∈a.kinds∧a.Z7∈a.kinds∧a.Z8∈a.kinds∧a.Z9∈a.kinds∧a.Z10∈a.kinds∧a.Z11∈a.kinds:=by unfold Ad.kinds;simp
def IG{bs:KQ PV}{F:PV->PV}{st:qC}{r:ql}(I:r[1]? = some (some (.lst bs)))(U:bs.length≤11)(M:∀p∈bs,∃b,p= .bl b)(O:∀b,F (.bl b)= .int (if b then 1 else 0)) :
  eI (QE [] 1 (qt (qB 1)) (q5 0) [] [] (qK qEd (qA (qB 0) qD))) r st= .ok (.lst (bs.map F)) st:=by
 refine Yz ?_;rw[Ql (w:=⟨bs,fun _=>True⟩) (F:=F) (by unfold qt qB;rw[I];rfl) trivial (Wc (by show bs.length≤100000;omega)) fun p R=>?_];obtain⟨b,rfl⟩:=M p R;refine⟨[some (.bl b)],rfl,?_⟩;rw[O];cases b <;> rfl
def Fq:PV->PV| .bl b=>.int (if b then 1 else 0)|p=>p
def xi{a:Ad}(hd:fW a){st:qC}{fs:KQ (Str×Int)}:Zt a [.exc a.Z1 fs] st= .ok (.str "! length") st:=by
 have nd:=hd.nd;unfold Ad.kinds at nd;simp only[Bd,AK,Ak,not_or,CN]at nd;obtain⟨⟨O,R,U,Y,Z,a0,a1,a2,a3,M⟩,⟨af,ag,ah,ai,aj,ak,al,am,a4⟩,⟨ao,ap,aq,ar,as,au,av,a5⟩,⟨aw,ax,ay,az,aA,aB,a6⟩,⟨aC,aD,aE,aF,aG,a7⟩,⟨aH,aI,aJ,aK,a8⟩,⟨aL,aM,aN,a9⟩,⟨aO,aP,aa⟩,⟨aQ,ab⟩,ac,_⟩:=nd;obtain⟨m0,m1,m2,m3,m4,m5,m6,m7,m8,m9,ae⟩:=Gf a;have I:a.Z1∈wD a:=by unfold wD;simp
 refine WV rfl ?_;unfold Y5;rw[wc (zG (p:=.lst [.bl true,.bl false,.bl false,.bl false]) (Km:=st) (r:=QA 3 [.exc a.Z1 fs]) (Yz (lc (wG (W5 rfl I m0 (A1 _)) (wG (W5 rfl I m1 (Ag.mpr O)) (wG (W5 rfl I m2 (Ag.mpr R)) (wG (W5 rfl I m3 (Ag.mpr U)) rfl)))) (by decide)))),
  wc (zG (p:=.lst [.bl true,.bl false,.bl false,.bl false,.bl false,.bl false,.bl false,.bl false]) (Km:=st) (Yz (oY (l:=[.bl true,.bl false,.bl false,.bl false]) (p:=.lst [.bl true,.bl false,.bl false,.bl false]) (Km:=st) rfl (Yz (lc (wG (W5 rfl I m4 (Ag.mpr Y)) (wG (W5 rfl I m5 (Ag.mpr Z)) (wG (W5 rfl I m6 (Ag.mpr a0)) (wG (W5 rfl I m7 (Ag.mpr a1)) rfl)))) (by decide))) rfl rfl (by decide)))),
  wc (zG (p:=.lst [.bl true,.bl false,.bl false,.bl false,.bl false,.bl false,.bl false,.bl false,.bl false,.bl false,.bl false]) (Km:=st) (Yz (oY (l:=[.bl true,.bl false,.bl false,.bl false,.bl false,.bl false,.bl false,.bl false]) (p:=.lst [.bl true,.bl false,.bl false,.bl false,.bl false,.bl false,.bl false,.bl false]) (Km:=st) rfl (Yz (lc (wG (W5 rfl I m8 (Ag.mpr a2)) (wG (W5 rfl I m9 (Ag.mpr a3)) (wG (W5 rfl I ae (Ag.mpr M)) rfl))) (by decide))) rfl rfl (by decide))))]
 rw[wc (r':=[some (.exc a.Z1 fs),some (.lst [.bl true,.bl false,.bl false,.bl false,.bl false,.bl false,.bl false,.bl false,.bl false,.bl false,.bl false]),none]) (Km:=st) ?_,wc (F:=qx 2 _) (r':=[some (.exc a.Z1 fs),some (.lst [.bl true,.bl false,.bl false,.bl false,.bl false,.bl false,.bl false,.bl false,.bl false,.bl false,.bl false]),some (.lst [.str "length",.str "number",.str "bars",.str "box",.str "weights",.str "sorts",.str "turn",.str "place",.str "text",.str "row",.str "many"])]) (Km:=st) rfl];rfl
 ·show Q3 _ _ _ [some (.exc a.Z1 fs),some (.lst [.bl true,.bl false,.bl false,.bl false,.bl false,.bl false,.bl false,.bl false,.bl false,.bl false,.bl false]),none] st=_;rw[kO (Km:=st) (sY (Km:=st) (pA (b:=true) (j4 (Ig rfl I))) (ke ?_))];rfl
  ·rw[QM (p:=.int 1) (q:=.int 1) (Km:=st) (Kz:=st) ?_ rfl];rfl
   ·rw[w8 (l:=[.lst [.int 1,.int 0,.int 0,.int 0,.int 0,.int 0,.int 0,.int 0,.int 0,.int 0,.int 0]]) (Km:=st) (wG (Km:=st) (IG (F:=Fq) (bs:=[.bl true,.bl false,.bl false,.bl false,.bl false,.bl false,.bl false,.bl false,.bl false,.bl false,.bl false]) rfl (by decide) (by simp) fun b=>rfl) rfl)];rfl
def J9{x:Int}:x%10=0∨x%10=1∨x%10=2∨x%10=3∨x%10=4∨x%10=5∨x%10=6∨x%10=7∨x%10=8∨x%10=9:=by omega
def Jk{a:Ad}{st j:qC}{x:Int}:∃v,wZ v=true∧QN 2 5 v=false∧Q9 a [.ref st.length] (st ++ .l [.int x]::j)= .ok v (st ++ .l [.int (x/10)]::j):=by
 have e:∀v,eV (.lst [.int 1,.int 6,.int 0,.int (-2),.bl true,.non,.str "3",.tup [.int 2],.lst [.int 3],.int (10 ^ 39)]) (.int (x%10)) (st ++ .l [.int (x/10)]::j)= .ok v (st ++ .l [.int (x/10)]::j)->Q9 a [.ref st.length] (st ++ .l [.int x]::j)= .ok v (st ++ .l [.int (x/10)]::j):=by
  intro v F;refine WV rfl ?_;unfold zy;rw[yR (p:=v) (Km:=st ++ .l [.int (x/10)]::j) ?_];rw[QM (p:=.lst [.int 1,.int 6,.int 0,.int (-2),.bl true,.non,.str "3",.tup [.int 2],.lst [.int 3],.int (10 ^ 39)]) (q:=.int (x%10)) (Km:=st ++ .l [.int x]::j) (Kz:=st ++ .l [.int (x/10)]::j) rfl ?_];exact F;rw[w8 (l:=[.ref st.length,.int 10]) (Km:=st ++ .l [.int x]::j) rfl];exact Qy (by decide) (by decide)
 rcases J9 (x:=x) with h|h|h|h|h|h|h|h|h|h <;> rw[h]at e
 ·exact⟨_,rfl,rfl,e (.int 1) rfl⟩
 ·exact⟨_,rfl,rfl,e (.int 6) rfl⟩
 ·exact⟨_,rfl,rfl,e (.int 0) rfl⟩
 ·exact⟨_,rfl,rfl,e (.int (-2)) rfl⟩
 ·exact⟨_,rfl,rfl,e (.bl true) rfl⟩
 ·exact⟨_,rfl,rfl,e .non rfl⟩
 ·exact⟨_,rfl,rfl,e (.str "3") rfl⟩
 ·exact⟨_,rfl,rfl,e (.tup [.int 2]) rfl⟩
 ·exact⟨_,rfl,rfl,e (.lst [.int 3]) rfl⟩
 ·exact⟨_,rfl,rfl,e (.int (10 ^ 39)) rfl⟩
def ie{L:Int}{r:ql}{st s1:qC}{f:FA}(I:0≤L)(M:L≤1000)(F:f r st= .ok [.int L] s1):(Wj f) r st= .ok ⟨(WH L).map PV.int,fun _=>True⟩ s1:=by unfold Wj;rw[F];show j8 [.int L] s1=_;unfold j8;dsimp only;rw[AE (by omega),GP]
def w9{x m:Int}(h:0<m):0≤x%m∧x%m<m:=⟨Int.emod_nonneg _ (by omega),Int.emod_lt_of_pos _ h⟩
def Zo(r c w L:Int):KQ qZ:=(WH L).map fun k=>if w=0 then (r,c+k) else (r+k,c)
def Ez{r c w L:Int}:(Zo r c w L).length=L.toNat:=by unfold Zo;rw[AF,zR]
def rm{a:Ad}{r c w L:Int}{st:qC}(O:0≤L)(R:L≤1000):WZ a [.tup [.int r,.int c,.int w],.int L] st= .ok (.lst ((Zo r c w L).map cP)) st:=by
 refine QJ rfl ?_;unfold YA;refine qi (J7 (r1:=[some (.tup [.int r,.int c,.int w]),some (.int L),some (.int r),some (.int c),some (.int w)]) rfl rfl) ?_;have U:(WH L).length≤sizeLine:=by rw[zR];exact Wc (by omega)
 by_cases I:w=0
 ·subst I;let F:PV->PV:=fun p=>match p with | .int k=>cP (r,c+k)|_=>.non;have e:(Zo r c 0 L).map cP=((WH L).map PV.int).map F:=by unfold Zo;rw[Ah,Ah];exact Ai fun k _=>by show cP (if (0:Int)=0 then (r,c+k) else (r+k,c))=_;rw[AE rfl];rfl
  rw[e];refine QP (Qu (zI (qW (p:=.int 0) (q:=.int 0) rfl rfl (by rw[yW,A1]))) (QW (wz (Ql (F:=F) (ie O R rfl) trivial (by rw[AF];exact U) fun p M=>?_))));obtain⟨k,_,rfl⟩:=AZ.mp M;exact⟨[some (.int r),some (.int c),some (.int k)],rfl,zA (qM rfl (qM (qW rfl rfl zx) qf)) (sz rfl)⟩
 ·let F:PV->PV:=fun p=>match p with | .int k=>cP (r+k,c)|_=>.non;have e:(Zo r c w L).map cP=((WH L).map PV.int).map F:=by unfold Zo;rw[Ah,Ah];exact Ai fun k _=>by show cP (if w=0 then (r,c+k) else (r+k,c))=_;rw[AD I];rfl
  rw[e];refine qi (wE (zI (qW (p:=.int w) (q:=.int 0) rfl rfl (by rw[yW,Ag.mpr I]))) rfl) (QW (wz (Ql (F:=F) (ie O R rfl) trivial (by rw[AF];exact U) fun p M=>?_)));obtain⟨k,_,rfl⟩:=AZ.mp M;exact⟨[some (.int c),some (.int r),some (.int k)],rfl,zA (qM (qW rfl rfl zx) (qM rfl qf)) (sz rfl)⟩
def kg:PV->qZ| .tup [.int x,.int y]=>(x,y)|_=>(0,0)
def Fm(c:qZ):kg (cP c)=c:=rfl
def uG{st j:qC}{b:SO}{i:Nat}{o:SO}(h:j[i]? = some o):(st++b::j)[st.length+1+i]? = some o:=by rw[BA (by omega),show st.length+1+i-st.length=i+1 by omega,List.getElem?_cons_succ];exact h
def Yr{fi:FI}{g:FG}{t:FT}{f:FE}{r r':ql}{st s1 s2:qC}{p q:PV}(h:g p r=some r')(F:t r' st= .ok true s1)(I:f r' s1= .ok q s2):QG ⟨fi,g,[t]⟩ (QY [] f) r p st= .ok [q] s2:=by unfold QG;show (match g p r with|none=>_|some r'=>_)=_;rw[h];show (wn [t] r' st).bind _=_;unfold wn wn;rw[F];show (QY [] f) r' s1=_;unfold QY;rw[I];rfl
def Yi{fi:FI}{g:FG}{t:FT}{f:FE}{r r':ql}{st s1:qC}{p:PV}(h:g p r=some r')(F:t r' st= .ok false s1):QG ⟨fi,g,[t]⟩ (QY [] f) r p st= .ok [] s1:=by unfold QG;show (match g p r with|none=>_|some r'=>_)=_;rw[h];show (wn [t] r' st).bind _=_;unfold wn wn;rw[F];rfl
def Eg{st j:qC}{b o:SO}{i:Nat}(h:i<j.length):(st++b::j).set (st.length+1+i) o=st++b::j.set i o:=by rw[CZ _ _ (by omega),show st.length+1+i-st.length=i+1 by omega,List.set_cons_succ]
end K51
end
noncomputable section
namespace K51
open PySem EV EX ET
abbrev Dc:=KQ (KQ Int×Int)
def dP(d:Dc):KQ (KQ L2.Key×PV):=d.map fun e=>(e.1.map Sum.inl,.int e.2)
def gw{a b:KQ Int}:(a.map (Sum.inl:Int->L2.Key))=b.map Sum.inl ↔ a=b:=by
 constructor
 ·intro h;induction a generalizing b with
  |nil=>cases b with|nil=>rfl|cons _ _=>cases h
  |cons x a F=>cases b with|nil=>cases h|cons y b=>rw[AM,AM]at h;injection h with h1 h2;injection h1 with h1;rw[h1,F h2]
 ·intro h;rw[h]
def QX(d:Dc)(k:KQ Int):Int:=((d.find? fun e=>decide (e.1=k)).map (·.2)).getD 0
def zO(d:Dc)(k:KQ Int)(v:Int):Dc:=if (d.any fun e=>decide (e.1=k))=true then d.map (fun e=>if e.1=k then (e.1,v) else e) else d++[(k,v)]
def ZG(d:Dc)(k:KQ Int)(t:Int):Dc:=zO d k (QX d k+t)
def p5{a b:KQ Int}:decide ((a.map (Sum.inl:Int->L2.Key))=b.map Sum.inl)=decide (a=b):=decide_eq_decide.mpr gw
def om{k:KQ Int}:∀d:Dc,(dP d).find? (fun F=>decide (F.1=k.map Sum.inl))=(d.find? fun e=>decide (e.1=k)).map fun e=>(e.1.map Sum.inl,PV.int e.2)
 |[]=>rfl
 |e::d=>by
  show ((e.1.map Sum.inl,PV.int e.2)::dP d).find? _=_;rw[BW,BW];dsimp only;rw[p5];cases decide (e.1=k) with|true=>rfl|false=>exact om d
def mu{d:Dc}{k:KQ Int}:jD (dP d) (k.map Sum.inl)=((d.find? fun e=>decide (e.1=k)).map (·.2)).map PV.int:=by unfold jD;rw[om,Option.map_map,Option.map_map];rfl
def re{d:Dc}{k:KQ Int}:(jD (dP d) (k.map Sum.inl)).getD (.int 0)= .int (QX d k):=by rw[mu];unfold QX;cases (d.find? fun e=>decide (e.1=k)).map (·.2) <;> rfl
def mE{d:Dc}{k:KQ Int}{v:Int}:iz (dP d) (k.map Sum.inl) (.int v)=dP (zO d k v):=by
 unfold iz zO;have F:((dP d).any fun I=>decide (I.1=k.map Sum.inl))=d.any fun e=>decide (e.1=k):=by unfold dP;rw[List.any_map];congr 1;funext e;exact p5
 rw[F];split
 ·unfold dP;rw[Ah,Ah];refine Ai fun e _=>?_;show (if e.1.map Sum.inl=k.map Sum.inl then (e.1.map Sum.inl,PV.int v) else (e.1.map Sum.inl,PV.int e.2))=_;by_cases h:e.1=k;rw[AE (gw.mpr h)];show _=((if e.1=k then (e.1,v) else e).1.map Sum.inl,PV.int (if e.1=k then (e.1,v) else e).2);rw[AE h];rw[AD (fun z=>h (gw.mp z))];show _=((if e.1=k then (e.1,v) else e).1.map Sum.inl,PV.int (if e.1=k then (e.1,v) else e).2);rw[AD h]
 ·unfold dP;rw[BK];rfl
def n9{d:Dc}{k:KQ Int}{v:Int}:(zO d k v).length≤d.length+1:=by
 unfold zO;split;rw[AF];omega;rw[Ac];exact AG _
def oH{d:Dc}{k:KQ Int}{v:Int}:(zO d k v).map (·.1)=if k∈d.map (·.1) then d.map (·.1) else d.map (·.1)++[k]:=by
 unfold zO;have h:(d.any fun e=>decide (e.1=k))=true ↔ k∈d.map (·.1):=by rw[List.any_eq_true,AZ];exact⟨fun⟨e,I,M⟩=>⟨e,I,Az M⟩,fun⟨e,I,M⟩=>⟨e,I,AS M⟩⟩
 by_cases F:k∈d.map (·.1);rw[AE (h.mpr F),AE F,Ah];refine Ai fun e _=>?_;show (if e.1=k then (e.1,v) else e).1=e.1;split <;> rfl;rw[AD (fun z=>F (h.mp z)),AD F,BK];rfl
def nU{d:Dc}{k:KQ Int}{v:Int}(h:(d.map (·.1)).Nodup):((zO d k v).map (·.1)).Nodup:=by
 rw[oH];split;exact h;rename_i I;exact List.nodup_append.mpr ⟨h,(by simp),fun a F b M z=>by rw[Af.mp M]at z;rw[z]at F;exact I F⟩
def W1{e:KQ Int×Int}{d:Dc}{k:KQ Int}:QX (e::d) k=if e.1=k then e.2 else QX d k:=by
 unfold QX;rw[BW];by_cases h:e.1=k;rw[AS h,AE h];rfl;rw[AU h,AD h]
def mU{k k':KQ Int}{v:Int}:∀{d:Dc},k∉d.map (·.1)->QX (d++[(k,v)]) k'=if k'=k then v else QX d k'
 |[],_=>by
  rw[List.nil_append,W1];by_cases h:k=k';rw[AE h,AE h.symm];rw[AD h,AD (Ne.symm h)]
 |e::d,h=>by
  rw[AM,AK,not_or]at h;rw[List.cons_append,W1,mU h.2,W1];by_cases F:e.1=k';rw[AE F,AE F,AD (fun z=>h.1 (z.symm.trans F.symm))];rw[AD F,AD F]
def Ja{k k':KQ Int}{v:Int}:∀{d:Dc},k∈d.map (·.1)->QX (d.map fun e=>if e.1=k then (e.1,v) else e) k'=if k'=k then v else QX d k'
 |[],h=>by cases h
 |e::d,h=>by
  rw[AM,W1,W1];by_cases I:e.1=k
  ·rw[AE I];show (if e.1=k' then v else _)=_;by_cases F:e.1=k';rw[AE F,AE (F.symm.trans I)]
   ·rw[AD F,AD (fun z=>F (I.trans z.symm)),AD F];by_cases M:k∈d.map (·.1);rw[Ja M,AD (fun z=>F (I.trans z.symm))];congr 1;refine (Ai fun x O=>?_).trans (Cf d);show (if x.1=k then (x.1,v) else x)=x;rw[AD (fun z=>M (AZ.mpr ⟨x,O,z⟩))]
  ·have M:k∈d.map (·.1):=by rw[AM,AK]at h;exact h.elim (fun z=>absurd z.symm I) id
   rw[AD I];by_cases F:e.1=k';rw[AE F,AE F,AD (fun z=>I (F.trans z))];rw[AD F,AD F,Ja M]
def GI{d:Dc}{k k':KQ Int}{v:Int}:QX (zO d k v) k'=if k'=k then v else QX d k':=by
 unfold zO;have h:(d.any fun e=>decide (e.1=k))=true ↔ k∈d.map (·.1):=by rw[List.any_eq_true,AZ];exact⟨fun⟨e,I,M⟩=>⟨e,I,Az M⟩,fun⟨e,I,M⟩=>⟨e,I,AS M⟩⟩
 by_cases F:k∈d.map (·.1);rw[AE (h.mpr F)];exact Ja F;rw[AD (fun z=>F (h.mp z))];exact mU F
def t7{d:Dc}{k k':KQ Int}{t:Int}:QX (ZG d k t) k'=QX d k'+if k'=k then t else 0:=by
 unfold ZG;rw[GI];by_cases h:k'=k;rw[AE h,AE h,h];rw[AD h,AD h,Cp]
def nP{i n:Nat}{f g:FE}{r:ql}{st:qC}{d:Dc}{q:PV}{k:KQ Int}{t:Int}(F:r[i]? = some (some (.ref n)))(hd:st[n]? = some (.d (dP d)))(I:f r st= .ok q st)(M:Wv q=some (k.map Sum.inl))(Y:g r st= .ok (.int t) st)(Z:d.length≤1000) :
  WU (qB i) f (qN QK (zQ (qB i) f (vC (.int 0))) g) r st= .nx r (st.set n (.d (dP (ZG d k t)))):=by
 have O:gy st n=some (dP d):=by unfold gy;rw[hd]
 have R:=mK (f:=qB i) (fb:=f) (fc:=vC (.int 0)) (r:=r) (st:=st) (wo F) O I rfl M O;rw[re]at R;have U:=mw (f:=qN QK (zQ (qB i) f (vC (.int 0))) g) (fb:=qB i) (fc:=f) (r:=r) (st:=st) (qW R Y zx) (wo F) I M hd (by unfold dP;rw[AF];exact Al Z (by decide));rw[mE]at U;exact U
def tQ{c:qZ}:Wv (cP c)=some ((cL c).map Sum.inl):=rfl
def Dv{a:Ad}{r c w L:Int}{st:qC}(O:0≤L)(R:L≤1000):zB a [.tup [.int r,.int c,.int w],.int L] st= .ok (.tup ((Zo r c w L).map cP)) st:=by
 refine QJ rfl ?_;unfold ZK;refine qi (J7 (r1:=[some (.tup [.int r,.int c,.int w]),some (.int L),some (.int r),some (.int c),some (.int w)]) rfl rfl) ?_;have U:(WH L).length≤sizeLine:=by rw[zR];exact Wc (by omega)
 by_cases I:w=0
 ·subst I;let F:PV->PV:=fun p=>match p with | .int k=>cP (r,c+k)|_=>.non;have e:(Zo r c 0 L).map cP=((WH L).map PV.int).map F:=by unfold Zo;rw[Ah,Ah];exact Ai fun k _=>by show cP (if (0:Int)=0 then (r,c+k) else (r+k,c))=_;rw[AE rfl];rfl
  rw[e];refine QP (Qu (zI (qW (p:=.int 0) (q:=.int 0) rfl rfl (by rw[yW,A1]))) (QW (qQ (qM (wz (Ql (F:=F) (ie O R rfl) trivial (by rw[AF];exact U) fun p M=>?_)) qf) (yI rfl))));obtain⟨k,_,rfl⟩:=AZ.mp M;exact⟨[some (.int r),some (.int c),some (.int k)],rfl,zA (qM rfl (qM (qW rfl rfl zx) qf)) (sz rfl)⟩
 ·let F:PV->PV:=fun p=>match p with | .int k=>cP (r+k,c)|_=>.non;have e:(Zo r c w L).map cP=((WH L).map PV.int).map F:=by unfold Zo;rw[Ah,Ah];exact Ai fun k _=>by show cP (if w=0 then (r,c+k) else (r+k,c))=_;rw[AD I];rfl
  rw[e];refine qi (wE (zI (qW (p:=.int w) (q:=.int 0) rfl rfl (by rw[yW,Ag.mpr I]))) rfl) (QW (qQ (qM (wz (Ql (F:=F) (ie O R rfl) trivial (by rw[AF];exact U) fun p M=>?_)) qf) (yI rfl)));obtain⟨k,_,rfl⟩:=AZ.mp M;exact⟨[some (.int c),some (.int r),some (.int k)],rfl,zA (qM (qW rfl rfl zx) (qM rfl qf)) (sz rfl)⟩
abbrev Bar:=Int×Int×Int
def bP(b:Bar):PV:=.tup [.int b.1,.int b.2.1,.int b.2.2]
abbrev Sh:=Bar×Int
def sP(s:Sh):PV:=.tup [bP s.1,.int s.2]
def eM(L:Int)(b:Bar):KQ qZ:=Zo b.1 b.2.1 b.2.2 L
def YL(d:Dc)(cs:KQ qZ)(t:Int):Dc:=cs.foldl (fun d c=>ZG d (cL c) t) d
def qh(L:Int)(d:Dc)(sh:KQ Sh):Dc:=sh.foldl (fun d s=>YL d (eM L s.1) s.2) d
def Z8{st:qC}{n:Nat}{x:SO}(h:st[n]? = some x):st.set n x=st:=by
 refine List.ext_getElem? fun i=>?_;rw[List.getElem?_set];split
 ·rename_i e;subst e;split;exact h.symm;rename_i F;rw[Bs (by omega)]
 ·rfl
def JH{st:qC}{n:Nat}{x y:SO}(h:st[n]? = some x):(st.set n y)[n]? = some y:=by have F:n<st.length:=(AT.mp h).1;rw[List.getElem?_set,AE rfl,AE F]
def nh{d:Dc}{k:KQ Int}{t:Int}:(ZG d k t).length≤d.length+1:=n9
def jL{t:Int}:∀{cs:KQ qZ} {d:Dc},(YL d cs t).length≤d.length+cs.length|[],d=>AG _|c::cs,d=>by have F:=jL (t:=t) (cs:=cs) (d:=ZG d (cL c) t);have I:=nh (d:=d) (k:=cL c) (t:=t);show (YL (ZG d (cL c) t) cs t).length≤_;rw[AO];omega
def pb{n:Nat}{t:Int}{x0 x1 x3:KW PV}:∀(cs:KQ qZ) (d:Dc) (st:qC) (x5:KW PV),d.length+cs.length≤1000->st[n]? = some (.d (dP d))->∃F,Qf (fun _=>True) (q9 5) lP (cs.map cP) [x0,x1,some (.ref n),x3,some (.int t),x5] st= .nx [x0,x1,some (.ref n),x3,some (.int t),F] (st.set n (.d (dP (YL d cs t))))
 |[],d,st,x5,_,hd=>⟨x5,by show Qf _ _ _ [] _ _= .nx _ (st.set n (.d (dP d)));rw[Z8 hd];exact wR trivial⟩
 |c::cs,d,st,x5,M,hd=>by
  rw[AO]at M;have e:=nP (i:=2) (n:=n) (f:=qB 5) (g:=qB 4) (r:=[x0,x1,some (.ref n),x3,some (.int t),some (cP c)]) (st:=st) (d:=d) (q:=cP c) (k:=cL c) (t:=t) rfl hd rfl tQ rfl (by omega);obtain⟨F,I⟩:=pb (n:=n) (t:=t) (x0:=x0) (x1:=x1) (x3:=x3) cs (ZG d (cL c) t) (st.set n (.d (dP (ZG d (cL c) t)))) (some (cP c)) (by have:=nh (d:=d) (k:=cL c) (t:=t);omega) (JH hd);rw[List.set_set]at I;exact⟨F,zu trivial rfl e I⟩
def JM{L:Int}{b:Bar}:(eM L b).length=L.toNat:=Ez
def JO{L:Int}{n:Nat}{fi:FI}{x0:KW PV}(R:L≤5)(F:∀(b:Bar) (t:Int) (x5:KW PV) (st:qC),fi [x0,some (.int L),some (.ref n),some (bP b),some (.int t),x5] st= .ok ⟨(eM L b).map cP,fun _=>True⟩ st) :
  ∀(sh:KQ Sh) (d:Dc) (st:qC) (x3 x4 x5:KW PV),d.length+5*sh.length≤1000->st[n]? = some (.d (dP d))->∃U Y I,Qf (fun _=>True) (We 2 (qm (q9 3) (qm (q9 4) Wg))) (WF fi (q9 5) lP) (sh.map sP) [x0,some (.int L),some (.ref n),x3,x4,x5] st= .nx [x0,some (.int L),some (.ref n),U,Y,I] (st.set n (.d (dP (qh L d sh))))
 |[],d,st,x3,x4,x5,_,hd=>⟨x3,x4,x5,by show Qf _ _ _ [] _ _= .nx _ (st.set n (.d (dP d)));rw[Z8 hd];exact wR trivial⟩
 |s::sh,d,st,x3,x4,x5,Z,hd=>by
  rw[AO]at Z;have hc:(eM L s.1).length≤5:=by rw[JM];omega
  obtain⟨I,e⟩:=pb (n:=n) (t:=s.2) (x0:=x0) (x1:=some (.int L)) (x3:=some (bP s.1)) (eM L s.1) d st x5 (by omega) hd;have M:=jL (t:=s.2) (cs:=eM L s.1) (d:=d);obtain⟨z3,z4,z5,O⟩:=JO R F sh (YL d (eM L s.1) s.2) (st.set n (.d (dP (YL d (eM L s.1) s.2)))) (some (bP s.1)) (some (.int s.2)) I (by omega) (JH hd);rw[List.set_set]at O;exact⟨z3,z4,z5,zu trivial rfl (Zk (F s.1 s.2 x5 st) e) O⟩
def uP{a:Ad}{L:Int}{sh:KQ Sh}{v:PV}{st:qC}(F:0≤L)(I:L≤5)(R:sh.length≤100)(M:v= .tup (sh.map sP)∨v= .lst (sh.map sP)):ZU a [v,.int L] st= .ok (.ref st.length) (st++[.d (dP (qh L [] sh))]):=by
 obtain⟨U,Y,Z,e⟩:=JO (L:=L) (n:=st.length) (fi:=qt (qK (zB a) (qA (qB 3) (qA (qB 1) qD)))) (x0:=some v) I (fun b t x5 O=>Q0 (qQ (l:=[bP b,.int L]) rfl (Dv F (by omega)))) sh [] (st++[.d []]) none none none (by show 0+_≤_;omega) (by simp[dP]);have hs:(st++[SO.d []]).set st.length (.d (dP (qh L [] sh)))=st++[.d (dP (qh L [] sh))]:=by rw[CZ _ _ (AG _),DL];rfl
 rw[hs]at e;have hi:qt (qB 0) [some v,some (.int L),some (.ref st.length),none,none,none] (st++[.d []])= .ok ⟨sh.map sP,fun _=>True⟩ (st++[.d []]):=by
  rcases M with rfl|rfl
  ·exact Q0 rfl
  ·exact Q6 rfl
 refine QJ rfl (qi (r':=[some v,some (.int L),some (.ref st.length),none,none,none]) (s1:=st++[SO.d []]) rfl ?_);exact qi (Zk hi e) (QW rfl)
def yc:∀l:KQ Int,QV YN (l.map PV.int)=some l|[]=>rfl|p::l=>by simp only[AM,QV,YN,yc l]
def yV{k:KQ Int}:wS (k.map Sum.inl)= .tup (k.map PV.int):=by unfold wS;rw[Ah];rfl
def Zm{x:Int}{k:KQ Int}:Wv (.tup ((x::k).map PV.int))=some ((x::k).map Sum.inl):=by show (match QV YN ((x::k).map PV.int) with|some F=>some (F.map Sum.inl)|none=>none)=_;rw[show QV YN ((x::k).map PV.int)=some (x::k) from yc _]
def ma{i j:Nat}{n:Nat}{r:ql}{st:qC}{d:Dc}{k:KQ Int}{v:Int}(F:r[i]? = some (some (.ref n)))(I:r[j]? = some (some (.tup (k.map PV.int))))(M:k≠[])(hd:gy st n=some (dP d))(O:(d.find? fun e=>decide (e.1=k)).map (·.2)=some v):qN zh (qB i) (qB j) r st= .ok (.int v) st:=by
 refine qW (wo F) (wo I) ?_;cases k with|nil=>exact absurd rfl M|cons x k=>unfold zh;dsimp only;rw[Zm,hd];dsimp only;rw[mu,O];rfl
def zg:∀{d:Dc} {e:KQ Int×Int},(d.map (·.1)).Nodup->e∈d->(d.find? fun x=>decide (x.1=e.1)).map (·.2)=some e.2
 |[],_,_,h=>by cases h
 |x::d,e,F,h=>by
  rw[AM,Bd]at F;rw[BW];rcases AK.mp h with z|z
  ·subst z;rw[AS rfl];rfl
  ·have:x.1≠e.1:=fun y=>F.1 (by rw[y];exact AZ.mpr ⟨e,z,rfl⟩)
   rw[AU this];exact zg F.2 z
def nz(d:Dc):Dc:=d.filter fun e=>decide (e.2≠0)
def Jt{F:KQ Int×Int->PV}{G:KQ L2.Key×PV->KQ PV}:∀(d:Dc),(∀e∈d,G (e.1.map Sum.inl,.int e.2)=if e.2≠0 then [F e] else [])->(dP d).flatMap G=(nz d).map F
 |[],_=>rfl
 |e::d,h=>by
  show G (e.1.map Sum.inl,.int e.2)++(dP d).flatMap G=_;rw[Jt d fun x I=>h x (AH _ I),h e AI];unfold nz;rw[List.filter_cons];by_cases z:e.2≠0;rw[AE z,AS z];rfl;rw[AD z,AU z];rfl
def Zv{i j:Int}{st:qC}:gNe (.int i) (.int j) st= .ok (.bl (!decide (i=j))) st:=by show Rs.ok (PV.bl (!(i==j))) st=_;rw[show (i==j)=decide (i=j) by rw[Bq,Be,Ay]]
def vy{n:Nat}{st:qC}{d:Dc}{x0 x1 x3 x4 x5:KW PV}(hd:st[n]? = some (.d (dP d)))(U:(d.map (·.1)).Nodup)(Y:∀e∈d,e.1≠[])(hl:d.length≤1000) :
  Wf false [2] 1 (qB 2) (q5 1) [(fF (qN gNe (qN zh (qB 0) (qB 1)) (vC (.int 0))))] [] (qz (qA (qB 1) (qA (qN zh (qB 0) (qB 1)) qD))) [x0,x1,some (.ref n),x3,x4,x5] st= .ok ((nz d).map fun e=>.tup [.tup (e.1.map PV.int),.int e.2]) st:=by
 have hz:gy (st.set n (.z (dP d))) n=some (dP d):=by unfold gy;rw[JH hd]
 let G:PV->KQ PV:=fun p=>match Wv p with
  |some k=>match jD (dP d) k with|some (.int v)=>if v≠0 then [.tup [p,.int v]] else []|_=>[]
  |none=>[]
 have Z:∀e∈d,G (wS (e.1.map Sum.inl))=if e.2≠0 then [.tup [.tup (e.1.map PV.int),.int e.2]] else []:=fun e I=>by
  show (match Wv (wS (e.1.map Sum.inl)) with|some k=>_|none=>_)=_;rw[yV];obtain⟨x,k,hx⟩:∃x k,e.1=x::k:=by
   cases h:e.1 with|nil=>exact absurd h (Y e I)|cons x k=>exact⟨x,k,rfl⟩
  rw[hx,Zm];dsimp only;rw[mu,←hx,zg U I];rfl
 have hT:=ww (G:=fun _=>True) (k:=QG ⟨fun _ _=>.no,q5 1,[(fF (qN gNe (qN zh (qB 0) (qB 1)) (vC (.int 0))))]⟩ (QY [] (qz (qA (qB 1) (qA (qN zh (qB 0) (qB 1)) qD)))) (wK [2] 1 [x0,x1,some (.ref n),x3,x4,x5])) (st:=st.set n (.z (dP d))) trivial (F:=G) (l:=(dP d).map (WC false)) fun p hp=>by
  obtain⟨kv,O,rfl⟩:=AZ.mp hp;obtain⟨e,I,rfl⟩:=AZ.mp O;show QG _ _ _ (wS (e.1.map Sum.inl)) _= .ok (G (wS (e.1.map Sum.inl))) _;rw[Z e I,yV];have R:=ma (i:=0) (j:=1) (n:=n) (r:=[some (.ref n),some (.tup (e.1.map PV.int))]) (st:=st.set n (.z (dP d))) (d:=d) (k:=e.1) (v:=e.2) rfl rfl (Y e I) hz (zg U I);by_cases M:e.2=0
  ·rw[AD (by simp[M])];exact Yi (r':=[some (.ref n),some (.tup (e.1.map PV.int))]) rfl (zI (qW R rfl (by rw[Zv,AS M];rfl)))
  ·rw[AE M];exact Yr (r':=[some (.ref n),some (.tup (e.1.map PV.int))]) rfl (zI (qW R rfl (by rw[Zv,AU M];rfl))) (zA (qM rfl (qM R qf)) (sz rfl))
 rw[List.flatMap_map,Jt (F:=fun e=>.tup [.tup (e.1.map PV.int),.int e.2]) d (fun e I=>by show G (wS (e.1.map Sum.inl))=_;exact Z e I)]at hT;unfold Wf;show (match st[n]? with|some (.d Kh)=>_|_=>_)=_;rw[hd];dsimp only;rw[hT];dsimp only;rw[AE (by rw[AF];exact Wc (Ab (Ca _ _) (by omega))),List.set_set,Z8 hd]
def hU{c d:qZ}:cL c=cL d ↔ c=d:=by
 constructor;intro h;have h:[c.1,c.2]=[d.1,d.2]:=h;injection h with h1 h2;injection h2 with h2 _;exact DP h1 h2;intro h;rw[h]
def eG(L:Int)(sh:KQ Sh)(c:qZ):Int:=(sh.map fun s=>s.2*((eM L s.1).count c:Int)).sum
def J8{t:Int}{c:qZ}:∀{cs:KQ qZ} {d:Dc},QX (YL d cs t) (cL c)=QX d (cL c)+t*(cs.count c:Int)
 |[],d=>by show QX d (cL c)=QX d (cL c)+t*0;rw[Int.mul_zero,Cp]
 |x::cs,d=>by
  show QX (YL (ZG d (cL x) t) cs t) (cL c)=_;rw[J8,t7,List.count_cons];by_cases h:c=x;subst h;rw[AE rfl,AE (A1 c),Int.natCast_add,Int.mul_add];show _=_+(_+t*1);rw[Int.mul_one];omega;rw[AD (fun z=>h (hU.mp z)),AD (fun z=>h (DK z).symm),Cp,Nat.add_zero]
def sm{L:Int}{c:qZ}:∀{sh:KQ Sh} {d:Dc},QX (qh L d sh) (cL c)=QX d (cL c)+eG L sh c|[],d=>by show QX d (cL c)=QX d (cL c)+0;rw[Cp]|s::sh,d=>by show QX (qh L (YL d (eM L s.1) s.2) sh) (cL c)=_;rw[sm,J8];unfold eG;rw[AM,List.sum_cons];omega
def gX(d:Dc):Prop:=(d.map (·.1)).Nodup∧∀e∈d,∃c:qZ,e.1=cL c
def G5{d:Dc}{c:qZ}{t:Int}(h:gX d):gX (ZG d (cL c) t):=by
 refine⟨nU h.1,fun e U=>?_⟩;have M:e.1∈(zO d (cL c) (QX d (cL c)+t)).map (·.1):=AZ.mpr ⟨e,U,rfl⟩;rw[oH]at M;split at M;obtain⟨x,O,F⟩:=AZ.mp M;obtain⟨R,I⟩:=h.2 x O;exact⟨R,F.symm.trans I⟩
 ·rcases At.mp M with z|z
  ·obtain⟨x,O,F⟩:=AZ.mp z;obtain⟨R,I⟩:=h.2 x O;exact⟨R,F.symm.trans I⟩
  ·exact⟨c,Af.mp z⟩
def oQ{t:Int}:∀{cs:KQ qZ} {d:Dc},gX d->gX (YL d cs t)|[],_,h=>h|_::cs,_,h=>oQ (cs:=cs) (G5 h)
def Zd{L:Int}:∀{sh:KQ Sh} {d:Dc},gX d->gX (qh L d sh)|[],_,h=>h|_::sh,_,h=>Zd (sh:=sh) (oQ h)
def Z7:gX []:=⟨Cj,fun _ h=>by cases h⟩
def YY{L:Int}(F:L≤5):∀{sh:KQ Sh} {d:Dc},(qh L d sh).length≤d.length+5*sh.length
 |[],_=>AG _
 |s::sh,d=>by
  have I:=YY F (sh:=sh) (d:=YL d (eM L s.1) s.2);have M:=jL (t:=s.2) (cs:=eM L s.1) (d:=d);have O:(eM L s.1).length≤5:=by rw[JM];omega
  show (qh L (YL d (eM L s.1) s.2) sh).length≤_;rw[AO];omega
def gx{L:Int}{sh:KQ Sh}{e:KQ Int×Int}:e∈nz (qh L [] sh) ↔ ∃c,e=(cL c,eG L sh c)∧eG L sh c≠0:=by
 have M:gX (qh L [] sh):=Zd Z7;have O:∀c,QX (qh L [] sh) (cL c)=eG L sh c:=fun c=>by rw[sm];show 0+_=_;rw[Int.zero_add]
 unfold nz;rw[Bj];constructor
 ·rintro⟨R,Z⟩;obtain⟨c,U⟩:=M.2 e R;have h3:=zg M.1 R;have F:=O c;unfold QX at F;rw[←U,h3]at F;have F:e.2=eG L sh c:=F;exact⟨c,DP U F,by rw[←F];exact Az Z⟩
 ·rintro⟨c,rfl,h⟩;have F:=O c;unfold QX at F;cases I:(qh L [] sh).find? fun x=>decide (x.1=cL c) with
  |none=>rw[I]at F;exact absurd F.symm h
  |some x =>
   rw[I]at F;have F:x.2=eG L sh c:=F;have Y:=List.mem_of_find?_eq_some I;have hk:x.1=cL c:=by
    have:=List.find?_some (p:=fun (x:KQ Int×Int)=>decide (x.1=cL c)) I
    exact Az this
   have:x=(cL c,eG L sh c):=DP hk F
   rw[this]at Y;exact⟨Y,AS h⟩
def ku(L:Int)(sh:KQ Sh):KQ (KQ Int):=fm ((nz (qh L [] sh)).map fun e=>e.1++[e.2])
def oR:∀d:Dc,QV ij (d.map fun e=>.tup [.tup (e.1.map PV.int),.int e.2])=some (d.map fun e=>e.1++[e.2])
 |[]=>rfl
 |e::d=>by
  have h:ij (.tup [.tup (e.1.map PV.int),.int e.2])=some (e.1++[e.2]):=by show (QV YN (e.1.map PV.int)).map (· ++ [e.2])=_;rw[yc];rfl
  simp only[AM,QV,h,oR d]
def t9{d:Dc}{st:qC}(O:∀e∈d,∃c:qZ,e.1=cL c)(h64:d.length<64):Je (.lst (d.map fun e=>.tup [.tup (e.1.map PV.int),.int e.2])) st= .ok (.lst ((fm (d.map fun e=>e.1++[e.2])).map gZ)) st:=by
 show (match QV ij (d.map fun e=>.tup [.tup (e.1.map PV.int),.int e.2]) with|some Kj=>_|none=>_)=_;rw[oR];dsimp only;have M:∀ks∈d.map fun e=>e.1++[e.2],ks.length=3:=fun ks I=>by obtain⟨e,R,rfl⟩:=AZ.mp I;obtain⟨c,U⟩:=O e R;rw[Ac,U];rfl
 have F:∀ks∈d.map fun e=>e.1++[e.2],ks.length=((d.map fun e=>e.1++[e.2]).headD []).length-1+1:=fun ks I=>by
  have Y:((d.map fun e=>e.1++[e.2]).headD []).length=3:=by
   cases d with|nil=>cases I|cons e d=>rw[AM,List.headD_cons];exact M _ AI
  rw[M ks I,Y]
 rw[AE ⟨by rw[AF];exact h64,F⟩]
def ZR{a:Ad}{L:Int}{sh:KQ Sh}{v:PV}{st:qC}(U:0≤L)(O:L≤5)(hl:sh.length≤100)(h64:(nz (qh L [] sh)).length<64)(Y:v= .tup (sh.map sP)∨v= .lst (sh.map sP)):qu a [v,.int L] st= .ok (.lst ((ku L sh).map gZ)) (st++[.d (dP (qh L [] sh))]):=by
 obtain⟨Z,y4,y5,e⟩:=JO (L:=L) (n:=st.length) (fi:=qt (qK (WZ a) (qA (qB 3) (qA (qB 1) qD)))) (x0:=some v) O (fun b t x5 a0=>Q6 (qQ (l:=[bP b,.int L]) rfl (rm U (by omega)))) sh [] (st++[.d []]) none none none (by show 0+_≤_;omega) (by simp[dP]);have hs:(st++[SO.d []]).set st.length (.d (dP (qh L [] sh)))=st++[.d (dP (qh L [] sh))]:=by rw[CZ _ _ (AG _),DL];rfl
 rw[hs]at e;have hi:qt (qB 0) [some v,some (.int L),some (.ref st.length),none,none,none] (st++[.d []])= .ok ⟨sh.map sP,fun _=>True⟩ (st++[.d []]):=by
  rcases Y with rfl|rfl
  ·exact Q0 rfl
  ·exact Q6 rfl
 have F:gX (qh L [] sh):=Zd Z7;have R:=YY O (sh:=sh) (d:=[]);have I:=vy (n:=st.length) (st:=st++[.d (dP (qh L [] sh))]) (d:=qh L [] sh) (x0:=some v) (x1:=some (.int L)) (x3:=Z) (x4:=y4) (x5:=y5) (by simp) F.1 (fun e M=>by obtain⟨c,I⟩:=F.2 e M;rw[I];exact fun z=>by cases z) (by show _≤1000;have:([]:Dc).length=0:=rfl;omega);refine QJ rfl (qi (r':=[some v,some (.int L),some (.ref st.length),none,none,none]) (s1:=st++[SO.d []]) rfl ?_);refine qi (Zk hi e) (QW ?_);show (eI _ _ _).bind Je=_;rw[wz I];exact t9 (fun e M=>F.2 e (Bj.mp M).1) h64
def DV{n:Nat}{st:qC}{d:Dc}{r:ql}(Y:r[3]? = some (some (.ref n)))(hd:st[n]? = some (.d (dP d)))(hl:d.length≤1000) :
  Wf true [] 2 (qB 3) (We 2 (qm (q5 0) (qm (q5 1) Wg))) [(fF (qN gNe (qB 1) (vC (.int 0))))] [] (qB 0) r st= .ok ((nz d).map fun e=>.tup (e.1.map PV.int)) st:=by
 let G:PV->KQ PV:=fun p=>match p with| .tup [k,.int v]=>if v≠0 then [k] else []|_=>[]
 have R:∀e∈d,G (WC true (e.1.map Sum.inl,.int e.2))=if e.2≠0 then [.tup (e.1.map PV.int)] else []:=fun e I=>by show (if e.2≠0 then [wS (e.1.map Sum.inl)] else [])=_;rw[yV]
 have U:=ww (G:=fun _=>True) (k:=QG ⟨fun _ _=>.no,We 2 (qm (q5 0) (qm (q5 1) Wg)),[(fF (qN gNe (qB 1) (vC (.int 0))))]⟩ (QY [] (qB 0)) (wK [] 2 r)) (st:=st.set n (.z (dP d))) trivial (F:=G) (l:=(dP d).map (WC true)) fun p Z=>by
  obtain⟨kv,O,rfl⟩:=AZ.mp Z;obtain⟨e,I,rfl⟩:=AZ.mp O;rw[R e I];by_cases M:e.2=0
  ·rw[AD (by simp[M])];exact Yi (r':=[some (wS (e.1.map Sum.inl)),some (.int e.2)]) rfl (zI (qW (p:=.int e.2) (q:=.int 0) rfl rfl (by rw[Zv,AS M];rfl)))
  ·rw[AE M,←yV];exact Yr (r':=[some (wS (e.1.map Sum.inl)),some (.int e.2)]) rfl (zI (qW (p:=.int e.2) (q:=.int 0) rfl rfl (by rw[Zv,AU M];rfl))) rfl
 rw[List.flatMap_map,Jt (F:=fun e=>.tup (e.1.map PV.int)) d (fun e I=>R e I)]at U;unfold Wf;rw[wo Y];show (match st[n]? with|some (.d Kh)=>_|_=>_)=_;rw[hd];dsimp only;rw[U];dsimp only;rw[AE (by rw[AF];exact Wc (Ab (Ca _ _) (by omega))),List.set_set,Z8 hd]
def unL:KQ Int->qZ|[r,c]=>(r,c)|_=>(0,0)
def fO(d:Dc):KQ qZ:=(nz d).map fun e=>unL e.1
def vK{d:Dc}(h:∀e∈d,∃c:qZ,e.1=cL c):((nz d).map fun e=>PV.tup (e.1.map PV.int))=(fO d).map cP:=by unfold fO;rw[Ah];refine Ai fun e F=>?_;obtain⟨c,I⟩:=h e (Bj.mp F).1;show PV.tup (e.1.map PV.int)=cP (unL e.1);rw[I];rfl
def fK{L:Int}{sh:KQ Sh}{c:qZ}:c∈fO (qh L [] sh) ↔ eG L sh c≠0:=by
 unfold fO;rw[AZ];constructor
 ·rintro⟨e,F,rfl⟩;obtain⟨O,I,M⟩:=gx.mp F;rw[I];exact M
 ·intro h;exact⟨_,gx.mpr ⟨c,rfl,h⟩,rfl⟩
def l5{L:Int}{sh:KQ Sh}:(fO (qh L [] sh)).Nodup:=by
 have F:gX (qh L [] sh):=Zd Z7;have Y:((nz (qh L [] sh)).map (·.1)).Nodup:=List.Nodup.sublist (List.Sublist.map _ List.filter_sublist) F.1;unfold fO;have Z:((nz (qh L [] sh)).map fun e=>unL e.1)=((nz (qh L [] sh)).map (·.1)).map unL:=by rw[Ah];rfl
 rw[Z];refine C4 _ (fun (a b:KQ Int) (hab:a.length=2∧b.length=2∧a≠b) z=>?_) (List.Pairwise.imp_of_mem (R:=fun a b=>a≠b) (S:=fun a b=>a.length=2∧b.length=2∧a≠b) (fun {a b} I M h=>?_) Y)
 ·obtain⟨I,M,hn⟩:=hab
  match a,b,I,M with|[x,y],[x',y'],_,_=>have z:(x,y)=(x',y'):=z;injection z with z1 z2;exact hn (by rw[z1,z2])
 ·obtain⟨e,he,rfl⟩:=AZ.mp I;obtain⟨e',O,rfl⟩:=AZ.mp M;obtain⟨c,hc⟩:=F.2 e (Bj.mp he).1;obtain⟨c',U⟩:=F.2 e' (Bj.mp O).1;exact⟨by rw[hc];rfl,by rw[U];rfl,h⟩
def En(C:KQ qZ):(zW C).map cL=fm (C.map cL):=by unfold zW;rw[Ah];refine (Ai fun x F=>?_).trans (Cf _);obtain⟨c,_,rfl⟩:=AZ.mp ((QO _).mem_iff.mp F);rfl
def Wq(C:KQ qZ):(zW C).Perm C:=by
 have h:(fm (C.map cL)).Perm (C.map cL):=QO _;have F:=h.map lC;have e:(C.map cL).map lC=C:=by rw[Ah];exact (Ai fun c _=>rfl).trans (Cf C)
 rw[e]at F;exact F
def Dw{C:KQ qZ}{t:qZ->Int}(I:C.Nodup):fm (C.map fun c=>cL c++[t c])=(zW C).map fun c=>cL c++[t c]:=by
 refine Yg (Wx _) ?_ ((QO _).trans ((Wq C).map _).symm);have M:(zW C).Pairwise fun a b=>fj (cL b) (cL a)=false:=by
  have:=Wx (C.map cL)
  rw[←En,B1]at this;exact this
 have O:(zW C).Nodup:=(Wq C).nodup_iff.mpr I;rw[B1];refine (M.and O).imp fun {a b} F=>?_;rw[mv (k:=cL b) (k':=cL a) rfl (fun z=>F.2 (hU.mp z).symm)];exact F.1
def EW{L:Int}{sh:KQ Sh}:((nz (qh L [] sh)).map fun e=>e.1++[e.2])=(fO (qh L [] sh)).map fun c=>cL c++[eG L sh c]:=by unfold fO;rw[Ah];refine Ai fun e F=>?_;obtain⟨c,I,_⟩:=gx.mp F;rw[I];rfl
def JF{L:Int}{sh:KQ Sh}:ku L sh=(zW (fO (qh L [] sh))).map fun c=>cL c++[eG L sh c]:=by unfold ku;rw[EW,Dw l5]
def fX{t:qZ->Int}:∀{A F:KQ qZ},(A.map fun c=>cL c++[t c])=(F.map fun c=>cL c++[1]) ↔ A=F∧∀c∈A,t c=1
 |[],[]=>⟨(fun _=>⟨rfl,fun _ h=>by cases h⟩),fun _=>rfl⟩
 |[],_::_=>⟨(fun h=>by cases h),(fun h=>by cases h.1)⟩
 |_::_,[]=>⟨(fun h=>by cases h),(fun h=>by cases h.1)⟩
 |a::A,f::F=>by
  rw[AM,AM];constructor
  ·intro h;injection h with I M;obtain⟨R,U⟩:=fX.mp M;have I:[a.1,a.2,t a]=[f.1,f.2,1]:=I;injection I with e1 I;injection I with e2 I;injection I with e3 _;refine⟨by rw[R,show a=f from DP e1 e2],fun c O=>?_⟩;rcases AK.mp O with z|z
   ·rw[z];exact e3
   ·exact U c z
  ·rintro⟨I,M⟩;injection I with e1 e2;subst e1;subst e2;rw[M a AI,fX.mpr ⟨rfl,fun c O=>M c (AH _ O)⟩]
def Jh(F:KQ qZ)(L:Int)(sh:KQ Sh):Bool:=decide (zW (fO (qh L [] sh))=F)&&(fO (qh L [] sh)).all fun c=>decide (eG L sh c=1)
def Iv{F:KQ qZ}{L:Int}{sh:KQ Sh}:decide (ku L sh=F.map fun c=>cL c++[1])=Jh F L sh:=by rw[Bq,Ay,JF,fX];unfold Jh;rw[AY,Ay,Aw];exact⟨fun⟨I,M⟩=>⟨I,fun c O=>AS (M c (gD.mpr O))⟩,fun⟨I,M⟩=>⟨I,fun c O=>Az (M c (gD.mp O))⟩⟩
def gM:PV->Bool| .tup l=>Nat.ble l.length 1000&&l.all wZ|p=>wZ p
def zT{v:PV}(h:gM v=true):wZ v=true:=by cases v <;> first|rfl|exact h
def gQ:PV->Bool| .tup l=>Nat.ble l.length 59&&l.all gM|p=>wZ p
def ju{v:PV}(h:gQ v=true):wZ v=true:=by cases v <;> first|rfl|exact h
def ZZ{a:Ad}{v:PV}{st:qC}(h:wZ v=true):QU (kit a) [v,.ty "tuple"] st= .ok (.bl (match v with | .tup _=>true|_=>false)) st:=by cases v <;> first|rfl|cases h
def yo{f g:FE}{r:ql}{st s1:qC}{R:Rs PV}(h:f r st= .ok (.bl true) s1)(F:g r s1=R):ZO f g r st=R:=by unfold ZO;rw[h];exact F
def zS{f g:FE}{r:ql}{st s1:qC}(h:f r st= .ok (.bl false) s1):ZO f g r st= .ok (.bl false) s1:=by unfold ZO;rw[h];rfl
def Ji{l:KQ PV}{n:Int}{st:qC}:gNe (.int (l.length:Int)) (.int n) st= .ok (.bl (!decide ((l.length:Int)=n))) st:=by
 show Rs.ok (PV.bl (!((l.length:Int)==n))) st=_;by_cases h:(l.length:Int)=n;rw[AS h,Be.mpr h];rw[AU h,Ag.mpr h]
def JV{f:PV->Bool}{l:KQ PV}{st:qC}:yQ [.lst (l.map fun p=>.bl (f p))] st= .ok (.bl (l.all f)) st:=by unfold yQ J5;simp only[gk];rw[oO];show Rs.ok (PV.bl ((l.map f).all id)) st=_;rw[List.all_map];rfl
def WK{lo hi:Int}{p:PV}(h:QN lo hi p=true):∃i,p= .int i∧lo≤i∧i≤hi:=by
 cases p with|int i=>have h:(decide (lo≤i)&&decide (i≤hi))=true:=h;rw[AY]at h;exact⟨i,rfl,Az h.1,Az h.2⟩|_=>cases h
def xJ{a:Ad}{v:PV}{st:qC}(h:wZ v=true):WY a [v] st= .ok (.bl (isInt v)) st:=by cases v <;> first|rfl|cases h
def Gh{a:Ad}{l:KQ PV}{r:ql}{st:qC}{f:FE}(O:l.length≤1000)(h:∀p∈l,wZ p=true)(I:f r st= .ok (.tup l) st):qK yQ (qA (eI (QE [] 1 (qt f) (q5 0) [] [] (qK (WY a) (qA (qB 0) qD)))) qD) r st= .ok (.bl (l.all isInt)) st:=by
 have e:=Ql (Kk:=[]) (n:=1) (fi:=qt f) (g:=q5 0) (f:=qK (WY a) (qA (qB 0) qD)) (r:=r) (st:=st) (w:=⟨l,fun _=>True⟩) (F:=fun p=>.bl (isInt p)) (Q0 I) trivial (Wc (by show l.length≤_;omega)) fun p M=>⟨[some p],rfl,qQ (l:=[p]) rfl (xJ (h p M))⟩;exact qQ (qM (wz e) qf) JV
def rB{f:FE}{r:ql}{st s1:qC}{l:KQ PV}(h:f r st= .ok (.tup l) s1):eI (jd f) r st= .ok (.lst l) s1:=by unfold eI jd;rw[h];rfl
def o6{l:KQ PV}{lo hi:KW Int}:(W9 l lo hi).length≤l.length:=by unfold W9;rw[BX,Bn];omega
def yN{f:FE}{lo hi:FO}{r:ql}{st s1 s2 F:qC}{l:KQ PV}{p q:KW Int}(h:f r st= .ok (.tup l) s1)(I:lo r s1= .ok p s2)(M:hi r s2= .ok q F):Wb f lo hi r st= .ok (.tup (W9 l p q)) F:=by unfold Wb;rw[h];show (lo r s1).bind _=_;rw[I];show (hi r s2).bind _=_;rw[M];rfl
def ZS{l m:KQ PV}{st:qC}(h:l.length+m.length≤1000):wT (.tup l) (.tup m) st= .ok (.tup (l++m)) st:=by unfold wT;exact AE (Ab h (by decide))
def oD{l:KQ PV}(F:l.length≤1000)(h:∀p∈l,wZ p=true):gM (.tup l)=true:=by show (Nat.ble l.length 1000&&l.all wZ)=true;rw[AY,Aw];exact⟨Nat.ble_eq_true_of_le F,h⟩
def lN{l:KQ PV}(F:l.length≤59)(h:∀p∈l,gM p=true):gQ (.tup l)=true:=by show (Nat.ble l.length 59&&l.all gM)=true;rw[AY,Aw];exact⟨Nat.ble_eq_true_of_le F,h⟩
def gA:PV->Bar| .tup [.int x,.int y,.int z]=>(x,y,z)|_=>(0,0,0)
def YH:PV->Bool| .tup [x,y,w]=>QN (-40) 40 x&&(QN (-40) 40 y&&QN 0 1 w)|_=>false
def oP{l:KQ PV}(q:¬(l.length:Int)=3):YH (.tup l)=false:=by
 unfold YH;split;rename_i x y w e;cases e;exact absurd rfl q;rfl
def IS{a:Ad}{v:PV}{st:qC}(F:gM v=true):jJ a [v] st= .ok (.bl (YH v)) st:=by
 have I:=ZZ (a:=a) (st:=st) (zT F);cases v with
 |tup l =>
  have I:QU (kit a) [.tup l,.ty "tuple"] st= .ok (.bl true) st:=I;have F:(Nat.ble l.length 1000&&l.all wZ)=true:=F;rw[AY,Aw]at F;have O:fF (qN gNe (qK ZF (qA (qB 0) qD)) (vC (.int 3))) (QA 4 [.tup l]) st= .ok (!decide ((l.length:Int)=3)) st:=zI (qW (qQ (l:=[.tup l]) rfl (Zl rfl rfl)) rfl Ji);by_cases q:(l.length:Int)=3
  ·rw[AS q]at O;refine QJ rfl (qi (wE (Q1 (w_not (b:=true) (qo (qQ (l:=[.tup l,.ty "tuple"]) rfl I))) O) rfl) ?_)
   match l,q,F with
   |[x,y,w],_,F =>
    have Z:=F.2 x (by simp);have py:=F.2 y (by simp);have pw:=F.2 w (by simp);refine qi (J7 (r1:=[some (.tup [x,y,w]),some x,some y,some w]) rfl rfl) ?_;have M:=qo (qQ (fa:=qA (qB 1) (qA (yj (vC (.int 40))) (qA (vC (.int 40)) qD))) (r:=[some (.tup [x,y,w]),some x,some y,some w]) (st:=st) (l:=[x,.int (-40),.int 40]) rfl (yB (a:=a) (lo:= -40) (hi:=40) (st:=st) Z));have R:=qo (qQ (fa:=qA (qB 2) (qA (yj (vC (.int 40))) (qA (vC (.int 40)) qD))) (r:=[some (.tup [x,y,w]),some x,some y,some w]) (st:=st) (l:=[y,.int (-40),.int 40]) rfl (yB (a:=a) (lo:= -40) (hi:=40) (st:=st) py));show _=RS.rt (PV.bl (QN (-40) 40 x&&(QN (-40) 40 y&&QN 0 1 w))) st;cases U:QN (-40) 40 x with
    |false=>rw[U]at M;exact QP (Qu (ZM (w_not M)) (QW rfl))
    |true =>
     rw[U]at M;cases Y:QN (-40) 40 y with|false=>rw[Y]at R;exact QP (Qu (Q1 (w_not M) (w_not R)) (QW rfl))|true=>rw[Y]at R;exact qi (wE (Q1 (w_not M) (w_not R)) rfl) (QW (qQ (l:=[w,.int 0,.int 1]) rfl (yB pw)))
  ·rw[AU q]at O;rw[oP q];exact QJ rfl (QP (Qu (Q1 (w_not (b:=true) (qo (qQ (l:=[.tup l,.ty "tuple"]) rfl I))) O) (QW rfl)))
 |_=>first|(cases F;done)|exact QJ rfl (QP (Qu (ZM (w_not (b:=false) (qo (qQ (l:=[_,.ty "tuple"]) rfl I)))) (QW rfl)))
def uO{p:PV}(h:YH p=true):p=bP (gA p)∧ -40≤(gA p).1∧(gA p).1≤40∧ -40≤(gA p).2.1∧(gA p).2.1≤40∧((gA p).2.2=0∨(gA p).2.2=1):=by
 unfold YH at h;split at h;rename_i x y w;rw[AY,AY]at h;obtain⟨i,rfl,F,I⟩:=WK h.1;obtain⟨j,rfl,M,O⟩:=WK h.2.1;obtain⟨k,rfl,R,U⟩:=WK h.2.2;exact⟨rfl,F,I,M,O,by show k=0∨k=1;omega⟩;cases h
def iB:PV->Bool| .int t=>decide (t≠0)|_=>false
def f6:PV->Bool| .tup [b,t]=>YH b&&iB t|_=>false
def pT{l:KQ PV}(q:¬(l.length:Int)=2):f6 (.tup l)=false:=by
 match l,q with|[],_=>rfl|[_],_=>rfl|[_,_],q=>exact absurd rfl q|_::_::_::_,_=>rfl
def ni{l:KQ PV}(h:(l.length:Int)=2):∃p q,l=[p,q]:=by
 match l,h with|[p,q],_=>exact⟨p,q,rfl⟩|[],h=>cases h|[_],h=>exact absurd h (by simp)|_::_::_::_,h=>exact absurd h (by simp only[AO];omega)
def vk{a:Ad}{v:PV}{st:qC}(R:gQ v=true):Q7 a [v] st= .ok (.bl (f6 v)) st:=by
 have M:=ZZ (a:=a) (st:=st) (ju R);cases v with
 |tup l =>
  have F:(Nat.ble l.length 59&&l.all gM)=true:=R;rw[AY]at F;by_cases O:(l.length:Int)=2
  ·obtain⟨p,q,rfl⟩:=ni O;have Z:gM p=true:=Aw.mp F.2 p AI;have hq:gM q=true:=Aw.mp F.2 q (AH _ AI);refine QJ rfl (qi (wE (Q1 (w_not (b:=true) (qo (qQ (l:=[.tup [p,q],.ty "tuple"]) rfl M))) (zI (qW (qQ (l:=[.tup [p,q]]) rfl (Zl rfl rfl)) rfl rfl))) rfl) ?_);refine qi (J7 (r1:=[some (.tup [p,q]),some p,some q]) rfl rfl) (QW ?_);have I:=IS (a:=a) (v:=p) (st:=st) Z;show _=Rs.ok (PV.bl (YH p&&iB q)) st;cases U:YH p with
   |false=>rw[U]at I;exact zS (qQ (l:=[p]) rfl I)
   |true =>
    rw[U]at I;refine yo (qQ (l:=[p]) rfl I) ?_;have Y:=jF (a:=a) (v:=q) (st:=st) (zT hq);cases q with
    |int t =>
     refine yo (qQ (l:=[.int t]) rfl Y) ((qW (p:=.int t) (q:=.int 0) rfl rfl Zv).trans ?_);show _=Rs.ok (PV.bl (true&&decide (t≠0))) st;rw[DB];by_cases h:t=0;rw[AS h,AU (fun z=>z h)];rfl;rw[AU h,AS h];rfl
    |_=>exact zS (qQ rfl Y)
  ·rw[pT O];exact QJ rfl (QP (Qu (Q1 (w_not (b:=true) (qo (qQ (l:=[.tup l,.ty "tuple"]) rfl M))) (zI (qW (qQ (l:=[.tup l]) rfl (Zl rfl rfl)) rfl (by rw[Ji,AU O];rfl)))) (QW rfl)))
 |_=>exact QJ rfl (QP (Qu (ZM (w_not (b:=false) (qo (qQ rfl M)))) (QW rfl)))
def ze{l:KQ PV}{n:Nat}:W9 l (some (n:Int)) none=l.drop n:=by
 have F:HT.sIx l.length 0 (some (n:Int))=min n l.length:=HT.sIx_nat _ _ _;have I:HT.sIx l.length l.length none=l.length:=rfl;unfold W9;rw[I,F];by_cases h:n≤l.length;rw[Nat.min_eq_left h,CQ (by rw[Bn];exact AG _)];rw[Nat.min_eq_right (by omega),List.drop_length,List.drop_eq_nil_of_le (by omega),List.take_nil]
def oA{i:Int}{f:FE}{r:ql}{st:qC}(h:f r st= .ok (.int i) st):qN gLe (qK qD6 (qA f qD)) (vC (.int 40)) r st= .ok (.bl (QN (-40) 40 (.int i))) st:=by
 refine (qW (p:=.int (if i<0 then -i else i)) (q:=.int 40) (qQ (qM h qf) rfl) rfl tw).trans ?_;show _=Rs.ok (PV.bl (decide (-40≤i)&&decide (i≤40))) st
 have:decide ((if i<0 then -i else i)≤40)=(decide (-40≤i)&&decide (i≤40)):=by rw[Bq,Ay,AY,Ay,Ay];split <;> omega
 rw[this]
def FP{w:Int}{f:FE}{r:ql}{st:qC}(h:f r st= .ok (.int w) st):fF (qN (ir true) f (qz (qA (vC (.int 0)) (qA (vC (.int 1)) qD)))) r st= .ok (!QN 0 1 (.int w)) st:=by
 refine zI ((qW (q:=.tup [.int 0,.int 1]) h rfl rfl).trans ?_);show Rs.ok (PV.bl (!((0==w)||((1==w)||false)))) st=Rs.ok (PV.bl (!(decide (0≤w)&&decide (w≤1)))) st
 have:((0==w)||((1==w)||false))=(decide (0≤w)&&decide (w≤1)):=by rw[Bq,Bool.or_false,Bool.or_eq_true,Be,Be,AY,Ay,Ay];omega
 rw[this]
def IZ{l:KQ PV}(h:(l.length:Int)=3):∃x y w,l=[x,y,w]:=by
 match l,h with|[x,y,w],_=>exact⟨x,y,w,rfl⟩|[],h=>cases h|[_],h=>exact absurd h (by simp)|[_,_],h=>exact absurd h (by simp)|_::_::_::_::_,h=>exact absurd h (by simp only[AO];omega)
def JL{p:PV}(h:isInt p=true):∃i,p= .int i:=by cases p <;> first|exact⟨_,rfl⟩|cases h
def tT{a:Ad}{v:PV}{st:qC}(hv:gQ v=true):Wz a [v] st= .ok (.bl (f6 v)) st:=by
 have ei:=ZZ (a:=a) (st:=st) (ju hv);cases v with
 |tup l =>
  have O:(Nat.ble l.length 59&&l.all gM)=true:=hv;rw[AY]at O;by_cases hl:(l.length:Int)=2
  ·obtain⟨p,q,rfl⟩:=ni hl;have hp:gM p=true:=Aw.mp O.2 p AI;have hq:gM q=true:=Aw.mp O.2 q (AH _ AI);have ep:=ZZ (a:=a) (st:=st) (zT hp);have e1:=w_not (b:=true) (qo (qQ (k:=QU (kit a)) (fa:=qA (qB 0) (qA (vC (.ty "tuple")) qD)) (r:=QA 1 [.tup [p,q]]) (l:=[.tup [p,q],.ty "tuple"]) rfl ei));have e2:fF (qN gNe (qK ZF (qA (qB 0) qD)) (vC (.int 2))) (QA 1 [.tup [p,q]]) st= .ok false st:=zI (qW (qQ (l:=[.tup [p,q]]) rfl (Zl rfl rfl)) rfl rfl);have M:qN eV (qB 0) (vC (.int 0)) (QA 1 [.tup [p,q]]) st= .ok p st:=qW rfl rfl rfl;cases p with
   |tup m =>
    have hm:(Nat.ble m.length 1000&&m.all wZ)=true:=hp;rw[AY]at hm;have e3:=w_not (b:=true) (qo (qQ (k:=QU (kit a)) (fa:=qA (qN eV (qB 0) (vC (.int 0))) (qA (vC (.ty "tuple")) qD)) (r:=QA 1 [.tup [.tup m,q]]) (st:=st) (l:=[.tup m,.ty "tuple"]) (qM M (qM rfl qf)) ep));by_cases h3:(m.length:Int)=3
    ·obtain⟨x,y,w,rfl⟩:=IZ h3;have hP:∀z∈[x,y,w,q],wZ z=true:=fun z R=>by
      rcases At.mp (show z∈[x,y,w]++[q] from R) with h|h
      ·exact Aw.mp hm.2 z h
      ·rw[Af.mp h];exact zT hq
     have ec:qN wT (qN eV (qB 0) (vC (.int 0))) (Wb (qB 0) (qy (vC (.int 1))) QZ) (QA 1 [.tup [.tup [x,y,w],q]]) st= .ok (.tup [x,y,w,q]) st:=by refine qW M ((yN (l:=[.tup [x,y,w],q]) (p:=some ((1:Nat):Int)) (q:=none) rfl (vP rfl) rfl).trans (by rw[ze];rfl)) (ZS (l:=[x,y,w]) (m:=[q]) (show 3+1≤1000 by decide))
     have U:=Gh (a:=a) (l:=[x,y,w,q]) (r:=QA 1 [.tup [.tup [x,y,w],q]]) (st:=st) (show 4≤1000 by decide) hP ec;refine QJ rfl (qi (wE (Q1 e1 (Q1 e2 (Q1 e3 (zI (qW (qQ (l:=[.tup [x,y,w]]) (qM M qf) (Zl rfl rfl)) rfl rfl))))) rfl) ?_);cases F:[x,y,w,q].all isInt with
     |false =>
      have hs:f6 (.tup [.tup [x,y,w],q])=false:=by
       show (YH (.tup [x,y,w])&&iB q)=false;cases R:(YH (.tup [x,y,w])&&iB q) with
       |false=>rfl
       |true=>rw[AY]at R;have Y:(QN (-40) 40 x&&(QN (-40) 40 y&&QN 0 1 w))=true:=R.1;rw[AY,AY]at Y;obtain⟨i,rfl,_⟩:=WK Y.1;obtain⟨j,rfl,_⟩:=WK Y.2.1;obtain⟨k,rfl,_⟩:=WK Y.2.2;cases q <;> first|cases R.2|cases F
      rw[hs];rw[F]at U;exact QP (Qu (ZM (w_not (b:=false) (qo U))) (QW rfl))
     |true =>
      rw[F]at U;have Z:∀z∈[x,y,w,q],isInt z=true:=Aw.mp F;obtain⟨i,rfl⟩:=JL (Z x (by simp));obtain⟨j,rfl⟩:=JL (Z y (by simp));obtain⟨k,rfl⟩:=JL (Z w (by simp));obtain⟨t,rfl⟩:=JL (Z q (by simp));have I:=FP (w:=k) (f:=qN eV (qN eV (qB 0) (vC (.int 0))) (vC (.int 2))) (r:=QA 1 [.tup [.tup [.int i,.int j,.int k],.int t]]) (st:=st) (qW M rfl rfl);show _=RS.rt (PV.bl ((QN (-40) 40 (.int i)&&(QN (-40) 40 (.int j)&&QN 0 1 (.int k)))&&iB (.int t))) st;cases hk:QN 0 1 (.int k) with
      |false=>rw[hk]at I;rw[Bi,Bi,Ci];exact QP (Qu (Q1 (w_not (b:=true) (qo U)) I) (QW rfl))
      |true =>
       rw[hk]at I;rw[Cs];refine qi (wE (Q1 (w_not (b:=true) (qo U)) I) rfl) (QW ?_);have a1:=oA (i:=i) (f:=qN eV (qN eV (qB 0) (vC (.int 0))) (vC (.int 0))) (r:=QA 1 [.tup [.tup [.int i,.int j,.int k],.int t]]) (st:=st) (qW M rfl rfl);have a2:=oA (i:=j) (f:=qN eV (qN eV (qB 0) (vC (.int 0))) (vC (.int 1))) (r:=QA 1 [.tup [.tup [.int i,.int j,.int k],.int t]]) (st:=st) (qW M rfl rfl);have a3:qN gNe (qN eV (qB 0) (vC (.int 1))) (vC (.int 0)) (QA 1 [.tup [.tup [.int i,.int j,.int k],.int t]]) st= .ok (.bl (iB (.int t))) st:=by
        refine (qW (p:=.int t) (q:=.int 0) (qW rfl rfl rfl) rfl Zv).trans ?_;show _=Rs.ok (PV.bl (decide (t≠0))) st;by_cases h:t=0;rw[AS h,AU (fun z=>z h)];rfl;rw[AU h,AS h];rfl
       cases h1:QN (-40) 40 (.int i) with
       |false=>rw[h1]at a1;exact zS a1
       |true =>
        rw[h1]at a1;refine yo a1 ?_;rw[DB];cases h2:QN (-40) 40 (.int j) with|false=>rw[h2]at a2;exact zS a2|true=>rw[h2]at a2;exact yo a2 a3
    ·have hs:f6 (.tup [.tup m,q])=false:=by show (YH (.tup m)&&iB q)=false;rw[oP h3];rfl
     rw[hs];exact QJ rfl (QP (Qu (Q1 e1 (Q1 e2 (Q1 e3 (zI (qW (qQ (l:=[.tup m]) (qM M qf) (Zl rfl rfl)) rfl (by rw[Ji,AU h3];rfl)))))) (QW rfl)))
   |_=>exact QJ rfl (QP (Qu (Q1 e1 (Q1 e2 (ZM (w_not (b:=false) (qo (qQ (qM M (qM rfl qf)) ep)))))) (QW rfl)))
  ·rw[pT hl];exact QJ rfl (QP (Qu (Q1 (w_not (b:=true) (qo (qQ (l:=[.tup l,.ty "tuple"]) rfl ei))) (ZM (zI (qW (qQ (l:=[.tup l]) rfl (Zl rfl rfl)) rfl (by rw[Ji,AU hl];rfl))))) (QW rfl)))
 |_=>exact QJ rfl (QP (Qu (ZM (w_not (b:=false) (qo (qQ rfl ei)))) (QW rfl)))
def itR{lo hi:Int}{r:ql}{st s1:qC}{f:FA}(I:0≤lo)(M:lo≤1000)(O:0≤hi)(R:hi≤1000)(F:f r st= .ok [.int lo,.int hi] s1):(ki f) r st= .ok ⟨yf lo hi,fun _=>True⟩ s1:=by unfold ki;rw[F];show JC [.int lo,.int hi] s1=_;unfold JC;dsimp only;rw[AE ⟨by omega,by omega,by omega,by omega⟩]
def bL(b:Bar):KQ Int:=[b.1,b.2.1,b.2.2]
def lB:KQ Int->Bar|[x,y,z]=>(x,y,z)|_=>(0,0,0)
def ph{bs:KQ Bar}{i:Nat}{st:qC}(h:i<bs.length):eV (.lst (bs.map bP)) (.int (i:Int)) st= .ok (bP bs[i]) st:=by
 refine mh rfl ?_;unfold L2.atI;rw[JW (by omega) (by rw[AF];omega),Option.bind_some,BC,Am,AJ h];rfl
def zM(b c:Bar):Bool:=if b.1=c.1 then (if b.2.1=c.2.1 then decide (b.2.2<c.2.2) else decide (b.2.1<c.2.1)) else decide (b.1<c.1)
def vI{c d:Bar}{st:qC}:qDd (bP c) (bP d) st= .ok (.bl (zM c d)) st:=by
 show (if yn (bP c) (bP d)=true then (match gh [.int c.1,.int c.2.1,.int c.2.2] [.int d.1,.int d.2.1,.int d.2.2] with|some r=>Rs.ok (PV.bl r) st|none=>.no) else .no)=_;have M:yn (bP c) (bP d)=true:=rfl;rw[AE M]
 have:gh [.int c.1,.int c.2.1,.int c.2.2] [.int d.1,.int d.2.1,.int d.2.2]=some (zM c d):=by
  show (if (c.1==d.1)=true then (if (c.2.1==d.2.1)=true then (if (c.2.2==d.2.2)=true then some false else some (decide (c.2.2<d.2.2))) else some (decide (c.2.1<d.2.1))) else some (decide (c.1<d.1)))=_;unfold zM;by_cases h:c.1=d.1
  ·rw[AE (Be.mpr h),AE h];by_cases F:c.2.1=d.2.1
   ·rw[AE (Be.mpr F),AE F];by_cases I:c.2.2=d.2.2;rw[AE (Be.mpr I),AU (by omega)];rw[AD (by rw[Be];exact I)]
   ·rw[AD (by rw[Be];exact F),AD F]
  ·rw[AD (by rw[Be];exact h),AD h]
 rw[this]
def Wk:KQ Bar->Bool|[]=>true|[_]=>true|b::c::l=>zM b c&&Wk (c::l)
def Ys:∀{bs:KQ Bar},Wk bs=true ↔ ∀i,(h:i+1<bs.length)->zM bs[i] bs[i+1]=true
 |[]=>⟨fun _ i h=>by simp at h,fun _=>rfl⟩
 |[_]=>⟨fun _ i h=>by simp at h,fun _=>rfl⟩
 |b::c::l=>by
  rw[Wk,AY,Ys (bs:=c::l)];constructor
  ·rintro⟨F,I⟩ i hi;cases i with|zero=>exact F|succ i=>exact I i (by simpa using hi)
  ·intro h;exact⟨h 0 (by simp),fun i hi=>h (i+1) (by simpa using hi)⟩
def mF(F:KQ Bar)(p:PV):Bool:=match p with| .int k=>zM (F.getD (k-1).toNat (0,0,0)) (F.getD k.toNat (0,0,0))|_=>false
def yU{F:KQ Bar}{i:Nat}(h:i<F.length):F.getD i (0,0,0)=F[i]:=by rw[Ao,AJ h];rfl
def IT{a:Ad}{F:KQ Bar}{st:qC}(U:F.length≤900):ZT a [.lst (F.map bP)] st= .ok (.bl (Wk F)) st:=by
 have e:=Ql (Kk:=[0]) (n:=1) (fi:=ki (qA (vC (.int 1)) (qA (qK ZF (qA (qB 0) qD)) qD))) (g:=q5 1) (f:=qN qDd (qN eV (qB 0) (qN zp (qB 1) (vC (.int 1)))) (qN eV (qB 0) (qB 1))) (r:=QA 1 [.lst (F.map bP)]) (st:=st) (w:=⟨yf 1 (F.length:Int),fun _=>True⟩) (F:=fun p=>.bl (mF F p)) (itR (by decide) (by decide) (by omega) (by omega) (qM rfl (qM (qQ (l:=[.lst (F.map bP)]) rfl (Zl rfl (by rw[AF]))) qf))) trivial (by unfold yf;rw[AF,List.length_range];exact Wc (by omega)) fun p M=>by
  obtain⟨i,hi,rfl⟩:=AZ.mp M;have hi:=BM.mp hi;have R:i<F.length:=by omega
  have I:i+1<F.length:=by omega
  have Y:eV (.lst (F.map bP)) (.int (1+(i:Int)-1)) st= .ok (bP F[i]) st:=by rw[show (1:Int)+(i:Int)-1=(i:Int) by omega];exact ph R
  have Z:eV (.lst (F.map bP)) (.int (1+(i:Int))) st= .ok (bP F[i+1]) st:=by rw[show (1:Int)+(i:Int)=((i+1:Nat):Int) by omega];exact ph I
  refine⟨[some (.lst (F.map bP)),some (.int (1+(i:Int)))],rfl,(qW (qW rfl (qW rfl rfl Z3) Y) (qW rfl rfl Z) vI).trans ?_⟩;show _=Rs.ok (PV.bl (zM (F.getD (1+(i:Int)-1).toNat (0,0,0)) (F.getD (1+(i:Int)).toNat (0,0,0)))) st;rw[show (1+(i:Int)-1).toNat=i by omega,show (1+(i:Int)).toNat=i+1 by omega,yU R,yU I]
 have O:(yf 1 (F.length:Int)).all (mF F)=Wk F:=by
  rw[Bq,Ys,Aw];constructor
  ·intro h i hi
   have:=h (.int (1+(i:Int))) (AZ.mpr ⟨i,BM.mpr (by omega),rfl⟩)
   have this:zM (F.getD (1+(i:Int)-1).toNat (0,0,0)) (F.getD (1+(i:Int)).toNat (0,0,0))=true:=this;rw[show (1+(i:Int)-1).toNat=i by omega,show (1+(i:Int)).toNat=i+1 by omega,yU (by omega),yU hi]at this;exact this
  ·intro h p M;obtain⟨i,hi,rfl⟩:=AZ.mp M;have hi:=BM.mp hi;have I:i+1<F.length:=by omega
   show zM (F.getD (1+(i:Int)-1).toNat (0,0,0)) (F.getD (1+(i:Int)).toNat (0,0,0))=true;rw[show (1+(i:Int)-1).toNat=i by omega,show (1+(i:Int)).toNat=i+1 by omega,yU (by omega),yU I];exact h i I
 rw[←O];exact QJ rfl (QW (qQ (qM (wz e) qf) JV))
def F6{a b c:Bar}(I:zM a b=true)(F:zM b c=true):zM a c=true:=by
 unfold zM at *;obtain⟨a1,a2,a3⟩:=a;obtain⟨b1,R,b3⟩:=b;obtain⟨Z,c2,c3⟩:=c;dsimp only at *;by_cases U:a1=b1
 ·rw[AE U]at I;by_cases M:b1=Z
  ·rw[AE M]at F;rw[AE (U.trans M)];by_cases Y:a2=R
   ·rw[AE Y]at I;by_cases O:R=c2
    ·rw[AE O]at F;rw[AE (Y.trans O)]
     have:=Az I;have:=Az F
     exact AS (by omega)
    ·rw[AD O]at F;rw[AD (by omega)]
     have:=Az F
     exact AS (by omega)
   ·rw[AD Y]at I;have g1:=Az I;by_cases O:R=c2
    ·rw[AD (by omega)];exact AS (by omega)
    ·rw[AD O]at F;have g2:=Az F;rw[AD (by omega)];exact AS (by omega)
  ·rw[AD M]at F
   have:=Az F
   rw[AD (by omega)];exact AS (by omega)
 ·rw[AD U]at I;have g1:=Az I;by_cases M:b1=Z
  ·rw[AD (by omega)];exact AS (by omega)
  ·rw[AD M]at F;have g2:=Az F;rw[AD (by omega)];exact AS (by omega)
def pf:∀{l:KQ Bar},Wk l=true->l.Pairwise fun b c=>zM b c=true
 |[],_=>List.Pairwise.nil
 |[b],_=>List.pairwise_singleton _ b
 |b::c::l,h=>by
  rw[Wk,AY]at h;have F:=pf h.2;refine Bm.mpr ⟨fun d hd=>?_,F⟩;rcases AK.mp hd with rfl|hd
  ·exact h.1
  ·exact F6 h.1 ((Bm.mp F).1 d hd)
def Hu{b c:Bar}(h:fj (bL c) (bL b)=false)(Y:b≠c):zM b c=true:=by
 obtain⟨b1,I,M⟩:=b;obtain⟨O,R,U⟩:=c;have h:(if O<b1 then true else if b1<O then false else if R<I then true else if I<R then false else if U<M then true else if M<U then false else false)=false:=h;unfold zM;dsimp only;by_cases Z:b1=O
 ·subst Z;rw[AD (B5 _),AD (B5 _)]at h;rw[AE rfl];by_cases e2:I=R
  ·subst e2;rw[AD (B5 _),AD (B5 _)]at h;rw[AE rfl];by_cases F:U<M;rw[AE F]at h;cases h
   ·have:M≠U:=fun z=>Y (by rw[z])
    exact AS (by omega)
  ·rw[AD e2];by_cases F:R<I;rw[AE F]at h;cases h;exact AS (by omega)
 ·rw[AD Z];by_cases F:O<b1;rw[AE F]at h;cases h;exact AS (by omega)
def rM{b c:Bar}:zM b c=fj (bL b) (bL c):=by
 show (if b.1=c.1 then (if b.2.1=c.2.1 then decide (b.2.2<c.2.2) else decide (b.2.1<c.2.1)) else decide (b.1<c.1))=(if b.1<c.1 then true else if c.1<b.1 then false else if b.2.1<c.2.1 then true else if c.2.1<b.2.1 then false else if b.2.2<c.2.2 then true else if c.2.2<b.2.2 then false else false);by_cases I:b.1=c.1
 ·rw[AE I,AD (show ¬b.1<c.1 by omega),AD (show ¬c.1<b.1 by omega)];by_cases M:b.2.1=c.2.1
  ·rw[AE M,AD (show ¬b.2.1<c.2.1 by omega),AD (show ¬c.2.1<b.2.1 by omega)];by_cases F:b.2.2<c.2.2;rw[AE F,AS F];rw[AD F,AU F];split <;> rfl
  ·rw[AD M];by_cases F:b.2.1<c.2.1;rw[AE F,AS F];rw[AD F,AU F,AE (show c.2.1<b.2.1 by omega)]
 ·rw[AD I];by_cases F:b.1<c.1;rw[AE F,AS F];rw[AD F,AU F,AE (show c.1<b.1 by omega)]
def uJ{A:KQ (KQ Int)}{x:KQ Int}:x∈gf A ↔ x∈A:=by unfold gf;rw[p7];simp
def EE{bs:KQ Bar}:Wk bs=decide (bs.map bL=fm (gf (bs.map bL))):=by
 rw[Bq,Ay];constructor
 ·intro h;have I:(bs.map bL).Pairwise fun a b=>fj a b=true:=by rw[B1];exact (pf h).imp fun {a b} F=>by rw[←rM];exact F
  have M:(bs.map bL).Pairwise fun a b=>fj b a=false:=I.imp fun {a b} F=>by
   cases O:fj b a with|false=>rfl|true=>have:=Jg _ _ _ F O;rw[Zc]at this;cases this
  have R:(bs.map bL).Nodup:=I.imp fun {a b} F z=>by rw[z,Zc]at F;cases F
  have hd:(gf (bs.map bL)).Nodup:=yb _ _ Cj;exact Yg M (Wx _) (((List.perm_ext_iff_of_nodup hd R).mpr fun x=>uJ).symm.trans (QO _).symm)
 ·intro h;have hd:(fm (gf (bs.map bL))).Nodup:=(QO _).nodup_iff.mpr (yb _ _ Cj);have I:=(Wx (gf (bs.map bL))).and hd;rw[←h,B1]at I;rw[Ys];intro i hi;have M:=Cd.mp I i (i+1) (by omega) hi (by omega);rw[rM];cases O:fj (bL bs[i]) (bL bs[i+1]) with|true=>rfl|false=>exact absurd (yC _ _ O M.1) M.2
def GE:PV->Int| .int t=>t|_=>0
def fY:PV->Sh| .tup [b,t]=>(gA b,GE t)|_=>((0,0,0),0)
def Dj{p:PV}(h:f6 p=true):p=sP (fY p):=by
 match p,h with
 | .tup [b,t],h =>
  have h:(YH b&&iB t)=true:=h;rw[AY]at h;have F:=(uO h.1).1;cases t with|int k=>show PV.tup [b,.int k]=PV.tup [bP (gA b),.int k];rw[←F]|_=>cases h.2
def mI{l:KQ PV}(h:l.all f6=true):l=(l.map fY).map sP:=by rw[Ah];exact ((Ai fun p F=>(Dj (Aw.mp h p F)).symm).trans (Cf l)).symm
def iS:PV->Bool| .tup l=>Nat.ble l.length 59&&l.all gQ|p=>wZ p
def jo{v:PV}(h:iS v=true):wZ v=true:=by cases v <;> first|rfl|exact h
def jE(F:KQ qZ)(L:Int):PV->Bool| .tup l=>l.all f6&&(Wk ((l.map fY).map (·.1))&&Jh F L (l.map fY))|_=>false
def mW{sh:KQ Sh}{f:FE}{r:ql}{st:qC}(I:f r st= .ok (.tup (sh.map sP)) st)(R:sh.length≤59):eI (QE [] 2 (qt f) (We 2 (qm (q5 0) (qm (q5 1) Wg))) [] [] (qB 0)) r st= .ok (.lst ((sh.map (·.1)).map bP)) st:=by
 let F:PV->PV:=fun p=>match p with | .tup [b,_]=>b|_=>.non;have e:=Ql (Kk:=[]) (n:=2) (fi:=qt f) (g:=We 2 (qm (q5 0) (qm (q5 1) Wg))) (f:=qB 0) (r:=r) (st:=st) (w:=⟨sh.map sP,fun _=>True⟩) (F:=F) (Q0 I) trivial (by show (sh.map sP).length≤_;rw[AF];exact Wc (by omega)) fun p M=>by obtain⟨s,_,rfl⟩:=AZ.mp M;exact⟨[some (bP s.1),some (.int s.2)],rfl,rfl⟩
 have O:(sh.map sP).map F=(sh.map (·.1)).map bP:=by rw[Ah,Ah];exact Ai fun s _=>rfl
 rw[←O];exact wz e
def tL{L:Int}{sh:KQ Sh}{n:Nat}{r:ql}{st:qC}(O:L≤5)(hl:sh.length≤59)(R:r[3]? = some (some (.ref n)))(U:r[4]? = some (some (.lst ((fO (qh L [] sh)).map cP))))(hd:st[n]? = some (.d (dP (qh L [] sh)))):qK yQ (qA (eI (QE [3] 1 (qt (qB 4)) (q5 1) [] [] (qN gEq (qN zh (qB 0) (qB 1)) (vC (.int 1))))) qD) r st= .ok (.bl ((fO (qh L [] sh)).all fun c=>decide (eG L sh c=1))) st:=by
 have Y:gX (qh L [] sh):=Zd Z7;have M:=YY O (sh:=sh) (d:=[]);have e:=Ql (Kk:=[3]) (n:=1) (fi:=qt (qB 4)) (g:=q5 1) (f:=qN gEq (qN zh (qB 0) (qB 1)) (vC (.int 1))) (r:=r) (st:=st) (w:=⟨(fO (qh L [] sh)).map cP,fun _=>True⟩) (F:=fun p=>.bl (decide (eG L sh (kg p)=1))) (Q6 (wo U)) trivial (by show ((fO (qh L [] sh)).map cP).length≤_;rw[AF];unfold fO nz;rw[AF];exact Wc (Ab (Ca _ _) (by have:([]:Dc).length=0:=rfl;omega))) fun p Z=>by
  obtain⟨c,hc,rfl⟩:=AZ.mp Z;have hm:=gx.mpr ⟨c,rfl,fK.mp hc⟩;have I:=(Bj.mp hm).1;have ed:=ma (i:=0) (j:=1) (n:=n) (r:=[some (.ref n),some (cP c)]) (st:=st) (d:=qh L [] sh) (k:=cL c) (v:=eG L sh c) rfl rfl (fun z=>by cases z) (by unfold gy;rw[hd]) (zg Y.1 I);refine⟨[some (.ref n),some (cP c)],by show some _=some _;unfold wK;rw[AM,R];rfl,(qW ed rfl yW).trans ?_⟩;rw[Fm,show (eG L sh c==1)=decide (eG L sh c=1) by rw[Bq,Be,Ay]]
 refine (qQ (qM (wz e) qf) JV).trans ?_;rw[List.all_map];rfl
def sF{F G:KQ qZ}{st:qC}:gEq (.tup (F.map cP)) (.tup (G.map cP)) st= .ok (.bl (decide (F=G))) st:=by
 have M:∀F G:KQ qZ,ft (F.map cP) (G.map cP)=decide (F=G):=by
  intro F;induction F with
  |nil=>intro G;cases G <;> rfl
  |cons c F O =>
   intro G;cases G with
   |nil=>rfl
   |cons d G =>
    rw[AM,AM,ft,l8,O G];by_cases h:c=d
    ·by_cases I:F=G;subst h;subst I;simp;rw[AU I,Bi];exact (AU (by simp[I])).symm
    ·rw[AU h,Ci];exact (AU (by simp[h])).symm
 have R:yn (.tup (F.map cP)) (.tup (G.map cP))=true:=by show (gp (F.map cP)&&gp (G.map cP)&&decide (eL (F.map cP)+1≤yZ))=true;rw[kY,kY,AS (Ab (C9 (lO F)) (by decide))];rfl
 show (if yn (.tup (F.map cP)) (.tup (G.map cP))=true then Rs.ok (PV.bl (ft (F.map cP) (G.map cP))) st else Rs.no)=_;rw[AE R,M]
def E9{a:Ad}{L:Int}{st:qC}(F:2≤L)(I:L≤5):Qq a [.int L] st= .ok .non st:=by rw[Zh rfl,AE (by show (decide (2≤L)&&decide (L≤5))=true;rw[AS F,AS I];rfl)]
def vX{a:Ad}{F:KQ qZ}{L:Int}{v:PV}{st:qC}(h1:2≤L)(U:L≤5)(hv:iS v=true)(h64:∀l,v= .tup l->l.all f6=true->Wk ((l.map fY).map (·.1))=true->(nz (qh L [] (l.map fY))).length<64):∃g,Wa a [.tup (F.map cP),.int L,v] st= .ok (.bl (jE F L v)) (st++g):=by
 have ei:=ZZ (a:=a) (st:=st) (jo hv);have Y:zn (qK (Qq a) (qA (qB 1) qD)) (QA 5 [.tup (F.map cP),.int L,v]) st= .nx (QA 5 [.tup (F.map cP),.int L,v]) st:=xp (qQ (l:=[.int L]) rfl (E9 h1 U));cases v with
 |tup l =>
  have M:(Nat.ble l.length 59&&l.all gQ)=true:=hv;rw[AY]at M;have hl:=C5 M.1;have e:=Ql (Kk:=[]) (n:=1) (fi:=qt (qB 2)) (g:=q5 0) (f:=qK (Q7 a) (qA (qB 0) qD)) (r:=QA 5 [.tup (F.map cP),.int L,.tup l]) (st:=st) (w:=⟨l,fun _=>True⟩) (F:=fun p=>.bl (f6 p)) (Q0 rfl) trivial (Wc (by show l.length≤_;omega)) fun p hp=>⟨[some p],rfl,qQ (l:=[p]) rfl (vk (Aw.mp M.2 p hp))⟩;have Z:=qQ (k:=yQ) (qM (wz e) qf) JV;have e1:=w_not (b:=true) (qo (qQ (k:=QU (kit a)) (fa:=qA (qB 2) (qA (vC (.ty "tuple")) qD)) (r:=QA 5 [.tup (F.map cP),.int L,.tup l]) (l:=[.tup l,.ty "tuple"]) rfl ei));show ∃g,_=Rs.ok (PV.bl (l.all f6&&(Wk ((l.map fY).map (·.1))&&Jh F L (l.map fY)))) (st++g);cases hs:l.all f6 with
  |false=>rw[hs]at Z;refine⟨[],?_⟩;rw[BJ];exact QJ rfl (qi Y (QP (Qu (Q1 e1 (w_not (b:=false) (qo Z))) (QW rfl))))
  |true =>
   rw[hs]at Z;have hb:=mI hs;have I:(l.map fY).length≤59:=by rw[AF];exact hl
   generalize O:l.map fY=sh at hb I;subst hb;have eb:=mW (sh:=sh) (f:=qB 2) (r:=QA 5 [.tup (F.map cP),.int L,.tup (sh.map sP)]) (st:=st) rfl I;have er:=IT (a:=a) (F:=sh.map (·.1)) (st:=st) (by rw[AF];omega);have e0:∀{R:RS} {G:FS},G (QA 5 [.tup (F.map cP),.int L,.tup (sh.map sP)]) st=R->qU (Q3 (ZV (Qt (QI (qK (QU (kit a)) (qA (qB 2) (qA (vC (.ty "tuple")) qD))))) (Qt (QI (qK yQ (qA (eI (QE [] 1 (qt (qB 2)) (q5 0) [] [] (qK (Q7 a) (qA (qB 0) qD)))) qD))))) (qg (vC (.bl false))) Qh) G (QA 5 [.tup (F.map cP),.int L,.tup (sh.map sP)]) st=R:=fun h=>qi (wE (Q1 e1 (w_not (b:=true) (qo Z))) rfl) h;cases hr:Wk (sh.map (·.1)) with
   |false=>rw[hr]at er;refine⟨[],?_⟩;rw[BJ];exact QJ rfl (qi Y (e0 (QP (Qu (w_not (b:=false) (qo (qQ (qM eb qf) er))) (QW rfl)))))
   |true =>
    rw[hr]at er;have hC:gX (qh L [] sh):=Zd Z7;have hn:(nz (qh L [] sh)).length<64:=by have:=h64 _ rfl hs (by rw[O];exact hr);rwa[O]at this
    have a0:=YY U (sh:=sh) (d:=[]);have ec:=uP (a:=a) (L:=L) (sh:=sh) (v:=.tup (sh.map sP)) (st:=st) (by omega) U (by omega) (.inl rfl);have ed:=DV (n:=st.length) (st:=st++[.d (dP (qh L [] sh))]) (d:=qh L [] sh) (r:=[some (.tup (F.map cP)),some (.int L),some (.tup (sh.map sP)),some (.ref st.length),none]) rfl (by simp) (by show _≤1000;have:([]:Dc).length=0:=rfl;omega);rw[vK hC.2]at ed;have a1:(fO (qh L [] sh)).length≤63:=by unfold fO;rw[AF];omega
    have eo:=tL (L:=L) (sh:=sh) (n:=st.length) (r:=[some (.tup (F.map cP)),some (.int L),some (.tup (sh.map sP)),some (.ref st.length),some (.lst ((fO (qh L [] sh)).map cP))]) (st:=st++[.d (dP (qh L [] sh))]) U I rfl rfl (by simp);refine⟨[.d (dP (qh L [] sh))],QJ rfl (qi Y (e0 (qi (wE (w_not (b:=true) (qo (qQ (qM eb qf) er))) rfl) (qi (WG (qQ (l:=[.tup (sh.map sP),.int L]) rfl ec)) (qi (WG (wz ed)) (QW ?_))))))⟩;have es:qN gEq (qK WO (qA (zP (qB 4)) qD)) (qB 0) [some (.tup (F.map cP)),some (.int L),some (.tup (sh.map sP)),some (.ref st.length),some (.lst ((fO (qh L [] sh)).map cP))] (st++[.d (dP (qh L [] sh))])= .ok (.bl (decide (zW (fO (qh L [] sh))=F))) (st++[.d (dP (qh L [] sh))]):=qW (qQ (qM (xN rfl (sU rfl a1)) qf) (yI rfl)) rfl sF;show _=Rs.ok (PV.bl (decide (zW (fO (qh L [] sh))=F)&&(fO (qh L [] sh)).all fun c=>decide (eG L sh c=1))) _;cases hq:decide (zW (fO (qh L [] sh))=F) with|false=>rw[hq]at es;exact zS es|true=>rw[hq]at es;rw[DB];exact yo es eo
 |_=>refine⟨[],?_⟩;rw[BJ];exact QJ rfl (qi Y (QP (Qu (ZM (w_not (b:=false) (qo (qQ rfl ei)))) (QW rfl))))
def l0:∀l:KQ Bar,QV YF (l.map bP)=some (l.map bL)|[]=>rfl|c::l=>by rw[AM,QV,show YF (bP c)=some (bL c) from rfl];dsimp only;rw[l0 l];rfl
def rO:∀a b:KQ Int,ft (a.map PV.int) (b.map PV.int)=decide (a=b)|[],[]=>rfl|[],_::_=>rfl|_::_,[]=>rfl|x::a,y::b=>by rw[AM,AM,ft,rO a b];show ((x==y)&&decide (a=b))=_;rw[Bq,AY,Be,Ay,Ay,List.cons.injEq]
def p9:∀A B:KQ (KQ Int),ft (A.map wL) (B.map wL)=decide (A=B)|[],[]=>rfl|[],_::_=>rfl|_::_,[]=>rfl|x::A,y::B=>by rw[AM,AM,ft,p9 A B];show (ft (x.map PV.int) (y.map PV.int)&&decide (A=B))=_;rw[rO,Bq,AY,Ay,Ay,Ay,List.cons.injEq]
def qP(x:qZ×Int):PV:=.tup [cP x.1,.int x.2]
def mM:∀A B:KQ (qZ×Int),ft (A.map qP) (B.map qP)=decide (A=B)|[],[]=>rfl|[],_::_=>rfl|_::_,[]=>rfl|x::A,y::B=>by rw[AM,AM,ft,mM A B];show ((e9 (cP x.1) (cP y.1)&&((x.2==y.2)&&true))&&decide (A=B))=_;rw[l8,Cs,Bq,AY,AY,Be,Ay,Ay,Ay,List.cons.injEq];exact⟨fun⟨⟨F,M⟩,I⟩=>⟨DP F M,I⟩,fun⟨F,I⟩=>⟨⟨by rw[F],by rw[F]⟩,I⟩⟩
def og:∀a:KQ Int,gp (a.map PV.int)=true|[]=>rfl|x::a=>by rw[AM,gp,og a];rfl
def lR:∀A:KQ (KQ Int),gp (A.map wL)=true|[]=>rfl|x::A=>by rw[AM,gp,lR A,Cs];exact og x
def pL:∀A:KQ (KQ Int),eL (A.map wL)≤1
 |[]=>Au _
 |x::A=>by
  rw[AM,eL];have h:=pL A;have F:fG (wL x)=1:=by unfold wL;rw[fG,Yt]
  omega
def lh:∀A:KQ (qZ×Int),gp (A.map qP)=true|[]=>rfl|x::A=>by rw[AM,gp,lh A];rfl
def rb:∀A:KQ (qZ×Int),eL (A.map qP)≤2|[]=>Au _|x::A=>by rw[AM,eL];have h:=rb A;have F:fG (qP x)=2:=rfl;omega
def rl{A B:KQ (KQ Int)}{st:qC}:gEq (.lst (A.map wL)) (.lst (B.map wL)) st= .ok (.bl (decide (A=B))) st:=by
 have F:yn (.lst (A.map wL)) (.lst (B.map wL))=true:=by show (gp (A.map wL)&&gp (B.map wL)&&decide (eL (A.map wL)+1≤yZ))=true;rw[lR,lR,AS (Ab (C9 (pL A)) (by decide))];rfl
 show (if yn (.lst (A.map wL)) (.lst (B.map wL))=true then Rs.ok (PV.bl (ft (A.map wL) (B.map wL))) st else Rs.no)=_;rw[AE F,p9]
def Hv{A B:KQ (qZ×Int)}{st:qC}:gEq (.lst (A.map qP)) (.lst (B.map qP)) st= .ok (.bl (decide (A=B))) st:=by
 have F:yn (.lst (A.map qP)) (.lst (B.map qP))=true:=by show (gp (A.map qP)&&gp (B.map qP)&&decide (eL (A.map qP)+1≤yZ))=true;rw[lh,lh,AS (Ab (C9 (rb A)) (by decide))];rfl
 show (if yn (.lst (A.map qP)) (.lst (B.map qP))=true then Rs.ok (PV.bl (ft (A.map qP) (B.map qP))) st else Rs.no)=_;rw[AE F,mM]
def nO{bs:KQ Bar}:bs.map bP=(bs.map bL).map wL:=by rw[Ah];rfl
def HC{bs:KQ Bar}{r:ql}{st:qC}(F:r[4]? = some (some (.lst (bs.map bP))))(I:bs.length≤59):qN gEq (qB 4) (yX (qB 4)) r st= .ok (.bl (Wk bs)) st:=by
 have hs:Y3 (.lst (bs.map bP)) st= .ok (.lst ((fm (gf (bs.map bL))).map wL)) st:=by have hd:=j7 (bs.map bL) [];rw[AF]at hd;have hd:(gf (bs.map bL)).length≤0+bs.length:=hd;unfold Y3;show (match QV YF (bs.map bP) with|some Kj=>_|none=>_)=_;rw[l0];dsimp only;rw[AE (by rw[AF];omega)]
 rw[EE];refine qW (wo F) (vO (wo F) hs) ?_;rw[nO];exact rl
def lL{L:Int}{sh:KQ Sh}:(ku L sh).map gZ=((zW (fO (qh L [] sh))).map fun c=>(c,eG L sh c)).map qP:=by rw[JF,Ah,Ah];exact Ai fun c _=>rfl
def oF{a:Ad}{st:qC}{x0 x1 x2 x4:KW PV}:∀(l:KQ PV) (x3:KW PV),(∀p∈l,gQ p=true)->(l.all f6=true->∃I,Qf (fun _=>True) (q9 3) (JQ a) l [x0,x1,x2,x3,x4] st= .nx [x0,x1,x2,I,x4] st)∧(l.all f6=false->Qf (fun _=>True) (q9 3) (JQ a) l [x0,x1,x2,x3,x4] st= .rt (.bl false) st)
 |[],x3,_=>⟨fun _=>⟨x3,wR trivial⟩,fun h=>by cases h⟩
 |p::l,x3,h=>by
  have es:=tT (a:=a) (v:=p) (st:=st) (h p AI);obtain⟨M,O⟩:=oF (a:=a) (st:=st) (x0:=x0) (x1:=x1) (x2:=x2) (x4:=x4) l (some p) fun q R=>h q (AH _ R);rw[List.all_cons];cases hs:f6 p with|true=>rw[hs]at es;have e:JQ a [x0,x1,x2,some p,x4] st= .nx [x0,x1,x2,some p,x4] st:=wE (w_not (b:=true) (qo (qQ (l:=[p]) rfl es))) rfl;rw[DB];exact⟨fun F=>(let ⟨I,U⟩:=M F;⟨I,zu trivial rfl e U⟩),fun F=>zu trivial rfl e (O F)⟩|false=>rw[hs]at es;rw[Ci];exact⟨(fun F=>by cases F),fun _=>Df trivial rfl (Qu (w_not (b:=false) (qo (qQ (l:=[p]) rfl es))) (QW rfl))⟩
def u7{F:KQ qZ}{f:FE}{r:ql}{st:qC}(I:f r st= .ok (.tup (F.map cP)) st)(O:F.length≤1000):eI (QE [] 1 (qt f) (q5 0) [] [] (qz (qA (qB 0) (qA (vC (.int 1)) qD)))) r st= .ok (.lst ((F.map fun c=>(c,(1:Int))).map qP)) st:=by
 have e:=Ql (Kk:=[]) (n:=1) (fi:=qt f) (g:=q5 0) (f:=qz (qA (qB 0) (qA (vC (.int 1)) qD))) (r:=r) (st:=st) (w:=⟨F.map cP,fun _=>True⟩) (F:=fun p=>.tup [p,.int 1]) (Q0 I) trivial (by show (F.map cP).length≤_;rw[AF];exact Wc (by omega)) fun p R=>⟨[some p],rfl,zA (qM rfl (qM rfl qf)) (sz rfl)⟩;have M:(F.map cP).map (fun p=>PV.tup [p,.int 1])=(F.map fun c=>(c,(1:Int))).map qP:=by rw[Ah,Ah];exact Ai fun c _=>rfl
 rw[←M];exact wz e
def sT{t:qZ->Int}{A F:KQ qZ}:decide ((A.map fun c=>(c,t c))=F.map fun c=>(c,(1:Int)))=decide ((A.map fun c=>cL c++[t c])=F.map fun c=>cL c++[1]):=by
 refine decide_eq_decide.mpr ?_;rw[fX];constructor
 ·intro h;have M:A=F:=by
   have:=CK (List.map (·.1)) h
   rw[Ah,Ah]at this;exact ((Cf A).symm.trans this).trans (Cf F)
  subst M;refine⟨rfl,fun c I=>?_⟩
  have:=List.map_inj_left.mp h c I
  injection this
 ·rintro⟨rfl,h⟩;exact Ai fun c I=>by rw[h c I]
def IF{a:Ad}{F:KQ qZ}{L:Int}{v:PV}{st:qC}(h1:2≤L)(h2:L≤5)(hF:F.length≤1000)(Z:iS v=true)(h64:∀l,v= .tup l->l.all f6=true->Wk ((l.map fY).map (·.1))=true->(nz (qh L [] (l.map fY))).length<64):∃g,wA a [.tup (F.map cP),.int L,v] st= .ok (.bl (jE F L v)) (st++g):=by
 have ei:=ZZ (a:=a) (st:=st) (jo Z);cases v with
 |tup l =>
  have M:(Nat.ble l.length 59&&l.all gQ)=true:=Z;rw[AY]at M;have hl:=C5 M.1;obtain⟨i1,i2⟩:=oF (a:=a) (st:=st) (x0:=some (.tup (F.map cP))) (x1:=some (.int L)) (x2:=some (.tup l)) (x4:=none) l none (Aw.mp M.2);have e0:Q3 (Qt (QI (qK (QU (kit a)) (qA (qB 2) (qA (vC (.ty "tuple")) qD))))) (qg (vC (.bl false))) Qh (QA 5 [.tup (F.map cP),.int L,.tup l]) st= .nx (QA 5 [.tup (F.map cP),.int L,.tup l]) st:=wE (w_not (b:=true) (qo (qQ (l:=[.tup l,.ty "tuple"]) rfl ei))) rfl;show ∃g,_=Rs.ok (PV.bl (l.all f6&&(Wk ((l.map fY).map (·.1))&&Jh F L (l.map fY)))) (st++g);cases hs:l.all f6 with
  |false=>refine⟨[],?_⟩;rw[BJ];exact QJ rfl (qi e0 (QP (Zk (Q0 rfl) (i2 hs))))
  |true =>
   obtain⟨U,el⟩:=i1 hs;have hb:=mI hs;have I:(l.map fY).length≤59:=by rw[AF];exact hl
   generalize O:l.map fY=sh at hb I;subst hb;have eb:=mW (sh:=sh) (f:=qB 2) (r:=[some (.tup (F.map cP)),some (.int L),some (.tup (sh.map sP)),U,none]) (st:=st) rfl I;have R:=HC (bs:=sh.map (·.1)) (r:=[some (.tup (F.map cP)),some (.int L),some (.tup (sh.map sP)),U,some (.lst ((sh.map (·.1)).map bP))]) (st:=st) rfl (by rw[AF];exact I);have go:∀{g:qC} {b:Bool},ZO (qN gEq (qB 4) (yX (qB 4))) (qN gEq (qK (qu a) (qA (qB 2) (qA (qB 1) qD))) (eI (QE [] 1 (qt (qB 0)) (q5 0) [] [] (qz (qA (qB 0) (qA (vC (.int 1)) qD)))))) [some (.tup (F.map cP)),some (.int L),some (.tup (sh.map sP)),U,some (.lst ((sh.map (·.1)).map bP))] st= .ok (.bl b) (st++g)->wA a [.tup (F.map cP),.int L,.tup (sh.map sP)] st= .ok (.bl b) (st++g):=fun h=>QJ rfl (qi e0 (qi (Zk (Q0 rfl) el) (qi (WG eb) (QW h))));cases Y:Wk (sh.map (·.1)) with
   |false=>rw[Y]at R;refine⟨[],go ?_⟩;rw[BJ];exact zS R
   |true =>
    rw[Y]at R;have hn:(nz (qh L [] sh)).length<64:=by have:=h64 _ rfl hs (by rw[O];exact Y);rwa[O]at this
    have et:=ZR (a:=a) (L:=L) (sh:=sh) (v:=.tup (sh.map sP)) (st:=st) (by omega) h2 (by omega) hn (.inl rfl);refine⟨[.d (dP (qh L [] sh))],go (yo R ?_)⟩;rw[lL]at et;refine (qW (qQ (l:=[.tup (sh.map sP),.int L]) rfl et) (u7 rfl hF) Hv).trans ?_;rw[sT,←JF,Iv,DB,DB]
 |_=>refine⟨[],?_⟩;rw[BJ];exact QJ rfl (QP (Qu (w_not (b:=false) (qo (qQ rfl ei))) (QW rfl)))
def xY{a:Ad}{F L v z:PV}{st s1:qC}(e:Wa a [F,L,v] st= .ok z s1):QQ a [F,L,v] st= .ok z s1 :=
 QJ rfl (Fv (QW (qQ (l:=[F,L,v]) rfl e)))
def tN{a:Ad}(hd:fW a){F u v:PV}{st:qC}(I:wZ u=true)(M:QN 2 5 u=false):QQ a [F,u,v] st= .ok (.str "! length") st:=by
 have O:Qq a [u] st= .ex ⟨a.Z1,[]⟩ st:=by rw[Zh I,M];rfl
 have es:Wa a [F,u,v] st= .ex ⟨a.Z1,[]⟩ st:=F1 rfl (tJ (Ex (qQ (l:=[u]) rfl O)));exact QJ rfl (xq (Ds (qQ (l:=[F,u,v]) rfl es)) (by unfold wD;simp) (QW (qQ (l:=[.exc a.Z1 []]) rfl (xi hd))))
def jC{a:Ad}{F:KQ qZ}{L:Int}{v:PV}{st:qC}(I:2≤L)(M:L≤5)(O:iS v=true)(h64:∀l,v= .tup l->l.all f6=true->Wk ((l.map fY).map (·.1))=true->(nz (qh L [] (l.map fY))).length<64):∃g,QQ a [.tup (F.map cP),.int L,v] st= .ok (.bl (jE F L v)) (st++g):=by obtain⟨g,e⟩:=vX (a:=a) (F:=F) (L:=L) (v:=v) (st:=st) I M O h64;exact⟨g,xY e⟩
def Jr{a:Ad}{st:qC}{n:Nat}{x:Bool}:Qg (n+1) a [.bl x,.bl x] st= .ok (.bl true) st:=by refine QJ (N:=2) (B:=Zy a (Qg n a)) rfl ?_;unfold Zy;refine qi (wE (qo (qQ (l:=[.bl x,.tup [.ty "tuple",.ty "list"]]) rfl rfl)) rfl) (QW ?_);cases x <;> rfl
def Qo{L:Int}{s:Sh}{sh:KQ Sh}{c:qZ}:eG L (s::sh) c=s.2*((eM L s.1).count c:Int)+eG L sh c:=by unfold eG;rw[AM,List.sum_cons]
def Zb{L:Int}{B:KQ Sh}{c:qZ}:∀{A:KQ Sh},eG L (A++B) c=eG L A c+eG L B c|[]=>by show eG L B c=0+eG L B c;omega|s::A=>by rw[List.cons_append,Qo,Qo,Zb];omega
def mV{L:Int}{c:qZ}{A B:KQ Sh}(h:A.Perm B):eG L A c=eG L B c:=by
 induction h with|nil=>rfl|cons x _ F=>rw[Qo,Qo,F]|swap x y l=>rw[Qo,Qo,Qo,Qo];omega|trans _ _ I M=>exact I.trans M
def lT{L:Int}{c:qZ}:∀{A:KQ Sh},eG L (A.filter fun s=>decide (s.2≠0)) c=eG L A c
 |[]=>rfl
 |s::A=>by
  rw[List.filter_cons,Qo];by_cases h:s.2=0;rw[AD (by simp[h]),lT,h];omega;rw[AE (by simp[h]),Qo,lT]
def QC(d:Dc):KQ Sh:=d.map fun e=>(lB e.1,e.2)
def pX{k:KQ Int}:∀{d:Dc},k∉d.map (·.1)->QX d k=0|[],_=>rfl|e::d,h=>by rw[AM,AK,not_or]at h;rw[W1,AD (fun z=>h.1 z.symm),pX h.2]
def pZ{L:Int}{c:qZ}{k:KQ Int}{v:Int}:∀{d:Dc},(d.map (·.1)).Nodup->k∈d.map (·.1)->eG L (QC (d.map fun e=>if e.1=k then (e.1,v) else e)) c=eG L (QC d) c+(v-QX d k)*((eM L (lB k)).count c:Int)
 |[],_,h=>by cases h
 |e::d,O,h=>by
  rw[AM]at O;have I:=Bd.mp O;have R:QC ((e::d).map fun e=>if e.1=k then (e.1,v) else e)=(lB (if e.1=k then (e.1,v) else e).1,(if e.1=k then (e.1,v) else e).2)::QC (d.map fun e=>if e.1=k then (e.1,v) else e):=rfl;have U:QC (e::d)=(lB e.1,e.2)::QC d:=rfl;rw[R,U,Qo,Qo,W1];by_cases F:e.1=k
  ·have M:k∉d.map (·.1):=F ▸ I.1;have Y:(d.map fun e=>if e.1=k then (e.1,v) else e)=d:=by refine (Ai fun x Z=>?_).trans (Cf d);show (if x.1=k then (x.1,v) else x)=x;rw[AD (fun z=>M (AZ.mpr ⟨x,Z,z⟩))]
   rw[Y,AE F,AE F,Int.sub_mul];show v*((eM L (lB e.1)).count c:Int)+_=e.2*((eM L (lB e.1)).count c:Int)+_+_;rw[F];omega
  ·have M:k∈d.map (·.1):=by rw[AM,AK]at h;exact h.elim (fun z=>absurd z.symm F) id
   rw[AD F,AD F,pZ I.2 M];show e.2*((eM L (lB e.1)).count c:Int)+_=e.2*((eM L (lB e.1)).count c:Int)+_+_;omega
def lj{L:Int}{c:qZ}{k:KQ Int}{v:Int}{d:Dc}(O:(d.map (·.1)).Nodup):eG L (QC (zO d k v)) c=eG L (QC d) c+(v-QX d k)*((eM L (lB k)).count c:Int):=by
 unfold zO;have h:(d.any fun e=>decide (e.1=k))=true ↔ k∈d.map (·.1):=by rw[List.any_eq_true,AZ];exact⟨fun⟨e,I,M⟩=>⟨e,I,Az M⟩,fun⟨e,I,M⟩=>⟨e,I,AS M⟩⟩
 by_cases F:k∈d.map (·.1);rw[AE (h.mpr F)];exact pZ O F
 ·rw[AD (fun z=>F (h.mp z)),pX F];have e:QC (d++[(k,v)])=QC d++[(lB k,v)]:=by unfold QC;rw[BK];rfl
  rw[e,Zb,Qo,Int.sub_zero];show _+(v*((eM L (lB k)).count c:Int)+0)=_;omega
def rj{L:Int}{c:qZ}{k:KQ Int}{t:Int}{d:Dc}(F:(d.map (·.1)).Nodup):eG L (QC (ZG d k t)) c=eG L (QC d) c+t*((eM L (lB k)).count c:Int):=by unfold ZG;rw[lj F,show QX d k+t-QX d k=t by omega]
def HP{L:Int}:(WH L).Nodup:=by unfold WH;exact C4 _ (fun a b h z=>h (Int.ofNat.inj z)) List.nodup_range
def hH{L:Int}{b:Bar}:(eM L b).Nodup:=by
 unfold eM Zo;refine C4 _ (fun x y h z=>h ?_) HP;by_cases F:b.2.2=0;rw[AE F,AE F]at z;injection z with _ z;omega;rw[AD F,AD F]at z;injection z with z _;omega
def gJ{L:Int}{b:Bar}{x:qZ}:x∈eM L b ↔ (b.2.2=0∧x.1=b.1∧b.2.1≤x.2∧x.2<b.2.1+L)∨(b.2.2≠0∧x.2=b.2.1∧b.1≤x.1∧x.1<b.1+L):=by
 unfold eM Zo;rw[AZ];constructor
 ·rintro⟨k,M,rfl⟩;rw[fJ]at M;by_cases F:b.2.2=0;rw[AE F];exact .inl ⟨F,rfl,by show _≤b.2.1+k;omega,by show b.2.1+k<_;omega⟩;rw[AD F];exact .inr ⟨F,rfl,by show _≤b.1+k;omega,by show b.1+k<_;omega⟩
 ·rintro (⟨F,I,O,R⟩|⟨F,I,O,R⟩);exact⟨x.2-b.2.1,fJ.mpr (by omega),by rw[AE F];exact DP I.symm (by show b.2.1+(x.2-b.2.1)=x.2;omega)⟩;exact⟨x.1-b.1,fJ.mpr (by omega),by rw[AD F];exact DP (by show b.1+(x.1-b.1)=x.1;omega) I.symm⟩
def JI{L:Int}{b:Bar}{x:qZ}:((eM L b).count x:Int)=if x∈eM L b then 1 else 0:=by rw[hH.count];split <;> rfl
def jX(L r c:Int)(x:qZ):Nat->Int|0=>0|n+1=>jX L r c x n+((eM L (r+n,c,0)).count x:Int)
def jk(L r c:Int)(x:qZ):Nat->Int|0=>0|n+1=>jk L r c x n+((eM L (r,c+n,1)).count x:Int)
def oU{L r c:Int}{x:qZ}:∀n:Nat,jX L r c x n=if r≤x.1∧x.1<r+n∧c≤x.2∧x.2<c+L then 1 else 0
 |0=>by rw[AD (by omega)];rfl
 |n+1=>by
  rw[jX,oU n,JI];have h:x∈eM L (r+n,c,0) ↔ x.1=r+n∧c≤x.2∧x.2<c+L:=by rw[gJ];exact⟨fun h=>h.elim (fun z=>z.2) (fun z=>absurd rfl z.1),fun h=>.inl ⟨rfl,h⟩⟩
  by_cases F:x∈eM L (r+n,c,0);have M:=h.mp F;rw[AE F,AD (by omega),AE (by omega)];rfl
  ·rw[AD F];by_cases I:r≤x.1∧x.1<r+n∧c≤x.2∧x.2<c+L;rw[AE I,AE (by omega)];rfl;rw[AD I,AD (fun z=>F (h.mpr (by omega)))];rfl
def pW{L r c:Int}{x:qZ}:∀n:Nat,jk L r c x n=if c≤x.2∧x.2<c+n∧r≤x.1∧x.1<r+L then 1 else 0
 |0=>by rw[AD (by omega)];rfl
 |n+1=>by
  rw[jk,pW n,JI];have h:x∈eM L (r,c+n,1) ↔ x.2=c+n∧r≤x.1∧x.1<r+L:=by rw[gJ];exact⟨fun h=>h.elim (fun z=>absurd z.1 (show ¬(1:Int)=0 by decide)) (fun z=>z.2),fun h=>.inr ⟨show ¬(1:Int)=0 by decide,h⟩⟩
  by_cases F:x∈eM L (r,c+n,1);have M:=h.mp F;rw[AE F,AD (by omega),AE (by omega)];rfl
  ·rw[AD F];by_cases I:c≤x.2∧x.2<c+n∧r≤x.1∧x.1<r+L;rw[AE I,AE (by omega)];rfl;rw[AD I,AD (fun z=>F (h.mpr (by omega)))];rfl
def Ef{L r c:Int}{x:qZ}(h:0≤L):jX L r c x L.toNat=jk L r c x L.toNat:=by
 rw[oU,pW];by_cases F:r≤x.1∧x.1<r+L.toNat∧c≤x.2∧x.2<c+L;rw[AE F,AE (by omega)];rw[AD F,AD (by omega)]
def ig(b:Bar):Prop:= -9≤b.1∧b.1≤30∧ -9≤b.2.1∧b.2.1≤30∧(b.2.2=0∨b.2.2=1)
structure BD (d:Dc) (m B:Nat):Prop where
 nd:(d.map (·.1)).Nodup
 bar:∀e∈d,∃b:Bar,e.1=bL b∧ig b
 val:∀e∈d,e.2.natAbs≤B
 len:d.length≤m
def xA{B:Nat}:BD [] 0 B:=⟨Cj,(fun _ h=>by cases h),(fun _ h=>by cases h),AG _⟩
def JG{d:Dc}{k:KQ Int}{v:Int}{e:KQ Int×Int}(h:e∈zO d k v):e∈d∨e=(k,v):=by
 unfold zO at h;split at h
 ·obtain⟨x,I,rfl⟩:=AZ.mp h;by_cases F:x.1=k;rw[AE F,F];exact .inr rfl;rw[AD F];exact .inl I
 ·rcases At.mp h with z|z
  ·exact .inl z
  ·exact .inr (Af.mp z)
def BD.put{d:Dc}{m B:Nat}{b:Bar}{v:Int}(I:BD d m B)(M:ig b)(O:v.natAbs≤B):BD (zO d (bL b) v) (m+1) B:=by
 refine⟨nU I.nd,fun e F=>?_,fun e F=>?_,Ab n9 (C9 I.len)⟩
 ·rcases JG F with z|rfl
  ·exact I.bar e z
  ·exact⟨b,rfl,M⟩
 ·rcases JG F with z|rfl
  ·exact I.val e z
  ·exact O
def BD.mono{d:Dc}{m B m' F:Nat}(I:BD d m B)(M:m≤m')(O:B≤F):BD d m' F:=⟨I.nd,I.bar,fun e R=>Ab (I.val e R) O,Ab I.len M⟩
def BD.get{d:Dc}{m B:Nat}{k:KQ Int}(I:BD d m B):(QX d k).natAbs≤B:=by
 unfold QX;cases h:d.find? fun e=>decide (e.1=k) with|none=>exact Au _|some e=>exact I.val e (List.mem_of_find?_eq_some h)
def BD.add{d:Dc}{m B:Nat}{b:Bar}{t:Int}(I:BD d m B)(F:ig b)(M:t.natAbs≤7):BD (ZG d (bL b) t) (m+1) (B+7):=by
 refine BD.put (I.mono (AG _) (by omega)) F ?_
 have:=I.get (k:=bL b)
 omega
def pI{d:Dc}(F:(d.map (·.1)).Nodup){e:KQ Int×Int}(he:e∈d):QX d e.1=e.2:=by unfold QX;rw[zg F he];rfl
def i0(d:Dc)(K:KQ (KQ Int)):KQ Sh:=K.map fun k=>(lB k,QX d k)
def vH{d:Dc}(F:(d.map (·.1)).Nodup):i0 d (d.map (·.1))=QC d:=by unfold i0 QC;rw[Ah];refine Ai fun e I=>?_;show (lB e.1,QX d e.1)=_;rw[pI F I]
def gP(d:Dc):KQ Sh:=(i0 d (fm (d.map (·.1)))).filter fun s=>decide (s.2≠0)
def HL{L:Int}{c:qZ}{d:Dc}(F:(d.map (·.1)).Nodup):eG L (gP d) c=eG L (QC d) c:=by unfold gP;rw[lT,←vH F];exact mV ((QO _).map _)
def p8:∀{l:KQ Bar},(l.Pairwise fun b c=>zM b c=true)->Wk l=true|[],_=>rfl|[_],_=>rfl|b::c::l,h=>by show (zM b c&&Wk (c::l))=true;rw[(Bm.mp h).1 c AI,p8 (Bm.mp h).2];rfl
def Za{d:Dc}{m B:Nat}(I:BD d m B){k:KQ Int}(h:k∈fm (d.map (·.1))):∃b:Bar,k=bL b∧ig b:=by obtain⟨e,F,rfl⟩:=AZ.mp ((QO _).mem_iff.mp h);exact I.bar e F
def tV{d:Dc}{m B:Nat}(I:BD d m B):Wk ((gP d).map (·.1))=true:=by
 have F:(fm (d.map (·.1))).Pairwise fun a b=>fj b a=false:=Wx _;have M:(fm (d.map (·.1))).Nodup:=((QO _).nodup_iff).mpr I.nd;have O:(fm (d.map (·.1))).Pairwise fun k U=>zM (lB k) (lB U)=true:=(F.and M).imp_of_mem fun {x y} Y Z h=>by obtain⟨b,rfl,_⟩:=Za I Y;obtain⟨b',rfl,_⟩:=Za I Z;exact Hu (b:=b) (c:=b') h.1 fun z=>h.2 (by rw[z])
 refine p8 ?_;unfold gP;refine C4 _ (R:=fun (s s':Sh)=>zM s.1 s'.1=true) (fun _ _ h=>h) (List.Pairwise.filter _ ?_);exact C4 _ (fun _ _ h=>h) O
def I9{d:Dc}{m B:Nat}(I:BD d m B){s:Sh}(h:s∈gP d):ig s.1∧s.2≠0∧s.2.natAbs≤B:=by unfold gP at h;obtain⟨F,M⟩:=Bj.mp h;obtain⟨k,O,rfl⟩:=AZ.mp F;obtain⟨b,rfl,R⟩:=Za I O;exact⟨R,Az M,I.get⟩
def na(l:KQ (KQ Int)):(fm l).length=l.length:=(QO l).length_eq
def E6{d:Dc}{m B:Nat}(I:BD d m B):(gP d).length≤m:=by unfold gP;refine Ab (Ca _ _) ?_;unfold i0;rw[AF,na,AF];exact I.len
def JX{L:Int}{c:qZ}:∀{A:KQ Sh},eG L A c≠0->c∈A.flatMap fun s=>eM L s.1
 |[],h=>absurd rfl h
 |s::A,h=>by
  rw[C3,At];by_cases F:c∈eM L s.1;exact .inl F;rw[Qo,List.count_eq_zero_of_not_mem F]at h;exact .inr (JX fun z=>h (by rw[z];show s.2*0+0=0;omega))
def Yf{L:Int}(h:L≤5):∀{A:KQ Sh},(A.flatMap fun s=>eM L s.1).length≤5*A.length
 |[]=>AG _
 |s::A=>by
  have F:=Yf h (A:=A);have I:(eM L s.1).length≤5:=by rw[JM];omega
  rw[C3,Ac,AO];omega
def jI{L:Int}{sh:KQ Sh}{C:KQ qZ}(M:C.length<64)(h:∀c,eG L sh c≠0->c∈C):(nz (qh L [] sh)).length<64:=by have F:=(l5 (L:=L) (sh:=sh)).length_le_of_subset (l₂:=C) fun c I=>h c (fK.mp I);unfold fO at F;rw[AF]at F;omega
def uc{L:Int}{c:qZ}{sh X:KQ Sh}{i:Nat}:eG L (sh.take i++X++sh.drop (i+1)) c=eG L sh c-eG L ((sh.drop i).take 1) c+eG L X c:=by
 have F:eG L sh c=eG L (sh.take i) c+eG L (sh.drop i) c:=by rw[←Zb,CW]
 have I:eG L (sh.drop i) c=eG L ((sh.drop i).take 1) c+eG L (sh.drop (i+1)) c:=by rw[←List.drop_drop,←Zb,CW]
 rw[Zb,Zb];omega
def uS{L:Int}{sh X:KQ Sh}{C:KQ qZ}{i:Nat}(F:L≤5)(R:C.length≤30)(U:X.length≤2)(h:∀c,eG L sh c≠0->c∈C):(nz (qh L [] (sh.take i++X++sh.drop (i+1)))).length<64:=by
 refine jI (C:=C++((((sh.drop i).take 1).flatMap fun s=>eM L s.1)++X.flatMap fun s=>eM L s.1)) ?_ fun c O=>?_
 ·have I:=Yf F (A:=(sh.drop i).take 1);have M:=Yf F (A:=X);have Y:((sh.drop i).take 1).length≤1:=by rw[BX];exact Nat.min_le_left _ _
  rw[Ac,Ac];omega
 ·rw[uc]at O;rw[At,At];by_cases I:eG L sh c=0
  ·by_cases M:eG L X c=0;exact .inr (.inl (JX (by omega)));exact .inr (.inr (JX M))
  ·exact .inl (h c I)
def Sz(p:PV)(k m:Nat):Prop:=∃d,Zg p=some d∧d.showable=true∧d.depth≤k∧d.shown.length≤m
def Sz.mono{p:PV}{k m k' m':Nat}(h:Sz p k m)(F:k≤k')(I:m≤m'):Sz p k' m':=by obtain⟨d,M,O,R,U⟩:=h;exact⟨d,M,O,Ab R F,Ab U I⟩
def Eb{i:Int}(h:i.natAbs<2 ^ 200):(PyData.int i).shown.length≤300:=by
 rw[PyData.shown_int];cases i with
 |ofNat n=>have h:n<2 ^ 200:=h;show (Str.ofString (Nat.repr n)).length≤300;rw[PySem.ofString_length];exact Ab (nat_repr_length_le (k:=200) (by decide) h) (by decide)
 |negSucc n =>
  have h:n+1<2 ^ 200:=h;show (Str.ofString ("-" ++ Nat.repr (n+1))).length≤300;rw[PySem.ofString_length,String.length_append]
  have:=nat_repr_length_le (k:=200) (by decide) h
  show 1+_≤300;omega
def EB{i:Int}(h:i.natAbs<2 ^ 200):(PyData.int i).showable=true:=by
 rw[PyData.showable.eq_4];refine AS ?_;by_cases F:i.natAbs=0;rw[F];decide;exact DH ((Nat.log2_lt F).mpr h) (by decide)
def pD{i:Int}(h:i.natAbs<2 ^ 200):Sz (.int i) 0 300:=⟨.int i,rfl,EB h,Au _,Eb h⟩
def iA{b:Bool}:Sz (.bl b) 0 300:=⟨.bool b,rfl,rfl,Au _,by cases b <;> decide⟩
def hW:Sz .non 0 300:=⟨.none,rfl,rfl,Au _,by decide⟩
def gN:Sz (.str "0") 0 300:=⟨.str "0",rfl,rfl,Au _,by decide +kernel⟩
def lm{k m:Nat}:∀{l:KQ PV},(∀p∈l,Sz p k m)->∃F,fQ l=some F∧PyData.showableAll F=true∧PyData.depthAll F≤k∧((PyData.shownAll F).map fun x=>x.length).sum≤m*l.length∧(PyData.shownAll F).length=l.length
 |[],_=>⟨[],rfl,rfl,Au _,Au _,rfl⟩
 |p::l,h=>by
  obtain⟨F,I,M,Z,h4,O⟩:=lm fun q R=>h q (AH _ R);obtain⟨d,U,Y,e3,e4⟩:=h p AI;refine⟨d::F,?_,?_,?_,?_,?_⟩;unfold fQ;rw[U,I];rw[PyData.showableAll.eq_2,Y,M];rfl;rw[PyData.depthAll.eq_2];omega;rw[PyData.shownAll.eq_2,AM,List.sum_cons,AO,Nat.mul_succ];omega;rw[PyData.shownAll.eq_2,AO,AO,O]
def yi{k m:Nat}{l:KQ PV}(h:∀p∈l,Sz p k m):Sz (.tup l) (k+1) (m*l.length+2*l.length+3):=by
 obtain⟨F,I,M,R,U,O⟩:=lm h;refine⟨.tuple F,by unfold Zg;rw[I];rfl,by rw[PyData.showable.eq_6];exact M,by show PyData.depthAll F+1≤_;omega,?_⟩;rw[PyData.shown.eq_6];refine Ab (tupleText_len_le _) ?_;rw[O];omega
def mr{k m:Nat}{l:KQ PV}(h:∀p∈l,Sz p k m):Sz (.lst l) (k+1) (m*l.length+2*l.length+3):=by
 obtain⟨F,I,M,R,U,O⟩:=lm h;refine⟨.list F,by unfold Zg;rw[I];rfl,by rw[PyData.showable.eq_5];exact M,by show PyData.depthAll F+1≤_;omega,?_⟩;rw[PyData.shown.eq_5];refine Ab (listText_len_le _) ?_;rw[O];omega
def vx{l:KQ PV}{k m:Nat}(h:Sz (.tup l) k m)(F:k≤60)(I:m≤10000000):∃t,iC (.tup l)=some t:=by obtain⟨d,M,O,R,U⟩:=h;refine⟨d.shown,?_⟩;show (Zg (.tup l)).bind gU=_;rw[M];show gU d=_;unfold gU;exact AE ⟨O,Ab R F,Ab U (Ab I (by decide))⟩
def sR{l:KQ PV}{k m:Nat}(h:Sz (.lst l) k m)(F:k≤60)(I:m≤10000000):∃t,iC (.lst l)=some t:=by obtain⟨d,M,O,R,U⟩:=h;refine⟨d.shown,?_⟩;show (Zg (.lst l)).bind gU=_;rw[M];show gU d=_;unfold gU;exact AE ⟨O,Ab R F,Ab U (Ab I (by decide))⟩
structure Pt (p:PV):Prop where
 ok:gQ p=true
 sz:Sz p 3 4000
structure Thg (L:Int) (v:PV):Prop where
 ok:iS v=true
 rp:∃t,iC v=some t
 few:∀l,v= .tup l->l.all f6=true->(nz (qh L [] (l.map fY))).length<64
def YU{L:Int}{l:KQ PV}(M:l.length≤59)(h:∀p∈l,Pt p)(O:l.all f6=true->(nz (qh L [] (l.map fY))).length<64):Thg L (.tup l):=by
 refine⟨?_,?_,fun m F=>by injection F with F;rw[←F];exact O⟩;show (Nat.ble l.length 59&&l.all gQ)=true;rw[AY,Aw];exact⟨Nat.ble_eq_true_of_le M,fun p I=>(h p I).ok⟩;exact vx (yi fun p I=>(h p I).sz) (by decide) (by omega)
def xc{L:Int}{l:KQ PV}(M:l.length≤59)(h:∀p∈l,Pt p):Thg L (.lst l) :=
 ⟨rfl,sR (mr fun p F=>(h p F).sz) (by decide) (by omega),fun m I=>by cases I⟩
def Ec:∀n:Fin 42,(Builtin.Slice.sliceAdjust none none (-1) (n.val:Nat)).1=((n.val:Nat):Int)-1∧Builtin.Slice.slicePlaces (Builtin.Slice.sliceAdjust none none (-1) (n.val:Nat)).1 (Builtin.Slice.sliceAdjust none none (-1) (n.val:Nat)).2 (-1)=n.val:=by decide +kernel
def Y1{f g:Nat->KW PV}:∀{l:KQ Nat},(∀m∈l,f m=g m)->l.filterMap f=l.filterMap g|[],_=>rfl|m::l,h=>by rw[BI,BI,h m AI,Y1 fun x F=>h x (AH _ F)]
def jG(r:KQ PV):(List.range r.length).filterMap (fun m=>r[m]?)=r:=by
 have e:(List.range r.length).filterMap (fun m=>r[m]?)=(List.range r.length).filterMap (some ∘ fun m=>r.getD m .non):=Y1 fun m F=>by
  have:=BM.mp F
  show r[m]? = some (r.getD m .non);rw[Ao,AJ this];rfl
 rw[e,List.filterMap_eq_map];refine List.ext_getElem (by simp) fun i M I=>?_;rw[List.getElem_map,List.getElem_range,Ao,AJ I];rfl
def sJ{l:KQ PV}(h:l.length≤41):HT.cutS l none none (-1)=l.reverse:=by
 obtain⟨F,I⟩:=Ec ⟨l.length,by omega⟩;have F:(Builtin.Slice.sliceAdjust none none (-1) (l.length:Int)).1=(l.length:Int)-1:=F;have I:Builtin.Slice.slicePlaces (Builtin.Slice.sliceAdjust none none (-1) (l.length:Int)).1 (Builtin.Slice.sliceAdjust none none (-1) (l.length:Int)).2 (-1)=l.length:=I;unfold HT.cutS;rw[I];refine (Y1 (g:=fun m=>l.reverse[m]?) fun m M=>?_).trans ?_;have M:=BM.mp M;rw[F,List.getElem?_reverse M,show ((l.length:Int)-1+(m:Int) * -1).toNat=l.length-1-m by omega]
 ·have:=jG l.reverse
  rw[List.length_reverse]at this;exact this
def DY{f:FE}{r:ql}{st s1:qC}{l:KQ PV}(h:f r st= .ok (.tup l) s1)(F:l.length≤41):kX f QZ QZ (qy (yj (vC (.int 1)))) r st= .ok (.tup l.reverse) s1:=by unfold kX;rw[h];show (if (-1:Int)<0∧(HT.cutS l none none (-1)).length≤sizeLine then Rs.ok (PV.tup (HT.cutS l none none (-1))) s1 else Rs.no)=_;rw[sJ F,AE ⟨by decide,by rw[List.length_reverse];exact Wc (by omega)⟩]
def Wr{l:KQ PV}{n:Nat}:W9 l none (some (n:Int))=l.take n:=by
 have F:HT.sIx l.length l.length (some (n:Int))=min n l.length:=HT.sIx_nat _ _ _;have I:HT.sIx l.length 0 none=0:=rfl;unfold W9;rw[I,F,List.drop_zero,Nat.sub_zero];by_cases h:n≤l.length;rw[Nat.min_eq_left h];rw[Nat.min_eq_right (by omega),C7,CQ (by omega)]
def jK{l:KQ PV}{n:Nat}:W9 l (some (n:Int)) (some ((n:Int)+1))=(l.drop n).take 1:=by
 have F:HT.sIx l.length 0 (some (n:Int))=min n l.length:=HT.sIx_nat _ _ _;have I:HT.sIx l.length l.length (some ((n:Int)+1))=min (n+1) l.length:=HT.sIx_nat _ _ (n+1);unfold W9;rw[F,I];by_cases h:n<l.length;rw[Nat.min_eq_left (by omega),Nat.min_eq_left (by omega),Nat.add_sub_cancel_left];rw[Nat.min_eq_right (by omega),Nat.min_eq_right (by omega),DL,List.take_zero,List.drop_of_length_le (by omega:l.length≤n),List.take_nil]
def r6{c:PV->Bool}{F:PV->PV}:∀l:KQ PV,(l.flatMap fun p=>if c p=true then [F p] else [])=(l.filter c).map F|[]=>rfl|p::l=>by rw[C3,List.filter_cons,r6 l];cases c p <;> rfl
def mJ{Kk:KQ Nat}{n:Nat}{fi:FI}{g:FG}{t:FT}{f:FE}{r:ql}{st s1:qC}{w:ItP}{c:PV->Bool}{F:PV->PV}(I:fi r st= .ok w s1)(Y:w.G s1)(Z:w.l.length≤sizeLine)
  (h:∀p∈w.l,∃r',g p (wK Kk n r)=some r'∧t r' s1= .ok (c p) s1∧(c p=true->f r' s1= .ok (F p) s1)):QE Kk n fi g [t] [] f r st= .ok ((w.l.filter c).map F) s1:=by
 have O:=ww (G:=w.G) (k:=QG ⟨fi,g,[t]⟩ (QY [] f) (wK Kk n r)) (st:=s1) Y (F:=fun p=>if c p=true then [F p] else []) (l:=w.l) fun p hp=>by
  obtain⟨r',R,U,h3⟩:=h p hp;cases M:c p with|true=>rw[AE rfl];exact Yr R (U.trans (by rw[M])) (h3 M)|false=>rw[AD (by decide)];exact Yi R (U.trans (by rw[M]))
 rw[r6]at O;exact ml I O (by rw[AF];exact Ab (Ca _ _) Z)
def j1{st j g:qC}{b o:SO}:(st++b::(j++o::g))[st.length+1+j.length]? = some o:=uG (by simp)
def ll{st j g:qC}{b o p:SO}:(st++b::(j++o::g)).set (st.length+1+j.length) p=st++b::(j++p::g):=by rw[Eg (by simp),CZ _ _ (AG _),DL];rfl
def Eo{d:Dc}{m B:Nat}(I:BD d m B):(dP d).map (WC true)=(QC d).map sP:=by unfold dP QC;rw[Ah,Ah];refine Ai fun e F=>?_;obtain⟨b,M,_⟩:=I.bar e F;show PV.tup [wS (e.1.map Sum.inl),.int e.2]= .tup [bP (lB e.1),.int e.2];rw[yV,M];rfl
def va{i n:Nat}{r:ql}{st:qC}{Kh:KQ (KQ L2.Key×PV)}(F:r[i]? = some (some (.ref n)))(hd:st[n]? = some (.d Kh)):eI (ye (qB i)) r st= .ok (.lst (Kh.map (WC true))) st:=by refine wz ?_;unfold ye;rw[wo F];show (match st[n]? with|some (.d Kh)=>_|_=>_)=_;rw[hd]
def eq_nil{l:KQ qZ}{st:qC}:gEq (.lst (l.map cP)) (.lst []) st= .ok (.bl l.isEmpty) st:=by have h:=rl (A:=l.map cL) (B:=[]) (st:=st);rw[Ah]at h;have h:gEq (.lst (l.map cP)) (.lst []) st= .ok (.bl (decide (l.map cL=[]))) st:=h;rw[h];cases l <;> rfl
structure gE (L:Int) (d:Dc) (m:Nat):Prop where
 bd:BD d m 1
 one:∀e∈d,e.2=1
 t01:∀c,eG L (QC d) c=0∨eG L (QC d) c=1
 sup:∃C:List qZ,C.length≤5*m∧∀c,eG L (QC d) c≠0->c∈C
def vd{L:Int}:gE L [] 0:=⟨xA,(fun _ h=>by cases h),fun _=>.inl rfl,[],AG _,fun _ h=>absurd rfl h⟩
def gE.mono{L:Int}{d:Dc}{m m':Nat}(I:gE L d m)(h:m≤m'):gE L d m':=by obtain⟨C,M,F⟩:=I.sup;exact⟨I.bd.mono h (AG _),I.one,I.t01,C,by omega,F⟩
def gE.get{L:Int}{d:Dc}{m:Nat}(I:gE L d m){k:KQ Int}:QX d k=0∨QX d k=1:=by
 unfold QX;cases h:d.find? fun e=>decide (e.1=k) with|none=>exact .inl rfl|some e=>exact .inr (I.one e (List.mem_of_find?_eq_some h))
def gE.put{L:Int}{d:Dc}{m:Nat}{b:Bar}(I:gE L d m)(hL:L≤5)(R:ig b)(U:∀c,eG L (QC d) c≠0->c∉eM L b):gE L (zO d (bL b) 1) (m+1):=by
 obtain⟨C,h1,Y⟩:=I.sup;have M:∀c,eG L (QC (zO d (bL b) 1)) c=eG L (QC d) c+(1-QX d (bL b))*if c∈eM L b then 1 else 0:=fun c=>by rw[lj I.bd.nd,←JI];rfl
 refine⟨I.bd.put R (by decide),fun e Z=>?_,fun c=>?_,C++eM L b,?_,fun c F=>?_⟩
 ·rcases JG Z with z|rfl
  ·exact I.one e z
  ·rfl
 ·rw[M];by_cases F:c∈eM L b
  ·rw[AE F];have h0:eG L (QC d) c=0:=by
    by_cases z:eG L (QC d) c=0;exact z;exact absurd F (U c z)
   rw[h0];rcases I.get (k:=bL b) with z|z <;> rw[z]
   ·exact .inr rfl
   ·exact .inl rfl
  ·rw[AD F,Int.mul_zero,Cp];exact I.t01 c
 ·rw[Ac,JM];omega
 ·rw[At];by_cases O:c∈eM L b;exact .inr O;rw[M,AD O,Int.mul_zero,Cp]at F;exact .inl (Y c F)
def gE.some{L:Int}{d:Dc}{m:Nat}{b:Bar}(I:gE L d m)(R:2≤L)(M:∀c,eG L (QC d) c≠0->c∉eM L b)(h:d=[]∨∃c,eG L (QC d) c=1):∃c,eG L (QC (zO d (bL b) 1)) c=1:=by
 have F:∀c,eG L (QC (zO d (bL b) 1)) c=eG L (QC d) c+(1-QX d (bL b))*if c∈eM L b then 1 else 0:=fun c=>by rw[lj I.bd.nd,←JI];rfl
 rcases h with rfl|⟨c,O⟩
 ·refine⟨(b.1,b.2.1),?_⟩;rw[F,AE (gJ.mpr ?_)];rfl;show (b.2.2=0∧b.1=b.1∧b.2.1≤b.2.1∧b.2.1<b.2.1+L)∨(b.2.2≠0∧b.2.1=b.2.1∧b.1≤b.1∧b.1<b.1+L);omega
 ·refine⟨c,?_⟩;rw[F,AD (M c (by omega)),Int.mul_zero,Cp];exact O
def GC{a:Ad}{L:Int}{d:Dc}{m:Nat}{b:Bar}{st j g:qC}{x:Int}{x3 x4 x5 x6 x8 x9:KW PV}(a1:2≤L)(a0:L≤5)(I:gE L d m)(hm:m≤6) :
  ∃t:Bool,(t=true->∀c,eG L (QC d) c≠0->c∉eM L b)∧(t=false->∃c,eG L (QC d) c=1) ∧
  fF (qN gEq (eI (QE [7] 2 (qt (qK (qu a) (qA (eI (ye (qB 2))) (qA (qB 1) qD)))) (We 2 (qm (q5 1) (qm (q5 2) Wg))) [(fF (qN (ir false) (qB 1) (qB 0)))] [] (qB 1))) (eI (wf qD))) [some (.ref st.length),some (.int L),some (.ref (st.length+1+j.length)),x3,x4,x5,x6,some (.lst ((eM L b).map cP)),x8,x9] (st ++ .l [.int x]::(j ++ .d (dP d)::g))= .ok t (st ++ .l [.int x]::(j ++ .d (dP d)::(g++[.d (dP (qh L [] (QC d)))]))):=by
 obtain⟨C,h1,h2⟩:=I.sup;have hf:(nz (qh L [] (QC d))).length<64:=jI (C:=C) (by omega) h2;have M:(QC d).length≤100:=by unfold QC;rw[AF];have:=I.bd.len;omega
 have es:(st++SO.l [.int x]::(j ++ .d (dP d)::g))++[.d (dP (qh L [] (QC d)))]=st ++ .l [.int x]::(j ++ .d (dP d)::(g++[.d (dP (qh L [] (QC d)))])):=by simp
 have U:=ZR (a:=a) (L:=L) (sh:=QC d) (v:=.lst ((QC d).map sP)) (st:=st ++ .l [.int x]::(j ++ .d (dP d)::g)) (by omega) a0 M hf (.inr rfl);rw[es,lL]at U;generalize hr:[some (PV.ref st.length),some (PV.int L),some (PV.ref (st.length+1+j.length)),x3,x4,x5,x6,some (PV.lst ((eM L b).map cP)),x8,x9]=r;generalize O:zW (fO (qh L [] (QC d)))=F at U;have R:∀c,c∈F ↔ eG L (QC d) c≠0:=fun c=>by rw[←O,(Wq _).mem_iff,fK]
 have a2:F.length≤1000:=by rw[←O,(Wq _).length_eq];unfold fO;rw[AF];omega
 generalize hS:st++SO.l [.int x]::(j ++ .d (dP d)::(g++[.d (dP (qh L [] (QC d)))]))=S at U;let un:PV->PV:=fun p=>match p with | .tup [q,_]=>q|_=>.non;have Y:=mJ (Kk:=[7]) (n:=2) (fi:=qt (qK (qu a) (qA (eI (ye (qB 2))) (qA (qB 1) qD)))) (g:=We 2 (qm (q5 1) (qm (q5 2) Wg))) (t:=fF (qN (ir false) (qB 1) (qB 0))) (f:=qB 1) (r:=r) (c:=fun p=>decide (kg (un p)∈eM L b)) (F:=un) (Q6 (qQ (l:=[.lst ((QC d).map sP),.int L]) (qM (s1:=st ++ .l [.int x]::(j ++ .d (dP d)::g)) ((va (n:=st.length+1+j.length) (by rw[←hr];rfl) j1).trans (by rw[Eo I.bd])) (qM (by rw[←hr];rfl) qf)) U)) trivial (by show (List.map _ _).length≤_;rw[AF,AF];exact Wc (by omega)) fun p hp=>by
  obtain⟨q,hq,rfl⟩:=AZ.mp hp;obtain⟨c,Z,rfl⟩:=AZ.mp hq;refine⟨[some (.lst ((eM L b).map cP)),some (cP c),some (.int (eG L (QC d) c))],by rw[←hr];rfl,?_,fun _=>rfl⟩;exact zI (qW (p:=cP c) (q:=.lst ((eM L b).map cP)) rfl rfl ((ER (l:=eM L b) rfl).trans rfl))
 have e2:((((F.map fun c=>(c,eG L (QC d) c)).map qP).filter fun p=>decide (kg (un p)∈eM L b)).map un)=(F.filter fun c=>decide (c∈eM L b)).map cP:=by rw[Ah,List.filter_map,Ah];rfl
 have Y:QE [7] 2 _ _ _ _ _ r _= .ok ((((F.map fun c=>(c,eG L (QC d) c)).map qP).filter fun p=>decide (kg (un p)∈eM L b)).map un) S:=Y;rw[e2]at Y;refine⟨(F.filter fun c=>decide (c∈eM L b)).isEmpty,fun ht c Z hb=>?_,fun ht=>?_,zI (qW (wz Y) (q:=.lst []) rfl eq_nil)⟩;exact List.filter_eq_nil_iff.mp (List.isEmpty_iff.mp ht) c ((R c).mpr Z) (AS hb)
 ·cases hl:F.filter fun c=>decide (c∈eM L b) with
  |nil=>rw[hl]at ht;cases ht
  |cons c l =>
   have Z:c∈F:=(Bj.mp (show c∈F.filter fun c=>decide (c∈eM L b) by rw[hl];exact AI)).1;have h0:=(R c).mp Z;exact⟨c,(I.t01 c).elim (fun z=>absurd z h0) id⟩
def Iz{a:Ad}{L A B w x:Int}{st J:qC}{r:ql}(F:r[0]? = some (some (.ref st.length)))(I:r[1]? = some (some (.int L)))(M:r[4]? = some (some (.int w)))(O:∀S,eV (.lst [.int 1,.int L]) (.int w) S= .ok (.int A) S)(R:∀S,eV (.lst [.int L,.int 1]) (.int w) S= .ok (.int B) S)(U:1≤A)(Y:A≤5)(Z:1≤B)(a0:B≤5) :
  (qA (qK (qY a) (qA (qB 0) (qA (qN zp (vC (.int 9)) (qN eV (eI (wf (qA (vC (.int 1)) (qA (qB 1) qD)))) (qB 4))) qD))) (qA (qK (qY a) (qA (qB 0) (qA (qN zp (vC (.int 9)) (qN eV (eI (wf (qA (qB 1) (qA (vC (.int 1)) qD)))) (qB 4))) qD))) qD)) r (st ++ .l [.int x]::J)= .ok [.int (x%(9-A)),.int (x/(9-A)%(9-B))] (st ++ .l [.int (x/(9-A)/(9-B))]::J):=by refine qM (qQ (l:=[.ref st.length,.int (9-A)]) (qM (wo F) (qM (qW rfl (qW (wz (Ye (qM rfl (qM (wo I) qf)) (sz rfl))) (wo M) (O _)) Z3) qf)) (Qy (by omega) (by omega))) (qM (qQ (l:=[.ref st.length,.int (9-B)]) (qM (wo F) (qM (qW rfl (qW (wz (Ye (qM (wo I) (qM rfl qf)) (sz rfl))) (wo M) (R _)) Z3) qf)) (Qy (by omega) (by omega))) qf)
def IN{a:Ad}{L x:Int}{d:Dc}{m:Nat}{st j g:qC}{x3 x4 x5 x6 x7 x8 x9:KW PV}(U:2≤L)(O:L≤5)(I:gE L d m)(hm:m≤6) :
  ∃(d':Dc) (y:Int) (g':qC) (y4 y5 y6 y7:KW PV),gE L d' (m+1)∧((d=[]∨∃c,eG L (QC d) c=1)->∃c,eG L (QC d') c=1) ∧
  JE a [some (.ref st.length),some (.int L),some (.ref (st.length+1+j.length)),x3,x4,x5,x6,x7,x8,x9] (st ++ .l [.int x]::(j ++ .d (dP d)::g))= .nx [some (.ref st.length),some (.int L),some (.ref (st.length+1+j.length)),x3,y4,y5,y6,y7,x8,x9] (st ++ .l [.int y]::(j ++ .d (dP d')::g')):=by
 have t1:=Qy (a:=a) (st:=st) (j:=j ++ .d (dP d)::g) (x:=x) (m:=2) (by decide) (by decide);have hw:=w9 (x:=x) (m:=2) (by decide);generalize x%2=w at t1 hw;generalize x/2=R at t1;obtain⟨A,B,hA,hB,a0,a1,a2,a3⟩:∃A B:Int,(∀S,eV (.lst [.int 1,.int L]) (.int w) S= .ok (.int A) S)∧(∀S,eV (.lst [.int L,.int 1]) (.int w) S= .ok (.int B) S)∧1≤A∧A≤5∧1≤B∧B≤5:=by
  have:w=0∨w=1:=by omega
  rcases this with rfl|rfl
  ·exact⟨1,L,fun _=>rfl,fun _=>rfl,by decide,by decide,by omega,O⟩
  ·exact⟨L,1,fun _=>rfl,fun _=>rfl,by omega,O,by decide,by decide⟩
 have Z:=Iz (a:=a) (L:=L) (A:=A) (B:=B) (w:=w) (x:=R) (st:=st) (J:=j ++ .d (dP d)::g) (r:=[some (.ref st.length),some (.int L),some (.ref (st.length+1+j.length)),x3,some (.int w),x5,x6,x7,x8,x9]) rfl rfl rfl hA hB a0 a1 a2 a3;have hr:=w9 (x:=R) (m:=9-A) (by omega);have hc:=w9 (x:=R/(9-A)) (m:=9-B) (by omega);generalize R%(9-A)=F at Z hr;generalize R/(9-A)%(9-B)=M at Z hc;generalize R/(9-A)/(9-B)=y at Z;have hb:ig (F,M,w):=⟨by show -9≤F;omega,by show F≤30;omega,by show -9≤M;omega,by show M≤30;omega,by show w=0∨w=1;omega⟩;obtain⟨t,Y,a4,et⟩:=GC (a:=a) (L:=L) (d:=d) (m:=m) (b:=(F,M,w)) (st:=st) (j:=j) (g:=g) (x:=y) (x3:=x3) (x4:=some (.int w)) (x5:=some (.int F)) (x6:=some (.int M)) (x8:=x8) (x9:=x9) U O I hm;have pre:∀{o:RS},Q3 _ (WU (qB 2) (qz (qA (qB 5) (qA (qB 6) (qA (qB 4) qD)))) (vC (.int 1))) Qh [some (.ref st.length),some (.int L),some (.ref (st.length+1+j.length)),x3,some (.int w),some (.int F),some (.int M),some (.lst ((eM L (F,M,w)).map cP)),x8,x9] (st ++ .l [.int y]::(j ++ .d (dP d)::g))=o->JE a [some (.ref st.length),some (.int L),some (.ref (st.length+1+j.length)),x3,x4,x5,x6,x7,x8,x9] (st ++ .l [.int x]::(j ++ .d (dP d)::g))=o:=fun h =>
  qi (WG (qQ (l:=[.ref st.length,.int 2]) rfl t1)) (qi (Fi Z) (qi (WG (qQ (l:=[bP (F,M,w),.int L]) rfl (rm (by omega) (by omega)))) h))
 cases t with
 |true =>
  refine⟨zO d (bL (F,M,w)) 1,y,g++[.d (dP (qh L [] (QC d)))],some (.int w),some (.int F),some (.int M),some (.lst ((eM L (F,M,w)).map cP)),I.put O hb (Y rfl),fun h=>I.some U (Y rfl) h,pre (Qu et ?_)⟩;have e:=mw (f:=vC (.int 1)) (fb:=qB 2) (fc:=qz (qA (qB 5) (qA (qB 6) (qA (qB 4) qD)))) (r:=[some (.ref st.length),some (.int L),some (.ref (st.length+1+j.length)),x3,some (.int w),some (.int F),some (.int M),some (.lst ((eM L (F,M,w)).map cP)),x8,x9]) (st:=st ++ .l [.int y]::(j ++ .d (dP d)::(g++[.d (dP (qh L [] (QC d)))]))) (p:=.int 1) (q:=bP (F,M,w)) (k:=(bL (F,M,w)).map Sum.inl) (Kh:=dP d) (n:=st.length+1+j.length) rfl rfl rfl rfl j1 (by unfold dP;rw[AF];exact Al I.bd.len (Al hm (by decide)));rw[mE,ll]at e;exact e
 |false=>exact⟨d,y,g++[.d (dP (qh L [] (QC d)))],some (.int w),some (.int F),some (.int M),some (.lst ((eM L (F,M,w)).map cP)),I.mono (by omega),fun _=>a4 rfl,pre (wE et rfl)⟩
def pV{a:Ad}{L:Int}{st j:qC}{x8 x9:KW PV}(F:2≤L)(M:L≤5):∀(ks:KQ PV) (d:Dc) (m:Nat) (x:Int) (g:qC) (x3 x4 x5 x6 x7:KW PV),gE L d m->m+ks.length≤6->((ks≠[]∧d=[])∨∃c,eG L (QC d) c=1) ->
  ∃(d':Dc) (y:Int) (g':qC) (O R U Y Z:KW PV),gE L d' 6∧(∃c,eG L (QC d') c=1) ∧
  Qf (fun _=>True) (q9 3) (JE a) ks [some (.ref st.length),some (.int L),some (.ref (st.length+1+j.length)),x3,x4,x5,x6,x7,x8,x9] (st ++ .l [.int x]::(j ++ .d (dP d)::g))= .nx [some (.ref st.length),some (.int L),some (.ref (st.length+1+j.length)),O,R,U,Y,Z,x8,x9] (st ++ .l [.int y]::(j ++ .d (dP d')::g'))
 |[],d,m,x,g,x3,x4,x5,x6,x7,I,hm,h=>⟨d,x,g,x3,x4,x5,x6,x7,I.mono (by simpa using hm),h.elim (fun z=>absurd rfl z.1) id,wR trivial⟩
 |k::ks,d,m,x,g,x3,x4,x5,x6,x7,I,hm,h=>by
  rw[AO]at hm;obtain⟨d1,y1,g1,z4,z5,z6,z7,I1,h1,e1⟩:=IN (a:=a) (L:=L) (x:=x) (d:=d) (m:=m) (st:=st) (j:=j) (g:=g) (x3:=some k) (x4:=x4) (x5:=x5) (x6:=x6) (x7:=x7) (x8:=x8) (x9:=x9) F M I (by omega);obtain⟨d',y,g',O,R,U,Y,Z,I',h',e'⟩:=pV (a:=a) (st:=st) (j:=j) (x8:=x8) (x9:=x9) F M ks d1 (m+1) y1 g1 (some k) z4 z5 z6 z7 I1 (by omega) (.inr (h1 (h.elim (fun z=>.inl z.2) .inr)));exact⟨d',y,g',O,R,U,Y,Z,I',h',zu trivial rfl e1 e'⟩
def Gt{i n:Nat}{f g:FE}{r:ql}{st:qC}{d:Dc}{q:PV}{k:KQ Int}{t:Int}(F:r[i]? = some (some (.ref n)))(hd:st[n]? = some (.d (dP d)))(I:f r st= .ok q st)(M:Wv q=some (k.map Sum.inl))(Y:g r st= .ok (.int t) st)(Z:d.length≤1000) :
  WU (qB i) f (qN zp (zQ (qB i) f (vC (.int 0))) g) r st= .nx r (st.set n (.d (dP (ZG d k (-t))))):=by
 have O:gy st n=some (dP d):=by unfold gy;rw[hd]
 have R:=mK (f:=qB i) (fb:=f) (fc:=vC (.int 0)) (r:=r) (st:=st) (wo F) O I rfl M O;rw[re]at R;have U:=mw (f:=qN zp (zQ (qB i) f (vC (.int 0))) g) (fb:=qB i) (fc:=f) (r:=r) (st:=st) (qW R Y Z3) (wo F) I M hd (by unfold dP;rw[AF];exact Al Z (by decide));rw[mE,Int.sub_eq_add_neg]at U;exact U
def kJ(L r0 c0:Int)(c:qZ)(k:Nat):Int:=((eM L (r0+k,c0,0)).count c:Int)-((eM L (r0,c0+k,1)).count c:Int)
def oX{L r0 c0 t:Int}{st j g:qC}{b:SO}{x0 x1 x3 x4 x7:KW PV}(O:-9≤r0)(h2:r0≤20)(R:-9≤c0)(h4:c0≤20)(U:t.natAbs≤7):∀(ks:KQ Nat) (d:Dc) (m B:Nat) (x9:KW PV),BD d m B->(∀k∈ks,k<5)->m+2*ks.length≤900 ->
  ∃(d':Dc) (F:KW PV),BD d' (m+2*ks.length) (B+14*ks.length)∧(∀c,eG L (QC d') c=eG L (QC d) c+t*(ks.map (kJ L r0 c0 c)).sum) ∧
  Qf (fun _=>True) (q9 9) lU (ks.map fun (k:Nat)=>PV.int (k:Int)) [x0,x1,some (.ref (st.length+1+j.length)),x3,x4,some (.int r0),some (.int c0),x7,some (.int t),x9] (st++b::(j ++ .d (dP d)::g))= .nx [x0,x1,some (.ref (st.length+1+j.length)),x3,x4,some (.int r0),some (.int c0),x7,some (.int t),F] (st++b::(j ++ .d (dP d')::g))
 |[],d,m,B,x9,I,_,_=>⟨d,x9,I,fun c=>by show _=_+t*0;omega,wR trivial⟩
 |k::ks,d,m,B,x9,I,Y,hm=>by
  have a0:=Y k AI;rw[AO]at hm;have hl:=I.len;have M:=I.add (b:=(r0+k,c0,0)) (t:=t) ⟨by show -9≤r0+k;omega,by show r0+k≤30;omega,R,by show c0≤30;omega,.inl rfl⟩ U;have I2:=M.add (b:=(r0,c0+k,1)) (t:= -t) ⟨O,by show r0≤30;omega,by show -9≤c0+k;omega,by show c0+k≤30;omega,.inr rfl⟩ (by omega);have Z:=nP (i:=2) (n:=st.length+1+j.length) (f:=qz (qA (qN QK (qB 5) (qB 9)) (qA (qB 6) (qA (vC (.int 0)) qD)))) (g:=qB 8) (r:=[x0,x1,some (.ref (st.length+1+j.length)),x3,x4,some (.int r0),some (.int c0),x7,some (.int t),some (.int (k:Int))]) (st:=st++b::(j ++ .d (dP d)::g)) (d:=d) (q:=bP (r0+k,c0,0)) (k:=bL (r0+k,c0,0)) (t:=t) rfl j1 rfl rfl rfl (by omega);rw[ll]at Z;have a1:=M.len;have e2:=Gt (i:=2) (n:=st.length+1+j.length) (f:=qz (qA (qB 5) (qA (qN QK (qB 6) (qB 9)) (qA (vC (.int 1)) qD)))) (g:=qB 8) (r:=[x0,x1,some (.ref (st.length+1+j.length)),x3,x4,some (.int r0),some (.int c0),x7,some (.int t),some (.int (k:Int))]) (st:=st++b::(j ++ .d (dP (ZG d (bL (r0+k,c0,0)) t))::g)) (d:=ZG d (bL (r0+k,c0,0)) t) (q:=bP (r0,c0+k,1)) (k:=bL (r0,c0+k,1)) (t:=t) rfl j1 rfl rfl rfl (by omega);rw[ll]at e2;obtain⟨d',F,I',hT,e'⟩:=oX (L:=L) (st:=st) (j:=j) (g:=g) (b:=b) (x0:=x0) (x1:=x1) (x3:=x3) (x4:=x4) (x7:=x7) O h2 R h4 U ks _ _ _ (some (.int (k:Int))) I2 (fun q hq=>Y q (AH _ hq)) (by omega);refine⟨d',F,I'.mono (by rw[AO];omega) (by rw[AO];omega),fun c=>?_,zu trivial rfl (qi Z e2) e'⟩;rw[hT,rj M.nd,rj I.nd,AM,List.sum_cons,Int.mul_add];show _+t*((eM L (r0+k,c0,0)).count c:Int) + -t*((eM L (r0,c0+k,1)).count c:Int)+_=_+(t*(((eM L (r0+k,c0,0)).count c:Int)-((eM L (r0,c0+k,1)).count c:Int))+_);rw[Int.mul_sub,Int.neg_mul];omega
def mL{L r0 c0:Int}{c:qZ}:∀n:Nat,((List.range n).map (kJ L r0 c0 c)).sum=jX L r0 c0 c n-jk L r0 c0 c n|0=>rfl|n+1=>by rw[List.range_succ,BK,List.sum_append,mL n,jX,jk];show _+(kJ L r0 c0 c n+0)=_;unfold kJ;omega
def pN(a:Ad):FS:=(qU (jM 5 6 8 (qA (qN zp (qK (qY a) (qA (qB 0) (qA (vC (.int 30)) qD))) (vC (.int 9))) (qA (qN zp (qK (qY a) (qA (qB 0) (qA (vC (.int 30)) qD))) (vC (.int 9))) (qA (qN eV (eI (wf (qA (vC (.int 1)) (qA (yj (vC (.int 1))) (qA (vC (.int 7)) qD))))) (qK (qY a) (qA (qB 0) (qA (vC (.int 3)) qD)))) qD)))) (WF (Wj (qA (qB 1) qD)) (q9 9) (qU (WU (qB 2) (qz (qA (qN QK (qB 5) (qB 9)) (qA (qB 6) (qA (vC (.int 0)) qD)))) (qN QK (zQ (qB 2) (qz (qA (qN QK (qB 5) (qB 9)) (qA (qB 6) (qA (vC (.int 0)) qD)))) (vC (.int 0))) (qB 8))) (WU (qB 2) (qz (qA (qB 5) (qA (qN QK (qB 6) (qB 9)) (qA (vC (.int 1)) qD)))) (qN zp (zQ (qB 2) (qz (qA (qB 5) (qA (qN QK (qB 6) (qB 9)) (qA (vC (.int 1)) qD)))) (vC (.int 0))) (qB 8))))))
def xw{i j k:Nat}{fa:FA}{r:ql}{st s1:qC}{p q w:PV}(h:fa r st= .ok [p,q,w] s1):jM i j k fa r st= .nx (((r.set i (some p)).set j (some q)).set k (some w)) s1:=by unfold jM;rw[h];rfl
def Gv{a:Ad}{L x:Int}{d:Dc}{m B:Nat}{st j g:qC}{x3 x4 x5 x6 x7 x8 x9:KW PV}(Z:2≤L)(a0:L≤5)(I:BD d m B)(hm:m≤100) :
  ∃(d':Dc) (y:Int) (y5 y6 y8 O:KW PV),BD d' (m+10) (B+70)∧(∀c,eG L (QC d') c=eG L (QC d) c) ∧
  pN a [some (.ref st.length),some (.int L),some (.ref (st.length+1+j.length)),x3,x4,x5,x6,x7,x8,x9] (st ++ .l [.int x]::(j ++ .d (dP d)::g))= .nx [some (.ref st.length),some (.int L),some (.ref (st.length+1+j.length)),x3,x4,y5,y6,x7,y8,O] (st ++ .l [.int y]::(j ++ .d (dP d')::g)):=by
 have U:=Qy (a:=a) (st:=st) (j:=j ++ .d (dP d)::g) (x:=x) (m:=30) (by decide) (by decide);have Y:=Qy (a:=a) (st:=st) (j:=j ++ .d (dP d)::g) (x:=x/30) (m:=30) (by decide) (by decide);have R:=Qy (a:=a) (st:=st) (j:=j ++ .d (dP d)::g) (x:=x/30/30) (m:=3) (by decide) (by decide);have m1:=w9 (x:=x) (m:=30) (by decide);have m2:=w9 (x:=x/30) (m:=30) (by decide);have m3:=w9 (x:=x/30/30) (m:=3) (by decide);generalize x%30=F at U m1;generalize x/30%30=M at Y m2;generalize x/30/30%3=i at R m3;generalize x/30/30/3=y at R;obtain⟨t,ht,et⟩:∃t:Int,t.natAbs≤7∧∀S,eV (.lst [.int 1,.int (-1),.int 7]) (.int i) S= .ok (.int t) S:=by
  have:i=0∨i=1∨i=2:=by omega
  rcases this with rfl|rfl|rfl
  ·exact⟨1,by decide,fun _=>rfl⟩
  ·exact⟨-1,by decide,fun _=>rfl⟩
  ·exact⟨7,by decide,fun _=>rfl⟩
 have hn:((List.range L.toNat).length:Nat)≤5:=by rw[List.length_range];omega
 obtain⟨d',O,I',hT,e⟩:=oX (L:=L) (r0:=F-9) (c0:=M-9) (t:=t) (st:=st) (j:=j) (g:=g) (b:=.l [.int y]) (x0:=some (.ref st.length)) (x1:=some (.int L)) (x3:=x3) (x4:=x4) (x7:=x7) (by omega) (by omega) (by omega) (by omega) ht (List.range L.toNat) d m B x9 I (fun k hk=>by have:=BM.mp hk;omega) (by omega);refine⟨d',y,some (.int (F-9)),some (.int (M-9)),some (.int t),O,I'.mono (by omega) (by omega),fun c=>?_,qi (xw (p:=.int (F-9)) (q:=.int (M-9)) (w:=.int t) (s1:=st ++ .l [.int y]::(j ++ .d (dP d)::g)) ?_) (Zk (ie (by omega) (by omega) rfl) ?_)⟩;rw[hT,mL,Ef (by omega),Int.sub_self,Int.mul_zero,Cp];exact qM (qW (qQ (l:=[.ref st.length,.int 30]) rfl U) rfl Z3) (qM (qW (qQ (l:=[.ref st.length,.int 30]) rfl Y) rfl Z3) (qM (qW (p:=.lst [.int 1,.int (-1),.int 7]) rfl (qQ (l:=[.ref st.length,.int 3]) rfl R) (et _)) qf))
 ·have eu:(WH L).map PV.int=(List.range L.toNat).map fun (k:Nat)=>PV.int (k:Int):=by unfold WH;rw[Ah];rfl
  show Qf (fun _=>True) (q9 9) lU ((WH L).map PV.int) _ _=_;rw[eu];exact e
def rY{a:Ad}{L:Int}{st j g:qC}{x4 x7:KW PV}(F:2≤L)(M:L≤5):∀(ks:KQ PV) (d:Dc) (m B:Nat) (x:Int) (x3 x5 x6 x8 x9:KW PV),BD d m B->m+10*ks.length≤100 ->
  ∃(d':Dc) (y:Int) (O R U Y Z:KW PV),BD d' (m+10*ks.length) (B+70*ks.length)∧(∀c,eG L (QC d') c=eG L (QC d) c) ∧
  Qf (fun _=>True) (q9 3) (pN a) ks [some (.ref st.length),some (.int L),some (.ref (st.length+1+j.length)),x3,x4,x5,x6,x7,x8,x9] (st ++ .l [.int x]::(j ++ .d (dP d)::g))= .nx [some (.ref st.length),some (.int L),some (.ref (st.length+1+j.length)),O,x4,R,U,x7,Y,Z] (st ++ .l [.int y]::(j ++ .d (dP d')::g))
 |[],d,m,B,x,x3,x5,x6,x8,x9,I,hm=>⟨d,x,x3,x5,x6,x8,x9,I,fun _=>rfl,wR trivial⟩
 |k::ks,d,m,B,x,x3,x5,x6,x8,x9,I,hm=>by
  rw[AO]at hm;obtain⟨d1,y1,z5,z6,z8,z9,I1,h1,e1⟩:=Gv (a:=a) (L:=L) (x:=x) (d:=d) (m:=m) (B:=B) (st:=st) (j:=j) (g:=g) (x3:=some k) (x4:=x4) (x5:=x5) (x6:=x6) (x7:=x7) (x8:=x8) (x9:=x9) F M I (by omega);obtain⟨d',y,O,R,U,Y,Z,I',h',e'⟩:=rY (a:=a) (st:=st) (j:=j) (g:=g) (x4:=x4) (x7:=x7) F M ks d1 (m+10) (B+70) y1 (some k) z5 z6 z8 z9 I1 (by omega);exact⟨d',y,O,R,U,Y,Z,I'.mono (by rw[AO];omega) (by rw[AO];omega),fun c=>(h' c).trans (h1 c),zu trivial rfl e1 e'⟩
def DS{d:Dc}{m B:Nat}(I:BD d m B):d.map (·.1)=(d.map fun e=>lB e.1).map bL:=by rw[Ah];refine Ai fun e F=>?_;obtain⟨b,M,_⟩:=I.bar e F;show e.1=bL (lB e.1);rw[M];rfl
def IY{d:Dc}{m B:Nat}(I:BD d m B):((fm (d.map (·.1))).map lB).map bL=fm (d.map (·.1)):=by rw[Ah];refine (Ai fun k F=>?_).trans (Cf _);obtain⟨b,rfl,_⟩:=Za I F;rfl
def GL{i n:Nat}{r:ql}{st:qC}{Kh:KQ (KQ L2.Key×PV)}(F:r[i]? = some (some (.ref n)))(hd:st[n]? = some (.d Kh)):eI (Zn (qB i)) r st= .ok (.lst (Kh.map fun I=>wS I.1)) st:=by refine wz ?_;unfold Zn;rw[wo F];show (match st[n]? with|some (.d Kh)=>_|_=>_)=_;rw[hd]
def Hd{d:Dc}{m B i n:Nat}{r:ql}{st:qC}(I:BD d m B)(U:m≤60)(M:r[i]? = some (some (.ref n)))(hd:st[n]? = some (.d (dP d))):zP (eI (Zn (qB i))) r st= .ok (.lst (((fm (d.map (·.1))).map lB).map bP)) st:=by
 unfold zP;rw[GL M hd];show Zw (.lst ((dP d).map fun F=>wS F.1)) st=_;have e:((dP d).map fun F=>wS F.1)=(d.map fun e=>lB e.1).map bP:=by unfold dP;rw[Ah,Ah];refine Ai fun e O=>?_;obtain⟨b,R,_⟩:=I.bar e O;show wS (e.1.map Sum.inl)=bP (lB e.1);rw[yV,R];rfl
 rw[e];unfold Zw;rw[show ZB st (.lst ((d.map fun e=>lB e.1).map bP))=some ((d.map fun e=>lB e.1).map bP) from rfl];dsimp only;rw[l0];dsimp only;rw[AE (by rw[AF,AF];have:=I.len;omega),←DS I,nO,IY I]
def sg{b:Bar}:gA (bP b)=b:=rfl
def xF{d:Dc}{m B n:Nat}{r:ql}{st:qC}(I:BD d m B)(hm:m≤60)(U:r[2]? = some (some (.ref n)))(hd:st[n]? = some (.d (dP d))):(QE [2] 1 (qt (zP (eI (Zn (qB 2))))) (q5 1) [(fF (qN gNe (qN zh (qB 0) (qB 1)) (vC (.int 0))))] [] (qz (qA (qB 1) (qA (qN zh (qB 0) (qB 1)) qD)))) r st= .ok ((gP d).map sP) st:=by
 have hA:gy st n=some (dP d):=by unfold gy;rw[hd]
 have e:=mJ (Kk:=[2]) (n:=1) (fi:=qt (zP (eI (Zn (qB 2))))) (g:=q5 1) (t:=fF (qN gNe (qN zh (qB 0) (qB 1)) (vC (.int 0)))) (f:=qz (qA (qB 1) (qA (qN zh (qB 0) (qB 1)) qD))) (r:=r) (st:=st) (c:=fun p=>decide (QX d (bL (gA p))≠0)) (F:=fun p=>.tup [p,.int (QX d (bL (gA p)))]) (Q6 (Hd I hm U hd)) trivial (by show (List.map _ _).length≤_;rw[AF,AF,na,AF];have:=I.len;exact Wc (by omega)) fun p hp=>by
  obtain⟨b,hb,rfl⟩:=AZ.mp hp;obtain⟨k,R,rfl⟩:=AZ.mp hb;obtain⟨b,rfl,_⟩:=Za I R;obtain⟨x,Y,O⟩:=AZ.mp ((QO _).mem_iff.mp R);have Z:QX d (bL b)=x.2:=by rw[←O];exact pI I.nd Y
  have M:=zg I.nd Y;rw[O]at M;have ed:=ma (i:=0) (j:=1) (n:=n) (r:=[some (.ref n),some (bP b)]) (st:=st) (d:=d) (k:=bL b) (v:=x.2) rfl rfl (fun z=>by cases z) hA M;refine⟨[some (.ref n),some (bP b)],?_,?_,fun _=>?_⟩
  ·show q5 1 (bP b) (wK [2] 1 r)=_
   have:wK [2] 1 r=[some (.ref n),none]:=by unfold wK;simp[U]
   rw[this];rfl
  ·refine zI (qW ed rfl ?_);show gNe (.int x.2) (.int 0) st= .ok (.bl (decide (QX d (bL (gA (bP b)))≠0))) st;rw[Zv,sg,Z,decide_not]
  ·show qz _ _ _= .ok (.tup [bP b,.int (QX d (bL (gA (bP b))))]) st;rw[sg,Z];exact zA (qM rfl (qM ed qf)) (sz rfl)
 have e2:(((((fm (d.map (·.1))).map lB).map bP).filter fun p=>decide (QX d (bL (gA p))≠0)).map fun p=>PV.tup [p,.int (QX d (bL (gA p)))])=(gP d).map sP:=by
  have h0:i0 d (fm (d.map (·.1)))=((fm (d.map (·.1))).map lB).map fun b=>(b,QX d (bL b)):=by unfold i0;rw[Ah];refine Ai fun k R=>?_;obtain⟨b,rfl,_⟩:=Za I R;rfl
  unfold gP;rw[h0];generalize (fm (d.map (·.1))).map lB=bs;rw[List.filter_map,Ah,List.filter_map,Ah];rfl
 have e:QE [2] 1 _ _ _ _ _ r st= .ok (((((fm (d.map (·.1))).map lB).map bP).filter fun p=>decide (QX d (bL (gA p))≠0)).map fun p=>PV.tup [p,.int (QX d (bL (gA p)))]) st:=e;rw[e2]at e;exact e
structure gt (L:Int) (sh:List Sh):Prop where
 ris:Wk (sh.map (·.1))=true
 ok:∀s∈sh,ig s.1∧s.2≠0∧s.2.natAbs≤1000
 len:sh.length≤26
 t01:∀c,eG L sh c=0∨eG L sh c=1
 ex:∃c,eG L sh c=1
 sup:∃C:List qZ,C.length≤30∧∀c,eG L sh c≠0->c∈C
def Ee{a:Ad}{L x:Int}{st j:qC}(I:2≤L)(M:L≤5):∃(sh:KQ Sh) (y:Int) (g:qC),gt L sh∧Wm a [.ref st.length,.int L] (st ++ .l [.int x]::j)= .ok (.tup (sh.map sP)) (st ++ .l [.int y]::(j++g)):=by
 have Z:=Qy (a:=a) (st:=st) (j:=j++[.d []]) (x:=x) (m:=6) (by decide) (by decide);have m1:=w9 (x:=x) (m:=6) (by decide);generalize x%6=R at Z m1;generalize x/6=x1 at Z;have a0:(WH (1+R)).map PV.int≠[]:=fun z=>by
  have:=CK List.length z
  rw[AF,zR]at this
  have:(1+R).toNat=0:=this
  omega
 obtain⟨d,U,Y,z3,z4,z5,z6,z7,I1,h1,e1⟩:=pV (a:=a) (L:=L) (st:=st) (j:=j) (x8:=none) (x9:=none) I M ((WH (1+R)).map PV.int) [] 0 x1 [] none none none none none vd (by rw[AF,zR];omega) (.inl ⟨a0,rfl⟩);have t2:=Qy (a:=a) (st:=st) (j:=j ++ .d (dP d)::Y) (x:=U) (m:=3) (by decide) (by decide);have m2:=w9 (x:=U) (m:=3) (by decide);generalize U%3=k2 at t2 m2;generalize U/3=x2 at t2;have a1:((WH k2).map PV.int).length≤2:=by rw[AF,zR];omega
 obtain⟨F,y2,u3,u5,u6,u8,u9,I2,h2,e2⟩:=rY (a:=a) (L:=L) (st:=st) (j:=j) (g:=Y) (x4:=z4) (x7:=z7) I M ((WH k2).map PV.int) d 6 1 x2 z3 z5 z6 none none I1.bd (by omega);have O:BD F 26 141:=I2.mono (by omega) (by omega);have ef:=xF (d:=F) (m:=26) (B:=141) (n:=st.length+1+j.length) (r:=[some (.ref st.length),some (.int L),some (.ref (st.length+1+j.length)),u3,z4,u5,u6,z7,u8,u9]) (st:=st ++ .l [.int y2]::(j ++ .d (dP F)::Y)) O (by decide) rfl j1;have hT:∀c,eG L (gP F) c=eG L (QC d) c:=fun c=>(HL O.nd).trans (h2 c);obtain⟨C,c1,c2⟩:=I1.sup;refine⟨gP F,y2,.d (dP F)::Y,⟨tV O,fun s hs=>?_,E6 O,fun c=>?_,?_,C,by omega,fun c hc=>c2 c (by rw[←hT];exact hc)⟩,?_⟩;obtain⟨q1,q2,q3⟩:=I9 O hs;exact⟨q1,q2,by omega⟩;rw[hT];exact I1.t01 c;obtain⟨c,hc⟩:=h1;exact⟨c,(hT c).trans hc⟩
 ·refine QJ rfl (qi (r':=[some (.ref st.length),some (.int L),some (.ref (st.length+1+j.length)),none,none,none,none,none,none,none]) (s1:=st ++ .l [.int x]::(j++[.d []])) ?_ (qi (Zk (ie (L:=1+R) (by omega) (by omega) (qM (qW rfl (qQ (l:=[.ref st.length,.int 6]) rfl Z) zx) qf)) e1) (qi (Zk (ie (L:=k2) (by omega) (by omega) (qM (qQ (l:=[.ref st.length,.int 3]) rfl t2) qf)) e2) (QW (qQ (qM (wz ef) qf) (yI rfl))))));have hd:qx 2 qAH (QA 10 [.ref st.length,.int L]) (st ++ .l [.int x]::j)= .nx [some (.ref st.length),some (.int L),some (.ref (st++SO.l [.int x]::j).length),none,none,none,none,none,none,none] ((st ++ .l [.int x]::j)++[.d []]):=rfl;rw[show (st++SO.l [.int x]::j).length=st.length+1+j.length by rw[Ac,AO];omega,show (st++SO.l [.int x]::j)++[SO.d []]=st ++ .l [.int x]::(j++[.d []]) by simp]at hd;exact hd
def iq:KQ PV:=[.non,.bl true,.int 7,.str "",.str "0",.tup [],.lst [],.dct,.tup [.int 1,.int 2],.tup [.int 0],.tup [.int 1,.int 0,.int 0],.int (-1),.tup [.int 0,.int 0],.lst [.tup [.int 0,.int 0]],.bl false,.tup [.tup [.int 0,.int 0],.tup [.int 0,.int 1]]]
def lX(v:PV):Bool:=iS v&&((iC v).isSome&&(match v with | .tup l=>l.isEmpty || !l.all f6|_=>true))
def IR{L:Int}{v:PV}(h:lX v=true):Thg L v:=by unfold lX at h;rw[AY,AY]at h;refine⟨h.1,Option.isSome_iff_exists.mp h.2.1,fun l I M=>?_⟩;have F:=h.2.2;rw[I]at F;have F:(l.isEmpty || !l.all f6)=true:=F;rw[M,Bool.not_true,Bool.or_false]at F;rw[List.isEmpty_iff.mp F];show 0<64;decide
def Fk:iq.all lX=true:=by decide +kernel
def me{l:KQ PV}{i:Int}{st:qC}(F:0≤i)(I:i<l.length):∃p,p∈l∧eV (.lst l) (.int i) st= .ok p st:=by
 refine⟨l[i.toNat]'(by omega),DA _,mh rfl ?_⟩;unfold L2.atI;rw[JW F I,Option.bind_some,AJ]
def vS{a:Ad}{L:Int}{st j:qC}{x:Int}:∃v,Thg L v∧ya a [.ref st.length] (st ++ .l [.int x]::j)= .ok v (st ++ .l [.int (x/16)]::j):=by
 have m:=w9 (x:=x) (m:=16) (by decide);obtain⟨v,F,e⟩:=me (l:=iq) (st:=st ++ .l [.int (x/16)]::j) m.1 m.2;exact⟨v,IR (Aw.mp Fk v F),QJ rfl (qi (WG (p:=.lst iq) (s1:=st ++ .l [.int x]::j) rfl) (QW (qW (p:=.lst iq) (q:=.int (x%16)) (s1:=st ++ .l [.int x]::j) (s2:=st ++ .l [.int (x/16)]::j) rfl (qQ (l:=[.ref st.length,.int 16]) rfl (Qy (by decide) (by decide))) e)))⟩
structure El (o:PV):Prop where
 pl:wZ o=true
 pt:Pt o
 sz:Sz o 1 300
def rV{i:Int}(h:i.natAbs<2 ^ 200):El (.int i):=⟨rfl,⟨rfl,(pD h).mono (by decide) (by decide)⟩,(pD h).mono (by decide) (by decide)⟩
def Wl{i:Int}(h:i.natAbs≤5000):El (.int i):=rV (Al h (by decide))
def kj:KQ PV:=[.int 41,.int (-41),.int 40,.bl true,.non,.str "0",.tup [.int 0],.int 2,.int (-1),.int (10 ^ 39)]
def nX:∀o∈kj,El o:=fun o F=>by
 simp only[kj,AK,Ak,CN]at F;rcases F with rfl|rfl|rfl|rfl|rfl|rfl|rfl|rfl|rfl|rfl
 ·exact Wl (by decide)
 ·exact Wl (by decide)
 ·exact Wl (by decide)
 ·exact⟨rfl,⟨rfl,iA.mono (by decide) (by decide)⟩,iA.mono (by decide) (by decide)⟩
 ·exact⟨rfl,⟨rfl,hW.mono (by decide) (by decide)⟩,hW.mono (by decide) (by decide)⟩
 ·exact⟨rfl,⟨rfl,gN.mono (by decide) (by decide)⟩,gN.mono (by decide) (by decide)⟩
 ·have h:Sz (.tup [.int 0]) 1 300:=⟨.tuple [.int 0],rfl,rfl,by decide,by decide⟩;exact⟨rfl,⟨rfl,h.mono (by decide) (by decide)⟩,h⟩
 ·exact Wl (by decide)
 ·exact Wl (by decide)
 ·exact rV (by decide +kernel)
structure Br (q:PV):Prop where
 ok:gM q=true
 sz:Sz q 2 1000
def jN{P:PV->Prop}{x:PV}(h:P x):∀p∈[x],P p:=fun p F=>by rw[Af.mp F];exact h
def JA{P:PV->Prop}{x y:PV}(h:P x)(I:P y):∀p∈[x,y],P p:=fun p F=>by simp only[AK,Ak,CN]at F;rcases F with rfl|rfl <;> assumption
def Wo{P:PV->Prop}{x y z:PV}(h:P x)(I:P y)(M:P z):∀p∈[x,y,z],P p:=fun p F=>by simp only[AK,Ak,CN]at F;rcases F with rfl|rfl|rfl <;> assumption
def Ya{x y z:PV}(F:El x)(I:El y)(hz:El z):Br (.tup [x,y,z]):=by
 refine⟨oD (show 3≤1000 by decide) (Wo F.pl I.pl hz.pl),?_⟩;exact (yi (Wo F.sz I.sz hz.sz)).mono (AG _) (by show 300*3+2*3+3≤1000;decide)
def FH{x y z:PV}(F:El x)(I:El y)(hz:El z):Br (.lst [x,y,z]) :=
 ⟨rfl,(mr (Wo F.sz I.sz hz.sz)).mono (AG _) (by show 300*3+2*3+3≤1000;decide)⟩
def El.br{o:PV}(h:El o):Br o:=by
 refine⟨?_,h.sz.mono (by decide) (by decide)⟩
 have:=h.pt.ok
 cases o with|tup l=>have h:(Nat.ble l.length 59&&l.all gM)=true:=this;rw[AY,Aw]at h;exact oD (Ab (C5 h.1) (by decide)) fun p F=>zT (h.2 p F)|_=>exact h.pl
def ZW{q t:PV}(F:Br q)(I:El t):Pt (.tup [q,t]) :=
 ⟨lN (show 2≤59 by decide) (JA F.ok I.br.ok),(yi (JA F.sz (I.sz.mono (by decide) (by decide)))).mono (AG _) (by show 1000*2+2*2+3≤4000;decide)⟩
def I0{q t:PV}(F:Br q)(I:El t):Pt (.lst [q,t]) :=
 ⟨rfl,(mr (JA F.sz (I.sz.mono (by decide) (by decide)))).mono (AG _) (by show 1000*2+2*2+3≤4000;decide)⟩
def GU{q:PV}(F:Br q):Pt (.tup [q]) :=
 ⟨lN (show 1≤59 by decide) (jN F.ok),(yi (jN F.sz)).mono (by decide) (by show 1000*1+2*1+3≤4000;decide)⟩
def EQ{q t u:PV}(F:Br q)(I:El t)(M:El u):Pt (.tup [q,t,u]) :=
 ⟨lN (show 3≤59 by decide) (Wo F.ok I.br.ok M.br.ok),(yi (Wo F.sz (I.sz.mono (by decide) (by decide)) (M.sz.mono (by decide) (by decide)))).mono (AG _) (by show 1000*3+2*3+3≤4000;decide)⟩
def Dr{b:Bar}(F:b.1.natAbs≤5000)(I:b.2.1.natAbs≤5000)(M:b.2.2.natAbs≤5000):Pt (bP b):=by refine⟨rfl,?_⟩;exact (yi (Wo (Wl F).sz (Wl I).sz (Wl M).sz)).mono (by decide) (by show 300*3+2*3+3≤4000;decide)
structure OkS (s:Sh):Prop where
 b:ig s.1
 t:s.2.natAbs≤1000
def OkS.n1{s:Sh}(h:OkS s):s.1.1.natAbs≤5000:=by have:=h.b.1;have:=h.b.2.1;omega
def OkS.n2{s:Sh}(h:OkS s):s.1.2.1.natAbs≤5000:=by have:=h.b.2.2.1;have:=h.b.2.2.2.1;omega
def OkS.n3{s:Sh}(h:OkS s):s.1.2.2.natAbs≤5000:=by have:=h.b.2.2.2.2;omega
def OkS.br{s:Sh}(h:OkS s):Br (bP s.1):=Ya (Wl h.n1) (Wl h.n2) (Wl h.n3)
def OkS.pt{s:Sh}(h:OkS s):Pt (sP s):=ZW h.br (Wl (Ab h.t (by decide)))
def gt.oks{L:Int}{sh:KQ Sh}(D:gt L sh):∀s∈sh,OkS s:=fun s hs=>⟨(D.ok s hs).1,(D.ok s hs).2.2⟩
def HA{s:Sh}:fY (sP s)=s:=rfl
def Yp{sh:KQ Sh}:(sh.map sP).map fY=sh:=by rw[Ah];exact (Ai fun s _=>HA).trans (Cf sh)
def gt.pts{L:Int}{sh:KQ Sh}(D:gt L sh):∀p∈sh.map sP,Pt p:=fun p F=>by obtain⟨s,hs,rfl⟩:=AZ.mp F;exact (D.oks s hs).pt
def Zp{P:PV->Prop}{A B:KQ PV}(h:∀p∈A,P p)(F:∀p∈B,P p):∀p∈A++B,P p:=fun p I=>(At.mp I).elim (h p) (F p)
def yP{L:Int}{sh:KQ Sh}{X:KQ PV}{i:Nat}(F:L≤5)(D:gt L sh)(I:X.length≤2)(M:∀p∈X,Pt p):Thg L (.tup ((sh.map sP).take i++X++(sh.map sP).drop (i+1))):=by
 obtain⟨C,O,R⟩:=D.sup;have U:=D.len;refine YU ?_ (Zp (Zp (fun p h=>D.pts p (Ce h)) M) fun p h=>D.pts p (CF h)) fun _=>?_;rw[Ac,Ac,BX,Bn,AF];omega;rw[BK,BK,List.map_take,List.map_drop,Yp];exact uS F O (by rw[AF];exact I) R
def xB{L:Int}{sh:KQ Sh}(D:gt L sh):Thg L (.tup (sh.map sP).reverse):=by
 obtain⟨C,M,F⟩:=D.sup;have O:=D.len;refine YU (by rw[List.length_reverse,AF];omega) (fun p h=>D.pts p (List.mem_reverse.mp h)) fun _=>?_;rw[List.map_reverse,Yp];exact jI (C:=C) (by omega) fun c I=>F c (by rw[←mV (List.reverse_perm sh)];exact I)
def GW{L:Int}{sh:KQ Sh}{s:Sh}(F:L≤5)(D:gt L sh)(hs:Pt (sP s)):Thg L (.tup (sh.map sP++[sP s])):=by
 have h:=yP (i:=sh.length) (X:=[sP s]) F D (by show 1≤2;decide) (jN hs);rw[CQ (by rw[AF];exact AG _),List.drop_of_length_le (by rw[AF];exact DD _),BJ]at h;exact h
def v4{L:Int}{sh:KQ Sh}{i:Nat}(F:L≤5)(D:gt L sh):Thg L (.tup ((sh.map sP).take i++((sh.map sP).drop i).take 1++(sh.map sP).drop i)):=by
 have h:=yP (i:=i) (X:=((sh.map sP).drop i).take 1++((sh.map sP).drop i).take 1) F D (by rw[Ac,BX];omega) (Zp (fun p h=>D.pts p (CF (Ce h))) fun p h=>D.pts p (CF (Ce h)));have e:(sh.map sP).drop i=((sh.map sP).drop i).take 1++(sh.map sP).drop (i+1):=by rw[←List.drop_drop,CW]
 have I:(sh.map sP).take i++(((sh.map sP).drop i).take 1++((sh.map sP).drop i).take 1)++(sh.map sP).drop (i+1)=(sh.map sP).take i++((sh.map sP).drop i).take 1++(sh.map sP).drop i:=by rw[BY,BY,←e,BY]
 rw[I]at h;exact h
def FF{L:Int}{sh:KQ Sh}{i:Nat}(F:L≤5)(D:gt L sh):Thg L (.tup ((sh.map sP).take i++(sh.map sP).drop (i+1))):=by
 have h:=yP (i:=i) (X:=[]) F D (by decide) (fun p h=>by cases h);rw[BJ]at h;exact h
def nT{L:Int}:Thg L (.tup []):=YU (by decide) (fun p h=>by cases h) fun _=>by show 0<64;decide
def yE{f:FE}{r:ql}{st s1:qC}{i:Int}(h:f r st= .ok (.int i) s1):qy f r st= .ok (some i) s1:=by unfold qy;rw[h];rfl
def Y6(W:KQ PV)(i:Nat)(p:PV):PV:=.tup (W.take i++[p]++W.drop (i+1))
def Z5{l:KQ PV}{n:Nat}:W9 l (some ((n:Int)+1)) none=l.drop (n+1):=ze (n:=n+1)
def Jo{W:KQ PV}{i:Nat}{p:PV}{f g h:FE}{r:ql}{st:qC}(O:W.length≤100)(F:f r st= .ok (.tup W) st)(I:g r st= .ok (.int (i:Int)) st)(M:h r st= .ok p st):qN wT (qN wT (Wb f QZ (qy g)) (qz (qA h qD))) (Wb f (qy (qN QK g (vC (.int 1)))) QZ) r st= .ok (Y6 W i p) st:=by
 have R:=o6 (l:=W) (lo:=none) (hi:=some (i:Int));have U:=o6 (l:=W) (lo:=some ((i:Int)+1)) (hi:=none);have e:qN wT (qN wT (Wb f QZ (qy g)) (qz (qA h qD))) (Wb f (qy (qN QK g (vC (.int 1)))) QZ) r st= .ok (.tup (W9 W none (some (i:Int))++[p]++W9 W (some ((i:Int)+1)) none)) st:=qW (qW (yN F rfl (yE I)) (zA (qM M qf) (sz rfl)) (ZS (by rw[A2];omega))) (yN F (yE (qW I rfl zx)) rfl) (ZS (by rw[Ac,A2];omega));rw[Wr,Z5]at e;exact e
def xn{A:KQ Sh}{i:Nat}{st:qC}(h:i<A.length):eV (.tup (A.map sP)) (.int (i:Int)) st= .ok (sP A[i]) st:=by
 refine mh rfl ?_;unfold L2.atI;rw[JW (by omega) (by rw[AF];omega),Option.bind_some,BC,Am,AJ h];rfl
def Ie{a:Ad}{L x:Int}{sh:KQ Sh}{st j:qC}(hL:L≤5)(D:gt L sh):∃(v:PV) (y:Int),Thg L v∧W4 a [.ref st.length,.tup (sh.map sP)] (st ++ .l [.int x]::j)= .ok v (st ++ .l [.int y]::j):=by
 have a7:=D.len;have a2:(sh.map sP).length=sh.length:=AF _;have a0:=D.oks;have t1:=Qy (a:=a) (st:=st) (j:=j) (x:=x) (m:=(sh.length:Int)+1) (by omega) (by omega);have m1:=w9 (x:=x) (m:=(sh.length:Int)+1) (by omega);generalize x%((sh.length:Int)+1)=a1 at t1 m1;generalize x/((sh.length:Int)+1)=U at t1;obtain⟨i,rfl⟩:∃i:Nat,a1=(i:Int):=⟨a1.toNat,by omega⟩;have hi:i<(sh++[((0,0,0),(1:Int))]).length:=by rw[Ac,A2];omega
 have es:=xn (A:=sh++[((0,0,0),(1:Int))]) (i:=i) (st:=st ++ .l [.int U]::j) hi;have hs:OkS (sh++[((0,0,0),(1:Int))])[i]:=by
  rcases At.mp (DA hi) with z|z
  ·exact a0 _ z
  ·rw[Af.mp z];exact⟨⟨by decide,by decide,by decide,by decide,.inl rfl⟩,by decide⟩
 generalize (sh++[((0,0,0),(1:Int))])[i]=s at es hs;have t2:=Qy (a:=a) (st:=st) (j:=j) (x:=U) (m:=3) (by decide) (by decide);have m2:=w9 (x:=U) (m:=3) (by decide);generalize U%3=sp at t2 m2;generalize U/3=x2 at t2;obtain⟨n,rfl⟩:∃n:Nat,sp=(n:Int):=⟨sp.toNat,by omega⟩;have t3:=Qy (a:=a) (st:=st) (j:=j) (x:=x2) (m:=10) (by decide) (by decide);have m3:=w9 (x:=x2) (m:=10) (by decide);obtain⟨o,ho,eo⟩:=me (l:=kj) (i:=x2%10) (st:=st ++ .l [.int (x2/10)]::j) m3.1 m3.2;have ho:=nX o ho;generalize x2%10=k3 at t3 eo;generalize x2/10=R at t3 eo;obtain⟨⟨r,c,w⟩,t⟩:=s;have b1:El (.int r):=Wl hs.n1;have b2:El (.int c):=Wl hs.n2;have b3:El (.int w):=Wl hs.n3;have ht:=hs.t;have ht:t.natAbs≤1000:=ht;have tE:El (.int t):=Wl (by omega);have hq:Br (Y6 [.int r,.int c,.int w] n o):=by
  have:n=0∨n=1∨n=2:=by omega
  rcases this with rfl|rfl|rfl
  ·exact Ya ho b2 b3
  ·exact Ya b1 ho b3
  ·exact Ya b1 b2 ho
 generalize a3:Y6 [.int r,.int c,.int w] n o=q at hq;have Y:Br (bP (r,c,w)):=hs.br;let I:KQ PV:=[.tup [bP (r,c,w),.int (t+1)],.tup [bP (r,c,w),.int 0],.tup [bP (r,c,w),.bl true],.tup [q,.int t],.tup [bP (r,c,w),.int (0-t)]];let O:KQ PV:=[.lst [bP (r,c,w),.int t],.tup [bP (r,c,w)],.tup [bP (r,c,w),.int t,.int 0],bP (r,c,w),.tup [.lst [.int r,.int c,.int w],.int t],o];have hN:∀p∈I++O,Pt p:=Zp (fun p M=>by
   simp only[I,AK,Ak,CN]at M;rcases M with rfl|rfl|rfl|rfl|rfl
   ·exact ZW Y (Wl (by omega))
   ·exact ZW Y (Wl (by decide))
   ·exact ZW Y (nX _ (by simp[kj]))
   ·exact ZW hq tE
   ·exact ZW Y (Wl (by omega))) fun p M=>by
   simp only[O,AK,Ak,CN]at M;rcases M with rfl|rfl|rfl|rfl|rfl|rfl
   ·exact I0 Y tE
   ·exact GU Y
   ·exact EQ Y tE (Wl (by decide))
   ·exact Dr hs.n1 hs.n2 hs.n3
   ·exact ZW (FH b1 b2 b3) tE
   ·exact ho.pt
 let W:=sh.map sP;have a8:W.length≤26:=by show (sh.map sP).length≤26;omega
 obtain⟨od,a4,a5⟩:=vS (a:=a) (L:=L) (st:=st) (j:=j) (x:=R);have t4:=Qy (a:=a) (st:=st) (j:=j) (x:=R/16) (m:=18) (by decide) (by decide);have m4:=w9 (x:=R/16) (m:=18) (by decide);let z3:KQ PV:=[.tup (W.take i++W.drop (i+1)),.tup (W.take i++(W.drop i).take 1++W.drop i),.tup W.reverse];let z4:KQ PV:=[.lst W,.tup (W++[sP ((40,40,1),1)]),od,.tup []];let Z:KQ PV:=(I++O).map (Y6 W i)++z3++z4;have a6:∀p∈Z,Thg L p:=Zp (Zp (fun p M=>by
   obtain⟨u,hu,rfl⟩:=AZ.mp M;exact yP hL D (by show 1≤2;decide) (jN (hN u hu))) fun p M=>by
   simp only[z3,AK,Ak,CN]at M;rcases M with rfl|rfl|rfl
   ·exact FF hL D
   ·exact v4 hL D
   ·exact xB D) fun p M=>by
   simp only[z4,AK,Ak,CN]at M;rcases M with rfl|rfl|rfl|rfl
   ·exact xc (by show W.length≤59;omega) D.pts
   ·exact GW hL D (ZW (Ya (Wl (by decide)) (Wl (by decide)) (Wl (by decide))) (Wl (by decide)))
   ·exact a4
   ·exact nT
 obtain⟨v,hv,ev⟩:=me (l:=Z) (i:=R/16%18) (st:=st ++ .l [.int (R/16/18)]::j) m4.1 m4.2;have ec:wT (.tup W) (.tup [sP ((0,0,0),1)]) (st ++ .l [.int U]::j)= .ok (.tup ((sh++[((0,0,0),(1:Int))]).map sP)) (st ++ .l [.int U]::j):=by rw[BK];exact ZS (by rw[A2];omega)
 refine⟨v,R/16/18,a6 v hv,QJ rfl ?_⟩;unfold jB;have dl:=Bn (i:=i) (l:=W);have a9:=Bn (i:=i+1) (l:=W);have tl:=BX (i:=i) (l:=W);refine qi (WG (qQ (l:=[.ref st.length,.int ((sh.length:Int)+1)]) (qM rfl (qM (qW (p:=.int (sh.length:Int)) (qQ (l:=[.tup W]) rfl (Zl rfl (by show ((sh.map sP).length:Int)=_;rw[a2]))) rfl zx) qf)) t1)) ?_;refine qi (J7 (r1:=[some (.ref st.length),some (.tup W),some (.int (i:Int)),some (bP (r,c,w)),some (.int t),none,none,none,none]) (qW (qW (p:=.tup W) (q:=.tup [sP ((0,0,0),1)]) rfl rfl ec) rfl es) rfl) ?_;refine qi (WG (qQ (l:=[.ref st.length,.int 3]) rfl t2)) ?_;refine qi (WG (qW (p:=.lst kj) rfl (qQ (l:=[.ref st.length,.int 10]) rfl t3) eo)) ?_;refine qi (WG (p:=.lst I) (wz (Ye (qM (zA (qM rfl (qM (qW rfl rfl zx) qf)) (sz rfl)) (qM rfl (qM rfl (qM (zA (qM ((Jo (W:=[.int r,.int c,.int w]) (i:=n) (p:=o) (by show 3≤100;decide) rfl rfl rfl).trans (by rw[a3])) (qM rfl qf)) (sz rfl)) (qM (zA (qM rfl (qM (qW rfl rfl Z3) qf)) (sz rfl)) qf))))) (sz rfl)))) ?_;refine qi (WG (p:=.lst (I++O)) (wz (kT (l:=I) (m:=O) rfl (wz (Ye (qM (wz (Ye (qM rfl (qM rfl qf)) (sz rfl))) (qM (zA (qM rfl qf) (sz rfl)) (qM (zA (qM rfl (qM rfl (qM rfl qf))) (sz rfl)) (qM rfl (qM (zA (qM (rB rfl) (qM rfl qf)) (sz rfl)) (qM rfl qf)))))) (sz rfl))) rfl rfl (sz rfl)))) ?_;refine qi (WG (p:=.lst ((I++O).map (Y6 W i))) (wz (Ql (F:=Y6 W i) (Q6 rfl) trivial (sz rfl) fun p M=>⟨[some (.tup W),some (.int (i:Int)),some p],rfl,Jo (by omega) rfl rfl rfl⟩))) ?_;have eA:qN wT (Wb (qB 1) QZ (qy (qB 2))) (Wb (qB 1) (qy (qN QK (qB 2) (vC (.int 1)))) QZ) [some (.ref st.length),some (.tup W),some (.int (i:Int)),some (bP (r,c,w)),some (.int t),some (.int (n:Int)),some o,some (.lst (I++O)),some (.lst ((I++O).map (Y6 W i)))] (st ++ .l [.int R]::j)= .ok (.tup (W9 W none (some (i:Int))++W9 W (some ((i:Int)+1)) none)) (st ++ .l [.int R]::j):=qW (yN rfl rfl (yE rfl)) (yN rfl (yE (qW rfl rfl zx)) rfl) (ZS (by rw[Wr,Z5];omega));rw[Wr,Z5]at eA;have eB:qN wT (qN wT (Wb (qB 1) QZ (qy (qB 2))) (Wb (qB 1) (qy (qB 2)) (qy (qN QK (qB 2) (vC (.int 1)))))) (Wb (qB 1) (qy (qB 2)) QZ) [some (.ref st.length),some (.tup W),some (.int (i:Int)),some (bP (r,c,w)),some (.int t),some (.int (n:Int)),some o,some (.lst (I++O)),some (.lst ((I++O).map (Y6 W i)))] (st ++ .l [.int R]::j)= .ok (.tup (W9 W none (some (i:Int))++W9 W (some (i:Int)) (some ((i:Int)+1))++W9 W (some (i:Int)) none)) (st ++ .l [.int R]::j):=by
  have u1:((W.drop i).take 1).length≤1:=by rw[BX];exact Nat.min_le_left _ _
  exact qW (qW (yN rfl rfl (yE rfl)) (yN rfl (yE rfl) (yE (qW rfl rfl zx))) (ZS (by rw[Wr,jK];omega))) (yN rfl (yE rfl) rfl) (ZS (by rw[Wr,jK,ze,Ac];omega))
 rw[Wr,jK,ze]at eB;refine qi (WG (p:=.lst ((I++O).map (Y6 W i)++z3)) (wz (kT (l:=(I++O).map (Y6 W i)) (m:=z3) rfl (wz (Ye (qM eA (qM eB (qM (DY (l:=W) rfl (by omega)) qf))) (sz rfl))) rfl rfl (sz rfl)))) ?_;exact QW (qW (p:=.lst Z) (wz (kT (l:=(I++O).map (Y6 W i)++z3) (m:=z4) rfl (wz (Ye (qM (rB rfl) (qM (qW rfl rfl (ZS (l:=W) (m:=[sP ((40,40,1),1)]) (by rw[A2];omega))) (qM (qQ (l:=[.ref st.length]) rfl a5) (qM rfl qf)))) (sz rfl))) rfl rfl (sz rfl))) (qQ (l:=[.ref st.length,.int 18]) rfl t4) ev)
def G6{L:Int}{sh:KQ Sh}(D:gt L sh):(sh.map sP).all f6=true:=by rw[Aw];intro p F;obtain⟨s,hs,rfl⟩:=AZ.mp F;obtain⟨⟨b1,M,O,R,U⟩,I,_⟩:=D.ok s hs;show (((decide (-40≤s.1.1)&&decide (s.1.1≤40))&&((decide (-40≤s.1.2.1)&&decide (s.1.2.1≤40))&&(decide (0≤s.1.2.2)&&decide (s.1.2.2≤1))))&&decide (s.2≠0))=true;simp only[AY,decide_eq_true_eq];refine⟨⟨⟨by omega,by omega⟩,⟨by omega,by omega⟩,by omega,by omega⟩,I⟩
def flo(L:Int)(sh:KQ Sh):KQ qZ:=zW (fO (qh L [] sh))
def xh{L:Int}{sh:KQ Sh}(D:gt L sh):jE (flo L sh) L (.tup (sh.map sP))=true:=by show ((sh.map sP).all f6&&(Wk (((sh.map sP).map fY).map (·.1))&&Jh (flo L sh) L ((sh.map sP).map fY)))=true;rw[G6 D,Yp,D.ris];show (decide (zW (fO (qh L [] sh))=flo L sh)&&(fO (qh L [] sh)).all fun c=>decide (eG L sh c=1))=true;rw[AY,decide_eq_true_eq,Aw];exact⟨rfl,fun c F=>AS ((D.t01 c).elim (fun z=>absurd z (fK.mp F)) id)⟩
def FD{L:Int}{sh:KQ Sh}(D:gt L sh):0<(flo L sh).length:=by
 obtain⟨c,F⟩:=D.ex;have h:c∈flo L sh:=(Wq _).mem_iff.mpr (fK.mpr (by omega));exact List.length_pos_of_mem h
def se{L:Int}{sh:KQ Sh}(D:gt L sh):(flo L sh).length≤30:=by obtain⟨C,F,I⟩:=D.sup;unfold flo;rw[(Wq _).length_eq];exact Ab ((l5 (L:=L) (sh:=sh)).length_le_of_subset (l₂:=C) fun c M=>I c (fK.mp M)) F
def FM{L:Int}{sh:KQ Sh}(D:gt L sh):jE ((flo L sh).drop 1) L (.tup (sh.map sP))=false:=by
 show ((sh.map sP).all f6&&(Wk (((sh.map sP).map fY).map (·.1))&&Jh ((flo L sh).drop 1) L ((sh.map sP).map fY)))=false;have h:decide (zW (fO (qh L [] sh))=(flo L sh).drop 1)=false:=AU fun z=>by have F:=CK List.length z;have M:=FD D;rw[Bn]at F;have F:(flo L sh).length=(flo L sh).length-1:=F;omega
 rw[Yp];have I:Jh ((flo L sh).drop 1) L sh=false:=by unfold Jh;rw[h];rfl
 rw[I,Bi,Bi]
def ui{L:Int}{sh:KQ Sh}(D:gt L sh):Thg L (.tup (sh.map sP)):=by
 obtain⟨C,I,F⟩:=D.sup;have M:=D.len;refine YU (by rw[AF];omega) D.pts fun _=>?_;rw[Yp];exact jI (C:=C) (by omega) F
def Thg.h64{L:Int}{v:PV}(T:Thg L v):∀l,v= .tup l->l.all f6=true->Wk ((l.map fY).map (·.1))=true->(nz (qh L [] (l.map fY))).length<64:=fun l F I _=>T.few l F I
def p4{fi:FI}{g:FG}{f:FE}{r r':ql}{st s2:qC}{p q:PV}(h:g p r=some r')(F:f r' st= .ok q s2):QG ⟨fi,g,[]⟩ (QY [] f) r p st= .ok [q] s2:=by unfold QG;show (match g p r with|none=>_|some r'=>_)=_;rw[h];show (wn [] r' st).bind _=_;unfold wn;show (QY [] f) r' st=_;unfold QY;rw[F];rfl
def Iu{a:Ad}{L:Int}{sh:KQ Sh}{r:ql}{st:qC}(O:2≤L)(I:L≤5)(D:gt L sh)(R:r[3]? = some (some (.int L)))(U:r[4]? = some (some (.tup (sh.map sP)))):qK WO (qA (eI (QE [] 2 (qt (qK (qu a) (qA (qB 4) (qA (qB 3) qD)))) (We 2 (qm (q5 0) (qm (q5 1) Wg))) [] [] (qB 0))) qD) r st= .ok (.tup ((flo L sh).map cP)) (st++[.d (dP (qh L [] sh))]):=by
 obtain⟨C,c1,Y⟩:=D.sup;have hl:=D.len;have Z:=se D;have e:=ZR (a:=a) (L:=L) (sh:=sh) (v:=.tup (sh.map sP)) (st:=st) (by omega) I (by omega) (jI (C:=C) (by omega) Y) (.inl rfl);rw[lL]at e;have M:=ww (G:=fun _=>True) (k:=QG ⟨qt (qK (qu a) (qA (qB 4) (qA (qB 3) qD))),We 2 (qm (q5 0) (qm (q5 1) Wg)),[]⟩ (QY [] (qB 0)) (wK [] 2 r)) (st:=st++[.d (dP (qh L [] sh))]) trivial (F:=fun p=>match p with | .tup [q,_]=>[q]|_=>[]) (l:=((flo L sh).map fun c=>(c,eG L sh c)).map qP) fun p hp=>by obtain⟨q,hq,rfl⟩:=AZ.mp hp;obtain⟨c,hc,rfl⟩:=AZ.mp hq;exact p4 (r':=[some (cP c),some (.int (eG L sh c))]) rfl rfl
 have ef:((((flo L sh).map fun c=>(c,eG L sh c)).map qP).flatMap fun p=>match p with | .tup [q,_]=>[q]|_=>[])=(flo L sh).map cP:=by
  generalize flo L sh=F;induction F with|nil=>rfl|cons c F ih=>rw[AM,AM,C3,AM,ih];rfl
 rw[ef]at M;exact qQ (qM (wz (ml (Q6 (qQ (l:=[.tup (sh.map sP),.int L]) (qM (wo U) (qM (wo R) qf)) e)) M (by rw[AF];exact Wc (by omega)))) qf) (yI rfl)
def sf{a:Ad}{L:Int}{sh:KQ Sh}{st j:qC}{fi:FI}(F:L≤5)(D:gt L sh):∀(ks:KQ PV) (x:Int),∃(l:KQ PV) (y:Int),(∀v∈l,Thg L v)∧l.length=ks.length∧qq (fun _=>True) (QG ⟨fi,q5 2,[]⟩ (QY [] (qK (W4 a) (qA (qB 0) (qA (qB 1) qD)))) [some (.ref st.length),some (.tup (sh.map sP)),none]) ks (st ++ .l [.int x]::j)= .ok l (st ++ .l [.int y]::j)
 |[],x=>⟨[],x,(fun _ h=>by cases h),rfl,by unfold qq;rw[AE trivial]⟩
 |k::ks,x=>by
  obtain⟨v,y,I,e⟩:=Ie (a:=a) (L:=L) (x:=x) (sh:=sh) (st:=st) (j:=j) F D;obtain⟨l,z,M,O,R⟩:=sf (a:=a) (st:=st) (j:=j) (fi:=fi) F D ks y;refine⟨v::l,z,fun u U=>(AK.mp U).elim (fun q=>q ▸ I) (M u),by rw[AO,AO,O],?_⟩;unfold qq;rw[AE trivial,p4 (r':=[some (.ref st.length),some (.tup (sh.map sP)),some k]) rfl (qQ (l:=[.ref st.length,.tup (sh.map sP)]) rfl e)];show (qq _ _ ks _).bind _=_;rw[R];rfl
def uk{a:Ad}{L:Int}{F:KQ qZ}{v:PV}{x0 x1 x2 x4 x7:KW PV}{S:qC}(I:2≤L)(M:L≤5)(Y:F.length≤1000)(T:Thg L v):∃(Z:KW PV) (g:qC),lg a [x0,x1,x2,some (.int L),x4,some (.tup (F.map cP)),some v,x7] S= .nx [x0,x1,x2,some (.int L),x4,some (.tup (F.map cP)),some v,Z] (S++g):=by
 obtain⟨t,ht⟩:=T.rp;have R:∀O:qC,YD [v] O= .ok (.str t) O:=fun O=>by show (match iC v with|some t=>Rs.ok (PV.str t) O |none=>.no)=_;rw[ht]
 obtain⟨U,e1⟩:=jC (a:=a) (F:=F) (L:=L) (v:=v) (st:=S) I M T.ok T.h64;obtain⟨g2,e2⟩:=IF (a:=a) (F:=F) (L:=L) (v:=v) (st:=S++U) I M Y T.ok T.h64;refine⟨some (.str t),U++g2,?_⟩;rw[←BY];refine qi (WG (qQ (l:=[v]) rfl (R _))) (qi (wE (w_not (b:=true) (qo (qQ (l:=[.bl (jE F L v),.bl (jE F L v)]) (qM (qQ (l:=[.tup (F.map cP),.int L,v]) rfl e1) (qM (qQ (l:=[.tup (F.map cP),.int L,v]) rfl e2) qf)) Jr))) rfl) (wE (zI (qW (p:=.str t) (q:=.str t) (qQ (l:=[v]) rfl (R _)) rfl ?_)) rfl));show Rs.ok (PV.bl (!(t==t))) _=_;rw[A1];rfl
def pM{a:Ad}{L:Int}{F:KQ qZ}{x0 x1 x2 x4:KW PV}(I:2≤L)(M:L≤5)(U:F.length≤1000):∀(l:KQ PV) (x6 x7:KW PV) (S:qC),(∀v∈l,Thg L v)->∃(O R:KW PV) (g:qC),Qf (fun _=>True) (q9 6) (lg a) l [x0,x1,x2,some (.int L),x4,some (.tup (F.map cP)),x6,x7] S= .nx [x0,x1,x2,some (.int L),x4,some (.tup (F.map cP)),O,R] (S++g)|[],x6,x7,S,_=>⟨x6,x7,[],by rw[BJ];exact wR trivial⟩|v::l,x6,x7,S,h=>by obtain⟨Z,Y,e1⟩:=uk (a:=a) (L:=L) (F:=F) (v:=v) (x0:=x0) (x1:=x1) (x2:=x2) (x4:=x4) (x7:=x7) (S:=S) I M U (h v AI);obtain⟨O,R,g,e2⟩:=pM (a:=a) (L:=L) (F:=F) (x0:=x0) (x1:=x1) (x2:=x2) (x4:=x4) I M U l (some v) Z (S++Y) fun u hu=>h u (AH _ hu);exact⟨O,R,Y++g,by rw[←BY];exact zu trivial rfl e1 e2⟩
def lD(a:Ad):FS:=(qU (qx 2 (qK (Zf a) (qA (qB 0) (qA (qB 1) qD)))) (qU (qx 3 (qN QK (vC (.int 2)) (qK (qY a) (qA (qB 2) (qA (vC (.int 4)) qD))))) (qU (qx 4 (qK (Wm a) (qA (qB 2) (qA (qB 3) qD)))) (qU (qx 5 (qK WO (qA (eI (QE [] 2 (qt (qK (qu a) (qA (qB 4) (qA (qB 3) qD)))) (We 2 (qm (q5 0) (qm (q5 1) Wg))) [] [] (qB 0))) qD))) (qU (Q3 (Qt (QI (qK (Qg 3 a) (qA (qK (QQ a) (qA (qB 5) (qA (qB 3) (qA (qB 4) qD)))) (qA (vC (.bl true)) qD))))) (qg (vC (.bl false))) Qh) (qU (WF (qt (eI (YG (eI (QE [2,4] 1 (Wj (qA (vC (.int 6)) qD)) (q5 2) [] [] (qK (W4 a) (qA (qB 0) (qA (qB 1) qD))))) (eI (wf (qA (qz qD) qD)))))) (q9 6) (qU (qx 7 (qK YD (qA (qB 6) qD))) (qU (Q3 (Qt (QI (qK (Qg 3 a) (qA (qK (QQ a) (qA (qB 5) (qA (qB 3) (qA (qB 6) qD)))) (qA (qK (wA a) (qA (qB 5) (qA (qB 3) (qA (qB 6) qD)))) qD))))) (qg (vC (.bl false))) Qh) (Q3 (fF (qN gNe (qK YD (qA (qB 6) qD)) (qB 7))) (qg (vC (.bl false))) Qh)))) (qU (Q3 (Qt (QI (qK (Qg 3 a) (qA (qK (QQ a) (qA (Wb (qB 5) (qy (vC (.int 1))) QZ) (qA (qB 3) (qA (qB 4) qD)))) (qA (vC (.bl false)) qD))))) (qg (vC (.bl false))) Qh) (Q3 (fF (qN gNe (qK (QQ a) (qA (qB 5) (qA (qK (Q9 a) (qA (qB 2) qD)) (qA (qB 4) qD)))) (vC (.str "! length")))) (qg (vC (.bl false))) Qh))))))))
def Io{a:Ad}(hd:fW a){ns:KQ Int}{k:Int}{st:qC}{x2 x3 x4 x5 x6 x7:KW PV}(h0:0≤k):∃y2 y3 y4 y5 Z y7 Km,lD a [some (.lst (ns.map PV.int)),some (.int k),x2,x3,x4,x5,x6,x7] st= .nx [some (.lst (ns.map PV.int)),some (.int k),y2,y3,y4,y5,Z,y7] Km:=by
 obtain⟨x,ex⟩:=F9 (a:=a) (ns:=ns) (k:=k) (st:=st) h0;have t1:=Qy (a:=a) (st:=st) (j:=[]) (x:=x) (m:=4) (by decide) (by decide);have hL:=w9 (x:=x) (m:=4) (by decide);have M:2≤2+x%4:=by omega
 have O:2+x%4≤5:=by omega
 generalize a0:2+x%4=L at M O;obtain⟨sh,y,g,D,es⟩:=Ee (a:=a) (L:=L) (x:=x/4) (st:=st) (j:=[]) M O;rw[List.nil_append]at es;have a5:=se D;have ef:=Iu (a:=a) (L:=L) (sh:=sh) (r:=[some (.lst (ns.map PV.int)),some (.int k),some (.ref st.length),some (.int L),some (.tup (sh.map sP)),x5,x6,x7]) (st:=st ++ .l [.int y]::g) M O D rfl rfl;rw[show (st++SO.l [.int y]::g)++[.d (dP (qh L [] sh))]=st ++ .l [.int y]::(g++[.d (dP (qh L [] sh))]) by simp]at ef;generalize g++[.d (dP (qh L [] sh))]=J at ef;have TW:=ui D;obtain⟨I,e1⟩:=jC (a:=a) (F:=flo L sh) (L:=L) (v:=.tup (sh.map sP)) (st:=st ++ .l [.int y]::J) M O TW.ok TW.h64;rw[xh D,show (st++SO.l [.int y]::J)++I=st ++ .l [.int y]::(J++I) by simp]at e1;obtain⟨l,z,a1,a2,eb⟩:=sf (a:=a) (L:=L) (sh:=sh) (st:=st) (j:=J++I) (fi:=Wj (qA (vC (.int 6)) qD)) (by omega) D ((WH 6).map PV.int) y;have U:l.length=6:=by rw[a2];rfl
 obtain⟨Z,y7,R,e2⟩:=pM (a:=a) (L:=L) (F:=flo L sh) (x0:=some (.lst (ns.map PV.int))) (x1:=some (.int k)) (x2:=some (.ref st.length)) (x4:=some (.tup (sh.map sP))) M O (by omega) (l++[.tup []]) x6 x7 (st ++ .l [.int z]::(J++I)) (Zp a1 (jN nT));rw[show (st++SO.l [.int z]::(J++I))++R=st ++ .l [.int z]::(J++I++R) by simp]at e2;obtain⟨Y,e3⟩:=jC (a:=a) (F:=(flo L sh).drop 1) (L:=L) (v:=.tup (sh.map sP)) (st:=st ++ .l [.int z]::(J++I++R)) M O TW.ok TW.h64;rw[FM D,show (st++SO.l [.int z]::(J++I++R))++Y=st ++ .l [.int z]::(J++I++R++Y) by simp]at e3;obtain⟨u,a3,a4,e4⟩:=Jk (a:=a) (st:=st) (j:=J++I++R++Y) (x:=z);have e5:=tN (a:=a) hd (F:=.tup ((flo L sh).map cP)) (u:=u) (v:=.tup (sh.map sP)) (st:=st ++ .l [.int (z/10)]::(J++I++R++Y)) a3 a4;have eS:Wb (qB 5) (qy (vC (.int 1))) QZ [some (.lst (ns.map PV.int)),some (.int k),some (.ref st.length),some (.int L),some (.tup (sh.map sP)),some (.tup ((flo L sh).map cP)),Z,y7] (st ++ .l [.int z]::(J++I++R))= .ok (.tup (((flo L sh).drop 1).map cP)) (st ++ .l [.int z]::(J++I++R)):=by rw[List.map_drop,←ze];exact yN rfl (yE rfl) rfl
 refine⟨some (.ref st.length),some (.int L),some (.tup (sh.map sP)),some (.tup ((flo L sh).map cP)),Z,y7,st ++ .l [.int (z/10)]::(J++I++R++Y),?_⟩
 ·unfold lD;refine qi (WG (p:=.ref st.length) (s1:=st++[.l [.int x]]) (qQ (qM rfl (qM rfl qf)) ex)) ?_;refine qi (WG (p:=.int L) (qW rfl (qQ (l:=[.ref st.length,.int 4]) rfl t1) (by rw[zx,a0]))) ?_;refine qi (WG (qQ (l:=[.ref st.length,.int L]) rfl es)) ?_;refine qi (WG ef) ?_;refine qi (wE (w_not (b:=true) (qo (qQ (l:=[.bl true,.bl true]) (qM (qQ (l:=[.tup ((flo L sh).map cP),.int L,.tup (sh.map sP)]) rfl e1) (qM rfl qf)) Jr))) rfl) ?_;refine qi (Zk (Q6 (wz (kT (l:=l) (m:=[.tup []]) (wz (ml (ie (L:=6) (by decide) (by decide) rfl) eb (by rw[U];exact Wc (by decide)))) rfl rfl rfl (by rw[U];exact Wc (by decide))))) e2) ?_;refine qi (wE (w_not (b:=true) (qo (qQ (l:=[.bl false,.bl false]) (qM (qQ (l:=[.tup (((flo L sh).drop 1).map cP),.int L,.tup (sh.map sP)]) (qM eS (qM rfl (qM rfl qf))) e3) (qM rfl qf)) Jr))) rfl) ?_;exact wE (zI (qW (p:=.str "! length") (q:=.str "! length") (qQ (l:=[.tup ((flo L sh).map cP),u,.tup (sh.map sP)]) (qM rfl (qM (qQ (l:=[.ref st.length]) rfl e4) (qM rfl qf))) e5) rfl rfl)) rfl
def mZ{a:Ad}(hd:fW a){ns:KQ Int}:∀(ks:KQ Int) (x1 x2 x3 x4 x5 x6 x7:KW PV) (st:qC),(∀k∈ks,0≤k)->∃e Km,Qf (fun _=>True) (q9 1) (lD a) (ks.map PV.int) [some (.lst (ns.map PV.int)),x1,x2,x3,x4,x5,x6,x7] st= .nx e Km|[],x1,x2,x3,x4,x5,x6,x7,st,_=>⟨_,st,wR trivial⟩|k::ks,x1,x2,x3,x4,x5,x6,x7,st,h=>by obtain⟨I,M,O,R,U,Y,F,e⟩:=Io (a:=a) hd (ns:=ns) (k:=k) (st:=st) (x2:=x2) (x3:=x3) (x4:=x4) (x5:=x5) (x6:=x6) (x7:=x7) (h k AI);obtain⟨Z,Km,e2⟩:=mZ hd (ns:=ns) ks (some (.int k)) I M O R U Y F fun q hq=>h q (AH _ hq);exact⟨Z,Km,zu trivial rfl e e2⟩
def law_true:∀(a:Ad) (ns:KQ Int),fW a->ns.length≤63->(∀k∈ns,Builtin.Int.intBits k≤2 ^ 20)->∃st,kA a [.lst (ns.map PV.int)] []= .ok (.bl true) st:=by
 intro a ns hd U Y;obtain⟨n,F,M,O⟩:∃n:Int,0≤n∧n≤5∧qK qEe (qA (vC (.int 1)) (qA (qK qFT (qA (qK ZF (qA (qB 0) qD)) (qA (vC (.int 5)) qD))) qD)) (QA 8 [.lst (ns.map PV.int)]) []= .ok (.int n) []:=by
  refine⟨if (if (5:Int)<ns.length then 5 else (ns.length:Int))>1 then (if (5:Int)<ns.length then 5 else (ns.length:Int)) else 1,?_,?_,?_⟩;split <;> (try split) <;> omega;split <;> (try split) <;> omega;exact qQ (qM rfl (qM (qQ (l:=[.int ns.length,.int 5]) (qM (qQ (qM rfl qf) (Zl (l:=ns.map PV.int) rfl (by rw[AF]))) (qM rfl qf)) rfl) qf)) rfl
 obtain⟨e,I,h⟩:=mZ hd (WH n) none none none none none none none [] fun k R=>(fJ.mp R).1;exact⟨I,QJ rfl (qi (Zk (ie F (by omega) (qM O qf)) h) (QW rfl))⟩
end K51
end
section

end
noncomputable section
namespace K51
open PySem PySem.Spec PyProof.Rows L2 EX EV
def IL{a:Ad}{x:KU}{c:KR}{b:Bool}(h:kit a (.ref x) c=some b):x∈wD a:=by
 cases c with
 |ref d =>
  have h:(if x∈wD a∧d∈a.kinds then some (x==d) else none)=some b:=h;split at h;rename_i F;exact F.1;cases h
 |type T =>
  have h:(if x∈wD a∧T = "ValueError" then some true else none)=some b:=h;split at h;rename_i F;exact F.1;cases h
 |_=>cases h
def Ha{K:KY}:∀p∈gG,W.kitOne K (.type p.1.1) (.type p.1.2)=some p.2:=by intro p F;unfold gG at F;simp only[AK,Ak,CN]at F;rcases F with rfl|rfl|rfl|rfl|rfl|rfl|rfl|rfl|rfl|rfl|rfl|rfl|rfl|rfl|rfl|rfl|rfl|rfl|rfl|rfl|rfl|rfl|rfl|rfl|rfl|rfl|rfl|rfl <;> rfl
def o9{s T:String}{b:Bool}:∀{l:KQ ((String×String)×Bool)},l.lookup (s,T)=some b->((s,T),b)∈l
 |[],h=>by cases h
 |(q,k)::l,h=>by
  rw[BB]at h;split at h;rename_i e;cases h;rw[DK e];exact AI;exact AH _ (o9 h)
def IM{K:KY}{s T:String}{b:Bool}(h:nF s T=some b):W.kitOne K (.type s) (.type T)=some b:=Ha _ (o9 h)
def QL{a:Ad}(h:fW a):a.Z1≠a.Z2∧a.Z1≠a.Z3∧a.Z1≠a.Z4∧a.Z1≠a.Z5∧a.Z1≠a.Z6∧a.Z1≠a.Z7∧a.Z1≠a.Z8∧a.Z1≠a.Z9∧a.Z1≠a.Z10∧a.Z1≠a.Z11:=by have nd:=h.nd;unfold Ad.kinds at nd;simp only[Bd,AK,Ak,not_or,CN]at nd;refine⟨?_,?_,?_,?_,?_,?_,?_,?_,?_,?_⟩ <;> (intro z;simp only[z,not_true_eq_false,false_and,and_false]at nd)
def lf(e:DictEntry):Bool:=match e.key with| .str _ _=>true|_=>false
def rE{K:KY}{N:KU}{c:KR}{dd:KW KU}{es:K3 DictEntry}{ep:Nat}{sl:K3 (KW KR)}(h:K.lookup N=some ⟨c,dd,.dict es ep,sl⟩)(F:es.toList.all lf=true):W.nsOkIn K N=true:=by unfold W.nsOkIn;rw[show List.lookup N K=_ from h];show (es.all fun e=>match e.key with | .str _ _=>true|_=>false)=true;rw[←Array.all_toList];exact F
def uV{K:KY}{B:KU}{F:ClassData}{R:KR}{U:KW KU}{I:K3 (KW KR)}(Y:K.lookup B=some ⟨R,U,.cls F,I⟩)(M:W.nsOkIn K F.ns=true)(O:W.nsIn K F.ns "__init__" = some none):W.tailIn K hX (.ref B::hX)=true:=by rw[W.tailIn.eq_2,show List.lookup B K=_ from Y];dsimp only;rw[M,O];rfl
def Ip{K:KY}{C B:KU}{dd:KW KU}{cd F:ClassData}{sl:K3 (KW KR)}{k0 k1 k2 k3 k5:KW KR}{cB:KR}{dB:KW KU}{I:K3 (KW KR)}(hC:K.lookup C=some ⟨.type "type",dd,.cls cd,sl⟩)(M:cd.mro= .ref C :: .ref B::hX)
  (hs:sl.toList=[k0,k1,k2,k3,some (.builtin "ValueError.__new__"),k5]) (O:cd.hasDel=false) (hn:W.nsOkIn K cd.ns=true) (hi:W.nsIn K cd.ns "__init__" = some none) (hB:K.lookup B=some ⟨cB,dB,.cls F,I⟩) (R:W.nsOkIn K F.ns=true) (U:W.nsIn K F.ns "__init__" = some none) :
  W.excIn K C hX "ValueError.__new__" = true:=by have t:=uV hB R U;obtain⟨nm,bs,Y,ns,qn,hd,sn,sb,ab,co,Z⟩:=cd;obtain⟨sl⟩:=sl;have M:Y=_:=M;have hs:sl=_:=hs;have O:Z=false:=O;subst M;subst hs;subst O;unfold W.excIn;rw[show List.lookup C K=_ from hC];show (C==C&&("ValueError.__new__" == "ValueError.__new__") && !false&&W.tailIn K hX (.ref B::hX)&&W.nsOkIn K ns&&(W.nsIn K ns "__init__" == some none))=true;rw[t,show W.nsOkIn K ns=true from hn,show W.nsIn K ns "__init__" = some none from hi];simp
def ul{P:KZ}{w:K0}{K:KY}{mg:Str->KW KR}{base:Heap}{CX:CXT}{k:Nat}{f:KU}{fd:FuncData}{ps:KQ Str}{sp I:Sp}(F:fZ P w K mg base CX k f fd ps sp)(h:∀vs H Q E,I vs H Q E->sp vs H Q E):fZ P w K mg base CX k f fd ps I :=
 ⟨fun vs H Q E q=>F.len vs H Q E (h vs H Q E q),fun A outer s H args us vs Q E M e b v q=>F.run A outer s H args us vs Q E M e b v (h vs H Q E q)⟩
def kE(K:KY):Sp:=fun vs H Q E=>∀a,fW a->iR K 1 (kA a) vs H Q E
def all_mk{l:W.OpenLaw}{w:K0}{K:KY}{h:Heap}{mg:Str->KW KR}{fa:KU}(X:K.In h)(G:h.Ns mainGlobals mg)(cU:mg "law" = some (.ref fa))
  {R F a2 a3 a4 a5 a6 a7 a8 a9 U Y aC aD aE aF aG aH aI aJ aK aL aa ab ac ae af ag ah ai aj ak al am ao ap aq a1:KU}
  {I:Tok}
  {Z:Tok}
  {ar:Tok}
  {ay:Tok}
  {aX:Tok}
  {cV:KW KU} {bx:ClassData} {cW:K3 (KW KR)}
  {NB:KU} {cX:KR} {cY:KW KU} {bz:K3 DictEntry} {cZ:Nat} {d0:K3 (KW KR)}
  {aY:KW KU} {O:ClassData} {aw:K3 (KW KR)} {aZ b0 b2 b3 b4:KW KR} {au:KU} {be:KR} {b5:KW KU} {ax:K3 DictEntry} {b6:Nat} {b7:K3 (KW KR)}
  (d1:W.nsIn K mainGlobals "is_whole" = some (some (.ref aC)))
  (d2:K.lookup aC=some ⟨oc0,od0,.func (W.fnOf "is_whole" "is_whole" (qa WS) (qX WS) (qJ WS) .none kV0 dc0 pm0 an0 cd0 ct0),sl0⟩)
  (d3:W.codeIn K cd0 "is_whole" = true)
  (d4:W.keepIn K (.ref aC)=true)
  (d5:W.nsIn K mainGlobals "is_whole_within" = some (some (.ref aD)))
  (d6:K.lookup aD=some ⟨oc1,od1,.func (W.fnOf "is_whole_within" "is_whole_within" (qa Qc) (qX Qc) (qJ Qc) .none kV1 dc1 pm1 an1 cd1 ct1),sl1⟩)
  (d7:W.codeIn K cd1 "is_whole_within" = true)
  (d8:W.keepIn K (.ref aD)=true)
  (d9:W.nsIn K mainGlobals "is_rising" = some (some (.ref aE)))
  (da:K.lookup aE=some ⟨oc2,od2,.func (W.fnOf "is_rising" "is_rising" (qa wx) (qX wx) (qJ wx) .none kV2 dc2 pm2 an2 cd2 ct2),sl2⟩)
  (db:W.codeIn K cd2 "is_rising" = true)
  (dc:W.keepIn K (.ref aE)=true)
  (de:W.nsIn K mainGlobals "is_length" = some (some (.ref aF)))
  (df:K.lookup aF=some ⟨oc3,od3,.func (W.fnOf "is_length" "is_length" (qa wt) (qX wt) (qJ wt) .none kV3 dc3 pm3 an3 cd3 ct3),sl3⟩)
  (dg:W.codeIn K cd3 "is_length" = true)
  (dh:W.keepIn K (.ref aF)=true)
  (di:W.nsIn K mainGlobals "need_length" = some (some (.ref aG)))
  (dj:K.lookup aG=some ⟨oc4,od4,.func (W.fnOf "need_length" "need_length" (qa Qs) (qX Qs) (qJ Qs) .none kV4 dc4 pm4 an4 cd4 ct4),sl4⟩)
  (dk:W.codeIn K cd4 "need_length" = true)
  (dm:W.keepIn K (.ref aG)=true)
  (dn:W.nsIn K mainGlobals "is_bar" = some (some (.ref aH)))
  (dq:K.lookup aH=some ⟨oc5,od5,.func (W.fnOf "is_bar" "is_bar" (qa Wt) (qX Wt) (qJ Wt) .none kV5 dc5 pm5 an5 cd5 ct5),sl5⟩)
  (dr:W.codeIn K cd5 "is_bar" = true)
  (dt:W.keepIn K (.ref aH)=true)
  (du:W.nsIn K mainGlobals "places_of" = some (some (.ref aI)))
  (dv:K.lookup aI=some ⟨oc6,od6,.func (W.fnOf "places_of" "places_of" (qa wJ) (qX wJ) (qJ wJ) .none kV6 dc6 pm6 an6 cd6 ct6),sl6⟩)
  (dw:W.codeIn K cd6 "places_of" = true)
  (dy:W.keepIn K (.ref aI)=true)
  (dz:W.nsIn K mainGlobals "is_signed_bar" = some (some (.ref aJ)))
  (dA:K.lookup aJ=some ⟨oc7,od7,.func (W.fnOf "is_signed_bar" "is_signed_bar" (qa Qk) (qX Qk) (qJ Qk) .none kV7 dc7 pm7 an7 cd7 ct7),sl7⟩)
  (dB:W.codeIn K cd7 "is_signed_bar" = true)
  (dC:W.keepIn K (.ref aJ)=true)
  (dD:W.nsIn K mainGlobals "covers_of" = some (some (.ref aK)))
  (dE:K.lookup aK=some ⟨oc8,od8,.func (W.fnOf "covers_of" "covers_of" (qa wy) (qX wy) (qJ wy) .none kV8 dc8 pm8 an8 cd8 ct8),sl8⟩)
  (dF:W.codeIn K cd8 "covers_of" = true)
  (dG:W.keepIn K (.ref aK)=true)
  (dH:W.nsIn K mainGlobals "is_signed" = some (some (.ref aL)))
  (dI:K.lookup aL=some ⟨oc9,od9,.func (W.fnOf "is_signed" "is_signed" (qa wq) (qX wq) (qJ wq) .none kV9 dc9 pm9 an9 cd9 ct9),sl9⟩)
  (dJ:W.codeIn K cd9 "is_signed" = true)
  (dL:W.keepIn K (.ref aL)=true)
  (bA:W.nsIn K mainGlobals "_law_cell" = some (some (.ref aa)))
  (bC:K.lookup aa=some ⟨oc10,od10,.func (W.fnOf "_law_cell" "_law_cell" (qa WI) (qX WI) (qJ WI) .none kV10 dc10 pm10 an10 cd10 ct10),sl10⟩)
  (bD:W.codeIn K cd10 "_law_cell" = true)
  (bE:W.keepIn K (.ref aa)=true)
  (bF:W.nsIn K mainGlobals "_law_box" = some (some (.ref ab)))
  (bG:K.lookup ab=some ⟨oc11,od11,.func (W.fnOf "_law_box" "_law_box" (qa Ws) (qX Ws) (qJ Ws) .none kV11 dc11 pm11 an11 cd11 ct11),sl11⟩)
  (bH:W.codeIn K cd11 "_law_box" = true)
  (bI:W.keepIn K (.ref ab)=true)
  (bJ:W.nsIn K mainGlobals "_law_take" = some (some (.ref ac)))
  (bK:K.lookup ac=some ⟨oc12,od12,.func (W.fnOf "_law_take" "_law_take" (qa WP) (qX WP) (qJ WP) .none kV12 dc12 pm12 an12 cd12 ct12),sl12⟩)
  (bM:W.codeIn K cd12 "_law_take" = true)
  (bN:W.keepIn K (.ref ac)=true)
  (bO:W.nsIn K mainGlobals "_law_whole" = some (some (.ref ae)))
  (bQ:K.lookup ae=some ⟨oc13,od13,.func (W.fnOf "_law_whole" "_law_whole" (qa wp) (qX wp) (qJ wp) .none kV13 dc13 pm13 an13 cd13 ct13),sl13⟩)
  (bR:W.codeIn K cd13 "_law_whole" = true)
  (bS:W.keepIn K (.ref ae)=true)
  (bT:W.nsIn K mainGlobals "_law_odd" = some (some (.ref af)))
  (bU:K.lookup af=some ⟨oc14,od14,.func (W.fnOf "_law_odd" "_law_odd" (qa Wp) (qX Wp) (qJ Wp) .none kV14 dc14 pm14 an14 cd14 ct14),sl14⟩)
  (bV:W.codeIn K cd14 "_law_odd" = true)
  (bW:W.keepIn K (.ref af)=true)
  (bX:W.nsIn K mainGlobals "_law_kind" = some (some (.ref ag)))
  (bY:K.lookup ag=some ⟨oc15,od15,.func (W.fnOf "_law_kind" "_law_kind" (qa WQ) (qX WQ) (qJ WQ) .none kV15 dc15 pm15 an15 cd15 ct15),sl15⟩)
  (bZ:W.codeIn K cd15 "_law_kind" = true)
  (c0:W.keepIn K (.ref ag)=true)
  (c1:W.nsIn K mainGlobals "_law_same" = some (some (.ref ah)))
  (c2:K.lookup ah=some ⟨oc16,od16,.func (W.fnOf "_law_same" "_law_same" (qa WL) (qX WL) (qJ WL) .none kV16 dc16 pm16 an16 cd16 ct16),sl16⟩)
  (c3:W.codeIn K cd16 "_law_same" = true)
  (c4:W.keepIn K (.ref ah)=true)
  (c5:W.nsIn K mainGlobals "_law_no_length" = some (some (.ref ai)))
  (c6:K.lookup ai=some ⟨oc17,od17,.func (W.fnOf "_law_no_length" "_law_no_length" (qa Qm) (qX Qm) (qJ Qm) .none kV17 dc17 pm17 an17 cd17 ct17),sl17⟩)
  (c7:W.codeIn K cd17 "_law_no_length" = true)
  (c8:W.keepIn K (.ref ai)=true)
  (c9:W.nsIn K mainGlobals "_law_cover" = some (some (.ref aj)))
  (ca:K.lookup aj=some ⟨oc18,od18,.func (W.fnOf "_law_cover" "_law_cover" (qa wu) (qX wu) (qJ wu) .none kV18 dc18 pm18 an18 cd18 ct18),sl18⟩)
  (cb:W.codeIn K cd18 "_law_cover" = true)
  (cc:W.keepIn K (.ref aj)=true)
  (ce:W.nsIn K mainGlobals "_law_together" = some (some (.ref ak)))
  (cf:K.lookup ak=some ⟨oc19,od19,.func (W.fnOf "_law_together" "_law_together" (qa Qx) (qX Qx) (qJ Qx) .none kV19 dc19 pm19 an19 cd19 ct19),sl19⟩)
  (cg:W.codeIn K cd19 "_law_together" = true)
  (ch:W.keepIn K (.ref ak)=true)
  (ci:W.nsIn K mainGlobals "_law_is_share" = some (some (.ref al)))
  (cj:K.lookup al=some ⟨oc20,od20,.func (W.fnOf "_law_is_share" "_law_is_share" (qa Qw) (qX Qw) (qJ Qw) .none kV20 dc20 pm20 an20 cd20 ct20),sl20⟩)
  (ck:W.codeIn K cd20 "_law_is_share" = true)
  (cl:W.keepIn K (.ref al)=true)
  (cm:W.nsIn K mainGlobals "_law_is_signed" = some (some (.ref am)))
  (cp:K.lookup am=some ⟨oc21,od21,.func (W.fnOf "_law_is_signed" "_law_is_signed" (qa Qj) (qX Qj) (qJ Qj) .none kV21 dc21 pm21 an21 cd21 ct21),sl21⟩)
  (cq:W.codeIn K cd21 "_law_is_signed" = true)
  (cr:W.keepIn K (.ref am)=true)
  (cu:W.nsIn K mainGlobals "_law_shares" = some (some (.ref ao)))
  (cv:K.lookup ao=some ⟨oc22,od22,.func (W.fnOf "_law_shares" "_law_shares" (qa wY) (qX wY) (qJ wY) .none kV22 dc22 pm22 an22 cd22 ct22),sl22⟩)
  (cw:W.codeIn K cd22 "_law_shares" = true)
  (cx:W.keepIn K (.ref ao)=true)
  (cz:W.nsIn K mainGlobals "_law_bent" = some (some (.ref ap)))
  (cA:K.lookup ap=some ⟨oc23,od23,.func (W.fnOf "_law_bent" "_law_bent" (qa WR) (qX WR) (qJ WR) .none kV23 dc23 pm23 an23 cd23 ct23),sl23⟩)
  (cB:W.codeIn K cd23 "_law_bent" = true)
  (cC:W.keepIn K (.ref ap)=true)
  (cD:W.nsIn K mainGlobals "_law_asked" = some (some (.ref aq)))
  (cE:K.lookup aq=some ⟨oc24,od24,.func (W.fnOf "_law_asked" "_law_asked" (qa wO) (qX wO) (qJ wO) .none kV24 dc24 pm24 an24 cd24 ct24),sl24⟩)
  (cF:W.codeIn K cd24 "_law_asked" = true)
  (cG:W.keepIn K (.ref aq)=true)
  (b9:W.nsIn K mainGlobals "law" = some (some (.ref a1)))
  (ba:K.lookup a1=some ⟨oc25,od25,.func (W.fnOf "law" "law" (qa zz) (qX zz) (qJ zz) .none kV25 dc25 pm25 an25 cd25 ct25),sl25⟩)
  (bb:W.codeIn K cd25 "law" = true)
  (bc:W.keepIn K (.ref a1)=true)
  (n_ValueError:W.nsIn K mainGlobals "ValueError" = some none)
  (n_abs:W.nsIn K mainGlobals "abs" = some none)
  (n_all:W.nsIn K mainGlobals "all" = some none)
  (n_bool:W.nsIn K mainGlobals "bool" = some none)
  (n_int:W.nsIn K mainGlobals "int" = some none)
  (n_isinstance:W.nsIn K mainGlobals "isinstance" = some none)
  (n_len:W.nsIn K mainGlobals "len" = some none)
  (n_list:W.nsIn K mainGlobals "list" = some none)
  (n_max:W.nsIn K mainGlobals "max" = some none)
  (n_min:W.nsIn K mainGlobals "min" = some none)
  (n_range:W.nsIn K mainGlobals "range" = some none)
  (n_repr:W.nsIn K mainGlobals "repr" = some none)
  (n_set:W.nsIn K mainGlobals "set" = some none)
  (n_sorted:W.nsIn K mainGlobals "sorted" = some none)
  (n_sum:W.nsIn K mainGlobals "sum" = some none)
  (n_tuple:W.nsIn K mainGlobals "tuple" = some none)
  (M:W.nsIn K mainGlobals "LEAST_LENGTH" = some (some (.int 2 I)))
  (a0:W.nsIn K mainGlobals "MOST_LENGTH" = some (some (.int 5 Z)))
  (as:W.nsIn K mainGlobals "FURTHEST" = some (some (.int 40 ar)))
  (az:W.nsIn K mainGlobals "ACROSS" = some (some (.int 0 ay)))
  (b8:W.nsIn K mainGlobals "DOWN" = some (some (.int 1 aX)))
  (dM:nV K=true)
  (cH:W.nsIn K mainGlobals "BarError" = some (some (.ref R)))
  (cI:W.nsIn K mainGlobals "NoLength" = some (some (.ref F)))
  (cJ:W.nsIn K mainGlobals "NoNumber" = some (some (.ref a2)))
  (cK:W.nsIn K mainGlobals "NoBars" = some (some (.ref a3)))
  (cM:W.nsIn K mainGlobals "NoBox" = some (some (.ref a4)))
  (cN:W.nsIn K mainGlobals "NoWeights" = some (some (.ref a5)))
  (cO:W.nsIn K mainGlobals "NoSorts" = some (some (.ref a6)))
  (cQ:W.nsIn K mainGlobals "NoTurn" = some (some (.ref a7)))
  (cR:W.nsIn K mainGlobals "NoPlace" = some (some (.ref a8)))
  (cS:W.nsIn K mainGlobals "NoText" = some (some (.ref a9)))
  (bf:W.nsIn K mainGlobals "NoRow" = some (some (.ref U)))
  (bg:W.nsIn K mainGlobals "TooMany" = some (some (.ref Y)))
  (oB:K.lookup R=some ⟨.type "type",cV,.cls bx,cW⟩)
  (nB:bx.ns=NB)
  (dN:K.lookup NB=some ⟨cX,cY,.dict bz cZ,d0⟩)
  (dO:bz.toList.all lf=true)
  (dQ:W.nsIn K NB "__init__" = some none)
  (bB:W.mroIn K R (.type "BaseException")=some true)
  (bh:K.lookup F=some ⟨.type "type",aY,.cls O,aw⟩)
  (bi:O.mro= .ref F :: .ref R::hX)
  (bj:aw.toList=[aZ,b0,b2,b3,some (.builtin "ValueError.__new__"),b4])
  (bm:O.hasDel=false)
  (aM:O.ns=au)
  (bn:K.lookup au=some ⟨be,b5,.dict ax b6,b7⟩)
  (bo:ax.toList.all lf=true)
  (bp:W.nsIn K au "__init__" = some none)
  (e_Z1:W.mroIn K F (.ref R)=some true)
  (cT:W.kitOne K (.ref F) (.type "ValueError")=some true)
  (aN:W.kitOne K (.ref F) (.ref F)=some true)
  (aO:W.kitOne K (.ref F) (.ref a2)=some false)
  (aP:W.kitOne K (.ref F) (.ref a3)=some false)
  (aQ:W.kitOne K (.ref F) (.ref a4)=some false)
  (aR:W.kitOne K (.ref F) (.ref a5)=some false)
  (aS:W.kitOne K (.ref F) (.ref a6)=some false)
  (aT:W.kitOne K (.ref F) (.ref a7)=some false)
  (aU:W.kitOne K (.ref F) (.ref a8)=some false)
  (aV:W.kitOne K (.ref F) (.ref a9)=some false)
  (aA:W.kitOne K (.ref F) (.ref U)=some false)
  (aB:W.kitOne K (.ref F) (.ref Y)=some false)
  (bq:W.findIn K (.ref F) "__getattribute__" = some (some (.builtin "BaseException.__getattribute__")))
  (bt:W.findIn K (.ref F) "__getattr__" = some none)
  (bu:∀od,W.findObj K F od "__class__" = some (.bind (.builtin "getset_descriptor.__get__") (.builtin "object.__class__")))
  (bv:W.mroIn K F (.type "object")=some true)
  (bw:W.mroIn K F (.type "BaseException")=some true)
  (ds:fW ⟨R,F,a2,a3,a4,a5,a6,a7,a8,a9,U,Y,aC,aD,aE,aF,aG,aH,aI,aJ,aK,aL,aa,ab,ac,ae,af,ag,ah,ai,aj,ak,al,am,ao,ap,aq,a1⟩) :
  ∃fd:FuncData,(∀(s:KS) (v:KR),BindsTo s fd ⟨[v],[]⟩ [("_law_script",v)])∧∀base:Heap,K.In base->base.Ns mainGlobals mg->fZ l.prog w K mg base (fB l.prog w) 8 fa fd ["_law_script"] (kE K):=by
 have e:a1=fa:=Value.ref.inj (Aj ((Ae X G b9).symm.trans cU));subst e;have V:Env K mg ⟨R,F,a2,a3,a4,a5,a6,a7,a8,a9,U,Y,aC,aD,aE,aF,aG,aH,aI,aJ,aK,aL,aa,ab,ac,ae,af,ag,ah,ai,aj,ak,al,am,ao,ap,aq,a1⟩:=by
  refine { kit:=⟨fun t c b hk=>?_,fun x c b hk=>?_⟩,nk:=Ij dM,n_ValueError:=A7 X G n_ValueError,n_abs:=A7 X G n_abs,n_all:=A7 X G n_all,n_bool:=A7 X G n_bool,n_int:=A7 X G n_int,n_isinstance:=A7 X G n_isinstance,n_len:=A7 X G n_len,n_list:=A7 X G n_list,n_max:=A7 X G n_max,n_min:=A7 X G n_min,n_range:=A7 X G n_range,n_repr:=A7 X G n_repr,n_set:=A7 X G n_set,n_sorted:=A7 X G n_sorted,n_sum:=A7 X G n_sum,n_tuple:=A7 X G n_tuple,c_LEAST_LENGTH:=⟨_,Ae X G M⟩,c_MOST_LENGTH:=⟨_,Ae X G a0⟩,c_FURTHEST:=⟨_,Ae X G as⟩,c_ACROSS:=⟨_,Ae X G az⟩,c_DOWN:=⟨_,Ae X G b8⟩,k_Z0:=Ae X G cH,k_Z1:=Ae X G cI,k_Z2:=Ae X G cJ,k_Z3:=Ae X G cK,k_Z4:=Ae X G cM,k_Z5:=Ae X G cN,k_Z6:=Ae X G cO,k_Z7:=Ae X G cQ,k_Z8:=Ae X G cR,k_Z9:=Ae X G cS,k_Z10:=Ae X G bf,k_Z11:=Ae X G bg,x_Z1:=Ip bh bi bj bm (by rw[aM];exact rE bn bo) (by rw[aM];exact bp) oB (by rw[nB];exact rE dN dO) (by rw[nB];exact dQ),e_Z1:=e_Z1,o_Z0:=⟨_,_,_,oB⟩,b_Z0:=bB,m_is_whole:=Ae X G d1,f_is_whole:=⟨_,QT (st:=WS) d2 d3 d4⟩,m_is_whole_within:=Ae X G d5,f_is_whole_within:=⟨_,QT (st:=Qc) d6 d7 d8⟩,m_is_rising:=Ae X G d9,f_is_rising:=⟨_,QT (st:=wx) da db dc⟩,m_is_length:=Ae X G de,f_is_length:=⟨_,QT (st:=wt) df dg dh⟩,m_need_length:=Ae X G di,f_need_length:=⟨_,QT (st:=Qs) dj dk dm⟩,m_is_bar:=Ae X G dn,f_is_bar:=⟨_,QT (st:=Wt) dq dr dt⟩,m_places_of:=Ae X G du,f_places_of:=⟨_,QT (st:=wJ) dv dw dy⟩,m_is_signed_bar:=Ae X G dz,f_is_signed_bar:=⟨_,QT (st:=Qk) dA dB dC⟩,m_covers_of:=Ae X G dD,f_covers_of:=⟨_,QT (st:=wy) dE dF dG⟩,m_is_signed:=Ae X G dH,f_is_signed:=⟨_,QT (st:=wq) dI dJ dL⟩,m_law_cell:=Ae X G bA,f_law_cell:=⟨_,QT (st:=WI) bC bD bE⟩,m_law_box:=Ae X G bF,f_law_box:=⟨_,QT (st:=Ws) bG bH bI⟩,m_law_take:=Ae X G bJ,f_law_take:=⟨_,QT (st:=WP) bK bM bN⟩,m_law_whole:=Ae X G bO,f_law_whole:=⟨_,QT (st:=wp) bQ bR bS⟩,m_law_odd:=Ae X G bT,f_law_odd:=⟨_,QT (st:=Wp) bU bV bW⟩,m_law_kind:=Ae X G bX,f_law_kind:=⟨_,QT (st:=WQ) bY bZ c0⟩,m_law_same:=Ae X G c1,f_law_same:=⟨_,QT (st:=WL) c2 c3 c4⟩,m_law_no_length:=Ae X G c5,f_law_no_length:=⟨_,QT (st:=Qm) c6 c7 c8⟩,m_law_cover:=Ae X G c9,f_law_cover:=⟨_,QT (st:=wu) ca cb cc⟩,m_law_together:=Ae X G ce,f_law_together:=⟨_,QT (st:=Qx) cf cg ch⟩,m_law_is_share:=Ae X G ci,f_law_is_share:=⟨_,QT (st:=Qw) cj ck cl⟩,m_law_is_signed:=Ae X G cm,f_law_is_signed:=⟨_,QT (st:=Qj) cp cq cr⟩,m_law_shares:=Ae X G cu,f_law_shares:=⟨_,QT (st:=wY) cv cw cx⟩,m_law_bent:=Ae X G cz,f_law_bent:=⟨_,QT (st:=WR) cA cB cC⟩,m_law_asked:=Ae X G cD,f_law_asked:=⟨_,QT (st:=wO) cE cF cG⟩,m_law:=Ae X G b9,f_law:=⟨_,QT (st:=zz) ba bb bc⟩ }
  ·have hnd:=ds.nd;unfold kit at hk;split at hk;exact IM hk
   ·split at hk
    ·rename_i x d hx;cases hk;have av:=hx.1;have aW:=hx.2;unfold wD at av;unfold Ad.kinds at aW;simp only[AK,Ak,CN]at av aW;have e1:=av
     ·rcases aW with e2|e2|e2|e2|e2|e2|e2|e2|e2|e2|e2
      ·rw[e1,e2,A1];exact aN
      ·rw[e1,e2,show (F==a2)=false from Ag.mpr (QL ds).1];exact aO
      ·rw[e1,e2,show (F==a3)=false from Ag.mpr (QL ds).2.1];exact aP
      ·rw[e1,e2,show (F==a4)=false from Ag.mpr (QL ds).2.2.1];exact aQ
      ·rw[e1,e2,show (F==a5)=false from Ag.mpr (QL ds).2.2.2.1];exact aR
      ·rw[e1,e2,show (F==a6)=false from Ag.mpr (QL ds).2.2.2.2.1];exact aS
      ·rw[e1,e2,show (F==a7)=false from Ag.mpr (QL ds).2.2.2.2.2.1];exact aT
      ·rw[e1,e2,show (F==a8)=false from Ag.mpr (QL ds).2.2.2.2.2.2.1];exact aU
      ·rw[e1,e2,show (F==a9)=false from Ag.mpr (QL ds).2.2.2.2.2.2.2.1];exact aV
      ·rw[e1,e2,show (F==U)=false from Ag.mpr (QL ds).2.2.2.2.2.2.2.2.1];exact aA
      ·rw[e1,e2,show (F==Y)=false from Ag.mpr (QL ds).2.2.2.2.2.2.2.2.2];exact aB
    ·cases hk
   ·split at hk
    ·rename_i x T hx;cases hk;have av:=hx.1;have aW:=hx.2;subst aW;unfold wD at av;simp only[AK,Ak,CN]at av;have e1:=av;rw[e1];exact cT
    ·cases hk
   ·cases hk
  ·have hm:=IL hk;unfold wD at hm;simp only[AK,Ak,CN]at hm;have e1:=hm;rw[e1];exact⟨bq,bt,bu,bv,bw⟩
 refine⟨W.fnOf "law" "law" (qa zz) (qX zz) (qJ zz) .none kV25 dc25 pm25 an25 cd25 ct25,fun s v=>.of_eq rfl,fun base _ _=>?_⟩;exact ul (Hl V (QT (st:=zz) ba bb bc)) fun vs H Q E q=>q _ ds
def F4{l:W.OpenLaw}{n k:Nat}{q:KZ}{M:KQ Str}{XP:(Str->KW KR)->Heap->Prop}{YP:K0->Heap->Prop}{d:DefRec}{K:Params->KY}{CX:K0->CXT}{sp:K0->Sp}{x:Str}
  (hn:l.most=some n) (Z:n≤sizeLine) (a0:d.params.defaults=[]) (hr:eZ k callerA)
  (hY:∀(w:K0) (h:Heap),YP w h->(K w.params).In h)
  (F:∀(w:K0) (mg:Str->KW KR) (fa:KU) (h:Heap),(K w.params).In h->h.Ns mainGlobals mg->XP mg h->mg d.name=some (.ref fa) ->
   ∃fd:FuncData,(∀(s:KS) (u:KR),BindsTo s fd ⟨[u],[]⟩ [(x,u)]) ∧
    ∀base:Heap,(K w.params).In base->base.Ns mainGlobals mg->fZ l.prog w (K w.params) mg base (CX w) k fa fd [x] (sp w))
  (a1:∀(w:K0) (H:Hp) (a:KU) (ns:KQ Int),ns.length≤n->(∀k∈ns,Builtin.Int.intBits k≤2 ^ 20)->ln H->fq (K w.params) H a (ns.map V.int)->sp w [.ref a] H (fun v _=>v= .bl true) fun _ _ _=>False)
  (a2:∀(w:K0) (H:Hp) (s:KS) (e:KR) (s':KS),CX w [] H s (fun _ _ _=>False) e s'->False) :
  W.WalkO q M XP YP l.row.toRowW d [] (fun f vs=>PySem.call f vs):=by refine KJ.attach_callB hn a0 fun w s₀ s₁ mg mb fa o pm cd Kv a vs ns G Y ho hd a4 a3 U O I R hg=>?_;have KX:=hY w _ Y;obtain⟨fd,hb,hF⟩:=F w mg fa _ KX G.T.g G.X a3;exact Fl KX G.T.g G.T.b G.T.builtins G.T.nolimit hg U O (Ab I Z) hr hF hb (fun H hO hS=>a1 w H a ns I R hO hS) fun H e s'=>a2 w H s₁ e s'
def za{K:KY}{H:Hp}{b:Bz}:∀ns:KQ Int,dS K H b (ns.map PV.int) (ns.map V.int)|[]=>dS.nil|n::ns=>dS.cons Qz (za ns)
def GY(Ko:∀(a:Ad) (ns:KQ Int),fW a->ns.length≤63->(∀k∈ns,Builtin.Int.intBits k≤2 ^ 20)->∃st,kA a [.lst (ns.map PV.int)] []= .ok (.bl true) st){K:KY}{H:Hp}{a:KU}{ns:KQ Int}(I:ns.length≤63)(M:∀k∈ns,Builtin.Int.intBits k≤2 ^ 20)(O:fq K H a (ns.map V.int)):kE K [.ref a] H (fun v _=>v= .bl true) fun _ _ _=>False:=by
 intro ad hd;obtain⟨st,e⟩:=Ko ad ns hd I M;refine⟨rfl,⟨[],[]⟩,[.lst (ns.map PV.int)],[],⟨rfl,Cj,fun i x h=>by simp at h,fun a F=>(Ak F).elim,fun a F=>(Ak F).elim⟩,dS.cons ?_ dS.nil,?_⟩;unfold RV;exact⟨a,_,rfl,O.imp (fun h=>⟨h,Ak,Ak⟩) id,za ns⟩;rw[e];intro v H' b' _ _ r;unfold RV at r;exact r
def walk31(Ko:∀(a:Ad) (ns:KQ Int),fW a->ns.length≤63->(∀k∈ns,Builtin.Int.intBits k≤2 ^ 20)->∃st,kA a [.lst (ns.map PV.int)] []= .ok (.bl true) st){l:W.OpenLaw}{q:KZ}{I:KQ Str}{XP:(Str->KW KR)->Heap->Prop}{O:K0->Heap->Prop}{d:DefRec}{K:Params->KY}(R:l.most=some 63)(M:d.params.defaults=[])
  (U:∀(w:K0) (h:Heap),O w h->(K w.params).In h)
  (F:∀(w:K0) (mg:Str->KW KR) (fa:KU) (h:Heap),(K w.params).In h->h.Ns mainGlobals mg->XP mg h->mg d.name=some (.ref fa) ->
   ∃fd:FuncData,(∀(s:KS) (u:KR),BindsTo s fd ⟨[u],[]⟩ [("_law_script",u)])∧∀base:Heap,(K w.params).In base->base.Ns mainGlobals mg->fZ l.prog w (K w.params) mg base (fB l.prog w) 8 fa fd ["_law_script"] (kE (K w.params))) :
  W.WalkO q I XP O l.row.toRowW d [] (fun f vs=>PySem.call f vs) :=
 F4 (n:=63) (k:=8) (x := "_law_script") (CX:=fun w=>fB l.prog w) (sp:=fun w=>kE (K w.params)) R (by decide) M ⟨fun _=>rfl,by decide,by decide,rfl⟩ U F (fun _ _ a ns Y Z _ hS=>GY Ko Y Z hS) fun _ _ _ _ _ z=>by obtain⟨_,_,_,_,_,_,_,_,_,_,_,_,q⟩:=z;exact q
end K51
end
section
namespace PySem.W.Fast
def tw783013469088756680:=0
def tw16195515366663434605:=0
def tw681247654132636545:=0
def tw2318628878788500200:=0
def tw4769711094809398637:=0
def tw10611759250952303705:=0
def tw555332929223552577:=0
def tw13315532720233700582:=0
def tw7830556657655117917:=0
def tw15163499918957514686:=0
def tw14638152038109702727:=0
def tw7022052105442873742:=0
def tw10539591932249469463:=0
def tw11009914375733626123:=0
def tw9754137670373194388:=0
def tw7213332138886174982:=0
def tw14009992470686790932:=0
def tw5699518641509006956:=0
def tw16598311022114157095:=0
def tw15472901814679255227:=0
def tw13609101249091059547:=0
def tw3873080428257230377:=0
def tw1385317175841760275:=0
def tw11271632362471292392:=0
def tw6565616070569251589:=0
def tw4687772104372718761:=0
def tw4501603479025976002:=0
def tw12375140666837501394:=0
def tw4376585326933789777:=0
def tw17453192146365447157:=0
def tw13783824000059141578:=0
def tw2085589383232529270:=0
def tw7242730452942632775:=0
def tw11180005034708170033:=0
def tw12953017020709237840:=0
def tw12400139719124371262:=0
def tw10814944361573063654:=0
def tw17105170941661346412:=0
def tw8825109819064759955:=0
def tw508815009034599051:=0
def tw12633406913792791525:=0
def tw15673759698698048665:=0
def tw13881492515337807928:=0
def tw8765027274075086689:=0
def tw10639776867310046577:=0
def tw4346273832388576940:=0
def tw1193735750696281140:=0
def tw1970824710571142137:=0
def tw8181417884889893258:=0
end PySem.W.Fast
open PySem PySem.W PyProof.Rows
set_option maxRecDepth 100000 in
set_option maxHeartbeats 0 in
theorem PySem.Challenge.cw_barfloors_k51_signed_fillings_looked_at_holds : PySem.Challenge.rw_barfloors_k51_signed_fillings_looked_at.Holds := by
  w_on; o_law; k_head; (case hw => w_witness2)
  k_fill
  refine K51.walk31 K51.law_true (l := PySem.Challenge.rw_barfloors_k51_signed_fillings_looked_at) rfl rfl (fun w h Y => PySem.W.kIn_of Y) ?F
  case F =>
    intro w mg fa h KX G XX hmg
    refine' K51.all_mk KX G hmg ?zzA ?zzB ?zzC ?zzD ?zzE ?zzF ?zzG ?zzH ?zzI ?zzJ ?zzK ?zzL ?zzM ?zzN ?zzO ?zzP ?zzQ ?zzR ?zzS ?zzT ?zzU ?zzV ?zzW ?zzX ?zzY ?zzZ ?zza ?zzb ?zzc ?zzd ?zze ?zzf ?zzg ?zzh ?zzi ?zzj ?zzk ?zzl ?zzm ?zzn ?zzo ?zzp ?zzq ?zzr ?zzs ?zzt ?zzu ?zzv ?zzw ?zzx ?zzy ?zzz ?zyA ?zyB ?zyC ?zyD ?zyE ?zyF ?zyG ?zyH ?zyI ?zyJ ?zyK ?zyL ?zyM ?zyN ?zyO ?zyP ?zyQ ?zyR ?zyS ?zyT ?zyU ?zyV ?zyW ?zyX ?zyY ?zyZ ?zya ?zyb ?zyc ?zyd ?zye ?zyf ?zyg ?zyh ?zyi ?zyj ?zyk ?zyl ?zym ?zyn ?zyo ?zyp ?zyq ?zyr ?zys ?zyt ?zyu ?zyv ?zyw ?zyx ?zyy ?zyz ?zxA ?zxB ?zxC ?zxD ?zxE ?zxF ?zxG ?zxH ?zxI ?zxJ ?zxK ?zxL ?zxM ?zxN ?zxO ?zxP ?zxQ ?zxR ?zxS ?zxT ?zxU ?zxV ?zxW ?zxX ?zxY ?zxZ ?zxa ?zxb ?zxc ?zxd ?zxe ?zxf ?zxg ?zxh ?zxi ?zxj ?zxk ?zxl ?zxm ?zxn ?zxo ?zxp ?zxq ?zxr ?zxs ?zxt ?zxu ?zxv ?zxw ?zxx ?zxy ?zxz ?zwA ?zwB ?zwC ?zwD ?zwE ?zwF ?zwG ?zwH ?zwI ?zwJ ?zwK ?zwL ?zwM ?zwN ?zwO
    (case zzA|zzB|zzC|zzD|zzE|zzF|zzG|zzH|zzI|zzJ|zzK|zzL|zzM|zzN|zzO|zzP|zzQ|zzR|zzS|zzT|zzU|zzV|zzW|zzX|zzY|zzZ|zza|zzb|zzc|zzd|zze|zzf|zzg|zzh|zzi|zzj|zzk|zzl|zzm|zzn|zzo|zzp|zzq|zzr|zzs|zzt|zzu|zzv|zzw|zzx|zzy|zzz|zyA|zyB|zyC|zyD|zyE|zyF|zyG|zyH|zyI|zyJ|zyK|zyL|zyM|zyN|zyO|zyP|zyQ|zyR|zyS|zyT|zyU|zyV|zyW|zyX|zyY|zyZ|zya|zyb|zyc|zyd|zye|zyf|zyg|zyh|zyi|zyj|zyk|zyl|zym|zyn|zyo|zyp|zyq|zyr|zys|zyt|zyu|zyv|zyw|zyx|zyy|zyz|zxA|zxB|zxC|zxD|zxE|zxF|zxG|zxH|zxI|zxJ|zxK|zxL|zxM|zxN|zxO|zxP|zxQ|zxR|zxS|zxT|zxU => k_is)
    (case zxV => rfl)
    (case zxW|zxX|zxY|zxZ|zxa|zxb|zxc|zxd|zxe|zxf|zxg|zxh|zxi => k_is)
    (case zxj => rfl)
    (case zxk => k_is)
    (case zxl => rfl)
    (case zxm|zxn|zxo => k_is)
    (case zxp|zxq|zxr|zxs => rfl)
    (case zxt => k_is)
    (case zxu => rfl)
    (case zxv|zxw => k_is)
    (case zxx|zxy|zxz|zwA|zwB|zwC|zwD|zwE|zwF|zwG|zwH|zwI => rfl)
    (case zwJ|zwK => k_is)
    (case zwL => (intro od; rfl))
    (case zwM|zwN => k_is)
    (case zwO => decide)
end
