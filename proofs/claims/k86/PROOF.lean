import PyProof.Rows.All
import Wide.All
import OpenK.AllK
import Wide.FinOn
import PyProof.EqAt
import PyProof.EqKinds
import PyProof.TupleCall
import Lean
import PyProof.NeKinds
import PyProof.Rows.RuleDivmod
import PyProof.Rows.FactsN_divmod
import PyProof.DictItems
import KE.KPairComp
import PyProof.Draws
import PyProof.IsRules
import KE.KDictList
import KE.KItemsList
import PyProof.EnumMake
import KE.KRevIter
import KE.KDictOf
import PyProof.AttrMissHeap
import PyProof.Rows.SortRunsK
import PySem.Challenge.RW_barfloors_k86_lines_filled
abbrev EK:=List
abbrev EL:=PySem.Value
abbrev EM:=PySem.Shared
abbrev EN:=PySem.Addr
abbrev EO:=Option
abbrev EQ:=PySem.W.Frag
abbrev ER:=PySem.Program
abbrev EU:=PySem.World
abbrev EW:=PySem.Around
abbrev EY:=PySem.Expr
abbrev EZ:=Array
def AA:=@PySem.wpAny_bind
def AB:=@PySem.wpAny_pure
def AC:=@if_pos
def AD:=@PySem.Heap.get?_push_of_some
def AE:=@List.getElem?_eq_getElem
def AF:=@if_neg
def AG:=@List.length_map
def AH:=@List.getD_eq_getElem?_getD
def AI:=@beq_eq_false_iff_ne
def AJ:=@List.mem_cons
def AK:=@PySem.Heap.lt_size
def AL:=@PyProof.Rows.wpS_bind
def AM:=@Array.getElem?_eq_getElem
def AN:=@Nat.le_refl
def AO:=@List.mem_cons_of_mem
def AQ:=@PySem.Heap.get?_push_size
def AR:=@List.size_toArray
def AS:=@PyProof.Rows.wpS_pure
def AT:=@List.mem_cons_self
def AU:=@List.map_cons
def AV:=@Nat.ne_of_lt
def AW:=@Nat.le_trans
def AX:=@List.mem_singleton
def AY:=@PySem.Heap.get?_update_other
def AZ:=@PySem.W.mg_of
def Aa:=@List.length_cons
def Ab:=@List.mem_append
def Ac:=@List.length_append
def Ae:=@List.not_mem_nil
def Af:=@decide_eq_true
def Ag:=@List.getElem?_eq_some_iff
def Ah:=@List.append_assoc
def Ai:=@Array.length_toList
def Aj:=@beq_self_eq_true
def Ak:=@decide_eq_false
def Al:=@Option.some.inj
def Am:=@List.getElem?_map
def An:=@List.mem_map
def Ao:=@Nat.lt_of_lt_of_le
def Ap:=@Array.getD_eq_getD_getElem?
def Aq:=@List.getElem?_append_left
def Ar:=@Bool.and_eq_true
def As:=@List.pairwise_append
def At:=@List.lookup_cons
def Au:=@Nat.zero_add
def Av:=@PySem.wpAny_field
def Aw:=@PySem.wpAny_of_eq
def Ax:=@Array.toList_push
def Ay:=@PySem.wpAny_holding
def Az:=@PySem.Heap.get?_update_self
def A0:=@List.all_eq_true
def A3:=@List.pairwise_cons
def A4:=@PySem.W.mg_none_of
def A5:=@congrArg
def A6:=@PySem.wpAny_callSpecial?_slot
def A7:=@PyProof.Rows.KeyOrd.kle_trans
def A8:=@PyProof.Rows.KeyOrd.kle_of_klt
def A9:=@List.getElem?_append_right
def BA:=@PySem.wpAny_call_entry
def BB:=@List.getElem?_set_self
def BC:=@PySem.Obj.data_mapFields
def BD:=@List.mem_append_right
def BE:=@List.map_congr_left
def BF:=@Array.perm_iff_toList_perm
def BG:=@Nat.lt_succ_of_lt
def BH:=@PyProof.Rows.wpS_forRange
def BI:=@PySem.Heap.size_push
def BJ:=@PySem.codeAny_builtin
def BK:=@PyProof.Rows.KeyOrd.kle_refl
def BL:=@List.map_map
def BM:=@PySem.wpAny_rule
def BN:=@Array.toList_append
def BO:=@PySem.wpAny_newObj_type
def BP:=@PySem.wpAny_seqItems
def BQ:=@List.getElem?_set_ne
def BR:=@PySem.Around.under_plainId
def BS:=@Nat.add_sub_cancel
def BU:=@Int.toNat_natCast
def BV:=@of_decide_eq_true
def BW:=@List.append_nil
def BX:=@or_false
def BY:=@PySem.F.slot_tuple_iterator_next
def BZ:=@PySem.wpAny_setField
def Ba:=@PySem.wpAny_setState_of
def Bb:=@PySem.wpAny_mono
def Bc:=@Bool.false_ne_true
def Bd:=@PySem.wpAny_isInstance
def Be:=@PySem.wpAny_Call_Name_kw
def Bf:=@Nat.zero_le
def Bg:=@List.mem_range
def Bh:=@List.mem_of_getElem?
def Bi:=@Array.toList_extract
def Bj:=@PySem.wpAny_truthy_bool
def Bk:=@PyProof.Rows.wpS_mono
def Bl:=@PyProof.Rows.callWith_type1
def Bm:=@List.nodup_cons
def Bn:=@List.map_append
def Bo:=@List.foldl_cons
def Bp:=@List.filterMap_cons
def Bq:=@PySem.mem_of_lookup
def Br:=@List.take_of_length_le
def Bs:=@List.drop_of_length_le
def Bt:=@PySem.wpAny_attempt
def Bu:=@Array.getElem?_eq_some_iff
def Bv:=@List.take_succ_eq_append_getElem
def Bw:=@PySem.Obj.isFreed_of_fields
def By:=@List.pairwise_iff_getElem
def B4:=@PyProof.Rows.slot_tuple_getitem
def B5:=@List.mem_filter
def B6:=@Nat.not_lt_zero
def B7:=@PyProof.Rows.wpS_modify
def B8:=@List.mem_of_mem_drop
def B9:=@List.mem_of_mem_take
def CA:=@Nat.lt_irrefl
def CB:=@List.getElem?_replicate
def CC:=@List.pairwise_singleton
def CD:=@Nat.le_add_right
def CF:=@PySem.F.plain_min_loop
def CG:=@List.filter_cons
def CH:=@List.range_succ_eq_map
def CI:=@PySem.wpAny_setField_rec
def CJ:=@beq_false_of_ne
def CK:=@List.Perm.append_left
def CL:=@List.take_append_drop
def CM:=@PySem.wpAny_newList
def CN:=@PySem.plainId_quiet
def CP:=@List.extract_eq_take_drop
def CQ:=@Bool.and_false
def CS:=@PyProof.Rows.wpS_get
def CT:=@List.length_take
def CU:=@PySem.wpAny_typeOf
def CV:=@PySem.wpAny_askSetting
def CW:=@PySem.Heap.size_update
def CY:=@List.reverse_append
def CZ:=@PySem.wpAny_standAt
def Ca:=@List.mem_filterMap
def Cb:=@PySem.Calls.spliced_cons
def Cc:=@Nat.lt_of_le_of_lt
def Cd:=@Array.size_push
def Ce:=@PySem.wpAny_updateSeq
def Cf:=@PySem.sizeLine_eq
def Cg:=@PySem.Obj.cls_mapFields
def Ch:=@PySem.Calls.spliced_nil
def Ci:=@PySem.wpAny_pyIter_list
def Cj:=@Nat.ne_of_gt
def Ck:=@List.length_singleton
def Cm:=@Array.getElem?_toList
def Cn:=@Nat.add_zero
def Co:=@Bool.and_eq_false_iff
def Cp:=@PySem.codeAny_call_builtin
def Cq:=@PySem.intKind_is
def Cr:=@Nat.not_lt_of_le
def Cs:=@Array.toList_reverse
def Ct:=@Int.lt_irrefl
def Cu:=@List.sum_cons
def Cv:=@Prod.mk.inj
def Cw:=@PySem.wpAny_letGo
def Cy:=@PySem.Heap.SameBut.update
def Cz:=@PySem.pushCells_keeps
def C0:=@List.forIn_cons
def C1:=@Nat.le_of_lt
def C2:=@List.map_nil
def C3:=@Bool.false_eq_true
def C4:=@List.zip_cons_cons
def C5:=@Nat.sub_self
def C6:=@PySem.isSubtype_stop
def C7:=@PySem.wpAny_call
def C8:=@PyProof.Rows.wpS_lift
set_option Elab.async false
set_option linter.all false
set_option maxRecDepth 100000
set_option maxHeartbeats 0
section
namespace EX
open PySem PySem.Spec PyProof.Rows
def o7:entryFor table "proto.unchain" = some Builtin.«proto.unchain» :=entryFor_of_fast (by kernel_rfl)
def Hnd(A:EW)(h:Heap):Prop:=∀v,A.handled=some v->∃F I vs,v=Value.ref F∧h.get? F=some I∧I.data= .fields vs∧vs[2]? = some .none
section
variable{prog:ER}{w:EU}{A:EW}{E:EL->EM->Prop}{s:EM}
def tX{e v:EL}{F:EN}{oe:Obj}{vs:EZ EL}{Q:EL->EM->Prop}(Z:s.heap.get? F=some oe)(hd:oe.data= .fields vs)(U:vs[2]? = some .none)(M:Q .none s) :
  wpAny (model prog w) A (runValue (.builtin "proto.unchain" ⟨[e,.ref F,v,.bool false],[]⟩)) Q E s:=by
 refine wpAny_runValue (BJ o7 ?_);unfold Builtin.«proto.unchain»;dsimp only;refine AA (Av Z hd U ?_);rw[AC (show (Value.none==Value.none)=true by rfl)];refine AA (AB (AB ?_));exact M
def tN{α:Type}{e:EN}{oe:Obj}{vs:EZ EL}{Q:α->EM->Prop}(U:Hnd A s.heap)(he:s.heap.get? e=some oe)(hd:oe.data= .fields vs)(L:2<vs.size)(Y:∀F,A.handled=some (.ref F)->F≠e)
  (h:∀h' o',Heap.SameBut e s.heap h'->h'.get? e=some o'->o'.cls=oe.cls->E (.ref e) { s with heap:=h' }):wpAny (model prog w) A (raiseNew (.ref e):Sem α) Q E s:=by
 unfold raiseNew;refine AA (wpAny_handled ?_);cases M:A.handled with
 |none=>exact AA (AB (wpAny_throw (h s.heap oe (.refl ..) he rfl)))
 |some v =>
  obtain⟨F,o,ws,rfl,Z,I,R⟩:=U v M;have q:=Y F M;have hb:(Value.ref F != Value.ref e)=true:=by rw[bne_iff_ne];intro z;cases z;exact q rfl
  dsimp only;rw[AC hb];refine AA (Ay (tX Z I R ?_));refine AA (BZ (x:=Value.ref F) he hd L (wpAny_throw ?_));exact h _ _ (Cy ..) (Az _ he (Bw (BC hd _))) (Cg ..)
def zJ{α:Type}{Q:α->EM->Prop}(Y:Hnd A s.heap)(h:∀h' e,(∀b o,s.heap.get? b=some o->h'.get? b=some o)->(∃o',h'.get? e=some o'∧o'.cls= .type "StopIteration")->E (.ref e) { s with heap:=h' }) :
  wpAny (model prog w) A (newExc (.type "StopIteration") [] >>= fun e=>(raiseNew e:Sem α)) Q E s:=by
 refine AA ?_;unfold newExc newTuple;refine AA (BO ?_ (by size_fits));refine AA (m:=firstArgMember _ _) (Aw (a:=Value.none) (by first|rfl|(simp only[firstArgMember];rfl)) ?_);refine BO ?_ (by size_fits);have U:∀{b o},s.heap.get? b=some o->((s.heap.push { cls:=.type "tuple",data:=.seq ([]:EK EL).toArray }).push { cls:=.type "StopIteration",data:=.fields (#[.ref s.heap.objs.size,.none,.none,.none,.bool false,.none]++ownMembersOf (.type "StopIteration") []) }).get? b=some o:=fun q=>AD _ (AD _ q);refine tN (oe:={ cls:=.type "StopIteration",data:=.fields (#[.ref s.heap.objs.size,.none,.none,.none,.bool false,.none]++ownMembersOf (.type "StopIteration") []) }) ?_ (AQ _ rfl) rfl (by simp[ownMembersOf]) (fun F M=>?_) fun h' o' sb L hc=>h h' _ (fun b o q=>?_) ⟨o',L,hc⟩;intro v hv;obtain⟨F,I,vs,Z,R,e3⟩:=Y v hv;exact⟨F,I,vs,Z,U R,e3⟩;obtain⟨a0,I,vs,Z,R,e3⟩:=Y _ M;cases Z;exact AV (Nat.lt_trans (AK R) (by simp));exact (sb.2 b (AV (Nat.lt_trans (AK q) (by simp)))).trans (U q)
def list_end{it l:EN}{i:Nat}{items}{Q:EO EL->EM->Prop}(M:Hnd A s.heap)(U:s.heap.IsListIter it l i)(z2:s.heap.IsList l items)(z3:items[i]? = none)(z4:∀v,A.handled=some v->v≠ .ref it)
  (hQ:∀h',(∀b o,b≠it->s.heap.get? b=some o->h'.get? b=some o)->Q none { s with heap:=h' }):wpAny (model prog w) A (pyNext (.ref it)) Q E s:=by
 obtain⟨ob,R,g2,I⟩:=id U;obtain⟨ol,g4,_,nl,g5⟩:=z2;unfold pyNext;refine AA (Bt (A6 (name:=Str.ofString "__next__") U.typeIs slot_listiter_next (BA slot_listiter_next U.typeIs entry_listiter_next ?_ (args_listiter_next _))));change wpAny _ A.in1 (field (Value.ref it) 0 >>= _) _ _ s;refine AA (Av R I (x:=Value.ref l) rfl ?_);change wpAny _ A.in1 (if (Value.ref l==Value.none)=true then _ else _) _ _ s;rw[AF (fun z:(Value.ref l==Value.none)=true=>Bc z)];change wpAny _ A.in1 (field (Value.ref it) 1 >>= _) _ _ s;refine AA (Av R I (x:=Value.int i 0) rfl ?_);change wpAny _ A.in1 (seqItems? (Value.ref l) >>= _) _ _ s;refine AA (BP g4 g5 ?_);simp only[BU,z3];refine AA (BM (AA (BZ R I (by simp) ?_)));refine zJ (A:=A.in1) ?_ fun h' e k ht=>?_
 ·intro v L;obtain⟨F,oe,vs,Z,e2,e3⟩:=M v L;refine⟨F,oe,vs,Z,?_,e3⟩;have Y:F≠it:=fun z=>z4 v L (by rw[Z,z]);exact (AY _ _ (Ne.symm Y)).trans e2
 ·refine AA (Bd (T := "StopIteration") (b:=true) ht C6 ?_);exact AB (hQ _ fun b o' hb q=>k b o' ((AY _ _ (Ne.symm hb)).trans q))
theorem tuple_end{it l:EN}{i:Nat}{items}{Q:EO EL->EM->Prop}(hn:Hnd A s.heap)(U:s.heap.IsTupleIter it l i)(z2:s.heap.IsTuple l items)(z3:items[i]? = none)(z4:∀v,A.handled=some v->v≠ .ref it)
  (hQ:∀h',(∀b o,b≠it->s.heap.get? b=some o->h'.get? b=some o)->Q none { s with heap:=h' }):wpAny (model prog w) A (pyNext (.ref it)) Q E s:=by
 obtain⟨ob,R,g2,I⟩:=id U;obtain⟨ol,g4,_,nl,g5⟩:=z2;unfold pyNext;refine AA (Bt (A6 (name:=Str.ofString "__next__") U.typeIs BY (BA BY U.typeIs F.entry_tuple_iterator_next ?_ (F.args_tuple_iterator_next_1 _))));change wpAny _ A.in1 (field (Value.ref it) 0 >>= _) _ _ s;refine AA (Av R I (x:=Value.ref l) rfl ?_);change wpAny _ A.in1 (if (Value.ref l==Value.none)=true then _ else _) _ _ s;rw[AF (fun z:(Value.ref l==Value.none)=true=>Bc z)];change wpAny _ A.in1 (field (Value.ref it) 1 >>= _) _ _ s;refine AA (Av R I (x:=Value.int i 0) rfl ?_);change wpAny _ A.in1 (seqItems? (Value.ref l) >>= _) _ _ s;refine AA (BP g4 g5 ?_);simp only[BU,z3];refine AA (BM (AA (BZ R I (by simp) ?_)));refine zJ (A:=A.in1) ?_ fun h' e k ht=>?_
 ·intro v L;obtain⟨M,oe,vs,Z,e2,e3⟩:=hn v L;refine⟨M,oe,vs,Z,?_,e3⟩;have Y:M≠it:=fun z=>z4 v L (by rw[Z,z]);exact (AY _ _ (Ne.symm Y)).trans e2
 ·refine AA (Bd (T := "StopIteration") (b:=true) ht C6 ?_);exact AB (hQ _ fun b o' hb q=>k b o' ((AY _ _ (Ne.symm hb)).trans q))
theorem range_end{it:EN}{x left step:Int}{Q:EO EL->EM->Prop}(Y:Hnd A s.heap)(U:IsRangeIter s.heap it x left step)(Z:left≤0)
  (I:∀h',(∀b o,s.heap.get? b=some o->h'.get? b=some o)->Q none { s with heap:=h' }):wpAny (model prog w) A (pyNext (.ref it)) Q E s:=by have q:s.TypeIs (.ref it) "range_iterator" :=⟨_,U,rfl⟩;unfold pyNext;refine AA (Bt (A6 (name:=Str.ofString "__next__") q F.slot_range_iterator_next (BA F.slot_range_iterator_next q F.entry_range_iterator_next ?_ (F.args_range_iterator_next_1 _))));change wpAny _ A.in1 (field (Value.ref it) 0 >>= _) _ _ s;refine AA (Av U rfl (x:=rawInt x) rfl ?_);change wpAny _ A.in1 (field (Value.ref it) 1 >>= _) _ _ s;refine AA (Av U rfl (x:=rawInt left) rfl ?_);change wpAny _ A.in1 (field (Value.ref it) 2 >>= _) _ _ s;refine AA (Av U rfl (x:=rawInt step) rfl ?_);change wpAny _ A.in1 (if left≤0 then _ else _) _ _ s;rw[AC Z];refine AA (BM (AA ?_));refine zJ (A:=A.in1) Y fun h' e k L=>?_;refine AA (Bd (T := "StopIteration") (b:=true) L C6 ?_);exact AB (I _ k)
end
end EX
end
section
namespace L2
open PySem PySem.Spec PyProof.Rows
abbrev Key:=Sum Int Str
def my:Key->EL->Bool| .inl k,v=>Value.isInt k v| .inr x,v=>Value.isStrOf x v
def tr(w:EU):Key->Int| .inl k=>hashInt k| .inr x=>hashStr w x
def Qi:∀{k:Key} {v:EL},my k v=true->(∃i t,k=Sum.inl i∧v=Value.int i t)∨(∃x t,k=Sum.inr x∧v=Value.str x t)| .inl i,v,h=>by obtain⟨t,e⟩:=Value.isInt_shape (k:=i) (v:=v) h;exact .inl ⟨i,t,rfl,e⟩| .inr x,v,h=>by obtain⟨t,e⟩:=Value.isStrOf_shape (x:=x) (v:=v) h;exact .inr ⟨x,t,rfl,e⟩
def xV(a b:Int):decide ((Sum.inl a:Key)=Sum.inl b)=(a==b):=by
 by_cases e:a=b;subst e;simp;have h:¬(Sum.inl a:Key)=Sum.inl b:=fun q=>e (Sum.inl.inj q);rw[Ak h];exact (AI.mpr e).symm
def xy(a b:Str):decide ((Sum.inr a:Key)=Sum.inr b)=decide (a=b):=by
 by_cases e:a=b;subst e;simp;have h:¬(Sum.inr a:Key)=Sum.inr b:=fun q=>e (Sum.inr.inj q);rw[Ak h,Ak e]
def Dd(a:Int)(b:Str):decide ((Sum.inl a:Key)=Sum.inr b)=false:=Ak (fun q=>nomatch q)
def uJ(a:Str)(b:Int):decide ((Sum.inr a:Key)=Sum.inl b)=false:=Ak (fun q=>nomatch q)
def jb(prog:ER)(w:EU):PySem.KeyKind prog w Key where
 is:=my
 hash:=tr w
 inj:=fun v a b ha hb=>by
  rcases Qi ha with⟨i,t,rfl,rfl⟩|⟨x,t,rfl,rfl⟩
  ·rcases Qi hb with⟨j,u,rfl,e⟩|⟨y,u,rfl,e⟩
   ·injection e with e1 _;rw[e1]
   ·exact nomatch e
  ·rcases Qi hb with⟨j,u,rfl,e⟩|⟨y,u,rfl,e⟩
   ·exact nomatch e
   ·injection e with e1 _;rw[e1]
 byValue:=fun k v h=>by rcases Qi h with⟨i,t,rfl,rfl⟩|⟨x,t,rfl,rfl⟩ <;> rfl
 pyHash:=fun hv h=>by
  rcases Qi hv with⟨i,t,rfl,rfl⟩|⟨x,t,rfl,rfl⟩
  ·exact wpAny_pyHash_int h
  ·exact wpAny_pyHash_str h
 eqBool:=fun hu hv h=>by
  rcases Qi hu with⟨i,t,rfl,rfl⟩|⟨x,t,rfl,rfl⟩
  ·rcases Qi hv with⟨j,u,rfl,rfl⟩|⟨y,u,rfl,rfl⟩
   ·rw[xV]at h;exact wpAny_eqBool_int h
   ·rw[Dd]at h;exact SeqAt.EqAt.int_str i t y u _ _ _ _ h
  ·rcases Qi hv with⟨j,u,rfl,rfl⟩|⟨y,u,rfl,rfl⟩
   ·rw[uJ]at h;exact SeqAt.EqAt.str_int x t j u _ _ _ _ h
   ·rw[xy]at h;exact wpAny_eqBool_str h
 «strs» :=fun k x t v h=>by
  rcases Qi h with⟨i,u,rfl,e⟩|⟨y,u,rfl,e⟩
  ·exact nomatch e
  ·injection e with e1 _;subst e1;cases v <;> rfl
end L2
namespace L2
open PySem PySem.Spec PyProof.Rows
inductive V where
 |non|bl (b:Bool)|int (i:Int)|str (x:Str)|byt (b:Array UInt8)|flt (b:UInt64)|ref (a:Addr)|ty (n:String)
 deriving DecidableEq
def RelV:V->EL->Prop| .non,u=>u=Value.none| .bl b,u=>u=Value.bool b| .int i,u=>∃t,u=Value.int i t| .str x,u=>∃t,u=Value.str x t| .byt b,u=>∃t,u=Value.bytes b t| .flt b,u=>∃t,u=Value.float b t| .ref a,u=>u=Value.ref a| .ty n,u=>u=Value.type n
abbrev ei:EK V->EK EL->Prop:=Paired RelV
def ei.length{xs:EK V}{us:EK EL}(r:ei xs us):xs.length=us.length:=Paired.length r
def ei.get:∀{xs:EK V} {us:EK EL} {i:Nat} {x:V},ei xs us->xs[i]? = some x->∃u,us[i]? = some u∧RelV x u
 |_,_,_,_,.nil,e=>by simp at e
 |_,_,0,_,.cons r _,e=>by simp at e;subst e;exact⟨_,rfl,r⟩
 |_,_,i+1,x,.cons _ t,e=>by
  obtain⟨u,Y,U⟩:=ei.get (i:=i) (x:=x) t (by simpa using e);exact⟨u,by simpa using Y,U⟩
def ei.set{x:V}{u:EL}(r:RelV x u):∀{xs:EK V} {us:EK EL} (i:Nat),ei xs us->ei (xs.set i x) (us.set i u)|_,_,_,.nil=>.nil|_,_,0,.cons _ t=>.cons r t|_,_,i+1,.cons q t=>.cons q (ei.set r i t)
def ei.append:∀{xs M:EK V} {us ws:EK EL},ei xs us->ei M ws->ei (xs++M) (us++ws)|_,_,_,_,.nil,s=>s|_,_,_,_,.cons r t,s=>.cons r (ei.append t s)
def ei.take:∀{xs:EK V} {us:EK EL} (n:Nat),ei xs us->ei (xs.take n) (us.take n)|_,_,0,_=>.nil|_,_,_+1,.nil=>.nil|_,_,n+1,.cons r t=>.cons r (ei.take n t)
def ei.drop:∀{xs:EK V} {us:EK EL} (n:Nat),ei xs us->ei (xs.drop n) (us.drop n)|_,_,0,r=>r|_,_,_+1,.nil=>.nil|_,_,n+1,.cons _ t=>ei.drop n t
def lS:EO V->EO EL->Prop|some v,some u=>RelV v u|none,none=>True|_,_=>False
def KV{κ:Type}:EK (κ×V)->EK (κ×EL)->Prop:=Paired fun (p:κ×V) (q:κ×EL)=>p.1=q.1∧RelV p.2 q.2
def kV:Key->V| .inl i=>.int i| .inr x=>.str x
inductive HO where
 /-- a list -/
 |lst (xs:List V)
 /-- a tuple (never changes) -/
 |tup (xs:List V)
 /-- a dict whose keys are ints and texts;one whose keys are tuples of ints and texts (the empty one is both) -/
 |dK (En:List (Key×V))|dT (En:List (List Key×V))
 /-- a set of ints: Eg members,Eg size -/
 |set (S:Int->Bool) (n:Nat)
 /-- an instance of the class at C,Eg dict at dx,Eg attributes -/
 |ins (C dx:Addr) (fs:List (Str×V))
 /-- the dict of the instance at x -/
 |own (x:Addr)
 /-- the dict of an exception -/
 |xd (fs:List (Str×V))
 /-- a bound method,f of x -/
 |met (f x:Addr)
 /-- a range object lo,lo+1,.. below hi -/
 |rng (lo hi:Int)
 /-- a thing that is known to the object (the script;a dict while a Ew walks it): read,never written while it is so -/
 |frz (o:Obj) (u:HO)
 /-- a code object's table -/
 |tbl (ps:Array Value)
 /-- any other thing,by what is true of Eg one object (a def of one's own: SetO a S n:=HO.ext fun h=> ..) -/
 |ext (φ:Heap->Prop)
abbrev Hp:=EN->EO HO
def eN(H:Hp)(a:EN)(o:HO):Hp:=fun b=>if b=a then some o else H b
def QN{H:Hp}{a:EN}{o:HO}:eN H a o a=some o:=by unfold eN;rw[AC rfl]
def qP{H:Hp}{a b:EN}{o:HO}(h:b≠a):eN H a o b=H b:=by unfold eN;rw[AF h]
def qN{H:Hp}{a b:EN}{o:HO}(h:H a=some o)(h':H b=none):a≠b:=by intro e;subst e;rw[h]at h';cases h'
section
variable(P:ER)(w:EU)
def eT(H:Hp)(h:Heap)(a:EN):HO->Prop
 | .lst xs=>xs.length≤sizeLine∧∃(Eg:EK EL) (n:Nat),ei xs Eg∧h.get? a=some { cls:=.type "list",data:=.seq Eg.toArray n }
 | .tup xs=>xs.length≤sizeLine∧∃Eg:EK EL,ei xs Eg∧IsTup h a Eg.toArray∧∃o,h.get? a=some o∧o.dict=none
 | .dK En=>En.length≤sizeLine∧(a==sysModules)=false∧∃vs,KV En vs∧h.DictOf (jb P w) a vs
 | .dT En=>En.length≤sizeLine∧(a==sysModules)=false∧∃xs:EK (EK Key×EN×EL),
   Paired (fun (p:EK Key×V) (q:EK Key×EN×EL)=>p.1=q.1∧H q.2.1=some (.tup (p.1.map kV))∧RelV p.2 q.2.2) En xs ∧
   ∃o es ep,h.get? a=some o∧o.ExactDict∧o.data= .dict es ep∧es.toList=xs.map (entryOfKey (tupleKind (jb P w)))∧(xs.map (·.1)).Nodup
 | .set S n=>h.SetOf (intKind P w) a S n
 | .ins C dx fs=>H dx=some (.own a)∧fs.length≤1000∧dx≠a∧h.get? a=some (W.instObj C dx) ∧
   ∃F,h.Ns1 dx F∧(∀f,lS (fs.lookup f) (F f))∧PySem.Within F (fs.map (·.1))
 | .own _=>∃o,h.get? a=some o
 | .xd fs=>∃F,h.Ns1 a F∧∀f,lS (fs.lookup f) (F f)
 | .rng lo hi=>∃t u v,h.get? a=some { cls:=.type "range",data:=.fields #[.int lo t,.int hi u,.int 1 v] }
 | .frz o u=>h.get? a=some o∧eT H h a u
 | .tbl ps=>h.get? a=some { cls:=.none,data:=.fields ps }
 | .met f x=>h.get? a=some (W.methodObj (.ref f) (.ref x))
 | .ext φ=>φ h∧(∃o,h.get? a=some o)∧∀Y U:Heap,φ Y->(∀o,Y.get? a=some o->U.get? a=some o)->φ U
def fR(H:Hp)(h:Heap):Prop:=∀a o,H a=some o->eT P w H h a o
end
section
variable{P:ER}{w:EU}{H H':Hp}{h h':Heap}{a:EN}{o:HO}
def eT.lt(x:eT P w H h a o):a<h.objs.size:=by
 cases o with|lst xs=>obtain⟨_,_,_,_,e⟩:=x;exact AK e|tup xs=>obtain⟨_,_,_,p,_⟩:=x;exact p.lt|dK En=>obtain⟨_,_,_,_,o,_,_,e,_⟩:=x;exact AK e|dT En=>obtain⟨_,_,_,_,o,_,_,e,_⟩:=x;exact AK e|set S n=>obtain⟨o,_,_,_,e,_⟩:=x;exact AK e|ins C dx fs=>obtain⟨_,_,_,e,_⟩:=x;exact AK e|own y=>obtain⟨_,e⟩:=x;exact AK e|xd fs=>obtain⟨_,⟨_,_,_,e,_⟩,_⟩:=x;exact AK e|rng lo hi=>obtain⟨_,_,_,e⟩:=x;exact AK e|frz Y u=>obtain⟨e,_⟩:=x;exact AK e|tbl ps=>exact AK (show h.get? a=some _ from x)|met f y=>exact AK (show h.get? a=some _ from x)|ext φ=>obtain⟨_,⟨_,e⟩,_⟩:=x;exact AK e
def Paired.mapP{α β:Type}{F G:α->β->Prop}:∀{l₁:EK α} {l₂:EK β},Paired F l₁ l₂->(∀a b,F a b->G a b)->Paired G l₁ l₂|_,_,.nil,_=>.nil|_,_,.cons r t,f=>.cons (f _ _ r) (Paired.mapP t f)
def eT.stay(x:eT P w H h a o)(k:∀b u,(b=a∨H b=some (.own a))->h.get? b=some u->h'.get? b=some u)
  (Z:∀b,H b=some (.own a)->H' b=some (.own a)) (L:∀b xs,H b=some (.tup xs)->H' b=some (.tup xs)):eT P w H' h' a o:=by
 induction o with|lst xs=>obtain⟨z,Eg,n,r,e⟩:=x;exact⟨z,Eg,n,r,k _ _ (.inl rfl) e⟩|tup xs=>obtain⟨z,Eg,r,⟨Y,e,c⟩,o,R,M⟩:=x;exact⟨z,Eg,r,⟨Y,k _ _ (.inl rfl) e,c⟩,o,k _ _ (.inl rfl) R,M⟩|dK En=>obtain⟨z,y,vs,r,Y,es,ep,e,c⟩:=x;exact⟨z,y,vs,r,Y,es,ep,k _ _ (.inl rfl) e,c⟩|dT En=>obtain⟨z,y,xs,r,Y,es,ep,e,c⟩:=x;exact⟨z,y,xs,Paired.mapP r fun p q z=>⟨z.1,L _ _ z.2.1,z.2.2⟩,Y,es,ep,k _ _ (.inl rfl) e,c⟩|set S n=>obtain⟨Y,es,ep,t,e,c⟩:=x;exact⟨Y,es,ep,t,k _ _ (.inl rfl) e,c⟩|ins C dx fs=>obtain⟨d,z,ne,e,F,⟨od,es,ep,R,c⟩,r⟩:=x;exact⟨Z _ d,z,ne,k _ _ (.inl rfl) e,F,⟨od,es,ep,k _ _ (.inr d) R,c⟩,r⟩|own y=>obtain⟨Y,e⟩:=x;exact⟨Y,k _ _ (.inl rfl) e⟩|xd fs=>obtain⟨F,⟨od,es,ep,e,c⟩,r⟩:=x;exact⟨F,⟨od,es,ep,k _ _ (.inl rfl) e,c⟩,r⟩|rng lo hi=>obtain⟨t,u,v,e⟩:=x;exact⟨t,u,v,k _ _ (.inl rfl) e⟩|frz Y u I=>obtain⟨e,q⟩:=x;exact⟨k _ _ (.inl rfl) e,I q⟩|tbl ps=>have e:h.get? a=some { cls:=.none,data:=.fields ps }:=x;show h'.get? a=some { cls:=.none,data:=.fields ps };exact k a _ (.inl rfl) e|met f y=>have e:h.get? a=some (W.methodObj (.ref f) (.ref y)):=x;show h'.get? a=some (W.methodObj (.ref f) (.ref y));exact k a _ (.inl rfl) e|ext φ=>obtain⟨p,⟨o,e⟩,st⟩:=x;exact⟨st _ _ p fun o q=>k _ _ (.inl rfl) q,⟨o,k _ _ (.inl rfl) e⟩,st⟩
def fR.lt(x:fR P w H h)(e:H a=some o):a<h.objs.size:=(x a o e).lt
def fR.fresh(x:fR P w H h)(e:h.objs.size≤a):H a=none:=by
 cases q:H a with|none=>rfl|some u=>exact absurd (Ao (x.lt q) e) (CA _)
def fR.kept(x:fR P w H h)(k:∀b u,h.get? b=some u->h'.get? b=some u):fR P w H h':=fun a o e =>
 (x a o e).stay (fun b u _ q=>k b u q) (fun _ q=>q) fun _ _ q=>q
def fR.laid(x:fR P w H h)(k:∀b u,h.get? b=some u->h'.get? b=some u)(L:h.objs.size≤a)(new:eT P w (eN H a o) h' a o):fR P w (eN H a o) h':=fun b u e=>by
 have Y:=x.fresh L;by_cases hb:b=a;subst hb;rw[QN]at e;cases e;exact new;rw[qP hb]at e;exact (x b u e).stay (fun c v _ q=>k c v q) (fun c q=>by rw[qP (qN q Y)];exact q) fun c xs q=>by rw[qP (qN q Y)];exact q
end
def Rd(H:Hp)(a:EN)(u:HO):Prop:=H a=some u∨∃o,H a=some (.frz o u)
def Rd.ok{P:ER}{w:EU}{H:Hp}{h:Heap}{a:EN}{u:HO}(r:Rd H a u)(x:fR P w H h):eT P w H h a u:=by
 rcases r with r|⟨o,r⟩
 ·exact x a u r
 ·obtain⟨_,q⟩:=x a _ r;exact q
def kj:EO HO->Prop|some (.lst _)=>True|some (.dK _)=>True|some (.dT _)=>True|some (.set _ _)=>True|some (.ins _ _ _)=>True|some (.ext _)=>True|_=>False
section
variable{P:ER}{w:EU}{H:Hp}{h h':Heap}{x e:EN}{o':HO}
def fR.write(ok:fR P w H h)(F:kj (H x))(he:e=x∨H e=some (.own x))(k:∀b u,b≠e->h.get? b=some u->h'.get? b=some u)(U:∃u,h'.get? e=some u)
  (new:eT P w (eN H x o') h' x o'):fR P w (eN H x o') h':=fun b u q=>by
 have M:∀c y,H c=some (.own y)->c≠x:=fun c y r z=>by subst z;rw[r]at F;exact F
 have Y:∀c xs,H c=some (.tup xs)->c≠x:=fun c xs r z=>by subst z;rw[r]at F;exact F
 by_cases hb:b=x;subst hb;rw[QN]at q;cases q;exact new
 ·rw[qP hb]at q;by_cases R:b=e
  ·have I:H b=some (.own x):=by
    rcases he with z|z
    ·exact absurd (R.trans z) hb
    ·rw[R];exact z
   rw[q]at I;cases I;obtain⟨v,L⟩:=U;exact⟨v,by rw[R];exact L⟩
  ·refine (ok b u q).stay (fun c v hc r=>k c v ?_ r) (fun c r=>by rw[qP (M c b r)];exact r) fun c xs r=>by rw[qP (Y c xs r)];exact r
   rcases hc with rfl|hc
   ·exact R
   ·rintro rfl;rcases he with z|z
    ·exact M c b hc z
    ·rw[hc]at z;cases z;exact hb rfl
end
structure Un (fs ex:List Addr) (H H':Hp) (h h':Heap):Prop where
 keep:∀b o,h.get? b=some o->H b=none->b∉fs->b∉ex->h'.get? b=some o
 slot:∀b o,h.get? b=some o->H b=none->b∈fs->b∉ex->∃sl,h'.get? b=some { o with slots:=sl }
 free:∀b o,h.get? b=some o->H b=none->b∉ex->H' b=none
 there:∀b o,h.get? b=some o->b∉ex->∃o',h'.get? b=some o'
 tups:∀b xs,H b=some (.tup xs)->H' b=some (.tup xs)
 frzs:∀b o u,H b=some (.frz o u)->H' b=some (.frz o u)
 tbls:∀b ps,H b=some (.tbl ps)->∃more,H' b=some (.tbl (ps++more))
section
variable{fs fs' ex ex':EK EN}{H H1 H2:Hp}{h h1 h2 h':Heap}{a x e:EN}{o:HO}
def Un.any(u:Un fs ex H H1 h h1){b:EN}{Y:Obj}(q:h.get? b=some Y)(n:H b=none)(M:b∉ex):∃sl,h1.get? b=some { Y with slots:=sl }:=by
 by_cases hb:b∈fs;exact u.slot b Y q n hb M;exact⟨Y.slots,u.keep b Y q n hb M⟩
def Un.kept(k:∀b u,h.get? b=some u->h'.get? b=some u):Un fs ex H H h h' :=
 ⟨fun b Y q _ _ _=>k b Y q,fun b Y q _ _ _=>⟨Y.slots,k b Y q⟩,fun _ _ _ n _=>n,fun b Y q _=>⟨Y,k b Y q⟩,fun _ _ q=>q,fun _ _ _ q=>q,fun _ ps q=>⟨#[],by rw[q];simp⟩⟩
def Un.refl:Un fs ex H H h h:=Un.kept fun _ _ q=>q
def Un.laid(k:∀b u,h.get? b=some u->h'.get? b=some u)(hp:h.objs.size≤a)(hn:H a=none):Un fs ex H (eN H a o) h h' where
 keep:=fun b u q _ _ _=>k b u q
 slot:=fun b u q _ _ _=>⟨u.slots,k b u q⟩
 free:=fun b u q n _=>by rw[qP (AV (Ao (AK q) hp))];exact n
 there:=fun b u q _=>⟨u,k b u q⟩
 tups:=fun b xs q=>by rw[qP (qN q hn)];exact q
 frzs:=fun b u xs q=>by rw[qP (qN q hn)];exact q
 tbls:=fun b ps q=>⟨#[],by rw[qP (qN q hn),q];simp⟩
def Un.write(F:kj (H x))(he:e=x∨H e=some (.own x))(k:∀b u,b≠e->h.get? b=some u->h'.get? b=some u)(U:∃u,h'.get? e=some u):Un fs ex H (eN H x o) h h':=by
 have L:∀b,H b=none->b≠x:=fun b n z=>by subst z;rw[n]at F;exact F
 have hb:∀b,H b=none->b≠e:=fun b n z=>by
  subst z;rcases he with r|r
  ·exact L b n r
  ·rw[n]at r;cases r
 have M:∀b u,H b=some u->¬kj (some u)->b≠x:=fun b u q I z=>by subst z;rw[q]at F;exact I F
 refine⟨fun b u q n _ _=>k b u (hb b n) q,fun b u q n _ _=>⟨u.slots,k b u (hb b n) q⟩,fun b u q n _=>by rw[qP (L b n)];exact n,fun b u q _=>?_,
  fun b xs q=>by rw[qP (M b _ q fun z=>z)];exact q,fun b u xs q=>by rw[qP (M b _ q fun z=>z)];exact q,fun b ps q=>⟨#[],by rw[qP (M b _ q fun z=>z),q];simp⟩⟩
 by_cases R:b=e;subst R;exact U;exact⟨u,k b u R q⟩
end
def im(h:Heap)(H:Hp):EK EN:=(List.range h.objs.size).filter fun a=>(H a).isSome
def jJ(h:Heap)(H:Hp):Heap:=W.hideAll h (im h H)
def DX(h:Heap)(H:Hp):(jJ h H).objs.size=h.objs.size:=W.hideAll_size _ _
def Dc{h:Heap}{H:Hp}{b:EN}{o:Obj}(e:h.get? b=some o)(n:H b=none):(jJ h H).get? b=some o :=
 W.hideAll_get _ e fun M=>by have q:(H b).isSome=true:=(B5.mp M).2;rw[n]at q;simp at q
def Dm{h:Heap}{H:Hp}{b:EN}{o:Obj}(e:(jJ h H).get? b=some o):h.get? b=some o∧H b=none:=by
 have F:h.get? b=some o:=W.of_hideAll (im h H) e;refine⟨F,?_⟩;cases q:H b with
 |none=>rfl
 |some x =>
  have M:b∈im h H:=B5.mpr ⟨Bg.mpr (AK F),by simp[q]⟩;have z:(jJ h H).get? b=none:=W.hideAll_none (im h H) M;rw[z]at e;cases e
end L2
namespace L2
open PySem PySem.Spec PyProof.Rows
structure Mod (K:W.Frag) (mg:Str->Option Value) (base:Heap):Prop where
 kin:K.In base
 glob:base.Ns mainGlobals mg
 blt:∃mb,base.Ns builtinsNs mb∧∀x:Str,x ≠ "__name__" ->mb x=bootBuiltins x
 nolimit:base.NoLimit
structure Cx where
 prog:Program
 w:World
 K:W.Frag
 mg:Str->Option Value
 base:Heap
 A:Around
 N:List Str
 s₀:Shared
 H₀:Hp
 env:Env
 outer:List Env
 stack:List Env
 ex:List Addr
 fn:Str->Bool
 calm:Bool
 pn:List (Addr×Obj)
 xe:Value->Shared->Prop
def fx(l:EK Env):EK EN:=l.filterMap (·.frame)
abbrev Cx.fs(X:Cx):EK EN:=fx X.outer
def iz(sc:Scope)(x:Str):Prop:=sc.names.lookup x=some .local∨sc.names.lookup x=some .cell∨sc.names.lookup x=some .free
def Loc(sc:Scope)(x:Str):Prop:=sc.names.lookup x=some .local∨sc.names.lookup x=some .cell
def nR(env:Env)(h:Heap)(m:Str->EO EL)(x:Str)(u:EL):Prop :=
 (env.kindOf x=some .local∧m x=some u)∨((env.kindOf x=some .cell∨env.kindOf x=some .free)∧∃c,env.cells.lookup x=some c∧h.IsCell c (some u))
structure Cx.Ok (X:Cx):Prop where
 mod:Mod X.K X.mg X.base
 kind:X.env.scope.kind= .function
 glob:X.env.globals=mainGlobals
 blt:X.env.builtins=builtinsNs
 above:X.s₀.heap.objs.size≤X.env.locals
 inj:∀x y c,X.env.cells.lookup x=some c->X.env.cells.lookup y=some c->x=y
 has:∀x,(X.env.kindOf x=some .cell∨X.env.kindOf x=some .free)->∃c,X.env.cells.lookup x=some c
 cab:∀x c,X.fn x=true->X.env.cells.lookup x=some c->X.s₀.heap.objs.size≤c
 hd:X.calm=true->X.A.handled=none
 frames:X.A.frames=some X.stack
 stk:X.stack=X.outer∨(X.stack=X.env::X.outer∧X.env.frame=some X.env.locals)
 exf:∀b∈X.ex,b≠X.env.locals∧∀x c,X.env.cells.lookup x=some c->c≠b
 bs:∀b o,X.base.get? b=some o->X.s₀.heap.get? b=some o∧X.H₀ b=none
 bsz:X.base.objs.size≤X.s₀.heap.objs.size
 noex:∀b o,X.base.get? b=some o->b∉X.ex
 exfs:∀b∈X.ex,b∉X.fs
 funs:X.s₀.heap.FunFrames X.base X.outer
 frf:∀b∈X.fs,X.H₀ b=none
def gA(A:EW)(H:Hp):Prop:=∀v,A.handled=some v->∃F I u vs,v=Value.ref F∧H F=some (.frz I u)∧I.data= .fields vs∧vs[2]? = some .none
def gA.none{A:EW}{H:Hp}(h:A.handled=none):gA A H:=fun v e=>by rw[h]at e;cases e
structure Inv (X:Cx) (Ee:List (Addr×Obj)) (σ:List (Option V)) (H:Hp) (s:Shared):Prop where
 ok:X.Ok
 os:s.os=X.s₀.os
 bare:AllBare s.gens
 base:Un X.fs X.ex X.H₀ H X.s₀.heap s.heap
 loc:∃m,s.heap.Ns X.env.locals m∧∀(i:Nat) (x:Str) (v:V),X.N[i]? = some x->σ[i]? = some (some v)->iz X.env.scope x->∃u,RelV v u∧nR X.env s.heap m x u
 cell:∀x c,X.env.cells.lookup x=some c->∃v,s.heap.IsCell c v
 free:H X.env.locals=none
 freeC:∀x c,X.env.cells.lookup x=some c->H c=none
 pin:∀p∈X.pn++Ee,s.heap.get? p.1=some p.2∧H p.1=none∧p.1≠X.env.locals∧p.1∉X.fs∧∀v,p.2.data≠ .cell v
 hok:fR X.prog X.w H s.heap
 len:σ.length=X.N.length
 hnd:gA X.A H
section
variable{X:Cx}{Ee:EK (EN×Obj)}{σ:EK (EO V)}{H H':Hp}{s:EM}{h':Heap}
def Cx.Ok.nofr(ok:X.Ok){b:EN}{o:Obj}(e:X.base.get? b=some o):b∉X.fs:=fun hb=>by
 have:=(ok.funs.mem hb).1
 rw[e]at this;cases this
def Inv.bs(I:Inv X Ee σ H s):∀b o,X.base.get? b=some o->s.heap.get? b=some o∧H b=none:=fun b o e =>
 ⟨I.base.keep b o (I.ok.bs b o e).1 (I.ok.bs b o e).2 (I.ok.nofr e) (I.ok.noex b o e),I.base.free b o (I.ok.bs b o e).1 (I.ok.bs b o e).2 (I.ok.noex b o e)⟩
def Inv.bk(I:Inv X Ee σ H s):∀b o,X.base.get? b=some o->s.heap.get? b=some o:=fun b o e=>(I.bs b o e).1
def Inv.mod(I:Inv X Ee σ H s):Mod X.K X.mg X.base:=I.ok.mod
def Inv.kIn(I:Inv X Ee σ H s):X.K.In s.heap:=I.ok.mod.kin.keeps I.bk
def Inv.lt(I:Inv X Ee σ H s):X.env.locals<s.heap.objs.size:=let ⟨_,Y,_⟩:=I.loc;Y.lt
def Inv.sz(I:Inv X Ee σ H s):X.s₀.heap.objs.size≤s.heap.objs.size:=AW I.ok.above (C1 I.lt)
def Inv.nofs(I:Inv X Ee σ H s){a:EN}(h:s.heap.objs.size≤a):a∉X.fs:=fun hb=>by obtain⟨_,o,Z,_⟩:=I.ok.funs.mem hb;exact absurd (Ao (AK Z) (AW I.sz h)) (CA _)
def Inv.cne(I:Inv X Ee σ H s):∀x c,X.env.cells.lookup x=some c->c≠X.env.locals:=fun x c e z=>by obtain⟨v,o,Z,hd⟩:=I.cell x c e;obtain⟨m,⟨o',es,ep,L,q,_⟩,_⟩:=I.loc;rw[z,L]at Z;cases Z;rw[q]at hd;cases hd
def Inv.funs(I:Inv X Ee σ H s):s.heap.FunFrames X.base X.outer:=by
 have all:∀(l:EK Env),(∀b∈fx l,b∈X.fs)->X.s₀.heap.FunFrames X.base l->s.heap.FunFrames X.base l:=by
  intro l;induction l with
  |nil=>intro _ _;trivial
  |cons env r U =>
   intro hs hl;obtain⟨Z,⟨L,o,F,Y,q,hd⟩,M⟩:=hl;have R:L∈X.fs:=hs L (by unfold fx;rw[Bp,F];exact AT);obtain⟨sl,e⟩:=I.base.slot L o q (I.ok.frf L R) R fun z=>I.ok.exfs L z R;exact⟨Z,⟨L,_,F,Y,e,hd⟩,U (fun b hb=>hs b (by unfold fx;rw[Bp,F];exact AO _ hb)) M⟩
 exact all X.outer (fun _ hb=>hb) I.ok.funs
def Inv.stack(I:Inv X Ee σ H s):s.heap.FunFrames X.base X.stack:=by
 rcases I.ok.stk with e|⟨e,F⟩
 ·rw[e];exact I.funs
 ·rw[e];obtain⟨m,Y,_⟩:=I.loc;refine .cons (by rw[I.ok.kind];decide) F Y ?_ I.funs;exact Heap.get?_none_of_le (AW I.ok.bsz I.ok.above)
def Inv.stkSub(I:Inv X Ee σ H s):∀b∈fx X.stack,b∈X.env.locals::X.fs:=fun b hb=>by
 rcases I.ok.stk with e|⟨e,F⟩
 ·rw[e]at hb;exact AO _ hb
 ·rw[e]at hb;unfold fx at hb;rw[Bp,F]at hb;exact hb
def Inv.stkFree(I:Inv X Ee σ H s):∀b∈fx X.stack,H b=none:=fun b hb=>by
 rcases AJ.mp (I.stkSub b hb) with e|hb
 ·rw[e];exact I.free
 ·obtain⟨_,o,Z,_⟩:=I.ok.funs.mem hb;exact I.base.free b o Z (I.ok.frf b hb) fun z=>I.ok.exfs b z hb
def Inv.step{g':EZ GenState}{t':Nat}{d':Drawn}{ch:EK EN}(I:Inv X Ee σ H s)
  (F:∀b∈ch,(b∈X.ex∨X.s₀.heap.objs.size≤b)∧b≠X.env.locals∧(∀x c,X.env.cells.lookup x=some c->c≠b)∧∀p∈X.pn++Ee,p.1≠b)
  (keep:∀b o,b≠X.env.locals->b∉X.fs->b∉ch->s.heap.get? b=some o->H b=none->h'.get? b=some o)
  (slot:∀b o,b≠X.env.locals->b∈X.fs->b∉ch->s.heap.get? b=some o->H b=none->∃sl,h'.get? b=some { o with slots:=sl }) (free:∀b o,b∉ch->s.heap.get? b=some o->H b=none->H' b=none)
  (there:∀b o,b∉ch->s.heap.get? b=some o->∃o',h'.get? b=some o')
  (tups:∀b xs,H b=some (.tup xs)->H' b=some (.tup xs)) (frzs:∀b o u,H b=some (.frz o u)->H' b=some (.frz o u)) (tbls:∀b ps,H b=some (.tbl ps)->∃more,H' b=some (.tbl (ps++more)))
  (ns:∀m,s.heap.Ns X.env.locals m->h'.Ns X.env.locals m) (hok:fR X.prog X.w H' h') (hg:AllBare g') :
  Inv X Ee σ H' { s with heap:=h',gens:=g',drawn:=d',toks:=t' }:=by
 have a0:∀b o,X.s₀.heap.get? b=some o->b≠X.env.locals:=fun b o e=>AV (Ao (AK e) I.ok.above);have U:∀b o,X.s₀.heap.get? b=some o->b∉X.ex->b∉ch:=fun b o e M hb=>by
  rcases (F b hb).1 with z|z
  ·exact M z
  ·exact absurd (Ao (AK e) z) (CA _)
 have L:∀x c,X.env.cells.lookup x=some c->∀v,s.heap.IsCell c v->h'.IsCell c v:=fun x c e v ⟨o,ho,hd⟩=>by
  have R:c∉ch:=fun z=>(F c z).2.2.1 x c e rfl;by_cases hc:c∈X.fs;obtain⟨sl,q⟩:=slot c o (I.cne x c e) hc R ho (I.freeC x c e);exact⟨_,q,hd⟩;exact⟨o,keep c o (I.cne x c e) hc R ho (I.freeC x c e),hd⟩
 refine⟨I.ok,I.os,hg,⟨fun b o e n hb M=>?_,fun b o e n hb M=>?_,fun b o e n M=>?_,fun b o e M=>?_,fun b xs e=>tups b xs (I.base.tups b xs e),fun b o xs e=>frzs b o xs (I.base.frzs b o xs e),fun b ps e=>?_⟩,?_,fun x c e=>?_,?_,fun x c e=>?_,fun p hp=>?_,hok,I.len,fun v hv=>(let ⟨ea,oe,u,vs,Z,Y,e3⟩:=I.hnd v hv;⟨ea,oe,u,vs,Z,frzs _ _ _ Y,e3⟩)⟩;exact keep b o (a0 b o e) hb (U b o e M) (I.base.keep b o e n hb M) (I.base.free b o e n M);obtain⟨sl,Z⟩:=I.base.slot b o e n hb M;obtain⟨a1,Y⟩:=slot b _ (a0 b o e) hb (U b o e M) Z (I.base.free b o e n M);exact⟨a1,Y⟩;obtain⟨o',Z⟩:=I.base.there b o e M;exact free b o' (U b o e M) Z (I.base.free b o e n M);obtain⟨o',Z⟩:=I.base.there b o e M;exact there b o' (U b o e M) Z;obtain⟨m1,Z⟩:=I.base.tbls b ps e;obtain⟨m2,Y⟩:=tbls b _ Z;exact⟨m1++m2,by rw[Y,Array.append_assoc]⟩
 ·obtain⟨m,hn,hl⟩:=I.loc;refine⟨m,ns m hn,fun i x v Z Y e3=>?_⟩;obtain⟨u,r,l⟩:=hl i x v Z Y e3;refine⟨u,r,?_⟩;rcases l with l|⟨k,c,e,z⟩
  ·exact .inl l
  ·exact .inr ⟨k,c,e,L x c e _ z⟩
 ·obtain⟨v,z⟩:=I.cell x c e;exact⟨v,L x c e v z⟩
 ·obtain⟨m,⟨o,_,_,ho,_⟩,_⟩:=I.loc;exact free _ o (fun z=>(F _ z).2.1 rfl) ho I.free
 ·obtain⟨v,o,ho,hd⟩:=I.cell x c e;exact free c o (fun z=>(F c z).2.2.1 x c e rfl) ho (I.freeC x c e)
 ·obtain⟨e,n,ne,nf,d⟩:=I.pin p hp;have R:p.1∉ch:=fun z=>(F p.1 z).2.2.2 p hp rfl;exact⟨keep p.1 p.2 ne nf R e n,free p.1 p.2 R e n,ne,nf,d⟩
def Inv.un{t':Nat}(I:Inv X Ee σ H s)(u:Un X.fs [] H H' s.heap h')(hok:fR X.prog X.w H' h'):Inv X Ee σ H' { s with heap:=h',toks:=t' }:=by
 obtain⟨m,⟨o,es,ep,Z,r⟩,_⟩:=id I.loc;obtain⟨sl,R⟩:=u.any Z I.free (by simp);exact I.step (g':=s.gens) (d':=s.drawn) (ch:=[]) (fun _ z=>nomatch z) (fun b o _ hb _ e n=>u.keep b o e n hb (by simp)) (fun b o _ hb _ e n=>u.slot b o e n hb (by simp)) (fun b o _ e n=>u.free b o e n (by simp)) (fun b o _ e=>u.there b o e (by simp)) u.tups u.frzs u.tbls (fun F M=>by
  obtain⟨o',q,Y,L,U⟩:=M;rw[Z]at L;cases L;exact⟨_,q,Y,R,U⟩) hok I.bare
def Inv.call{g':EZ GenState}{t':Nat}{d':Drawn}{ch:EK EN}(I:Inv X Ee σ H s)(u:Un (fx X.stack) ch H H' s.heap h')(hok:fR X.prog X.w H' h')(M:AllBare g')
  (F:∀b∈ch,(b∈X.ex∨X.s₀.heap.objs.size≤b)∧b≠X.env.locals∧(∀x c,X.env.cells.lookup x=some c->c≠b)∧∀p∈X.pn++Ee,p.1≠b) :
  Inv X Ee σ H' { s with heap:=h',gens:=g',drawn:=d',toks:=t' }:=by
 obtain⟨m,⟨o,es,ep,Z,r⟩,_⟩:=id I.loc;obtain⟨sl,R⟩:=u.any Z I.free fun z=>(F _ z).2.1 rfl;exact I.step (ch:=ch) F (fun b o R hb U e n=>u.keep b o e n (fun z=>(AJ.mp (I.stkSub b z)).elim R hb) U) (fun b o _ _ U e n=>u.any e n U) (fun b o U e n=>u.free b o e n U) (fun b o U e=>u.there b o e U) u.tups u.frzs u.tbls (fun m' hm=>by
  obtain⟨o',q,Y,L,r'⟩:=hm;rw[Z]at L;cases L;exact⟨_,q,Y,R,r'⟩) hok M
def Inv.turned{t':Nat}{it:EN}(I:Inv X Ee σ H s)(k:∀b o,b≠it->s.heap.get? b=some o->h'.get? b=some o)(Y:H it=none)(R:it≠X.env.locals)
  (M:it∈X.ex∨X.s₀.heap.objs.size≤it) (Z:∀x c,X.env.cells.lookup x=some c->c≠it) (F:∀p∈X.pn++Ee,p.1≠it):Inv X Ee σ H { s with heap:=h',toks:=t' }:=by
 have L:∀b u,H b=some u->b≠it:=fun b u e z=>by rw[z,Y]at e;cases e
 refine I.step (g':=s.gens) (d':=s.drawn) (ch:=[it]) (fun b hb=>?_) (fun b o _ _ U e _=>k b o (fun z=>U (by simp[z])) e) (fun b o _ _ U e _=>⟨o.slots,k b o (fun z=>U (by simp[z])) e⟩) (fun _ _ _ _ n=>n)
  (fun b o U e=>⟨o,k b o (fun z=>U (by simp[z])) e⟩) (fun _ _ e=>e) (fun _ _ _ e=>e) (fun b ps e=>⟨#[],by rw[e];simp⟩) (fun m hm=>?_) (fun b u e=>?_) I.bare
 ·have e:b=it:=by simpa using hb
  subst e;exact⟨M,R,Z,F⟩
 ·obtain⟨o,es,ep,ho,r⟩:=hm;exact⟨o,es,ep,k _ o (Ne.symm R) ho,r⟩
 ·refine (I.hok b u e).stay (fun c v U q=>k c v ?_ q) (fun _ q=>q) fun _ _ q=>q;rcases U with z|z
  ·rw[z];exact L b u e
  ·exact L c _ z
def Inv.tok(I:Inv X Ee σ H s)(t:Nat):Inv X Ee σ H { s with toks:=t }:=I.un (h':=s.heap) (t':=t) Un.refl I.hok
def Inv.kept{t':Nat}(I:Inv X Ee σ H s)(k:∀b u,s.heap.get? b=some u->h'.get? b=some u):Inv X Ee σ H { s with heap:=h',toks:=t' }:=I.un (Un.kept k) (I.hok.kept k)
def Inv.laid{a:EN}{o:HO}{t':Nat}(I:Inv X Ee σ H s)(k:∀b u,s.heap.get? b=some u->h'.get? b=some u)(L:s.heap.objs.size≤a)(new:eT X.prog X.w (eN H a o) h' a o) :
  Inv X Ee σ (eN H a o) { s with heap:=h',toks:=t' }:=I.un (Un.laid k L (I.hok.fresh L)) (I.hok.laid k L new)
def Inv.write{x e:EN}{o:HO}{t':Nat}(I:Inv X Ee σ H s)(F:kj (H x))(he:e=x∨H e=some (.own x))(k:∀b u,b≠e->s.heap.get? b=some u->h'.get? b=some u)(U:∃u,h'.get? e=some u)
  (new:eT X.prog X.w (eN H x o) h' x o):Inv X Ee σ (eN H x o) { s with heap:=h',toks:=t' }:=I.un (Un.write F he k U) (I.hok.write F he k U new)
def Inv.pins_of{F:EK (EN×Obj)}(I:Inv X Ee σ H s)(h:∀p∈F,s.heap.get? p.1=some p.2∧H p.1=none∧p.1≠X.env.locals∧p.1∉X.fs∧∀v,p.2.data≠ .cell v):Inv X F σ H s :=
 ⟨I.ok,I.os,I.bare,I.base,I.loc,I.cell,I.free,I.freeC,fun p L=>(Ab.mp L).elim (fun z=>I.pin p (List.mem_append_left _ z)) (h p),I.hok,I.len,I.hnd⟩
def ye{N:EK Str}(Z:N.Nodup){i j:Nat}{x:Str}(a:N[i]? = some x)(b:N[j]? = some x):i=j:=by obtain⟨Y,R⟩:=Ag.mp a;obtain⟨U,F⟩:=Ag.mp b;exact (List.getElem_inj Z).mp (R.trans F.symm)
def pS{M:Model}{A:EW}{E:EL->EM->Prop}{i:Nat}{x:Str}{v:V}{u:EL}{Q:Unit->EM->Prop}(I:Inv X Ee σ H s)(hN:X.N.Nodup)(hi:X.N[i]? = some x)(R:Loc X.env.scope x)(r:RelV v u)
  (h:∀s',Inv X Ee (σ.set i (some v)) H s'->(∃a,Heap.SameBut a s.heap s'.heap∧(a=X.env.locals∨X.env.cells.lookup x=some a))->Q () s') (hf:X.fn x=true∨X.env.scope.names.lookup x=some .local:=by first|exact .inl rfl|exact .inr rfl|assumption):wpAny M A (storeName X.env x u) Q E s:=by
 obtain⟨m,hn,hl⟩:=id I.loc;have a1:(X.env.scope.kind == .class||(X.env.scope.kind == .module&&X.env.locals != X.env.globals))=false:=by rw[I.ok.kind];rfl
 have a2:i<σ.length:=by rw[I.len];exact (Ag.mp hi).1
 have cne:=I.cne;have L:∀{a:EN} {h':Heap},(∃o,s.heap.get? a=some o∧H a=none)->Heap.SameBut a s.heap h'->fR X.prog X.w H h':=fun {a h'} ha hs b ob e=>by
  obtain⟨_,_,Y⟩:=ha;refine (I.hok b ob e).stay (fun c w' hc q=>(hs.2 c ?_).trans q) (fun _ q=>q) fun _ _ q=>q;rintro rfl;rcases hc with rfl|hc
  ·rw[Y]at e;cases e
  ·rw[Y]at hc;cases hc
 rcases R with hk|hk
 ·refine wpAny_storeName_local hk hn (fun h' a7 hs=>?_) a1;obtain⟨oL,_,_,a8,_⟩:=id hn;refine h _ ⟨I.ok,I.os,I.bare,⟨fun b o e n hb R=>?_,fun b o e n hb R=>?_,I.base.free,fun b o e R=>?_,I.base.tups,I.base.frzs,I.base.tbls⟩,⟨_,a7,fun j y v' Z F e3=>?_⟩,fun y c e=>?_,I.free,I.freeC,fun p hp=>?_,L ⟨oL,a8,I.free⟩ hs,by simpa using I.len,I.hnd⟩ ⟨_,hs,.inl rfl⟩;exact (hs.2 b (AV (Ao (AK e) I.ok.above))).trans (I.base.keep b o e n hb R);obtain⟨sl,Z⟩:=I.base.slot b o e n hb R;exact⟨sl,(hs.2 b (AV (Ao (AK e) I.ok.above))).trans Z⟩;obtain⟨o',Z⟩:=I.base.there b o e R;exact⟨o',(hs.2 b (AV (Ao (AK e) I.ok.above))).trans Z⟩
  ·by_cases U:j=i;subst U;rw[hi]at Z;cases Z;rw[BB a2]at F;cases F;exact⟨u,r,.inl ⟨hk,by simp⟩⟩
   ·rw[BQ (Ne.symm U)]at F;obtain⟨u',r',q⟩:=hl j y v' Z F e3;refine⟨u',r',?_⟩;rcases q with⟨k,e⟩|⟨k,c,e,z⟩
    ·refine .inl ⟨k,?_⟩
     have:y≠x:=fun e=>U (ye hN Z (e ▸ hi))
     simp[this,e]
    ·exact .inr ⟨k,c,e,z.sameBut hs (cne y c e)⟩
  ·obtain⟨w',z⟩:=I.cell y c e;exact⟨w',z.sameBut hs (cne y c e)⟩
  ·obtain⟨e,n,ne,nf,d⟩:=I.pin p hp;exact⟨(hs.2 p.1 ne).trans e,n,ne,nf,d⟩
 ·have a0:X.fn x=true:=by
   rcases hf with z|z
   ·exact z
   ·rw[z]at hk;cases hk
  obtain⟨c,hc⟩:=I.ok.has x (.inl hk);obtain⟨w',z⟩:=I.cell x c hc;refine wpAny_storeName_cell I.ok.kind hk hc z (fun h' a3 hs=>?_);obtain⟨oc,a4,a5⟩:=id z;refine h { s with heap:=h' } ⟨I.ok,I.os,I.bare,⟨fun b o e n hb R=>?_,fun b o e n hb R=>?_,I.base.free,fun b o e R=>?_,I.base.tups,I.base.frzs,I.base.tbls⟩,⟨m,hn.sameBut hs (Ne.symm (cne x c hc)),fun j y v' Z F e3=>?_⟩,fun y c' e=>?_,I.free,I.freeC,fun p hp=>?_,L ⟨oc,a4,I.freeC x c hc⟩ hs,by simpa using I.len,I.hnd⟩ ⟨c,hs,.inr hc⟩;exact (hs.2 b (AV (Ao (AK e) (I.ok.cab x c a0 hc)))).trans (I.base.keep b o e n hb R);obtain⟨sl,Z⟩:=I.base.slot b o e n hb R;exact⟨sl,(hs.2 b (AV (Ao (AK e) (I.ok.cab x c a0 hc)))).trans Z⟩;obtain⟨o',Z⟩:=I.base.there b o e R;exact⟨o',(hs.2 b (AV (Ao (AK e) (I.ok.cab x c a0 hc)))).trans Z⟩
  ·by_cases U:j=i;subst U;rw[hi]at Z;cases Z;rw[BB a2]at F;cases F;exact⟨u,r,.inr ⟨.inl hk,c,hc,a3⟩⟩
   ·rw[BQ (Ne.symm U)]at F;obtain⟨u',r',q⟩:=hl j y v' Z F e3;refine⟨u',r',?_⟩;rcases q with q|⟨k,c',e,z'⟩
    ·exact .inl q
    ·refine .inr ⟨k,c',e,z'.sameBut hs ?_⟩;rintro rfl;exact U (ye hN Z (I.ok.inj _ _ _ e hc ▸ hi))
  ·by_cases a6:c'=c;subst a6;exact⟨_,a3⟩;obtain⟨w2,z2⟩:=I.cell y c' e;exact⟨w2,z2.sameBut hs a6⟩
  ·obtain⟨e,n,ne,nf,d⟩:=I.pin p hp;refine⟨(hs.2 p.1 ?_).trans e,n,ne,nf,d⟩;intro q;rw[q,a4]at e;have q':oc=p.2:=Al e;exact d w' (by rw[←q'];exact a5)
def W0{M:Model}{A:EW}{E:EL->EM->Prop}{i:Nat}{x:Str}{v:V}{u:EL}{Q:Unit->EM->Prop}(I:Inv X Ee σ H s)(Z:X.N.Nodup)(hi:X.N[i]? = some x)(L:Loc X.env.scope x)(r:RelV v u)
  (h:∀s',Inv X Ee (σ.set i (some v)) H s'->Q () s') (F:X.fn x=true∨X.env.scope.names.lookup x=some .local:=by first|exact .inl rfl|exact .inr rfl|assumption):wpAny M A (storeName X.env x u) Q E s :=
 pS I Z hi L r (fun s' R _=>h s' R) F
def Inv.call'{s':EM}{ch:EK EN}(I:Inv X Ee σ H s)(Z:s'.os=s.os)(u:Un (fx X.stack) ch H H' s.heap s'.heap)(hok:fR X.prog X.w H' s'.heap)(L:AllBare s'.gens)
  (F:∀b∈ch,(b∈X.ex∨X.s₀.heap.objs.size≤b)∧b≠X.env.locals∧(∀x c,X.env.cells.lookup x=some c->c≠b)∧∀p∈X.pn++Ee,p.1≠b):Inv X Ee σ H' s':=by obtain⟨h',q,Y,M,o'⟩:=s';have e:o'=s.os:=Z;subst e;exact I.call (g':=q) (t':=M) (d':=Y) u hok L F
end
abbrev XK:=EL->EO EN->Hp->Prop
abbrev St:=EK (EO V)
abbrev VK:=V->Hp->Prop
abbrev TE:=St->Hp->VK->Prop
abbrev TT:=St->Hp->(Bool->Hp->Prop)->Prop
abbrev TA:=St->Hp->(EK V->Hp->Prop)->Prop
structure fF where
 nx:St->Hp->Prop
 rt:VK
 bk:St->Hp->Prop:=fun _ _=>False
 ct:St->Hp->Prop:=fun _ _=>False
abbrev TS:=fF->St->Hp->Prop
def EP(X:Cx)(Ee:EK (EN×Obj))(σ:St)(Q:VK)(u:EL)(s':EM):Prop:=∃v H',Inv X Ee σ H' s'∧RelV v u∧Q v H'
def TP(X:Cx)(Ee:EK (EN×Obj))(σ:St)(Q:Bool->Hp->Prop)(b:Bool)(s':EM):Prop:=∃H',Inv X Ee σ H' s'∧Q b H'
def AP(X:Cx)(Ee:EK (EN×Obj))(σ:St)(Q:EK V->Hp->Prop)(us:EK EL)(s':EM):Prop:=∃vs H',Inv X Ee σ H' s'∧ei vs us∧Q vs H'
def SP(X:Cx)(Ee:EK (EN×Obj))(D:fF)(f:Flow)(s':EM):Prop :=
 match f with| .next=>∃Z H',Inv X Ee Z H' s'∧D.nx Z H'| .brk=>∃Z H',Inv X Ee Z H' s'∧D.bk Z H'| .cont=>∃Z H',Inv X Ee Z H' s'∧D.ct Z H'| .ret u=>∃v Z H',Inv X Ee Z H' s'∧RelV v u∧D.rt v H'
def PE(X:Cx)(e:EY)(t:TE):Prop :=
 ∀(Ee:EK (EN×Obj)) (s:EM) (σ:St) (H:Hp) (Q:VK),Inv X Ee σ H s->t σ H Q->wpAny (model X.prog X.w) X.A (eval e X.env) (EP X Ee σ Q) X.xe s
def PT(X:Cx)(e:EY)(t:TT):Prop :=
 ∀(Ee:EK (EN×Obj)) (s:EM) (σ:St) (H:Hp) (Q:Bool->Hp->Prop),Inv X Ee σ H s->t σ H Q->wpAny (model X.prog X.w) X.A (isTrue e X.env (eval e X.env)) (TP X Ee σ Q) X.xe s
def PW(X:Cx)(e:EY)(t:TT):Prop :=
 ∀(U:Sem EL) (Ee:EK (EN×Obj)) (s:EM) (σ:St) (H:Hp) (Q:Bool->Hp->Prop),Inv X Ee σ H s->t σ H Q->wpAny (model X.prog X.w) X.A (isTrue e X.env U) (TP X Ee σ Q) X.xe s
def PW.pt{X:Cx}{e:EY}{t:TT}(h:PW X e t):PT X e t:=h _
def PA(X:Cx)(es:EK EY)(t:TA):Prop :=
 ∀(F:Pos) (Ee:EK (EN×Obj)) (s:EM) (σ:St) (H:Hp) (Q:EK V->Hp->Prop),Inv X Ee σ H s->t σ H Q->wpAny (model X.prog X.w) X.A (spliced (backTo F (starEach es X.env))) (AP X Ee σ Q) X.xe s
def PS(X:Cx)(st:Stmt)(t:TS):Prop :=
 ∀(Ee:EK (EN×Obj)) (s:EM) (σ:St) (H:Hp) (D:fF),Inv X Ee σ H s->t D σ H->wpAny (model X.prog X.w) X.A (exec st X.env) (SP X Ee D) X.xe s
def f8(X:Cx)(st:EK Stmt)(t:TS):Prop :=
 ∀(Ee:EK (EN×Obj)) (s:EM) (σ:St) (H:Hp) (D:fF),Inv X Ee σ H s->t D σ H->wpAny (model X.prog X.w) X.A (execs st X.env) (SP X Ee D) X.xe s
def eK{α:Type}{t:Sem α}{Q Z:α->EM->Prop}{M:Model}{A:EW}{E:EL->EM->Prop}{s:EM}(h:wpAny M A t Q E s)(I:∀a s,Q a s->Z a s):wpAny M A t Z E s:=Bb h I fun _ _ x=>x
end L2
namespace L2
open PySem PySem.Spec PyProof.Rows
section
variable{X:Cx}
def kW(i:Nat):TE:=fun σ H Q=>∃v,σ[i]? = some (some v)∧Q v H
def tC(v:V):TE:=fun _ H Q=>Q v H
def sO{i:Nat}{x:Str}{pos:Pos}(Z:X.N[i]? = some x)(F:iz X.env.scope x)(hd:(x==("__debug__":Str))=false:=by decide)(U:(x==("__classdict__":Str))=false:=by decide):PE X (.Name x pos) (kW i):=by
 intro Ee s σ H Q I h;obtain⟨v,e,h⟩:=h;obtain⟨m,Y,hl⟩:=I.loc;obtain⟨u,r,l⟩:=hl i x v Z e F;have R:EP X Ee σ Q u s:=⟨v,H,I,r,h⟩;rcases l with⟨hk,M⟩|⟨hk,c,L,q⟩
 ·exact wpAny_Name (wpAny_loadName_local I.ok.kind hk Y M R) hd
 ·rcases hk with hk|hk
  ·exact wpAny_Name (wpAny_loadName_cell I.ok.kind hk L q R) hd
  ·exact wpAny_Name (wpAny_loadName_free I.ok.kind hk L q R U) hd
def rh{i j pos}:PE X (.Constant (.int i) j pos) (tC (.int i)):=fun _ _ _ H _ I h=>wpAny_Constant_int ⟨.int i,H,I.tok _,⟨_,rfl⟩,h⟩
def Dr{b j pos}:PE X (.Constant (.bool b) j pos) (tC (.bl b)):=fun _ _ _ H _ I h=>Constant_bool ⟨.bl b,H,I,rfl,h⟩
def mM{j pos}:PE X (.Constant .none j pos) (tC .non):=fun _ _ _ H _ I h=>Constant_none ⟨.non,H,I,rfl,h⟩
def Dk{x j pos}:PE X (.Constant (.str x) j pos) (tC (.str x)):=fun _ _ _ H _ I h=>Calls.Constant_str ⟨.str x,H,I.tok _,⟨_,rfl⟩,h⟩
def Gl(X:Cx)(x:Str):Prop:=X.env.kindOf x=some .globalImplicit
def je{E:EL->EM->Prop}{Ee:EK (EN×Obj)}{s:EM}{σ:St}{H:Hp}{x:Str}{u:EL}{pos:Pos}{Q:EL->EM->Prop}(I:Inv X Ee σ H s)(Z:Gl X x)(M:X.mg x=some u)(h:Q u s)
  (hd:(x==("__debug__":Str))=false:=by decide):wpAny (model X.prog X.w) X.A (eval (.Name x pos) X.env) Q E s :=
 Calls.Name_function_global I.ok.kind Z (Calls.loadGlobal_global (by rw[I.ok.glob];exact I.mod.glob.keeps I.bk) M h) hd
def Wq{E:EL->EM->Prop}{Ee:EK (EN×Obj)}{s:EM}{σ:St}{H:Hp}{x:Str}{u:EL}{pos:Pos}{Q:EL->EM->Prop}(I:Inv X Ee σ H s)(Z:Gl X x)(M:X.mg x=none)(L:bootBuiltins x=some u)(h:Q u s)
  (Y:x ≠ "__name__" :=by decide) (hd:(x==("__debug__":Str))=false:=by decide):wpAny (model X.prog X.w) X.A (eval (.Name x pos) X.env) Q E s:=by obtain⟨mb,F,U⟩:=I.mod.blt;exact Calls.Name_function_global I.ok.kind Z (Calls.loadGlobal_builtin (by rw[I.ok.glob];exact I.mod.glob.keeps I.bk) M (by rw[I.ok.blt];exact F.keeps I.bk) ((U x Y).trans L) h) hd
def oO{x:Str}{v:V}{u:EL}{pos:Pos}(Z:Gl X x)(M:X.mg x=some u)(r:RelV v u)(hd:(x==("__debug__":Str))=false:=by decide):PE X (.Name x pos) (tC v) :=
 fun _ _ _ H _ I h=>je I Z M ⟨v,H,I,r,h⟩ hd
def Dx{x:Str}{v:V}{u:EL}{pos:Pos}(Z:Gl X x)(M:X.mg x=none)(L:bootBuiltins x=some u)(r:RelV v u)(Y:x ≠ "__name__" :=by decide)(hd:(x==("__debug__":Str))=false:=by decide):PE X (.Name x pos) (tC v) :=
 fun _ _ _ H _ I h=>Wq I Z M L ⟨v,H,I,r,h⟩ Y hd
variable{a b:EY}{ta tb:TE}{pos:Pos}
variable{tA tB':TT}{El:EK EY}
def vF(t u:TT):TT:=fun σ H Q=>t σ H fun c H1=>if c=true then Q true H1 else u σ H1 Q
def xi(t:TT):TT:=fun σ H Q=>t σ H fun c H1=>Q (!c) H1
def xl(F:PT X a tA):PW X (.BoolOp .Or [a] pos) tA:=by
 intro M Ee s σ H Q I h;refine isTrue_or (eK (F Ee s σ H Q I h) fun c s1 e=>?_);cases c with|false=>exact isTrue_or_nil e|true=>exact e
def rN(F:PT X a tA)(hb:PW X (.BoolOp .Or (b::El) pos) tB'):PW X (.BoolOp .Or (a::b::El) pos) (vF tA tB'):=by
 intro M Ee s σ H Q I h;refine isTrue_or (eK (F Ee s σ H _ I h) fun c s1 ⟨H1,L,q⟩=>?_);cases c with|true=>exact⟨H1,L,q⟩|false=>exact hb M Ee s1 σ H1 Q L q
def pe(F:PT X a tA):PT X (.UnaryOp .Not a pos) (xi tA):=by intro Ee s σ H Q I h;exact isTrue_not (F Ee s σ H (fun c H1=>Q (!c) H1) I h)
def uN(ta tb:TE):TE:=fun σ H Q=>ta σ H fun x H1=>∃c,x= .bl c∧if c=true then tb σ H1 Q else Q (.bl false) H1
def rG(ta:TE):TE:=fun σ H Q=>ta σ H fun x H1=>∃c,x= .bl c∧Q (.bl (!c)) H1
def D7{op}{t:TE}(h:PE X a t):PE X (.BoolOp op [a] pos) t:=fun Ee s σ H Q I M=>BoolOp_one (h Ee s σ H Q I M)
def D4(F:PE X a ta)(hb:PE X (.BoolOp .And (b::El) pos) tb):PE X (.BoolOp .And (a::b::El) pos) (uN ta tb):=by
 intro Ee s σ H Q I h;refine BoolOp_and (eK (F Ee s σ H _ I h) fun v s1 ⟨x,H1,L,Y,q⟩=>?_);obtain⟨c,rfl,q⟩:=q;cases Y;refine Bj ?_;cases c with|true=>exact hb Ee s1 σ H1 Q L q|false=>exact⟨.bl false,H1,L,rfl,q⟩
def xY(F:PE X a ta):PE X (.UnaryOp .Not a pos) (rG ta):=by intro Ee s σ H Q I h;refine UnaryOp_ (eK (F Ee s σ H _ I h) fun v s1 ⟨x,H1,L,Y,q⟩=>?_);obtain⟨c,rfl,q⟩:=q;cases Y;exact not_of (Bj ⟨.bl (!c),H1,L,rfl,q⟩)
end
end L2
namespace L2
open PySem PySem.Spec PyProof.Rows
def fm(K:EQ)(H:Hp)(a:EN)(xs:EK V):Prop :=
 Rd H a (.lst xs) ∨
  ∃(o:Obj) (Eg:EZ EL) (n:Nat),K.lookup a=some o∧o.cls= .type "list" ∧o.dict=none∧o.data= .seq Eg n∧Eg.size≤sizeLine∧ei xs Eg.toList
def fC(K:EQ)(H:Hp)(a:EN)(xs:EK V):Prop :=
 Rd H a (.tup xs) ∨
  ∃(o:Obj) (Eg:EZ EL) (n:Nat),K.lookup a=some o∧o.cls= .type "tuple" ∧o.data= .seq Eg n∧Eg.size≤sizeLine∧ei xs Eg.toList
def pY:EL->EO V| .none=>some .non| .bool b=>some (.bl b)| .int i _=>some (.int i)| .str x _=>some (.str x)| .bytes b _=>some (.byt b)| .float b _=>some (.flt b)| .ref a=>some (.ref a)| .type n=>some (.ty n)|_=>none
def RelV.abs{x:V}{u:EL}(r:RelV x u):pY u=some x:=by
 cases x with|non=>cases r;rfl|bl _=>cases r;rfl|int _=>obtain⟨t,rfl⟩:=r;rfl|str _=>obtain⟨t,rfl⟩:=r;rfl|byt _=>obtain⟨t,rfl⟩:=r;rfl|flt _=>obtain⟨t,rfl⟩:=r;rfl|ref _=>cases r;rfl|ty _=>cases r;rfl
def RelV.inj{x y:V}{u:EL}(r:RelV x u)(q:RelV y u):x=y:=Al (r.abs.symm.trans q.abs)
def ei.inj:∀{xs M:EK V} {us:EK EL},ei xs us->ei M us->xs=M|_,_,_,.nil,.nil=>rfl|_,_,_,.cons r t,.cons U Z=>by rw[r.inj U,ei.inj t Z]
section
variable{X:Cx}{Ee:EK (EN×Obj)}{σ:St}{H:Hp}{s:EM}{a:EN}{xs ys:EK V}
def fm.of{K:EQ}(h:H a=some (.lst xs)):fm K H a xs:=.inl (.inl h)
def Inv.list(I:Inv X Ee σ H s)(h:fm X.K H a xs):∃Eg:EK EL,ei xs Eg∧PlainL s.heap a Eg.toArray∧xs.length≤sizeLine:=by
 rcases h with h|⟨o,Eg,n,R,U,hd,hs,Z,r⟩
 ·obtain⟨z,Eg,n,r,e⟩:=h.ok I.hok;exact⟨Eg,r,⟨_,n,e,rfl,rfl,rfl⟩,z⟩
 ·refine⟨Eg.toList,r,⟨o,n,I.kIn a o R,U,hd,by simpa using hs⟩,?_⟩;have e:=r.length;simp only[Ai]at e;omega
def Inv.tuple(I:Inv X Ee σ H s)(h:fC X.K H a xs):∃Eg:EK EL,ei xs Eg∧IsTup s.heap a Eg.toArray∧xs.length≤sizeLine:=by
 rcases h with h|⟨o,Eg,n,R,U,hs,Z,r⟩
 ·obtain⟨z,Eg,r,p,_⟩:=h.ok I.hok;exact⟨Eg,r,p,z⟩
 ·refine⟨Eg.toList,r,⟨o,I.kIn a o R,U,n,by simpa using hs⟩,?_⟩;have e:=r.length;simp only[Ai]at e;omega
def Inv.list_inj(I:Inv X Ee σ H s)(h:fm X.K H a xs)(h':fm X.K H a ys):xs=ys:=by
 obtain⟨Eg,r,⟨o,n,e,_,_,d⟩,_⟩:=I.list h;obtain⟨q,U,⟨o',L,F,_,_,Y⟩,_⟩:=I.list h';rw[e]at F;cases F;rw[d]at Y;injection Y with d1 _
 have:Eg=q:=by simpa using A5 Array.toList d1
 subst this;exact r.inj U
def Inv.tuple_inj(I:Inv X Ee σ H s)(h:fC X.K H a xs)(h':fC X.K H a ys):xs=ys:=by
 obtain⟨Eg,r,⟨o,e,_,n,d⟩,_⟩:=I.tuple h;obtain⟨q,U,⟨o',F,_,L,Y⟩,_⟩:=I.tuple h';rw[e]at F;cases F;rw[d]at Y;injection Y with d1 _
 have:Eg=q:=by simpa using A5 Array.toList d1
 subst this;exact r.inj U
end
abbrev Cx.wish(X:Cx)(E:EL->EM->Prop):Cx:={ X with xe:=E }
abbrev Cx.nox(X:Cx):Cx:=X.wish fun _ _=>False
def Cx.Ok.wish{X:Cx}(ok:X.Ok)(E:EL->EM->Prop):(X.wish E).Ok :=
 ⟨ok.mod,ok.kind,ok.glob,ok.blt,ok.above,ok.inj,ok.has,ok.cab,ok.hd,ok.frames,ok.stk,ok.exf,ok.bs,ok.bsz,ok.noex,ok.exfs,ok.funs,ok.frf⟩
def Cx.Ok.unwish{X:Cx}{E:EL->EM->Prop}(ok:(X.wish E).Ok):X.Ok :=
 ⟨ok.mod,ok.kind,ok.glob,ok.blt,ok.above,ok.inj,ok.has,ok.cab,ok.hd,ok.frames,ok.stk,ok.exf,ok.bs,ok.bsz,ok.noex,ok.exfs,ok.funs,ok.frf⟩
section
variable{X:Cx}{Ee:EK (EN×Obj)}{σ:St}{H:Hp}{s:EM}{E:EL->EM->Prop}
def Inv.wish(I:Inv X Ee σ H s)(E:EL->EM->Prop):Inv (X.wish E) Ee σ H s:=⟨I.ok.wish E,I.os,I.bare,I.base,I.loc,I.cell,I.free,I.freeC,I.pin,I.hok,I.len,I.hnd⟩
def Inv.unwish(I:Inv (X.wish E) Ee σ H s):Inv X Ee σ H s:=⟨I.ok.unwish,I.os,I.bare,I.base,I.loc,I.cell,I.free,I.freeC,I.pin,I.hok,I.len,I.hnd⟩
def SP.unwish{D:fF}{f:Flow}{s':EM}(h:SP (X.wish E) Ee D f s'):SP X Ee D f s':=by
 cases f with|next=>obtain⟨Z,H',I,q⟩:=h;exact⟨Z,H',I.unwish,q⟩|brk=>obtain⟨Z,H',I,q⟩:=h;exact⟨Z,H',I.unwish,q⟩|cont=>obtain⟨Z,H',I,q⟩:=h;exact⟨Z,H',I.unwish,q⟩|ret u=>obtain⟨v,Z,H',I,r,q⟩:=h;exact⟨v,Z,H',I.unwish,r,q⟩
end
section
variable{X:Cx}{st:Stmt}{El:EK Stmt}{t u:TS}{e:EY}{te:TE}{pos:Pos}
def qHd:TS:=fun D σ H=>D.nx σ H
def rS(t u:TS):TS:=fun D σ H=>t { D with nx:=u D } σ H
def uO:f8 X [] qHd:=fun _ _ σ H _ I h=>wpAny_execs_nil ⟨σ,H,I,h⟩
def sM(Y:PS X st t)(U:f8 X El u):f8 X (st::El) (rS t u):=by
 intro Ee s σ H D I h;refine wpAny_execs_cons (eK (Y Ee s σ H { D with nx:=u D } I h) fun f s1 q=>?_);cases f with|next=>obtain⟨Z,H',R,q⟩:=q;exact U Ee s1 Z H' D R q|ret v=>exact q|brk=>exact q|cont=>exact q
def D3(Y:PS X st t):f8 X [st] t:=by
 intro Ee s σ H D I h;refine wpAny_execs_cons (eK (Y Ee s σ H D I h) fun f s1 q=>?_);cases f with|next=>exact wpAny_execs_nil q|ret v=>exact q|brk=>exact q|cont=>exact q
def Inv.quiet{Ee:EK (EN×Obj)}{σ:St}{H:Hp}{s:EM}(I:Inv X Ee σ H s):interactive X.env=false:=by simp[interactive,I.ok.kind]
def uc(te:TE):TS:=fun D σ H=>te σ H fun _ H1=>D.nx σ H1
def nQ(he:PE X e te)(hs:swapsWith e none pos.line X.env=pure false:=by rfl):PS X (.Expr e pos) (uc te):=by intro Ee s σ H D I h;exact wpAny_Expr_any (eK (he Ee s σ H _ I h) fun v s1 ⟨x,H1,L,Y,q⟩=>⟨σ,H1,L,q⟩) I.quiet hs
def vP(te:TE):TS:=fun D σ H=>te σ H D.rt
def mB(he:PE X e te):PS X (.Return (some e) pos) (vP te):=by intro Ee s σ H D I h;exact wpAny_Return_some (eK (he Ee s σ H _ I h) fun v s1 ⟨x,H1,L,Y,q⟩=>⟨x,σ,H1,L,Y,q⟩)
def DQ(c:TT)(t u:TS):TS:=fun D σ H=>c σ H fun b H1=>if b=true then t D σ H1 else u D σ H1
def rP{c:EY}{a b:EK Stmt}{M:TT}(U:PT X c M)(F:f8 X a t)(hb:f8 X b u):PS X (.If c a b pos) (DQ M t u):=by
 intro Ee s σ H D I h;refine wpAny_If (eK (U Ee s σ H _ I h) fun d s1 ⟨H1,L,q⟩=>?_);cases d with|true=>exact F Ee s1 σ H1 D L q|false=>exact hb Ee s1 σ H1 D L q
end
abbrev TG:=V->St->Hp->(St->Hp->Prop)->Prop
abbrev TGs:=EK V->St->Hp->(St->Hp->Prop)->Prop
def PG(X:Cx)(target:EY)(t:TG):Prop :=
 ∀(Ee:EK (EN×Obj)) (s:EM) (σ:St) (H:Hp) (v:V) (u:EL) (Q:St->Hp->Prop),Inv X Ee σ H s->RelV v u->t v σ H Q ->
  wpAny (model X.prog X.w) X.A (assign target X.env u) (fun _ L=>∃Z H',Inv X Ee Z H' L∧Q Z H') X.xe s
def gP(X:Cx)(ts:EK EY)(t:TGs):Prop :=
 ∀(Ee:EK (EN×Obj)) (s:EM) (σ:St) (H:Hp) (vs:EK V) (us:EK EL) (Q:St->Hp->Prop),Inv X Ee σ H s->ei vs us->t vs σ H Q ->
  wpAny (model X.prog X.w) X.A (assignInOrder ((assignEach ts X.env).map (·.2)) us) (fun _ L=>∃Z H',Inv X Ee Z H' L∧Q Z H') X.xe s
abbrev qGJ:=V->V->V->Hp->(Hp->Prop)->Prop
def mK(X:Cx)(t:qGJ):Prop :=
 ∀(Ee:EK (EN×Obj)) (s:EM) (σ:St) (H:Hp) (o i v:V) (U M u:EL) (Q:Hp->Prop),Inv X Ee σ H s->RelV o U->RelV i M->RelV v u->t o i v H Q ->
  wpAny (model X.prog X.w) X.A (setItem U M u) (fun _ L=>∃H',Inv X Ee σ H' L∧Q H') X.xe s
section
variable{X:Cx}{pos:Pos}
def k9(i:Nat):TG:=fun v σ H Q=>Q (σ.set i (some v)) H
def xo{i:Nat}{x:Str}(Z:X.N.Nodup)(hi:X.N[i]? = some x)(M:Loc X.env.scope x)(F:X.fn x=true∨X.env.scope.names.lookup x=some .local:=by first|exact .inl rfl|exact .inr rfl|assumption):PG X (.Name x pos) (k9 i):=by intro Ee s σ H v u Q I r h;exact wpAny_assign_Name (W0 I Z hi M r (fun L R=>⟨_,H,R,h⟩) F)
def qIg:TGs:=fun vs σ H Q=>vs=[]∧Q σ H
def vX(t:TG)(u:TGs):TGs:=fun vs σ H Q=>∃v r,vs=v::r∧t v σ H fun Z H'=>u r Z H' Q
def sZ:gP X [] qIg:=by intro Ee s σ H vs us Q I r h;obtain⟨e,h⟩:=h;subst e;cases r;exact assignInOrder_nil ⟨σ,H,I,h⟩
def pQ{e:EY}{es:EK EY}{t:TG}{u:TGs}(Y:PG X e t)(U:gP X es u)
  (hs:(assignEach (e::es) X.env).map (·.2)=assign e X.env::(assignEach es X.env).map (·.2):=by rfl):gP X (e::es) (vX t u):=by
 intro Ee s σ H vs us Q I r h;obtain⟨v,R,Z,h⟩:=h;subst Z;cases r with|cons r F=>rw[hs];refine assignInOrder_cons (eK (Y Ee s σ H _ _ _ I r h) fun _ s1 ⟨M,H1,L,q⟩=>?_);exact U Ee s1 M H1 _ _ Q L F q
def uE(K:EQ)(n:Nat)(t:TGs):TG:=fun v σ H Q=>∃a xs,v= .ref a∧fC K H a xs∧xs.length=n∧t xs σ H Q
def pK{es:EK EY}{k:Nat}{t:TGs}{n:Nat}(U:X.calm=true)(h:gP X es t)
  (Y:(assignEach es X.env).length=n:=by rfl) (q:(assignEach es X.env).findIdx? (·.1)=none:=by rfl):PG X (.Tuple es k pos) (uE X.K n t):=by
 intro Ee s σ H v u Q I r M;obtain⟨a,xs,Z,R,hl,M⟩:=M;subst Z;cases r;obtain⟨Eg,L,F,hz⟩:=I.tuple R;refine assign_Tuple_tuple (I.ok.hd U) F (by simp[Y,←hl,L.length]) q fun h' hx=>?_;have I1:Inv X Ee σ H { s with heap:=h' }:=I.kept (t':=s.toks) fun b o e=>hx b o (AV (AK e)) e;exact h Ee _ σ H xs _ Q I1 (by simpa using L) M
def zT(to q:TE)(t:qGJ):TG:=fun v σ H Q=>to σ H fun o H1=>q σ H1 fun i Y=>t o i v Y fun H3=>Q σ H3
def pT{o i:EY}{to q:TE}{t:qGJ}(Z:PE X o to)(hi:PE X i q)(hs:mK X t)
  (F:∀v,assign (.Subscript o i pos) X.env v=(do
   let U ← holding [v] (eval o X.env)
   let M ← holding [v,U] (eval i X.env)
   standAt pos
   holding [v,U,M] (setItem U M v)
   release [v,U,M] []):=by intro _;rfl):PG X (.Subscript o i pos) (zT to q t):=by intro Ee s σ H v u Q I r h;rw[F];refine AA (Ay (eK (Z Ee s σ H _ I h) fun U s1 ⟨x,H1,L,Y,R⟩=>?_));refine AA (Ay (eK (hi Ee s1 σ H1 _ L R) fun M s2 ⟨y,H2,I2,r2,q2⟩=>?_));refine AA (CZ (AA (Ay (eK (hs Ee s2 σ H2 x y v U M u _ I2 Y r2 r q2) fun _ s3 ⟨H3,I3,q3⟩=>?_))));exact wpAny_release ⟨σ,H3,I3,q3⟩
def lF(R:TE)(g:TG):TS:=fun D σ H=>R σ H fun x H1=>g x σ H1 D.nx
def mQ{tg e:EY}{R:TE}{g:TG}(he:PE X e R)(Z:PG X tg g)(hs:swapsWithSole [tg] e pos.line X.env=pure false:=by rfl)(M:swappedStores [tg] e X.env=pure none:=by rfl)
  (Y:(assignEach [tg] X.env).map (·.2)=[assign tg X.env]:=by rfl):PS X (.Assign [tg] e pos) (lF R g):=by intro Ee s σ H D I h;refine wpAny_Assign_stores (eK (he Ee s σ H _ I h) fun v s1 ⟨x,H1,L,U,F⟩=>?_) hs M;rw[Y];exact eK (Z Ee s1 σ H1 x v _ L U F) fun _ s2 q=>q
def nN{i:Nat}{x:Str}{e:EY}{R:TE}{q:Pos}(Z:X.N.Nodup)(hi:X.N[i]? = some x)(M:Loc X.env.scope x)(he:PE X e R)(hs:swapsWith e (some (.Name x q)) pos.line X.env=pure false:=by rfl)(F:X.fn x=true∨X.env.scope.names.lookup x=some .local:=by first|exact .inl rfl|exact .inr rfl|assumption) :
  PS X (.Assign [.Name x q] e pos) (lF R (k9 i)):=by intro Ee s σ H D I h;refine wpAny_Assign_Name (eK (he Ee s σ H _ I h) fun v s1 ⟨y,H1,L,Y,U⟩=>?_) hs;exact W0 L Z hi M Y (fun s2 I2=>⟨_,H1,I2,U⟩) F
def Dh(i j:Nat)(Z:TA):TS:=fun D σ H=>Z σ H fun vs H1=>∃v w,vs=[v,w]∧D.nx ((σ.set i (some v)).set j (some w)) H1
def xJ{i j:Nat}{x y:Str}{a b:EY}{ta:TA}{F Y pt:Pos}{M k2 R}(hc:X.calm=true)(hN:X.N.Nodup)(hi:X.N[i]? = some x)(hj:X.N[j]? = some y)(Z:i≠j)
  (hx:X.env.scope.names.lookup x=some .local) (hy:X.env.scope.names.lookup y=some .local) (ha:PA X [a,b] ta)
  (hw:swappedStores [.Tuple [.Name x F,.Name y Y] M pt] (.Tuple [a,b] k2 R) X.env=pure (some [x,y]))
  (hs:swapsWithSole [.Tuple [.Name x F,.Name y Y] M pt] (.Tuple [a,b] k2 R) pos.line X.env=pure false:=by rfl) :
  PS X (.Assign [.Tuple [.Name x F,.Name y Y] M pt] (.Tuple [a,b] k2 R) pos) (Dh i j ta):=by
 intro Ee s σ H D I h;rw[exec_Assign_arm];refine AA (CZ ?_);rw[hs];refine AA (AB ?_);rw[AF (by decide)];refine AA (Tuple_ (eK (ha _ Ee s σ H _ I h) fun us s1 ⟨vs,H1,I1,r1,q1⟩=>?_));obtain⟨v,w,e1,q1⟩:=q1;subst e1;obtain⟨L,U,rfl,rv,a0⟩:∃L U,us=[L,U]∧RelV v L∧RelV w U:=by
  cases r1 with
  |cons p q =>
   cases q with|cons p' q'=>cases q';exact⟨_,_,rfl,p,p'⟩
 refine BO ?_ (by show 2≤sizeLine;decide);have I2:Inv X Ee σ H1 { s1 with heap:=s1.heap.push { cls:=.type "tuple",data:=.seq [L,U].toArray } }:=I1.kept (t':=s1.toks) fun b o e=>AD _ e;rw[hw];refine AA (AB ?_)
 show wpAny (model X.prog X.w) X.A (do rule "assign.swapped-stores";let items ← unpackItems (.ref s1.heap.objs.size) 2 none;assignInOrder [fun v=>bindName X.env y v,fun v=>bindName X.env x v] items.reverse;pure Flow.next) _ _ _
 refine AA (BM (AA (unpackItems_tuple (items := #[L,U]) (I.ok.hd hc) (IsTup.new s1.heap _) fun h' a1=>?_)));have I3:=I2.kept (h':=h') (t':=s1.toks) fun b o e=>a1 b o (AV (AK e)) e;show wpAny _ _ (assignInOrder [fun v=>bindName X.env y v,fun v=>bindName X.env x v] [U,L] >>= fun _=>pure Flow.next) _ _ _;refine AA (assignInOrder_cons (wpAny_bindName (W0 I3 hN hj (.inl hy) a0 (fun s2 I4=>?_) (.inr hy))));refine assignInOrder_cons (wpAny_bindName (W0 I4 hN hi (.inl hx) rv (fun s3 I5=>assignInOrder_nil (AB ?_)) (.inr hx)));rw[List.set_comm _ _ (Ne.symm Z)]at I5;exact⟨_,H1,I5,q1⟩
end
structure It where
 go:Nat->Hp->Prop
 yld:Nat->Hp->V->Hp->Prop
 stop:Nat->Hp->Prop
def ZP(X:Cx)(Ee:EK (EN×Obj))(H:Hp)(b:EN):Prop :=
 H b=none∧b≠X.env.locals∧b∉X.fs∧(b∈X.ex∨X.s₀.heap.objs.size≤b)∧(∀x c,X.env.cells.lookup x=some c->c≠b)∧∀p∈X.pn++Ee,p.1≠b
def Inv.fpOk{X:Cx}{Ee:EK (EN×Obj)}{σ:St}{H H':Hp}{s:EM}{b:EN}(I:Inv X Ee σ H s)(hb:s.heap.objs.size≤b)(Y:H' b=none):ZP X Ee H' b:=by
 refine⟨Y,Cj (Ao I.lt hb),I.nofs hb,.inr (AW I.sz hb),fun x c e z=>?_,fun p L z=>?_⟩;obtain⟨v,q⟩:=I.cell x c e;exact absurd (Ao q.lt (by rw[z];exact hb)) (CA _);exact absurd (Ao (AK (I.pin p L).1) (by rw[z];exact hb)) (CA _)
def Inv.hndH{X:Cx}{Ee:EK (EN×Obj)}{σ:St}{H:Hp}{s:EM}(I:Inv X Ee σ H s):EX.Hnd X.A s.heap:=fun v L=>by obtain⟨F,M,u,vs,Z,R,q⟩:=I.hnd v L;exact⟨F,M,vs,Z,(I.hok _ _ R).1,q⟩
def Inv.hndNe{X:Cx}{Ee:EK (EN×Obj)}{σ:St}{H:Hp}{s:EM}(I:Inv X Ee σ H s){it:EN}(Y:H it=none):∀v,X.A.handled=some v->v≠ .ref it:=fun v L z=>by obtain⟨F,M,u,vs,Z,R,q⟩:=I.hnd v L;rw[Z]at z;cases z;rw[Y]at R;cases R
structure gp (P:Program) (w:World) (K:W.Frag) (A:Around) (tg:Expr) (J:It) (fp:List Addr) (it:Addr) (tn:Nat->Heap->Prop):Prop where
 mem:it∈fp
 obj:∀i h,tn i h->∀b∈fp,∃o,h.get? b=some o∧∀v,o.data≠ .cell v
 keep:∀i h h',tn i h->(∀b∈fp,∀o,h.get? b=some o->h'.get? b=some o)->tn i h'
 item:∀(X:Cx),X.prog=P->X.w=w->X.K=K->X.A=A->∀(i:Nat) (Ee:List (Addr×Obj)) (s:Shared) (σ:St) (H:Hp) (E:Value->Shared->Prop),Inv X Ee σ H s->(∀b∈fp,ZP X Ee H b)->tn i s.heap->J.go i H ->
  wpAny (model P w) X.A (pyNext (.ref it)) (fun r s1=>∃u,r=some u ∧
   wpAny (model P w) X.A (letOwnedTupleGo tg (.ref it) u) (fun _ s2=>∃x H',Inv X Ee σ H' s2∧RelV x u∧J.yld i H x H'∧tn (i+1) s2.heap∧∀b∈fp,H' b=none) E s1) E s
 done:∀(X:Cx),X.prog=P->X.w=w->X.K=K->X.A=A->∀(i:Nat) (Ee:List (Addr×Obj)) (s:Shared) (σ:St) (H:Hp) (E:Value->Shared->Prop),Inv X Ee σ H s->(∀b∈fp,ZP X Ee H b)->tn i s.heap->J.stop i H ->
  wpAny (model P w) X.A (pyNext (.ref it)) (fun r s1=>r=none∧Inv X Ee σ H s1) E s
 self:∀(A:Around) (i:Nat) (s:Shared) (Q:Value->Shared->Prop) (E:Value->Shared->Prop),tn i s.heap->Q (.ref it) s->wpAny (model P w) A (pyIter (.ref it)) Q E s
abbrev TI:=St->Hp->(It->Hp->Prop)->Prop
def nE(X:Cx)(Ee:EK (EN×Obj))(σ:St)(tg:EY)(R:It->Hp->Prop)(F:EL)(s2:EM):Prop :=
 ∃(it:EN) (fp:EK EN) (tn:Nat->Heap->Prop) (J:It) (H':Hp),F= .ref it∧Inv X Ee σ H' s2∧gp X.prog X.w X.K X.A tg J fp it tn∧tn 0 s2.heap∧(∀b∈fp,ZP X Ee H' b)∧R J H'
def PI(X:Cx)(tg iter:EY)(Z:TI):Prop :=
 ∀(Ee:EK (EN×Obj)) (s:EM) (σ:St) (H:Hp) (R:It->Hp->Prop),Inv X Ee σ H s->Z σ H R ->
  wpAny (model X.prog X.w) X.A (eval iter X.env) (fun v s1=>wpAny (model X.prog X.w) X.A (pyIter v) (nE X Ee σ tg R) X.xe s1) X.xe s
def ln{M : Model}{A : EW}{E : EL->EM->Prop}{s : EM}{tg : EY}{it : EN}{u : EL}{o : Obj}{n : String}{vs : EZ EL}{Q : Unit->EM->Prop}(Z : s.heap.get? it=some o)(U : o.cls= .type n)(hd : o.data= .fields vs)
    (Y : ["enumerate", "zip", "dict_itemiterator", "dict_reverseitemiterator", "odict_iterator", "itertools.zip_longest", "itertools.pairwise"].contains n=false) (I : Q () s) : wpAny M A (letOwnedTupleGo tg (.ref it) u) Q E s:=by
  unfold letOwnedTupleGo;cases tg <;> first
    |exact AB I
    |(cases u <;> first
        |exact AB I
        | (refine AA (wpAny_load Z ?_)
           rw[U, hd];show wpAny M A (if (["enumerate", "zip", "dict_itemiterator", "dict_reverseitemiterator", "odict_iterator", "itertools.zip_longest", "itertools.pairwise"].contains n&&vs[0]? == some (rawInt _))=true then _ else _) Q E s;rw[AF (by intro h; rw[Y, Bool.false_and]at h; cases h)];exact AB I))
def li(K:EQ)(a:EN):It :=
 ⟨fun i H=>∃xs x,fm K H a xs∧xs[i]? = some x,fun i H x H'=>H'=H∧∀xs,fm K H a xs->xs[i]? = some x,fun i H=>∃xs,fm K H a xs∧xs.length≤i⟩
def lh(K:EQ)(a:EN):It :=
 ⟨fun i H=>∃xs x,fC K H a xs∧xs[i]? = some x,fun i H x H'=>H'=H∧∀xs,fC K H a xs->xs[i]? = some x,fun i H=>∃xs,fC K H a xs∧xs.length≤i⟩
def iD(lo:Int)(n:Nat):It:=⟨fun i _=>i<n,fun i H x H'=>H'=H∧x= .int (lo+i),fun i _=>n≤i⟩
def xa{P:ER}{w:EU}{K:EQ}{A:EW}{tg:EY}(a it:EN):gp P w K A tg (li K a) [it] it (fun i h=>h.IsListIter it a i) where
 mem:=by simp
 obj:=fun i h st b hb=>by
  have e:b=it:=by simpa using hb
  subst e;obtain⟨o,e,c,d⟩:=st;exact⟨o,e,fun v z=>by rw[d]at z;cases z⟩
 keep:=fun i h h' st k=>st.at fun o e=>k it (by simp) o e
 item:=by
  intro X hP hw hK _ i Ee s σ H E I hf st hg;subst hP hw hK;obtain⟨xs,x,hq,hx⟩:=hg;obtain⟨Eg,rv,p,hz⟩:=I.list hq;obtain⟨u,hu,ru⟩:=rv.get hx;obtain⟨f0,f1,f2,f3,f4,f5⟩:=hf it (by simp);refine wpAny_pyNext_list_item st p.isList (x:=u) (by simpa using hu) fun h' Ef sb=>?_;have I1:Inv X Ee σ H { s with heap:=h' }:=I.turned (t':=s.toks) (fun b o hb e=>(sb.2 b hb).trans e) f0 f1 f3 f4 f5;obtain⟨o,e,c,d⟩:=id Ef;exact⟨u,rfl,ln (s:={ s with heap:=h' }) e c d (by decide) ⟨x,H,I1,ru,⟨rfl,fun ys hy=>by rw[I.list_inj hy hq];exact hx⟩,Ef,fun b hb=>(hf b hb).1⟩⟩
 done:=by
  intro X hP hw hK _ i Ee s σ H E I hf st hg;subst hP hw hK;obtain⟨xs,hq,hx⟩:=hg;obtain⟨Eg,rv,p,hz⟩:=I.list hq;obtain⟨f0,f1,f2,f3,f4,f5⟩:=hf it (by simp);have hl:=rv.length;exact EX.list_end I.hndH st p.isList (by simp;omega) (I.hndNe f0) fun h' eb=>⟨rfl,I.turned (t':=s.toks) (fun b o hb e=>eb b o hb e) f0 f1 f3 f4 f5⟩
 self:=fun _ _ _ _ _ st h=>wpAny_pyIter_listiter st h
def tJ{P:ER}{w:EU}{K:EQ}{A:EW}{tg:EY}(a it:EN):gp P w K A tg (lh K a) [it] it (fun i h=>h.IsTupleIter it a i) where
 mem:=by simp
 obj:=fun i h st b hb=>by
  have e:b=it:=by simpa using hb
  subst e;obtain⟨o,e,c,d⟩:=st;exact⟨o,e,fun v z=>by rw[d]at z;cases z⟩
 keep:=fun i h h' st k=>st.at fun o e=>k it (by simp) o e
 item:=by
  intro X hP hw hK _ i Ee s σ H E I hf st hg;subst hP hw hK;obtain⟨xs,x,hq,hx⟩:=hg;obtain⟨Eg,rv,p,hz⟩:=I.tuple hq;obtain⟨u,hu,ru⟩:=rv.get hx;obtain⟨f0,f1,f2,f3,f4,f5⟩:=hf it (by simp);refine wpAny_pyNext_tuple_item st (show s.heap.IsTuple a Eg.toArray from p) (x:=u) (by simpa using hu) fun h' Ef sb=>?_;have I1:Inv X Ee σ H { s with heap:=h' }:=I.turned (t':=s.toks) (fun b o hb e=>(sb.2 b hb).trans e) f0 f1 f3 f4 f5;obtain⟨o,e,c,d⟩:=id Ef;exact⟨u,rfl,ln (s:={ s with heap:=h' }) e c d (by decide) ⟨x,H,I1,ru,⟨rfl,fun ys hy=>by rw[I.tuple_inj hy hq];exact hx⟩,Ef,fun b hb=>(hf b hb).1⟩⟩
 done:=by
  intro X hP hw hK _ i Ee s σ H E I hf st hg;subst hP hw hK;obtain⟨xs,hq,hx⟩:=hg;obtain⟨Eg,rv,p,hz⟩:=I.tuple hq;obtain⟨f0,f1,f2,f3,f4,f5⟩:=hf it (by simp);have hl:=rv.length;exact EX.tuple_end I.hndH st (show s.heap.IsTuple a Eg.toArray from p) (by simp;omega) (I.hndNe f0) fun h' eb=>⟨rfl,I.turned (t':=s.toks) (fun b o hb e=>eb b o hb e) f0 f1 f3 f4 f5⟩
 self:=fun _ _ _ _ _ st h=>wpAny_pyIter_tupleiter st h
def DH{P:ER}{w:EU}{K:EQ}{A:EW}{tg:EY}(it:EN)(lo:Int)(n:Nat):gp P w K A tg (iD lo n) [it] it (fun i h=>IsRangeIter h it (lo+(i:Nat)*1) ((n:Int)-(i:Nat)) 1) where
 mem:=by simp
 obj:=fun i h st b hb=>by
  have e:b=it:=by simpa using hb
  subst e;exact⟨_,st,fun v z=>by
   have z':Data.fields _=Data.cell v:=z;cases z'⟩
 keep:=fun i h h' st k=>k it (by simp) _ st
 item:=by
  intro X hP hw hK _ i Ee s σ H E I hf st hg;subst hP hw hK;obtain⟨f0,f1,f2,f3,f4,f5⟩:=hf it (by simp);refine wpAny_pyNext_range_item st (by have:i<n:=hg;omega) fun h' Ef sb=>?_;have I1:Inv X Ee σ H { s with heap:=h',toks:=s.toks+1 }:=I.turned (fun b o hb e=>(sb.2 b hb).trans e) f0 f1 f3 f4 f5;have Et:IsRangeIter h' it (lo+((i+1:Nat):Int)*1) ((n:Int)-((i+1:Nat):Int)) 1:=by
   have q1:lo+(i:Int)*1+1=lo+((i+1:Nat):Int)*1:=by omega
   have q2:(n:Int)-(i:Int)-1=(n:Int)-((i+1:Nat):Int):=by omega
   rw[←q1,←q2];exact Ef
  refine⟨_,rfl,ln (s:={ s with heap:=h',toks:=s.toks+1 }) (n := "range_iterator") Et rfl rfl (by decide) ⟨.int (lo+i),H,I1,⟨s.toks,?_⟩,⟨rfl,rfl⟩,Et,fun b hb=>(hf b hb).1⟩⟩;rw[Int.mul_one]
 done:=by
  intro X hP hw hK _ i Ee s σ H E I hf st hg;subst hP hw hK;obtain⟨f0,f1,f2,f3,f4,f5⟩:=hf it (by simp);exact EX.range_end I.hndH st (by have:n≤i:=hg;omega) fun h' eb=>⟨rfl,I.turned (t':=s.toks) (fun b o hb e=>eb b o e) f0 f1 f3 f4 f5⟩
 self:=fun _ _ _ _ _ st h=>wpAny_pyIter_rangeiter st h
end L2
namespace L2
open PySem PySem.Spec PyProof.Rows
section
variable{X:Cx}{tg:EY}
def JL{Ee:EK (EN×Obj)}{σ:St}{H:Hp}{s:EM}{R:It->Hp->Prop}{E:EL->EM->Prop}{lo hi:Int}{t u v:Tok}{F:Nat}(I:Inv X Ee σ H s)(Y:-(2 ^ 62)≤lo)(U:lo<2 ^ 62)(M:-(2 ^ 62)≤hi)(Z:hi<2 ^ 62)
  (q:R (iD lo (hi-lo).toNat) H):wpAny (model X.prog X.w) X.A (pyIter (.ref s.heap.objs.size)) (nE X Ee σ tg R) E { s with heap:=s.heap.push { cls:=.type "range",data:=.fields #[.int lo t,.int hi u,.int 1 v] },toks:=F }:=by
 refine wpAny_pyIter_range (IsRange.new ..) (small_one Y U M Z) ?_;have L:Inv X Ee σ H { s with heap:=s.heap.push { cls:=.type "range",data:=.fields #[.int lo t,.int hi u,.int 1 v] },toks:=F }:=I.kept fun b o e=>AD _ e;refine⟨(s.heap.push { cls:=.type "range",data:=.fields #[.int lo t,.int hi u,.int 1 v] }).objs.size,[(s.heap.push { cls:=.type "range",data:=.fields #[.int lo t,.int hi u,.int 1 v] }).objs.size],_,_,H,rfl,
  L.kept (t':=F) fun b o e=>AD _ e,DH _ lo (hi-lo).toNat,?_,fun b hb=>?_,q⟩
 ·have e1:lo+((0:Nat):Int)*1=lo:=by simp
  have e2:(((hi-lo).toNat:Nat):Int)-((0:Nat):Int)=Builtin.Range.rangeSize lo hi 1:=by rw[rangeSize_one];split <;> omega
  show IsRangeIter _ _ (lo+((0:Nat):Int)*1) ((((hi-lo).toNat:Nat):Int)-((0:Nat):Int)) 1;rw[e1,e2];exact AQ _ rfl
 ·have e:b=(s.heap.push { cls:=.type "range",data:=.fields #[.int lo t,.int hi u,.int 1 v] }).objs.size:=by simpa using hb
  subst e;exact L.fpOk (AN _) (L.hok.fresh (AN _))
def rW(Z:TA):TI:=fun σ H R=>Z σ H fun vs H1=>∃j:Int,vs=[.int j]∧ -(2 ^ 62)≤j∧j<2 ^ 62∧R (iD 0 j.toNat) H1
def tH(Z:TA):TI:=fun σ H R=>Z σ H fun vs H1=>∃i j:Int,vs=[.int i,.int j]∧(-(2 ^ 62)≤i∧i<2 ^ 62∧ -(2 ^ 62)≤j∧j<2 ^ 62)∧R (iD i (j-i).toNat) H1
def vn{a:EY}{Z:TA}{p pos:Pos}(F:Gl X "range")(M:X.mg "range" = none)(Y:PA X [a] Z)(hs:starEach [a] X.env=[(false,eval a X.env)]:=by rfl):PI X tg (.Call (.Name "range" p) [a] [] pos) (rW Z):=by
 intro Ee s σ H R I h;refine Call_ (Wq I F M boot_range (Bl (eK (Y pos Ee s σ H _ I h) fun us s1 ⟨vs,H1,U,r1,L⟩=>?_) hs rfl));obtain⟨j,e,L,q2,q⟩:=L;subst e;cases r1 with|cons r rr=>cases rr;obtain⟨t,rfl⟩:=r;exact call_range_1 (JL U (by omega) (by omega) L q2 (by simpa using q))
def vB{a b:EY}{Z:TA}{p pos:Pos}(M:Gl X "range")(Y:X.mg "range" = none)(ha:PA X [a,b] Z)(hs:starEach [a,b] X.env=[(false,eval a X.env),(false,eval b X.env)]:=by rfl)(L:starEach [b] X.env=[(false,eval b X.env)]:=by rfl) :
  PI X tg (.Call (.Name "range" p) [a,b] [] pos) (tH Z):=by
 intro Ee s σ H R I h;refine Call_ (Wq I M Y boot_range (Bl (eK (ha pos Ee s σ H _ I h) fun us s1 ⟨vs,H1,I1,r1,F⟩=>?_) (by rw[hs,L]) (by rw[L];rfl)));obtain⟨i,j,e,⟨F,q2,q3,q4⟩,q⟩:=F;subst e;cases r1 with
 |cons r U =>
  cases U with|cons r' U=>cases U;obtain⟨t,rfl⟩:=r;obtain⟨t',rfl⟩:=r';exact call_range_2 (JL I1 F q2 q3 q4 q)
def sY(q:TI)(g:TG)(tb:TS):TS:=fun D σ H=>q σ H fun J H1=>∃W:Nat->Nat->St->Hp->Prop,(∃m,W 0 m σ H1)∧∀i m σ H,W i m σ H ->
 (J.stop i H∧D.nx σ H)∨(J.go i H∧∃N:St->Hp->Prop,(∀Z H',N Z H'->∃I,I<m∧W (i+1) I Z H')∧∀x H',J.yld i H x H'->g x σ H' fun L Y=>tb { D with nx:=N,ct:=N,bk:=D.nx } L Y)
def ZS(fp:EK EN)(h:Heap):EK (EN×Obj):=fp.filterMap fun b=>(h.get? b).map fun o=>(b,o)
def zS{fp:EK EN}{h:Heap}{b:EN}{o:Obj}(hb:b∈fp)(e:h.get? b=some o):(b,o)∈ZS fp h:=Ca.mpr ⟨b,hb,by rw[e];rfl⟩
def DZ{fp:EK EN}{h:Heap}{p:EN×Obj}(L:p∈ZS fp h):p.1∈fp∧h.get? p.1=some p.2:=by
 obtain⟨b,hb,e⟩:=Ca.mp L;cases q:h.get? b with|none=>rw[q]at e;cases e|some o=>rw[q]at e;have F:(b,o)=p:=Al e;subst F;exact⟨hb,q⟩
def Inv.pinned{Ee:EK (EN×Obj)}{σ:St}{H:Hp}{s:EM}{fp:EK EN}(I:Inv X Ee σ H s)(U:∀b∈fp,ZP X Ee H b)(Z:∀b∈fp,∃o,s.heap.get? b=some o∧∀v,o.data≠ .cell v):Inv X (Ee++ZS fp s.heap) σ H s :=
 I.pins_of fun p L=>(Ab.mp L).elim (fun z=>I.pin p (BD _ z)) fun z=>by obtain⟨hb,e⟩:=DZ z;obtain⟨q,Y,R,_⟩:=U p.1 hb;obtain⟨o,F,d⟩:=Z p.1 hb;rw[e]at F;cases F;exact⟨e,q,Y,R,d⟩
def Inv.unpinned{Ee pl:EK (EN×Obj)}{σ:St}{H:Hp}{s:EM}(I:Inv X (Ee++pl) σ H s):Inv X Ee σ H s:=I.pins_of fun p L=>I.pin p (BD _ (List.mem_append_left _ L))
end
end L2
namespace L2
open PySem PySem.Spec PyProof.Rows
abbrev R2:=V->V->Hp->VK->Prop
def fy(X:Cx)(f:EL->EL->Sem EL)(r:R2):Prop :=
 ∀(Ee:EK (EN×Obj)) (s:EM) (σ:St) (H:Hp) (x y:V) (v u:EL) (Q:VK),Inv X Ee σ H s->RelV x v->RelV y u->r x y H Q ->
  wpAny (model X.prog X.w) X.A (f v u) (EP X Ee σ Q) X.xe s
def kY(X:Cx)(f:EL->Sem EL)(r:V->Hp->VK->Prop):Prop :=
 ∀(Ee:EK (EN×Obj)) (s:EM) (σ:St) (H:Hp) (x:V) (v:EL) (Q:VK),Inv X Ee σ H s->RelV x v->r x H Q ->
  wpAny (model X.prog X.w) X.A (f v) (EP X Ee σ Q) X.xe s
def W5(X:Cx)(f:EL)(r:EK V->Hp->VK->Prop):Prop :=
 ∀(Ee:EK (EN×Obj)) (s:EM) (σ:St) (H:Hp) (xs:EK V) (us:EK EL) (Q:VK),Inv X Ee σ H s->ei xs us->r xs H Q ->
  wpAny (model X.prog X.w) X.A (call f us) (EP X Ee σ Q) X.xe s
def p9(X:Cx)(r:V->Hp->(Bool->Hp->Prop)->Prop):Prop :=
 ∀(Ee:EK (EN×Obj)) (s:EM) (σ:St) (H:Hp) (x:V) (v:EL) (Q:Bool->Hp->Prop),Inv X Ee σ H s->RelV x v->r x H Q ->
  wpAny (model X.prog X.w) X.A (truthy v) (TP X Ee σ Q) X.xe s
def iZ(r:R2)(Z tb:TE):TE:=fun σ H Q=>Z σ H fun x H1=>tb σ H1 fun y Y=>r x y Y Q
def B3(r:V->Hp->VK->Prop)(Z:TE):TE:=fun σ H Q=>Z σ H fun x H1=>r x H1 Q
def rI(C:Int->Int->Prop)(g:Int->Int->V):R2:=fun x y H Q=>∃i j,x= .int i∧y= .int j∧C i j∧Q (g i j) H
def g9(g:Int->Int->V):R2:=fun x y H Q=>∃i j,x= .int i∧y= .int j∧Q (g i j) H
def rU(g:Int->V):V->Hp->VK->Prop:=fun x H Q=>∃i,x= .int i∧Q (g i) H
section
variable{X:Cx}{a b c:EY}{ta tb tc:TE}{pos:Pos}
def lp(F:PE X a ta)(hb:PE X b tb){Ee:EK (EN×Obj)}{s:EM}{σ:St}{H:Hp}{R:V->V->Hp->Prop}(I:Inv X Ee σ H s)
  (h:ta σ H fun x H1=>tb σ H1 fun y Y=>R x y Y) {Q:EL->EM->Prop} {f:EL->EL->Sem EL}
  (U:∀v u s2 x y Y,Inv X Ee σ Y s2->RelV x v->RelV y u->R x y Y->wpAny (model X.prog X.w) X.A (f v u) Q X.xe s2) :
  wpAny (model X.prog X.w) X.A (eval a X.env) (fun v L=>wpAny (model X.prog X.w) X.A (eval b X.env) (fun u M=>wpAny (model X.prog X.w) X.A (f v u) Q X.xe M) X.xe L) X.xe s:=by refine eK (F Ee s σ H _ I h) fun v s1 ⟨x,H1,Z,q,q1⟩=>?_;refine eK (hb Ee s1 σ H1 _ Z q1) fun u s2 ⟨y,Y,I2,r2,q2⟩=>?_;exact U v u s2 x y Y I2 q r2 q2
def nA{op:Operator}{r:R2}(Z:fy X (binaryOp op) r)(F:PE X a ta)(hb:PE X b tb):PE X (.BinOp a op b pos) (iZ r ta tb):=by intro Ee s σ H Q I h;exact wpAny_BinOp (lp F hb I h fun v u s2 x y Y U R L q=>Z Ee s2 σ Y x y v u Q U R L q)
def tv{op:UnaryOp}{r:V->Hp->VK->Prop}(Z:kY X (unaryOp op) r)(F:PE X a ta):PE X (.UnaryOp op a pos) (B3 r ta):=by intro Ee s σ H Q I h;exact UnaryOp_ (eK (F Ee s σ H _ I h) fun v s1 ⟨x,H1,L,Y,q⟩=>Z Ee s1 σ H1 x v Q L Y q)
def i9{f:EL->EL->Sem EL}{C:Int->Int->Prop}{g:Int->Int->Int}
  (rule:∀(i j:Int) (t u:Tok) (s:EM) (Q:EL->EM->Prop) (E:EL->EM->Prop),C i j->Q (.int (g i j) s.toks) { s with toks:=s.toks+1 }->wpAny (model X.prog X.w) X.A (f (.int i t) (.int j u)) Q E s) :
  fy X f (rI C fun i j=>.int (g i j)):=by intro Ee s σ H x y v u Q I R L h;obtain⟨i,j,rfl,rfl,U,q⟩:=h;obtain⟨t,rfl⟩:=R;obtain⟨M,rfl⟩:=L;exact rule i j t M s _ _ U ⟨.int (g i j),H,I.tok _,⟨_,rfl⟩,q⟩
def lP{f:EL->EL->Sem EL}{g:Int->Int->Int}
  (rule:∀(i j:Int) (t u:Tok) (s:EM) (Q:EL->EM->Prop) (E:EL->EM->Prop),Q (.int (g i j) s.toks) { s with toks:=s.toks+1 }->wpAny (model X.prog X.w) X.A (f (.int i t) (.int j u)) Q E s) :
  fy X f (g9 fun i j=>.int (g i j)):=by intro Ee s σ H x y v u Q I R L h;obtain⟨i,j,rfl,rfl,q⟩:=h;obtain⟨t,rfl⟩:=R;obtain⟨M,rfl⟩:=L;exact rule i j t M s _ _ ⟨.int (g i j),H,I.tok _,⟨_,rfl⟩,q⟩
def mw{f:EL->EL->Sem EL}{g:Int->Int->Bool}
  (rule:∀(i j:Int) (t u:Tok) (s:EM) (Q:EL->EM->Prop) (E:EL->EM->Prop),Q (.bool (g i j)) s->wpAny (model X.prog X.w) X.A (f (.int i t) (.int j u)) Q E s) :
  fy X f (g9 fun i j=>.bl (g i j)):=by intro Ee s σ H x y v u Q I R L h;obtain⟨i,j,rfl,rfl,q⟩:=h;obtain⟨t,rfl⟩:=R;obtain⟨M,rfl⟩:=L;exact rule i j t M s _ _ ⟨.bl (g i j),H,I,rfl,q⟩
def sI(i j:Int):Prop:=0<j∧j<1073741824
def xh(i j:Int):Prop:=0≤j∧j≤1000000∧i.natAbs<2 ^ 64
def ic(i j:Int):Prop:=(-(2 ^ 64)<i∧i<2 ^ 64)∨(-(2 ^ 64)<j∧j<2 ^ 64)
def ic.ok{i j:Int}(h:ic i j):IntMulOk i j:=by
 rcases h with⟨Y,U⟩|⟨Y,U⟩
 ·exact .of_left (intBits_le_64 Y U)
 ·exact .of_right (intBits_le_64 Y U)
def uD:fy X (binaryOp .Add) (g9 fun i j=>.int (i+j)):=lP fun _ _ _ _ _ _ _ q=>add_int q
def rL:fy X (binaryOp .Sub) (g9 fun i j=>.int (i-j)):=lP fun _ _ _ _ _ _ _ q=>sub_int q
def xf:fy X (binaryOp .Mult) (rI ic fun i j=>.int (i*j)):=i9 fun _ _ _ _ _ _ _ U q=>mul_int q U.ok
def tL:fy X (binaryOp .FloorDiv) (rI sI fun i j=>.int (i/j)):=i9 fun i j _ _ _ _ _ U q=>by have Y:(0:Int)<j:=U.1;have Z:j<1073741824:=U.2;exact floordiv_int (by omega) (by rw[Int.fdiv_eq_ediv_of_nonneg i (by omega)];exact q) (.inl (PyProof.noPylong_small (by omega)))
def vr:fy X (binaryOp .Mod) (rI (fun _ j=>0<j) fun i j=>.int (i%j)):=i9 fun i j _ _ _ _ _ U q=>by have Y:(0:Int)<j:=U;exact mod_int' (by omega) (by rw[Int.fmod_eq_emod_of_nonneg i (by omega)];exact q)
def DT:fy X (binaryOp .Pow) (rI xh fun i j=>.int (i ^ j.toNat)):=i9 fun _ _ _ _ _ _ _ U q=>pow_int_small U.1 U.2.1 U.2.2 q
def sf{f:EL->Sem EL}{g:Int->Int}
  (rule:∀(i:Int) (t:Tok) (s:EM) (Q:EL->EM->Prop) (E:EL->EM->Prop),Q (.int (g i) s.toks) { s with toks:=s.toks+1 }->wpAny (model X.prog X.w) X.A (f (.int i t)) Q E s) :
  kY X f (rU fun i=>.int (g i)):=by intro Ee s σ H x v Q I R h;obtain⟨i,rfl,q⟩:=h;obtain⟨t,rfl⟩:=R;exact rule i t s _ _ ⟨.int (g i),H,I.tok _,⟨_,rfl⟩,q⟩
def sr:kY X (unaryOp .USub) (rU fun i=>.int (-i)):=sf fun _ _ _ _ _ q=>neg_int q
def oG{Ee:EK (EN×Obj)}{σ:St}{H:Hp}{s:EM}{Q:VK}{k Z:Bool}(I:Inv X Ee σ H s)(q:Q (.bl k) H)(e:k=Z):EP X Ee σ Q (.bool Z) s:=by subst e;exact⟨.bl k,H,I,rfl,q⟩
def lD:fy X (compareOp .Lt) (g9 fun i j=>.bl (decide (i<j))):=mw fun _ _ _ _ _ _ _ q=>lt_int q
def Wk:fy X (compareOp .LtE) (g9 fun i j=>.bl (decide (i≤j))):=mw fun _ _ _ _ _ _ _ q=>le_int q
def xn:fy X (compareOp .Is) (fun x y H Q=>y= .non∧Q (.bl (decide (x= .non))) H):=by
 intro Ee s σ H x y v u Q I R L h;obtain⟨rfl,q⟩:=h;cases L;refine is_none_gen (oG I q ?_);cases x <;> first
  |(cases R;rfl)
  |(obtain⟨t,rfl⟩:=R;rfl)
def oa:fy X (compareOp .IsNot) (fun x y H Q=>y= .non∧Q (.bl (!decide (x= .non))) H):=by
 intro Ee s σ H x y v u Q I R L h;obtain⟨rfl,q⟩:=h;cases L;refine isnot_none_gen (oG I q ?_);cases x <;> first
  |(cases R;rfl)
  |(obtain⟨t,rfl⟩:=R;rfl)
def Qc(b:EY){op:CmpOp}(h:op≠ .In:=by decide)(U:op≠ .NotIn:=by decide):behindInMarks op b=false:=by
 have Z:(op==CmpOp.In)=false:=by cases op <;> first|rfl|exact absurd rfl h
 have R:(op==CmpOp.NotIn)=false:=by cases op <;> first|rfl|exact absurd rfl U
 cases b <;> simp[behindInMarks,Z,R]
def oZ{op:CmpOp}{r:R2}(Z:fy X (compareOp op) r)(F:PE X a ta)(hb:PE X b tb)(M:behindInMarks op b=false):PE X (.Compare a [op] [b] pos) (iZ r ta tb):=by intro Ee s σ H Q I h;exact wpAny_Compare1 (lp F hb I h fun v u s2 x y Y U R L q=>Z Ee s2 σ Y x y v u Q U R L q) M
def lO(t:TE):TT:=fun σ H Q=>t σ H fun x H'=>∃k,x= .bl k∧Q k H'
def q7{op:CmpOp}{r:R2}(Z:fy X (compareOp op) r)(F:PE X a ta)(hb:PE X b tb)(M:behindInMarks op b=false):PT X (.Compare a [op] [b] pos) (lO (iZ r ta tb)):=by
 intro Ee s σ H Q I h;refine wpAny_isTrue_Compare1 (eK (F Ee s σ H _ I h) fun v s1 ⟨x,H1,L,Y,q⟩=>eK (hb Ee s1 σ H1 _ L q) fun u s2 ⟨y,R,U,r2,q2⟩ =>
  eK (Z Ee s2 σ R x y v u _ U Y r2 q2) fun c s3 ⟨z,H3,I3,r3,k,e,q3⟩=>?_) M
 subst e;cases r3;exact Bj ⟨H3,I3,q3⟩
def mO(r r':R2)(ta tb tc:TE):TE:=fun σ H Q=>ta σ H fun x H1=>tb σ H1 fun y Y=>r x y Y fun z H3=>∃k,z= .bl k ∧
 (if k=true then tc σ H3 fun U R=>r' y U R Q else Q (.bl false) H3)
def uX{op M:CmpOp}{r r':R2}(Z:fy X (compareOp op) r)(L:fy X (compareOp M) r')(Y:PE X a ta)(hb:PE X b tb)(U:PE X c tc)
  (hm:lastMarks [op,M] [b,c]=false:=by with_unfolding_all rfl):PE X (.Compare a [op,M] [b,c] pos) (mO r r' ta tb tc):=by
 intro Ee s σ H Q I h;refine Compare_chain (eK (Y Ee s σ H _ I h) fun v s1 ⟨x,H1,I1,r1,q1⟩=>chain_link (eK (hb Ee s1 σ H1 _ I1 q1) fun u s2 ⟨y,H2,I2,R,q2⟩ =>
  eK (Z Ee s2 σ H2 x y v u _ I2 r1 R q2) fun d s3 ⟨z,H3,q,r3,k,e,F⟩=>?_)) hm
 subst e;cases r3;refine Bj ?_;cases k with|false=>exact ite_ff ⟨.bl false,H3,q,rfl,F⟩|true=>exact ite_tt (chain_last (eK (U Ee s3 σ H3 _ q F) fun w' s4 ⟨z',H4,I4,r4,q4⟩=>L Ee s4 σ H4 y z' u w' Q I4 R r4 q4))
def D2{op M:CmpOp}{r r':R2}(Z:fy X (compareOp op) r)(L:fy X (compareOp M) r')(Y:PE X a ta)(hb:PE X b tb)(U:PE X c tc)
  (hm:lastMarks [op,M] [b,c]=false:=by with_unfolding_all rfl):PT X (.Compare a [op,M] [b,c] pos) (lO (mO r r' ta tb tc)):=by
 intro Ee s σ H Q I h;refine isTrue_chain (eK (Y Ee s σ H _ I h) fun v s1 ⟨x,H1,I1,r1,q1⟩=>test_link (eK (hb Ee s1 σ H1 _ I1 q1) fun u s2 ⟨y,H2,I2,R,q2⟩ =>
  eK (Z Ee s2 σ H2 x y v u _ I2 r1 R q2) fun d s3 ⟨z,H3,q,r3,k,e,F⟩=>?_)) hm
 subst e;cases r3;refine Bj ?_;cases k with|false=>obtain⟨k',e',q'⟩:=F;cases e';exact ite_ff ⟨H3,q,q'⟩|true=>refine ite_tt (test_last (eK (U Ee s3 σ H3 _ q F) fun w' s4 ⟨z',H4,I4,r4,q4⟩=>eK (L Ee s4 σ H4 y z' u w' _ I4 R r4 q4) fun d' s5 ⟨z2,H5,I5,r5,k2,e2,q5⟩=>?_));subst e2;cases r5;exact Bj ⟨H5,I5,q5⟩
def ku(K:EQ)(x:V)(H:Hp)(k:Bool):Prop :=
 match x with| .non=>k=false| .bl b=>k=b| .int i=>k=(i != 0)| .str y=>y.length≤sizeLine∧k=((y.length:Int) != 0)| .byt y=>y.size≤sizeLine∧k=((y.size:Int) != 0)| .ref p=>(∃xs,fm K H p xs∧k= !xs.isEmpty)∨(∃xs,fC K H p xs∧k= !xs.isEmpty)∨∃En,H p=some (.dK En)∧k= !En.isEmpty|_=>False
def va{κ:Type}{En:EK (κ×V)}{vs:EK (κ×EL)}(r:KV En vs):(!vs.isEmpty)= !En.isEmpty:=by cases r <;> rfl
def YL{xs:EK V}{Eg:EK EL}(r:ei xs Eg):(!Eg.toArray.isEmpty)= !xs.isEmpty:=by cases r <;> simp
def Zp:(sizeLine:Nat)<2 ^ 63:=by rw[Cf];decide
def tZ:p9 X (fun x H Q=>∃k,ku X.K x H k∧Q k H):=by
 intro Ee s σ H x v Q I R h;obtain⟨k,e,q⟩:=h;have hl:=Zp;have hs:sizeLine=16777216:=Cf;cases x with
 |non=>cases R;have F:k=false:=e;subst F;exact truthy_none ⟨H,I,q⟩
 |bl b=>cases R;have F:k=b:=e;subst F;exact Bj ⟨H,I,q⟩
 |int i=>obtain⟨t,rfl⟩:=R;have F:k=(i != 0):=e;subst F;exact PySem.P.truthy_int ⟨H,I,q⟩
 |str y=>obtain⟨t,rfl⟩:=R;obtain⟨U,F⟩:y.length≤sizeLine∧k=((y.length:Int) != 0):=e;subst F;exact PySem.P.truthy_str (by omega) ⟨H,I.tok _,q⟩
 |byt y=>obtain⟨t,rfl⟩:=R;obtain⟨U,F⟩:y.size≤sizeLine∧k=((y.size:Int) != 0):=e;subst F;exact W.truthy_bytes (by omega) ⟨H,I.tok _,q⟩
 |ref p =>
  cases R;have F:(∃xs,fm X.K H p xs∧k= !xs.isEmpty)∨(∃xs,fC X.K H p xs∧k= !xs.isEmpty)∨∃En,H p=some (.dK En)∧k= !En.isEmpty:=e;rcases F with⟨xs,M,F⟩|⟨xs,M,F⟩|⟨En,M,F⟩
  ·subst F;obtain⟨Eg,r,pl,Z⟩:=I.list M;have Y:=r.length;exact wpAny_truthy_list pl.isList (by simp only[AR];omega) ⟨H,I.tok _,by rw[YL r];exact q⟩
  ·subst F;obtain⟨Eg,r,pl,Z⟩:=I.tuple M;have Y:=r.length;exact truthy_tuple pl (by simp only[AR];omega) ⟨H,I.tok _,by rw[YL r];exact q⟩
  ·subst F;obtain⟨Z,L,vs,r,m⟩:En.length≤sizeLine∧(p==sysModules)=false∧∃vs,KV En vs∧s.heap.DictOf (jb X.prog X.w) p vs:=I.hok p _ M;have Y:En.length=vs.length:=Paired.length r;exact wpAny_truthy_dict L m (by omega) ⟨H,I.tok _,by rw[va r];exact q⟩
 |_=>exact (show False from e).elim
def xb(F:PE X a ta)(he:∀U,isTrue a X.env U=(do let v ← U;standAt a.pos;holding [v] (truthy v))) :
  PT X a (fun σ H Q=>ta σ H fun x H'=>∃k,ku X.K x H' k∧Q k H'):=by intro Ee s σ H Q I h;exact isTrue_plain (eK (F Ee s σ H _ I h) fun v s1 ⟨x,H1,L,Y,q⟩=>tZ Ee s1 σ H1 x v Q L Y q) (he _)
def rX:fy X (binaryOp .Add) (fun x y H Q=>∃i j,x= .str i∧y= .str j∧i.length+j.length≤sizeLine∧Q (.str (i++j)) H):=by intro Ee s σ H x y v u Q I R L h;obtain⟨i,j,rfl,rfl,Z,q⟩:=h;obtain⟨t,rfl⟩:=R;obtain⟨M,rfl⟩:=L;exact add_str (fun M F=>⟨.str (i++j),H,I.tok _,⟨_,rfl⟩,q⟩) Z
def yb{x:V}{us:EK EL}(r:ei [x] us):∃u,us=[u]∧RelV x u:=by
 cases r with|cons Y I=>cases I;exact⟨_,rfl,Y⟩
def Zh{x y:V}{us:EK EL}(r:ei [x,y] us):∃u U,us=[u,U]∧RelV x u∧RelV y U:=by
 cases r with
 |cons Y I =>
  cases I with|cons Z q=>cases q;exact⟨_,_,rfl,Y,Z⟩
def uT(U:X.calm=true):W5 X (.builtin "max") (fun xs H Q=>∃i j,xs=[.int i,.int j]∧Q (.int (if j>i then j else i)) H):=by
 intro Ee s σ H xs us Q I r h;obtain⟨i,j,rfl,q⟩:=h;obtain⟨u,R,rfl,⟨t,rfl⟩,⟨M,rfl⟩⟩:=Zh r;refine max_two_ints (I.ok.hd U) fun h' L k=>⟨_,H,I.kept k,?_,q⟩;by_cases F:j>i;rw[AC F,AC F];exact⟨_,rfl⟩;rw[AF F,AF F];exact⟨_,rfl⟩
def rV(U:X.calm=true):W5 X (.builtin "min") (fun xs H Q=>∃i j,xs=[.int i,.int j]∧Q (.int (if j<i then j else i)) H):=by
 intro Ee s σ H xs us Q I r h;obtain⟨i,j,rfl,q⟩:=h;obtain⟨u,R,rfl,⟨t,rfl⟩,⟨M,rfl⟩⟩:=Zh r;refine min_two_ints (I.ok.hd U) fun h' L k=>⟨_,H,I.kept k,?_,q⟩;by_cases F:j<i;rw[AC F,AC F];exact⟨_,rfl⟩;rw[AF F,AF F];exact⟨_,rfl⟩
def sH:W5 X (.type "int") (fun xs H Q=>(∃i,xs=[.int i]∧Q (.int i) H)∨∃k,xs=[.bl k]∧Q (.int (if k then 1 else 0)) H):=by
 intro Ee s σ H xs us Q I r h;rcases h with⟨i,rfl,q⟩|⟨k,rfl,q⟩
 ·obtain⟨u,rfl,t,rfl⟩:=yb r;exact call_int_int ⟨.int i,H,I,⟨_,rfl⟩,q⟩
 ·obtain⟨u,rfl,Y⟩:=yb r;cases Y;exact call_int_bool ⟨.int (if k then 1 else 0),H,I.tok _,⟨_,rfl⟩,q⟩
end
end L2
namespace L2
open PySem PySem.Spec PyProof.Rows
end L2
namespace L2
open PySem PySem.Spec PyProof.Rows
structure eW (k:Nat) (A:Around):Prop where
 hd:1<k->A.handled=none
 dp:A.depth+3*k+5<recursionLimit
 un:A.units+16*k+200<cLine
 gd:A.guards=some []
def eW.mono{j k:Nat}{A:EW}(r:eW k A)(h:j≤k):eW j A:=⟨fun z=>r.hd (by omega),by have:=r.dp;omega,by have:=r.un;omega,r.gd⟩
def eW.deeper{k:Nat}{A:EW}(r:eW (k+1) A)(env:Env):eW k (A.deeper env) :=
 ⟨fun z=>r.hd (by omega),by have:=r.dp;show A.depth+1+3*k+5<_;omega,by have:=r.un;show A.units+3+16*k+200<_;omega,r.gd⟩
def eW.depth{k:Nat}{A:EW}(r:eW k A):A.depth<recursionLimit:=by have:=r.dp;omega
def eW.units{k:Nat}{A:EW}(r:eW k A):A.units+64<cLine:=by have:=r.un;omega
def qI1:TA:=fun _ H Q=>Q [] H
def sA(Z:TE)(q:TA):TA:=fun σ H Q=>Z σ H fun x H1=>q σ H1 fun xs Y=>Q (x::xs) Y
section
variable{X:Cx}{e:EY}{es:EK EY}{te:TE}{t:TA}{pos:Pos}
def jB:PA X [] qI1:=fun _ _ _ _ H Q I h=>Ch ⟨[],H,I,.nil,h⟩
def yQ(F:PE X e te)(M:PA X es t)(hs:starEach (e::es) X.env=(false,eval e X.env)::starEach es X.env:=by rfl):PA X (e::es) (sA te t):=by intro pos Ee s σ H Q I h;rw[hs];show wpAny _ _ (spliced ((false,eval e X.env)::backTo pos (starEach es X.env))) _ _ s;refine Cb (eK (F Ee s σ H _ I h) fun u s1 ⟨x,H1,L,Y,q⟩=>?_);exact eK (M pos Ee s1 σ H1 _ L q) fun us s2 ⟨xs,R,U,Z,q2⟩=>⟨x::xs,R,U,.cons Y Z,q2⟩
def p0(t:TA):TE:=fun σ H Q=>t σ H fun xs H1=>xs.length≤sizeLine∧∀p,H1 p=none->Q (.ref p) (eN H1 p (.tup xs))
def uB(t:TA):TE:=fun σ H Q=>t σ H fun xs H1=>xs.length≤sizeLine∧∀p,H1 p=none->Q (.ref p) (eN H1 p (.lst xs))
def sX{x1}(h:PA X es t):PE X (.Tuple es x1 pos) (p0 t):=by
 intro Ee s σ H Q I Z;refine wpAny_Tuple_spliced (eK (h pos Ee s σ H _ I Z) fun us s1 ⟨xs,H1,L,r,z,q⟩=>⟨by rw[←r.length];exact z,?_⟩);have F:H1 s1.heap.objs.size=none:=L.hok.fresh (AN _);refine⟨.ref s1.heap.objs.size,eN H1 s1.heap.objs.size (.tup xs),L.laid (t':=s1.toks) (fun b u e=>AD _ e) (AN _) ?_,rfl,q _ F⟩;exact⟨z,us,r,⟨_,AQ _ rfl,rfl,_,rfl⟩,_,AQ _ rfl,rfl⟩
def v4(h:PA X es t):PE X (.List es pos) (uB t):=by
 intro Ee s σ H Q I Z;refine wpAny_List_spliced (eK (h pos Ee s σ H _ I Z) fun us s1 ⟨xs,H1,L,r,z,q⟩=>⟨by rw[←r.length];exact z,?_⟩);have F:H1 s1.heap.objs.size=none:=L.hok.fresh (AN _);refine⟨.ref s1.heap.objs.size,eN H1 s1.heap.objs.size (.lst xs),L.laid (t':=s1.toks) (fun b u e=>AD _ e) (AN _) ?_,rfl,q _ F⟩;exact⟨z,us,0,r,AQ _ rfl⟩
end
abbrev Sp:=EK V->Hp->VK->XK->Prop
abbrev CXT:=EK Env->Hp->EM->XK->EL->EM->Prop
structure gT (P:Program) (w:World) (K:W.Frag) (mg:Str->Option Value) (base:Heap) (A:Around) (outer:List Env) (s:Shared) (H:Hp):Prop where
 frames:A.frames=some outer
 mod:Mod K mg base
 bs:∀b o,base.get? b=some o->s.heap.get? b=some o∧H b=none
 bsz:base.objs.size≤s.heap.objs.size
 funs:s.heap.FunFrames base outer
 frf:∀b∈fx outer,H b=none
 hok:fR P w H s.heap
 bare:AllBare s.gens
 hnd:gA A H
def CE(outer:EK Env)(P:ER)(w:EU)(H:Hp)(s:EM)(Q:VK)(u:EL)(s':EM):Prop :=
 ∃v H',s'.os=s.os∧AllBare s'.gens∧Un (fx outer) [] H H' s.heap s'.heap∧fR P w H' s'.heap∧RelV v u∧Q v H'
def CR(CX:CXT)(outer:EK Env)(P:ER)(w:EU)(H:Hp)(s:EM)(Q:VK)(E:XK)(r:Result)(s':EM):Prop :=
 match r with| .ok (.ret u)=>CE outer P w H s Q u s'| .ok _=>False| .error e=>CX outer H s E e s'
structure fM (P:Program) (w:World) (K:W.Frag) (mg:Str->Option Value) (base:Heap) (CX:CXT) (k:Nat) (f:Addr) (fd:FuncData) (ps:List Str) (sp:Sp):Prop where
 len:∀vs H Q E,sp vs H Q E->vs.length=ps.length
 run:∀(A:Around) (outer:List Env) (s:Shared) (H:Hp) (args:Args) (us:List Value) (vs:List V) (Q:VK) (E:XK),eW k A->gT P w K mg base A outer s H->BindsTo s fd args (ps.zip us)->ei vs us->sp vs H Q E ->
  codeAny (model P w) A (.call (.ref f) args) (CR CX outer P w H s Q E) s
section
variable{X:Cx}{Ee:EK (EN×Obj)}{σ:St}{H:Hp}{s s':EM}
def Inv.env0(I:Inv X Ee σ H s):gT X.prog X.w X.K X.mg X.base X.A X.stack s H :=
 ⟨I.ok.frames,I.ok.mod,I.bs,AW I.ok.bsz I.sz,I.stack,I.stkFree,I.hok,I.bare,I.hnd⟩
def Inv.after{Q:VK}{u:EL}(I:Inv X Ee σ H s)(h:CE X.stack X.prog X.w H s Q u s'):EP X Ee σ Q u s':=by obtain⟨v,H',os,bare,un,hok,r,q⟩:=h;obtain⟨M,g,d,t,F⟩:=s';obtain rfl:F=s.os:=os;exact⟨v,H',I.call (h':=M) (g':=g) (d':=d) (t':=t) (ch:=[]) un hok bare (fun b z=>absurd z (by simp)),r,q⟩
end
def Du(sp:Sp)(q:EK V)(E:XK)(t:TA):TE:=fun σ H Q=>t σ H fun vs H1=>sp (vs++q) H1 Q E
def Binds(K:EQ)(fd:FuncData)(ps:EK Str)(L:EK EL):Prop :=
 ∀(s:EM) (us:EK EL),K.In s.heap->(us++L).length=ps.length->BindsTo s fd ⟨us,[]⟩ (ps.zip (us++L))
def Binds.all{K:EQ}{fd:FuncData}{ps:EK Str}(h:∀us:EK EL,us.length=ps.length->bindArgs fd ⟨us,[]⟩=pure (ps.zip us)):Binds K fd ps []:=fun s us _ hl=>by rw[BW]at hl ⊢;exact .of_eq (h us hl)
def Ws(CX:CXT)(X:Cx)(E:XK):Prop:=∀(Ee:EK (EN×Obj)) (σ:St) (H:Hp) (s:EM) (e:EL) (L:EM),Inv X Ee σ H s->CX X.stack H s E e L->X.xe e L
section
variable{X:Cx}{CX:CXT}{k:Nat}{f C:EN}{fd:FuncData}{ps:EK Str}{sp:Sp}{ED:EK V}{ds:EK EL}{E:XK}{x m:Str}{p pos EB:Pos}{e o:EY}{es:EK EY}{ta:TE}{t:TA}
def mT{Ee:EK (EN×Obj)}{σ:St}{H:Hp}{s:EM}{Q:VK}{us:EK EL}{vs:EK V}(F:fM X.prog X.w X.K X.mg X.base CX k f fd ps sp)(M:eW k X.A)(hb:Binds X.K fd ps ds)(hd:ei ED ds)(R:Ws CX X E)
  (I:Inv X Ee σ H s) (r:ei vs us) (h:sp (vs++ED) H Q E):wpAny (model X.prog X.w) X.A (call (.ref f) us) (EP X Ee σ Q) X.xe s:=by
 have L:ei (vs++ED) (us++ds):=r.append hd;have hl:(us++ds).length=ps.length:=by rw[←L.length];exact F.len _ _ _ _ h
 refine C7 (codeAny_mono (F.run X.A X.stack s H ⟨us,[]⟩ (us++ds) (vs++ED) Q E M I.env0 (hb s us I.kIn hl) L h) fun r Y Z=>?_);cases r with
 |error e=>exact R Ee σ H s e Y I Z
 |ok U =>
  cases U with|ret u=>exact I.after Z|next=>exact False.elim Z|brk=>exact False.elim Z|cont=>exact False.elim Z
def vE(F:fM X.prog X.w X.K X.mg X.base CX k f fd ps sp)(M:eW k X.A)(U:Gl X x)(R:X.mg x=some (.ref f))(Y:W.keepIn X.K (.ref f)=true)(hb:Binds X.K fd ps ds)(hd:ei ED ds)(hx:Ws CX X E)
  (ha:PA X (e::es) t) (Z:(x==("__debug__":Str))=false:=by decide) (he:starEach (e::es) X.env=(false,eval e X.env)::starEach es X.env:=by rfl) (Ep:(backTo pos (starEach es X.env)).any (·.1)=false:=by rfl) :
  PE X (.Call (.Name x p) (e::es) [] pos) (Du sp ED E t):=by intro Ee s σ H Q I h;refine Be (je I U R ?_ Z);refine W.callWith_K (h₀:=X.base) I.ok.mod.kin Y (eK (ha pos Ee s σ H _ I h) fun us s1 ⟨vs,H1,L,r,q⟩=>⟨L.kIn,?_⟩) he Ep;exact mT F M hb hd hx L r q
end
structure ez (N P:List Str) (sc:Scope):Prop where
 kind:sc.kind= .function
 co:sc.isCoroutine=false
 gen:sc.isGenerator=false
 nd:N.Nodup
 pre:N.take P.length=P
 par:∀x∈P,sc.names.lookup x=some .local∨sc.names.lookup x=some .cell
 nofree:∀y∈sc.names,y.2≠ .free
def Yi{kindOf:Str->EO NameKind}{x:Str}:∀{binds:EK (Str×EL)} {m:Str->EO EL},(∀v,(x,v)∉binds)->bindL kindOf binds m x=m x
 |[],_,_=>rfl
 |(n,v)::r,m,h=>by
  unfold bindL;rw[Yi fun w M=>h w (AO _ M)];split
  ·have:x≠n:=by rintro rfl;exact h v AT
   simp[this]
  ·rfl
def Yu{kindOf:Str->EO NameKind}{x:Str}:∀{binds:EK (Str×EL)} {m:Str->EO EL},(∀v,(x,v)∉binds)->bindC kindOf binds m x=m x
 |[],_,_=>rfl
 |(n,v)::r,m,h=>by
  unfold bindC;rw[Yu fun w M=>h w (AO _ M)];split;rfl
  ·have:x≠n:=by rintro rfl;exact h v AT
   simp[this]
def Yg{kindOf:Str->EO NameKind}{x:Str}{v:EL}:∀{P:EK Str} {vs:EK EL} {i:Nat} {m:Str->EO EL},P.Nodup->P[i]? = some x->vs[i]? = some v->kindOf x=some .local ->
  bindL kindOf (P.zip vs) m x=some v
 |[],_,_,_,_,h,_,_=>by simp at h
 |_::_,[],_,_,_,_,h,_=>by simp at h
 |p::P,w::vs,0,m,nd,Y,U,R=>by simp at Y U;subst Y;subst U;show bindL kindOf ((p,w)::P.zip vs) m p=_;unfold bindL;rw[Yi fun v L=>(Bm.mp nd).1 (List.of_mem_zip L).1,AC R];simp
 |p::P,w::vs,i+1,m,nd,Y,U,R=>by show bindL kindOf ((p,w)::P.zip vs) m x=_;unfold bindL;exact Yg (i:=i) (Bm.mp nd).2 (by simpa using Y) (by simpa using U) R
def Yw{kindOf:Str->EO NameKind}{x:Str}{v:EL}:∀{P:EK Str} {vs:EK EL} {i:Nat} {m:Str->EO EL},P.Nodup->P[i]? = some x->vs[i]? = some v->kindOf x≠some .local ->
  bindC kindOf (P.zip vs) m x=some v
 |[],_,_,_,_,h,_,_=>by simp at h
 |_::_,[],_,_,_,_,h,_=>by simp at h
 |p::P,w::vs,0,m,nd,Y,U,R=>by simp at Y U;subst Y;subst U;show bindC kindOf ((p,w)::P.zip vs) m p=_;unfold bindC;rw[Yu fun v L=>(Bm.mp nd).1 (List.of_mem_zip L).1,AF R];simp
 |p::P,w::vs,i+1,m,nd,Y,U,R=>by show bindC kindOf ((p,w)::P.zip vs) m x=_;unfold bindC;exact Yw (i:=i) (Bm.mp nd).2 (by simpa using Y) (by simpa using U) R
def start(N:EK Str)(vs:EK V):St:=vs.map some++List.replicate (N.length-vs.length) none
def wV(CX:CXT)(P:ER)(w:EU)(K:EQ)(mg:Str->EO EL)(base:Heap)(N:EK Str)(qual:Str)(scope:Scope)(f:EN)(cd:EL)(A:EW)(outer:EK Env)(s:EM)(H:Hp)(E:XK):Cx where
 prog:=P
 w:=w
 K:=K
 mg:=mg
 base:=base
 A:=A.deeper (envOfC qual scope s.heap.objs.size f cd)
 N:=N
 s₀:=s
 H₀:=H
 env:=envOfC qual scope s.heap.objs.size f cd
 outer:=outer
 stack:=envOfC qual scope s.heap.objs.size f cd::outer
 ex:=[]
 calm:=A.handled.isNone
 fn:=fun _=>true
 pn:=[]
 xe:=fun e s'=>wpAny (model P w) (A.deeper (envOfC qual scope s.heap.objs.size f cd)) (leaving (envOfC qual scope s.heap.objs.size f cd) e) (fun _ EG=>CX outer H s E e EG) (fun e' EG=>CX outer H s E e' EG) s'
def Jz{sc:Scope}{n:Nat}{x:Str}(h:sc.names.lookup x=some .cell):∃c,(cellsFrom n sc.names []).lookup x=some c:=by have q:=W.cellsFrom_some sc.names n [] (.inl h);exact Option.isSome_iff_exists.mp q
def rn{CX:CXT}{P:ER}{w:EU}{K:EQ}{mg:Str->EO EL}{base:Heap}{N ps:EK Str}{qual:Str}{scope:Scope}{f:EN}{cd:EL}{A:EW}{outer:EK Env}{s s1:EM}{H:Hp}{E:XK}{us:EK EL}{vs:EK V}
  (S:ez N ps scope) (M:gT P w K mg base A outer s H) (hl:vs.length=ps.length) (r:ei vs us)
  (x:InCallC s s.heap.objs.size (bindL (envOfC qual scope s.heap.objs.size f cd).kindOf (ps.zip us) fun _=>none) (cellsFrom (s.heap.objs.size+1) scope.names []) (bindC (envOfC qual scope s.heap.objs.size f cd).kindOf (ps.zip us) fun _=>none) s1) :
  Inv (wV CX P w K mg base N qual scope f cd A outer s H E) [] (start N vs) H s1:=by
 have a0:ps.length≤N.length:=by have:=A5 List.length S.pre;rw[CT]at this;omega
 obtain⟨Y,tk,rfl,R⟩:=x.done;have Z:∀b:EN,b∉(wV CX P w K mg base N qual scope f cd A outer s H E).ex:=fun b z=>absurd (show b∈([]:EK EN) from z) (by simp);refine⟨⟨M.mod,S.kind,rfl,rfl,AN _,fun y z c Y U=>?_,fun y hy=>?_,fun y c _ h=>?_,fun z=>Option.isNone_iff_eq_none.mp z,Around.frames_deeper M.frames,.inr ⟨rfl,rfl⟩,fun b z=>absurd z (Z b),M.bs,M.bsz,fun b _ _=>Z b,fun b z=>absurd z (Z b),M.funs,M.frf⟩,
  rfl,M.bare,Un.kept R,⟨_,x.toInCall.ns,fun i y v Y U h3=>?_⟩,fun y c h=>⟨_,x.cell y c h⟩,M.hok.fresh (AN _),fun y c h=>?_,fun p L=>absurd (show p∈([]:EK (EN×Obj)) from L) (by simp),M.hok.kept R,?_,M.hnd⟩
 ·exact name_of_addr x.apart (Bq Y) (Bq U)
 ·have hy:scope.names.lookup y=some .cell∨scope.names.lookup y=some .free:=hy;rcases hy with hy|hy
  ·exact Jz hy
  ·exact absurd rfl (S.nofree _ (Bq hy))
 ·exact C1 (x.above y c (Bq h))
 ·have hi:i<vs.length:=by
   unfold start at U;by_cases hi:i<vs.length;exact hi
   ·rw[A9 (by simpa using hi)]at U;rw[CB]at U;split at U <;> cases U
  have ha:vs[i]? = some v:=by
   unfold start at U;rw[Aq (by simpa using hi),Am]at U;cases e:vs[i]? with|none=>rw[e]at U;cases U|some a=>rw[e]at U;cases U;rfl
  obtain⟨u,F,rv⟩:=r.get ha;have L:ps[i]? = some y:=by rw[←S.pre,List.getElem?_take_of_lt (by omega)];exact Y
  have I:ps.Nodup:=by rw[←S.pre];exact S.nd.sublist (List.take_sublist _ _)
  refine⟨u,rv,?_⟩;rcases S.par y (Bh L) with k|k
  ·exact .inl ⟨k,Yg I L F k⟩
  ·obtain⟨c,e⟩:=Jz (n:=s.heap.objs.size+1) k;refine .inr ⟨.inl k,c,e,?_⟩;have q:=x.cell y c e;rw[Yw I L F (by show scope.names.lookup y≠_;rw[k];decide)]at q;exact q
 ·exact M.hok.fresh (C1 (x.above y c (Bq h)))
 ·unfold start;show _=N.length;rw[Ac,AG,List.length_replicate];omega
def tB{CX:CXT}{P:ER}{w:EU}{K:EQ}{mg:Str->EO EL}{base:Heap}{k:Nat}{f:EN}{name qual:Str}{Y:Arguments}{R:EK Stmt}{scope:Scope}{dV kV Ey pm Em ct oc:EL}{an od:EO EN}
  {Ez:EZ (EO EL)} {N ps:EK Str} {sp:Sp} (lk:K.lookup f=some ⟨oc,od,.func (W.fnOf name qual Y R scope dV kV Ey pm an Em ct),Ez⟩) (a0:W.codeIn K Em qual=true) (S:ez N ps scope)
  (len:∀vs H Q E,sp vs H Q E->vs.length=ps.length)
  (F:∀(A:EW) (outer:EK Env) (s:EM) (H:Hp) (vs:EK V) (Q:VK) (E:XK),eW k (A.deeper (envOfC qual scope s.heap.objs.size f Em))->(0<k->A.handled=none)->sp vs H Q E ->
   ∃t,f8 (wV CX P w K mg base N qual scope f Em A outer s H E) R t∧t { nx:=fun _ H'=>Q .non H',rt:=Q } (start N vs) H) :
  fM P w K mg base CX (k+1) f (W.fnOf name qual Y R scope dV kV Ey pm an Em ct) ps sp:=by
 refine⟨len,fun A outer s H args us vs Q E hr U hb r Z=>?_⟩;have hl:=len _ _ _ _ Z;have KX:K.In s.heap:=U.mod.kin.keeps fun b o e=>(U.bs b o e).1;have a1:s.heap.NoLimit:=U.mod.nolimit.keeps fun b o e=>(U.bs b o e).1;have M:∀y∈ps.zip us,scope.names.lookup y.1=some .local∨(scope.names.lookup y.1=some .cell∧((cellsFrom (s.heap.objs.size+1) scope.names []).lookup y.1).isSome=true):=fun⟨n,v⟩ hy=>by
  rcases S.par n (List.of_mem_zip hy).1 with q|q
  ·exact .inl q
  ·exact .inr ⟨q,W.cellsFrom_some _ _ _ (.inl q)⟩
 refine codeAny_call_function hr.depth (KX _ _ lk) rfl S.co S.gen rfl (W.codeRec_of KX a0) (hb _ _ _ _ ?_);refine wpAny_newFunctionEnv_cells S.kind M fun env he s1 x=>?_;subst he;refine⟨a1.keeps x.toInCall.keep,codeAny_func ?_⟩;obtain⟨t,ht,hq⟩:=F A outer s H vs Q E (hr.deeper _) (fun z=>hr.hd (by omega)) Z;have I:Inv (wV CX P w K mg base N qual scope f Em A outer s H E) [] (start N vs) H s1:=rn S U hl r x;refine Bb (ht [] s1 (start N vs) H _ I hq) (fun fl s' hs=>?_) fun e s' hs=>hs;have L:∀{σ':St} {H':Hp} {v:V} {u:EL},Inv (wV CX P w K mg base N qual scope f Em A outer s H E) [] σ' H' s'->RelV v u->Q v H'->CE outer P w H s Q u s' :=
  fun {σ' H' v u} J rv q=>⟨v,H',J.os,J.bare,J.base,J.hok,rv,q⟩
 cases fl with|ret u=>obtain⟨v,σ',H',J,rv,q⟩:=hs;exact L J rv q|next=>obtain⟨σ',H',J,q⟩:=hs;exact L (v:=V.non) (u:=Value.none) J rfl q|brk=>obtain⟨_,_,_,q⟩:=hs;exact False.elim q|cont=>obtain⟨_,_,_,q⟩:=hs;exact False.elim q
end L2
namespace L2
open PySem PySem.Spec PyProof.Rows
section
variable{X:Cx}{x:Str}{p pos:Pos}{e:EY}{es:EK EY}{t:TA}{id T:String}{r:EK V->Hp->VK->Prop}
def lT(r:EK V->Hp->VK->Prop)(t:TA):TE:=fun σ H Q=>t σ H fun vs H1=>r vs H1 Q
def Do(U:W5 X (.builtin id) r)(q:Gl X x)(M:X.mg x=none)(L:bootBuiltins x=some (.builtin id))(F:PA X (e::es) t)(Y:x ≠ "__name__" :=by decide)(Z:(x==("__debug__":Str))=false:=by decide)
  (he:starEach (e::es) X.env=(false,eval e X.env)::starEach es X.env:=by rfl) (Ep:(backTo pos (starEach es X.env)).any (·.1)=false:=by rfl):PE X (.Call (.Name x p) (e::es) [] pos) (lT r t):=by intro Ee s σ H Q I h;refine Be (Wq I q M L ?_ Y Z);exact PyProof.Rows.callWith_builtin1 (eK (F pos Ee s σ H _ I h) fun us s1 ⟨vs,H1,R,r1,q1⟩=>U Ee s1 σ H1 vs us Q R r1 q1) he Ep
def Yj(U:W5 X (.type T) r)(q:Gl X x)(M:X.mg x=none)(L:bootBuiltins x=some (.type T))(F:PA X (e::es) t)(Y:x ≠ "__name__" :=by decide)(Z:(x==("__debug__":Str))=false:=by decide)
  (he:starEach (e::es) X.env=(false,eval e X.env)::starEach es X.env:=by rfl) (Ep:(backTo pos (starEach es X.env)).any (·.1)=false:=by rfl):PE X (.Call (.Name x p) (e::es) [] pos) (lT r t):=by intro Ee s σ H Q I h;refine Be (Wq I q M L ?_ Y Z);exact Bl (eK (F pos Ee s σ H _ I h) fun us s1 ⟨vs,H1,R,r1,q1⟩=>U Ee s1 σ H1 vs us Q R r1 q1) he Ep
end
end L2
namespace HT
open PySem PyProof.Rows
def rcLt_int(A:EW)(s:EM)(a:Int)(t:Tok)(c:Int)(u:Tok)(prog:ER)(w:EU)(E:EL->EM->Prop)(Q:EL->EM->Prop)(h:Q (.bool (decide (a<c))) s) :
  wpAny (model prog w) A (richCompare .Lt (.int a t) (.int c u)) Q E s :=
 (PyProof.Rows.lt_int h:wpAny (model prog w) A (compareOp .Lt (.int a t) (.int c u)) Q E s)
section
variable{prog:ER}{w:EU}{A:EW}{E:EL->EM->Prop}{s:EM}
def cat_tup{t b:EN}{vs ws:EK EL}{Q:EL->EM->Prop}(ht:IsTup s.heap t vs.toArray)(hb:IsTup s.heap b ws.toArray)(hv:vs≠[])
  (h1:ws=[]->Q (.ref t) s) (h2:ws≠[]->Q (.ref s.heap.objs.size) { s with heap:=s.heap.push { cls:=.type "tuple",data:=.seq (vs++ws).toArray } })
  (L:vs.length+ws.length≤sizeLine):wpAny (model prog w) A (binaryOp .Add (.ref t) (.ref b)) Q E s:=by
 obtain⟨⟨cls,dd,data,sl⟩,U,hc,n,hd⟩:=id ht;obtain⟨⟨a0,M,data2,I⟩,R,Z,n2,q⟩:=id hb;simp only at hc hd Z q;subst hc hd Z q;have e:vs.toArray++ws.toArray=(vs++ws).toArray:=by simp
 by_cases Y:ws=[]
 ·exact concat_meets ⟨_,U,rfl⟩ ⟨_,R,rfl⟩ noFill_tuple_add seq_tuple_add PySem.F.slot_tuple_add PySem.F.entry_tuple_add (PySem.F.args_tuple_add_2 _ _)
   (tuple_addW1 t b vs.toArray ws.toArray n n2 dd M sl I (by simpa using hv) (by simp[Y])) ⟨U,R,h1 Y⟩
 ·refine concat_meets ⟨_,U,rfl⟩ ⟨_,R,rfl⟩ noFill_tuple_add seq_tuple_add PySem.F.slot_tuple_add PySem.F.entry_tuple_add (PySem.F.args_tuple_add_2 _ _)
   (tuple_addW2 t b vs.toArray ws.toArray n n2 dd M sl I (by simpa using hv) (by simpa using Y) (by rw[AR,AR];exact L)) ⟨U,R,?_⟩
  rw[e];exact h2 Y
def sIx(n d:Nat):EO Int->Nat|none=>d|some v=>if v<0 then (v+(n:Int)).toNat else min v.toNat n
def p6(n d:Nat)(hd:d≤n)(o:EO Int):sIx n d o≤n:=by
 cases o with
 |none=>exact hd
 |some v =>
  show (if v<0 then (v+(n:Int)).toNat else min v.toNat n)≤n;by_cases L:v<0;rw[AC L];omega;rw[AF L];exact Nat.min_le_right _ _
def lX(v:Int)(n d:Nat):(if v<0 then max (v+(n:Int)) 0 else min v (n:Int))=((sIx n d (some v):Nat):Int):=by
 show (if v<0 then max (v+(n:Int)) 0 else min v (n:Int))=(((if v<0 then (v+(n:Int)).toNat else min v.toNat n):Nat):Int);by_cases L:v<0;simp only[AC L];omega;simp only[AF L];omega
def vV(lo hi:EO Int)(n:Nat):Builtin.Slice.sliceAdjust lo hi 1 (n:Int)=(((sIx n 0 lo:Nat):Int),((sIx n n hi:Nat):Int)):=by
 have Y:¬((1:Int)<0):=by omega
 unfold Builtin.Slice.sliceAdjust;simp only[Y,if_false];refine Prod.ext ?_ ?_
 ·cases lo with|none=>rfl|some v=>exact lX v n 0
 ·cases hi with|none=>rfl|some v=>exact lX v n n
def vW(i j:Nat):Builtin.Slice.slicePlaces (i:Int) (j:Int) 1=j-i:=by
 unfold Builtin.Slice.slicePlaces;have Y:(1:Int)>0:=by omega
 simp only[Y,if_true,Int.ediv_one];split <;> omega
def yu{v:EL}{o:EO Int}{Q:EO Int->EM->Prop}(p:IsPart v o)(h:Q o s):wpAny (model prog w) A (Builtin.Slice.slicePartIndex v) Q E s:=by
 cases p with|none=>exact slicePart_none h|int i t=>exact slicePart_int h
def sliceApplied_gen{sl:EN}{Z U:EL}{lo hi:EO Int}{n:Nat}{Q:Int×Int×Nat->EM->Prop}(hs:s.heap.IsSliceOf sl Z U .none)(pl:IsPart Z lo)(F:IsPart U hi)
  (h:Q (((sIx n 0 lo:Nat):Int),1,sIx n n hi-sIx n 0 lo) s):wpAny (model prog w) A (Builtin.Slice.sliceApplied (.ref sl) (pure (n:Int))) Q E s:=by
 obtain⟨os,R,L,Y⟩:=id hs;unfold Builtin.Slice.sliceApplied Builtin.Slice.sliceFields;refine AA (AA (Av R Y (x:=Z) rfl (AA (Av R Y (x:=U) rfl (AA (Av R Y (x:=.none) rfl (AB ?_)))))));refine AA (slicePart_none ?_);show wpAny _ _ (if ((1:Int)==0)=true then _ else _) _ _ s;rw[AF (by decide)];refine AA (yu pl (AA (yu F (AA (AB ?_)))));show wpAny _ _ (match Builtin.Slice.sliceAdjust lo hi 1 (n:Int) with|(lo,hi)=>pure (lo,(1:Int),Builtin.Slice.slicePlaces lo hi 1)) _ _ s;rw[vV lo hi n];show wpAny _ _ (pure (((sIx n 0 lo:Nat):Int),(1:Int),Builtin.Slice.slicePlaces ((sIx n 0 lo:Nat):Int) ((sIx n n hi:Nat):Int) 1)) _ _ s;rw[vW];exact AB h
def pE(xs:EZ EL)(i k:Nat):((List.range k).filterMap fun (m:Nat)=>xs[((i:Int)+(m:Int)*1).toNat]?).toArray=((xs.toList.drop i).take k).toArray:=by
 have e:(fun (m:Nat)=>xs[((i:Int)+(m:Int)*1).toNat]?)=fun m=>xs[i+m]? :=by
  funext m
  have:((i:Int)+(m:Int)*1).toNat=i+m:=by omega
  rw[this]
 rw[e]
 have:=pick_run xs i k
 rw[List.filterMap_map]at this;have R:((fun x=>xs[x]?) ∘ fun x=>i+x)=fun m=>xs[i+m]? :=rfl;rw[R]at this;rw[this]
def getItem_tuple_cut{t sl:EN}{items:EZ EL}{Z F:EL}{lo hi:EO Int}{Q:EL->EM->Prop}(L:IsTup s.heap t items)(hs:s.heap.IsSliceOf sl Z F .none)(pl:IsPart Z lo)(pu:IsPart F hi)
  (hw:¬(sIx items.size 0 lo=0∧sIx items.size items.size hi=items.size))
  (h:Q (.ref s.heap.objs.size) { s with heap:=s.heap.push { cls:=.type "tuple",data:=.seq ((items.toList.drop (sIx items.size 0 lo)).take (sIx items.size items.size hi-sIx items.size 0 lo)).toArray } })
  (a0:items.size≤sizeLine):wpAny (model prog w) A (getItem (.ref t) (.ref sl)) Q E s:=by
 have I:sizeOk (.seq ((items.toList.drop (sIx items.size 0 lo)).take (sIx items.size items.size hi-sIx items.size 0 lo)).toArray):=by show ((items.toList.drop (sIx items.size 0 lo)).take (sIx items.size items.size hi-sIx items.size 0 lo)).toArray.size≤sizeLine;rw[AR,CT,List.length_drop,Ai];omega
 have hj:sIx items.size items.size hi≤items.size:=p6 _ _ (AN _) hi;obtain⟨os,R,Y,a1⟩:=id hs;have M:s.TypeIs (.ref sl) "slice" :=⟨os,R,Y⟩;unfold getItem;try with_reducible refine Ay ?_
 first|refine AA (AB ?_)|skip
 refine AA (wpAny_sequenceKey L.typeIs (by decide) ?_);refine AA (A6 (name:=Str.ofString "__getitem__") L.typeIs B4
  (BA B4 L.typeIs entry_tuple_getitem ?_ (args_tuple_getitem _ _)))
 show wpAny _ _ (Builtin.Tuple.tupleItemsOf (.ref t) >>= _) _ _ s;refine AA (tupleItemsOf_ L ?_);refine AA (CU M ?_);rw[AC (by decide)];refine AA (sliceApplied_gen hs pl pu ?_);have U:¬((((sIx items.size 0 lo:Nat):Int)==0&&(1:Int)==1&&(sIx items.size items.size hi-sIx items.size 0 lo)==items.size)=true):=by intro q;rw[Ar,Ar]at q;have q1:((sIx items.size 0 lo:Nat):Int)=0:=eq_of_beq q.1.1;have q2:sIx items.size items.size hi-sIx items.size 0 lo=items.size:=eq_of_beq q.2;exact hw ⟨by omega,by omega⟩
 show wpAny _ _ (if (((sIx items.size 0 lo:Nat):Int)==0&&(1:Int)==1&&(sIx items.size items.size hi-sIx items.size 0 lo)==items.size)=true then _ else _) _ _ s;rw[AF U,pE];first
  |exact AA (m:=Builtin.Tuple.tupleExact _) (BO (AB ⟨_,rfl,AB h⟩) I)
  |exact AA (m:=Builtin.Tuple.tupleExact _) (BO (AA (AB (AB ⟨_,rfl,AB h⟩))) I)
  |exact AA (AA (m:=Builtin.Tuple.tupleExact _) (BO (AB (AB ⟨_,rfl,AB h⟩)) I))
  |exact AA (AA (m:=Builtin.Tuple.tupleExact _) (BO (AB ⟨_,rfl,AB h⟩) I))
end
end HT
namespace L2
open PySem PySem.Spec PyProof.Rows
abbrev TO:=St->Hp->(EO Int->Hp->Prop)->Prop
def PO(X:Cx)(e:EO EY)(t:TO):Prop :=
 ∀(Ee:EK (EN×Obj)) (s:EM) (σ:St) (H:Hp) (Q:EO Int->Hp->Prop),Inv X Ee σ H s->t σ H Q ->
  wpAny (model X.prog X.w) X.A (evalPart e X.env) (fun u L=>∃o H',Inv X Ee σ H' L∧IsPart u o∧Q o H') X.xe s
def qEz:TO:=fun _ H Q=>Q none H
def vA(t:TE):TO:=fun σ H Q=>t σ H fun x H1=>∃i,x= .int i∧Q (some i) H1
def uR{ns:EK Int}:∀{us:EK EL},ei (ns.map V.int) us->IntsAre us ns:=by
 induction ns with
 |nil=>intro us r;rw[C2]at r;cases r;exact .nil
 |cons n ns I =>
  intro us r;rw[AU]at r;cases r with|cons Y L=>obtain⟨t,e⟩:=Y;subst e;exact .cons n t (I L)
section
variable{X:Cx}{e:EY}{te:TE}{lo hi:EO EY}{tl th:TO}{pos p2:Pos}
def vY:PO X none qEz:=by intro Ee s σ H Q I h;rw[evalPart_none];exact AB ⟨none,H,I,.none,h⟩
def xT(h:PE X e te):PO X (some e) (vA te):=by intro Ee s σ H Q I M;rw[evalPart_some];refine eK (h Ee s σ H _ I M) fun u s1 ⟨x,H1,L,Y,F⟩=>?_;obtain⟨i,rfl,q⟩:=F;obtain⟨t,rfl⟩:=Y;exact⟨some i,H1,L,.int i t,q⟩
def ij(X:Cx)(r:V->EO Int->EO Int->Hp->VK->Prop):Prop :=
 ∀(Ee:EK (EN×Obj)) (s:EM) (σ:St) (H:Hp) (x:V) (v Z U:EL) (lo hi:EO Int) (sl:EN) (Q:VK),Inv X Ee σ H s->RelV x v->s.heap.IsSliceOf sl Z U .none->IsPart Z lo->IsPart U hi->r x lo hi H Q ->
  ∃T id,typeLookup (.type T) "__getitem__" = pure (some (.builtin id))∧s.TypeIs v T∧wpAny (model X.prog X.w) X.A (getItem v (.ref sl)) (EP X Ee σ Q) X.xe s
def ij.or{r r':V->EO Int->EO Int->Hp->VK->Prop}(h:ij X r)(h':ij X r'):ij X (fun x lo hi H Q=>r x lo hi H Q∨r' x lo hi H Q):=by
 intro Ee s σ H x v Z U lo hi sl Q I R hs pl F q;rcases q with q|q
 ·exact h Ee s σ H x v Z U lo hi sl Q I R hs pl F q
 ·exact h' Ee s σ H x v Z U lo hi sl Q I R hs pl F q
def DL(r:V->EO Int->EO Int->Hp->VK->Prop)(te:TE)(tl th:TO):TE:=fun σ H Q=>te σ H fun x H1=>tl σ H1 fun l Y=>th σ Y fun u H3=>r x l u H3 Q
def pz{r:V->EO Int->EO Int->Hp->VK->Prop}(M:ij X r)(he:PE X e te)(hl:PO X lo tl)(F:PO X hi th):PE X (.Subscript e (.Slice lo hi none p2) pos) (DL r te tl th):=by intro Ee s σ H Q I h;refine Subscript_ (eK (he Ee s σ H _ I h) fun v s1 ⟨x,H1,L,Y,q1⟩=>?_);refine wpAny_Slice (eK (hl Ee s1 σ H1 _ L q1) fun Z s2 ⟨l,H2,I2,pl,q2⟩=>eK (F Ee s2 σ H2 _ I2 q2) fun U R ⟨u,H3,I3,pu,q3⟩=>?_);rw[evalPart_none];refine AB ?_;have I4:Inv X Ee σ H3 { R with heap:=R.heap.push { cls:=.type "slice",data:=.fields #[Z,U,.none] } }:=I3.kept (t':=R.toks) fun b ob q=>AD _ q;obtain⟨T,id,hT,ht,hg⟩:=M Ee { R with heap:=R.heap.push { cls:=.type "slice",data:=.fields #[Z,U,.none] } } σ H3 x v Z U l u R.heap.objs.size Q I4 Y (Heap.IsSliceOf.new ..) pl pu q3;show wpAny (model X.prog X.w) X.A (subscriptTail e (.Slice lo hi none p2) v (.ref R.heap.objs.size)) (EP X Ee σ Q) X.xe { R with heap:=R.heap.push { cls:=.type "slice",data:=.fields #[Z,U,.none] } };exact tail_any (ops:=[.ref R.heap.objs.size,v]) ht hT hg (by with_unfolding_all rfl)
def iC(xs:EK V)(lo hi:EO Int):EK V:=(xs.drop (HT.sIx xs.length 0 lo)).take (HT.sIx xs.length xs.length hi-HT.sIx xs.length 0 lo)
def JR(xs:EK V)(lo hi:EO Int):(iC xs lo hi).length≤xs.length:=by unfold iC;rw[CT,List.length_drop];omega
def xD(K:EQ):V->EO Int->EO Int->Hp->VK->Prop:=fun x lo hi H Q=>∃a xs,x= .ref a∧fC K H a xs ∧
 ¬(HT.sIx xs.length 0 lo=0∧HT.sIx xs.length xs.length hi=xs.length)∧∀p,H p=none->Q (.ref p) (eN H p (.tup (iC xs lo hi)))
def ig:ij X (xD X.K):=by
 intro Ee s σ H x v vl vu lo hi sl Q I R hs pl M h;obtain⟨a,xs,rfl,Y,U,q⟩:=h;cases R;obtain⟨Eg,r,L,Z⟩:=I.tuple Y;have F:Eg.toArray.size=xs.length:=by rw[AR];exact r.length.symm
 refine⟨"tuple",_,PyProof.Rows.slot_tuple_getitem.lookup,L.typeIs,?_⟩;refine HT.getItem_tuple_cut L hs pl M (by rw[F];exact U) ?_ (by rw[F];exact Z);rw[F];refine⟨.ref s.heap.objs.size,_,I.laid (t':=s.toks) (o:=.tup (iC xs lo hi)) (fun b ob q=>AD _ q) (AN _) ?_,rfl,q _ (I.hok.fresh (AN _))⟩;exact⟨AW (JR xs lo hi) Z,_,(r.drop (HT.sIx xs.length 0 lo)).take (HT.sIx xs.length xs.length hi-HT.sIx xs.length 0 lo),IsTup.new _ _,_,AQ _ rfl,rfl⟩
def rM(K:EQ):R2:=fun x y H Q=>∃a b xs M,x= .ref a∧y= .ref b∧fC K H a xs∧fC K H b M∧xs≠[]∧xs.length+M.length≤sizeLine ∧
 (M=[]->Q (.ref a) H)∧(M≠[]->∀p,H p=none->Q (.ref p) (eN H p (.tup (xs++M))))
def ei.nil_iff{xs:EK V}{us:EK EL}(r:ei xs us):us=[] ↔ xs=[]:=by
 cases r with|nil=>simp|cons _ _=>simp
def vN:fy X (binaryOp .Add) (rM X.K):=by
 intro Ee s σ H x y v u Q I R U h;obtain⟨a,b,xs,M,rfl,rfl,ha,hb,hx,Z,q1,q2⟩:=h;cases R;cases U;obtain⟨Eg,Y,p1,_⟩:=I.tuple ha;obtain⟨F,L,p2,_⟩:=I.tuple hb;refine HT.cat_tup p1 p2 (fun z=>hx (Y.nil_iff.mp z)) (fun z=>⟨.ref a,H,I,rfl,q1 (L.nil_iff.mp z)⟩) (fun z=>?_) (by rw[←Y.length,←L.length];exact Z);refine⟨.ref s.heap.objs.size,_,I.laid (t':=s.toks) (o:=.tup (xs++M)) (fun b ob q=>AD _ q) (AN _) ?_,rfl,q2 (fun w=>z (L.nil_iff.mpr w)) _ (I.hok.fresh (AN _))⟩;exact⟨by rw[Ac];exact Z,_,Y.append L,IsTup.new _ _,_,AQ _ rfl,rfl⟩
end
end L2
namespace L2
open PySem PySem.Spec PyProof.Rows
def ixN(n:Nat)(i:Int):EO Nat:=if 0≤i then (if i<n then some i.toNat else none) else if -(n:Int)≤i then some (i+n).toNat else none
def atI{α:Type}(xs:EK α)(i:Int):EO α:=(ixN xs.length i).bind fun j=>xs[j]?
def lW{n:Nat}{i:Int}{j:Nat}(h:ixN n i=some j):seqIndex? i n=some j∧j<n∧ -(n:Int)≤i∧i<n:=by
 unfold ixN at h;by_cases h0:0≤i
 ·rw[AC h0]at h;by_cases Y:i<n;rw[AC Y]at h;have e:i.toNat=j:=Al h;exact⟨by rw[seqIndex_of h0 Y,e],by omega,by omega,Y⟩;rw[AF Y]at h;cases h
 ·rw[AF h0]at h;by_cases Y:-(n:Int)≤i;rw[AC Y]at h;have e:(i+n).toNat=j:=Al h;exact⟨by rw[seqIndex_neg (by omega) Y,e],by omega,Y,by omega⟩;rw[AF Y]at h;cases h
def jH{α:Type}{xs:EK α}{i:Int}{v:α}(h:atI xs i=some v):∃j,seqIndex? i xs.length=some j∧xs[j]? = some v∧j<xs.length∧ -(xs.length:Int)≤i∧i<xs.length:=by
 unfold atI at h;cases e:ixN xs.length i with|none=>rw[e]at h;cases h|some j=>rw[e]at h;obtain⟨Y,U,F,q⟩:=lW e;exact⟨j,Y,h,U,F,q⟩
def nI(b:EY):Prop:=∀o i,subscripted b false o i=operate [o,i] (getItem o i)
def gV(X:Cx)(r:R2):Prop :=
 ∀(F M:EY) (Ee:EK (EN×Obj)) (s:EM) (σ:St) (H:Hp) (x y:V) (v u:EL) (Q:VK),Inv X Ee σ H s->RelV x v->RelV y u->r x y H Q ->
  subscripted M false v u=operate [v,u] (getItem v u)->wpAny (model X.prog X.w) X.A (subscriptTail F M v u) (EP X Ee σ Q) X.xe s
def uS(X:Cx)(id:String)(r:V->EK V->Hp->VK->Prop):Prop :=
 ∀(Ee:EK (EN×Obj)) (s:EM) (σ:St) (H:Hp) (x:V) (xs:EK V) (v:EL) (us:EK EL) (Q:VK),Inv X Ee σ H s->RelV x v->ei xs us->r x xs H Q ->
  wpAny (model X.prog X.w) X.A (call (.builtin id) (v::us)) (EP X Ee σ Q) X.xe s
section
variable{X:Cx}{a b:EY}{ta tb:TE}{pos:Pos}
def gV.or{r r':R2}(h:gV X r)(h':gV X r'):gV X (fun x y H Q=>r x y H Q∨r' x y H Q):=by
 intro F M Ee s σ H x y v u Q I R L q hs;rcases q with q|q
 ·exact h F M Ee s σ H x y v u Q I R L q hs
 ·exact h' F M Ee s σ H x y v u Q I R L q hs
def o9{r:R2}(M:gV X r)(F:PE X a ta)(hb:PE X b tb)(hs:nI b):PE X (.Subscript a b pos) (iZ r ta tb):=by intro Ee s σ H Q I h;exact Subscript_ (lp F hb I h fun v u s2 x y Y U R L q=>M a b Ee s2 σ Y x y v u Q U R L q (hs _ _))
def mX(K:EQ):R2:=fun x y H Q=>∃p xs i v,x= .ref p∧y= .int i∧fm K H p xs∧atI xs i=some v∧Q v H
def mH(K:EQ):R2:=fun x y H Q=>∃p xs i v,x= .ref p∧y= .int i∧fC K H p xs∧atI xs i=some v∧Q v H
def qHp:R2:=fun x y H Q=>∃z i c,x= .str z∧y= .int i∧z.length≤sizeLine∧atI z.cps.toList i=some c∧Q (.str ⟨#[c]⟩) H
def gS:gV X (mX X.K):=by
 intro F M Ee s σ H x y v u Q I rx ry h hs;obtain⟨p,xs,i,z,rfl,rfl,hq,he,q⟩:=h;cases rx;obtain⟨t,rfl⟩:=ry;obtain⟨Eg,r,pl,hz⟩:=I.list hq;obtain⟨j,Y,h2,h3,h4,h5⟩:=jH he;obtain⟨w,L,U⟩:=r.get h2;have hl:=r.length;have hn:=Zp;have R:EP X Ee σ Q w s:=⟨z,H,I,U,q⟩;by_cases h0:0≤i
 ·have Z:i.toNat=j:=by rw[seqIndex_of h0 h5]at Y;exact Al Y
  exact item_listR pl.isList h0 (by omega) (by rw[Z];simpa using L) R hs
 ·have Z:(i+(Eg.toArray.size:Int)).toNat=j:=by
   rw[seqIndex_neg (by omega) h4]at Y;rw[AR,←hl];exact Al Y
  exact subscriptTail_builtinR (x:=w) pl.isList.typeIs slot_list_getitem.lookup
   (wpAny_getItem_list_neg (Q:=fun r s'=>r=w∧EP X Ee σ Q r s') pl.isList (by omega) (by rw[AR] <;> omega) (by omega) (by rw[Z];simpa using L) ⟨rfl,R⟩) hs
def ik:gV X (mH X.K):=by
 intro F M Ee s σ H x y v u Q I U L h hs;obtain⟨p,xs,i,z,rfl,rfl,Z,he,q⟩:=h;cases U;obtain⟨t,rfl⟩:=L;obtain⟨Eg,r,pl,hz⟩:=I.tuple Z;obtain⟨j,h1,h2,h3,h4,h5⟩:=jH he;obtain⟨w,ew,Y⟩:=r.get h2;have hl:=r.length;have hn:=Zp;have R:EP X Ee σ Q w s:=⟨z,H,I,Y,q⟩;exact subscriptTail_builtinR (x:=w) pl.typeIs slot_tuple_getitem.lookup
  (getItem_tuple (j:=j) (Q:=fun r s'=>r=w∧EP X Ee σ Q r s') pl (by omega) (by omega) (by rw[AR,←hl];exact h1) (by simpa using ew) ⟨rfl,R⟩) hs
def xC:gV X qHp:=by
 intro F M Ee s σ H x y v u Q I R L h hs;obtain⟨z,i,c,rfl,rfl,hz,U,q⟩:=h;obtain⟨t,rfl⟩:=R;obtain⟨t',rfl⟩:=L;obtain⟨j,Y,Z,h3,h4,h5⟩:=jH U;have hl:z.cps.toList.length=z.length:=by simp[Str.length]
 rw[hl]at Y h4 h5;have hn:=Zp;exact tail_any (typeIs_str s z t) slot_str_getitem.lookup (getItem_str (c:=c) (by
  have e1:decide (i < -(2 ^ 63:Int))=false:=Ak (by omega);have e2:decide (i≥2 ^ 63)=false:=Ak (by omega);rw[e1,e2,Bool.or_false]) (by rw[Y];simpa using Z) ⟨.str ⟨#[c]⟩,H,I.tok _,⟨_,rfl⟩,q⟩) hs
def DU(K:EQ):R2:=fun x y H Q=>mX K x y H Q∨mH K x y H Q∨qHp x y H Q
def vK:gV X (DU X.K):=gS.or (ik.or xC)
def xO(Eg:EK EL)(n j:Nat)(u:EL):Obj.mapSeq (·.setIfInBounds j u) { cls:=.type "list",data:=.seq Eg.toArray n }={ cls:=.type "list",data:=.seq (Eg.set j u).toArray n }:=by simp[Obj.mapSeq]
def Inv.lst{Ee:EK (EN×Obj)}{σ:St}{H:Hp}{s:EM}{p:EN}{xs:EK V}(I:Inv X Ee σ H s)(h:H p=some (.lst xs)) :
  ∃(Eg:EK EL) (n:Nat),ei xs Eg∧s.heap.get? p=some { cls:=.type "list",data:=.seq Eg.toArray n }∧xs.length≤sizeLine:=by obtain⟨z,Eg,n,r,e⟩:=I.hok p _ h;exact⟨Eg,n,r,e,z⟩
def Inv.lstUpd{Ee:EK (EN×Obj)}{σ:St}{H:Hp}{s:EM}{p:EN}{xs M:EK V}{Eg Ex:EK EL}{n U:Nat}{f:Obj->Obj}(I:Inv X Ee σ H s)(h:H p=some (.lst xs))
  (Z:s.heap.get? p=some { cls:=.type "list",data:=.seq Eg.toArray n }) (F:f { cls:=.type "list",data:=.seq Eg.toArray n }={ cls:=.type "list",data:=.seq Ex.toArray U }) (r:ei M Ex) (R:M.length≤sizeLine) (t:Nat) :
  Inv X Ee σ (eN H p (.lst M)) { s with heap:=s.heap.update p f,toks:=t }:=by
 have e:(s.heap.update p f).get? p=some { cls:=.type "list",data:=.seq Ex.toArray U }:=by rw[Az f Z (by rw[F] <;> rfl),F]
 refine I.write (x:=p) (e:=p) (by rw[h];trivial) (.inl rfl) (fun b u hb q=>(AY _ _ (Ne.symm hb)).trans q) ⟨_,e⟩ ?_;exact⟨R,Ex,U,r,e⟩
def qFg:V->V->V->Hp->(Hp->Prop)->Prop:=fun o i v H Q=>∃p xs k j,o= .ref p∧i= .int k∧H p=some (.lst xs)∧ixN xs.length k=some j∧Q (eN H p (.lst (xs.set j v)))
def rz:mK X qFg:=by
 intro Ee s σ H o i v ov iv u Q I ro ri rv h;obtain⟨p,xs,k,j,rfl,rfl,L,hj,q⟩:=h;cases ro;obtain⟨t,rfl⟩:=ri;obtain⟨Eg,n,r,Z,hz⟩:=I.lst L;obtain⟨Y,h2,F,M⟩:=lW hj;have hl:=r.length;have hn:=Zp;have U:Inv X Ee σ (eN H p (.lst (xs.set j v))) { s with heap:=s.heap.update p (Obj.mapSeq (·.setIfInBounds j u)) } :=
  I.lstUpd L Z (xO Eg n j u) (r.set rv j) (by rw[List.length_set];exact hz) s.toks
 by_cases h0:0≤k
 ·have R:k.toNat=j:=by rw[seqIndex_of h0 M]at Y;exact Al Y
  exact W.ki_setAt Z h0 (by omega) (by rw[AR,←hl];exact M) (by rw[R];exact⟨_,U,q⟩)
 ·have R:(k+(Eg.toArray.size:Int)).toNat=j:=by
   rw[seqIndex_neg (by omega) F]at Y;rw[AR,←hl];exact Al Y
  exact W.ki_setBack Z (by omega) (by rw[AR,←hl];exact F) (by omega) (by rw[R];exact⟨_,U,q⟩)
def jE:W5 X (.builtin "len") (fun xs H Q=>∃p M,xs=[.ref p]∧(fm X.K H p M∨fC X.K H p M)∧Q (.int M.length) H):=by
 intro Ee s σ H xs us Q I r h;obtain⟨p,M,rfl,hq,q⟩:=h;obtain⟨u,rfl,R⟩:=yb r;cases R;have Y:=Zp;rcases hq with hq|hq
 ·obtain⟨Eg,U,pl,Z⟩:=I.list hq;have F:=U.length;exact Calls.call_len_list pl.isList (by simp only[AR] <;> omega) ⟨.int M.length,H,I.tok _,⟨s.toks+1,by rw[AR,F]⟩,q⟩
 ·obtain⟨Eg,U,pl,Z⟩:=I.tuple hq;have F:=U.length;exact len_tuple pl (by simp only[AR] <;> omega) ⟨.int M.length,H,I.tok _,⟨s.toks+1,by rw[AR,F]⟩,q⟩
def ju:W5 X (.type "list") (fun xs H Q=>∃p M,xs=[.ref p]∧(fm X.K H p M∨fC X.K H p M)∧∀l,H l=none->Q (.ref l) (eN H l (.lst M))):=by
 intro Ee s σ H xs us Q I r h;obtain⟨p,M,rfl,hq,q⟩:=h;obtain⟨u,rfl,rx⟩:=yb r;cases rx;have R:∀(Eg:EK EL),ei M Eg->M.length≤sizeLine->∀(h':Heap) (F:Nat),(∀b o',s.heap.get? b=some o'->h'.get? b=some o') ->
   h'.get? s.heap.objs.size=some { cls:=.type "list",dict:=none,data:=.seq Eg.toArray F,slots := #[] }->EP X Ee σ Q (.ref s.heap.objs.size) { s with heap:=h' }:=fun Eg U Z h' F kp e =>
  ⟨.ref s.heap.objs.size,_,I.laid (t':=s.toks) kp (AN _) (show eT X.prog X.w _ h' _ (.lst M) from⟨Z,Eg,F,U,e⟩),rfl,q _ (I.hok.fresh (AN _))⟩
 rcases hq with hq|hq
 ·obtain⟨Eg,U,pl,Z⟩:=I.list hq;have Y:=U.length;obtain⟨o,L,hc,n,hd⟩:=pl.isList;exact call_list_seq p (.inl rfl) L hc hd (fun h' F kp e=>R Eg U Z h' F kp e) (by simp only[AR] <;> omega)
 ·obtain⟨Eg,U,pl,Z⟩:=I.tuple hq;have Y:=U.length;obtain⟨o,L,hc,n,hd⟩:=pl;exact call_list_seq p (.inr rfl) L hc hd (fun h' F kp e=>R Eg U Z h' F kp e) (by simp only[AR] <;> omega)
def YX:W5 X (.type "tuple") (fun xs H Q=>∃p M,xs=[.ref p]∧((fm X.K H p M∧∀l,H l=none->Q (.ref l) (eN H l (.tup M)))∨(fC X.K H p M∧Q (.ref p) H))):=by
 intro Ee s σ H xs us Q I r h;obtain⟨p,M,rfl,h⟩:=h;obtain⟨u,rfl,Y⟩:=yb r;cases Y;rcases h with⟨Z,q⟩|⟨Z,q⟩
 ·obtain⟨Eg,U,pl,R⟩:=I.list Z;have F:=U.length;refine call_tuple_list pl.isList (fun h' kp=>?_) (by simp only[AR] <;> omega);have L:Inv X Ee σ H { s with heap:=h' }:=I.kept (t':=s.toks) kp;have I2:Inv X Ee σ (eN H h'.objs.size (.tup M)) { s with heap:=h'.push { cls:=.type "tuple",data:=.seq Eg.toArray } } :=
   L.laid (t':=s.toks) (fun b o e=>AD _ e) (AN _) (show eT X.prog X.w _ _ _ (.tup M) from⟨R,Eg,U,IsTup.new _ _,_,AQ _ rfl,rfl⟩)
  exact⟨.ref h'.objs.size,_,I2,rfl,q _ (L.hok.fresh (AN _))⟩
 ·obtain⟨Eg,U,pl,R⟩:=I.tuple Z;exact call_tuple_same pl ⟨.ref p,H,I,rfl,q⟩
def lm(K:EQ)(T:String)(x:V)(H:Hp):Prop:=match x with
 | .str _=>T = "str"
 | .int _=>T = "int"
 | .ref p=>(T = "list" ∧∃xs,fm K H p xs)∨(T = "tuple" ∧∃o,K.lookup p=some o∧o.cls= .type "tuple" ∧o.dict=none) ∨
   (T = "dict" ∧((∃En,H p=some (.dK En))∨∃En,H p=some (.dT En)))∨(T = "set" ∧∃S n,H p=some (.set S n))
 |_=>False
def vd{Ee:EK (EN×Obj)}{σ:St}{H:Hp}{s:EM}{T:String}{x:V}{v:EL}(I:Inv X Ee σ H s)(r:RelV x v)(ty:lm X.K T x H) :
  s.TypeIs v T∧∀a,v= .ref a->∃Y,s.heap.get? a=some Y∧Y.dict=none:=by
 cases x with
 |str z=>obtain⟨t,rfl⟩:=r;cases (show T = "str" from ty);exact⟨typeIs_str s z t,fun _ e=>nomatch e⟩
 |int i=>obtain⟨t,rfl⟩:=r;cases (show T = "int" from ty);exact⟨typeIs_int s i t,fun _ e=>nomatch e⟩
 |ref p =>
  cases r;rcases ty with⟨rfl,xs,Z⟩|⟨rfl,o,R,U,hd⟩|⟨rfl,R⟩|⟨rfl,S,n,R⟩
  ·obtain⟨Eg,_,pl,_⟩:=I.list Z;refine⟨pl.isList.typeIs,fun a e=>?_⟩;cases e;obtain⟨o,n,e,c,hd,_⟩:=pl;exact⟨o,e,hd⟩
  ·refine⟨⟨o,I.kIn p o R,U⟩,fun a e=>?_⟩;cases e;exact⟨o,I.kIn _ o R,hd⟩
  ·have z:∃o,s.heap.get? p=some o∧o.ExactDict:=by
    rcases R with⟨En,R⟩|⟨En,R⟩
    ·obtain⟨_,_,_,_,o,_,_,e,ex,_⟩:=I.hok p _ R;exact⟨o,e,ex⟩
    ·obtain⟨_,_,_,_,o,_,_,e,ex,_⟩:=I.hok p _ R;exact⟨o,e,ex⟩
   obtain⟨o,e,ex⟩:=z;refine⟨⟨o,e,ex.1⟩,fun a F=>?_⟩;cases F;exact⟨o,e,ex.2.1⟩
  ·obtain⟨o,_,_,_,e,ex,_⟩:=I.hok p _ R;refine⟨⟨o,e,ex.1⟩,fun a F=>?_⟩;cases F;exact⟨o,e,ex.2.1⟩
 |_=>exact False.elim ty
def tG(K:EQ)(T:String)(r:V->EK V->Hp->VK->Prop)(to:TE)(t:TA):TE:=fun σ H Q=>to σ H fun x H1=>lm K T x H1∧t σ H1 fun xs Y=>r x xs Y Q
variable{o e:EY}{es:EK EY}{to:TE}{t:TA}{name:Str}{EB Eu:Pos}{T id:String}{r:V->EK V->Hp->VK->Prop}
def ng(pa:PlainAttrs T)(slot:Slot T name id)(F:typeOf (.builtin id)=pure (.type "method_descriptor"))(hm:uS X id r)(ho:PE X o to)(ha:PA X (e::es) t)
  (Z:attributeBase o name X.env (eval o X.env)=eval o X.env:=by rfl)
  (R:((backTo Eu (starEach (e::es) X.env)).all (fun x=> !x.1)&&(backToKw Eu (keywordEach [] X.env)).all (fun x=>x.1.isSome)
   && decide ((e::es).length+([]:EK Keyword).length+(if ([]:EK Keyword).isEmpty then 0 else 1)<30))=true:=by rfl)
  (M:(EB.endLine==Eu.line)=true:=by rfl) (hs:starEach (e::es) X.env=(false,eval e X.env)::starEach es X.env:=by rfl) (q:(backTo Eu (starEach es X.env)).any (·.1)=false:=by rfl) :
  PE X (.Call (.Attribute o name EB) (e::es) [] Eu) (tG X.K T r to t):=by
 intro Ee s σ H Q I h;refine wpAny_Call_method_late Z R M rfl (eK (ho Ee s σ H _ I h) fun v s1 ⟨x,H1,L,Y,ty,q1⟩=>?_);obtain⟨h1,h2⟩:=vd L Y ty;refine⟨T,id,pa,slot,F,h1,h2,?_⟩;have U:=ha Eu Ee s1 σ H1 _ L q1;rw[hs]at U ⊢;refine Calls.callWith_builtin (by show (false||(backTo Eu (starEach es X.env)).any (·.1))=false;rw[q] <;> rfl) (Calls.evalArgs_plain ?_);exact eK U fun us s2 ⟨vs,H2,I2,r2,q2⟩=>hm Ee s2 σ H2 x vs v us Q I2 Y r2 q2
end
end L2
namespace L2
open PySem PySem.Spec PyProof.Rows
def oz(X:Cx)(id:String)(r:V->EK V->Hp->VK->Prop):Prop :=
 ∀(Ee:EK (EN×Obj)) (s:EM) (σ:St) (H:Hp) (x:V) (xs:EK V) (v:EL) (us:EK EL) (Q:VK),Inv X Ee σ H s->RelV x v->ei xs us->r x xs H Q ->
  wpAny (model X.prog X.w) X.A (call (.builtin id) (v::us)) (EP X Ee σ Q) X.xe s
def ei.one:∀{x:V} {us:EK EL},ei [x] us->∃u,us=[u]∧RelV x u|_,_,.cons r .nil=>⟨_,rfl,r⟩
section
variable{X:Cx}{Ee:EK (EN×Obj)}{σ:St}{H:Hp}{s:EM}{l b:EN}{xs ys zs:EK V}
def Inv.lset{Eg Ex:EK EL}{n:Nat}{f:EZ EL->EZ EL}{t':Nat}(I:Inv X Ee σ H s)(L:H l=some (.lst xs))
  (e:s.heap.get? l=some { cls:=.type "list",data:=.seq Eg.toArray n }) (F:f Eg.toArray=Ex.toArray) (M:ei ys Ex) (Z:ys.length≤sizeLine) :
  Inv X Ee σ (eN H l (.lst ys)) { s with heap:=s.heap.update l (Obj.mapSeq f),toks:=t' }:=by
 have q:=PySem.IsL.update e f;rw[F]at q;refine I.write (x:=l) (e:=l) (by rw[L];exact trivial) (.inl rfl) (fun b' u hb U=>(AY s.heap (Obj.mapSeq f) (Ne.symm hb)).trans U) ⟨_,q⟩ ?_;exact⟨Z,Ex,_,M,q⟩
def Inv.lnew{Eg:EK EL}{t':Nat}(I:Inv X Ee σ H s)(L:ei ys Eg)(Z:ys.length≤sizeLine) :
  Inv X Ee σ (eN H s.heap.objs.size (.lst ys)) { s with heap:=s.heap.push { cls:=.type "list",data:=.seq Eg.toArray },toks:=t' } :=
 I.laid (fun _ _ q=>AD _ q) (AN _) ⟨Z,Eg,0,L,AQ _ rfl⟩
def Inv.fresh(I:Inv X Ee σ H s):H s.heap.objs.size=none:=I.hok.fresh (AN _)
def Inv.lstM(I:Inv X Ee σ H s)(L:H l=some (.lst xs)):xs.length≤sizeLine∧∃(Eg:EK EL) (n:Nat),ei xs Eg∧xs.length=Eg.length∧s.heap.get? l=some { cls:=.type "list",data:=.seq Eg.toArray n }:=by obtain⟨z,Eg,n,r,e⟩:=I.hok l _ L;exact⟨z,Eg,n,r,r.length,e⟩
end
section
variable{X:Cx}
def qFF:V->EK V->Hp->VK->Prop:=fun x vs H Q=>∃l xs y,x= .ref l∧vs=[y]∧H l=some (.lst xs)∧xs.length<sizeLine∧Q .non (eN H l (.lst (xs++[y])))
theorem Yp:oz X "list.append" qFF:=by
 intro Ee s σ H x vs v us Q I R Y h;obtain⟨l,xs,y,rfl,rfl,L,Z,q⟩:=h;cases R;obtain⟨u,rfl,M⟩:=Y.one;obtain⟨z,Eg,n,r,hl,e⟩:=I.lstM L;refine call_meets F.slot_list_append ⟨_,e,rfl⟩ F.entry_list_append (F.args_list_append_2 _ _) (PySem.list_append l Eg.toArray n u (by rw[AR];omega)) ⟨e,?_⟩;refine⟨.non,_,I.lset (Ex:=Eg++[u]) L e (by simp) (r.append (.cons M .nil)) ?_,rfl,q⟩;rw[Ac,Ck];omega
end
end L2
namespace EF
open PySem PySem.W PySem.Calls PyProof.Rows
def yP{P:Params}{h:Heap}:∀(ns:EK Int) (vs:EK EL),WellAll P h vs (ns.map WData.int)->IntsAre vs ns:=by
 intro ns;induction ns with
 |nil=>intro vs w;rw[C2]at w;cases w;exact .nil
 |cons n ns I =>
  intro vs w;rw[AU]at w;cases w with|cons a b=>cases a;exact .cons _ _ (I _ b)
def sF{l:OpenLaw}{n:Nat}(hn:l.most=some n){P:Params}{h:Heap}{args:EK WData}{L:EK EL}
  (R:l.row.toRowW.claim.pre args=true) (U:WellAll P h L args) :
  ∃a vs ns,L=[Value.ref a]∧args=[WData.list (ns.map WData.int)]∧h.get? a=some { cls:=.type "list",data:=.seq vs.toArray }∧IntsAre vs ns∧ns.length≤n:=by
 have Y:WShape.hasAll [] args [.list .int]=true:=(pre_splitW R).1;have hc:l.pre.holds [] { args:=args }=true:=(pre_splitW R).2;obtain⟨d,r,rfl,h1,h2⟩:=hasAllW_cons Y;obtain rfl:=hasAllW_nil h2;obtain⟨xs,rfl,h3⟩:=hasW_list h1;obtain⟨ns,rfl⟩:=items_int h3;have F:ns.length≤n:=by
  unfold OpenLaw.pre at hc;have I:(WTm.not (.lt (.lit (.int (n:Int))) (.len (.arg 0)))).holds [] { args:=[.list (ns.map .int)] }=true:=by have I:=(holds_andW hc).1;rw[hn]at I;exact I
  have Z:=condW_of I (w_not (w_lt w_lit (w_len_list (w_arg rfl))));rw[AG]at Z;refine Nat.le_of_not_lt fun q=>?_;have q':(n:Int)<((ns.length:Nat):Int):=by omega
  first
   |(rw[Af q']at Z;exact absurd Z (by decide))
   |(simp at Z;omega)
 cases U with
 |cons w1 w2 =>
  cases w2;cases w1 with|list ho M=>exact⟨_,_,ns,rfl,rfl,ho,yP ns _ M,F⟩
def sS(l:OpenLaw)(args:EK WData):l.row.toRowW.claim.post args (.bool true) args=true :=
 postW_of (r:=l.row.toRowW) (X:=(true==true))
  (show WShape.has [] (.bool true) .bool=true by first|rfl|decide|simp[WShape.has,WShape.arms,WShape.armsAll])
  (show (WTm.eq .res (.lit (.bool true))).value [] { args:=args,res:=some (.bool true),after:=args }=some (.bool (true==true)) from w_eq_bool (w_res rfl) w_lit) rfl
end EF
namespace L2
open PySem PySem.Spec PyProof.Rows
def Yx:∀{vs:EK EL} {ns:EK Int},IntsAre vs ns->ei (ns.map V.int) vs|_,_,.nil=>.nil|_,_,.cons n t h=>.cons ⟨t,rfl⟩ (Yx h)
def lf(H:Hp):Prop:=∀b,H b=none∨∃o xs,H b=some (.frz o (.lst xs))
def sK{P:ER}{w:EU}{K:EQ}{mg mb:Str->EO EL}{CX:CXT}{k:Nat}{fa a:EN}{fd:FuncData}{x:Str}{sp:Sp}{L:EM}{vs:EK EL}{ns:EK Int}
  (KX:K.In L.heap) (U:L.heap.Ns mainGlobals mg) (hb:L.heap.Ns builtinsNs mb) (a3:∀x:Str,x ≠ "__name__" ->mb x=bootBuiltins x) (Z:L.heap.NoLimit) (hg:L.gens = #[])
  (ha:L.heap.get? a=some { cls:=.type "list",data:=.seq vs.toArray }) (hi:IntsAre vs ns) (hl:ns.length≤sizeLine) (hr:eW k callerA)
  (F:∀base:Heap,K.In base->base.Ns mainGlobals mg->fM P w K mg base CX k fa fd [x] sp) (R:∀(s:EM) (u:EL),BindsTo s fd ⟨[u],[]⟩ [(x,u)])
  (a4:∀H:Hp,lf H->fm K H a (ns.map V.int)->sp [.ref a] H (fun v _=>v= .bl true) fun _ _ _=>False)
  (a5:∀H e s',CX [] H L (fun _ _ _=>False) e s'->False) :
  codeAny (model P w) callerA (.call (.ref fa) ⟨[.ref a],[]⟩) (fun r s'=>r= .ok (.ret (.bool true))∧OldK L.heap s'.heap∧s'.os=L.os∧AllBare s'.gens) L:=by
 have rv:=Yx hi;have a0:=hi.length
 -- from an abstract heap in which nothing but the script may be tracked
 have Y:∀H:Hp,lf H->fm K H a (ns.map V.int)->fR P w H L.heap->(∀b,H b≠none->b=a)->(H a≠none->K.lookup a=none) ->
   codeAny (model P w) callerA (.call (.ref fa) ⟨[.ref a],[]⟩) (fun r s'=>r= .ok (.ret (.bool true))∧OldK L.heap s'.heap∧s'.os=L.os∧AllBare s'.gens) L:=by
  intro H hO hS hok hA hK;have M:∀{b:EN} {o:Obj},L.heap.get? b=some o->H b=none->(jJ L.heap H).get? b=some o:=fun e n=>Dc e n;have a6:∀{b:EN} {o:Obj} {es:EZ DictEntry} {ep:Nat},L.heap.get? b=some o->o.data= .dict es ep->H b=none:=fun {b o es ep} e d=>by
   cases q:H b with
   |none=>rfl
   |some u =>
    have e':b=a:=hA b (by rw[q];simp);subst e';rw[ha]at e;cases e;have d':Data.seq vs.toArray _=Data.dict es ep:=d;cases d'
  have I:∀{b:EN} {m:Str->EO EL},L.heap.Ns b m->(jJ L.heap H).Ns b m:=fun {b m} ⟨o,es,ep,e,d,r⟩=>⟨o,es,ep,M e (a6 e d),d,r⟩;have a1:K.In (jJ L.heap H):=fun b o e=>M (KX b o e) (by
   cases q:H b with
   |none=>rfl
   |some u =>
    have e':b=a:=hA b (by rw[q];simp);subst e';rw[hK (by rw[q];simp)]at e;cases e)
  have hM:Mod K mg (jJ L.heap H):=⟨a1,I U,⟨mb,I hb,a3⟩,let ⟨mc,h1,h2⟩:=Z;⟨mc,I h1,h2⟩⟩;have e0:gT P w K mg (jJ L.heap H) callerA [] L H:=⟨rfl,hM,fun b o e=>Dm e,Nat.le_of_eq (DX _ _),trivial,fun b hb=>absurd (show b∈([]:EK EN) from hb) (by simp),hok,.of_eq hg,gA.none rfl⟩;refine codeAny_mono ((F _ a1 (I U)).run callerA [] L H ⟨[.ref a],[]⟩ [.ref a] [.ref a] _ _ hr e0 (R L (.ref a)) (.cons rfl .nil) (a4 H hO hS)) fun r s' h=>?_;cases r with
  |error e=>exact (a5 H e s' h).elim
  |ok fl =>
   cases fl with
   |next=>exact False.elim h
   |brk=>exact False.elim h
   |cont=>exact False.elim h
   |ret u =>
    obtain⟨v,H',os,bare,un,a2,r',q⟩:=h;have q':v= .bl true:=q;subst q';obtain rfl:u=Value.bool true:=r';refine⟨rfl,OldK.of_keep fun b o e=>?_,os,bare⟩;cases q:H b with
    |none=>exact un.keep b o e q (by intro z;exact absurd (show b∈([]:EK EN) from z) (by simp)) (by simp)
    |some u =>
     rcases hO b with z|⟨ob,xs,z⟩
     ·rw[q]at z;cases z
     ·have z2:=un.frzs b ob _ z;obtain⟨e1,_⟩:=hok b _ z;obtain⟨e2,_⟩:=a2 b _ z2;rw[e]at e1;cases e1;exact e2
 cases hk:K.lookup a with
 |some o =>
  -- the script is one of the module's own objects
  have e:=KX a o hk;rw[ha]at e;cases e;refine Y (fun _=>none) (fun _=>.inl rfl) (.inr ⟨_,vs.toArray,_,hk,rfl,rfl,rfl,by rw[AR,a0];exact hl,by simpa using rv⟩) (fun b u z=>by have z':(none:EO HO)=some u:=z;cases z') (fun b z=>absurd rfl z) fun z=>absurd rfl z
 |none =>
  refine Y (fun b=>if b=a then some (.frz { cls:=.type "list",data:=.seq vs.toArray } (.lst (ns.map V.int))) else none) (fun b=>?_) (.inl (.inr ⟨{ cls:=.type "list",data:=.seq vs.toArray },AC rfl⟩)) (fun b u z=>?_) (fun b z=>?_) fun _=>hk
  ·by_cases hb:b=a;exact .inr ⟨_,_,AC hb⟩;exact .inl (AF hb)
  ·by_cases hb:b=a;have z':=(AC hb).symm.trans z;cases z';subst hb;exact⟨ha,by rw[AG];exact hl,vs,_,rv,ha⟩;have z':=(AF hb).symm.trans z;cases z'
  ·by_cases hb:b=a;exact hb;exact absurd (AF hb) z
end L2
namespace L2
open PySem PySem.Spec PyProof.Rows
end L2
namespace L2
open PySem PySem.Spec PyProof.Rows
def ql(s:Stmt):Arguments:=match s with| .FunctionDef _ a _ _ _ _ _ _ _ _=>a|_=>{ posonlyargs:=[],args:=[],vararg:=none,kwonlyargs:=[],kw_defaults:=[],kwarg:=none,defaults:=[] }
def qi(s:Stmt):EK Stmt:=match s with| .FunctionDef _ _ b _ _ _ _ _ _ _=>b|_=>[]
def qJ(s:Stmt):Scope:=match s with| .FunctionDef _ _ _ _ _ _ sc _ _ _=>sc|_=>{ kind:=.function,names:=[],isGenerator:=false,isCoroutine:=false }
abbrev E0:XK:=fun _ _ _=>False
structure fI (K:W.Frag) (x qual:Str) (st:Stmt) (f:Addr) (fd:FuncData):Prop where
 ex:∃(oc:Value) (od:Option Addr) (kV Ey pm:Value) (an:Option Addr) (Em ct:Value) (Ez:Array (Option Value)),
  fd=W.fnOf x qual (ql st) (qi st) (qJ st) .none kV Ey pm an Em ct∧K.lookup f=some ⟨oc,od,.func fd,Ez⟩∧W.codeIn K Em qual=true
 kp:W.keepIn K (.ref f)=true
section
variable{P:ER}{w:EU}{K:EQ}{mg:Str->EO EL}{base:Heap}
def fI.binds{x qual:Str}{st:Stmt}{f:EN}{fd:FuncData}{ps:EK Str}(F:fI K x qual st f fd)
  (h:∀(kV Ey pm:EL) (an:EO EN) (Em ct:EL) (us:EK EL),us.length=ps.length->bindArgs (W.fnOf x qual (ql st) (qi st) (qJ st) .none kV Ey pm an Em ct) ⟨us,[]⟩=pure (ps.zip us)):Binds K fd ps []:=by obtain⟨oc,od,kV,Ey,pm,an,Em,ct,Ez,rfl,lk,U⟩:=F.ex;exact .all (h kV Ey pm an Em ct)
def QO{x qual:Str}{st:Stmt}{f:EN}{oc:EL}{od an:EO EN}{Ez:EZ (EO EL)}{kV Ey pm Em ct:EL}(l:K.lookup f=some ⟨oc,od,.func (W.fnOf x qual (ql st) (qi st) (qJ st) .none kV Ey pm an Em ct),Ez⟩)
  (c:W.codeIn K Em qual=true) (k:W.keepIn K (.ref f)=true):fI K x qual st f (W.fnOf x qual (ql st) (qi st) (qJ st) .none kV Ey pm an Em ct):=⟨⟨oc,od,kV,Ey,pm,an,Em,ct,Ez,rfl,l,c⟩,k⟩
end
section
variable{X:Cx}
def pv(i:Nat){x:Str}{pos:Pos}(Z:X.N[i]? = some x:=by rfl)(L:iz X.env.scope x:=by first|exact Or.inl rfl|exact Or.inr (Or.inl rfl)|exact Or.inr (Or.inr rfl))(hd:(x==("__debug__":Str))=false:=by decide)
  (U:(x==("__classdict__":Str))=false:=by decide):PE X (.Name x pos) (kW i):=sO Z L hd U
end
def i8{A B:Prop}(h:B):if false=true then A else B:=by rw[AF Bc];exact h
def iP{A B:Prop}(h:A):if true=true then A else B:=by rw[AC rfl];exact h
def gq(H H':Hp):Prop:=∀b o,H b=some o->H' b=some o
def gq.refl(H:Hp):gq H H:=fun _ _ h=>h
end L2
end
section
namespace L2
open PySem PySem.Spec PyProof.Rows
end L2
namespace L2
open PySem PySem.Spec PyProof.Rows
end L2
end
section
namespace EX
open PySem PySem.Spec PyProof.Rows
def rb(h B:Heap)(e:EN)(cls:EL)(dd:EO EN)(U:EL):Prop :=
 ∃I vs T R ts,h.get? e=some I∧I.cls=cls∧I.dict=dd∧I.data= .fields vs∧vs[1]? = some (Value.ref T)∧vs[2]? = some Value.none∧B.get? T=none∧T≠e∧h.get? T=some R∧R.data= .fields ts∧ts[3]? = some U
def gv(B:Heap)(l:EK Env)(e:EN)(cls:EL)(dd:EO EN)(U:EL)(h:Heap):Prop:=B.StaysIn h∧B.get? e=none∧h.FunFrames B l∧rb h B e cls dd U
def gv.tail{B h:Heap}{env:Env}{l:EK Env}{e:EN}{cls U:EL}{dd:EO EN}(x:gv B (env::l) e cls dd U h):gv B l e cls dd U h:=⟨x.1,x.2.1,x.2.2.1.2.2,x.2.2.2⟩
section
variable{M:Model}{A:EW}{E:EL->EM->Prop}{s:EM}{B:Heap}{env:Env}{outer:EK Env}{L e:EN}{cls:EL}{dd:EO EN}{Q:Unit->EM->Prop}
def JH{oe:Obj}{vs:EZ EL}{I:EL}{nx:Bool}(f1:A.frames=some (env::outer))(Z:s.heap.FunFrames B (env::outer))(f3:env.frame=some L)(k1:B.StaysIn s.heap)(k2:B.get? e=none)
  (g1:s.heap.get? e=some oe) (F:oe.data= .fields vs) (g3:1<vs.size) (g4:vs[2]? = some Value.none) (h:∀h',gv B (env::outer) e oe.cls oe.dict (rawInt L) h'->s.heap.UpToSlots h'->Q () { s with heap:=h' }) :
  wpAny M A (do let a ← frameOf env;let pl ← entryPlaceOf L nx;let b ← EntryCells.newEntry I a .none (rawInt L) .none pl;setField (.ref e) 1 b) Q E s:=by
 have a0:e∉(env::outer).filterMap (·.frame):=fun hm=>by obtain⟨_,o,ho,a5⟩:=Z.mem hm;rw[g1]at ho;cases ho;exact a5 vs F
 refine AA (wpAny_frameOf_fun f1 Z f3 fun Y so=>AA (wpAny_entryPlaceOf fun pl U=>?_));unfold EntryCells.newEntry newFields;refine AA (BO ?_ (U.sizeOk5 _ _ _ _ _));generalize a6:([I,Value.ref L,.none,rawInt L,.none]++(if pl.isEmpty then List.replicate 6 Value.none else pl)).toArray=ts;have a7:ts[3]? = some (rawInt L):=by rw[←a6];first|(simp;done)|(rcases U with rfl|⟨_,_,_,_,_,_,_,rfl⟩ <;> simp)
 have a1:Y.get? e=some oe:=(so.2.1 e a0).trans g1;have kb:B.StaysIn Y:=fun b o q=>(so.2.1 b fun hm=>by rw[(Z.mem hm).1]at q;cases q).trans (k1 b o q);have a2:=AD (h:=Y) { cls:=.type "traceback",dict:=none,data:=.fields ts } a1;refine BZ a2 F g3 (h _ ?_ ?_)
 ·have R:Y.objs.size≠e:=Cj (AK a1);have d3:=BC F (·.setIfInBounds 1 (Value.ref Y.objs.size));have a3:=Az (Obj.mapFields (·.setIfInBounds 1 (Value.ref Y.objs.size))) a2 (Bw d3);have a4:=(AY (Y.push { cls:=.type "traceback",dict:=none,data:=.fields ts }) (Obj.mapFields (·.setIfInBounds 1 (Value.ref Y.objs.size))) (Ne.symm R)).trans (AQ Y rfl);have kp:∀b o,b≠e->Y.get? b=some o->((Y.push { cls:=.type "traceback",dict:=none,data:=.fields ts }).update e (Obj.mapFields (·.setIfInBounds 1 (Value.ref Y.objs.size)))).get? b=some o:=fun b o hb q =>
   (AY _ _ (Ne.symm hb)).trans (AD _ q)
  refine⟨fun b o q=>kp b o (fun z=>by rw[z,k2]at q;cases q) (kb b o q),k2,Z.of_keeps fun b o q nf=>?_,_,_,Y.objs.size,_,ts,a3,Cg _ _,?_,d3,?_,?_,kb.fresh,R,a4,rfl,a7⟩;obtain⟨sl,q2⟩:=so.2.2 b o q;exact⟨_,kp b _ (fun z=>by rw[z,g1]at q;cases q;exact nf vs F) q2,rfl⟩;obtain⟨c,d,dt,sl⟩:=oe;have F:dt= .fields vs:=F;subst F;rfl;simp[g3];rw[Array.getElem?_setIfInBounds_ne (by decide)];exact g4
 ·intro b o q nf;have hb:b≠e:=fun z=>by rw[z,g1]at q;cases q;exact nf vs F
  obtain⟨sl,q2⟩:=so.2.2 b o q;exact⟨sl,(AY _ _ (Ne.symm hb)).trans (AD _ q2)⟩
def u7{oe:Obj}{vs:EZ EL}(Z:A.frames=some (env::outer))(I:s.heap.FunFrames B (env::outer))(q:env.frame=some L)(k1:B.StaysIn s.heap)(k2:B.get? e=none)
  (R:s.heap.get? e=some oe) (F:oe.data= .fields vs) (U:vs[1]? = some Value.none) (Y:vs[2]? = some Value.none) (h:∀h',gv B (env::outer) e oe.cls oe.dict (rawInt L) h'->s.heap.UpToSlots h'->Q () { s with heap:=h' }) :
  wpAny M A (noteFrame (.ref e) env) Q E s:=by
 unfold noteFrame;simp only[q];refine AA (Av R F U ?_);rw[AF (show ¬((Value.none != Value.none)=true) by decide)];exact JH Z I q k1 k2 R F (Bu.mp U).1 Y h
def Y6(f1:A.frames=some (env::outer))(I:env.frame=some L)(x:gv B (env::outer) e cls dd .none s.heap)(h:∀h',gv B (env::outer) e cls dd (rawInt L) h'->s.heap.UpToSlots h'->Q () { s with heap:=h' }) :
  wpAny M A (noteFrame (.ref e) env) Q E s:=by
 obtain⟨k1,k2,f2,oe,vs,T,oT,ts,F,rfl,rfl,g2,g3,g4,t1,t2,U,Y,t5⟩:=x;unfold noteFrame;simp only[I];refine AA (Av F g2 g3 ?_);rw[AC (show (Value.ref T != Value.none)=true by simp)];refine AA (Av U Y t5 ?_);rw[AF (show ¬((Value.none==rawInt L)=true) by simp[rawInt])];refine AA (BZ U Y (Bu.mp t5).1 ?_);have R:∀b,b≠T->(s.heap.update T (Obj.mapFields (·.setIfInBounds 3 Value.none))).get? b=s.heap.get? b:=fun b hb=>AY _ _ (Ne.symm hb);have nr:∀b o,s.heap.get? b=some o->(∀us,o.data≠ .fields us)->b≠T:=fun b o q Z z=>by rw[z,U]at q;cases q;exact Z ts Y
 refine JH f1 (f2.of_keeps fun b o q Z=>⟨o,(R b (nr b o q Z)).trans q,rfl⟩) I (fun b o q=>(R b fun z=>by rw[z,t1]at q;cases q).trans (k1 b o q)) k2 ((R e (Ne.symm t2)).trans F) g2 (Bu.mp g3).1 g4 fun h' x u=>h h' x fun b o q Z=>?_;exact u b o ((R b (nr b o q Z)).trans q) Z
def kd{l:EK Env}{fl:EL}(x:gv B l e cls dd fl s.heap)(h:∀h',gv B l e cls dd .none h'->s.heap.UpToSlots h'->Q () { s with heap:=h' }):wpAny M A (setFlight (.ref e) none) Q E s:=by
 obtain⟨k1,k2,f2,oe,vs,T,oT,ts,I,g0,F,L,g3,g4,t1,t2,U,Y,t5⟩:=x;have t6:3<ts.size:=(Bu.mp t5).1;have R:∀b,b≠T->(s.heap.update T (Obj.mapFields (·.setIfInBounds 3 ((none:EO EN).elim Value.none fun f=>rawInt f)))).get? b=s.heap.get? b:=fun b hb=>AY _ _ (Ne.symm hb);have nr:∀b o,s.heap.get? b=some o->(∀us,o.data≠ .fields us)->b≠T:=fun b o q Z z=>by rw[z,U]at q;cases q;exact Z ts Y
 unfold setFlight;refine AA (Av I L g3 ?_);rw[AC (show (Value.ref T != Value.none)=true by simp)];refine BZ U Y t6 (h _ ⟨fun b o q=>(R b fun z=>by rw[z,t1]at q;cases q).trans (k1 b o q),k2,f2.of_keeps fun b o q Z=>⟨o,(R b (nr b o q Z)).trans q,rfl⟩,?_⟩ fun b o q Z=>⟨o.slots,(R b (nr b o q Z)).trans q⟩);exact⟨oe,vs,T,_,_,(R e (Ne.symm t2)).trans I,g0,F,L,g3,g4,t1,t2,Az _ U (Bw (BC Y _)),BC Y _,by simp[t6]⟩
def jn{oe:Obj}{vs:EZ EL}(Z:A.frames=some (env::outer))(F:s.heap.FunFrames B (env::outer))(q:env.frame=some L)(k1:B.StaysIn s.heap)(k2:B.get? e=none)
  (R:s.heap.get? e=some oe) (U:oe.data= .fields vs) (I:vs[1]? = some Value.none) (Y:vs[2]? = some Value.none) (h:∀h',gv B outer e oe.cls oe.dict .none h'->s.heap.UpToSlots h'->Q () { s with heap:=h' }) :
  wpAny M A (leaving env (.ref e)) Q E s:=by unfold leaving;exact AA (u7 Z F q k1 k2 R U I Y fun h1 x1 u1=>kd x1 fun h2 x2 u2=>h h2 x2.tail (u1.trans u2))
def JI(Z:A.frames=some (env::outer))(q:env.frame=some L)(x:gv B (env::outer) e cls dd .none s.heap)(h:∀h',gv B outer e cls dd .none h'->s.heap.UpToSlots h'->Q () { s with heap:=h' }) :
  wpAny M A (leaving env (.ref e)) Q E s:=by unfold leaving;exact AA (Y6 Z q x fun h1 U R=>kd U fun Y I F=>h Y I.tail (R.trans F))
end
end EX
end
section
namespace EX
open PySem PySem.Spec PyProof.Rows L2
structure lA (fs:List Addr) (H H1:Hp) (h B:Heap):Prop where
 keep:∀b o,h.get? b=some o->H b=none->b∉fs->B.get? b=some o
 free:∀b o,h.get? b=some o->H b=none->H1 b=none
 there:∀b o,h.get? b=some o->b∉fs->∃o',B.get? b=some o'
 tups:∀b xs,H b=some (.tup xs)->H1 b=some (.tup xs)
 frzs:∀b o u,H b=some (.frz o u)->H1 b=some (.frz o u)
 tbls:∀b ps,H b=some (.tbl ps)->∃more,H1 b=some (.tbl (ps++more))
def fu(P:ER)(w:EU):CXT:=fun outer H s E e L =>
 ∃F cls dd B H1,e=Value.ref F∧gv B outer F cls dd .none L.heap∧fR P w H1 B∧L.os=s.os∧AllBare L.gens∧lA (fx outer) H H1 s.heap B ∧
  (∀b∈fx outer,∀o,s.heap.get? b=some o->∃sl,L.heap.get? b=some { o with slots:=sl })∧E cls dd H1
def J6{env:Env}{outer:EK Env}{L:EN}(h:env.frame=some L):fx (env::outer)=L::fx outer:=by unfold fx;rw[Bp,h]
def fu.un{P:ER}{w:EU}{outer:EK Env}{H H1:Hp}{s s':EM}{B:Heap}(hs:B.StaysIn s'.heap)(un:lA (fx outer) H H1 s.heap B)(sl:∀b∈fx outer,∀o,s.heap.get? b=some o->∃sl,s'.heap.get? b=some { o with slots:=sl }) :
  Un (fx outer) [] H H1 s.heap s'.heap where
 keep:=fun b o e n hb _=>hs b o (un.keep b o e n hb)
 slot:=fun b o e n hb _=>sl b hb o e
 free:=fun b o e n _=>un.free b o e n
 there:=fun b o e _=>by
  by_cases hb:b∈fx outer;obtain⟨x,q⟩:=sl b hb o e;exact⟨_,q⟩;obtain⟨o',q⟩:=un.there b o e hb;exact⟨o',hs b o' q⟩
 tups:=un.tups
 frzs:=un.frzs
 tbls:=un.tbls
section
variable{P:ER}{w:EU}{K:EQ}{mg:Str->EO EL}{base:Heap}{N:EK Str}{qual:Str}{scope:Scope}{f:EN}{cd:EL}{A:EW}{outer:EK Env}{s₀:EM}{H₀:Hp}{E:XK}
def qy:Ws (fu P w) (wV (fu P w) P w K mg base N qual scope f cd A outer s₀ H₀ E) E:=by
 intro Ee σ H s e s' I c;obtain⟨ea,cls,dd,B,H1,rfl,fl,hok,os,bare,un,sl,q⟩:=c;have R:(envOfC qual scope s₀.heap.objs.size f cd).frame=some s₀.heap.objs.size:=rfl;have Y:fx (wV (fu P w) P w K mg base N qual scope f cd A outer s₀ H₀ E).stack=s₀.heap.objs.size::fx outer:=J6 R;have L:Un (fx outer) [] H₀ H s₀.heap s.heap:=I.base;have ne:∀b o,s₀.heap.get? b=some o->b≠s₀.heap.objs.size:=fun b o e=>AV (AK e);refine JI I.ok.frames R fl fun h' x u=>⟨ea,cls,dd,B,H1,rfl,x,hok,os.trans I.os,bare,?_,fun b hb o e=>?_,q⟩
 ·refine⟨fun b o e n hb=>?_,fun b o e n=>?_,fun b o e hb=>?_,fun b xs e=>un.tups b xs (L.tups b xs e),fun b o u e=>un.frzs b o u (L.frzs b o u e),fun b ps e=>?_⟩;exact un.keep b o (L.keep b o e n hb (by simp)) (L.free b o e n (by simp)) (by rw[Y];intro z;exact (AJ.mp z).elim (ne b o e) hb)
  ·obtain⟨o',F⟩:=L.there b o e (by simp);exact un.free b o' F (L.free b o e n (by simp))
  ·obtain⟨o',F⟩:=L.there b o e (by simp);exact un.there b o' F (by rw[Y];intro z;exact (AJ.mp z).elim (ne b o e) hb)
  ·obtain⟨m1,Z⟩:=L.tbls b ps e;obtain⟨m2,U⟩:=un.tbls b _ Z;exact⟨m1++m2,by rw[U,Array.append_assoc]⟩
 ·obtain⟨a1,Z⟩:=L.slot b o e (I.ok.frf b hb) hb (by simp);obtain⟨a2,U⟩:=sl b (by rw[Y];exact AO _ hb) _ Z;have nf:∀vs,o.data≠ .fields vs:=by obtain⟨_,o2,M,nf⟩:=I.ok.funs.mem hb;have e:(wV (fu P w) P w K mg base N qual scope f cd A outer s₀ H₀ E).s₀.heap.get? b=some o:=e;rw[e]at M;cases M;exact nf
  obtain⟨a0,e3⟩:=u b _ U nf;exact⟨a0,e3⟩
def t9{Ee:EK (EN×Obj)}{σ:L2.St}{H:Hp}{s:EM}{h':Heap}{e:EN}{oe:Obj}{vs:EZ EL}{H1:Hp}{B0:Heap}(I:L2.Inv (wV (fu P w) P w K mg base N qual scope f cd A outer s₀ H₀ E) Ee σ H s)(k:∀b o,s.heap.get? b=some o->h'.get? b=some o)(hn:s.heap.get? e=none)
  (g1:h'.get? e=some oe) (g2:oe.data= .fields vs) (g3:vs[1]? = some Value.none) (g4:vs[2]? = some Value.none) (q:E oe.cls oe.dict H):(wV (fu P w) P w K mg base N qual scope f cd A outer s₀ H₀ E).xe (.ref e) { s with heap:=h' }:=by
 have R:(envOfC qual scope s₀.heap.objs.size f cd).frame=some s₀.heap.objs.size:=rfl;have ef:fx (wV (fu P w) P w K mg base N qual scope f cd A outer s₀ H₀ E).stack=s₀.heap.objs.size::fx outer:=J6 R;have L:Un (fx outer) [] H₀ H s₀.heap s.heap:=I.base;have ne:∀b o,s₀.heap.get? b=some o->b≠s₀.heap.objs.size:=fun b o e=>AV (AK e);generalize hB:W.hideAll s.heap (fx (wV (fu P w) P w K mg base N qual scope f cd A outer s₀ H₀ E).stack)=B;have Y:∀b o,s.heap.get? b=some o->b∉fx (wV (fu P w) P w K mg base N qual scope f cd A outer s₀ H₀ E).stack->B.get? b=some o:=fun b o e hb=>by rw[←hB];exact W.hideAll_get _ e hb
 have F:∀b o,B.get? b=some o->s.heap.get? b=some o:=fun b o e=>by rw[←hB]at e;exact W.of_hideAll _ e
 have im:∀b u,H b=some u->b∉fx (wV (fu P w) P w K mg base N qual scope f cd A outer s₀ H₀ E).stack:=fun b u e z=>by rw[I.stkFree b z]at e;cases e
 have M:h'.FunFrames B (wV (fu P w) P w K mg base N qual scope f cd A outer s₀ H₀ E).stack:=by
  have:=W.funFrames_hide (as:=fx (wV (fu P w) P w K mg base N qual scope f cd A outer s₀ H₀ E).stack) I.stack fun env he a ha=>Ca.mpr ⟨env,he,ha⟩
  rw[hB]at this;exact this.of_keeps fun b o e _=>⟨o,k b o e,rfl⟩
 have eB:B.get? e=none:=by
  cases z:B.get? e with|none=>rfl|some o=>have:=F e o z;rw[hn]at this;cases this
 refine jn (s:={ s with heap:=h' }) I.ok.frames M R (fun b o z=>k b o (F b o z)) eB g1 g2 g3 g4 fun h2 x u=>⟨e,oe.cls,oe.dict,B,H,rfl,x,?_,I.os,I.bare,?_,fun b hb o Z=>?_,q⟩;exact fun b u Z=>(I.hok b u Z).stay (fun c v hc z=>Y c v z (hc.elim (fun z=>by rw[z];exact im b u Z) fun z=>im c _ z)) (fun _ z=>z) fun _ _ z=>z
 ·refine⟨fun b o e n hb=>?_,fun b o e n=>L.free b o e n (by simp),fun b o e hb=>?_,fun b xs e=>L.tups b xs e,fun b o u e=>L.frzs b o u e,fun b ps e=>L.tbls b ps e⟩;exact Y b o (L.keep b o e n hb (by simp)) (by rw[ef];intro z;exact (AJ.mp z).elim (ne b o e) hb)
  ·obtain⟨o',e'⟩:=L.there b o e (by simp);exact⟨o',Y b o' e' (by rw[ef];intro z;exact (AJ.mp z).elim (ne b o e) hb)⟩
 ·obtain⟨a1,e2⟩:=L.slot b o Z (I.ok.frf b hb) hb (by simp);have nf:∀vs,o.data≠ .fields vs:=by obtain⟨_,o2,U,nf⟩:=I.ok.funs.mem hb;have Z:(wV (fu P w) P w K mg base N qual scope f cd A outer s₀ H₀ E).s₀.heap.get? b=some o:=Z;rw[Z]at U;cases U;exact nf
  obtain⟨a0,e3⟩:=u b _ (k b _ e2) nf;exact⟨a0,e3⟩
end
section
variable{prog:ER}{w:EU}{A:EW}{E:EL->EM->Prop}{s:EM}{K:EQ}{x D:EN}{ox:Obj}{od:EO Obj}
structure gK (K:W.Frag) (D:Addr):Prop where
 ga:W.findIn K (.ref D) "__getattribute__" = some (some (.builtin "BaseException.__getattribute__"))
 gn:W.findIn K (.ref D) "__getattr__" = some none
 fo:∀od,W.findObj K D od "__class__" = some (.bind (.builtin "getset_descriptor.__get__") (.builtin "object.__class__"))
 mo:W.mroIn K D (.type "object")=some true
 mb:W.mroIn K D (.type "BaseException")=some true
theorem o6{Q:EO EL->EM->Prop}(C:gK K D)(X:K.In s.heap)(I:W.InstAt s.heap x ox D od)(h:Q (some (.ref D)) { s with toks:=s.toks+1 }):wpAny (model prog w) A (getAttr? (.ref x) "__class__") Q E s:=by
 obtain⟨Y,g,d,t,os⟩:=s;have L:=I.type (M:=model prog w);have U:=W.looks_findIn (M:=model prog w) X C.ga;have L2:=W.looks_findIn (M:=model prog w) X C.gn;have Z:=W.looks_find (M:=model prog w) X I (C.fo od);have R:=W.looks_mroIn (M:=model prog w) X C.mb;have LI:W.Looks (model prog w) Y (isInstance (.ref x) (.type "BaseException")) true:=L.andThen R;have f3:=F.attr_ValueError.ga.bind (.ref x);unfold getAttr? getAttrBy? getAttrBy;refine AA (wpAny_mkText (AA (Bt (Ay (AA (L.at (AA (U.at ?_))))))));show wpAny _ _ (getAttrByItsOwn _ _ _ _ _ _) _ _ _;unfold getAttrByItsOwn;refine AA (L2.at (AA (Bt (Ay ?_))));show wpAny _ _ (boundAndCalled _ _ _) _ _ _;unfold boundAndCalled;refine AA (Aw f3 ?_);refine C7 (Cp F.attr_ValueError.ga.plain F.entry_bexc_ga ?_);have hk:builtinKind "BaseException.__getattribute__" = some .slot:=by decide +kernel
 have q:splitId "BaseException.__getattribute__" = some ("BaseException","__getattribute__"):=by decide +kernel
 have ha:=F.args_bexc_ga (.ref x) (.str "__class__" t);simp only[checkBuiltinCall,hk,q];refine AA (LI.at ?_);rw[AF (show ¬((!true)=true) by decide)];refine Aw (a:=()) ha ?_;show wpAny _ A.in1 (Builtin.«object.__getattribute__» ⟨[.ref x,.str "__class__" t],[]⟩) _ _ _;unfold Builtin.«object.__getattribute__»;refine AA (AB ?_);refine AA (AB ?_);refine AA (L.at (AA (Z.at ?_)));show wpAny _ A.in1 (holding [Value.builtin "object.__class__"] (call (.builtin "getset_descriptor.__get__") [.builtin "object.__class__",.ref x,.ref D]) >>= ret) _ _ _;refine AA (Ay (C7 (W.class_get X I C.mo ?_)));exact AB (AB (AB h))
end
def pU{K:EQ}{h:Heap}{C:EN}{L:EK EL}{I:String}(X:K.In h)(q:W.excIn K C L I=true) :
  ∃bm N nm F bs hd sn M ab co dd k0 k1 k2 k3 k5 mN,h.get? C=some (excClassObj nm F C N bs bm hd sn M ab co dd k0 k1 k2 k3 k5 I)∧h.Ns N mN∧mN "__init__" = none∧OwnTail h L bm:=by
 unfold W.excIn at q;split at q
 ·rename_i dd cd sl ho;split at q
  ·rename_i C' bm k0 k1 k2 k3 n k5 R hs;simp only[Ar,beq_iff_eq,Bool.not_eq_true']at q;obtain⟨⟨⟨⟨⟨e1,e2⟩,U⟩,e4⟩,e5⟩,e6⟩:=q;subst e1;subst e2;cases cd with
   |mk nm bs Y ns F hd sn M ab co Z =>
    have R:Y=_:=R;have U:Z=false:=U;subst R;subst U;have a0:sl = #[k0,k1,k2,k3,some (.builtin n),k5]:=by cases sl with|mk l=>rw[show l=_ from hs]
    subst a0;exact⟨bm,ns,nm,F,bs,hd,sn,M,ab,co,dd,k0,k1,k2,k3,k5,_,X _ _ ho,.of_isNs (W.isNs_of_in X e5),W.nsMap_none_of_in X e5 e6,W.tail_of_in X e4⟩
  ·cases q
 ·cases q
def Rz(X:Cx)(E:XK):Prop:=∀(Ee:EK (EN×Obj)) (σ:L2.St) (H:Hp) (s:EM) (h':Heap) (e:EN) (I:Obj) (vs:EZ EL),L2.Inv X Ee σ H s->(∀b o,s.heap.get? b=some o->h'.get? b=some o)->s.heap.get? e=none ->
 h'.get? e=some I->I.data= .fields vs->vs[1]? = some Value.none->vs[2]? = some Value.none->E I.cls I.dict H->X.xe (.ref e) { s with heap:=h' }
def oq{P:ER}{w:EU}{K:EQ}{mg:Str->EO EL}{base:Heap}{N:EK Str}{qual:Str}{scope:Scope}{f:EN}{cd:EL}{A:EW}{outer:EK Env}{s₀:EM}{H₀:Hp}{E:XK} :
  Rz (wV (fu P w) P w K mg base N qual scope f cd A outer s₀ H₀ E) E:=fun _ _ _ _ _ _ _ _ I k Y R F U L q=>t9 (H1:=H₀) (B0:=base) I k Y R F U L q
abbrev gD:EK EL:=[.type "ValueError",.type "Exception",.type "BaseException",.type "object"]
section
variable{X:Cx}{E:XK}{x:Str}{C:EN}{e:EY}{es:EK EY}{t:TA}{np Eu pos:Pos}
def sQ(hz:Rz X E)(hc:X.calm=true)(hg:Gl X x)(hm:X.mg x=some (.ref C))(q:W.excIn X.K C gD "ValueError.__new__" = true)(ha:PA X (e::es) t)(Z:(x==("__debug__":Str))=false:=by decide)
  (he:starEach (e::es) X.env=(false,eval e X.env)::starEach es X.env:=by rfl) (Ep:(backTo Eu (starEach es X.env)).any (·.1)=false:=by rfl) :
  PS X (.Raise (some (.Call (.Name x np) (e::es) [] Eu)) none pos) (fun D σ H=>t σ H fun vs H1=>vs.length≤sizeLine∧E (.ref C) none H1):=by
 intro Ee s σ H D I h;obtain⟨U,N,Y,qn,bs,hd,sn,sb,ab,co,dd,k0,k1,k2,k3,k5,mN,o1,o2,o3,o4⟩:=pU I.ok.mod.kin q;refine wpAny_Raise_call_subU (C:=C) (nm:=Y) (q:=qn) (N:=N) (bs:=bs) (bm:=U) (hdct:=hd) (sn:=sn) (sub:=sb) (ab:=ab) (col:=co) (dd:=dd) (k0:=k0) (k1:=k1) (k2:=k2) (k3:=k3) (k5:=k5) (mN:=mN)
  F.excBase_ValueError F.excBase_ValueError.hasB F.excBase_ValueError (o4.hasType F.excBase_ValueError.hasBase) (I.ok.hd hc) (by rw[he];show (false||(backTo Eu (starEach es X.env)).any (·.1))=false;rw[Ep];rfl) o3 (je I hg hm ⟨rfl,?_⟩ Z)
 have R:=ha Eu Ee s σ H _ I h;rw[he]at R ⊢;refine Calls.evalArgs_plain (eK R fun us s1 ⟨vs,H1,L,r1,q1,q2⟩=>⟨rfl,by rw[←r1.length];exact q1,L.bk _ _ o1,o2.keeps L.bk,o4.keeps L.bk,fun h' ea M=>?_⟩);obtain⟨tt,h1,_,_⟩:=M.there;exact hz Ee σ H1 s1 h' ea _ _ L M.keeps M.new h1 rfl rfl rfl q2
end
section
variable{M:Model}{A:EW}{E:EL->EM->Prop}{K:EQ}{h:Heap}{g:EZ GenState}{d:Drawn}{t:Nat}{os:OsState}{e Bx C:EN}{oe:Obj}{dd:EO EN}{cd:ClassData}{sl:EZ (EO EL)}{Q:Bool->EM->Prop}
def Jv(X:K.In h)(Y:K.lookup Bx=some ⟨.type "type",dd,.cls cd,sl⟩)(U:W.mroIn K Bx (.type "BaseException")=some true)(he:h.get? e=some oe)(I:oe.cls= .ref C)(F:W.mroIn K C (.ref Bx)=some true)
  (Z:Q true ⟨h,g,d,t,os⟩):wpAny M A (excMatches (.ref e) (.ref Bx)) Q E ⟨h,g,d,t,os⟩:=by
 have L:=X _ _ Y;have R:=W.looks_mroIn (M:=M) X U;have q:=W.looks_mroIn (M:=M) X F;have f:=tc_notTuple;unfold excMatches;repeat (first|(with_reducible refine wpAny_loadPart_at he ?_;rw[I])|with_reducible refine wpAny_loadPart_at L ?_|with_reducible refine R.at ?_|with_reducible refine q.at ?_|wp_step)
 exact Z
end
def Jj(X:Cx)(Ee:EK (EN×Obj))(xe:EL->EM->Prop):Cx:={ X with xe:=xe,pn:=X.pn++Ee }
def iE(X:Cx)(F:EN):Cx:={ X with A:=X.A.mark (some (.ref F)),calm:=false,xe:=fun _ _=>False }
abbrev iQ:HO:=.ext fun _=>True
section
variable{X:Cx}{Ee:EK (EN×Obj)}{σ:L2.St}{H:Hp}{s:EM}{xe:EL->EM->Prop}
def pG(I:L2.Inv X Ee σ H s):L2.Inv (Jj X Ee xe) [] σ H s :=
 ⟨⟨I.ok.mod,I.ok.kind,I.ok.glob,I.ok.blt,I.ok.above,I.ok.inj,I.ok.has,I.ok.cab,I.ok.hd,I.ok.frames,I.ok.stk,I.ok.exf,I.ok.bs,I.ok.bsz,I.ok.noex,I.ok.exfs,I.ok.funs,I.ok.frf⟩,I.os,I.bare,I.base,I.loc,I.cell,I.free,I.freeC,
  fun p L=>I.pin p (by simpa[Jj] using L),I.hok,I.len,I.hnd⟩
def W2{F:EK (EN×Obj)}(I:L2.Inv (Jj X Ee xe) F σ H s):L2.Inv X Ee σ H s :=
 ⟨⟨I.ok.mod,I.ok.kind,I.ok.glob,I.ok.blt,I.ok.above,I.ok.inj,I.ok.has,I.ok.cab,I.ok.hd,I.ok.frames,I.ok.stk,I.ok.exf,I.ok.bs,I.ok.bsz,I.ok.noex,I.ok.exfs,I.ok.funs,I.ok.frf⟩,I.os,I.bare,I.base,I.loc,I.cell,I.free,I.freeC,
  fun p L=>I.pin p (List.mem_append_left _ L),I.hok,I.len,I.hnd⟩
def pX{D:fF}{f:Flow}(q:SP (Jj X Ee xe) [] D f s):SP X Ee D f s:=by
 cases f with|next=>obtain⟨a,b,c,d⟩:=q;exact⟨a,b,W2 c,d⟩|brk=>obtain⟨a,b,c,d⟩:=q;exact⟨a,b,W2 c,d⟩|cont=>obtain⟨a,b,c,d⟩:=q;exact⟨a,b,W2 c,d⟩|ret u=>obtain⟨v,a,b,c,d⟩:=q;exact⟨v,a,b,W2 c,d⟩
def sV(I:L2.Inv X Ee σ H s){F:EN}{oe:Obj}(Y:H F=none)(Z:s.heap.get? F=some oe)(h0:X.s₀.heap.get? F=none)(q:F≠X.env.locals)(U:∀x c,X.env.cells.lookup x=some c->c≠F)(M:∀p∈X.pn++Ee,p.1≠F) :
  L2.Inv X Ee σ (eN H F (.frz oe iQ)) s:=by
 have ne:∀b u,H b=some u->b≠F:=fun b u e z=>by rw[z,Y]at e;cases e
 have nb:∀b o,X.s₀.heap.get? b=some o->b≠F:=fun b o e z=>by rw[z,h0]at e;cases e
 refine⟨I.ok,I.os,I.bare,⟨I.base.keep,I.base.slot,fun b o e n hx=>?_,I.base.there,fun b xs e=>?_,fun b o u e=>?_,fun b ps e=>?_⟩,I.loc,I.cell,?_,fun x c e=>?_,fun p L=>?_,fun b u e=>?_,I.len,fun v hv=>?_⟩;rw[qP (nb b o e)];exact I.base.free b o e n hx
 ·have:=I.base.tups b xs e;rw[qP (ne b _ this)];exact this
 ·have:=I.base.frzs b o u e;rw[qP (ne b _ this)];exact this
 ·obtain⟨m,this⟩:=I.base.tbls b ps e;exact⟨m,by rw[qP (ne b _ this)];exact this⟩
 ·rw[qP (Ne.symm q)];exact I.free
 ·rw[qP (U x c e)];exact I.freeC x c e
 ·obtain⟨a,b,c,d⟩:=I.pin p L;exact⟨a,by rw[qP (M p L)];exact b,c,d⟩
 ·by_cases hb:b=F;subst hb;rw[QN]at e;cases e;exact⟨Z,trivial,⟨oe,Z⟩,fun _ _ z _=>z⟩;rw[qP hb]at e;exact (I.hok b u e).stay (fun _ _ _ z=>z) (fun c z=>by rw[qP (ne c _ z)];exact z) fun c xs z=>by rw[qP (ne c _ z)];exact z
 ·obtain⟨a,o,u,vs,e1,R,e3⟩:=I.hnd v hv;exact⟨a,o,u,vs,e1,by rw[qP (ne a _ R)];exact R,e3⟩
def wh(I:L2.Inv X Ee σ H s){F:EN}{oe:Obj}{u:HO}{vs:EZ EL}(Y:H F=some (.frz oe u))(U:oe.data= .fields vs)(M:vs[2]? = some Value.none):L2.Inv (iE X F) Ee σ H s :=
 ⟨⟨I.ok.mod,I.ok.kind,I.ok.glob,I.ok.blt,I.ok.above,I.ok.inj,I.ok.has,I.ok.cab,(fun z=>absurd (show false=true from z) Bc),I.ok.frames,I.ok.stk,I.ok.exf,I.ok.bs,I.ok.bsz,I.ok.noex,I.ok.exfs,I.ok.funs,I.ok.frf⟩,I.os,I.bare,I.base,I.loc,I.cell,I.free,I.freeC,
  I.pin,I.hok,I.len,fun v L=>by
   have L:some (Value.ref F)=some v:=L;cases L;exact⟨F,oe,u,vs,rfl,Y,U,M⟩⟩
def j6{F:EN}(ok:X.Ok)(U:X.calm=true)(I:L2.Inv (iE X F) Ee σ H s):L2.Inv X Ee σ H s :=
 ⟨ok,I.os,I.bare,I.base,I.loc,I.cell,I.free,I.freeC,I.pin,I.hok,I.len,gA.none (ok.hd U)⟩
def u8(I:L2.Inv X Ee σ H s)(L:X.N.Nodup){i:Nat}{n:Str}(hi:X.N[i]? = some n){m:Str->EO EL}{v:EO EL}{h':Heap}{Y:Nat}(hm:∀(j:Nat) (x:Str) (w:V),X.N[j]? = some x->σ[j]? = some (some w)->iz X.env.scope x->∃u,RelV w u∧nR X.env s.heap m x u)
  (hn:h'.Ns X.env.locals (fun x=>if x=n then v else m x)) (hs:Heap.SameBut X.env.locals s.heap h'):L2.Inv X Ee (σ.set i none) H { s with heap:=h',toks:=Y }:=by
 have cne:=I.cne;refine⟨I.ok,I.os,I.bare,⟨fun b o e n hb M=>?_,fun b o e n hb M=>?_,I.base.free,fun b o e M=>?_,I.base.tups,I.base.frzs,I.base.tbls⟩,⟨_,hn,fun j y w Z R e3=>?_⟩,fun y c e=>?_,I.free,I.freeC,fun p hp=>?_,fun b ob e=>?_,by simpa using I.len,I.hnd⟩;exact (hs.2 b (AV (Ao (AK e) I.ok.above))).trans (I.base.keep b o e n hb M);obtain⟨sl,Z⟩:=I.base.slot b o e n hb M;exact⟨sl,(hs.2 b (AV (Ao (AK e) I.ok.above))).trans Z⟩;obtain⟨o',Z⟩:=I.base.there b o e M;exact⟨o',(hs.2 b (AV (Ao (AK e) I.ok.above))).trans Z⟩
 ·have F:j≠i:=fun z=>by
   subst z;by_cases hl:j<σ.length;rw[BB hl]at R;cases R;rw[List.getElem?_eq_none (by simpa using hl)]at R;cases R
  rw[BQ (Ne.symm F)]at R;obtain⟨u,r,l⟩:=hm j y w Z R e3;refine⟨u,r,?_⟩;rcases l with⟨k,l⟩|⟨k,c,e,z⟩
  ·refine .inl ⟨k,?_⟩
   have:y≠n:=fun e=>F (ye L Z (e ▸ hi))
   simp[this,l]
  ·exact .inr ⟨k,c,e,z.sameBut hs (cne y c e)⟩
 ·obtain⟨U,z⟩:=I.cell y c e;exact⟨U,z.sameBut hs (cne y c e)⟩
 ·obtain⟨e,n,ne,nf,d⟩:=I.pin p hp;exact⟨(hs.2 p.1 ne).trans e,n,ne,nf,d⟩
 ·refine (I.hok b ob e).stay (fun c U hc q=>(hs.2 c ?_).trans q) (fun _ q=>q) fun _ _ q=>q;rintro rfl;rcases hc with rfl|hc
  ·rw[I.free]at e;cases e
  ·rw[I.free]at hc;cases hc
def rm(i k:Nat)(ok:EL->Prop)(tb:XK->TS)(th:TS):TS:=fun D σ H=>tb (fun cls dd H1=>ok cls∧∀(Z:L2.St) (F:EN) (I:Obj),Z.length=k->H1 F=none->I.cls=cls->I.dict=dd->(∃vs,I.data= .fields vs) ->
 th { nx:=fun L Y=>D.nx (L.set i none) Y,rt:=D.rt,bk:=fun L Y=>D.bk (L.set i none) Y,ct:=fun L Y=>D.ct (L.set i none) Y } (Z.set i (some (.ref F))) (eN H1 F (.frz I iQ))) D σ H
structure gO (X:Cx):Prop where
 stk:X.stack=X.env::X.outer
 fr:X.env.frame=some X.env.locals
 ex:X.ex=[]
def nH{P:ER}{w:EU}{H:Hp}{h:Heap}{a:EN}{o:HO}(x:eT P w H h a o):∃u,h.get? a=some u:=by
 cases o with|lst xs=>obtain⟨_,_,_,_,e⟩:=x;exact⟨_,e⟩|tup xs=>obtain⟨_,_,_,⟨o,e,_⟩,_⟩:=x;exact⟨_,e⟩|dK En=>obtain⟨_,_,_,_,o,_,_,e,_⟩:=x;exact⟨_,e⟩|dT En=>obtain⟨_,_,_,_,o,_,_,e,_⟩:=x;exact⟨_,e⟩|set S n=>obtain⟨o,_,_,_,e,_⟩:=x;exact⟨_,e⟩|ins C dx fs=>obtain⟨_,_,_,e,_⟩:=x;exact⟨_,e⟩|own y=>exact x|xd fs=>obtain⟨_,⟨_,_,_,e,_⟩,_⟩:=x;exact⟨_,e⟩|rng lo hi=>obtain⟨_,_,_,e⟩:=x;exact⟨_,e⟩|frz Y u=>obtain⟨e,_⟩:=x;exact⟨_,e⟩|tbl ps=>exact⟨_,x⟩|met f y=>exact⟨_,x⟩|ext φ=>obtain⟨_,e,_⟩:=x;exact e
def sj{X:Cx}{x n:Str}{i:Nat}{Bx:EN}{dd:EO EN}{cd:ClassData}{sl:EZ (EO EL)}{a1:EK Stmt}{b0:Stmt}{Z:EK Stmt}{np a2 pos:Pos}{ok:EL->Prop}{tb:XK->TS}{th:TS}(FX:gO X)(hc:X.calm=true)(hN:X.N.Nodup)(hi:X.N[i]? = some n)(hl:X.env.scope.names.lookup n=some .local)
  (hg:Gl X x) (hm:X.mg x=some (.ref Bx)) (o1:X.K.lookup Bx=some ⟨.type "type",dd,.cls cd,sl⟩) (m1:W.mroIn X.K Bx (.type "BaseException")=some true) (hok:∀v,ok v->∃C,v= .ref C∧W.mroIn X.K C (.ref Bx)=some true)
  (hb:∀(Ee:EK (EN×Obj)) (xe:EL->EM->Prop) (E':XK),Ws (fu X.prog X.w) (Jj X Ee xe) E'->f8 (Jj X Ee xe) a1 (tb E')) (hh:∀F,f8 (iE X F) (b0::Z) th) (aa:(x==("__debug__":Str))=false:=by decide) :
  PS X (.Try a1 [.ExceptHandler (some (.Name x np)) (some n) (b0::Z) a2] [] [] pos) (rm i X.N.length ok tb th):=by
 intro Ee s σ H D I h;refine wpAny_Try_except ?_;generalize hE:(fun (cls:EL) (dd:EO EN) (H1:Hp)=>ok cls∧∀(σ':L2.St) (F:EN) (oe:Obj),σ'.length=X.N.length->H1 F=none->oe.cls=cls->oe.dict=dd->(∃vs,oe.data= .fields vs) ->
  th { nx:=fun σ2 H2=>D.nx (σ2.set i none) H2,rt:=D.rt,bk:=fun σ2 H2=>D.bk (σ2.set i none) H2,ct:=fun σ2 H2=>D.ct (σ2.set i none) H2 } (σ'.set i (some (.ref F))) (eN H1 F (.frz oe iQ)))=E'
 have h:tb E' D σ H:=by rw[←hE];exact h
 refine Bb (hb Ee _ E' ?_ [] s σ H D (pG I) h) (fun f s1 q=>?_) fun e s1 q=>q
 rotate_left
 ·have q:=pX q;cases f with|next=>exact wpAny_execs_nil q|brk=>exact q|cont=>exact q|ret u=>exact q
 ·intro ab σ' H' s1 e s2 J c;obtain⟨F,cls,d2,B,H1,rfl,fl,a3,os,bare,un,a5,qE⟩:=c;have J':=W2 J;rw[←hE]at qE;obtain⟨q1,q2⟩:=qE;obtain⟨C,rfl,m2⟩:=hok cls q1;have ac:X.A.frames=some (X.env::X.outer):=by rw[←FX.stk];exact I.ok.frames
  have ae:gv B (X.env::X.outer) F (.ref C) d2 .none s2.heap:=by rw[←FX.stk];exact fl
  have un:lA (fx X.stack) H' H1 s1.heap B:=un;have a5:∀b∈fx X.stack,∀o,s1.heap.get? b=some o->∃sl,s2.heap.get? b=some { o with slots:=sl }:=a5;have a4:s1.heap.FunFrames X.base X.stack:=J'.stack;have U:∀b o,X.base.get? b=some o->B.get? b=some o:=fun b o z=>un.keep b o (J'.bs b o z).1 (J'.bs b o z).2 fun hm=>by rw[(a4.mem hm).1]at z;cases z
  refine Y6 (A:=X.A) ac FX.fr ae fun h4 x4 u4=>kd x4 fun h5 x5 u5=>?_;have af:h5.Ns X.env.globals X.mg:=by rw[I.ok.glob];exact I.mod.glob.keeps fun b o z=>x5.1 b o (U b o z)
  have k5:X.K.In h5:=I.ok.mod.kin.keeps fun b o z=>x5.1 b o (U b o z);obtain⟨_,_,_,ap,_,_,_,_,ag,ah,_⟩:=id x5;refine wpAny_handleBy_cons (codeAny_handlers_test (Calls.Name_function_global I.ok.kind hg (Calls.loadGlobal_global af hm ?_) aa)) (by intro q;cases q);refine Jv k5 o1 m1 ag ah m2 (codeAny_handlers_suite_as (kd x5 fun h6 x6 u6=>?_));have ai:s2.heap.UpToSlots h6:=(u4.trans u5).trans u6;obtain⟨k1,k2,k3,oe,vs,T,oT,ts,g1,g2,g3,g4,g5,g6,g7⟩:=x6;have nf:∀b∈fx X.stack,∀o,s1.heap.get? b=some o->∀vs,o.data≠ .fields vs:=fun b hb o z=>by obtain⟨_,o2,a6,nf⟩:=a4.mem hb;rw[z]at a6;cases a6;exact nf
  have a7:∀b∈fx X.stack,∀o,s1.heap.get? b=some o->∃sl,h6.get? b=some { o with slots:=sl }:=fun b hb o z=>by obtain⟨aj,z2⟩:=a5 b hb o z;obtain⟨ak,z3⟩:=ai b _ z2 (nf b hb o z);exact⟨ak,z3⟩
  have I6:L2.Inv X Ee σ' H1 { s2 with heap:=h6 }:=J'.call' (s':={ s2 with heap:=h6 }) (ch:=[]) os (fu.un (P:=X.prog) (w:=X.w) (s:=s1) (s':={ s2 with heap:=h6 }) k1 un a7) (a3.kept k1) bare fun b z=>by cases z
  have a0:∀b o,s1.heap.get? b=some o->b≠F:=fun b o z hz=>by
   subst hz;by_cases hb:b∈fx X.stack;obtain⟨aj,z2⟩:=a7 b hb o z;rw[g1]at z2;cases z2;exact nf b hb o z vs g4;obtain⟨o',z'⟩:=un.there b o z hb;rw[k2]at z';cases z'
  have a8:H1 F=none:=by
   cases z:H1 F with|none=>rfl|some u=>obtain⟨o',z'⟩:=nH (a3 F u z);rw[k2]at z';cases z'
  have I7:L2.Inv X Ee σ' (eN H1 F (.frz oe iQ)) { s2 with heap:=h6 }:=by
   refine sV I6 a8 g1 ?_ ?_ (fun x c z=>?_) fun p hp=>?_
   ·cases z:X.s₀.heap.get? F with|none=>rfl|some o=>obtain⟨o',z'⟩:=J'.base.there F o z (by rw[FX.ex];simp);exact (a0 F o' z' rfl).elim
   ·obtain⟨m,⟨o,_,_,z,_⟩,_⟩:=J'.loc;exact Ne.symm (a0 _ o z)
   ·obtain⟨v,o,z',_⟩:=J'.cell x c z;exact a0 c o z'
   ·exact a0 p.1 p.2 (J'.pin p hp).1
  have L:=wh I7 QN g4 g6;refine W0 (X:=iE X F) (v:=.ref F) L hN hi (.inl hl) (show RelV (.ref F) (.ref F) from rfl) (fun s7 M=>?_) (.inr hl);have a9:σ'.length=X.N.length:=J'.len;refine wpAny_noRaise (eK (hh F Ee s7 _ _ _ M (q2 σ' F oe a9 a8 g2 g3 ⟨vs,g4⟩)) fun f s8 q=>?_);have hp:(X.env.scope.kind == .class||(X.env.scope.kind == .module&&X.env.locals != X.env.globals))=false:=by rw[I.ok.kind];rfl
  have R:∀{σ8:L2.St} {Y:Hp} {Q:EM->Prop},L2.Inv (iE X F) Ee σ8 Y s8->(∀s9,L2.Inv X Ee (σ8.set i none) Y s9->Q s9)->wpAny (model X.prog X.w) X.A (do bindName X.env n .none;unbindBehindTheSuite X.env n a2) (fun _ s9=>Q s9) X.xe s8:=fun {σ8 Y Q} L hQ=>by have M:=j6 I.ok hc L;obtain⟨m,hn,al⟩:=id M.loc;exact wpAny_nameGoes_keeps hl hn hp fun h9 v am ao=>hQ _ (u8 M hN hi al am ao)
  cases f with|next=>obtain⟨σ8,Y,L,q8⟩:=q;exact R L fun s9 M=>⟨_,Y,M,q8⟩|brk=>obtain⟨σ8,Y,L,q8⟩:=q;exact R L fun s9 M=>⟨_,Y,M,q8⟩|cont=>obtain⟨σ8,Y,L,q8⟩:=q;exact R L fun s9 M=>⟨_,Y,M,q8⟩|ret u=>obtain⟨v,σ8,Y,L,r8,q8⟩:=q;exact R L fun s9 M=>⟨v,_,Y,M,r8,q8⟩
end
def YQ(A:EW):EK EN:=match A.handled with|some (.ref F)=>[F]|_=>[]
def Hnd.frame{A:EW}{h h':Heap}(x:Hnd A h)(k:∀b∈YQ A,∀o,h.get? b=some o->h'.get? b=some o):Hnd A h':=fun v L=>by obtain⟨F,I,vs,Z,R,q⟩:=x v L;subst Z;exact⟨F,I,vs,rfl,k F (by unfold YQ;rw[L];simp) I R,q⟩
def A1{A:EW}{I:EN}(q:∀F∈YQ A,F≠I):∀v,A.handled=some v->v≠ .ref I:=fun v L z=>by subst z;exact q I (by unfold YQ;rw[L];simp) rfl
def uV{prog:ER}{w:EU}{A:EW}(I ax:EN)(hne:ax≠I)(items:EZ EL)(hI:∀ea∈YQ A,ea≠I) :
  Walks prog w A I (I::ax::YQ A) [I] items.size (fun i v=>items[i]? = some v) (fun i h=>(h.IsListIter I ax i∧h.IsList ax items)∧Hnd A h) where
 sub:=fun b hb=>by simp at hb;simp[hb]
 frame:=fun _ _ _ st hk=>⟨⟨st.1.1.at fun o e=>hk I (by simp) o e,st.1.2.at fun o e=>hk ax (by simp) o e⟩,st.2.frame fun b hb o e=>hk b (by simp[hb]) o e⟩
 item:=fun i s Q E hi st hQ=>wpAny_pyNext_list_item st.1.1 st.1.2 (x:=items[i]) (by simp[hi]) fun h' z1 z2 =>
  hQ _ h' s.toks (by simp[hi]) ⟨⟨z1,st.1.2.extBut z2.extBut hne⟩,st.2.frame fun b hb o e=>(z2.2 b (hI b hb)).trans e⟩ fun b o hb e=>z2.extBut b o (fun h=>hb (by simp[h])) e
 done:=fun s Q E st hQ=>list_end st.2 st.1.1 st.1.2 (by simp) (A1 hI) fun h' z=>hQ h' s.toks fun b o hb e=>z b o (fun h=>hb (by simp[h])) e
 self:=fun _ _ _ _ st hQ=>wpAny_pyIter_listiter st.1.1 hQ
section
variable{X:Cx}{Ee:EK (EN×Obj)}{σ:L2.St}{H:Hp}{s:EM}
def xv(I:L2.Inv X Ee σ H s):∀F∈YQ X.A,F≠s.heap.objs.size:=fun F M=>by
 have hd:X.A.handled=some (.ref F):=by
  unfold YQ at M;split at M;rename_i a R;rw[AX.mp M];exact R;cases M
 obtain⟨a,L,vs,Z,Y,_⟩:=I.hndH _ hd;cases Z;exact AV (AK Y)
def Yz(I:L2.Inv X Ee σ H s){p:EN}{Eg:EK EL}(pl:PlainL s.heap p Eg.toArray){E:EL->EM->Prop}{Q:EL->EM->Prop}
  (h:Walks X.prog X.w X.A.in1 s.heap.objs.size (s.heap.objs.size::p::YQ X.A) [s.heap.objs.size] Eg.toArray.size (fun i v=>Eg.toArray[i]? = some v) (fun i h=>(h.IsListIter s.heap.objs.size p i∧h.IsList p Eg.toArray)∧Hnd X.A.in1 h) ->
   ((s.heap.push { cls:=.type "list_iterator",data:=.fields #[.ref p,.int 0 0] }).IsListIter s.heap.objs.size p 0∧(s.heap.push { cls:=.type "list_iterator",data:=.fields #[.ref p,.int 0 0] }).IsList p Eg.toArray)∧Hnd X.A.in1 (s.heap.push { cls:=.type "list_iterator",data:=.fields #[.ref p,.int 0 0] }) ->
   (∀b∈s.heap.objs.size::p::YQ X.A,b<(s.heap.push { cls:=.type "list_iterator",data:=.fields #[.ref p,.int 0 0] }).objs.size) ->
   (∀h':Heap,(∀b o,b∉[s.heap.objs.size]->(s.heap.push { cls:=.type "list_iterator",data:=.fields #[.ref p,.int 0 0] }).get? b=some o->h'.get? b=some o)->∀b o,s.heap.get? b=some o->h'.get? b=some o) ->
   Q (.ref s.heap.objs.size) { s with heap:=s.heap.push { cls:=.type "list_iterator",data:=.fields #[.ref p,.int 0 0] } }) :
  wpAny (model X.prog X.w) X.A.in1 (pyIter (.ref p)) Q E s:=by
 obtain⟨U,q,_⟩:=id pl.isList;have Y:p<s.heap.objs.size:=AK q;refine Ci pl.isList (h (uV _ p (AV Y) _ (xv I)) ⟨⟨⟨_,AQ _ rfl,rfl,rfl⟩,pl.isList.at fun o e=>AD _ e⟩,?_⟩ (fun b hb=>?_) fun h' k b o e=>?_);exact Hnd.frame (show Hnd X.A.in1 s.heap from I.hndH) fun b _ o e=>AD _ e
 ·rw[BI];rcases AJ.mp hb with rfl|hb
  ·exact Nat.lt_succ_self _
  ·rcases AJ.mp hb with rfl|hb
   ·exact BG Y
   ·have hd:X.A.handled=some (.ref b):=by
     unfold YQ at hb;split at hb;rename_i a F;rw[AX.mp hb];exact F;cases hb
    obtain⟨a,M,vs,Z,R,_⟩:=I.hndH _ hd;cases Z;exact BG (AK R)
 ·exact k b o (by simp;exact AV (AK e)) (AD _ e)
def nK:∀{bs:EK Bool} {us:EK EL},ei (bs.map V.bl) us->us=bs.map Value.bool|[],_,.nil=>rfl|b::bs,_,.cons r t=>by rw[show _=Value.bool b from r,nK t];rfl
def Jd:∀{ns:EK Int} {us:EK EL} {i:Nat} {v:EL},ei (ns.map V.int) us->us[i]? = some v->∃t,v=Value.int (ns.getD i 0) t|[],_,_,_,.nil,e=>by simp at e|n::ns,_,0,_,.cons r t,e=>by simp at e;subst e;exact r|n::ns,_,i+1,v,.cons r t,e=>by simpa using Jd (i:=i) t (by simpa using e)
def tE{prog:ER}{w:EU}{A:EW}{bs:EK Bool}:TruthOf prog w A (fun i v=>(bs.map Value.bool).toArray[i]? = some v) (fun i=>bs.getD i false):=fun i v s Q E q I=>by
 have q:(bs.map Value.bool).toArray[i]? = some v:=q;rw[List.getElem?_toArray,Am]at q;cases e:bs[i]? with|none=>rw[e]at q;cases q|some b=>rw[e]at q;cases q;have I:Q (bs.getD i false) s:=I;rw[AH,e]at I;exact AB I
def rg(bs:EK Bool):(List.range bs.length).all (fun i=>bs.getD i false)=bs.all id:=by
 induction bs with
 |nil=>rfl
 |cons b bs I =>
  rw[Aa,CH,List.all_cons,List.all_map,List.all_cons]
  have:(((fun i=>(b::bs).getD i false) ∘ Nat.succ))=fun i=>bs.getD i false:=by funext i;simp
  rw[this,I];simp
def su:W5 X (.builtin "all") (fun xs H Q=>∃(p:EN) (bs:EK Bool),xs=[.ref p]∧fm X.K H p (bs.map V.bl)∧Q (.bl (bs.all id)) H):=by
 intro Ee s σ H xs us Q I r h;obtain⟨p,bs,rfl,Z,q⟩:=h;obtain⟨u,rfl,R⟩:=yb r;cases R;obtain⟨Eg,U,pl,M⟩:=I.list Z;have e:=nK U;subst e;refine call_all_walk (Yz I pl fun W st fp k=>⟨_,_,_,_,_,_,_,rfl,W,st,tE,fun h' F L=>?_⟩);rw[show (bs.map Value.bool).toArray.size=bs.length by simp,rg];exact⟨.bl _,H,I.kept (k h' L),rfl,q⟩
def yI(ns:EK Int):∀k,k≤ns.length->preSum (fun i=>ns.getD i 0) k=(ns.take k).sum|0,_=>by simp[preSum]|k+1,h=>by have R:k<ns.length:=h;rw[preSum,yI ns k (C1 R),Bv R,List.sum_append];simp[AH,R]
def xN:W5 X (.builtin "sum") (fun xs H Q=>∃(p:EN) (ns:EK Int),xs=[.ref p]∧fm X.K H p (ns.map V.int)∧Q (.int ns.sum) H):=by
 intro Ee s σ H xs us Q I r h;obtain⟨p,ns,rfl,Z,q⟩:=h;obtain⟨u,rfl,R⟩:=yb r;cases R;obtain⟨Eg,U,pl,hz⟩:=I.list Z;have hl:=U.length;refine call_sum_walkAnyS (Yz I pl fun W st fp k=>⟨_,_,_,_,_,_,_,fun i=>ns.getD i 0,rfl,W.toS,st,fp,fun i v F=>Jd U (by simpa using F),fun Y M m=>?_⟩);have L:Eg.toArray.size=ns.length:=by rw[AR,←hl,AG]
 rw[L,yI ns _ (AN _),List.take_length];obtain⟨hh,g,d,t,o⟩:=Y;have g1:g=s.gens:=m.gens;have d1:d=s.drawn:=m.drawn;have o1:o=s.os:=m.os;subst g1;subst d1;subst o1;exact⟨.int _,H,I.kept (k hh fun b o hb e=>m.heap b o hb e),⟨M,rfl⟩,q⟩
end
def ul{K:EQ}{x D:EN}(C:gK K D):W.KitX K (.ref x) (.ref D) (fun h=>∃F od,W.InstAt h x F D od):=by
 obtain⟨cd,U,_⟩:=Option.bind_eq_some_iff.mp (C.fo none);unfold W.clsIn at U;split at U
 ·rename_i c' d' Y L Z;refine⟨fun _ _ _ ⟨F,od,I⟩=>I.type,fun M h X p=>?_,fun h tp dd Eg n sl X R=>?_,fun {prog w A E Q s} X ⟨F,od,I⟩ k=>o6 C X I k⟩;intro A' Q' E' s' k q;unfold isType loadHead;exact AA (wpAny_loadPart (k _ _ (X _ _ Z)) (AB q));refine Bool.eq_false_iff.mpr fun q=>?_;have e:D=tp:=Value.ref.inj (beq_iff_eq.mp q);subst e;have z:=(X _ _ Z).symm.trans R;cases z
 ·cases U
end EX
end
section
namespace EV
open PySem PySem.Spec PyProof.Rows L2
inductive PV where
 |non|bl (b:Bool)|int (i:Int)|str (x:Str)|tup (l:List PV)|lst (l:List PV)|ref (i:Nat)|dct|ty (n:String)|fn (a:Addr)|exc (c:Addr) (fs:List (Str×Int))
inductive SO where|l (xs:List PV)|d (En:List (List L2.Key×PV))|z (En:List (List L2.Key×PV))|k (En:List (L2.Key×PV))|y (En:List (L2.Key×PV))|o (C:Addr) (fs:List (Str×PV))
abbrev qC:=EK SO
structure gG where
 cls:Addr
 fs:List (Str×Int)
inductive Rs (α:Type) where
 |ok (a:α) (st:qC)|ex (x:gG) (st:qC)|no
def Rs.bind{α β:Type}(r:Rs α)(k:α->qC->Rs β):Rs β:=match r with| .ok a st=>k a st| .ex x st=>.ex x st| .no=>.no
abbrev qz:=EK (EO PV)
abbrev FE:=qz->qC->Rs PV
abbrev FA:=qz->qC->Rs (EK PV)
abbrev FT:=qz->qC->Rs Bool
inductive RS where
 |nx (e:qz) (st:qC)|rt (v:PV) (st:qC)|bk (e:qz) (st:qC)|ct (e:qz) (st:qC)|ex (x:gG) (st:qC)|no
abbrev FS:=qz->qC->RS
structure Bz where
 b:List Addr
 z:List Addr
def Bz.out(b:Bz)(a:EN):Prop:=a∉b.b∧a∉b.z
def KL(K:EQ)(a:EN)(xs:EK V):Prop :=
 ∃(o:Obj) (Eg:EZ EL) (n:Nat),K.lookup a=some o∧o.cls= .type "list" ∧o.dict=none∧o.data= .seq Eg n∧Eg.size≤sizeLine∧ei xs Eg.toList
def xu(K:EQ)(a:EN)(xs:EK V):Prop :=
 ∃(o:Obj) (Eg:EZ EL) (n:Nat),K.lookup a=some o∧o.cls= .type "tuple" ∧o.data= .seq Eg n∧Eg.size≤sizeLine∧ei xs Eg.toList
def KT(K:EQ)(a:EN)(xs:EK V):Prop:=xu K a xs∧False
def LA(K:EQ)(H:Hp)(b:Bz)(a:EN)(xs:EK V):Prop:=(Rd H a (.lst xs)∧b.out a)∨KL K a xs
def iF(K:EQ)(H:Hp)(b:Bz)(a:EN)(xs:EK V):Prop:=(H a=some (.tup xs)∧b.out a)∨KT K a xs
mutual
def RV(K:EQ)(H:Hp)(b:Bz):PV->V->Prop| .non,v=>v= .non| .bl x,v=>v= .bl x| .int i,v=>v= .int i| .str x,v=>v= .str x| .tup l,v=>∃a xs,v= .ref a∧iF K H b a xs∧ee K H b l xs| .lst l,v=>∃a xs,v= .ref a∧LA K H b a xs∧ee K H b l xs| .ref i,v=>∃a,v= .ref a∧b.b[i]? = some a| .dct,v=>∃a,v= .ref a∧H a=some (.dK [])∧b.out a| .ty n,v=>v= .ty n| .fn a,v=>v= .ref a| .exc c fs,v=>∃a o u,v= .ref a∧H a=some (.frz o u)∧b.out a∧o.cls= .ref c∧(∃vs,o.data= .fields vs)∧((fs=[]∧o.dict=none)∨∃d,o.dict=some d∧H d=some (.xd (fs.map fun p=>(p.1,V.int p.2)))∧b.out d)
def ee(K:EQ)(H:Hp)(b:Bz):EK PV->EK V->Prop|[],xs=>xs=[]|p::ps,xs=>∃x r,xs=x::r∧RV K H b p x∧ee K H b ps r
end
def gF(K:EQ)(H:Hp)(b:Bz):SO->HO->Prop| .l xs,o=>∃vs,o= .lst vs∧ee K H b xs vs| .d En,o=>∃vs,o= .dT vs∧En.map (·.1)=vs.map (·.1)∧ee K H b (En.map (·.2)) (vs.map (·.2))| .z En,o=>∃od vs,o= .frz od (.dT vs)∧En.map (·.1)=vs.map (·.1)∧ee K H b (En.map (·.2)) (vs.map (·.2))| .k En,o=>∃vs,o= .dK vs∧En.map (·.1)=vs.map (·.1)∧ee K H b (En.map (·.2)) (vs.map (·.2))| .y En,o=>∃od vs,o= .frz od (.dK vs)∧En.map (·.1)=vs.map (·.1)∧ee K H b (En.map (·.2)) (vs.map (·.2))| .o C fs,o=>∃dx vs,o= .ins C dx vs∧fs.map (·.1)=vs.map (·.1)∧ee K H b (fs.map (·.2)) (vs.map (·.2))
structure SR (K:W.Frag) (H:Hp) (b:Bz) (st:qC):Prop where
 len:b.b.length=st.length
 nd:b.b.Nodup
 at_:∀(i:Nat) (x:SO),st[i]? = some x->∃a o,b.b[i]? = some a∧H a=some o∧gF K H b x o
 zo:∀a∈b.z,∃xs,H a=some (.lst xs)
 zb:∀a∈b.z,a∉b.b
structure WE (H:Hp) (b:Bz) (H':Hp) (b':Bz):Prop where
 more:∃n,b'.b=b.b++n∧∀a∈n,H a=none
 zm:∃y,b'.z=y++b.z∧∀a∈y,H a=none
 keep:∀a o,H a=some o->b.out a->H' a=some o
 dom:∀a o,H a=some o->∃o',H' a=some o'
def WE.refl(H:Hp)(b:Bz):WE H b H b:=⟨⟨[],by simp,by simp⟩,⟨[],rfl,by simp⟩,fun _ _ h _=>h,fun _ o h=>⟨o,h⟩⟩
def WE.none_of{H H':Hp}{b b':Bz}(e:WE H b H' b'){a:EN}(h:H' a=none):H a=none:=by
 cases q:H a with|none=>rfl|some o=>obtain⟨o',F⟩:=e.dom a o q;rw[h]at F;cases F
def WE.not_in{H H':Hp}{b b':Bz}(e:WE H b H' b'){a:EN}{o:HO}(h:H a=some o)(Y:b.out a):b'.out a:=by
 obtain⟨n,hb,M⟩:=e.more;obtain⟨y,Z,I⟩:=e.zm;refine⟨fun hm=>?_,fun hm=>?_⟩
 ·rw[hb]at hm;rcases Ab.mp hm with hm|hm
  ·exact Y.1 hm
  ·rw[M a hm]at h;cases h
 ·rw[Z]at hm;rcases Ab.mp hm with hm|hm
  ·rw[I a hm]at h;cases h
  ·exact Y.2 hm
def WE.trans{H H1 Y:Hp}{b L U:Bz}(e:WE H b H1 L)(f:WE H1 L Y U):WE H b Y U:=by
 obtain⟨n,M,I⟩:=e.more;obtain⟨m,R,Z⟩:=f.more;obtain⟨y,q,F⟩:=e.zm;obtain⟨x,hx,hw⟩:=f.zm;refine⟨⟨n++m,by rw[R,M,Ah],fun a ha=>?_⟩,⟨x++y,by rw[hx,q,Ah],fun a ha=>?_⟩,fun a o h hb=>f.keep a o (e.keep a o h hb) (e.not_in h hb),fun a o h=>?_⟩
 ·rcases Ab.mp ha with ha|ha
  ·exact I a ha
  ·exact e.none_of (Z a ha)
 ·rcases Ab.mp ha with ha|ha
  ·exact e.none_of (hw a ha)
  ·exact F a ha
 ·obtain⟨o',h'⟩:=e.dom a o h;exact f.dom a o' h'
def WE.ix{H H':Hp}{b b':Bz}(e:WE H b H' b'){i:Nat}{a:EN}(h:b.b[i]? = some a):b'.b[i]? = some a:=by obtain⟨n,hb,_⟩:=e.more;have hi:i<b.b.length:=(Ag.mp h).1;rw[hb,Aq hi];exact h
def WE.new{H:Hp}{b:Bz}{p:EN}{o:HO}(h:H p=none):WE H b (eN H p o) b :=
 ⟨⟨[],by simp,by simp⟩,⟨[],rfl,by simp⟩,fun a u e _=>by rw[qP (qN e h)];exact e,fun a u e=>⟨u,by rw[qP (qN e h)];exact e⟩⟩
def WE.hide{H:Hp}{b:Bz}{p:EN}{o:HO}(h:H p=none):WE H b (eN H p o) ⟨b.b,p::b.z⟩ :=
 ⟨⟨[],by simp,by simp⟩,⟨[p],rfl,fun a F=>by rw[AX.mp F];exact h⟩,fun a u e _=>by rw[qP (qN e h)];exact e,fun a u e=>⟨u,by rw[qP (qN e h)];exact e⟩⟩
def WE.wr{H:Hp}{b:Bz}{p:EN}{o:HO}(h:p∈b.b∨p∈b.z):WE H b (eN H p o) b :=
 ⟨⟨[],by simp,by simp⟩,⟨[],rfl,by simp⟩,fun a u e hb=>by rw[qP (fun z=>h.elim (fun q=>hb.1 (by rw[z];exact q)) fun q=>hb.2 (by rw[z];exact q))];exact e,fun a u e=>by
  by_cases Z:a=p;exact⟨o,by rw[Z];exact QN⟩;exact⟨u,by rw[qP Z];exact e⟩⟩
def Rd.some_of{H:Hp}{a:EN}{u:HO}(h:Rd H a u):∃o,H a=some o:=h.elim (fun h=>⟨_,h⟩) fun⟨_,h⟩=>⟨_,h⟩
def Rd.wext{H H':Hp}{b b':Bz}{a:EN}{u:HO}(e:WE H b H' b')(h:Rd H a u∧b.out a):Rd H' a u∧b'.out a:=by
 obtain⟨o,Z⟩:=Rd.some_of h.1;refine⟨?_,e.not_in Z h.2⟩;rcases h.1 with q|⟨o',q⟩
 ·exact .inl (e.keep _ _ q h.2)
 ·exact .inr ⟨o',e.keep _ _ q h.2⟩
def LA.wext{K:EQ}{H H':Hp}{b b':Bz}{a:EN}{xs:EK V}(e:WE H b H' b')(h:LA K H b a xs):LA K H' b' a xs:=h.elim (fun h=>.inl (Rd.wext e h)) .inr
def iF.wext{K:EQ}{H H':Hp}{b b':Bz}{a:EN}{xs:EK V}(e:WE H b H' b')(h:iF K H b a xs):iF K H' b' a xs:=h.elim (fun h=>.inl ⟨e.keep _ _ h.1 h.2,e.not_in h.1 h.2⟩) .inr
def LA.sq{K:EQ}{H:Hp}{b:Bz}{a:EN}{xs:EK V}(h:LA K H b a xs):fm K H a xs:=h.elim (fun h=>.inl h.1) .inr
def iF.sq{K:EQ}{H:Hp}{b:Bz}{a:EN}{xs:EK V}(h:iF K H b a xs):fC K H a xs:=h.elim (fun h=>.inl (.inl h.1)) fun h=>.inr h.1
mutual
def RV.wext{K:EQ}{H H':Hp}{b b':Bz}(e:WE H b H' b'):∀(p:PV) {v:V},RV K H b p v->RV K H' b' p v| .non,_,h=>by unfold RV at h ⊢;exact h| .bl _,_,h=>by unfold RV at h ⊢;exact h| .int _,_,h=>by unfold RV at h ⊢;exact h| .str _,_,h=>by unfold RV at h ⊢;exact h| .tup l,_,h=>by unfold RV at h ⊢;obtain⟨a,xs,h1,h2,h3⟩:=h;exact⟨a,xs,h1,h2.wext e,ee.wext e l h3⟩| .lst l,_,h=>by unfold RV at h ⊢;obtain⟨a,xs,h1,h2,h3⟩:=h;exact⟨a,xs,h1,h2.wext e,ee.wext e l h3⟩| .ref i,_,h=>by unfold RV at h ⊢;obtain⟨a,h1,h2⟩:=h;exact⟨a,h1,e.ix h2⟩| .ty _,_,h=>by unfold RV at h ⊢;exact h| .fn _,_,h=>by unfold RV at h ⊢;exact h| .exc _ _,_,h=>by unfold RV at h ⊢;obtain⟨a,o,u,h1,h2,h3,h4,h6,h5⟩:=h;exact⟨a,o,u,h1,e.keep _ _ h2 h3,e.not_in h2 h3,h4,h6,h5.imp id fun⟨d,q1,q2,q3⟩=>⟨d,q1,e.keep _ _ q2 q3,e.not_in q2 q3⟩⟩| .dct,_,h=>by unfold RV at h ⊢;obtain⟨a,h1,h2,h3⟩:=h;exact⟨a,h1,e.keep _ _ h2 h3,e.not_in h2 h3⟩
def ee.wext{K:EQ}{H H':Hp}{b b':Bz}(e:WE H b H' b'):∀(l:EK PV) {xs:EK V},ee K H b l xs->ee K H' b' l xs|[],_,h=>by unfold ee at h ⊢;exact h|p::ps,_,h=>by unfold ee at h ⊢;obtain⟨x,r,h1,h2,h3⟩:=h;exact⟨x,r,h1,RV.wext e p h2,ee.wext e ps h3⟩
end
structure eE (H:Hp) (b:Bz) (H':Hp) (b':Bz):Prop extends WE H b H' b' where
 same:b'.z=b.z
 hid:∀a o,a∈b.z->H a=some o->H' a=some o
 fz:∀a o u,H a=some (.frz o u)->H' a=some (.frz o u)
def eE.refl(H:Hp)(b:Bz):eE H b H b:=⟨WE.refl H b,rfl,fun _ _ _ h=>h,fun _ _ _ h=>h⟩
def eE.none_of{H H':Hp}{b b':Bz}(e:eE H b H' b'){a:EN}(h:H' a=none):H a=none:=e.toWE.none_of h
def eE.trans{H H1 Y:Hp}{b L U:Bz}(e:eE H b H1 L)(f:eE H1 L Y U):eE H b Y U:=⟨e.toWE.trans f.toWE,f.same.trans e.same,fun a o F h=>f.hid a o (by rw[e.same];exact F) (e.hid a o F h),fun a o u h=>f.fz a o u (e.fz a o u h)⟩
def eE.new{H:Hp}{b:Bz}{p:EN}{o:HO}(h:H p=none):eE H b (eN H p o) b:=⟨WE.new h,rfl,fun a u _ e=>by rw[qP (qN e h)];exact e,fun a u _ e=>by rw[qP (qN e h)];exact e⟩
def eE.wr{H:Hp}{b:Bz}{p:EN}{o:HO}(h:p∈b.b)(Z:∀a∈b.z,a∉b.b)(F:∀o u,H p≠some (.frz o u)):eE H b (eN H p o) b:=⟨WE.wr (.inl h),rfl,fun a u R e=>by rw[qP (fun z=>Z a R (by rw[z];exact h))];exact e,fun a u v e=>by rw[qP (fun z=>F u v (by rw[←z];exact e))];exact e⟩
def rZ{H:Hp}{p:EN}{u:HO}(h:H p=some u)(q:∀o v,u≠ .frz o v):∀o v,H p≠some (.frz o v):=fun o v z=>by rw[h]at z;cases z;exact q _ _ rfl
def lc{H:Hp}{p:EN}{xs:EK V}(h:H p=some (.lst xs)):∀o v,H p≠some (.frz o v):=rZ h fun _ _ z=>nomatch z
def eE.of_same{H H':Hp}{b:Bz}(h:gq H H'):eE H b H' b:=⟨⟨⟨[],by simp,by simp⟩,⟨[],rfl,by simp⟩,fun a o e _=>h a o e,fun a o e=>⟨o,h a o e⟩⟩,rfl,fun a o _ e=>h a o e,fun a o u e=>h a _ e⟩
def RV.ext{K:EQ}{H H':Hp}{b b':Bz}(e:eE H b H' b')(p:PV){v:V}(h:RV K H b p v):RV K H' b' p v:=RV.wext e.toWE p h
def ee.ext{K:EQ}{H H':Hp}{b b':Bz}(e:eE H b H' b')(l:EK PV){xs:EK V}(h:ee K H b l xs):ee K H' b' l xs:=ee.wext e.toWE l h
def ee.length{K:EQ}{H:Hp}{b:Bz}:∀{l:EK PV} {xs:EK V},ee K H b l xs->l.length=xs.length|[],_,h=>by unfold ee at h;rw[h];rfl|p::ps,_,h=>by unfold ee at h;obtain⟨x,r,rfl,_,F⟩:=h;rw[Aa,Aa,ee.length F]
def ee.nil{K:EQ}{H:Hp}{b:Bz}:ee K H b [] []:=by unfold ee;rfl
def ee.cons{K:EQ}{H:Hp}{b:Bz}{p:PV}{ps:EK PV}{x:V}{r:EK V}(h:RV K H b p x)(t:ee K H b ps r):ee K H b (p::ps) (x::r):=by unfold ee;exact⟨x,r,rfl,h,t⟩
def ee.get{K:EQ}{H:Hp}{b:Bz}:∀{l:EK PV} {xs:EK V} {i:Nat} {p:PV},ee K H b l xs->l[i]? = some p->∃x,xs[i]? = some x∧RV K H b p x
 |[],_,_,_,_,h=>by simp at h
 |q::ps,_,0,p,r,h=>by unfold ee at r;obtain⟨x,t,rfl,U,F⟩:=r;simp at h;subst h;exact⟨x,rfl,U⟩
 |q::ps,_,i+1,p,r,h=>by
  unfold ee at r;obtain⟨x,t,rfl,U,F⟩:=r;obtain⟨y,e,I⟩:=ee.get (i:=i) F (by simpa using h);exact⟨y,by simpa using e,I⟩
def ee.append{K:EQ}{H:Hp}{b:Bz}:∀{l m:EK PV} {xs M:EK V},ee K H b l xs->ee K H b m M->ee K H b (l++m) (xs++M)|[],_,_,_,h,g=>by unfold ee at h;subst h;exact g|p::ps,_,_,_,h,g=>by unfold ee at h;obtain⟨x,r,rfl,U,F⟩:=h;exact ee.cons U (ee.append F g)
def ee.take{K:EQ}{H:Hp}{b:Bz}:∀{l:EK PV} {xs:EK V} (n:Nat),ee K H b l xs->ee K H b (l.take n) (xs.take n)|_,_,0,_=>ee.nil|[],_,_+1,h=>by unfold ee at h;subst h;exact ee.nil|p::ps,_,n+1,h=>by unfold ee at h;obtain⟨x,r,rfl,U,F⟩:=h;exact ee.cons U (ee.take n F)
def ee.drop{K:EQ}{H:Hp}{b:Bz}:∀{l:EK PV} {xs:EK V} (n:Nat),ee K H b l xs->ee K H b (l.drop n) (xs.drop n)|_,_,0,h=>h|[],_,_+1,h=>by unfold ee at h;subst h;exact ee.nil|p::ps,_,n+1,h=>by unfold ee at h;obtain⟨x,r,rfl,U,F⟩:=h;exact ee.drop n F
def ee.set{K:EQ}{H:Hp}{b:Bz}{p:PV}{x:V}(L:RV K H b p x):∀{l:EK PV} {xs:EK V} (n:Nat),ee K H b l xs->ee K H b (l.set n p) (xs.set n x)|[],_,_,h=>by unfold ee at h;subst h;exact ee.nil|q::ps,_,0,h=>by unfold ee at h;obtain⟨y,r,rfl,U,F⟩:=h;exact ee.cons L F|q::ps,_,n+1,h=>by unfold ee at h;obtain⟨y,r,rfl,U,F⟩:=h;exact ee.cons U (ee.set L n F)
def gF.wext{K:EQ}{H H':Hp}{b b':Bz}(e:WE H b H' b'):∀{x:SO} {o:HO},gF K H b x o->gF K H' b' x o| .l xs,_,⟨vs,h,r⟩=>⟨vs,h,ee.wext e xs r⟩| .d En,_,⟨vs,h,q,r⟩=>⟨vs,h,q,ee.wext e _ r⟩| .z En,_,⟨od,vs,h,q,r⟩=>⟨od,vs,h,q,ee.wext e _ r⟩| .k En,_,⟨vs,h,q,r⟩=>⟨vs,h,q,ee.wext e _ r⟩| .y En,_,⟨od,vs,h,q,r⟩=>⟨od,vs,h,q,ee.wext e _ r⟩| .o C fs,_,⟨dx,vs,h,q,r⟩=>⟨dx,vs,h,q,ee.wext e _ r⟩
def gF.ext{K:EQ}{H H':Hp}{b b':Bz}(e:eE H b H' b'){x:SO}{o:HO}(h:gF K H b x o):gF K H' b' x o:=h.wext e.toWE
def SR.mem{K:EQ}{H:Hp}{b:Bz}{st:qC}(S:SR K H b st){a:EN}(h:a∈b.b):∃o,H a=some o:=by
 obtain⟨i,hi⟩:=List.getElem?_of_mem h;have hl:i<b.b.length:=(Ag.mp hi).1;have hs:st[i]? = some (st[i]'(by rw[←S.len];exact hl)):=AE _;obtain⟨L,o,Y,U,_⟩:=S.at_ i _ hs;rw[hi]at Y;cases Y;exact⟨o,U⟩
def SR.new_notin{K:EQ}{H:Hp}{b:Bz}{st:qC}(S:SR K H b st){p:EN}(h:H p=none):b.out p :=
 ⟨fun M=>(by obtain⟨o,e⟩:=S.mem M;rw[h]at e;cases e),fun M=>(by obtain⟨o,e⟩:=S.zo p M;rw[h]at e;cases e)⟩
def SR.new{K:EQ}{H:Hp}{b:Bz}{st:qC}(S:SR K H b st){p:EN}{o:HO}(h:H p=none):SR K (eN H p o) b st :=
 ⟨S.len,S.nd,fun i x M=>by
  obtain⟨a,u,Y,U,F⟩:=S.at_ i x M;exact⟨a,u,Y,by rw[qP (qN U h)];exact U,F.ext (eE.new h)⟩,fun a R=>by
  obtain⟨u,e⟩:=S.zo a R;exact⟨u,by rw[qP (qN e h)];exact e⟩,S.zb⟩
def tD{b:EK EN}(nd:b.Nodup){i j:Nat}{x:EN}(Y:b[i]? = some x)(U:b[j]? = some x):i=j:=by obtain⟨hi,Z⟩:=Ag.mp Y;obtain⟨F,R⟩:=Ag.mp U;exact (List.getElem_inj nd).mp (Z.trans R.symm)
def SR.wr{K:EQ}{H:Hp}{b:Bz}{st:qC}(S:SR K H b st){i:Nat}{p:EN}{x:SO}{o:HO}(L:b.b[i]? = some p)(U:gF K (eN H p o) b x o):SR K (eN H p o) b (st.set i x):=by
 have M:p∈b.b:=Bh L;refine⟨by simp[S.len],S.nd,fun j y I=>?_,fun a R=>?_,S.zb⟩
 ·have hl:i<b.b.length:=(Ag.mp L).1;by_cases F:j=i
  ·subst F;rw[BB (by rw[←S.len];exact hl)]at I;cases I;exact⟨p,o,L,QN,U⟩
  ·rw[BQ (Ne.symm F)]at I;obtain⟨a,u,Z,q,h3⟩:=S.at_ j y I;have Y:a≠p:=fun z=>F (by subst z;exact tD S.nd Z L);exact⟨a,u,Z,by rw[qP Y];exact q,h3.wext (WE.wr (.inl M))⟩
 ·obtain⟨u,e⟩:=S.zo a R;have hz:a≠p:=fun z=>S.zb a R (by rw[z];exact M);exact⟨u,by rw[qP hz];exact e⟩
def SR.wrz{K:EQ}{H:Hp}{b:Bz}{st:qC}(S:SR K H b st){p:EN}{M:EK V}(L:p∈b.z):SR K (eN H p (.lst M)) b st:=by
 refine⟨S.len,S.nd,fun j y I=>?_,fun a R=>?_,S.zb⟩
 ·obtain⟨a,u,F,U,q⟩:=S.at_ j y I;have Y:a≠p:=fun z=>by subst z;exact S.zb a L (Bh F)
  exact⟨a,u,F,by rw[qP Y];exact U,q.wext (WE.wr (.inr L))⟩
 ·obtain⟨u,e⟩:=S.zo a R;by_cases Z:a=p;exact⟨M,by rw[Z];exact QN⟩;exact⟨u,by rw[qP Z];exact e⟩
structure Sh (b b':Bz):Prop where
 ix:∀(i:Nat) (a:Addr),b.b[i]? = some a->b'.b[i]? = some a
 out:∀a,b.out a->b'.out a
mutual
def RV.sh{K:EQ}{H:Hp}{b b':Bz}(e:Sh b b'):∀(p:PV) {v:V},RV K H b p v->RV K H b' p v| .non,_,h=>by unfold RV at h ⊢;exact h| .bl _,_,h=>by unfold RV at h ⊢;exact h| .int _,_,h=>by unfold RV at h ⊢;exact h| .str _,_,h=>by unfold RV at h ⊢;exact h| .tup l,_,h=>by unfold RV at h ⊢;obtain⟨a,xs,h1,h2,h3⟩:=h;exact⟨a,xs,h1,h2.elim (fun q=>.inl ⟨q.1,e.out a q.2⟩) .inr,ee.sh e l h3⟩| .lst l,_,h=>by unfold RV at h ⊢;obtain⟨a,xs,h1,h2,h3⟩:=h;exact⟨a,xs,h1,h2.elim (fun q=>.inl ⟨q.1,e.out a q.2⟩) .inr,ee.sh e l h3⟩| .ref i,_,h=>by unfold RV at h ⊢;obtain⟨a,h1,h2⟩:=h;exact⟨a,h1,e.ix i a h2⟩| .ty _,_,h=>by unfold RV at h ⊢;exact h| .fn _,_,h=>by unfold RV at h ⊢;exact h| .exc _ _,_,h=>by unfold RV at h ⊢;obtain⟨a,o,u,h1,h2,h3,h4,h6,h5⟩:=h;exact⟨a,o,u,h1,h2,e.out a h3,h4,h6,h5.imp id fun⟨d,q1,q2,q3⟩=>⟨d,q1,q2,e.out d q3⟩⟩| .dct,_,h=>by unfold RV at h ⊢;obtain⟨a,h1,h2,h3⟩:=h;exact⟨a,h1,h2,e.out a h3⟩
def ee.sh{K:EQ}{H:Hp}{b b':Bz}(e:Sh b b'):∀(l:EK PV) {xs:EK V},ee K H b l xs->ee K H b' l xs|[],_,h=>by unfold ee at h ⊢;exact h|p::ps,_,h=>by unfold ee at h ⊢;obtain⟨x,r,h1,h2,h3⟩:=h;exact⟨x,r,h1,RV.sh e p h2,ee.sh e ps h3⟩
end
def gF.sh{K:EQ}{H:Hp}{b b':Bz}(e:Sh b b'):∀{x:SO} {o:HO},gF K H b x o->gF K H b' x o| .l xs,_,⟨vs,h,r⟩=>⟨vs,h,ee.sh e xs r⟩| .d En,_,⟨vs,h,q,r⟩=>⟨vs,h,q,ee.sh e _ r⟩| .z En,_,⟨od,vs,h,q,r⟩=>⟨od,vs,h,q,ee.sh e _ r⟩| .k En,_,⟨vs,h,q,r⟩=>⟨vs,h,q,ee.sh e _ r⟩| .y En,_,⟨od,vs,h,q,r⟩=>⟨od,vs,h,q,ee.sh e _ r⟩| .o C fs,_,⟨dx,vs,h,q,r⟩=>⟨dx,vs,h,q,ee.sh e _ r⟩
def Sh.bare{b:EK EN}{p:EN}{z:EK EN}:Sh ⟨b,p::z⟩ ⟨b,z⟩:=⟨fun _ _ h=>h,fun a h=>⟨h.1,fun q=>h.2 (AO _ q)⟩⟩
def Sh.slot{b:EK EN}{p:EN}{z:EK EN}:Sh ⟨b,p::z⟩ ⟨b++[p],z⟩:=⟨fun i a h=>by
  rw[Aq (Ag.mp h).1];exact h,fun a h=>⟨fun q=>(Ab.mp q).elim h.1 fun q=>h.2 (by rw[AX.mp q];exact AT),fun q=>h.2 (AO _ q)⟩⟩
def RV.hide{K:EQ}{H:Hp}{b z:EK EN}{p:EN}{o:HO}(hp:H p=none)(q:PV){v:V}(h:RV K H ⟨b,z⟩ q v):RV K (eN H p o) ⟨b,p::z⟩ q v:=hd q h
where
 outp {a:Addr} {u:HO} (e:H a=some u) (h:Bz.out ⟨b,z⟩ a):Bz.out ⟨b,p::z⟩ a:=⟨h.1,fun q=>(AJ.mp q).elim (fun q=>by subst q;rw[hp]at e;cases e) h.2⟩
 rdd {a:Addr} {u:HO} (h:Rd H a u∧Bz.out ⟨b,z⟩ a):Rd (eN H p o) a u∧Bz.out ⟨b,p::z⟩ a:=by
  obtain⟨w,hw⟩:=Rd.some_of h.1;refine⟨?_,outp hw h.2⟩;rcases h.1 with q|⟨o',q⟩
  ·exact .inl (by rw[qP (qN q hp)];exact q)
  ·exact .inr ⟨o',by rw[qP (qN q hp)];exact q⟩
 hd:∀(q:PV) {v:V},RV K H ⟨b,z⟩ q v->RV K (eN H p o) ⟨b,p::z⟩ q v
 | .non,_,h=>by unfold RV at h ⊢;exact h
 | .bl _,_,h=>by unfold RV at h ⊢;exact h
 | .int _,_,h=>by unfold RV at h ⊢;exact h
 | .str _,_,h=>by unfold RV at h ⊢;exact h
 | .tup l,_,h=>by unfold RV at h ⊢;obtain⟨a,xs,h1,h2,h3⟩:=h;exact⟨a,xs,h1,h2.elim (fun q=>.inl ⟨by rw[qP (qN q.1 hp)];exact q.1,outp q.1 q.2⟩) .inr,hds l h3⟩
 | .lst l,_,h=>by unfold RV at h ⊢;obtain⟨a,xs,h1,h2,h3⟩:=h;exact⟨a,xs,h1,h2.elim (fun q=>.inl (rdd q)) .inr,hds l h3⟩
 | .ref i,_,h=>by unfold RV at h ⊢;exact h
 | .ty _,_,h=>by unfold RV at h ⊢;exact h
 | .fn _,_,h=>by unfold RV at h ⊢;exact h
 | .exc _ _,_,h=>by unfold RV at h ⊢;obtain⟨a,o',u,h1,h2,h3,h4,h6,h5⟩:=h;exact⟨a,o',u,h1,by rw[qP (qN h2 hp)];exact h2,outp h2 h3,h4,h6,h5.imp id fun⟨d,q1,q2,q3⟩=>⟨d,q1,by rw[qP (qN q2 hp)];exact q2,outp q2 q3⟩⟩
 | .dct,_,h=>by unfold RV at h ⊢;obtain⟨a,h1,h2,h3⟩:=h;exact⟨a,h1,by rw[qP (qN h2 hp)];exact h2,outp h2 h3⟩
 hds:∀(l:List PV) {xs:List V},ee K H ⟨b,z⟩ l xs->ee K (eN H p o) ⟨b,p::z⟩ l xs
 |[],_,h=>by unfold ee at h ⊢;exact h
 |q::ps,_,h=>by unfold ee at h ⊢;obtain⟨x,r,h1,h2,h3⟩:=h;exact⟨x,r,h1,hd q h2,hds ps h3⟩
def SR.hide{K:EQ}{H:Hp}{b z:EK EN}{st:qC}(S:SR K H ⟨b,z⟩ st){p:EN}{M:EK V}(L:H p=none):SR K (eN H p (.lst M)) ⟨b,p::z⟩ st:=by
 have Y:=S.new_notin L;refine⟨S.len,S.nd,fun i x I=>?_,fun a ha=>?_,fun a ha=>?_⟩
 ·obtain⟨a,u,h1,U,F⟩:=S.at_ i x I;refine⟨a,u,h1,by rw[qP (qN U L)];exact U,?_⟩;cases x with|l xs=>obtain⟨vs,Z,R⟩:=F;exact⟨vs,Z,RV.hide.hds L xs R⟩|d En=>obtain⟨vs,Z,R,q⟩:=F;exact⟨vs,Z,R,RV.hide.hds L _ q⟩|z En=>obtain⟨od,vs,Z,R,q⟩:=F;exact⟨od,vs,Z,R,RV.hide.hds L _ q⟩|k En=>obtain⟨vs,Z,R,q⟩:=F;exact⟨vs,Z,R,RV.hide.hds L _ q⟩|y En=>obtain⟨od,vs,Z,R,q⟩:=F;exact⟨od,vs,Z,R,RV.hide.hds L _ q⟩|o C fs=>obtain⟨dx,vs,Z,R,q⟩:=F;exact⟨dx,vs,Z,R,RV.hide.hds L _ q⟩
 ·rcases AJ.mp ha with rfl|ha
  ·exact⟨M,QN⟩
  ·obtain⟨u,e⟩:=S.zo a ha;exact⟨u,by rw[qP (qN e L)];exact e⟩
 ·rcases AJ.mp ha with rfl|ha
  ·exact Y.1
  ·exact S.zb a ha
def SR.bare{K:EQ}{H:Hp}{b z:EK EN}{st:qC}{p:EN}(S:SR K H ⟨b,p::z⟩ st):SR K H ⟨b,z⟩ st :=
 ⟨S.len,S.nd,fun i x M=>by
  obtain⟨a,u,Y,U,I⟩:=S.at_ i x M;exact⟨a,u,Y,U,I.sh Sh.bare⟩,fun a F=>S.zo a (AO _ F),fun a F=>S.zb a (AO _ F)⟩
def SR.slot{K:EQ}{H:Hp}{b z:EK EN}{st:qC}{p:EN}{x:SO}{o:HO}(S:SR K H ⟨b,p::z⟩ st)(Z:p∉z)(R:H p=some o)(M:gF K H ⟨b,p::z⟩ x o):SR K H ⟨b++[p],z⟩ (st++[x]):=by
 have L:p∉b:=S.zb p AT;refine⟨by simp[show b.length=st.length from S.len],?_,fun i y I=>?_,fun a F=>S.zo a (AO _ F),fun a F Y=>?_⟩;exact List.nodup_append.mpr ⟨S.nd,by simp,fun a F c hc=>by rw[AX.mp hc];intro z;subst z;exact L F⟩
 ·by_cases hi:i<st.length;rw[Aq hi]at I;obtain⟨a,u,h1,h2,h3⟩:=S.at_ i y I;exact⟨a,u,Sh.slot.ix i a h1,h2,h3.sh Sh.slot⟩
  ·have U:i=st.length:=by
    have:=(Ag.mp I).1
    rw[Ac,Ck]at this;omega
   subst U;have e1:(st++[x])[st.length]? = some x:=by simp
   rw[e1]at I;cases I;have hl:b.length=st.length:=S.len;exact⟨p,o,by show (b++[p])[st.length]? = some p;rw[←hl];simp,R,M.sh Sh.slot⟩
 ·rcases Ab.mp Y with q|q
  ·exact S.zb a (AO _ F) q
  ·rw[AX.mp q]at F;exact Z F
def eI(K:EQ)(H:Hp)(b:Bz)(r:qz)(s:L2.St):Prop:=r.length=s.length∧∀(i:Nat) (p:PV),r[i]? = some (some p)->∃v,s[i]? = some (some v)∧RV K H b p v
def eI.wext{K:EQ}{H H':Hp}{b b':Bz}{r:qz}{s:L2.St}(h:eI K H b r s)(e:WE H b H' b'):eI K H' b' r s:=⟨h.1,fun i p q=>by
 obtain⟨v,Y,U⟩:=h.2 i p q;exact⟨v,Y,RV.wext e p U⟩⟩
def eI.ext{K:EQ}{H H':Hp}{b b':Bz}{r:qz}{s:L2.St}(h:eI K H b r s)(e:eE H b H' b'):eI K H' b' r s:=⟨h.1,fun i p q=>by
 obtain⟨v,Y,U⟩:=h.2 i p q;exact⟨v,Y,RV.ext e p U⟩⟩
def eI.set{K:EQ}{H:Hp}{b:Bz}{r:qz}{s:L2.St}{p:PV}{v:V}(h:eI K H b r s)(L:RV K H b p v)(i:Nat):eI K H b (r.set i (some p)) (s.set i (some v)):=by
 refine⟨by simp[h.1],fun j q Z=>?_⟩;by_cases F:i=j
 ·subst F;have hl:i<r.length:=by
   have:=(Ag.mp Z).1
   simpa using this
  rw[BB hl]at Z;cases Z;exact⟨v,by rw[BB (by rw[←h.1];exact hl)],L⟩
 ·rw[BQ F]at Z;obtain⟨w,Y,U⟩:=h.2 j q Z;exact⟨w,by rw[BQ F];exact Y,U⟩
def RX(K:EQ)(H:Hp)(b:Bz)(x:gG)(c:EL)(d:EO EN):Prop :=
 c= .ref x.cls∧((x.fs=[]∧d=none)∨∃a,d=some a∧H a=some (.xd (x.fs.map fun p=>(p.1,V.int p.2)))∧b.out a)
def XP(K:EQ)(E:XK)(H:Hp)(b:Bz)(x:gG)(st:qC):Prop:=∀c d H' b',eE H b H' b'->SR K H' b' st->RX K H' b' x c d->E c d H'
def XP.ext{K:EQ}{E:XK}{H H1:Hp}{b L:Bz}{x:gG}{st:qC}(h:XP K E H b x st)(e:eE H b H1 L):XP K E H1 L x st:=fun c d H' b' F S r=>h c d H' b' (e.trans F) S r
def ed(K:EQ)(E:XK)(H:Hp)(b:Bz)(r:Rs PV)(Q:VK):Prop:=match r with| .ok p st=>∀v H' b',eE H b H' b'->SR K H' b' st->RV K H' b' p v->Q v H'| .ex x st=>XP K E H b x st| .no=>False
def eG(K:EQ)(E:XK)(H:Hp)(b:Bz)(r:Rs (EK PV))(Q:EK V->Hp->Prop):Prop:=match r with| .ok ps st=>∀vs H' b',eE H b H' b'->SR K H' b' st->ee K H' b' ps vs->Q vs H'| .ex x st=>XP K E H b x st| .no=>False
def eS(K:EQ)(E:XK)(H:Hp)(b:Bz)(r:Rs Bool)(Q:Bool->Hp->Prop):Prop:=match r with| .ok k st=>∀H' b',eE H b H' b'->SR K H' b' st->Q k H'| .ex x st=>XP K E H b x st| .no=>False
def eD(K:EQ)(E:XK)(H:Hp)(b:Bz)(r:RS)(D:fF):Prop:=match r with| .nx e st=>∀s H' b',eE H b H' b'->SR K H' b' st->eI K H' b' e s->D.nx s H'| .bk e st=>∀s H' b',eE H b H' b'->SR K H' b' st->eI K H' b' e s->D.bk s H'| .ct e st=>∀s H' b',eE H b H' b'->SR K H' b' st->eI K H' b' e s->D.ct s H'| .rt p st=>∀v H' b',eE H b H' b'->SR K H' b' st->RV K H' b' p v->D.rt v H'| .ex x st=>XP K E H b x st| .no=>False
def ed.ext{K:EQ}{E:XK}{H H1:Hp}{b L:Bz}{r:Rs PV}{Q:VK}(h:ed K E H b r Q)(e:eE H b H1 L):ed K E H1 L r Q:=by
 cases r with|ok p st=>exact fun v H' b' F=>h v H' b' (e.trans F)|ex x st=>exact XP.ext h e|no=>exact h
def eG.ext{K:EQ}{E:XK}{H H1:Hp}{b L:Bz}{r:Rs (EK PV)}{Q:EK V->Hp->Prop}(h:eG K E H b r Q)(e:eE H b H1 L):eG K E H1 L r Q:=by
 cases r with|ok p st=>exact fun v H' b' F=>h v H' b' (e.trans F)|ex x st=>exact XP.ext h e|no=>exact h
def eS.ext{K:EQ}{E:XK}{H H1:Hp}{b L:Bz}{r:Rs Bool}{Q:Bool->Hp->Prop}(h:eS K E H b r Q)(e:eE H b H1 L):eS K E H1 L r Q:=by
 cases r with|ok p st=>exact fun H' b' F=>h H' b' (e.trans F)|ex x st=>exact XP.ext h e|no=>exact h
def eD.ext{K:EQ}{E:XK}{H H1:Hp}{b L:Bz}{r:RS}{D:fF}(h:eD K E H b r D)(e:eE H b H1 L):eD K E H1 L r D:=by
 cases r with|nx p st=>exact fun v H' b' F=>h v H' b' (e.trans F)|bk p st=>exact fun v H' b' F=>h v H' b' (e.trans F)|ct p st=>exact fun v H' b' F=>h v H' b' (e.trans F)|rt p st=>exact fun v H' b' F=>h v H' b' (e.trans F)|ex x st=>exact XP.ext h e|no=>exact h
def rd(K:EQ)(E:XK)(f:FE):TE:=fun s H Q=>∃b r st,SR K H b st∧eI K H b r s∧ed K E H b (f r st) Q
def DG(K:EQ)(E:XK)(f:FA):L2.TA:=fun s H Q=>∃b r st,SR K H b st∧eI K H b r s∧eG K E H b (f r st) Q
def ko(K:EQ)(E:XK)(f:FT):TT:=fun s H Q=>∃b r st,SR K H b st∧eI K H b r s∧eS K E H b (f r st) Q
def i7(K:EQ)(E:XK)(f:FS):TS:=fun D s H=>∃b r st,SR K H b st∧eI K H b r s∧eD K E H b (f r st) D
abbrev VE(X:Cx)(E:XK)(e:EY)(f:FE):Prop:=PE X e (rd X.K E f)
abbrev VA(X:Cx)(E:XK)(e:EK EY)(f:FA):Prop:=PA X e (DG X.K E f)
abbrev VT(X:Cx)(E:XK)(e:EY)(f:FT):Prop:=PT X e (ko X.K E f)
abbrev VS(X:Cx)(E:XK)(e:Stmt)(f:FS):Prop:=PS X e (i7 X.K E f)
abbrev gM(X:Cx)(E:XK)(e:EK Stmt)(f:FS):Prop:=f8 X e (i7 X.K E f)
def PE.imp{X:Cx}{e:EY}{t t':TE}(h:PE X e t)(i:∀s H Q,t' s H Q->t s H Q):PE X e t':=fun Ee s σ H Q I q=>h Ee s σ H Q I (i _ _ _ q)
def PT.imp{X:Cx}{e:EY}{t t':TT}(h:PT X e t)(i:∀s H Q,t' s H Q->t s H Q):PT X e t':=fun Ee s σ H Q I q=>h Ee s σ H Q I (i _ _ _ q)
def PA.imp{X:Cx}{e:EK EY}{t t':L2.TA}(h:PA X e t)(i:∀s H Q,t' s H Q->t s H Q):PA X e t':=fun F Ee s σ H Q I q=>h F Ee s σ H Q I (i _ _ _ q)
def PS.imp{X:Cx}{e:Stmt}{t t':TS}(h:PS X e t)(i:∀D s H,t' D s H->t D s H):PS X e t':=fun Ee s σ H D I q=>h Ee s σ H D I (i _ _ _ q)
def f8.imp{X:Cx}{e:EK Stmt}{t t':TS}(h:f8 X e t)(i:∀D s H,t' D s H->t D s H):f8 X e t':=fun Ee s σ H D I q=>h Ee s σ H D I (i _ _ _ q)
def ed.bind{K:EQ}{E:XK}{H:Hp}{b:Bz}{r:Rs PV}{k:PV->qC->Rs PV}{Q R:VK}(P:ed K E H b (r.bind k) Q)
  (h:∀p st v H1 L,eE H b H1 L->SR K H1 L st->RV K H1 L p v->ed K E H1 L (k p st) Q->R v H1):ed K E H b r R:=by
 cases r with|ok p st=>exact fun v H1 L e S r=>h p st v H1 L e S r (ed.ext (show ed K E H b (k p st) Q from P) e)|ex x st=>exact P|no=>exact P
def ed.bindT{K:EQ}{E:XK}{H:Hp}{b:Bz}{r:Rs PV}{k:PV->qC->Rs Bool}{Q:Bool->Hp->Prop}{R:VK}(P:eS K E H b (r.bind k) Q)
  (h:∀p st v H1 L,eE H b H1 L->SR K H1 L st->RV K H1 L p v->eS K E H1 L (k p st) Q->R v H1):ed K E H b r R:=by
 cases r with|ok p st=>exact fun v H1 L e S r=>h p st v H1 L e S r (eS.ext (show eS K E H b (k p st) Q from P) e)|ex x st=>exact P|no=>exact P
def eS.bindT{K:EQ}{E:XK}{H:Hp}{b:Bz}{r:Rs Bool}{k:Bool->qC->Rs Bool}{Q R:Bool->Hp->Prop}(P:eS K E H b (r.bind k) Q)
  (h:∀p st H1 L,eE H b H1 L->SR K H1 L st->eS K E H1 L (k p st) Q->R p H1):eS K E H b r R:=by
 cases r with|ok p st=>exact fun H1 L e S=>h p st H1 L e S (eS.ext (show eS K E H b (k p st) Q from P) e)|ex x st=>exact P|no=>exact P
def eG.bind{K:EQ}{E:XK}{H:Hp}{b:Bz}{r:Rs (EK PV)}{k:EK PV->qC->Rs PV}{Q:VK}{R:EK V->Hp->Prop}(P:ed K E H b (r.bind k) Q)
  (h:∀p st v H1 L,eE H b H1 L->SR K H1 L st->ee K H1 L p v->ed K E H1 L (k p st) Q->R v H1):eG K E H b r R:=by
 cases r with|ok p st=>exact fun v H1 L e S r=>h p st v H1 L e S r (ed.ext (show ed K E H b (k p st) Q from P) e)|ex x st=>exact P|no=>exact P
def ed.bindA{K:EQ}{E:XK}{H:Hp}{b:Bz}{r:Rs PV}{k:PV->qC->Rs (EK PV)}{Q:EK V->Hp->Prop}{R:VK}(P:eG K E H b (r.bind k) Q)
  (h:∀p st v H1 L,eE H b H1 L->SR K H1 L st->RV K H1 L p v->eG K E H1 L (k p st) Q->R v H1):ed K E H b r R:=by
 cases r with|ok p st=>exact fun v H1 L e S r=>h p st v H1 L e S r (eG.ext (show eG K E H b (k p st) Q from P) e)|ex x st=>exact P|no=>exact P
def eG.bindA{K:EQ}{E:XK}{H:Hp}{b:Bz}{r:Rs (EK PV)}{k:EK PV->qC->Rs (EK PV)}{Q R:EK V->Hp->Prop}(P:eG K E H b (r.bind k) Q)
  (h:∀p st v H1 L,eE H b H1 L->SR K H1 L st->ee K H1 L p v->eG K E H1 L (k p st) Q->R v H1):eG K E H b r R:=by
 cases r with|ok p st=>exact fun v H1 L e S r=>h p st v H1 L e S r (eG.ext (show eG K E H b (k p st) Q from P) e)|ex x st=>exact P|no=>exact P
def Rs.bindS{α:Type}(r:Rs α)(k:α->qC->RS):RS:=match r with| .ok a st=>k a st| .ex x st=>.ex x st| .no=>.no
def ed.bindS{K:EQ}{E:XK}{H:Hp}{b:Bz}{r:Rs PV}{k:PV->qC->RS}{D:fF}{R:VK}(P:eD K E H b (r.bindS k) D)
  (h:∀p st v H1 L,eE H b H1 L->SR K H1 L st->RV K H1 L p v->eD K E H1 L (k p st) D->R v H1):ed K E H b r R:=by
 cases r with|ok p st=>exact fun v H1 L e S r=>h p st v H1 L e S r (eD.ext (show eD K E H b (k p st) D from P) e)|ex x st=>exact P|no=>exact P
def eS.bindS{K:EQ}{E:XK}{H:Hp}{b:Bz}{r:Rs Bool}{k:Bool->qC->RS}{D:fF}{R:Bool->Hp->Prop}(P:eD K E H b (r.bindS k) D)
  (h:∀p st H1 L,eE H b H1 L->SR K H1 L st->eD K E H1 L (k p st) D->R p H1):eS K E H b r R:=by
 cases r with|ok p st=>exact fun H1 L e S=>h p st H1 L e S (eD.ext (show eD K E H b (k p st) D from P) e)|ex x st=>exact P|no=>exact P
def eG.bindS{K:EQ}{E:XK}{H:Hp}{b:Bz}{r:Rs (EK PV)}{k:EK PV->qC->RS}{D:fF}{R:EK V->Hp->Prop}(P:eD K E H b (r.bindS k) D)
  (h:∀p st v H1 L,eE H b H1 L->SR K H1 L st->ee K H1 L p v->eD K E H1 L (k p st) D->R v H1):eG K E H b r R:=by
 cases r with|ok p st=>exact fun v H1 L e S r=>h p st v H1 L e S r (eD.ext (show eD K E H b (k p st) D from P) e)|ex x st=>exact P|no=>exact P
def fJ(st:qC):PV->EO (EK PV)
 | .lst l=>some l
 | .ref i=>match st[i]? with|some (.l xs)=>some xs|_=>none
 |_=>none
def Ea:PV->EO (EK PV)| .tup l=>some l|_=>none
def WN(st:qC)(p:PV):EO (EK PV):=match p with| .tup l=>some l|p=>fJ st p
section
variable{K:EQ}{H:Hp}{b:Bz}{st:qC}{p:PV}{v:V}{l:EK PV}
def Q6(S:SR K H b st)(r:RV K H b p v)(h:fJ st p=some l):∃a xs,v= .ref a∧fm K H a xs∧ee K H b l xs:=by
 cases p with
 |lst m=>unfold RV at r;obtain⟨a,xs,Y,U,F⟩:=r;have e:m=l:=Al h;subst e;exact⟨a,xs,Y,U.sq,F⟩
 |ref i =>
  unfold RV at r;obtain⟨a,Y,U⟩:=r;unfold fJ at h;dsimp only at h;cases q:st[i]? with
  |none=>rw[q]at h;cases h
  |some o =>
   cases o with|l M=>rw[q]at h;have e:M=l:=Al h;subst e;obtain⟨a',o,Z,R,vs,L,I⟩:=S.at_ i _ q;rw[U]at Z;cases Z;subst L;exact⟨a,vs,Y,fm.of R,I⟩|d M=>rw[q]at h;cases h|z M=>rw[q]at h;cases h|k M=>rw[q]at h;cases h|y M=>rw[q]at h;cases h|o C M=>rw[q]at h;cases h
 |_=>cases h
def yX(S:SR K H b st)(r:RV K H b p v)(h:WN st p=some l):∃a xs,v= .ref a∧(fm K H a xs∨fC K H a xs)∧ee K H b l xs:=by
 cases p with|tup m=>unfold RV at r;obtain⟨a,xs,Y,U,F⟩:=r;have e:m=l:=Al h;subst e;exact⟨a,xs,Y,.inr U.sq,F⟩|lst m=>obtain⟨a,xs,Y,U,F⟩:=Q6 S r h;exact⟨a,xs,Y,.inl U,F⟩|ref i=>obtain⟨a,xs,Y,U,F⟩:=Q6 S r h;exact⟨a,xs,Y,.inl U,F⟩|_=>cases h
end
abbrev FL:=qz->qC->Rs (EK PV)
def eH(K:EQ)(E:XK)(H:Hp)(b:Bz)(r:Rs (EK PV))(Q:VK):Prop:=match r with| .ok l st=>∀p xs H' b',eE H b H' b'->H p=none->H' p=some (.lst xs)->p∉b'.z->SR K H' ⟨b'.b,p::b'.z⟩ st->ee K H' ⟨b'.b,p::b'.z⟩ l xs->Q (.ref p) H'| .ex x st=>XP K E H b x st| .no=>False
def oP(K:EQ)(E:XK)(f:FL):TE:=fun s H Q=>∃b r st,SR K H b st∧eI K H b r s∧eH K E H b (f r st) Q
abbrev VN(X:Cx)(E:XK)(e:EY)(f:FL):Prop:=PE X e (oP X.K E f)
def eM(f:FL):FE:=fun r st=>(f r st).bind fun l s=>.ok (.lst l) s
def eH.of{K:EQ}{E:XK}{H:Hp}{b:Bz}{r:Rs (EK PV)}{Q:VK}(P:ed K E H b (r.bind fun l s=>.ok (.lst l) s) Q):eH K E H b r Q:=by
 cases r with|ok l st=>exact fun p xs H' b' e Y L Z S r=>P _ H' b' e S.bare (by unfold RV;exact⟨p,xs,rfl,.inl ⟨.inl L,S.zb p AT,Z⟩,ee.sh Sh.bare l r⟩)|ex x st=>exact P|no=>exact P
def eH.ext{K:EQ}{E:XK}{H H1:Hp}{b L:Bz}{r:Rs (EK PV)}{Q:VK}(h:eH K E H b r Q)(e:eE H b H1 L):eH K E H1 L r Q:=by
 cases r with|ok p st=>exact fun p xs H' b' F Y=>h p xs H' b' (e.trans F) (e.none_of Y)|ex x st=>exact XP.ext h e|no=>exact h
def eH.lay{K:EQ}{E:XK}{H:Hp}{b:Bz}{st:qC}{l:EK PV}{xs:EK V}{Q:VK}(P:eH K E H b (.ok l st) Q)(S:SR K H b st)(r:ee K H b l xs){p:EN}(h:H p=none):Q (.ref p) (eN H p (.lst xs)) :=
 P p xs _ b (eE.new h) h QN (S.new_notin h).2 (SR.hide S h) (RV.hide.hds h l r)
def ed.layT{K:EQ}{E:XK}{H:Hp}{b:Bz}{st:qC}{l:EK PV}{xs:EK V}{Q:VK}(P:ed K E H b (.ok (.tup l) st) Q)(S:SR K H b st)(r:ee K H b l xs){p:EN}(h:H p=none):Q (.ref p) (eN H p (.tup xs)) :=
 P _ _ b (eE.new h) (S.new h) (by unfold RV;exact⟨p,xs,rfl,.inl ⟨QN,S.new_notin h⟩,ee.ext (eE.new h) l r⟩)
def ed.here{K:EQ}{E:XK}{H:Hp}{b:Bz}{st:qC}{p:PV}{v:V}{Q:VK}(P:ed K E H b (.ok p st) Q)(S:SR K H b st)(r:RV K H b p v):Q v H:=P v H b (eE.refl H b) S r
section
variable{X:Cx}{E:XK}{e a c d:EY}{es:EK EY}{f fa fb fc:FE}{pos:Pos}
def QA{f:FL}(h:VN X E e f):VE X E e (eM f):=PE.imp h fun s H Q ⟨b,r,st,S,R,P⟩=>⟨b,r,st,S,R,eH.of P⟩
def vC(p:PV):FE:=fun _ st=>.ok p st
def qB(i:Nat):FE:=fun r st=>match r[i]? with|some (some p)=>.ok p st|_=>.no
def il{p:PV}{v:V}(h:PE X e (tC v))(L:∀H b,RV X.K H b p v):VE X E e (vC p):=PE.imp h fun s H Q ⟨b,r,st,S,R,P⟩=>ed.here P S (L H b)
def qH{i:Int}{j pos}:VE X E (.Constant (.int i) j pos) (vC (.int i)):=il rh fun _ _=>by unfold RV;rfl
def zX{i:Bool}{j pos}:VE X E (.Constant (.bool i) j pos) (vC (.bl i)):=il Dr fun _ _=>by unfold RV;rfl
def zG{j pos}:VE X E (.Constant .none j pos) (vC .non):=il mM fun _ _=>by unfold RV;rfl
def QT{x:Str}{j pos}:VE X E (.Constant (.str x) j pos) (vC (.str x)):=il Dk fun _ _=>by unfold RV;rfl
def ZT{x:Str}{i:Int}{t:Tok}{pos:Pos}(I:Gl X x)(M:X.mg x=some (.int i t))(hd:(x==("__debug__":Str))=false:=by decide):VE X E (.Name x pos) (vC (.int i)) :=
 il (oO (v:=.int i) I M ⟨t,rfl⟩ hd) fun _ _=>by unfold RV;rfl
def ur{i:Nat}(h:PE X e (kW i)):VE X E e (qB i):=PE.imp h fun s H Q ⟨b,r,st,S,R,P⟩=>by
 unfold qB at P;cases q:r[i]? with
 |none=>rw[q]at P;exact False.elim P
 |some o =>
  cases o with|none=>rw[q]at P;exact False.elim P|some p=>rw[q]at P;obtain⟨v,Y,U⟩:=R.2 i p q;exact⟨v,Y,ed.here P S U⟩
def qK(g:PV->PV->qC->Rs PV)(fa fb:FE):FE:=fun r st=>(fa r st).bind fun p s1=>(fb r s1).bind fun q s2=>g p q s2
def ge(X:Cx)(E:XK)(t:R2)(g:PV->PV->qC->Rs PV):Prop :=
 ∀(H:Hp) (b:Bz) (st:qC) (p q:PV) (u v:V) (Q:VK),SR X.K H b st->RV X.K H b p u->RV X.K H b q v->ed X.K E H b (g p q st) Q->t u v H Q
def jR{t:R2}{g:PV->PV->qC->Rs PV}(I:ge X E t g):∀s H Q,rd X.K E (qK g fa fb) s H Q->iZ t (rd X.K E fa) (rd X.K E fb) s H Q:=fun s H Q ⟨b,r,st,S,R,P⟩ =>
 ⟨b,r,st,S,R,ed.bind P fun p s1 u H1 L Z M Y U=>⟨L,r,s1,M,R.ext Z,ed.bind U fun q s2 v F b2 e2 S2 r2 P2=>I F b2 s2 p q u v Q S2 (RV.ext e2 p Y) r2 P2⟩⟩
def Zn{op:Operator}{t:R2}{g:PV->PV->qC->Rs PV}(Z:fy X (binaryOp op) t)(I:ge X E t g)(F:VE X E a fa)(hb:VE X E c fb):VE X E (.BinOp a op c pos) (qK g fa fb):=PE.imp (nA Z F hb) (jR I)
def l3{op:CmpOp}{t:R2}{g:PV->PV->qC->Rs PV}(Z:fy X (compareOp op) t)(I:ge X E t g)(F:VE X E a fa)(hb:VE X E c fb)(M:behindInMarks op c=false:=by first|exact Qc _|with_unfolding_all rfl):VE X E (.Compare a [op] [c] pos) (qK g fa fb):=PE.imp (oZ Z F hb M) (jR I)
def gI(g:Int->Int->EO PV):PV->PV->qC->Rs PV:=fun p q st=>match p,q with
 | .int i,.int j=>match g i j with|some z=>.ok z st|none=>.no
 |_,_=>.no
def iT{C:Int->Int->Prop}{h:Int->Int->V}{g:Int->Int->EO PV}(I:∀i j z,g i j=some z->C i j∧∀H b,RV X.K H b z (h i j)):ge X E (rI C h) (gI g):=by
 intro H b st p q u v Q S Z L P;unfold gI at P;split at P
 ·rename_i i j;unfold RV at Z L;split at P;rename_i z e;obtain⟨c,r⟩:=I i j z e;exact⟨i,j,Z,L,c,ed.here P S (r H b)⟩;exact P.elim
 ·exact P.elim
def kt{h:Int->Int->V}{g:Int->Int->PV}(I:∀i j H b,RV X.K H b (g i j) (h i j)):ge X E (g9 h) (gI fun i j=>some (g i j)):=by
 intro H b st p q u v Q S Z L P;unfold gI at P;split at P;rename_i i j;unfold RV at Z L;exact⟨i,j,Z,L,ed.here P S (I i j H b)⟩;exact P.elim
def Q0{K:EQ}{H:Hp}{b:Bz}{i:Int}:RV K H b (.int i) (.int i):=by unfold RV;rfl
def Wz{K:EQ}{H:Hp}{b:Bz}{i:Bool}:RV K H b (.bl i) (.bl i):=by unfold RV;rfl
def zT:=gI fun i j=>some (.int (i-j))
def zr:=gI fun i j=>if (-(2 ^ 64)<i∧i<2 ^ 64)∨(-(2 ^ 64)<j∧j<2 ^ 64) then some (.int (i*j)) else none
def qEw:=gI fun i j=>if 0<j∧j<1073741824 then some (.int (i/j)) else none
def jo:=gI fun i j=>if 0<j then some (.int (i%j)) else none
def qC1:=gI fun i j=>if 0≤j∧j≤1000000∧i.natAbs<2 ^ 64 then some (.int (i ^ j.toNat)) else none
def Z7(F:VE X E a fa)(hb:VE X E c fb):VE X E (.BinOp a .Sub c pos) (qK zT fa fb):=Zn rL (kt fun _ _ _ _=>Q0) F hb
def Z4(F:VE X E a fa)(hb:VE X E c fb):VE X E (.BinOp a .Mult c pos) (qK zr fa fb):=Zn xf (iT fun i j z e=>by
 split at e;rename_i h;cases e;exact⟨h,fun _ _=>Q0⟩;cases e) F hb
def um(F:VE X E a fa)(hb:VE X E c fb):VE X E (.BinOp a .FloorDiv c pos) (qK qEw fa fb):=Zn tL (iT fun i j z e=>by
 split at e;rename_i h;cases e;exact⟨h,fun _ _=>Q0⟩;cases e) F hb
def jq(F:VE X E a fa)(hb:VE X E c fb):VE X E (.BinOp a .Mod c pos) (qK jo fa fb):=Zn vr (iT fun i j z e=>by
 split at e;rename_i h;cases e;exact⟨h,fun _ _=>Q0⟩;cases e) F hb
def jS(F:VE X E a fa)(hb:VE X E c fb):VE X E (.BinOp a .Pow c pos) (qK qC1 fa fb):=Zn DT (iT fun i j z e=>by
 split at e;rename_i h;cases e;exact⟨h,fun _ _=>Q0⟩;cases e) F hb
def QU:=gI fun i j=>some (.int (i+j))
def Qj(F:VE X E a fa)(hb:VE X E c fb):VE X E (.BinOp a .Add c pos) (qK QU fa fb):=Zn uD (kt fun _ _ _ _=>Q0) F hb
def lx:PV->PV->qC->Rs PV:=fun p q st=>match p,q with| .str x,.str y=>if x.length+y.length≤sizeLine then .ok (.str (x++y)) st else .no|_,_=>.no
def tV(F:VE X E a fa)(hb:VE X E c fb):VE X E (.BinOp a .Add c pos) (qK lx fa fb):=Zn rX (fun H b st p q u v Q S Z L P=>by
 unfold lx at P;split at P
 ·rename_i x y;unfold RV at Z L;split at P;rename_i h;exact⟨x,y,Z,L,h,ed.here P S (by unfold RV;rfl)⟩;exact P.elim
 ·exact P.elim) F hb
def gLt:=gI fun i j=>some (.bl (decide (i<j)))
def gLe:=gI fun i j=>some (.bl (decide (i≤j)))
def lI:ge X E (g9 fun i j=>.bl (decide (i<j))) gLt:=kt fun _ _ _ _=>Wz
def Wj:ge X E (g9 fun i j=>.bl (decide (i≤j))) gLe:=kt fun _ _ _ _=>Wz
def py(F:VE X E a fa)(hb:VE X E c fb):VE X E (.Compare a [.Lt] [c] pos) (qK gLt fa fb):=l3 lD lI F hb
def WJ(g g':PV->PV->qC->Rs PV)(fa fb fc:FE):FE:=fun r st=>(fa r st).bind fun p s1=>(fb r s1).bind fun q s2=>(g p q s2).bind fun z R=>match z with| .bl true=>(fc r R).bind fun w F=>g' q w F| .bl false=>.ok (.bl false) R|_=>.no
def ZX{op M:CmpOp}{t t':R2}{g g':PV->PV->qC->Rs PV}(ho:fy X (compareOp op) t)(L:fy X (compareOp M) t')(hg:ge X E t g)(I:ge X E t' g')(ha:VE X E a fa)(hb:VE X E c fb)(hc:VE X E d fc)
  (hm:lastMarks [op,M] [c,d]=false:=by with_unfolding_all rfl):VE X E (.Compare a [op,M] [c,d] pos) (WJ g g' fa fb fc):=by
 refine PE.imp (uX ho L ha hb hc hm) fun s H Q ⟨b,r,st,S,R,P⟩=>?_;refine⟨b,r,st,S,R,ed.bind P fun p s1 u H1 b1 Y S1 r1 P1=>⟨b1,r,s1,S1,R.ext Y,ed.bind P1 fun q s2 v H2 b2 F S2 U P2=>?_⟩⟩;refine hg H2 b2 s2 p q u v _ S2 (RV.ext F p r1) U (ed.bind P2 fun z s3 zv H3 b3 e3 S3 Z P3=>?_);split at P3;unfold RV at Z;refine⟨true,Z,iP ⟨b3,r,s3,S3,((R.ext Y).ext F).ext e3,ed.bind P3 fun w s4 wv H4 b4 e4 S4 r4 P4=>?_⟩⟩;exact I H4 b4 s4 q w v wv Q S4 (RV.ext e4 q (RV.ext e3 q U)) r4 P4;unfold RV at Z;exact⟨false,Z,i8 (ed.here P3 S3 Wz)⟩;exact P3.elim
def lC(st:qC):PV->EO Bool| .non=>some false| .bl x=>some x| .int i=>some (i != 0)| .tup l=>some (!l.isEmpty)| .lst l=>some (!l.isEmpty)| .ref i=>(fJ st (.ref i)).map fun l=> !l.isEmpty|_=>none
def o8{K:EQ}{H:Hp}{b:Bz}{st:qC}{p:PV}{v:V}{k:Bool}(S:SR K H b st)(r:RV K H b p v)(h:lC st p=some k):ku K v H k:=by
 have I:∀{l:EK PV} {xs:EK V},ee K H b l xs->(!l.isEmpty)= !xs.isEmpty:=fun {l xs} q=>by
  have:=q.length
  cases l <;> cases xs <;> first|rfl|(simp at this)
 cases p with
 |non=>unfold RV at r;subst r;exact (Al h).symm
 |bl x=>unfold RV at r;subst r;exact (Al h).symm
 |int x=>unfold RV at r;subst r;exact (Al h).symm
 |tup l=>unfold RV at r;obtain⟨a,xs,rfl,U,F⟩:=r;exact .inr (.inl ⟨xs,U.sq,by rw[←I F];exact (Al h).symm⟩)
 |lst l=>obtain⟨a,xs,rfl,U,F⟩:=Q6 S r rfl;exact .inl ⟨xs,U,by rw[←I F];exact (Al h).symm⟩
 |ref i =>
  unfold lC at h;dsimp only at h;cases q:fJ st (.ref i) with|none=>rw[q]at h;cases h|some l=>rw[q]at h;obtain⟨a,xs,rfl,U,F⟩:=Q6 S r q;exact .inl ⟨xs,U,by rw[←I F];exact (Al h).symm⟩
 |_=>cases h
def wn(f:FE):FT:=fun r st=>(f r st).bind fun p s=>match lC s p with|some k=>.ok k s|none=>.no
def ra{R:Bool->Hp->Prop}{s:L2.St}{H:Hp}(h:ko X.K E (wn f) s H R):rd X.K E f s H fun x H'=>∃k,ku X.K x H' k∧R k H':=by
 obtain⟨b,r,st,S,Z,P⟩:=h;refine⟨b,r,st,S,Z,ed.bindT P fun p s1 u H1 L M I Y q=>?_⟩;split at q;rename_i k e;exact⟨k,o8 I Y e,q H1 L (eE.refl _ _) I⟩;exact q.elim
def ZO(h:VE X E e f)(he:∀U,isTrue e X.env U=(do let v ← U;standAt e.pos;holding [v] (truthy v)):=by intro _;rfl):VT X E e (wn f):=PT.imp (xb h he) fun s H Q q=>ra q
def eU(f:FE):FT:=fun r st=>(f r st).bind fun p s=>match p with| .bl k=>.ok k s|_=>.no
def oK{R:Bool->Hp->Prop}{s:L2.St}{H:Hp}(h:ko X.K E (eU f) s H R):rd X.K E f s H fun x H'=>∃k,x= .bl k∧R k H':=by
 obtain⟨b,r,st,S,Z,P⟩:=h;refine⟨b,r,st,S,Z,ed.bindT P fun p s1 u H1 L M I Y q=>?_⟩;split at q;rename_i k;unfold RV at Y;exact⟨k,Y,q H1 L (eE.refl _ _) I⟩;exact q.elim
def Qn{op:CmpOp}{t:R2}{g:PV->PV->qC->Rs PV}(Z:fy X (compareOp op) t)(I:ge X E t g)(F:VE X E a fa)(hb:VE X E c fb)(M:behindInMarks op c=false:=by first|exact Qc _|with_unfolding_all rfl):VT X E (.Compare a [op] [c] pos) (eU (qK g fa fb)) :=
 PT.imp (q7 Z F hb M) fun s H Q q=>jR I s H _ (oK q)
def Ds{op M:CmpOp}{t t':R2}{g g':PV->PV->qC->Rs PV}(ho:fy X (compareOp op) t)(L:fy X (compareOp M) t')(hg:ge X E t g)(I:ge X E t' g')(ha:VE X E a fa)(hb:VE X E c fb)(hc:VE X E d fc)
  (hm:lastMarks [op,M] [c,d]=false:=by with_unfolding_all rfl):VT X E (.Compare a [op,M] [c,d] pos) (eU (WJ g g' fa fb fc)):=by
 refine PT.imp (D2 ho L ha hb hc hm) fun s H Q q=>?_;obtain⟨b,r,st,S,R,P⟩:=oK q;refine⟨b,r,st,S,R,ed.bind P fun p s1 u H1 b1 Y S1 r1 P1=>⟨b1,r,s1,S1,R.ext Y,ed.bind P1 fun q s2 v H2 b2 F S2 U P2=>?_⟩⟩;refine hg H2 b2 s2 p q u v _ S2 (RV.ext F p r1) U (ed.bind P2 fun z s3 zv H3 b3 e3 S3 Z P3=>?_);split at P3;unfold RV at Z;refine⟨true,Z,iP ⟨b3,r,s3,S3,((R.ext Y).ext F).ext e3,ed.bind P3 fun w s4 wv H4 b4 e4 S4 r4 P4=>?_⟩⟩;exact I H4 b4 s4 q w v wv _ S4 (RV.ext e4 q (RV.ext e3 q U)) r4 P4;unfold RV at Z;exact⟨false,Z,i8 (ed.here P3 S3 Wz)⟩;exact P3.elim
def zB(f:FT):FT:=fun r st=>(f r st).bind fun k s=>.ok (!k) s
def ZQ{f:FT}(h:VT X E a f):VT X E (.UnaryOp .Not a pos) (zB f):=PT.imp (pe h) fun s H Q ⟨b,r,st,S,R,P⟩=>⟨b,r,st,S,R,eS.bindT P fun k s1 H1 L Z I q=>q H1 L (eE.refl _ _) I⟩
abbrev VW(X:Cx)(E:XK)(e:EY)(f:FT):Prop:=PW X e (ko X.K E f)
def PW.imp{X:Cx}{e:EY}{t t':TT}(h:PW X e t)(i:∀s H Q,t' s H Q->t s H Q):PW X e t':=fun w Ee s σ H Q I q=>h w Ee s σ H Q I (i _ _ _ q)
def zN(f g:FT):FT:=fun r st=>(f r st).bind fun k s=>if k=true then .ok true s else g r s
def Zy{f:FT}(h:VT X E a f):VW X E (.BoolOp .Or [a] pos) f:=xl h
def YI{f g:FT}{El:EK EY}(h:VT X E a f)(U:VW X E (.BoolOp .Or (c::El) pos) g):VW X E (.BoolOp .Or (a::c::El) pos) (zN f g):=PW.imp (rN h U) fun s H Q ⟨b,r,st,S,R,P⟩ =>
 ⟨b,r,st,S,R,eS.bindT P fun k s1 H1 L Z I q=>by
  cases k with
  |true=>exact iP (q H1 L (eE.refl _ _) I)
  |false=>exact i8 ⟨L,r,s1,I,R.ext Z,q⟩⟩
def iL{f:FT}(h:VW X E e f):VT X E e f:=h.pt
def oV(f:FE):FE:=fun r st=>(f r st).bind fun p s=>match p with| .bl k=>.ok (.bl (!k)) s|_=>.no
def Db(h:VE X E a fa):VE X E (.UnaryOp .Not a pos) (oV fa):=PE.imp (xY h) fun s H Q ⟨b,r,st,S,R,P⟩ =>
 ⟨b,r,st,S,R,ed.bind P fun p s1 u H1 L Z I Y q=>by
  split at q;rename_i k;unfold RV at Y;exact⟨k,Y,ed.here q I Wz⟩;exact q.elim⟩
def ZN(f g:FE):FE:=fun r st=>(f r st).bind fun p s=>match p with| .bl true=>g r s| .bl false=>.ok (.bl false) s|_=>.no
def Zq{op}(h:VE X E a fa):VE X E (.BoolOp op [a] pos) fa:=D7 h
def zn{El:EK EY}(h:VE X E a fa)(U:VE X E (.BoolOp .And (c::El) pos) fb):VE X E (.BoolOp .And (a::c::El) pos) (ZN fa fb):=PE.imp (D4 h U) fun s H Q ⟨b,r,st,S,R,P⟩ =>
 ⟨b,r,st,S,R,ed.bind P fun p s1 u H1 L Z I Y q=>by
  split at q;unfold RV at Y;exact⟨true,Y,iP ⟨L,r,s1,I,R.ext Z,q⟩⟩;unfold RV at Y;exact⟨false,Y,i8 (ed.here q I Wz)⟩;exact q.elim⟩
def qD:FA:=fun _ st=>.ok [] st
def qA(f:FE)(g:FA):FA:=fun r st=>(f r st).bind fun p s=>(g r s).bind fun ps L=>.ok (p::ps) L
def qF:VA X E [] qD:=PA.imp jB fun s H Q ⟨b,r,st,S,R,P⟩=>P [] H b (eE.refl _ _) S ee.nil
def Qt{f:FE}{g:FA}(h:VE X E e f)(U:VA X E es g)(hs:starEach (e::es) X.env=(false,eval e X.env)::starEach es X.env:=by rfl):VA X E (e::es) (qA f g):=PA.imp (yQ h U hs) fun s H Q ⟨b,r,st,S,R,P⟩ =>
 ⟨b,r,st,S,R,ed.bindA P fun p s1 u H1 L Z I Y q=>⟨L,r,s1,I,R.ext Z,eG.bindA q fun ps s2 us M F e2 S2 r2 P2=>P2 (u::us) M F (eE.refl _ _) S2 (ee.cons (RV.ext e2 p Y) r2)⟩⟩
def qp(g:FA):FE:=fun r st=>(g r st).bind fun ps s=>if ps.length≤sizeLine then .ok (.tup ps) s else .no
def qa{g:FA}{x1}(h:VA X E es g):VE X E (.Tuple es x1 pos) (qp g):=PE.imp (sX h) fun s H Q ⟨b,r,st,S,R,P⟩ =>
 ⟨b,r,st,S,R,eG.bind P fun ps s1 us H1 Z M I Y q=>by
  split at q;rename_i hl;exact⟨by rw[←Y.length];exact hl,fun p L=>ed.layT q I Y L⟩;exact q.elim⟩
def Qx(g:FA):FL:=fun r st=>(g r st).bind fun ps s=>if ps.length≤sizeLine then .ok ps s else .no
def eG.bindN{K:EQ}{E:XK}{H:Hp}{b:Bz}{r:Rs (EK PV)}{k:EK PV->qC->Rs (EK PV)}{Q:VK}{R:EK V->Hp->Prop}(P:eH K E H b (r.bind k) Q)
  (h:∀p st v H1 L,eE H b H1 L->SR K H1 L st->ee K H1 L p v->eH K E H1 L (k p st) Q->R v H1):eG K E H b r R:=by
 cases r with|ok p st=>exact fun v H1 L e S r=>h p st v H1 L e S r (eH.ext (show eH K E H b (k p st) Q from P) e)|ex x st=>exact P|no=>exact P
def ed.bindN{K:EQ}{E:XK}{H:Hp}{b:Bz}{r:Rs PV}{k:PV->qC->Rs (EK PV)}{Q:VK}{R:VK}(P:eH K E H b (r.bind k) Q)
  (h:∀p st v H1 L,eE H b H1 L->SR K H1 L st->RV K H1 L p v->eH K E H1 L (k p st) Q->R v H1):ed K E H b r R:=by
 cases r with|ok p st=>exact fun v H1 L e S r=>h p st v H1 L e S r (eH.ext (show eH K E H b (k p st) Q from P) e)|ex x st=>exact P|no=>exact P
def QL{g:FA}(h:VA X E es g):VN X E (.List es pos) (Qx g):=PE.imp (v4 h) fun s H Q ⟨b,r,st,S,R,P⟩ =>
 ⟨b,r,st,S,R,eG.bindN P fun ps s1 us H1 Z M I Y q=>by
  split at q;rename_i hl;exact⟨by rw[←Y.length];exact hl,fun p L=>eH.lay q I Y L⟩;exact q.elim⟩
def vz{K:EQ}{H:Hp}{b:Bz}{l:EK PV}{xs:EK V}{i:Int}{p:PV}(r:ee K H b l xs)(h:atI l i=some p):∃x,atI xs i=some x∧RV K H b p x:=by
 unfold atI at h ⊢;rw[←r.length];cases q:ixN l.length i with|none=>rw[q]at h;cases h|some j=>rw[q]at h;exact r.get h
def eL:PV->PV->qC->Rs PV:=fun p q st=>match q with
 | .int i=>match WN st p with
  |some l=>match atI l i with|some z=>.ok z st|none=>.no
  |none=>.no
 |_=>.no
def QY(F:VE X E a fa)(hb:VE X E c fb)(hs:nI c:=by exact fun _ _=>rfl):VE X E (.Subscript a c pos) (qK eL fa fb):=PE.imp (o9 vK F hb hs) (jR fun H b st p q u v Q S Z L P=>by
 unfold eL at P;split at P
 ·rename_i i;unfold RV at L;split at P
  ·rename_i l e;split at P
   ·rename_i z R;obtain⟨U,xs,Y,h2,h3⟩:=yX S Z e;obtain⟨x,M,I⟩:=vz h3 R;rcases h2 with h2|h2
    ·exact .inl ⟨U,xs,i,x,Y,L,h2,M,ed.here P S I⟩
    ·exact .inr (.inl ⟨U,xs,i,x,Y,L,h2,M,ed.here P S I⟩)
   ·exact P.elim
  ·exact P.elim
 ·exact P.elim)
def qI(g:EK PV->qC->Rs PV)(t:FA):FE:=fun r st=>(t r st).bind fun ps s=>g ps s
def hX(K:EQ)(n:Nat)(g:EK PV->qC->Rs PV):Sp:=fun vs H Q E=>vs.length=n∧∃b ps st,SR K H b st∧ee K H b ps vs∧ed K E H b (g ps st) Q
def kK(X:Cx)(E:XK)(x:Str)(g:EK PV->qC->Rs PV):Prop:=∀(p pos:Pos) (e:EY) (es:EK EY) (t:FA),VA X E (e::es) t->starEach (e::es) X.env=(false,eval e X.env)::starEach es X.env->(backTo pos (starEach es X.env)).any (·.1)=false->VE X E (.Call (.Name x p) (e::es) [] pos) (qI g t)
def qX{x:Str}{g:EK PV->qC->Rs PV}{t:FA}{p:Pos}(U:kK X E x g)(F:VA X E (e::es) t)(he:starEach (e::es) X.env=(false,eval e X.env)::starEach es X.env:=by rfl)(Ep:(backTo pos (starEach es X.env)).any (·.1)=false:=by rfl):VE X E (.Call (.Name x p) (e::es) [] pos) (qI g t):=U p pos e es t F he Ep
def DP{CX:CXT}{k n:Nat}{fa:EN}{fd:FuncData}{ps:EK Str}{x:Str}{g:EK PV->qC->Rs PV}(F:fM X.prog X.w X.K X.mg X.base CX k fa fd ps (hX X.K ps.length g))(L:eW k X.A)(hg:Gl X x)(hm:X.mg x=some (.ref fa))(hk:W.keepIn X.K (.ref fa)=true)
  (hb:Binds X.K fd ps []) (hx:Ws CX X E) (Y:∀l st,g l st≠ .no->l.length=ps.length) (Z:(x==("__debug__":Str))=false:=by decide):kK X E x g:=fun p pos e es t ha he U =>
 PE.imp (vE F L hg hm hk hb .nil hx ha Z he U) fun s H Q ⟨b,r,st,S,R,P⟩=>⟨b,r,st,S,R,eG.bind P fun l s1 us H1 b1 e1 S1 M q=>by
  have I:g l s1≠ .no:=fun z=>by rw[z]at q;exact q
  rw[BW];exact⟨by rw[←M.length];exact Y l s1 I,b1,l,s1,S1,M,q⟩⟩
def Za(X:Cx)(E:XK)(t:EK V->Hp->VK->Prop)(g:EK PV->qC->Rs PV):Prop :=
 ∀(H:Hp) (b:Bz) (st:qC) (ps:EK PV) (vs:EK V) (Q:VK),SR X.K H b st->ee X.K H b ps vs->ed X.K E H b (g ps st) Q->t vs H Q
def W3{x:Str}{id:String}{t:EK V->Hp->VK->Prop}{g:EK PV->qC->Rs PV}{U:FA}{p:Pos}(I:W5 X (.builtin id) t)(Y:Za X E t g)(q:Gl X x)(M:X.mg x=none)(L:bootBuiltins x=some (.builtin id))(F:VA X E (e::es) U)(hn:x ≠ "__name__" :=by decide)(Z:(x==("__debug__":Str))=false:=by decide)
  (he:starEach (e::es) X.env=(false,eval e X.env)::starEach es X.env:=by rfl) (Ep:(backTo pos (starEach es X.env)).any (·.1)=false:=by rfl):VE X E (.Call (.Name x p) (e::es) [] pos) (qI g U) :=
 PE.imp (Do I q M L F hn Z he Ep) fun s H Q ⟨b,r,st,S,R,P⟩=>⟨b,r,st,S,R,eG.bind P fun l s1 us H1 b1 e1 S1 r1 P1=>Y H1 b1 s1 l us Q S1 r1 P1⟩
def Ys{x:Str}{T:String}{t:EK V->Hp->VK->Prop}{g:EK PV->qC->Rs PV}{U:FA}{p:Pos}(I:W5 X (.type T) t)(Y:Za X E t g)(q:Gl X x)(M:X.mg x=none)(L:bootBuiltins x=some (.type T))(F:VA X E (e::es) U)(hn:x ≠ "__name__" :=by decide)(Z:(x==("__debug__":Str))=false:=by decide)
  (he:starEach (e::es) X.env=(false,eval e X.env)::starEach es X.env:=by rfl) (Ep:(backTo pos (starEach es X.env)).any (·.1)=false:=by rfl):VE X E (.Call (.Name x p) (e::es) [] pos) (qI g U) :=
 PE.imp (Yj I q M L F hn Z he Ep) fun s H Q ⟨b,r,st,S,R,P⟩=>⟨b,r,st,S,R,eG.bind P fun l s1 us H1 b1 e1 S1 r1 P1=>Y H1 b1 s1 l us Q S1 r1 P1⟩
def ee.one{K:EQ}{H:Hp}{b:Bz}{p:PV}{vs:EK V}(h:ee K H b [p] vs):∃v,vs=[v]∧RV K H b p v:=by unfold ee at h;obtain⟨x,r,rfl,U,F⟩:=h;unfold ee at F;subst F;exact⟨x,rfl,U⟩
def ee.two{K:EQ}{H:Hp}{b:Bz}{p q:PV}{vs:EK V}(h:ee K H b [p,q] vs):∃v w,vs=[v,w]∧RV K H b p v∧RV K H b q w:=by unfold ee at h;obtain⟨x,r,rfl,U,F⟩:=h;obtain⟨y,rfl,M⟩:=ee.one F;exact⟨x,y,rfl,U,M⟩
def Wp:EK PV->qC->Rs PV:=fun ps st=>match ps with
 |[p]=>match WN st p with|some l=>.ok (.int l.length) st|none=>.no
 |_=>.no
def r6:Za X E (fun xs H Q=>∃p M,xs=[.ref p]∧(fm X.K H p M∨fC X.K H p M)∧Q (.int M.length) H) Wp:=by
 intro H b st ps vs Q S r P;unfold Wp at P;split at P
 ·rename_i p;obtain⟨v,rfl,Y⟩:=ee.one r;split at P;rename_i l e;obtain⟨a,xs,rfl,U,F⟩:=yX S Y e;refine⟨a,xs,rfl,U,?_⟩;rw[←F.length];exact ed.here P S Q0;exact P.elim
 ·exact P.elim
def Z9:EK PV->qC->Rs PV:=fun ps st=>match ps with
 |[p]=>match WN st p with|some l=>.ok (.tup l) st|none=>.no
 |_=>.no
def uh:Za X E (fun xs H Q=>∃p M,xs=[.ref p]∧((fm X.K H p M∧∀l,H l=none->Q (.ref l) (eN H l (.tup M)))∨(fC X.K H p M∧Q (.ref p) H))) Z9:=by
 intro H b st ps vs Q S r P;unfold Z9 at P;split at P
 ·rename_i p;obtain⟨v,rfl,Y⟩:=ee.one r;split at P
  ·rename_i l e;cases p with|tup m=>have q:m=l:=Al e;subst q;have I:=Y;unfold RV at Y;obtain⟨a,xs,rfl,U,F⟩:=Y;exact⟨a,xs,rfl,.inr ⟨U.sq,ed.here P S I⟩⟩|lst m=>obtain⟨a,xs,rfl,U,F⟩:=Q6 S Y e;exact⟨a,xs,rfl,.inl ⟨U,fun p L=>ed.layT P S F L⟩⟩|ref i=>obtain⟨a,xs,rfl,U,F⟩:=Q6 S Y e;exact⟨a,xs,rfl,.inl ⟨U,fun p L=>ed.layT P S F L⟩⟩|_=>cases e
  ·exact P.elim
 ·exact P.elim
def qCy:EK PV->qC->Rs PV:=fun ps st=>match ps with|[.int i]=>.ok (.int i) st|[.bl k]=>.ok (.int (if k then 1 else 0)) st|_=>.no
def vO:Za X E (fun xs H Q=>(∃i,xs=[.int i]∧Q (.int i) H)∨∃k,xs=[.bl k]∧Q (.int (if k then 1 else 0)) H) qCy:=by
 intro H b st ps vs Q S r P;unfold qCy at P;split at P;obtain⟨v,rfl,Y⟩:=ee.one r;unfold RV at Y;subst Y;exact .inl ⟨_,rfl,ed.here P S Q0⟩;obtain⟨v,rfl,Y⟩:=ee.one r;unfold RV at Y;subst Y;exact .inr ⟨_,rfl,ed.here P S Q0⟩;exact P.elim
def qCP:EK PV->qC->Rs PV:=fun ps st=>match ps with|[.int i,.int j]=>.ok (.int (if j>i then j else i)) st|_=>.no
def qDV:EK PV->qC->Rs PV:=fun ps st=>match ps with|[.int i,.int j]=>.ok (.int (if j<i then j else i)) st|_=>.no
def uq:Za X E (fun xs H Q=>∃i j,xs=[.int i,.int j]∧Q (.int (if j>i then j else i)) H) qCP:=by
 intro H b st ps vs Q S r P;unfold qCP at P;split at P;obtain⟨v,w,rfl,Y,I⟩:=ee.two r;unfold RV at Y I;subst Y;subst I;exact⟨_,_,rfl,ed.here P S Q0⟩;exact P.elim
def uP:Za X E (fun xs H Q=>∃i j,xs=[.int i,.int j]∧Q (.int (if j<i then j else i)) H) qDV:=by
 intro H b st ps vs Q S r P;unfold qDV at P;split at P;obtain⟨v,w,rfl,Y,I⟩:=ee.two r;unfold RV at Y I;subst Y;subst I;exact⟨_,_,rfl,ed.here P S Q0⟩;exact P.elim
def mf:PV->qC->Rs (EK PV):=fun p st=>match WN st p with|some l=>.ok l st|none=>.no
def kM(f:FE):FL:=fun r st=>(f r st).bind mf
def se{p:Pos}(Z:Gl X "list")(U:X.mg "list" = none)(L:bootBuiltins "list" = some (.type "list"))(F:VE X E e f)
  (he:starEach [e] X.env=(false,eval e X.env)::starEach [] X.env:=by rfl) (Ep:(backTo pos (starEach [] X.env)).any (·.1)=false:=by rfl):VN X E (.Call (.Name "list" p) [e] [] pos) (kM f) :=
 PE.imp (Yj ju Z U L (yQ F jB he) (he:=he) (Ep:=Ep)) fun s H Q ⟨b,r,st,S,R,P⟩=>⟨b,r,st,S,R,ed.bindN P fun q s1 u H1 b1 e1 M Y I=>by
  unfold mf at I;split at I;rename_i l el;obtain⟨a,xs,rfl,h2,h3⟩:=yX M Y el;exact⟨a,xs,rfl,h2,fun p hp=>eH.lay I M h3 hp⟩;exact I.elim⟩
end
def Qh:FS:=fun r st=>.nx r st
def qS(F G:FS):FS:=fun r st=>match F r st with| .nx U Z=>G U Z|o=>o
section
variable{X:Cx}{E:XK}{e a c d:EY}{es:EK EY}{f fa fb fc:FE}{pos:Pos}{F G:FS}{s1:Stmt}{ss:EK Stmt}
def Qg:gM X E [] Qh:=f8.imp uO fun D s H ⟨b,r,st,S,R,P⟩=>P s H b (eE.refl _ _) S R
def eD.seq{K:EQ}{E:XK}{H:Hp}{b:Bz}{o:RS}{G:FS}{D:fF}(P:eD K E H b (match o with | .nx r' Ef=>G r' Ef |o=>o) D):eD K E H b o { D with nx:=i7 K E G D }:=by
 cases o with|nx r st=>exact fun s H' b' e S R=>⟨b',r,st,S,R,eD.ext (show eD K E H b (G r st) D from P) e⟩|rt p st=>exact P|bk p st=>exact P|ct p st=>exact P|ex x st=>exact P|no=>exact P
def qM(Y:VS X E s1 F)(U:gM X E ss G):gM X E (s1::ss) (qS F G):=f8.imp (sM Y U) fun D s H ⟨b,r,st,S,R,P⟩=>⟨b,r,st,S,R,eD.seq P⟩
def qU(Y:VS X E s1 F):gM X E [s1] F:=D3 Y
def Ww(f:FE):FS:=fun r st=>(f r st).bindS fun _ s=>.nx r s
def jO(h:VE X E e f)(hs:swapsWith e none pos.line X.env=pure false:=by rfl):VS X E (.Expr e pos) (Ww f):=PS.imp (nQ h hs) fun D s H ⟨b,r,st,S,R,P⟩ =>
 ⟨b,r,st,S,R,ed.bindS P fun p s1 u H1 L Z I Y q=>q s H1 L (eE.refl _ _) I (R.ext Z)⟩
def qt(f:FE):FS:=fun r st=>(f r st).bindS fun p s=>.rt p s
def qu(h:VE X E e f):VS X E (.Return (some e) pos) (qt f):=PS.imp (mB h) fun D s H ⟨b,r,st,S,R,P⟩ =>
 ⟨b,r,st,S,R,ed.bindS P fun p s1 u H1 L Z I Y q=>q u H1 L (eE.refl _ _) I Y⟩
def yq(f:FL):FS:=fun r st=>(f r st).bindS fun l s=>.rt (.ref s.length) (s++[.l l])
def Qs(t:FT)(F G:FS):FS:=fun r st=>(t r st).bindS fun k s=>if k=true then F r s else G r s
def WD{t:FT}{bs cs:EK Stmt}(U:VT X E e t)(Y:gM X E bs F)(hb:gM X E cs G):VS X E (.If e bs cs pos) (Qs t F G):=PS.imp (rP U Y hb) fun D s H ⟨b,r,st,S,R,P⟩ =>
 ⟨b,r,st,S,R,eS.bindS P fun k s1 H1 L Z I q=>by
  cases k with
  |true=>exact iP ⟨L,r,s1,I,R.ext Z,q⟩
  |false=>exact i8 ⟨L,r,s1,I,R.ext Z,q⟩⟩
def qc(i:Nat)(f:FE):FS:=fun r st=>(f r st).bindS fun p s=>.nx (r.set i (some p)) s
def QI(i:Nat){x:Str}{U:Pos}(Z:X.N.Nodup)(h:VE X E e f)(hi:X.N[i]? = some x:=by rfl)(M:Loc X.env.scope x:=by first|exact Or.inl rfl|exact Or.inr rfl)(hs:swapsWith e (some (.Name x U)) pos.line X.env=pure false:=by rfl)(F:X.fn x=true∨X.env.scope.names.lookup x=some .local:=by first|exact .inl rfl|exact .inr rfl|assumption) :
  VS X E (.Assign [.Name x U] e pos) (qc i f):=PS.imp (nN Z hi M h hs F) fun D s H ⟨b,r,st,S,R,P⟩ =>
 ⟨b,r,st,S,R,ed.bindS P fun p s1 u H1 L Y I q P1=>P1 _ H1 L (eE.refl _ _) I ((R.ext Y).set q i)⟩
def zC(i:Nat)(f:FL):FS:=fun r st=>(f r st).bindS fun l s=>.nx (r.set i (some (.ref s.length))) (s++[.l l])
def eE.adopt{H H':Hp}{b b':Bz}{p:EN}(e:eE H b H' b')(Y:H p=none):eE H b H' ⟨b'.b++[p],b'.z⟩:=by
 obtain⟨n,hb,M⟩:=e.more;refine⟨⟨⟨n++[p],by rw[hb,Ah],fun a ha=>?_⟩,e.zm,e.keep,e.dom⟩,e.same,e.hid,e.fz⟩;rcases Ab.mp ha with ha|ha
 ·exact M a ha
 ·rw[AX.mp ha];exact Y
def eH.bindS{K:EQ}{E:XK}{H:Hp}{b:Bz}{r:Rs (EK PV)}{k:PV->qC->RS}{D:fF}{R:VK}(P:eD K E H b (r.bindS fun l s=>k (.ref s.length) (s++[.l l])) D)
  (h:∀q st v H1 L,eE H b H1 L->SR K H1 L st->RV K H1 L q v->eD K E H1 L (k q st) D->R v H1):eH K E H b r R:=by
 cases r with|ok l st=>intro p xs H' b' e Y M Z S I;have F:=e.adopt Y;have hl:b'.b.length=st.length:=S.len;refine h (.ref st.length) (st++[.l l]) (.ref p) H' ⟨b'.b++[p],b'.z⟩ F (S.slot (x:=.l l) Z M ⟨xs,rfl,I⟩) ?_ (eD.ext (show eD K E H b (k (.ref st.length) (st++[.l l])) D from P) F);unfold RV;exact⟨p,rfl,by show (b'.b++[p])[st.length]? = some p;rw[←hl];simp⟩|ex x st=>exact P|no=>exact P
def Zf(i:Nat){f:FL}{x:Str}{U:Pos}(Z:X.N.Nodup)(h:VN X E e f)(hi:X.N[i]? = some x:=by rfl)(M:Loc X.env.scope x:=by first|exact Or.inl rfl|exact Or.inr rfl)(hs:swapsWith e (some (.Name x U)) pos.line X.env=pure false:=by rfl)(F:X.fn x=true∨X.env.scope.names.lookup x=some .local:=by first|exact .inl rfl|exact .inr rfl|assumption) :
  VS X E (.Assign [.Name x U] e pos) (zC i f):=PS.imp (nN Z hi M h hs F) fun D s H ⟨b,r,st,S,R,P⟩ =>
 ⟨b,r,st,S,R,eH.bindS (k:=fun q s=>.nx (r.set i (some q)) s) P fun p s1 u H1 L Y I r1 P1=>P1 _ H1 L (eE.refl _ _) I ((R.ext Y).set r1 i)⟩
def nS{f:FL}(h:VN X E e f):VS X E (.Return (some e) pos) (yq f):=PS.imp (mB h) fun D s H ⟨b,r,st,S,R,P⟩ =>
 ⟨b,r,st,S,R,eH.bindS (k:=fun q s=>.rt q s) P fun p s1 u H1 L Z I Y M=>M u H1 L (eE.refl _ _) I Y⟩
abbrev FG:=PV->qz->EO qz
abbrev FGs:=EK PV->qz->EO qz
def tK(K:EQ)(g:FG):TG:=fun v s H Q=>∃b r p st,SR K H b st∧eI K H b r s∧RV K H b p v∧∃U,g p r=some U∧∀L,eI K H b U L->Q L H
def vM(K:EQ)(g:FGs):TGs:=fun v s H Q=>∃b r p st,SR K H b st∧eI K H b r s∧ee K H b p v∧∃U,g p r=some U∧∀L,eI K H b U L->Q L H
abbrev VG(X:Cx)(e:EY)(g:FG):Prop:=PG X e (tK X.K g)
abbrev kh(X:Cx)(e:EK EY)(g:FGs):Prop:=gP X e (vM X.K g)
def PG.imp{X:Cx}{e:EY}{t t':TG}(h:PG X e t)(i:∀v s H Q,t' v s H Q->t v s H Q):PG X e t':=fun Ee s σ H v u Q I r q=>h Ee s σ H v u Q I r (i _ _ _ _ q)
def gP.imp{X:Cx}{e:EK EY}{t t':TGs}(h:gP X e t)(i:∀v s H Q,t' v s H Q->t v s H Q):gP X e t':=fun Ee s σ H v u Q I r q=>h Ee s σ H v u Q I r (i _ _ _ _ q)
def Qf(i:Nat):FG:=fun p r=>some (r.set i (some p))
def Qr(i:Nat){x:Str}(Z:X.N.Nodup)(hi:X.N[i]? = some x:=by rfl)(M:Loc X.env.scope x:=by first|exact Or.inl rfl|exact Or.inr rfl)(F:X.fn x=true∨X.env.scope.names.lookup x=some .local:=by first|exact .inl rfl|exact .inr rfl|assumption):VG X (.Name x pos) (Qf i) :=
 PG.imp (xo Z hi M F) fun v s H Q ⟨b,r,p,st,S,R,L,U,e,q⟩=>q _ (by cases e;exact R.set L i)
def wS:FGs:=fun l r=>match l with|[]=>some r|_=>none
def qW(g:FG)(gs:FGs):FGs:=fun l r=>match l with
 |p::ps=>match g p r with|some U=>gs ps U|none=>none
 |[]=>none
def wX:kh X [] wS:=gP.imp sZ fun v s H Q ⟨b,r,p,st,S,R,L,U,e,q⟩=>by
 cases p with|nil=>unfold ee at L;subst L;cases e;exact⟨rfl,q s R⟩|cons _ _=>cases e
def qh{g:FG}{gs:FGs}(Y:VG X e g)(U:kh X es gs)(hs:(assignEach (e::es) X.env).map (·.2)=assign e X.env::(assignEach es X.env).map (·.2):=by rfl):kh X (e::es) (qW g gs) :=
 gP.imp (pQ Y U hs) fun v s H Q ⟨b,r,p,st,S,R,L,Z,e,q⟩=>by
  cases p with
  |nil=>cases e
  |cons p ps =>
   unfold ee at L;obtain⟨x,M,rfl,h3,h4⟩:=L;unfold qW at e;dsimp only at e;cases F:g p r with|none=>rw[F]at e;cases e|some I=>rw[F]at e;exact⟨x,M,rfl,b,r,p,st,S,R,h3,I,F,fun s' R'=>⟨b,I,ps,st,S,R',h4,Z,e,q⟩⟩
def wN(n:Nat)(gs:FGs):FG:=fun p r=>match p with| .tup l=>if l.length=n then gs l r else none|_=>none
def WK{k:Nat}{n:Nat}{gs:FGs}(U:X.calm=true)(h:kh X es gs)(Y:(assignEach es X.env).length=n:=by rfl)(F:(assignEach es X.env).findIdx? (·.1)=none:=by rfl):VG X (.Tuple es k pos) (wN n gs) :=
 PG.imp (pK U h Y F) fun v s H Q ⟨b,r,p,st,S,R,L,Z,e,q⟩=>by
  unfold wN at e;split at e
  ·rename_i l;split at e;rename_i hl;unfold RV at L;obtain⟨a,xs,rfl,M,I⟩:=L;exact⟨a,xs,rfl,M.sq,by rw[←I.length];exact hl,b,r,l,st,S,R,I,Z,e,q⟩;cases e
  ·cases e
def Yr(f:FE)(g:FG):FS:=fun r st=>(f r st).bindS fun p s=>match g p r with|some U=>.nx U s|none=>.no
def nu{g:FG}(h:VE X E e f)(Z:VG X d g)(hs:swapsWithSole [d] e pos.line X.env=pure false:=by rfl)(M:swappedStores [d] e X.env=pure none:=by rfl)
  (Y:(assignEach [d] X.env).map (·.2)=[assign d X.env]:=by rfl):VS X E (.Assign [d] e pos) (Yr f g):=PS.imp (mQ h Z hs M Y) fun D s H ⟨b,r,st,S,R,P⟩ =>
 ⟨b,r,st,S,R,ed.bindS P fun p s1 u H1 L U I r1 q=>by
  cases F:g p r with
  |none=>rw[F]at q;exact q.elim
  |some r'=>rw[F]at q;exact⟨L,r,p,s1,I,R.ext U,r1,r',F,fun s' R'=>q s' H1 L (eE.refl _ _) I R'⟩⟩
def jz(i j:Nat)(t:FA):FS:=fun r st=>(t r st).bindS fun l s=>match l with|[p,q]=>.nx ((r.set i (some p)).set j (some q)) s|_=>.no
def pc(i j:Nat){x y:Str}{t:FA}{F L pt:Pos}{Y k2 q}(U:X.calm=true)(Z:X.N.Nodup)(ha:VA X E [a,c] t)(hw:swappedStores [.Tuple [.Name x F,.Name y L] Y pt] (.Tuple [a,c] k2 q) X.env=pure (some [x,y]):=by rfl)
  (hi:X.N[i]? = some x:=by rfl) (hj:X.N[j]? = some y:=by rfl) (I:i≠j:=by decide) (hx:X.env.scope.names.lookup x=some .local:=by rfl) (hy:X.env.scope.names.lookup y=some .local:=by rfl)
  (hs:swapsWithSole [.Tuple [.Name x F,.Name y L] Y pt] (.Tuple [a,c] k2 q) pos.line X.env=pure false:=by rfl):VS X E (.Assign [.Tuple [.Name x F,.Name y L] Y pt] (.Tuple [a,c] k2 q) pos) (jz i j t) :=
 PS.imp (xJ U Z hi hj I hx hy ha hw hs) fun D s H ⟨b,r,st,S,R,P⟩=>⟨b,r,st,S,R,eG.bindS P fun l s1 us H1 b1 e1 S1 r1 M=>by
  split at M;obtain⟨u,v,rfl,h1,h2⟩:=ee.two r1;exact⟨u,v,rfl,M _ H1 b1 (eE.refl _ _) S1 (((R.ext e1).set h1 i).set h2 j)⟩;exact M.elim⟩
def Y7(st:qC)(o i v:PV):EO qC:=match o,i with
 | .ref n,.int k=>match st[n]? with
  |some (.l xs)=>match ixN xs.length k with|some j=>some (st.set n (.l (xs.set j v)))|none=>none
  |_=>none
 |_,_=>none
def lj(fo fi f:FE):FS:=fun r st=>(f r st).bindS fun p s1=>(fo r s1).bindS fun o s2=>(fi r s2).bindS fun i R=>match Y7 R o i p with|some F=>.nx r F|none=>.no
def v0{K:EQ}{H:Hp}{b:Bz}{st Ef:qC}{o i p:PV}{M L v:V}{Q:Hp->Prop}(S:SR K H b st)(I:RV K H b o M)(R:RV K H b i L)(rp:RV K H b p v)(e:Y7 st o i p=some Ef)
  (q:∀H' b',eE H b H' b'->SR K H' b' Ef->Q H'):qFg M L v H Q:=by
 unfold Y7 at e;split at e
 ·rename_i n k;split at e
  ·rename_i xs e1;split at e
   ·rename_i j e2;cases e;unfold RV at I R;obtain⟨a,rfl,F⟩:=I;obtain⟨a',o',Y,U,vs,rfl,Z⟩:=S.at_ n _ e1;rw[F]at Y;cases Y;have hm:a∈b.b:=Bh F;refine⟨a,vs,k,j,rfl,R,U,by rw[←Z.length];exact e2,q _ b (eE.wr hm S.zb (lc U)) (S.wr (x:=.l (xs.set j p)) F ⟨_,rfl,?_⟩)⟩;have ew:eE H b (eN H a (.lst (vs.set j v))) b:=eE.wr hm S.zb (lc U);exact ee.set (RV.ext ew p rp) j (ee.ext ew xs Z)
   ·cases e
  ·cases e
 ·cases e
def vw{fo fi:FE}{o i:EY}{I:Pos}(L:VE X E o fo)(hi:VE X E i fi)(h:VE X E e f)
  (hs:swapsWithSole [.Subscript o i I] e pos.line X.env=pure false:=by rfl) (hw:swappedStores [.Subscript o i I] e X.env=pure none:=by rfl) (h1:(assignEach [.Subscript o i I] X.env).map (·.2)=[assign (.Subscript o i I) X.env]:=by rfl)
  (ha:∀v,assign (.Subscript o i I) X.env v=(do
   let U ← holding [v] (eval o X.env)
   let M ← holding [v,U] (eval i X.env)
   standAt I
   holding [v,U,M] (setItem U M v)
   release [v,U,M] []):=by intro _;rfl):VS X E (.Assign [.Subscript o i I] e pos) (lj fo fi f) :=
 PS.imp (mQ h (pT L hi rz ha) hs hw h1) fun D s H ⟨b,r,st,S,R,P⟩=>⟨b,r,st,S,R,ed.bindS P fun p s1 u H1 b1 Z S1 r1 P1 =>
  ⟨b1,r,s1,S1,R.ext Z,ed.bindS P1 fun o s2 ou H2 b2 F S2 r2 P2=>⟨b2,r,s2,S2,(R.ext Z).ext F,ed.bindS P2 fun i s3 iu H3 b3 q S3 r3 P3=>by
   split at P3;rename_i s4 e4;exact v0 S3 (RV.ext q o r2) r3 (RV.ext q p (RV.ext F p r1)) e4 fun H' b' Y S'=>P3 s H' b' Y S' ((((R.ext Z).ext F).ext q).ext Y);exact P3.elim⟩⟩⟩
structure ItP where
 l:List PV
 G:qC->Prop
def Fz(H H':Hp):Prop:=∀a o u,H a=some (.frz o u)->H' a=some (.frz o u)
def yO(K:EQ)(H0:Hp)(q:Bz)(J:It)(w:ItP):Prop:=∀H1 L F,WE H0 q H1 L->Fz H0 H1->SR K H1 L F->w.G F ->
 (∀(i:Nat) (p:PV),w.l[i]? = some p->J.go i H1∧∀x Y,J.yld i H1 x Y->gq H1 Y∧SR K Y L F∧RV K Y L p x)∧∀i,w.l.length≤i->J.stop i H1
def fg(K:EQ)(E:XK)(H:Hp)(b:Bz)(r:Rs ItP)(R:It->Hp->Prop):Prop:=match r with| .ok w st=>∀J H' b',eE H b H' b'->SR K H' b' st->yO K H' b' J w->R J H'| .ex x st=>XP K E H b x st| .no=>False
abbrev FI:=qz->qC->Rs ItP
def rq(K:EQ)(E:XK)(f:FI):TI:=fun s H R=>∃b r st,SR K H b st∧eI K H b r s∧fg K E H b (f r st) R
abbrev VI(X:Cx)(E:XK)(tg e:EY)(f:FI):Prop:=PI X tg e (rq X.K E f)
def fg.ext{K:EQ}{E:XK}{H H1:Hp}{b L:Bz}{r:Rs ItP}{R:It->Hp->Prop}(h:fg K E H b r R)(e:eE H b H1 L):fg K E H1 L r R:=by
 cases r with|ok p st=>exact fun J H' b' F=>h J H' b' (e.trans F)|ex x st=>exact XP.ext h e|no=>exact h
def ed.bindI{K:EQ}{E:XK}{H:Hp}{b:Bz}{r:Rs PV}{k:PV->qC->Rs ItP}{Q:It->Hp->Prop}{R:VK}(P:fg K E H b (r.bind k) Q)
  (h:∀p st v H1 L,eE H b H1 L->SR K H1 L st->RV K H1 L p v->fg K E H1 L (k p st) Q->R v H1):ed K E H b r R:=by
 cases r with|ok p st=>exact fun v H1 L e S r=>h p st v H1 L e S r (fg.ext (show fg K E H b (k p st) Q from P) e)|ex x st=>exact P|no=>exact P
def eG.bindI{K:EQ}{E:XK}{H:Hp}{b:Bz}{r:Rs (EK PV)}{k:EK PV->qC->Rs ItP}{Q:It->Hp->Prop}{R:EK V->Hp->Prop}(P:fg K E H b (r.bind k) Q)
  (h:∀p st v H1 L,eE H b H1 L->SR K H1 L st->ee K H1 L p v->fg K E H1 L (k p st) Q->R v H1):eG K E H b r R:=by
 cases r with|ok p st=>exact fun v H1 L e S r=>h p st v H1 L e S r (fg.ext (show fg K E H b (k p st) Q from P) e)|ex x st=>exact P|no=>exact P
def kG(p:PV)(st:qC):Rs ItP:=match p with
 | .ref i=>match fJ st (.ref i) with|some l=>.ok ⟨l,fun s=>s[i]? = some (.l l)⟩ st|none=>.no
 |p=>match WN st p with|some l=>.ok ⟨l,fun _=>True⟩ st|none=>.no
def q9(f:FE):FI:=fun r st=>(f r st).bind kG
def uW{l tg:EY}{U:TE}(hl:PE X l U):PI X tg l (fun σ H R=>U σ H fun x H1=>∃a,x= .ref a∧(((∃xs,fm X.K H1 a xs)∧R (li X.K a) H1)∨((∃xs,fC X.K H1 a xs)∧R (lh X.K a) H1))):=by
 intro Ee s σ H R I h;refine eK (hl Ee s σ H _ I h) fun v s1 ⟨x,H1,L,Y,F⟩=>?_;obtain⟨a,e,q⟩:=F;subst e;cases Y;rcases q with⟨⟨xs,Z⟩,q⟩|⟨⟨xs,Z⟩,q⟩
 ·obtain⟨Eg,M,p,hz⟩:=L.list Z;refine Ci p.isList ?_;refine⟨s1.heap.objs.size,[s1.heap.objs.size],_,_,H1,rfl,L.kept (t':=s1.toks) fun b o e=>AD _ e,xa a _,⟨_,AQ _ rfl,rfl,rfl⟩,fun b hb=>?_,q⟩;have e:b=s1.heap.objs.size:=by simpa using hb
  subst e;exact L.fpOk (AN _) (L.hok.fresh (AN _))
 ·obtain⟨Eg,M,p,hz⟩:=L.tuple Z;refine wpAny_pyIter_tuple (show s1.heap.IsTuple a Eg.toArray from p) ?_;refine⟨s1.heap.objs.size,[s1.heap.objs.size],_,_,H1,rfl,L.kept (t':=s1.toks) fun b o e=>AD _ e,tJ a _,⟨_,AQ _ rfl,rfl,rfl⟩,fun b hb=>?_,q⟩;have e:b=s1.heap.objs.size:=by simpa using hb
  subst e;exact L.fpOk (AN _) (L.hok.fresh (AN _))
def Y2{K:EQ}{H0:Hp}{q:Bz}{a:EN}{l:EK PV}{G:qC->Prop}
  (h:∀H1 L F,WE H0 q H1 L->SR K H1 L F->G F->∃xs,fm K H1 a xs∧ee K H1 L l xs):yO K H0 q (li K a) ⟨l,G⟩:=by
 intro H1 L F e _ S g;obtain⟨xs,Z,r⟩:=h H1 L F e S g;refine⟨fun i p R=>?_,fun i hi=>⟨xs,Z,by rw[←r.length];exact hi⟩⟩;obtain⟨x,M,U⟩:=r.get R;exact⟨⟨xs,x,Z,M⟩,fun y H2 ⟨Y,I⟩=>by
  subst Y
  have:=I xs Z
  rw[M]at this;cases this;exact⟨gq.refl _,S,U⟩⟩
def sw{K:EQ}{H0:Hp}{q:Bz}{a:EN}{l:EK PV}{G:qC->Prop}
  (h:∀H1 L F,WE H0 q H1 L->SR K H1 L F->G F->∃xs,fC K H1 a xs∧ee K H1 L l xs):yO K H0 q (lh K a) ⟨l,G⟩:=by
 intro H1 L F e _ S g;obtain⟨xs,Z,r⟩:=h H1 L F e S g;refine⟨fun i p R=>?_,fun i hi=>⟨xs,Z,by rw[←r.length];exact hi⟩⟩;obtain⟨x,M,U⟩:=r.get R;exact⟨⟨xs,x,Z,M⟩,fun y H2 ⟨Y,I⟩=>by
  subst Y
  have:=I xs Z
  rw[M]at this;cases this;exact⟨gq.refl _,S,U⟩⟩
def ww{tg:EY}(h:VE X E e f):VI X E tg e (q9 f):=fun Ee s σ H R I q=>uW h Ee s σ H R I (by
 obtain⟨b,r,st,S,RE,P⟩:=q;refine⟨b,r,st,S,RE,ed.bindI P fun p s1 u H1 b1 e1 S1 Y M=>?_⟩;unfold kG at M;split at M
 ·rename_i i;split at M;rename_i l Z;have r0:=Y;unfold RV at Y;obtain⟨a,rfl,ha⟩:=Y;obtain⟨a',xs,F,hq,hr⟩:=Q6 S1 r0 Z;cases F;refine⟨a,rfl,.inl ⟨⟨xs,hq⟩,M _ H1 b1 (eE.refl _ _) S1 (Y2 fun H2 b2 L F S2 g2=>?_)⟩⟩;obtain⟨a0,o,k1,k2,vs,rfl,k4⟩:=S2.at_ i _ g2;rw[F.ix ha]at k1;cases k1;exact⟨vs,fm.of k2,k4⟩;exact M.elim
 ·split at M
  ·rename_i l Z;cases p with|tup m=>have em:m=l:=Al Z;subst em;unfold RV at Y;obtain⟨a,xs,rfl,U,h3⟩:=Y;exact⟨a,rfl,.inr ⟨⟨xs,U.sq⟩,M _ H1 b1 (eE.refl _ _) S1 (sw fun H2 b2 L F S2 _=>⟨xs,(U.wext F).sq,ee.wext F m h3⟩)⟩⟩|lst m=>have em:m=l:=Al Z;subst em;unfold RV at Y;obtain⟨a,xs,rfl,U,h3⟩:=Y;exact⟨a,rfl,.inl ⟨⟨xs,U.sq⟩,M _ H1 b1 (eE.refl _ _) S1 (Y2 fun H2 b2 L F S2 _=>⟨xs,(U.wext F).sq,ee.wext F m h3⟩)⟩⟩|ref i=>rename_i hx;exact (hx i rfl).elim|_=>cases Z
  ·exact M.elim)
def yp(lo hi:Int):EK PV:=(List.range (hi-lo).toNat).map fun (i:Nat)=>PV.int (lo+(i:Int))
def jm(l:EK PV)(st:qC):Rs ItP:=match l with|[.int j]=>if -(2 ^ 62)≤j∧j<2 ^ 62 then .ok ⟨yp 0 j,fun _=>True⟩ st else .no|_=>.no
def jX(l:EK PV)(st:qC):Rs ItP:=match l with|[.int i,.int j]=>if -(2 ^ 62)≤i∧i<2 ^ 62∧ -(2 ^ 62)≤j∧j<2 ^ 62 then .ok ⟨yp i j,fun _=>True⟩ st else .no|_=>.no
def JB{K:EQ}{H0:Hp}{q:Bz}{lo hi:Int}:yO K H0 q (iD lo (hi-lo).toNat) ⟨yp lo hi,fun _=>True⟩:=by
 intro H1 I F e _ S g;have hl:(yp lo hi).length=(hi-lo).toNat:=by simp[yp]
 refine⟨fun i p L=>?_,fun i U=>by rw[show (ItP.mk (yp lo hi) fun _=>True).l.length=(hi-lo).toNat from hl]at U;exact U⟩;have U:i<(hi-lo).toNat:=by
  have:=(Ag.mp L).1
  rw[←hl];exact this
 unfold yp at L;dsimp only at L;rw[Am,List.getElem?_range U]at L;cases L;exact⟨U,fun x Y ⟨Z,R⟩=>by subst Z;subst R;exact⟨gq.refl _,S,Q0⟩⟩
def zY(t:FA):FI:=fun r st=>(t r st).bind jm
def yF(t:FA):FI:=fun r st=>(t r st).bind jX
def W8{tg:EY}{t:FA}{p:Pos}(Z:Gl X "range")(U:X.mg "range" = none)(L:VA X E [a] t)(hs:starEach [a] X.env=[(false,eval a X.env)]:=by rfl):VI X E tg (.Call (.Name "range" p) [a] [] pos) (zY t):=fun Ee s σ H R I q=>vn Z U L hs Ee s σ H R I (by
 obtain⟨b,r,st,S,RE,P⟩:=q;refine⟨b,r,st,S,RE,eG.bindI P fun l s1 us H1 b1 e1 S1 r1 M=>?_⟩;unfold jm at M;split at M
 ·obtain⟨u,rfl,Y⟩:=ee.one r1;unfold RV at Y;subst Y;split at M
  ·rename_i j F;refine⟨j,rfl,F.1,F.2,?_⟩
   have:=M (iD 0 (j-0).toNat) H1 b1 (eE.refl _ _) S1 JB
   rw[Int.sub_zero]at this;exact this
  ·exact M.elim
 ·exact M.elim)
def ZH{tg:EY}{t:FA}{p:Pos}(Z:Gl X "range")(F:X.mg "range" = none)(ha:VA X E [a,c] t)(hs:starEach [a,c] X.env=[(false,eval a X.env),(false,eval c X.env)]:=by rfl)(L:starEach [c] X.env=[(false,eval c X.env)]:=by rfl):VI X E tg (.Call (.Name "range" p) [a,c] [] pos) (yF t):=fun Ee s σ H R I q=>vB Z F ha hs L Ee s σ H R I (by
 obtain⟨b,r,st,S,RE,P⟩:=q;refine⟨b,r,st,S,RE,eG.bindI P fun l s1 us H1 b1 e1 S1 r1 M=>?_⟩;unfold jX at M;split at M
 ·obtain⟨u,v,rfl,Y,U⟩:=ee.two r1;unfold RV at Y U;subst Y;subst U;split at M;rename_i i j hj;exact⟨i,j,rfl,hj,M _ H1 b1 (eE.refl _ _) S1 JB⟩;exact M.elim
 ·exact M.elim)
def f8.unbare{X:Cx}{st:EK Stmt}{t:TS}(h:f8 X.nox st t){Ee:EK (EN×Obj)}{s:EM}{σ:L2.St}{H:Hp}{D:fF}{E:EL->EM->Prop}(I:L2.Inv X Ee σ H s)(q:t D σ H):wpAny (model X.prog X.w) X.A (execs st X.env) (SP X Ee D) E s :=
 wpAny_noRaise (eK (h Ee s σ H D (I.wish _) q) fun f L hs=>hs.unwish)
def PG.unbare{X:Cx}{tg:EY}{t:TG}(h:PG X.nox tg t){Ee:EK (EN×Obj)}{s:EM}{σ:L2.St}{H:Hp}{v:V}{u:EL}{Q:L2.St->Hp->Prop}{E:EL->EM->Prop}(I:L2.Inv X Ee σ H s)(r:RelV v u)(q:t v σ H Q):wpAny (model X.prog X.w) X.A (assign tg X.env u) (fun _ s'=>∃Z H',L2.Inv X Ee Z H' s'∧Q Z H') E s :=
 wpAny_noRaise (eK (h Ee s σ H v u Q (I.wish _) r q) fun f s' ⟨Z,H',R,Y⟩=>⟨Z,H',R.unwish,Y⟩)
def rE{tg iter:EY}{Y:EK Stmt}{wi:TI}{g:TG}{tb:TS}{pos:Pos}(hi:PI X tg iter wi)(hg:PG X.nox tg g)(hb:f8 X.nox Y tb)
  (hs:∀x,foldedSetIterable iter X.env x=pure x:=by intro _;rfl):PS X (.For tg iter Y [] pos) (sY wi g tb):=by
 intro Ee s σ H D I h;refine wpAny_For (eK (hi Ee s σ H _ I h) fun v s1 h1=>eK h1 fun a5 s2 h2=>?_) hs;obtain⟨it,fp,tn,J,H2,e,I2,T,a2,f2,W,⟨m0,w0⟩,U⟩:=h2;subst e;have R:∀{H':Hp},(∀b∈fp,H' b=none)->∀b∈fp,ZP X Ee H' b:=fun hn b hb=>⟨hn b hb,(f2 b hb).2⟩;refine codeAny_forLoop_any (fun n s'=>∃i σ' H',L2.Inv X Ee σ' H' s'∧tn i s'.heap∧(∀b∈fp,H' b=none)∧W i n σ' H') ?_ m0 ⟨0,σ,H2,I2,a2,fun b hb=>(f2 b hb).1,w0⟩;rintro n s3 ⟨i,σ3,H3,I3,a0,a1,w3⟩;rcases U i n σ3 H3 w3 with⟨stop,qn⟩|⟨go,N,hN,step⟩
 ·refine eK (T.done X rfl rfl rfl rfl i Ee s3 σ3 H3 _ I3 (R a1) a0 stop) fun r s4 ⟨hr,I4⟩=>?_;subst hr;exact wpAny_execs_nil ⟨σ3,H3,I4,qn⟩
 ·refine eK (T.item X rfl rfl rfl rfl i Ee s3 σ3 H3 _ I3 (R a1) a0 go) fun r s4 ⟨u,hr,h4⟩=>?_;subst hr;refine eK h4 fun _ s5 ⟨x,H5,I5,r5,y5,M,a3⟩=>?_;have a4:=I5.pinned (R a3) (T.obj _ _ M);refine eK (PG.unbare hg a4 r5 (step x H5 y5)) fun _ s6 ⟨σ6,H6,I6,q6⟩=>?_;refine eK (f8.unbare hb I6 q6) fun f s7 Z=>?_;have again:∀{L:L2.St} {q:Hp},L2.Inv X (Ee++ZS fp s5.heap) L q s7->N L q->∃m,m<n∧∃i σ' H',L2.Inv X Ee σ' H' s7∧tn i s7.heap∧(∀b∈fp,H' b=none)∧W i m σ' H':=fun {L q} F n7=>by obtain⟨m',hm,w7⟩:=hN L q n7;refine⟨m',hm,i+1,L,q,F.unpinned,T.keep _ _ _ M fun b hb o e=>(F.pin (b,o) (BD _ (BD _ (zS hb e)))).1,fun b hb=>?_,w7⟩;obtain⟨o,e,d⟩:=T.obj _ _ M b hb;exact (F.pin (b,o) (BD _ (BD _ (zS hb e)))).2.1
  cases f with|next=>obtain⟨L,q,F,n7⟩:=Z;exact again F n7|cont=>obtain⟨L,q,F,n7⟩:=Z;exact again F n7|brk=>obtain⟨L,q,F,Z⟩:=Z;exact⟨L,q,F.unpinned,Z⟩|ret v=>obtain⟨x7,L,q,F,r7,Z⟩:=Z;exact⟨x7,L,q,F.unpinned,r7,Z⟩
open Classical in
noncomputable def Q3(G:qC->Prop)(g:FG)(F:FS):EK PV->qz->qC->RS
 |[],r,st=>if G st then .nx r st else .no
 |p::ps,r,st=>if G st then
   match g p r with
   |none=>.no
   |some Y=>match F Y st with| .nx I s2=>Q3 G g F ps I s2| .ct I s2=>Q3 G g F ps I s2| .bk I s2=>.nx I s2| .rt v s2=>.rt v s2| .ex _ _=>.no| .no=>.no
  else .no
noncomputable def We(fi:FI)(g:FG)(F:FS):FS:=fun r st=>(fi r st).bindS fun w s=>Q3 w.G g F w.l r s
def fg.bindS{K:EQ}{E:XK}{H:Hp}{b:Bz}{r:Rs ItP}{k:ItP->qC->RS}{D:fF}{R:It->Hp->Prop}(P:eD K E H b (r.bindS k) D)
  (h:∀w st J H1 L,eE H b H1 L->SR K H1 L st->yO K H1 L J w->eD K E H1 L (k w st) D->R J H1):fg K E H b r R:=by
 cases r with|ok p st=>exact fun J H1 L e S r=>h p st J H1 L e S r (eD.ext (show eD K E H b (k p st) D from P) e)|ex x st=>exact P|no=>exact P
def zw{tg iter:EY}{I:EK Stmt}{fi:FI}{g:FG}(hi:VI X E tg iter fi)(hg:VG X.nox tg g)(hb:gM X.nox E0 I F)(hs:∀x,foldedSetIterable iter X.env x=pure x:=by intro _;rfl):VS X E (.For tg iter I [] pos) (We fi g F):=by
 refine PS.imp (rE hi hg hb hs) fun D s H ⟨b,r,st,S,R,P⟩=>?_;refine⟨b,r,st,S,R,fg.bindS P fun w a1 J H1 b1 e1 S1 it P1=>?_⟩;refine⟨fun i m σ' H'=>∃U r2 Y,eE H1 b1 H' U∧SR X.K H' U Y∧eI X.K H' U r2 σ'∧m=w.l.length+1-i∧i≤w.l.length∧eD X.K E H' U (Q3 w.G g F (w.l.drop i) r2 Y) D,⟨w.l.length+1,b1,r,a1,eE.refl _ _,S1,R.ext e1,by omega,Bf _,by simpa using P1⟩,?_⟩;rintro i m σ' H' ⟨U,r2,Y,e2,S2,R2,hm,a3,L⟩;by_cases Z:i<w.l.length
 ·have hd:w.l.drop i=w.l[i]::w.l.drop (i+1):=List.drop_eq_getElem_cons Z;rw[hd]at L;unfold Q3 at L;by_cases M:w.G Y
  ·rw[AC M]at L;obtain⟨h1,h2⟩:=it H' U Y e2.toWE e2.fz S2 M;obtain⟨go,yl⟩:=h1 i w.l[i] (AE Z);refine .inr ⟨go,fun σ3 H3=>∃b3 r3 q,eE H1 b1 H3 b3∧SR X.K H3 b3 q∧eI X.K H3 b3 r3 σ3∧eD X.K E H3 b3 (Q3 w.G g F (w.l.drop (i+1)) r3 q) D,?_,?_⟩
   ·rintro σ3 H3 ⟨b3,r3,q,k1,k2,k3,k4⟩;exact⟨w.l.length+1-(i+1),by omega,b3,r3,q,k1,k2,k3,rfl,Z,k4⟩
   ·intro x H3 hx;obtain⟨a2,S3,r3⟩:=yl x H3 hx;have e3:eE H' U H3 U:=eE.of_same a2;cases eg:g w.l[i] r2 with
    |none=>rw[eg]at L;exact L.elim
    |some r4 =>
     rw[eg]at L;refine⟨U,r2,w.l[i],Y,S3,R2.ext e3,r3,r4,eg,fun s4 R4=>⟨U,r4,Y,S3,R4,?_⟩⟩;have P3:=eD.ext L e3;dsimp only at P3;have a0:=e2.trans e3;cases eF:F r4 Y with|nx r5 s5=>rw[eF]at P3;exact fun s6 H6 b6 e6 S6 R6=>⟨b6,r5,s5,a0.trans e6,S6,R6,eD.ext P3 e6⟩|ct r5 s5=>rw[eF]at P3;exact fun s6 H6 b6 e6 S6 R6=>⟨b6,r5,s5,a0.trans e6,S6,R6,eD.ext P3 e6⟩|bk r5 s5=>rw[eF]at P3;exact P3|rt v s5=>rw[eF]at P3;exact P3|ex x s5=>rw[eF]at P3;exact P3.elim|no=>rw[eF]at P3;exact P3.elim
  ·rw[AF M]at L;exact L.elim
 ·have hl:i=w.l.length:=by omega
  subst hl;rw[List.drop_length]at L;unfold Q3 at L;by_cases M:w.G Y;rw[AC M]at L;obtain⟨h1,h2⟩:=it H' U Y e2.toWE e2.fz S2 M;exact .inl ⟨h2 _ (AN _),L σ' H' U (eE.refl _ _) S2 R2⟩;rw[AF M]at L;exact L.elim
end
def QJ{x n:Str}{a c:EN}{r:EK (Str×EN)}(h:List.lookup x ((n,a)::r)=some c):(x=n∧a=c)∨(x≠n∧List.lookup x r=some c):=by
 rw[At]at h;cases hb:x==n with|true=>rw[hb]at h;exact .inl ⟨beq_iff_eq.mp hb,Al h⟩|false=>rw[hb]at h;exact .inr ⟨fun z=>(by rw[beq_iff_eq.mpr z]at hb;cases hb),h⟩
def Qv{x:Str}{c:EN}:∀{names:EK (Str×NameKind)} {n:Nat} {Eh:EK (Str×EN)},(cellsFrom n names Eh).lookup x=some c->(n≤c∧(x,NameKind.cell)∈names)∨Eh.lookup x=some c
 |[],_,_,h=>.inr h
 |(L,k)::r,n,Eh,h=>by
  unfold cellsFrom at h;split at h
  ·rename_i I;have Z:k= .cell:=by simpa using I
   rcases Qv h with⟨h1,U⟩|h1
   ·exact .inl ⟨Nat.le_of_succ_le h1,AO _ U⟩
   ·rcases QJ h1 with⟨Y,R⟩|⟨_,R⟩
    ·exact .inl ⟨Nat.le_of_eq R,by rw[Y,Z];exact AT⟩
    ·exact .inr R
  ·rcases Qv h with⟨h1,U⟩|h1
   ·exact .inl ⟨h1,AO _ U⟩
   ·exact .inr h1
def Wu{x:Str}{c:EN}{n0:Nat}:∀{names:EK (Str×NameKind)} {n:Nat} {Eh:EK (Str×EN)},n0≤n->((∃a,Eh.lookup x=some a∧n0≤a)∨(x,NameKind.cell)∈names)->(cellsFrom n names Eh).lookup x=some c->n0≤c
 |[],_,Eh,_,h,e=>by
  rcases h with⟨a,Y,U⟩|h
  ·have:Eh.lookup x=some c:=e
   rw[Y]at this;cases this;exact U
  ·exact absurd h (by simp)
 |(I,k)::r,n,Eh,M,h,e=>by
  unfold cellsFrom at e;split at e
  ·rename_i R;refine Wu (n:=n+1) (Nat.le_succ_of_le M) ?_ e;by_cases L:x=I;exact .inl ⟨n,by rw[At,L,Aj],M⟩
   ·rcases h with⟨a,Y,U⟩|h
    ·exact .inl ⟨a,by rw[At,CJ L];exact Y,U⟩
    ·rcases AJ.mp h with q|q
     ·exact absurd (Cv q).1 L
     ·exact .inr q
  ·rename_i R;refine Wu M ?_ e;rcases h with h|h
   ·exact .inl h
   ·rcases AJ.mp h with q|q
    ·exact absurd (by rw[←(Cv q).2];rfl) R
    ·exact .inr q
def Wr{x y:Str}{c:EN}:∀{names:EK (Str×NameKind)} {n:Nat} {Eh:EK (Str×EN)},(∀z a,Eh.lookup z=some a->a<n)->(cellsFrom n names Eh).lookup x=some c->(cellsFrom n names Eh).lookup y=some c ->
  x=y∨(Eh.lookup x=some c∧Eh.lookup y=some c)
 |[],_,_,_,Y,U=>.inr ⟨Y,U⟩
 |(L,k)::r,n,Eh,hb,Y,U=>by
  unfold cellsFrom at Y U;split at Y
  ·rename_i I;rw[AC I]at U;have F:∀z a,List.lookup z ((L,n)::Eh)=some a->a<n+1:=fun z a h=>by
    rcases QJ h with⟨_,e⟩|⟨_,e⟩
    ·rw[←e];exact Nat.lt_succ_self _
    ·exact BG (hb z a e)
   rcases Wr F Y U with e|⟨e1,e2⟩
   ·exact .inl e
   ·rcases QJ e1 with⟨Z,M⟩|⟨Z,M⟩ <;> rcases QJ e2 with⟨q,R⟩|⟨q,R⟩
    ·exact .inl (Z.trans q.symm)
    ·exact absurd (hb y c R) (by rw[←M];exact CA _)
    ·exact absurd (hb x c M) (by rw[←R];exact CA _)
    ·exact .inr ⟨M,R⟩
  ·rename_i I;rw[AF I]at U;exact Wr hb Y U
def WC{x:Str}:∀{names:EK (Str×NameKind)} {n:Nat} {Eh:EK (Str×EN)},((∃a,Eh.lookup x=some a)∨(x,NameKind.cell)∈names)->∃c,(cellsFrom n names Eh).lookup x=some c
 |[],_,_,h=>h.elim (fun h=>h) fun h=>absurd h (by simp)
 |(I,k)::r,n,Eh,h=>by
  unfold cellsFrom;split
  ·rename_i R;refine WC ?_;by_cases M:x=I;exact .inl ⟨n,by rw[At,M,Aj]⟩
   ·rcases h with⟨a,Y⟩|h
    ·exact .inl ⟨a,by rw[At,CJ M];exact Y⟩
    ·rcases AJ.mp h with q|q
     ·exact absurd (Cv q).1 M
     ·exact .inr q
  ·rename_i R;refine WC ?_;rcases h with h|h
   ·exact .inl h
   ·rcases AJ.mp h with q|q
    ·exact absurd (by rw[←(Cv q).2];rfl) R
    ·exact .inr q
def WY{x:Str}{c:EN}:∀{names:EK (Str×NameKind)} {h:Heap} {Eh:EK (Str×EN)},(cellsFrom h.objs.size names Eh).lookup x=some c->(∃o,Eh.lookup x=some c∧o=())∨(pushCells h names).IsCell c none
 |[],_,_,e=>.inl ⟨(),e,rfl⟩
 |(I,k)::r,h,Eh,e=>by
  unfold cellsFrom at e;unfold pushCells;split at e
  ·rename_i R;rw[AC R];have U:(cellsFrom (h.push { cls:=.type "cell",data:=.cell none }).objs.size r ((I,h.objs.size)::Eh)).lookup x=some c:=by rw[BI];exact e
   rcases WY U with⟨_,q,_⟩|q
   ·rcases QJ q with⟨_,F⟩|⟨_,F⟩
    ·subst F;exact .inr ⟨_,Cz _ _ _ _ (AQ _ rfl),rfl⟩
    ·exact .inl ⟨(),F,rfl⟩
   ·exact .inr q
  ·rename_i R;rw[AF R];exact WY e
def gm(env:Env):EK (Str×NameKind)->EK (Str×EN)->EK (Str×EN)|[],q=>q|(n,k)::r,q=>if k == .free then gm env r ((n,(env.cells.lookup n).getD 0)::q) else gm env r q
def oX{env:Env}(f:Str×NameKind->EK (Str×EN)->Sem (ForInStep (EK (Str×EN))))
  (F:∀n k Eh,f (n,k) Eh=if k == .free then (do let a ← cellOf env n;pure (.yield ((n,a)::Eh))) else pure (.yield Eh)) :
  ∀(names:EK (Str×NameKind)) (Eh:EK (Str×EN)),(∀x∈names,x.2= .free->∃c,env.cells.lookup x.1=some c)->forIn names Eh f=(pure (gm env names Eh):Sem _)
 |[],Eh,_=>by rw[List.forIn_nil];rfl
 |(n,k)::r,Eh,h=>by
  rw[C0,F];unfold gm;have I:=fun a=>oX f F r a fun x M=>h x (AO _ M);split
  ·rename_i R;have Z:k= .free:=by simpa using R
   obtain⟨c,e⟩:=h (n,k) AT Z;have q:cellOf env n=pure c:=by unfold cellOf;rw[show env.cells.lookup n=some c from e]
   rw[q];simp only[pure_bind];rw[I,show env.cells.lookup n=some c from e];rfl
  ·simp only[pure_bind];exact I Eh
def YB{scope:Scope}{env:Env}(h:∀x∈scope.names,x.2= .free->∃c,env.cells.lookup x.1=some c):closureFor scope env=pure (gm env scope.names []):=by
 unfold closureFor;dsimp only;rw[oX _ (fun n k q=>by cases R:k==NameKind.free <;> simp[R]) _ _ h];rfl
def yk{env:Env}{x:Str}{c:EN}:∀{names:EK (Str×NameKind)} {Eh:EK (Str×EN)},(∀y∈names,y.2= .free->∃c,env.cells.lookup y.1=some c)->(gm env names Eh).lookup x=some c->env.cells.lookup x=some c∨Eh.lookup x=some c
 |[],_,_,e=>.inr e
 |(n,k)::r,Eh,h,e=>by
  unfold gm at e;have h':=fun y I=>h y (AO _ I);split at e
  ·rename_i L;have Z:k= .free:=by simpa using L
   obtain⟨a,F⟩:=h (n,k) AT Z;rcases yk h' e with q|q
   ·exact .inl q
   ·rcases QJ q with⟨Y,R⟩|⟨_,R⟩
    ·rw[show env.cells.lookup n=some a from F]at R;exact .inl (by rw[Y,show env.cells.lookup n=some a from F];exact A5 some R)
    ·exact .inr R
  ·exact yk h' e
def yY{env:Env}{x:Str}:∀{names:EK (Str×NameKind)} {Eh:EK (Str×EN)},((x,NameKind.free)∈names∨∃a,Eh.lookup x=some a)->∃c,(gm env names Eh).lookup x=some c
 |[],_,h=>h.elim (fun h=>absurd h (by simp)) fun h=>h
 |(n,k)::r,Eh,h=>by
  unfold gm;split
  ·refine yY ?_;by_cases M:x=n;exact .inr ⟨_,by rw[At,M,Aj]⟩
   ·rcases h with h|⟨a,h⟩
    ·rcases AJ.mp h with q|q
     ·exact absurd (Cv q).1 M
     ·exact .inl q
    ·exact .inr ⟨a,by rw[At,CJ M];exact h⟩
  ·rename_i R;refine yY ?_;rcases h with h|h
   ·rcases AJ.mp h with q|q
    ·exact absurd (by rw[←(Cv q).2];rfl) R
    ·exact .inl q
   ·exact .inr h
def Dv(X:Cx)(scope:Scope)(C:EN):Env :=
 { scope:=relabel scope X.env,locals:=C,globals:=X.env.globals,cells:=cellsFrom (C+1) scope.names (gm X.env scope.names []),qual:=X.env.qual,func:=none,code:=X.env.code,frame:=X.env.frame,builtins:=X.env.builtins }
def gg(X:Cx)(scope:Scope)(N:EK Str)(s:EM)(H:Hp)(fp:EK EN)(pn:EK (EN×Obj)):Cx where
 prog:=X.prog
 w:=X.w
 K:=X.K
 mg:=X.mg
 base:=X.base
 A:=X.A
 N:=N
 s₀:=s
 H₀:=H
 env:=Dv X scope s.heap.objs.size
 outer:=X.stack
 stack:=X.stack
 ex:=fp
 fn:=fun x=>scope.names.lookup x==some .cell
 calm:=X.calm
 pn:=pn
 xe:=fun _ _=>False
structure i0 (X:Cx) (scope:Scope) (Eo Ej:List Str) (Ei:List Nat):Prop where
 kind:scope.kind= .function
 nd:(scope.names.map (·.1)).Nodup
 fr:∀x∈scope.names,x.2= .free->(X.env.kindOf x.1=some .cell∨X.env.kindOf x.1=some .free)
 len:Eo.length=Ei.length
 cap:∀(i:Nat) (x:Str) (j:Nat),Eo[i]? = some x->Ei[i]? = some j->X.N[j]? = some x∧(x,NameKind.free)∈scope.names
def WW{x:Str}{k:NameKind}:∀{names:EK (Str×NameKind)},(names.map (·.1)).Nodup->(x,k)∈names->names.lookup x=some k
 |(n,Z)::r,nd,h=>by
  rw[AU,Bm]at nd;rw[At];rcases AJ.mp h with q|q
  ·obtain⟨rfl,rfl⟩:=Cv q;rw[Aj]
  ·have Y:x≠n:=fun z=>nd.1 (by rw[←z];exact An.mpr ⟨(x,k),q,rfl⟩);rw[CJ Y];exact WW nd.2 q
def wo{env:Env}{x:Str}:∀{names:EK (Str×NameKind)},
  (names.map fun (n,k)=>if (k==NameKind.free&&env.scope.kind == .function&&env.kindOf n==some .cell) then (n,NameKind.cell) else (n,k)).lookup x=(names.lookup x).map fun k=>if (k==NameKind.free&&env.scope.kind == .function&&env.kindOf x==some .cell) then NameKind.cell else k
 |[]=>rfl
 |(n,k)::r=>by
  rw[AU,At];show List.lookup x ((if (k==NameKind.free&&env.scope.kind == .function&&env.kindOf n==some .cell)=true then (n,NameKind.cell) else (n,k))::_)=_;cases M:x==n with
  |true =>
   have Z:x=n:=beq_iff_eq.mp M;subst Z;by_cases U:(k==NameKind.free&&env.scope.kind == .function&&env.kindOf x==some .cell)=true;rw[AC U];simp only[At,Aj,Option.map_some];rw[AC U];rw[AF U];simp only[At,Aj,Option.map_some];rw[AF U]
  |false =>
   by_cases U:(k==NameKind.free&&env.scope.kind == .function&&env.kindOf n==some .cell)=true;rw[AC U];simp only[At,M];exact wo;rw[AF U];simp only[At,M];exact wo
def YS{X:Cx}{scope:Scope}{Eo Ej:EK Str}{Ei:EK Nat}(cs:i0 X scope Eo Ej Ei){Ee:EK (EN×Obj)}{σ:L2.St}{H:Hp}{s s4:EM}{fp:EK EN}(I:L2.Inv X Ee σ H s)(hf:∀b∈fp,ZP X Ee H b)(a0:∀b∈fp,b<s.heap.objs.size)
  (h4:s4={ s with heap:=pushCells (s.heap.push { cls:=.type "dict",data:=.dict #[] }) scope.names }) :
  L2.Inv (gg X scope (Eo++Ej) s H fp (X.pn++Ee)) [] ((Ei.map fun j=>(σ[j]?).join)++List.replicate Ej.length none) H s4:=by
 have Y:∀x∈scope.names,x.2= .free->∃c,X.env.cells.lookup x.1=some c:=fun x hx L=>I.ok.has x.1 (cs.fr x hx L);have keep:∀b o,s.heap.get? b=some o->s4.heap.get? b=some o:=fun b o e=>by subst h4;exact Cz _ _ _ _ (AD _ e)
 have M:∀x c,(gm X.env scope.names []).lookup x=some c->X.env.cells.lookup x=some c:=fun x c e=>(yk Y e).elim (fun q=>q) fun q=>by cases q
 have a1:∀x c,(gm X.env scope.names []).lookup x=some c->c<s.heap.objs.size:=fun x c e=>by obtain⟨v,q⟩:=I.cell x c (M x c e);exact q.lt
 have U:∀x c,(cellsFrom (s.heap.objs.size+1) scope.names (gm X.env scope.names [])).lookup x=some c->(s.heap.objs.size+1≤c)∨(c<s.heap.objs.size∧X.env.cells.lookup x=some c):=fun x c e=>by
  rcases Qv e with⟨q,_⟩|q
  ·exact .inl q
  ·exact .inr ⟨a1 x c q,M x c q⟩
 have a4:∀x,(X.env.kindOf x=some .cell∨X.env.kindOf x=some .free)->True:=fun _ _=>trivial;refine⟨⟨I.ok.mod,cs.kind,I.ok.glob,I.ok.blt,AN _,fun x y c h1 h2=>?_,fun x hx=>?_,fun x c hx e=>?_,I.ok.hd,I.ok.frames,.inl rfl,fun b hb=>⟨AV (a0 b hb),fun x c e=>?_⟩,fun b o e=>I.bs b o e,AW I.ok.bsz I.sz,fun b o e hb=>?_,fun b hb hm=>?_,I.stack,I.stkFree⟩,
  by subst h4;rfl,by subst h4;exact I.bare,Un.kept keep,?_,fun x c e=>?_,I.hok.fresh (AN _),fun x c e=>?_,fun p hp=>?_,I.hok.kept keep,?_,I.hnd⟩
 ·rcases Wr (fun z a e=>BG (a1 z a e)) h1 h2 with e|⟨e1,F⟩
  ·exact e
  ·exact I.ok.inj x y c (M x c e1) (M y c F)
 ·refine WC ?_;have Z:(relabel scope X.env).names.lookup x=some .cell∨(relabel scope X.env).names.lookup x=some .free:=hx;have e:(relabel scope X.env).names.lookup x=(scope.names.lookup x).map fun k=>if (k==NameKind.free&&X.env.scope.kind == .function&&X.env.kindOf x==some .cell) then NameKind.cell else k:=wo;rw[e]at Z;cases q:scope.names.lookup x with
  |none=>rw[q]at Z;rcases Z with z|z <;> cases z
  |some k =>
   rw[q]at Z;have hm:=Bq q;by_cases L:k= .free;subst L;exact .inl (yY (.inl hm))
   ·have a5:(k==NameKind.free)=false:=by simpa using L
    simp only[Option.map_some,a5,Bool.false_and,C3,if_false]at Z;rcases Z with z|z
    ·cases z;exact .inr hm
    ·cases z;exact absurd rfl L
 ·have Z:scope.names.lookup x=some .cell:=by simpa[gg] using hx
  exact Nat.le_of_succ_le (Wu (n0:=s.heap.objs.size+1) (AN _) (.inr (Bq Z)) e)
 ·rcases U x c e with q|⟨q,q'⟩
  ·exact fun z=>by rw[z]at q;exact absurd (a0 b hb) (Nat.not_lt.mpr (Nat.le_of_succ_le q))
  ·exact (hf b hb).2.2.2.2.1 x c q'
 ·obtain⟨_,_,_,h3,_⟩:=hf b hb;rcases h3 with q|q
  ·exact I.ok.noex b o e q
  ·exact absurd (AK e) (Nat.not_lt.mpr (AW I.ok.bsz q))
 ·obtain⟨_,h1,h2,_⟩:=hf b hb;exact (AJ.mp (I.stkSub b hm)).elim h1 h2
 ·refine⟨fun _=>none,?_,fun i x v e1 F e3=>?_⟩;subst h4;exact (Heap.Ns.new s.heap (.type "dict")).keeps (Cz _ _)
  ·have hi:i<Ei.length:=by
    by_cases hi:i<Ei.length;exact hi
    ·rw[A9 (by simpa using hi),CB]at F;split at F <;> cases F
   rw[Aq (by simpa using hi),Am]at F;have a2:(Eo++Ej)[i]? = some x:=e1;rw[Aq (by rw[cs.len];exact hi)]at a2;cases ej:Ei[i]? with
   |none=>rw[ej]at F;cases F
   |some j =>
    rw[ej]at F;obtain⟨k1,k2⟩:=cs.cap i x j a2 ej;have a6:σ[j]? = some (some v):=by
     have R:(σ[j]?).join=some v:=Al F;cases q:σ[j]? with|none=>rw[q]at R;cases R|some o=>rw[q]at R;exact A5 some R
    have L:=cs.fr _ k2 rfl;obtain⟨m,hn,hl⟩:=I.loc;obtain⟨u,ru,lu⟩:=hl j x v k1 a6 (L.elim (fun z=>.inr (.inl z)) fun z=>.inr (.inr z));refine⟨u,ru,.inr ?_⟩;have hc:∃c,X.env.cells.lookup x=some c∧s.heap.IsCell c (some u):=by
     rcases lu with⟨z,_⟩|⟨_,z⟩
     ·rcases L with y|y <;> · rw[z]at y;cases y
     ·exact z
    obtain⟨c,c1,c2⟩:=hc;obtain⟨c',e'⟩:=yY (env:=X.env) (Eh:=[]) (.inl k2);have F:=M x c' e';rw[c1]at F;cases F;have a3:scope.names.lookup x=some .free:=WW cs.nd k2;refine⟨?_,c,?_,c2.keeps keep⟩
    ·show (relabel scope X.env).names.lookup x=some .cell∨(relabel scope X.env).names.lookup x=some .free;have e:(relabel scope X.env).names.lookup x=(scope.names.lookup x).map fun k=>if (k==NameKind.free&&X.env.scope.kind == .function&&X.env.kindOf x==some .cell) then NameKind.cell else k:=wo;rw[e,a3];simp only[Option.map_some];split;exact .inl rfl;exact .inr rfl
    ·obtain⟨d,hd⟩:=WC (names:=scope.names) (n:=s.heap.objs.size+1) (Eh:=gm X.env scope.names []) (x:=x) (.inl ⟨c,e'⟩);rcases Qv hd with⟨q,q'⟩|q
     ·have:=WW cs.nd q'
      rw[a3]at this;cases this
     ·rw[e']at q;cases q;exact hd
 ·rcases Qv e with⟨q,_⟩|q
  ·have e':(cellsFrom (s.heap.push { cls:=.type "dict",data:=.dict #[] }).objs.size scope.names (gm X.env scope.names [])).lookup x=some c:=by rw[BI];exact e
   rcases WY e' with⟨_,z,_⟩|z
   ·obtain⟨v,y⟩:=I.cell x c (M x c z);exact⟨v,y.keeps keep⟩
   ·subst h4;exact⟨none,z⟩
  ·obtain⟨v,y⟩:=I.cell x c (M x c q);exact⟨v,y.keeps keep⟩
 ·rcases U x c e with q|⟨q,q'⟩
  ·exact I.hok.fresh (Nat.le_of_succ_le q)
  ·exact I.freeC x c q'
 ·have a7:p∈X.pn++Ee:=by simpa[gg] using hp
  obtain⟨k1,k2,k3,k4,k5⟩:=I.pin p a7;exact⟨keep _ _ k1,k2,AV (AK k1),fun z=>(AJ.mp (I.stkSub p.1 z)).elim k3 k4,k5⟩
 ·show ((Ei.map fun j=>(σ[j]?).join)++List.replicate Ej.length none).length=(Eo++Ej).length;rw[Ac,AG,List.length_replicate,Ac,cs.len]
def J4{X:Cx}{scope:Scope}{N:EK Str}{Ee:EK (EN×Obj)}{σ σ':L2.St}{H H':Hp}{s s':EM}{F:Heap}{fp:EK EN}(I:L2.Inv X Ee σ H s)(hf:∀b∈fp,ZP X Ee H b)
  (J:L2.Inv (gg X scope N s H fp (X.pn++Ee)) [] σ' H' s') (M:Heap.SameBut s.heap.objs.size s'.heap F):L2.Inv X Ee σ H' { s' with heap:=F }:=by
 have R:s'.os=s.os:=J.os;have Y:∀b o,s.heap.get? b=some o->b≠s.heap.objs.size:=fun b o e=>AV (AK e);have u:Un (fx X.stack) fp H H' s.heap F:=by have Z:=J.base;exact⟨fun b o e n L U=>M.extBut b o (Y b o e) (Z.keep b o e n L U),fun b o e n L U=>(Z.slot b o e n L U).elim fun sl q=>⟨sl,M.extBut b _ (Y b o e) q⟩,Z.free,fun b o e U=>(Z.there b o e U).elim fun o' q=>⟨o',M.extBut b o' (Y b o e) q⟩,Z.tups,Z.frzs,Z.tbls⟩
 have hok:fR X.prog X.w H' F:=fun a o e=>by
  refine (J.hok a o e).stay (fun b v hb q=>M.extBut b v ?_ q) (fun _ q=>q) fun _ _ q=>q;have hn:H' s.heap.objs.size=none:=J.free;rcases hb with z|z
  ·rw[z];exact qN e hn
  ·exact qN z hn
 obtain⟨hh,g,d,t,a0⟩:=s';obtain rfl:a0=s.os:=R;have a1:=L2.Inv.call (s:=s) (h':=F) (g':=g) (d':=d) (t':=t) (ch:=fp) I u hok J.bare fun b hb=>by obtain⟨k0,k1,k2,k3,k4,k5⟩:=hf b hb;exact⟨k3,k1,k4,k5⟩
 exact a1
def Yd{q:EY}{gens:EK Comprehension}{scope:Scope}{pos:Pos}{d:Nat}{it Eh:EL}{env:Env}{g:Comprehension}(I:gens[d]? = some g)(F:g.is_async=0)(Y:gens[d+1]? = none) :
  compTurn (.ListComp q gens scope pos) d it Eh env=(standAt g.iter.pos >>= fun _=>pyNext it >>= fun r=>match r with
   |none=>pure (.done .next)
   |some v=>letOwnedTupleGo g.target it v >>= fun _=>assign g.target env v >>= fun _ =>
    (forIn g.ifs true fun c r=>if r=true then do let ok ← isTrue c env (eval c env);pure (ForInStep.yield ok) else pure (ForInStep.yield r)) >>= fun ok =>
    if ok=true then (eval q env >>= fun x=>call (.builtin "list.append") [Eh,x] >>= fun _=>pure ()) >>= fun _=>again (.compLoop (.ListComp q gens scope pos) d it Eh env)
    else again (.compLoop (.ListComp q gens scope pos) d it Eh env)):=by unfold compTurn;dsimp only;rw[I];dsimp only;rw[Y,F];rfl
def Yc{q:EY}{gens:EK Comprehension}{scope:Scope}{pos:Pos}{d:Nat}{it Eh:EL}{env:Env}{g g':Comprehension}(I:gens[d]? = some g)(F:g.is_async=0)(Y:gens[d+1]? = some g')(R:g'.is_async=0) :
  compTurn (.ListComp q gens scope pos) d it Eh env=(standAt g.iter.pos >>= fun _=>pyNext it >>= fun r=>match r with
   |none=>pure (.done .next)
   |some v=>letOwnedTupleGo g.target it v >>= fun _=>assign g.target env v >>= fun _ =>
    (forIn g.ifs true fun c r=>if r=true then do let ok ← isTrue c env (eval c env);pure (ForInStep.yield ok) else pure (ForInStep.yield r)) >>= fun ok =>
    if ok=true then (eval g'.iter env >>= fun x=>standAt g'.iter.pos >>= fun _=>foldedSetIterable g'.iter env x >>= fun x=>holding [x] (pyIter x) >>= fun L=>runOwn (.compStart (.ListComp q gens scope pos) (d+1) L Eh env) env >>= fun _=>again (.compLoop (.ListComp q gens scope pos) d it Eh env))
    else again (.compLoop (.ListComp q gens scope pos) d it Eh env)):=by unfold compTurn;dsimp only;rw[I];dsimp only;rw[Y,F];dsimp only;rw[R];rfl
def zF{prog:ER}{w:EU}{A:EW}{R:Result->EM->Prop}{s:EM}{q:EY}{gens:EK Comprehension}{scope:Scope}{pos:Pos}{d:Nat}{it Eh:EL}{env:Env}{g:Comprehension}(I:gens[d]? = some g)(F:g.is_async=0)
  (h0:codeAny (model prog w) A (.compLoop (.ListComp q gens scope pos) d it Eh env) R s)
  (h:wpAny (model prog w) A (pyIter it) (fun L s'=>codeAny (model prog w) A (.compLoop (.ListComp q gens scope pos) d L Eh env) R s') (notedBy (model prog w) A env fun x s'=>R (.error x) s') s) :
  codeAny (model prog w) A (.compStart (.ListComp q gens scope pos) d it Eh env) R s:=by
 refine codeAny_of_tree ?_;show wpAny _ _ ((compStart (.ListComp q gens scope pos) d it Eh env).onRaise (fun x=>do noteFrame x env;standAt theWindowsPlace)) _ _ s;refine wpAny_notedAt ?_;unfold compStart;have Z:(clausesOf (.ListComp q gens scope pos))[d]? = some g:=I;rw[Z];simp only[Option.elim_some,F];refine AA (CV (wpAny_ite ?_));split;exact AA (AB (AB (And.intro rfl h0)));exact AA (BM (AA (CZ (AA (Bb h (fun L s' h'=>AB (And.intro rfl h')) fun _ _ x=>x)))))
structure fG where
 fi:FI
 g:FG
 ts:List FT
def Wv:EK FT->FT|[],_,st=>.ok true st|t::ts,r,st=>(t r st).bind fun k s=>if k=true then Wv ts r s else .ok false s
open Classical in
noncomputable def qo(G:qC->Prop)(k:PV->qC->Rs (EK PV)):EK PV->qC->Rs (EK PV)|[],st=>if G st then .ok [] st else .no|p::ps,st=>if G st then (k p st).bind fun l s=>(qo G k ps s).bind fun m L=>.ok (l++m) L else .no
def Qp(g:fG)(El:FL)(r:qz)(p:PV)(s:qC):Rs (EK PV):=match g.g p r with|none=>.no|some U=>(Wv g.ts U s).bind fun k s1=>if k=true then El U s1 else .ok [] s1
noncomputable def wK:EK fG->FE->FL|[],f=>fun r st=>(f r st).bind fun p s=>.ok [p] s|g::gs,f=>fun r st=>(g.fi r st).bind fun w s=>qo w.G (Qp g (wK gs f) r) w.l s
def Le(r r':qz):Prop:=r.length=r'.length∧∀(i:Nat) (p:PV),r[i]? = some (some p)->r'[i]? = some (some p)
def eI.le{K:EQ}{H:Hp}{b:Bz}{r r':qz}{s:L2.St}(h:eI K H b r' s)(l:Le r r'):eI K H b r s:=⟨l.1.trans h.1,fun i p e=>h.2 i p (l.2 i p e)⟩
def kD(g:FG):Prop:=∀p r U,g p r=some U->Le r U
inductive eV (X:Cx):List Expr->List FT->Prop where|nil:eV X [] []|cons {e:Expr} {t:FT} {es:List Expr} {ts:List FT} (h:VT X E0 e t) (r:eV X es ts):eV X (e::es) (t::ts)
def jx{X:Cx}(U:∀e s,X.xe e s->False):∀{es:EK EY} {ts:EK FT},eV X es ts->∀{Ee:EK (EN×Obj)} {s:EM} {σ:L2.St} {H:Hp} {b:Bz} {r:qz} {st Ef:qC} {k:Bool} {Q:Bool->EM->Prop} {E:EL->EM->Prop},L2.Inv X Ee σ H s->SR X.K H b st->eI X.K H b r σ->Wv ts r st= .ok k Ef ->
  (∀s' H' b',L2.Inv X Ee σ H' s'->eE H b H' b'->SR X.K H' b' Ef->Q k s') ->
  wpAny (model X.prog X.w) X.A (forIn es true fun c r=>if r=true then do let ok ← isTrue c X.env (eval c X.env);pure (ForInStep.yield ok) else pure (ForInStep.yield r)) Q E s
 |_,_,.nil,Ee,s,σ,H,b,r,st,Ef,k,Q,E,I,S,R,e,q=>by cases e;exact wpAny_tests_nil (q s H b I (eE.refl _ _) S)
 |_,_,@eV.cons _ c t es ts h hr,Ee,s,σ,H,b,r,st,Ef,k,Q,E,I,S,R,e,q=>by
  rw[C0];simp only[if_true];unfold Wv at e;cases L:t r st with
  |no=>rw[L]at e;cases e
  |ex x s1=>rw[L]at e;cases e
  |ok k1 s1 =>
   rw[L]at e;have e:(if k1=true then Wv ts r s1 else .ok false s1)= .ok k Ef:=e;refine AA (AA (Bb (h Ee s σ H (fun Z H'=>Z=k1∧∃b',eE H b H' b'∧SR X.K H' b' s1) I ⟨b,r,st,S,R,by rw[L];exact fun H' b' F Y=>⟨rfl,b',F,Y⟩⟩) (fun Z s2 hq=>?_) fun F s' z=>(U F s' z).elim));obtain⟨H2,I2,rfl,b2,M,S2⟩:=hq;refine AB ?_;dsimp only;cases Z with
   |true=>rw[AC rfl]at e;exact jx U hr I2 S2 (R.ext M) e fun s' H' b' I' F Y=>q s' H' b' I' (M.trans F) Y
   |false =>
    rw[AF Bc]at e;cases e
    have skip:∀(es:EK EY),wpAny (model X.prog X.w) X.A (forIn es false fun c r=>if r=true then do let ok ← isTrue c X.env (eval c X.env);pure (ForInStep.yield ok) else pure (ForInStep.yield r)) Q E s2:=by
     intro es;induction es with|nil=>rw[List.forIn_nil];exact AB (q s2 H2 b2 I2 M S2)|cons c es ih=>rw[C0];simp only[C3,if_false];exact AA (AB ih)
    exact skip es
structure GOk (X:Cx) (c:Comprehension) (g:fG):Prop where
 tg:VG X c.target g.g
 fr:kD g.g
 ts:eV X c.ifs g.ts
 asy:c.is_async=0
structure lL (X:Cx) (c:Comprehension) (g:fG):Prop extends GOk X c g where
 it:VI X E0 c.target c.iter g.fi
 fold:∀x,foldedSetIterable c.iter X.env x=pure x
inductive fe (X:Cx):List Comprehension->List fG->Prop where|nil:fe X [] []|cons {c:Comprehension} {g:fG} {cs:List Comprehension} {gs:List fG} (h:lL X c g) (r:fe X cs gs):fe X (c::cs) (g::gs)
def pH{X:Cx}(M:∀e s,X.xe e s->False){Ee:EK (EN×Obj)}{s:EM}{σ:L2.St}{H:Hp}{D:EN}{xs:EK V}{y:V}{u:EL}{Q:EL->EM->Prop}{E:EL->EM->Prop}(I:L2.Inv X Ee σ H s)(R:H D=some (.lst xs))(hl:xs.length<sizeLine)(L:RelV y u)
  (q:∀v s',L2.Inv X Ee σ (eN H D (.lst (xs++[y]))) s'->Q v s'):wpAny (model X.prog X.w) X.A (call (.builtin "list.append") [.ref D,u]) Q E s :=
 Bb (Yp Ee s σ H (.ref D) [y] (.ref D) [u] (fun v H'=>H'=eN H D (.lst (xs++[y]))) I rfl (.cons L .nil) ⟨D,xs,y,rfl,rfl,R,hl,rfl⟩) (fun v s' ⟨x,H',U,Y,e⟩=>by subst e;exact q v s' U) fun F s' z=>(M F s' z).elim
structure DE (D:Addr) (H:Hp) (b:Bz) (H':Hp) (b':Bz):Prop extends WE H b H' b' where
 same:b'.z=b.z
 hid:∀a o,a∈b.z->a≠D->H a=some o->H' a=some o
 fz:∀a o u,a≠D->H a=some (.frz o u)->H' a=some (.frz o u)
def DE.of{D:EN}{H H':Hp}{b b':Bz}(e:eE H b H' b'):DE D H b H' b':=⟨e.toWE,e.same,fun a o F _ h=>e.hid a o F h,fun a o u _ h=>e.fz a o u h⟩
def DE.trans{D:EN}{H H1 Y:Hp}{b L U:Bz}(e:DE D H b H1 L)(f:DE D H1 L Y U):DE D H b Y U:=⟨e.toWE.trans f.toWE,f.same.trans e.same,fun a o F M h=>f.hid a o (by rw[e.same];exact F) M (e.hid a o F M h),fun a o u n h=>f.fz a o u n (e.fz a o u n h)⟩
def DE.wr{D:EN}{H:Hp}{b:Bz}{o:HO}(h:D∈b.z):DE D H b (eN H D o) b:=⟨WE.wr (.inr h),rfl,fun a u F Y e=>by rw[qP Y];exact e,fun a u v Y e=>by rw[qP Y];exact e⟩
def Dl(X:Cx)(D:EN)(c:Code)(R:Sem Fin)(El:FL):Prop :=
 ∀(Ee:EK (EN×Obj)) (s:EM) (σ:L2.St) (H:Hp) (b:Bz) (r:qz) (st Z:qC) (l:EK PV) (Y:EK V) (I:Fin->EM->Prop) (E:EL->EM->Prop),L2.Inv X Ee σ H s->SR X.K H b st->eI X.K H b r σ->D∈b.z->H D=some (.lst Y) ->
  El r st= .ok l Z->Y.length+l.length≤sizeLine ->
  (∀L M H' b' U,L2.Inv X Ee M H' L->DE D H b H' b'->SR X.K H' b' Z->eI X.K H' b' r M->H' D=some (.lst (Y++U))->ee X.K H' b' l U->I (.again c) L)->wpAny (model X.prog X.w) X.A R I E s
def JN{X:Cx}(hx:∀e s,X.xe e s->False){M:EY}{gens:EK Comprehension}{scope:Scope}{pos:Pos}{d:Nat}{it D:EN}{c:Comprehension}{g:fG}(hg:GOk X c g){a0:Sem Fin}{El:FL}(ag:Dl X D (.compLoop (.ListComp M gens scope pos) d (.ref it) (.ref D) X.env) a0 El)
  (a6:compTurn (.ListComp M gens scope pos) d (.ref it) (.ref D) X.env=(standAt c.iter.pos >>= fun _=>pyNext (.ref it) >>= fun r=>match r with
   |none=>pure (.done .next)
   |some v=>letOwnedTupleGo c.target (.ref it) v >>= fun _=>assign c.target X.env v >>= fun _ =>
    (forIn c.ifs true fun c r=>if r=true then do let ok ← isTrue c X.env (eval c X.env);pure (ForInStep.yield ok) else pure (ForInStep.yield r)) >>= fun ok =>
    if ok=true then a0 else again (.compLoop (.ListComp M gens scope pos) d (.ref it) (.ref D) X.env)))
  {Ee:EK (EN×Obj)} {s:EM} {σ:L2.St} {H:Hp} {b:Bz} {r:qz} {st Ef:qC} {fp:EK EN} {tn:Nat->Heap->Prop} {J:It} {w:ItP} {Y:EK V} {l:EK PV} {R:Result->EM->Prop}
  (I:L2.Inv X Ee σ H s) (S:SR X.K H b st) (RE:eI X.K H b r σ) (ah:D∈b.z) (hD:H D=some (.lst Y)) (T:gp X.prog X.w X.K X.A c.target J fp it tn) (t0:tn 0 s.heap) (hf:∀a∈fp,ZP X Ee H a)
  (a9:yO X.K H b J w)
  (hv:qo w.G (Qp g El r) w.l st= .ok l Ef) (au:Y.length+l.length≤sizeLine)
  (hR:∀s' σ' H' b' lV,L2.Inv X Ee σ' H' s'->DE D H b H' b'->SR X.K H' b' Ef->eI X.K H' b' r σ'->H' D=some (.lst (Y++lV))->ee X.K H' b' l lV->R (.ok .next) s') :
  codeAny (model X.prog X.w) X.A (.compLoop (.ListComp M gens scope pos) d (.ref it) (.ref D) X.env) R s:=by
 have a1:∀{H':Hp},(∀a∈fp,H' a=none)->∀a∈fp,ZP X Ee H' a:=fun hn a ha=>⟨hn a ha,(hf a ha).2⟩;refine codeAny_loop rfl (fun n s1=>∃i σ1 H1 Z F done U m,n=w.l.length+1-i∧i≤w.l.length∧L2.Inv X Ee σ1 H1 s1∧DE D H b H1 Z∧SR X.K H1 Z F∧eI X.K H1 Z r σ1∧H1 D=some (.lst (Y++U))∧ee X.K H1 Z done U∧tn i s1.heap∧(∀a∈fp,H1 a=none) ∧
  qo w.G (Qp g El r) (w.l.drop i) F= .ok m Ef∧done++m=l) ?_ (w.l.length+1)
  ⟨0,σ,H,b,st,[],[],l,by omega,Bf _,I,DE.of (eE.refl _ _),S,RE,by simpa using hD,ee.nil,t0,fun a ha=>(hf a ha).1,by simpa using hv,rfl⟩
 rintro n s1 ⟨i,σ1,H1,Z,F,done,U,m,hn,hi,I1,e1,S1,R1,aa,a7,t1,ab,q,hm⟩;show wpAny _ X.A ((compTurn (.ListComp M gens scope pos) d (.ref it) (.ref D) X.env).onRaise (fun x=>do noteFrame x X.env;theTreesLotGoes x)) _ _ s1;refine wpAny_noted ?_;rw[a6];refine AA (CZ (AA ?_));have ac:D∈Z.z:=by rw[e1.same];exact ah
 by_cases a8:i<w.l.length
 ·have hd:w.l.drop i=w.l[i]::w.l.drop (i+1):=List.drop_eq_getElem_cons a8;rw[hd]at q;unfold qo at q;by_cases hG:w.G F
  ·rw[AC hG]at q;obtain⟨h1,h2⟩:=a9 H1 Z F e1.toWE (fun a o u h=>e1.fz a o u (fun z=>by rw[z,hD]at h;cases h) h) S1 hG;obtain⟨go,yl⟩:=h1 i w.l[i] (AE a8);cases L:Qp g El r w.l[i] F with
   |no=>rw[L]at q;cases q
   |ex x s5=>rw[L]at q;cases q
   |ok l1 s5 =>
    rw[L]at q;have q:(qo w.G (Qp g El r) (w.l.drop (i+1)) s5).bind (fun m s'=>.ok (l1++m) s')= .ok m Ef:=q;cases a2:qo w.G (Qp g El r) (w.l.drop (i+1)) s5 with
    |no=>rw[a2]at q;cases q
    |ex x s6=>rw[a2]at q;cases q
    |ok m2 s6 =>
     rw[a2]at q;have q:Rs.ok (l1++m2) s6= .ok m Ef:=q;injection q with hv1a hv1b;subst hv1a;subst hv1b;refine eK (T.item X rfl rfl rfl rfl i Ee s1 σ1 H1 _ I1 (a1 ab) t1 go) fun rr s2 ⟨u,hr,h4⟩=>?_;subst hr;refine AA (eK h4 fun _ s3 ⟨x,H3,I3,r3,y3,t3,ai⟩=>?_);obtain⟨ae,S3,aj⟩:=yl x H3 y3;have e3:eE H1 Z H3 Z:=eE.of_same ae;have ak:=ae _ _ aa;unfold Qp at L;cases eg:g.g w.l[i] r with
     |none=>rw[eg]at L;cases L
     |some r' =>
      rw[eg]at L;have L:(Wv g.ts r' F).bind (fun k s1=>if k=true then El r' s1 else .ok [] s1)= .ok l1 s5:=L;cases et:Wv g.ts r' F with
      |no=>rw[et]at L;cases L
      |ex x s7=>rw[et]at L;cases L
      |ok k s7 =>
       rw[et]at L;have L:(if k=true then El r' s7 else .ok [] s7)= .ok l1 s5:=L;have al:=I3.pinned (a1 ai) (T.obj _ _ t3);refine AA (Bb (hg.tg _ s3 σ1 H3 x u (fun σ' H'=>H'=H3∧eI X.K H3 Z r' σ') al r3 ⟨Z,r,w.l[i],F,S3,R1.ext e3,aj,r',eg,fun s' R'=>⟨rfl,R'⟩⟩) (fun _ s4 hq=>?_) fun e' s' z=>(hx e' s' z).elim);obtain⟨σ4,H4,I4,rfl,R4⟩:=hq;refine AA (jx hx hg.ts I4 S3 R4 et fun am H5 b5 I5 e5 S5=>?_);have ao:D∈b5.z:=by rw[e5.same];exact ac
       have af:=e5.hid _ _ ac ak;have ap:DE D H b H5 b5:=(e1.trans (DE.of e3)).trans (DE.of e5);have a5:∀{a3:EM} {σ7:L2.St} {H7:Hp} {b7:Bz} {a4:EK V},L2.Inv X (Ee++ZS fp s3.heap) σ7 H7 a3->DE D H5 b5 H7 b7->SR X.K H7 b7 s5->eI X.K H7 b7 r' σ7->H7 D=some (.lst (Y++U++a4))->ee X.K H7 b7 l1 a4 ->
         ∃m,m<n∧∃i σ1 H1 Z F done U mm,m=w.l.length+1-i∧i≤w.l.length∧L2.Inv X Ee σ1 H1 a3∧DE D H b H1 Z∧SR X.K H1 Z F∧eI X.K H1 Z r σ1∧H1 D=some (.lst (Y++U))∧ee X.K H1 Z done U∧tn i a3.heap∧(∀a∈fp,H1 a=none) ∧
         qo w.G (Qp g El r) (w.l.drop i) F= .ok mm s6∧done++mm=l:=fun {a3 σ7 H7 b7 a4} I7 e7 S7 R7 aq ar=>by
        refine⟨w.l.length+1-(i+1),by omega,i+1,σ7,H7,b7,s5,done++l1,U++a4,m2,rfl,a8,I7.unpinned,ap.trans e7,S7,R7.le (hg.fr _ _ _ eg),by rw[aq,Ah],?_,T.keep _ _ _ t3 fun a ha o e=>(I7.pin (a,o) (BD _ (BD _ (zS ha e)))).1,fun a ha=>?_,a2,by rw[Ah];exact hm⟩;exact ee.append (ee.wext e7.toWE done (ee.ext e5 done (ee.ext e3 done a7))) ar;obtain⟨o,e,_⟩:=T.obj _ _ t3 a ha;exact (I7.pin (a,o) (BD _ (BD _ (zS ha e)))).2.1
       cases k with
       |false=>rw[AF Bc]at L ⊢;injection L with ek1 ek2';subst ek1;subst ek2';refine AB ⟨rfl,a5 I5 (DE.of (eE.refl _ _)) S5 (R4.ext e5) (by rw[BW];exact af) ee.nil⟩
       |true =>
        rw[AC rfl]at L ⊢;refine ag _ am σ4 H5 b5 r' s7 s5 l1 (Y++U) _ _ I5 S5 (R4.ext e5) ao af L ?_ fun s8 σ8 H8 b8 lV I8 e8 S8 R8 as r8=>⟨rfl,a5 I8 e8 S8 R8 as r8⟩;have h1:=a7.length;have h2:l.length=done.length+(l1.length+m2.length):=by rw[←hm,Ac,Ac]
        rw[Ac];omega
  ·rw[AF hG]at q;cases q
 ·have hl:i=w.l.length:=by omega
  subst hl;rw[List.drop_length]at q;unfold qo at q;by_cases hG:w.G F
  ·rw[AC hG]at q;injection q with k1 k2;subst k1;subst k2;obtain⟨h1,h2⟩:=a9 H1 Z F e1.toWE (fun a o u h=>e1.fz a o u (fun z=>by rw[z,hD]at h;cases h) h) S1 hG;refine eK (T.done X rfl rfl rfl rfl _ Ee s1 σ1 H1 _ I1 (a1 ab) t1 (h2 _ (AN _))) fun r2 s2 ⟨hr,I2⟩=>?_;subst hr;rw[BW]at hm;subst hm;exact AB (hR s2 σ1 H1 Z U I2 e1 S1 R1 aa a7)
  ·rw[AF hG]at q;cases q
def Ym{X:Cx}(hx:∀e s,X.xe e s->False){a1:EY}{gens:EK Comprehension}{scope:Scope}{pos:Pos}{f:FE}{D:EN}(he:VE X E0 a1 f) :
  ∀(gs:EK fG) (cs:EK Comprehension) (d:Nat) (c:Comprehension) (g:fG),gens.drop d=c::cs->GOk X c g->fe X cs gs ->
  ∀(Ee:EK (EN×Obj)) (s:EM) (σ:L2.St) (H:Hp) (b:Bz) (r:qz) (st Ef:qC) (it:EN) (fp:EK EN) (tn:Nat->Heap->Prop) (J:It) (w:ItP) (Y:EK V) (l:EK PV) (R:Result->EM->Prop),
  L2.Inv X Ee σ H s->SR X.K H b st->eI X.K H b r σ->D∈b.z->H D=some (.lst Y)->gp X.prog X.w X.K X.A c.target J fp it tn->tn 0 s.heap->(∀a∈fp,ZP X Ee H a)->yO X.K H b J w ->
  qo w.G (Qp g (wK gs f) r) w.l st= .ok l Ef->Y.length+l.length≤sizeLine ->
  (∀s' σ' H' b' lV,L2.Inv X Ee σ' H' s'->DE D H b H' b'->SR X.K H' b' Ef->eI X.K H' b' r σ'->H' D=some (.lst (Y++lV))->ee X.K H' b' l lV->R (.ok .next) s') ->
  codeAny (model X.prog X.w) X.A (.compLoop (.ListComp a1 gens scope pos) d (.ref it) (.ref D) X.env) R s:=by
 intro gs;induction gs with
 |nil =>
  intro cs d c g U hg a2 Ee s σ H b r st Ef it fp tn J w Y l R I S RE Z hD T t0 hf a3 L F hR;cases a2;have a4:gens[d]? = some c:=by
   have:(gens.drop d)[0]? = some c:=by rw[U];rfl
   simpa using this
  have a0:gens[d+1]? = none:=by
   have:(gens.drop d)[1]? = none:=by rw[U];rfl
   simpa using this
  refine JN hx hg ?_ (Yd a4 hg.asy a0) I S RE Z hD T t0 hf a3 L F hR;intro Ee s σ H b r st Ef l Y QF E I S RE Z hD L F q;have L:(f r st).bind (fun p s=>.ok [p] s)= .ok l Ef:=L;cases ef:f r st with
  |no=>rw[ef]at L;cases L
  |ex x s1=>rw[ef]at L;cases L
  |ok p s1 =>
   rw[ef]at L;have L:Rs.ok [p] s1= .ok l Ef:=L;injection L with h1 h2;subst h1;subst h2;refine AA (AA (Bb (he Ee s σ H (fun v H'=>∃b',eE H b H' b'∧SR X.K H' b' s1∧RV X.K H' b' p v) I ⟨b,r,st,S,RE,by rw[ef];exact fun v H' b' M S' r'=>⟨b',M,S',r'⟩⟩) (fun u s2 hq=>?_) fun M s' z=>(hx M s' z).elim));obtain⟨v,H2,I2,rv,b2,e2,S2,r2⟩:=hq;have a5:D∈b2.z:=by rw[e2.same];exact Z
   refine AA (pH hx I2 (e2.hid _ _ Z hD) (by rw[Ck]at F;omega) rv fun _ s3 I3=>AB (AB ?_));have dw:DE D H2 b2 (eN H2 D (.lst (Y++[v]))) b2:=DE.wr a5;exact q s3 σ _ b2 [v] I3 ((DE.of e2).trans dw) (SR.wrz S2 a5) ((RE.ext e2).wext dw.toWE) QN (ee.cons (RV.wext dw.toWE p r2) ee.nil)
 |cons g2 gs ih =>
  intro cs d c g U hg a2 Ee s σ H b r st Ef it fp tn J w Y l R I S RE Z hD T t0 hf a3 L F hR;cases a2 with
  | @cons c2 _ cs _ h2 a7 =>
   have a4:gens[d]? = some c:=by
    have:(gens.drop d)[0]? = some c:=by rw[U];rfl
    simpa using this
   have a0:gens[d+1]? = some c2:=by
    have:(gens.drop d)[1]? = some c2:=by rw[U];rfl
    simpa using this
   have a6:gens.drop (d+1)=c2::cs:=by
    have:(gens.drop d).drop 1=c2::cs:=by rw[U];rfl
    rwa[List.drop_drop]at this
   refine JN hx hg ?_ (Yc a4 hg.asy a0 h2.asy) I S RE Z hD T t0 hf a3 L F hR;intro Ee s σ H b r st Ef l Y QF E I S RE Z hD L F q;have L:(g2.fi r st).bind (fun w s=>qo w.G (Qp g2 (wK gs f) r) w.l s)= .ok l Ef:=L;cases ef:g2.fi r st with
   |no=>rw[ef]at L;cases L
   |ex x s1=>rw[ef]at L;cases L
   |ok w2 s1 =>
    rw[ef]at L;have L:qo w2.G (Qp g2 (wK gs f) r) w2.l s1= .ok l Ef:=L;have hi:=h2.it Ee s σ H (fun J H'=>∃b',eE H b H' b'∧SR X.K H' b' s1∧yO X.K H' b' J w2) I ⟨b,r,st,S,RE,by rw[ef];exact fun J H' b' M S' i'=>⟨b',M,S',i'⟩⟩;refine AA (Bb hi (fun u s2 hq=>?_) fun M s' z=>(hx M s' z).elim);refine AA (CZ (AA (Aw (h2.fold u) (AA (Ay (Bb hq (fun ag s3 a8=>?_) fun M s' z=>(hx M s' z).elim))))));obtain⟨a9,aa,ab,J2,H3,rfl,I3,T2,t2,f2,b3,e3,S3,i3⟩:=a8;have ac:D∈b3.z:=by rw[e3.same];exact Z
    have ae:=e3.hid _ _ Z hD;refine AA (wpAny_runOwn ?_);have Ew:=ih cs (d+1) c2 g2 a6 h2.toGOk a7 Ee s3 σ H3 b3 r s1 Ef a9 aa ab J2 w2 Y l (fun r s'=>match r with
     | .ok f=>wpAny (model X.prog X.w) X.A (again (.compLoop (.ListComp a1 gens scope pos) d (.ref it) (.ref D) X.env)) QF E s'
     | .error e=>cameBackBy (model X.prog X.w) X.A X.env E e s') I3 S3 (RE.ext e3) ac ae T2 t2 f2 i3 L F
     fun s' σ' H' b' lV I' M S' R' af r'=>AB (q s' σ' H' b' lV I' ((DE.of e3).trans M) S' R' af r')
    exact zF a0 h2.asy Ew (T2.self X.A 0 s3 _ _ t2 Ew)
def JT{M:Model}{A:EW}{E:EL->EM->Prop}{s:EM}{scope:Scope}{env:Env}{q:EK (Str×EN)}{Q:Env->EM->Prop}
  (h:Q { scope:=scope,locals:=s.heap.objs.size,globals:=env.globals,cells:=cellsFrom (s.heap.objs.size+1) scope.names q,qual:=env.qual,func:=none,code:=env.code,frame:=env.frame,builtins:=env.builtins } { s with heap:=pushCells (s.heap.push { cls:=.type "dict",data:=.dict #[] }) scope.names }) :
  wpAny M A (newFunctionEnv scope env.globals q [] env.qual none .none (some env)) Q E s:=by
 simp only[newFunctionEnv,Option.isSome_some,if_true];refine AA (wpAny_alloc ?_);refine AA (wpAny_layCells _ (fun I kind cells=>by cases F:kind==NameKind.cell <;> simp[F]) _ _ _ _ ?_);rw[show ({ s with heap:=s.heap.push { cls:=.type "dict",data:=.dict #[] } }:EM).heap.objs.size=s.heap.objs.size+1 from BI ..];exact AA (AB (AB h))
def zZ(Ei:EK Nat)(n:Nat)(r:qz):qz:=(Ei.map fun j=>(r[j]?).join)++List.replicate n none
noncomputable def qr(Ei:EK Nat)(n:Nat)(fi:FI)(g:FG)(ts:EK FT)(gs:EK fG)(f:FE):FL:=fun r st=>(fi r st).bind fun w s=>match qo w.G (Qp ⟨fi,g,ts⟩ (wK gs f) (zZ Ei n r)) w.l s with| .ok l L=>if l.length≤sizeLine then .ok l L else .no|_=>.no
def Jr{K:EQ}{H:Hp}{b:Bz}{r:qz}{σ:L2.St}{Ei:EK Nat}{n:Nat}(R:eI K H b r σ):eI K H b (zZ Ei n r) ((Ei.map fun j=>(σ[j]?).join)++List.replicate n none):=by
 refine⟨by simp[zZ],fun i p e=>?_⟩;unfold zZ at e;by_cases hi:i<Ei.length
 ·rw[Aq (by simpa using hi),Am]at e;rw[Aq (by simpa using hi),Am];cases Z:Ei[i]? with
  |none=>rw[Z]at e;cases e
  |some j =>
   rw[Z]at e;have F:(r[j]?).join=some p:=Al e;have Y:r[j]? = some (some p):=by
    cases q:r[j]? with|none=>rw[q]at F;cases F|some o=>rw[q]at F;exact A5 some F
   obtain⟨v,M,U⟩:=R.2 j p Y;refine⟨v,?_,U⟩;show some (σ[j]?).join=some (some v);rw[M];rfl
 ·rw[A9 (by simpa using hi),CB]at e;split at e <;> cases e
def Yt{K:EQ}{H:Hp}{b:Bz}{J:It}{w:ItP}{D:EN}{o:HO}(h:yO K H b J w)(R:H D=none):yO K (eN H D o) ⟨b.b,D::b.z⟩ J w:=fun H1 L F e f S g=>h H1 L F ((WE.hide R).trans e) (fun a o u q=>f a o u (by rw[qP (qN q R)];exact q)) S g
def wW{X:Cx}{E:XK}{a2:EY}{c:Comprehension}{cs:EK Comprehension}{scope:Scope}{pos:Pos}{Eo Ej:EK Str}{Ei:EK Nat}{fi:FI}{g:FG}{ts:EK FT}{gs:EK fG}{f:FE}(Z:i0 X scope Eo Ej Ei)
  (hi:VI X E c.target c.iter fi) (sub:∀s H fp pn,VE (gg X scope (Eo++Ej) s H fp pn) E0 a2 f∧GOk (gg X scope (Eo++Ej) s H fp pn) c ⟨fi,g,ts⟩∧fe (gg X scope (Eo++Ej) s H fp pn) cs gs)
  (hs:∀x,foldedSetIterable c.iter X.env x=pure x:=by intro _;rfl):VN X E (.ListComp a2 (c::cs) scope pos) (qr Ei Ej.length fi g ts gs f):=by
 intro Ee s σ H Q I hq;obtain⟨b,r,st,S,RE,P⟩:=hq;have a0:∀x∈scope.names,x.2= .free->∃c,X.env.cells.lookup x.1=some c:=fun x hx hk=>I.ok.has x.1 (Z.fr x hx hk);obtain⟨c1,c2,c3,c4⟩:=c;have a3:c4=0:=(sub s H [] []).2.1.asy;subst a3;rw[eval_ListComp];refine wpAny_comprehension_free (use:=none) rfl hs (YB a0) Z.kind (fun x hx hl=>WW Z.nd (by rw[←hl];exact hx)) ?_;show wpAny _ _ (eval c2 X.env) _ _ s;unfold qr at P;cases ef:fi r st with
 |no=>rw[ef]at P;exact P.elim
 |ex x s1 =>
  rw[ef]at P;refine eK (hi Ee s σ H (fun _ _=>False) I ⟨b,r,st,S,RE,by rw[ef];exact P⟩) fun v s2 h2=>eK h2 fun a7 M h3=>?_;obtain⟨_,_,_,_,_,_,_,_,_,_,z⟩:=h3;exact z.elim
 |ok w s1 =>
  rw[ef]at P;refine eK (hi Ee s σ H (fun J H'=>∃b',eE H b H' b'∧SR X.K H' b' s1∧yO X.K H' b' J w) I ⟨b,r,st,S,RE,by rw[ef];exact fun J H' b' e' S' i'=>⟨b',e',S',i'⟩⟩) fun v s2 h2=>eK h2 fun a7 M h3=>?_;obtain⟨it,fp,tn,J,H2,rfl,I2,T,t2,f2,U,e2,S2,i2⟩:=h3;have P:eH X.K E H b (match qo w.G (Qp ⟨fi,g,ts⟩ (wK gs f) (zZ Ei Ej.length r)) w.l s1 with | .ok l s'=>if l.length≤sizeLine then .ok l s' else .no|_=>.no) Q:=P;cases ev:qo w.G (Qp ⟨fi,g,ts⟩ (wK gs f) (zZ Ei Ej.length r)) w.l s1 with
  |no=>rw[ev]at P;exact P.elim
  |ex x s4=>rw[ev]at P;exact P.elim
  |ok l a1 =>
   rw[ev]at P;have P:eH X.K E H b (if l.length≤sizeLine then .ok l a1 else .no) Q:=P;by_cases hl:l.length≤sizeLine
   ·rw[AC hl]at P;have L:H2 M.heap.objs.size=none:=I2.hok.fresh (AN _);refine CM ?_;generalize a4:({ M with heap:=M.heap.push { cls:=.type "list",data:=.seq ([]:EK EL).toArray } }:EM)=R;have I3:L2.Inv X Ee σ (eN H2 M.heap.objs.size (.lst [])) R:=by rw[←a4];exact I2.laid (t':=M.toks) (fun a u e=>AD _ e) (AN _) (show eT X.prog X.w _ _ _ (.lst []) from⟨Bf _,[],0,.nil,AQ _ rfl⟩)
    have k3:∀a o,M.heap.get? a=some o->R.heap.get? a=some o:=fun a o e=>by rw[←a4];exact AD _ e
    have a8:∀a∈fp,a<M.heap.objs.size:=fun a F=>by obtain⟨o,e,_⟩:=T.obj _ _ t2 a F;exact AK e
    have f3:∀a∈fp,ZP X Ee (eN H2 M.heap.objs.size (.lst [])) a:=fun a F=>⟨by rw[qP (AV (a8 a F))];exact (f2 a F).1,(f2 a F).2⟩;have a5:∀a∈fp,a<R.heap.objs.size:=fun a F=>by obtain⟨o,e,_⟩:=T.obj _ _ t2 a F;exact AK (k3 a o e)
    generalize hD:M.heap.objs.size=D at I3 f3 L;refine JT ?_;have J0:=YS Z I3 f3 a5 rfl;obtain⟨he,hg,a9⟩:=sub R (eN H2 D (.lst [])) fp (X.pn++Ee);have k4:∀a o,R.heap.get? a=some o->(pushCells (R.heap.push { cls:=.type "dict",data:=.dict #[] }) scope.names).get? a=some o:=fun a o e=>Cz _ _ _ _ (AD _ e);have aa:D∉U.z:=(S2.new_notin L).2;have Ew:=Ym (X:=gg X scope (Eo++Ej) R (eN H2 D (.lst [])) fp (X.pn++Ee)) (fun _ _ z=>z) (gens:=⟨c1,c2,c3,0⟩::cs) (scope:=scope) (pos:=pos) (D:=D) he gs cs 0 ⟨c1,c2,c3,0⟩ ⟨fi,g,ts⟩ rfl hg a9 [] _ _ _ ⟨U.b,D::U.z⟩ (zZ Ei Ej.length r) s1 a1 it fp tn J w [] l
     (compPost (model X.prog X.w) X.A X.xe none (EP X Ee σ Q) (.ref D) R.heap.objs.size) J0 (SR.hide S2 L) (Jr ((RE.ext e2).wext (WE.hide L))) AT QN T (T.keep _ _ _ t2 fun a F o e=>k4 a o (k3 a o e))
     (fun a F=>⟨(f3 a F).1,(J0.ok.exf a F).1,J0.ok.exfs a F,.inl F,(J0.ok.exf a F).2,fun p hp=>(f3 a F).2.2.2.2.2 p (by simpa[gg] using hp)⟩) (Yt i2 L) ev (by simpa using hl)
     (fun s' σ' H' b' lV I' e' S' R' ab r'=>by
      obtain⟨m,hn,_⟩:=I'.loc;refine⟨m,hn,fun af sb=>?_⟩;have ac:=J4 I3 f3 I' sb;have ae:b'.z=D::U.z:=e'.same;refine⟨.ref D,H',ac,rfl,?_⟩;have ex:eE H2 U H' ⟨b'.b,U.z⟩:=by
       refine⟨⟨?_,⟨[],rfl,by simp⟩,fun a o F ho=>?_,fun a o F=>?_⟩,rfl,fun a o hz F=>?_,fun a o u F=>e'.fz a o u (qN F L) (by rw[qP (qN F L)];exact F)⟩
       ·obtain⟨n,hb,hh⟩:=e'.more;exact⟨n,hb,fun a F=>by
         have:=hh a F
         by_cases q:a=D;rw[q];exact L;rwa[qP q]at this⟩
       ·have Y:a≠D:=qN F L;exact e'.keep a o (by rw[qP Y];exact F) ⟨ho.1,fun z=>(AJ.mp z).elim Y ho.2⟩
       ·have Y:a≠D:=qN F L;exact e'.dom a o (by rw[qP Y];exact F)
       ·have Y:a≠D:=qN F L;exact e'.hid a o (AO _ hz) Y (by rw[qP Y];exact F)
      have a6:(⟨b'.b,D::U.z⟩:Bz)=b':=by rw[←ae]
      refine P D lV H' ⟨b'.b,U.z⟩ (e2.trans ex) (e2.none_of L) (by simpa using ab) aa ?_ ?_;show SR X.K H' ⟨b'.b,D::U.z⟩ a1;rw[a6];exact S';show ee X.K H' ⟨b'.b,D::U.z⟩ l lV;rw[a6];exact r')
    exact zF rfl rfl Ew (T.self X.A 0 _ _ _ (T.keep _ _ _ t2 fun a F o e=>k4 a o (k3 a o e)) Ew)
   ·rw[AF hl]at P;exact P.elim
def QC(n:Nat)(l:EK PV):qz:=l.map some++List.replicate (n-l.length) none
def kA:RS->Rs PV| .nx _ st=>.ok .non st| .rt v st=>.ok v st| .ex x st=>.ex x st|_=>.no
def gz(n:Nat)(r r':Rs PV):Prop:=∀(K:EQ) (E:XK) (H:Hp) (b:Bz) (Q:VK),b.b.length=n->ed K E H b r' Q->ed K E H b r Q
def gz.refl{n:Nat}{r:Rs PV}:gz n r r:=fun _ _ _ _ _ _ h=>h
def eI.init{K:EQ}{H:Hp}{b:Bz}{N:EK Str}{l:EK PV}{vs:EK V}(h:ee K H b l vs):eI K H b (QC N.length l) (start N vs):=by
 have hl:=h.length;refine⟨by simp[QC,L2.start,hl],fun i p e=>?_⟩;unfold QC at e;unfold L2.start;by_cases hi:i<l.length
 ·rw[Aq (by simpa using hi),Am]at e;rw[Aq (by simpa[←hl] using hi),Am];cases q:l[i]? with|none=>rw[q]at e;cases e|some L=>rw[q]at e;cases e;obtain⟨v,Y,U⟩:=h.get q;exact⟨v,by rw[Y];rfl,U⟩
 ·rw[A9 (by simpa using hi),CB]at e;split at e <;> cases e
section
variable{P:ER}{w:EU}{K:EQ}{mg:Str->EO EL}{base:Heap}
def iq{CX:CXT}{x qual:Str}{st:Stmt}{f:EN}{fd:FuncData}{N ps:EK Str}{k:Nat}{g:EK PV->qC->Rs PV}(F:fI K x qual st f fd)(S:ez N ps (qJ st))
  (R:∀(Em:EL) (A:EW) (outer:EK Env) (s:EM) (H:Hp) (E:XK),eW k (A.deeper (envOfC qual (qJ st) s.heap.objs.size f Em))->(0<k->A.handled=none) ->
   ∃B:FS,gM (wV CX P w K mg base N qual (qJ st) f Em A outer s H E) E (qi st) B∧∀l I,l.length=ps.length->g l I≠ .no->gz I.length (kA (B (QC N.length l) I)) (g l I)):fM P w K mg base CX (k+1) f fd ps (hX K ps.length g):=by
 obtain⟨oc,od,kV,Ey,pm,an,Em,ct,Ez,rfl,lk,U⟩:=F.ex;refine tB lk U S (fun vs H Q E h=>h.1) fun A outer s H vs Q E hr L Y=>?_;obtain⟨B,hB,hg⟩:=R Em A outer s H E hr L;obtain⟨hl,b,l,Z,S0,r0,M⟩:=Y;refine⟨_,hB,b,QC N.length l,Z,S0,eI.init r0,?_⟩;have a0:g l Z≠ .no:=fun z=>by rw[z]at M;exact M
 have q:=hg l Z (by rw[r0.length];exact hl) a0 K E H b Q S0.len M;cases e:B (QC N.length l) Z with|nx r st=>rw[e]at q;exact fun s H' b' e' S' R'=>q .non H' b' e' S' (by unfold RV;rfl)|rt v st=>rw[e]at q;exact q|bk r st=>rw[e]at q;exact q.elim|ct r st=>rw[e]at q;exact q.elim|ex x st=>rw[e]at q;exact q|no=>rw[e]at q;exact q.elim
end
mutual
def eY:PV->PV->Bool| .non,.non=>true| .bl a,.bl c=>a==c| .int a,.int c=>a==c| .bl a,.int c=>(if a then 1 else 0)==c| .int a,.bl c=>a==(if c then 1 else 0)| .str a,.str c=>a==c| .tup l,.tup m=>fE l m| .lst l,.lst m=>fE l m|_,_=>false
def fE:EK PV->EK PV->Bool|[],[]=>true|p::ps,q::qs=>eY p q&&fE ps qs|_,_=>false
end
mutual
def nr:PV->Bool| .tup l=>gt l| .lst l=>gt l| .ref _=>false| .dct=>false| .ty _=>false| .fn _=>false| .exc _ _=>false|_=>true
def gt:EK PV->Bool|[]=>true|p::ps=>nr p&&gt ps
end
mutual
def fA:PV->Nat| .tup l=>eP l+1| .lst l=>eP l+1|_=>0
def eP:EK PV->Nat|[]=>0|p::ps=>max (fA p) (eP ps)
end
mutual
def RW(K:EQ)(H:Hp):PV->V->Prop| .non,v=>v= .non| .bl x,v=>v= .bl x| .int i,v=>v= .int i| .str x,v=>v= .str x| .tup l,v=>∃a xs,v= .ref a∧fC K H a xs∧eO K H l xs| .lst l,v=>∃a xs,v= .ref a∧fm K H a xs∧eO K H l xs|_,_=>False
def eO(K:EQ)(H:Hp):EK PV->EK V->Prop|[],xs=>xs=[]|p::ps,xs=>∃x r,xs=x::r∧RW K H p x∧eO K H ps r
end
mutual
def RV.rw{K:EQ}{H:Hp}{b:Bz}:∀(p:PV) {v:V},nr p=true->RV K H b p v->RW K H p v| .non,_,_,h=>by unfold RV at h;unfold RW;exact h| .bl _,_,_,h=>by unfold RV at h;unfold RW;exact h| .int _,_,_,h=>by unfold RV at h;unfold RW;exact h| .str _,_,_,h=>by unfold RV at h;unfold RW;exact h| .tup l,_,n,h=>by unfold RV at h;unfold RW;unfold nr at n;obtain⟨a,xs,h1,h2,h3⟩:=h;exact⟨a,xs,h1,h2.sq,ee.rws l n h3⟩| .lst l,_,n,h=>by unfold RV at h;unfold RW;unfold nr at n;obtain⟨a,xs,h1,h2,h3⟩:=h;exact⟨a,xs,h1,h2.sq,ee.rws l n h3⟩| .ref _,_,n,_=>by unfold nr at n;cases n| .dct,_,n,_=>by unfold nr at n;cases n| .ty _,_,n,_=>by unfold nr at n;cases n| .fn _,_,n,_=>by unfold nr at n;cases n| .exc _ _,_,n,_=>by unfold nr at n;cases n
def ee.rws{K:EQ}{H:Hp}{b:Bz}:∀(l:EK PV) {xs:EK V},gt l=true->ee K H b l xs->eO K H l xs|[],_,_,h=>by unfold ee at h;unfold eO;exact h|p::ps,_,n,h=>by unfold ee at h;unfold eO;unfold gt at n;rw[Ar]at n;obtain⟨x,r,h1,h2,h3⟩:=h;exact⟨x,r,h1,RV.rw p n.1 h2,ee.rws ps n.2 h3⟩
end
def eO.length{K:EQ}{H:Hp}:∀{l:EK PV} {xs:EK V},eO K H l xs->l.length=xs.length|[],_,h=>by unfold eO at h;rw[h];rfl|p::ps,_,h=>by unfold eO at h;obtain⟨x,r,rfl,_,F⟩:=h;rw[Aa,Aa,eO.length F]
section
variable{X:Cx}{Ee:EK (EN×Obj)}{σ:L2.St}{H:Hp}{s:EM}
def Zm(I:L2.Inv X Ee σ H s){a:EN}{xs F:EK V}(Y:fm X.K H a xs)(U:fC X.K H a F):False:=by obtain⟨Eg,_,p,_⟩:=I.list Y;obtain⟨M,_,q,_⟩:=I.tuple U;obtain⟨o,Z,hc,n,hd⟩:=p.isList;obtain⟨o',L,R,_⟩:=q;rw[Z]at L;cases L;rw[hc]at R;injection R with z;exact absurd z (by decide)
mutual
def RW.same(I:L2.Inv X Ee σ H s):∀(p q:PV) {v:V},RW X.K H p v->RW X.K H q v->eY p q=true
 | .non,q,v,h,g=>by unfold RW at h;subst h;cases q <;> unfold RW at g <;> first|rfl|exact (g:False).elim|(obtain⟨_,_,e,_⟩:=g;cases e)|cases g
 | .bl x,q,v,h,g=>by unfold RW at h;subst h;cases q <;> unfold RW at g <;> first|(obtain⟨_,_,e,_⟩:=g;cases e)|(cases g;simp[eY];done)|exact (g:False).elim|cases g
 | .int x,q,v,h,g=>by unfold RW at h;subst h;cases q <;> unfold RW at g <;> first|(obtain⟨_,_,e,_⟩:=g;cases e)|(cases g;simp[eY];done)|exact (g:False).elim|cases g
 | .str x,q,v,h,g=>by unfold RW at h;subst h;cases q <;> unfold RW at g <;> first|(obtain⟨_,_,e,_⟩:=g;cases e)|(cases g;simp[eY];done)|exact (g:False).elim|cases g
 | .tup l,q,v,h,g=>by
  unfold RW at h;obtain⟨a,xs,rfl,h2,h3⟩:=h;cases q with
  |tup m =>
   unfold RW at g;obtain⟨a',ys,e,g2,g3⟩:=g;cases e
   have:=I.tuple_inj h2 g2
   subst this;unfold eY;exact eO.same I l m h3 g3
  |lst m=>unfold RW at g;obtain⟨a',ys,e,g2,g3⟩:=g;cases e;exact (Zm I g2 h2).elim
  |ref _=>unfold RW at g;exact g.elim
  |dct=>unfold RW at g;exact g.elim
  |ty _=>unfold RW at g;exact g.elim
  |fn _=>unfold RW at g;exact g.elim
  |exc _ _=>unfold RW at g;exact g.elim
  |non=>unfold RW at g;cases g
  |bl _=>unfold RW at g;cases g
  |int _=>unfold RW at g;cases g
  |str _=>unfold RW at g;cases g
 | .lst l,q,v,h,g=>by
  unfold RW at h;obtain⟨a,xs,rfl,h2,h3⟩:=h;cases q with
  |lst m =>
   unfold RW at g;obtain⟨a',ys,e,g2,g3⟩:=g;cases e
   have:=I.list_inj h2 g2
   subst this;unfold eY;exact eO.same I l m h3 g3
  |tup m=>unfold RW at g;obtain⟨a',ys,e,g2,g3⟩:=g;cases e;exact (Zm I h2 g2).elim
  |ref _=>unfold RW at g;exact g.elim
  |dct=>unfold RW at g;exact g.elim
  |ty _=>unfold RW at g;exact g.elim
  |fn _=>unfold RW at g;exact g.elim
  |exc _ _=>unfold RW at g;exact g.elim
  |non=>unfold RW at g;cases g
  |bl _=>unfold RW at g;cases g
  |int _=>unfold RW at g;cases g
  |str _=>unfold RW at g;cases g
 | .ref _,_,_,h,_=>by unfold RW at h;exact h.elim
 | .dct,_,_,h,_=>by unfold RW at h;exact h.elim
 | .ty _,_,_,h,_=>by unfold RW at h;exact h.elim
 | .fn _,_,_,h,_=>by unfold RW at h;exact h.elim
 | .exc _ _,_,_,h,_=>by unfold RW at h;exact h.elim
def eO.same(I:L2.Inv X Ee σ H s):∀(l m:EK PV) {xs:EK V},eO X.K H l xs->eO X.K H m xs->fE l m=true
 |[],m,xs,h,g=>by
  unfold eO at h;subst h;cases m with|nil=>rfl|cons _ _=>unfold eO at g;obtain⟨_,_,e,_⟩:=g;cases e
 |p::ps,m,xs,h,g=>by
  unfold eO at h;obtain⟨x,r,rfl,h2,h3⟩:=h;cases m with|nil=>unfold eO at g;cases g|cons q qs=>unfold eO at g;obtain⟨y,t,e,g2,g3⟩:=g;cases e;unfold fE;rw[RW.same I p q h2 g2,eO.same I ps qs h3 g3];rfl
end
def fW(l m:EK PV)(j:Nat):Bool:=match l[j]?,m[j]? with|some p,some q=>eY p q|_,_=>false
def zR:∀(l m:EK PV),l.length=m.length->(List.range l.length).all (fW l m)=fE l m
 |[],[],_=>rfl
 |p::ps,q::F,h=>by
  have I:=zR ps F (by simpa using h);rw[Aa,CH,List.all_cons,List.all_map];unfold fE;have M:fW (p::ps) (q::F) 0=eY p q:=rfl;have Z:(fW (p::ps) (q::F) ∘ Nat.succ)=fW ps F:=by funext j;rfl
  rw[M,Z,I]
 |[],_::_,h=>by simp at h
 |_::_,[],h=>by simp at h
def WV:∀(l m:EK PV),l.length≠m.length->fE l m=false|[],[],h=>absurd rfl h|[],_::_,_=>rfl|_::_,[],_=>rfl|p::ps,q::F,h=>by unfold fE;rw[WV ps F (by intro z;apply h;rw[Aa,Aa,z]),CQ]
def eO.get'{K:EQ}{H:Hp}:∀{l:EK PV} {xs:EK V} {i:Nat} {x:V},eO K H l xs->xs[i]? = some x->∃p,l[i]? = some p∧RW K H p x
 |[],_,_,_,h,e=>by unfold eO at h;subst h;simp at e
 |p::ps,_,0,x,h,e=>by unfold eO at h;obtain⟨y,r,rfl,U,F⟩:=h;simp at e;subst e;exact⟨p,rfl,U⟩
 |p::ps,_,i+1,x,h,e=>by
  unfold eO at h;obtain⟨y,r,rfl,U,F⟩:=h;obtain⟨q,Z,R⟩:=eO.get' (i:=i) F (by simpa using e);exact⟨q,by simpa using Z,R⟩
def ei.get2:∀{xs:EK V} {us:EK EL} {i:Nat} {u:EL},ei xs us->us[i]? = some u->∃x,xs[i]? = some x∧RelV x u
 |_,_,_,_,.nil,e=>by simp at e
 |_,_,0,_,.cons r _,e=>by simp at e;subst e;exact⟨_,rfl,r⟩
 |_,_,i+1,u,.cons _ t,e=>by
  obtain⟨x,Y,U⟩:=ei.get2 (i:=i) (u:=u) t (by simpa using e);exact⟨x,by simpa using Y,U⟩
def Qz(I:L2.Inv X Ee σ H s)(p q:PV){v u:V}{M uu:EL}{A:EW}(hd:fA p=0)(Y:A.units<cLine)(L:RW X.K H p v)(Z:RW X.K H q u)(F:RelV v M)(R:RelV u uu):SeqAt.EqAt A s M uu (eY p q):=by
 cases p with
 |tup l=>unfold fA at hd;omega
 |lst l=>unfold fA at hd;omega
 |ref _=>unfold RW at L;exact L.elim
 |dct=>unfold RW at L;exact L.elim
 |ty _=>unfold RW at L;exact L.elim
 |fn _=>unfold RW at L;exact L.elim
 |exc _ _=>unfold RW at L;exact L.elim
 |non =>
  unfold RW at L;subst L;cases F;cases q with|non=>unfold RW at Z;subst Z;cases R;exact SeqAt.EqAt.same _|bl _=>unfold RW at Z;subst Z;cases R;exact SeqAt.EqAt.none_bool _|int _=>unfold RW at Z;subst Z;obtain⟨t,rfl⟩:=R;exact SeqAt.EqAt.none_int _ _|str _=>unfold RW at Z;subst Z;obtain⟨t,rfl⟩:=R;exact SeqAt.EqAt.none_str _ _|tup _=>unfold RW at Z;obtain⟨a,xs,rfl,U,_⟩:=Z;cases R;obtain⟨Eg,_,t,_⟩:=I.tuple U;exact SeqAt.EqAt.none_tuple t Y|lst _=>unfold RW at Z;obtain⟨a,xs,rfl,U,_⟩:=Z;cases R;obtain⟨Eg,_,t,_⟩:=I.list U;exact SeqAt.EqAt.none_list t.isList Y|ref _=>unfold RW at Z;exact Z.elim|dct=>unfold RW at Z;exact Z.elim|ty _=>unfold RW at Z;exact Z.elim|fn _=>unfold RW at Z;exact Z.elim|exc _ _=>unfold RW at Z;exact Z.elim
 |bl x =>
  unfold RW at L;subst L;cases F;cases q with|non=>unfold RW at Z;subst Z;cases R;exact SeqAt.EqAt.bool_none _|bl _=>unfold RW at Z;subst Z;cases R;exact SeqAt.EqAt.bool_bool _ _|int _=>unfold RW at Z;subst Z;obtain⟨t,rfl⟩:=R;exact SeqAt.EqAt.bool_int _ _ _|str _=>unfold RW at Z;subst Z;obtain⟨t,rfl⟩:=R;exact SeqAt.EqAt.bool_str _ _ _|tup _=>unfold RW at Z;obtain⟨a,xs,rfl,U,_⟩:=Z;cases R;obtain⟨Eg,_,t,_⟩:=I.tuple U;exact SeqAt.EqAt.bool_tuple _ t Y|lst _=>unfold RW at Z;obtain⟨a,xs,rfl,U,_⟩:=Z;cases R;obtain⟨Eg,_,t,_⟩:=I.list U;exact SeqAt.EqAt.bool_list _ t.isList Y|ref _=>unfold RW at Z;exact Z.elim|dct=>unfold RW at Z;exact Z.elim|ty _=>unfold RW at Z;exact Z.elim|fn _=>unfold RW at Z;exact Z.elim|exc _ _=>unfold RW at Z;exact Z.elim
 |int x =>
  unfold RW at L;subst L;obtain⟨t0,rfl⟩:=F;cases q with|non=>unfold RW at Z;subst Z;cases R;exact SeqAt.EqAt.int_none _ _|bl _=>unfold RW at Z;subst Z;cases R;exact SeqAt.EqAt.int_bool _ _ _|int _=>unfold RW at Z;subst Z;obtain⟨t,rfl⟩:=R;exact SeqAt.EqAt.int_int _ _ _ _|str _=>unfold RW at Z;subst Z;obtain⟨t,rfl⟩:=R;exact SeqAt.EqAt.int_str _ _ _ _|tup _=>unfold RW at Z;obtain⟨a,xs,rfl,U,_⟩:=Z;cases R;obtain⟨Eg,_,t,_⟩:=I.tuple U;exact SeqAt.EqAt.int_tuple _ _ t Y|lst _=>unfold RW at Z;obtain⟨a,xs,rfl,U,_⟩:=Z;cases R;obtain⟨Eg,_,t,_⟩:=I.list U;exact SeqAt.EqAt.int_list _ _ t.isList Y|ref _=>unfold RW at Z;exact Z.elim|dct=>unfold RW at Z;exact Z.elim|ty _=>unfold RW at Z;exact Z.elim|fn _=>unfold RW at Z;exact Z.elim|exc _ _=>unfold RW at Z;exact Z.elim
 |str x =>
  unfold RW at L;subst L;obtain⟨t0,rfl⟩:=F;cases q with|non=>unfold RW at Z;subst Z;cases R;exact SeqAt.EqAt.str_none _ _|bl _=>unfold RW at Z;subst Z;cases R;exact SeqAt.EqAt.str_bool _ _ _|int _=>unfold RW at Z;subst Z;obtain⟨t,rfl⟩:=R;exact SeqAt.EqAt.str_int _ _ _ _|str _=>unfold RW at Z;subst Z;obtain⟨t,rfl⟩:=R;exact SeqAt.EqAt.str_str _ _ _ _|tup _=>unfold RW at Z;obtain⟨a,xs,rfl,U,_⟩:=Z;cases R;obtain⟨Eg,_,t,_⟩:=I.tuple U;exact SeqAt.EqAt.str_tuple _ _ t Y|lst _=>unfold RW at Z;obtain⟨a,xs,rfl,U,_⟩:=Z;cases R;obtain⟨Eg,_,t,_⟩:=I.list U;exact SeqAt.EqAt.str_list _ _ t.isList Y|ref _=>unfold RW at Z;exact Z.elim|dct=>unfold RW at Z;exact Z.elim|ty _=>unfold RW at Z;exact Z.elim|fn _=>unfold RW at Z;exact Z.elim|exc _ _=>unfold RW at Z;exact Z.elim
def W4:∀{l:EK PV} {i:Nat} {p:PV},l[i]? = some p->fA p≤eP l|[],_,_,h=>by simp at h|q::F,0,p,h=>by simp at h;subst h;unfold eP;exact Nat.le_max_left _ _|q::F,i+1,p,h=>by unfold eP;exact AW (W4 (l:=F) (i:=i) (by simpa using h)) (Nat.le_max_right _ _)
def kI(I:L2.Inv X Ee σ H s):∀(n:Nat) (p q:PV) (v u:V) (uv uu:EL) (A:EW),fA p≤n->A.units+n<cLine->RW X.K H p v->RW X.K H q u->RelV v uv->RelV u uu->SeqAt.EqAt A s uv uu (eY p q):=by
 intro n;induction n with
 |zero=>intro p q v u uv uu A hd hu M Z rv R;exact Qz I p q (Nat.le_zero.mp hd) hu M Z rv R
 |succ n ih =>
  intro p q v u uv uu A hd hu M Z rv R;have Y:A.units<cLine:=Cc (CD _ _) hu;have a7:A.in1.units+n<cLine:=by show A.units+1+n<cLine;omega
  have a5:∀{l m:EK PV} {xs ys:EK V} {Eg F:EK EL},eP l≤n->eO X.K H l xs->eO X.K H m ys->ei xs Eg->ei ys F->∀j (h1:j<Eg.toArray.size) (h2:j<F.toArray.size),SeqAt.EqAt A.in1 s Eg.toArray[j] F.toArray[j] (fW l m j):=fun {l m xs ys Eg F} a8 hl hm vl vm j h1 h2=>by
   have e1:Eg[j]? = some Eg.toArray[j]:=by simp
   have e2:F[j]? = some F.toArray[j]:=by simp
   obtain⟨x,hx,rx⟩:=ei.get2 vl e1;obtain⟨y,hy,ry⟩:=ei.get2 vm e2;obtain⟨p',a6,a9⟩:=eO.get' hl hx;obtain⟨q',aa,ab⟩:=eO.get' hm hy
   have:fW l m j=eY p' q':=by unfold fW;rw[a6,aa]
   rw[this];exact ih p' q' x y _ _ A.in1 (AW (W4 a6) a8) a7 a9 ab rx ry
  cases p with
  |tup l =>
   have a3:=M;unfold RW at M;unfold fA at hd;obtain⟨a,xs,rfl,h2,h3⟩:=M;cases rv;obtain⟨Eg,vl,U,_⟩:=I.tuple h2;cases q with
   |non=>unfold RW at Z;subst Z;cases R;exact SeqAt.EqAt.tuple_none U Y
   |bl _=>unfold RW at Z;subst Z;cases R;exact SeqAt.EqAt.tuple_bool _ U Y
   |int _=>unfold RW at Z;subst Z;obtain⟨t,rfl⟩:=R;exact SeqAt.EqAt.tuple_int _ _ U Y
   |str _=>unfold RW at Z;subst Z;obtain⟨t,rfl⟩:=R;exact SeqAt.EqAt.tuple_str _ _ U Y
   |lst _=>unfold RW at Z;obtain⟨a,xs,rfl,h2,_⟩:=Z;cases R;obtain⟨Eg,_,t,_⟩:=I.list h2;exact SeqAt.EqAt.tuple_list U t.isList Y
   |ref _=>unfold RW at Z;exact Z.elim
   |dct=>unfold RW at Z;exact Z.elim
   |ty _=>unfold RW at Z;exact Z.elim
   |fn _=>unfold RW at Z;exact Z.elim
   |exc _ _=>unfold RW at Z;exact Z.elim
   |tup m =>
    have a4:=Z;unfold RW at Z;obtain⟨a2,ys,rfl,g2,g3⟩:=Z;cases R;obtain⟨F,vm,tm,_⟩:=I.tuple g2;by_cases ha:a=a2;subst ha;rw[RW.same I _ _ a3 a4];exact SeqAt.EqAt.same _
    ·refine SeqAt.EqAt.of_refs ha ?_;have rc:=SeqAt.RcAt.tuples (e:=fW l m) U tm Y (a5 (by omega) h3 g3 vl vm);have a0:Eg.toArray.size=l.length:=by rw[AR,←vl.length,h3.length]
     have a1:F.toArray.size=m.length:=by rw[AR,←vm.length,g3.length]
     rw[a0,a1]at rc;have e:((List.range (min l.length m.length)).all (fW l m)&&l.length==m.length)=eY (.tup l) (.tup m):=by
      unfold eY;by_cases L:l.length=m.length;rw[←L,Nat.min_self,zR l m L,Aj,Bool.and_true];rw[WV l m L,CJ L,CQ]
     rw[e]at rc;exact rc
  |lst l =>
   have a3:=M;unfold RW at M;unfold fA at hd;obtain⟨a,xs,rfl,h2,h3⟩:=M;cases rv;obtain⟨Eg,vl,ac,_⟩:=I.list h2;have U:=ac.isList;cases q with
   |non=>unfold RW at Z;subst Z;cases R;exact SeqAt.EqAt.list_none U Y
   |bl _=>unfold RW at Z;subst Z;cases R;exact SeqAt.EqAt.list_bool _ U Y
   |int _=>unfold RW at Z;subst Z;obtain⟨t,rfl⟩:=R;exact SeqAt.EqAt.list_int _ _ U Y
   |str _=>unfold RW at Z;subst Z;obtain⟨t,rfl⟩:=R;exact SeqAt.EqAt.list_str _ _ U Y
   |tup _=>unfold RW at Z;obtain⟨a,xs,rfl,h2,_⟩:=Z;cases R;obtain⟨Eg,_,t,_⟩:=I.tuple h2;exact SeqAt.EqAt.list_tuple U t Y
   |ref _=>unfold RW at Z;exact Z.elim
   |dct=>unfold RW at Z;exact Z.elim
   |ty _=>unfold RW at Z;exact Z.elim
   |fn _=>unfold RW at Z;exact Z.elim
   |exc _ _=>unfold RW at Z;exact Z.elim
   |lst m =>
    have a4:=Z;unfold RW at Z;obtain⟨a2,ys,rfl,g2,g3⟩:=Z;cases R;obtain⟨F,vm,ae,_⟩:=I.list g2;have tm:=ae.isList;by_cases ha:a=a2;subst ha;rw[RW.same I _ _ a3 a4];exact SeqAt.EqAt.same _
    ·refine SeqAt.EqAt.of_refs ha ?_;have a0:Eg.toArray.size=l.length:=by rw[AR,←vl.length,h3.length]
     have a1:F.toArray.size=m.length:=by rw[AR,←vm.length,g3.length]
     unfold eY;by_cases L:l.length=m.length
     ·have rc:=SeqAt.RcAt.lists (e:=fW l m) U tm (by rw[a0,a1,L]) Y (a5 (by omega) h3 g3 vl vm);rw[a0,zR l m L]at rc;exact rc
     ·rw[WV l m L];exact SeqAt.RcAt.lists_lengths U tm (by rw[a0,a1];exact bne_iff_ne.mpr L) Y
  |non=>exact Qz I _ q rfl Y M Z rv R
  |bl _=>exact Qz I _ q rfl Y M Z rv R
  |int _=>exact Qz I _ q rfl Y M Z rv R
  |str _=>exact Qz I _ q rfl Y M Z rv R
  |ref _=>exact Qz I _ q rfl Y M Z rv R
  |dct=>exact Qz I _ q rfl Y M Z rv R
  |ty _=>exact Qz I _ q rfl Y M Z rv R
  |fn _=>exact Qz I _ q rfl Y M Z rv R
  |exc _ _=>exact Qz I _ q rfl Y M Z rv R
end
section
variable{X:Cx}{Ee:EK (EN×Obj)}{σ:L2.St}{H:Hp}{s:EM}
mutual
def RW.det(I:L2.Inv X Ee σ H s):∀(p q:PV) {v:V},RW X.K H p v->RW X.K H q v->p=q
 | .non,q,v,h,g=>by unfold RW at h;subst h;cases q <;> unfold RW at g <;> first|rfl|exact (g:False).elim|(obtain⟨_,_,e,_⟩:=g;cases e)|cases g
 | .bl x,q,v,h,g=>by unfold RW at h;subst h;cases q <;> unfold RW at g <;> first|(obtain⟨_,_,e,_⟩:=g;cases e)|(cases g;rfl)|exact (g:False).elim|cases g
 | .int x,q,v,h,g=>by unfold RW at h;subst h;cases q <;> unfold RW at g <;> first|(obtain⟨_,_,e,_⟩:=g;cases e)|(cases g;rfl)|exact (g:False).elim|cases g
 | .str x,q,v,h,g=>by unfold RW at h;subst h;cases q <;> unfold RW at g <;> first|(obtain⟨_,_,e,_⟩:=g;cases e)|(cases g;rfl)|exact (g:False).elim|cases g
 | .tup l,q,v,h,g=>by
  unfold RW at h;obtain⟨a,xs,rfl,h2,h3⟩:=h;cases q with
  |tup m =>
   unfold RW at g;obtain⟨a',ys,e,g2,g3⟩:=g;cases e
   have:=I.tuple_inj h2 g2
   subst this;rw[eO.det I l m h3 g3]
  |lst m=>unfold RW at g;obtain⟨a',ys,e,g2,g3⟩:=g;cases e;exact (Zm I g2 h2).elim
  |ref _=>unfold RW at g;exact g.elim
  |dct=>unfold RW at g;exact g.elim
  |ty _=>unfold RW at g;exact g.elim
  |fn _=>unfold RW at g;exact g.elim
  |exc _ _=>unfold RW at g;exact g.elim
  |non=>unfold RW at g;cases g
  |bl _=>unfold RW at g;cases g
  |int _=>unfold RW at g;cases g
  |str _=>unfold RW at g;cases g
 | .lst l,q,v,h,g=>by
  unfold RW at h;obtain⟨a,xs,rfl,h2,h3⟩:=h;cases q with
  |lst m =>
   unfold RW at g;obtain⟨a',ys,e,g2,g3⟩:=g;cases e
   have:=I.list_inj h2 g2
   subst this;rw[eO.det I l m h3 g3]
  |tup m=>unfold RW at g;obtain⟨a',ys,e,g2,g3⟩:=g;cases e;exact (Zm I h2 g2).elim
  |ref _=>unfold RW at g;exact g.elim
  |dct=>unfold RW at g;exact g.elim
  |ty _=>unfold RW at g;exact g.elim
  |fn _=>unfold RW at g;exact g.elim
  |exc _ _=>unfold RW at g;exact g.elim
  |non=>unfold RW at g;cases g
  |bl _=>unfold RW at g;cases g
  |int _=>unfold RW at g;cases g
  |str _=>unfold RW at g;cases g
 | .ref _,_,_,h,_=>by unfold RW at h;exact h.elim
 | .dct,_,_,h,_=>by unfold RW at h;exact h.elim
 | .ty _,_,_,h,_=>by unfold RW at h;exact h.elim
 | .fn _,_,_,h,_=>by unfold RW at h;exact h.elim
 | .exc _ _,_,_,h,_=>by unfold RW at h;exact h.elim
def eO.det(I:L2.Inv X Ee σ H s):∀(l m:EK PV) {xs:EK V},eO X.K H l xs->eO X.K H m xs->l=m
 |[],m,xs,h,g=>by
  unfold eO at h;subst h;cases m with|nil=>rfl|cons _ _=>unfold eO at g;obtain⟨_,_,e,_⟩:=g;cases e
 |p::ps,m,xs,h,g=>by
  unfold eO at h;obtain⟨x,r,rfl,h2,h3⟩:=h;cases m with|nil=>unfold eO at g;cases g|cons q qs=>unfold eO at g;obtain⟨y,t,e,g2,g3⟩:=g;cases e;rw[RW.det I p q h2 g2,eO.det I ps qs h3 g3]
end
def wF(I:L2.Inv X Ee σ H s)(p q:PV){v u:V}{M uu:EL}{A:EW}(hd:fA p=0)(Y:A.units<cLine)(L:RW X.K H p v)(Z:RW X.K H q u)(F:RelV v M)(R:RelV u uu):SeqAt.RcAt A s M uu (eY p q):=by
 cases p with
 |tup l=>unfold fA at hd;omega
 |lst l=>unfold fA at hd;omega
 |ref _=>unfold RW at L;exact L.elim
 |dct=>unfold RW at L;exact L.elim
 |ty _=>unfold RW at L;exact L.elim
 |fn _=>unfold RW at L;exact L.elim
 |exc _ _=>unfold RW at L;exact L.elim
 |non =>
  unfold RW at L;subst L;cases F;cases q with|non=>unfold RW at Z;subst Z;cases R;exact SeqAt.RcAt.none_none|bl _=>unfold RW at Z;subst Z;cases R;exact SeqAt.RcAt.none_bool _|int _=>unfold RW at Z;subst Z;obtain⟨t,rfl⟩:=R;exact SeqAt.RcAt.none_int _ _|str _=>unfold RW at Z;subst Z;obtain⟨t,rfl⟩:=R;exact SeqAt.RcAt.none_str _ _|tup _=>unfold RW at Z;obtain⟨a,xs,rfl,U,_⟩:=Z;cases R;obtain⟨Eg,_,t,_⟩:=I.tuple U;exact SeqAt.RcAt.none_tuple t Y|lst _=>unfold RW at Z;obtain⟨a,xs,rfl,U,_⟩:=Z;cases R;obtain⟨Eg,_,t,_⟩:=I.list U;exact SeqAt.RcAt.none_list t.isList Y|ref _=>unfold RW at Z;exact Z.elim|dct=>unfold RW at Z;exact Z.elim|ty _=>unfold RW at Z;exact Z.elim|fn _=>unfold RW at Z;exact Z.elim|exc _ _=>unfold RW at Z;exact Z.elim
 |bl x =>
  unfold RW at L;subst L;cases F;cases q with|non=>unfold RW at Z;subst Z;cases R;exact SeqAt.RcAt.bool_none _|bl _=>unfold RW at Z;subst Z;cases R;exact SeqAt.RcAt.bool_bool _ _|int _=>unfold RW at Z;subst Z;obtain⟨t,rfl⟩:=R;exact SeqAt.RcAt.bool_int _ _ _|str _=>unfold RW at Z;subst Z;obtain⟨t,rfl⟩:=R;exact SeqAt.RcAt.bool_str _ _ _|tup _=>unfold RW at Z;obtain⟨a,xs,rfl,U,_⟩:=Z;cases R;obtain⟨Eg,_,t,_⟩:=I.tuple U;exact SeqAt.RcAt.bool_tuple _ t Y|lst _=>unfold RW at Z;obtain⟨a,xs,rfl,U,_⟩:=Z;cases R;obtain⟨Eg,_,t,_⟩:=I.list U;exact SeqAt.RcAt.bool_list _ t.isList Y|ref _=>unfold RW at Z;exact Z.elim|dct=>unfold RW at Z;exact Z.elim|ty _=>unfold RW at Z;exact Z.elim|fn _=>unfold RW at Z;exact Z.elim|exc _ _=>unfold RW at Z;exact Z.elim
 |int x =>
  unfold RW at L;subst L;obtain⟨t0,rfl⟩:=F;cases q with|non=>unfold RW at Z;subst Z;cases R;exact SeqAt.RcAt.int_none _ _|bl _=>unfold RW at Z;subst Z;cases R;exact SeqAt.RcAt.int_bool _ _ _|int _=>unfold RW at Z;subst Z;obtain⟨t,rfl⟩:=R;exact SeqAt.RcAt.int_int _ _ _ _|str _=>unfold RW at Z;subst Z;obtain⟨t,rfl⟩:=R;exact SeqAt.RcAt.int_str _ _ _ _|tup _=>unfold RW at Z;obtain⟨a,xs,rfl,U,_⟩:=Z;cases R;obtain⟨Eg,_,t,_⟩:=I.tuple U;exact SeqAt.RcAt.int_tuple _ _ t Y|lst _=>unfold RW at Z;obtain⟨a,xs,rfl,U,_⟩:=Z;cases R;obtain⟨Eg,_,t,_⟩:=I.list U;exact SeqAt.RcAt.int_list _ _ t.isList Y|ref _=>unfold RW at Z;exact Z.elim|dct=>unfold RW at Z;exact Z.elim|ty _=>unfold RW at Z;exact Z.elim|fn _=>unfold RW at Z;exact Z.elim|exc _ _=>unfold RW at Z;exact Z.elim
 |str x =>
  unfold RW at L;subst L;obtain⟨t0,rfl⟩:=F;cases q with|non=>unfold RW at Z;subst Z;cases R;exact SeqAt.RcAt.str_none _ _|bl _=>unfold RW at Z;subst Z;cases R;exact SeqAt.RcAt.str_bool _ _ _|int _=>unfold RW at Z;subst Z;obtain⟨t,rfl⟩:=R;exact SeqAt.RcAt.str_int _ _ _ _|str _=>unfold RW at Z;subst Z;obtain⟨t,rfl⟩:=R;exact SeqAt.RcAt.str_str _ _ _ _|tup _=>unfold RW at Z;obtain⟨a,xs,rfl,U,_⟩:=Z;cases R;obtain⟨Eg,_,t,_⟩:=I.tuple U;exact SeqAt.RcAt.str_tuple _ _ t Y|lst _=>unfold RW at Z;obtain⟨a,xs,rfl,U,_⟩:=Z;cases R;obtain⟨Eg,_,t,_⟩:=I.list U;exact SeqAt.RcAt.str_list _ _ t.isList Y|ref _=>unfold RW at Z;exact Z.elim|dct=>unfold RW at Z;exact Z.elim|ty _=>unfold RW at Z;exact Z.elim|fn _=>unfold RW at Z;exact Z.elim|exc _ _=>unfold RW at Z;exact Z.elim
def wG(I:L2.Inv X Ee σ H s)(p q:PV){v u:V}{M uu:EL}{A:EW}(hd:fA p=0)(Y:A.units<cLine)(L:RW X.K H p v)(Z:RW X.K H q u)(F:RelV v M)(R:RelV u uu):SeqAt.RcNeAt A s M uu (!eY p q):=by
 cases p with
 |tup l=>unfold fA at hd;omega
 |lst l=>unfold fA at hd;omega
 |ref _=>unfold RW at L;exact L.elim
 |dct=>unfold RW at L;exact L.elim
 |ty _=>unfold RW at L;exact L.elim
 |fn _=>unfold RW at L;exact L.elim
 |exc _ _=>unfold RW at L;exact L.elim
 |non =>
  unfold RW at L;subst L;cases F;cases q with|non=>unfold RW at Z;subst Z;cases R;exact SeqAt.RcNeAt.none_none|bl _=>unfold RW at Z;subst Z;cases R;exact SeqAt.RcNeAt.none_bool _|int _=>unfold RW at Z;subst Z;obtain⟨t,rfl⟩:=R;exact SeqAt.RcNeAt.none_int _ _|str _=>unfold RW at Z;subst Z;obtain⟨t,rfl⟩:=R;exact SeqAt.RcNeAt.none_str _ _|tup _=>unfold RW at Z;obtain⟨a,xs,rfl,U,_⟩:=Z;cases R;obtain⟨Eg,_,t,_⟩:=I.tuple U;exact SeqAt.RcNeAt.none_tuple t Y|lst _=>unfold RW at Z;obtain⟨a,xs,rfl,U,_⟩:=Z;cases R;obtain⟨Eg,_,t,_⟩:=I.list U;exact SeqAt.RcNeAt.none_list t.isList Y|ref _=>unfold RW at Z;exact Z.elim|dct=>unfold RW at Z;exact Z.elim|ty _=>unfold RW at Z;exact Z.elim|fn _=>unfold RW at Z;exact Z.elim|exc _ _=>unfold RW at Z;exact Z.elim
 |bl x =>
  unfold RW at L;subst L;cases F;cases q with|non=>unfold RW at Z;subst Z;cases R;exact SeqAt.RcNeAt.bool_none _|bl _=>unfold RW at Z;subst Z;cases R;exact SeqAt.RcNeAt.bool_bool _ _|int _=>unfold RW at Z;subst Z;obtain⟨t,rfl⟩:=R;exact SeqAt.RcNeAt.bool_int _ _ _|str _=>unfold RW at Z;subst Z;obtain⟨t,rfl⟩:=R;exact SeqAt.RcNeAt.bool_str _ _ _|tup _=>unfold RW at Z;obtain⟨a,xs,rfl,U,_⟩:=Z;cases R;obtain⟨Eg,_,t,_⟩:=I.tuple U;exact SeqAt.RcNeAt.bool_tuple _ t Y|lst _=>unfold RW at Z;obtain⟨a,xs,rfl,U,_⟩:=Z;cases R;obtain⟨Eg,_,t,_⟩:=I.list U;exact SeqAt.RcNeAt.bool_list _ t.isList Y|ref _=>unfold RW at Z;exact Z.elim|dct=>unfold RW at Z;exact Z.elim|ty _=>unfold RW at Z;exact Z.elim|fn _=>unfold RW at Z;exact Z.elim|exc _ _=>unfold RW at Z;exact Z.elim
 |int x =>
  unfold RW at L;subst L;obtain⟨t0,rfl⟩:=F;cases q with|non=>unfold RW at Z;subst Z;cases R;exact SeqAt.RcNeAt.int_none _ _|bl _=>unfold RW at Z;subst Z;cases R;exact SeqAt.RcNeAt.int_bool _ _ _|int _=>unfold RW at Z;subst Z;obtain⟨t,rfl⟩:=R;exact SeqAt.RcNeAt.int_int _ _ _ _|str _=>unfold RW at Z;subst Z;obtain⟨t,rfl⟩:=R;exact SeqAt.RcNeAt.int_str _ _ _ _|tup _=>unfold RW at Z;obtain⟨a,xs,rfl,U,_⟩:=Z;cases R;obtain⟨Eg,_,t,_⟩:=I.tuple U;exact SeqAt.RcNeAt.int_tuple _ _ t Y|lst _=>unfold RW at Z;obtain⟨a,xs,rfl,U,_⟩:=Z;cases R;obtain⟨Eg,_,t,_⟩:=I.list U;exact SeqAt.RcNeAt.int_list _ _ t.isList Y|ref _=>unfold RW at Z;exact Z.elim|dct=>unfold RW at Z;exact Z.elim|ty _=>unfold RW at Z;exact Z.elim|fn _=>unfold RW at Z;exact Z.elim|exc _ _=>unfold RW at Z;exact Z.elim
 |str x =>
  unfold RW at L;subst L;obtain⟨t0,rfl⟩:=F;cases q with|non=>unfold RW at Z;subst Z;cases R;exact SeqAt.RcNeAt.str_none _ _|bl _=>unfold RW at Z;subst Z;cases R;exact SeqAt.RcNeAt.str_bool _ _ _|int _=>unfold RW at Z;subst Z;obtain⟨t,rfl⟩:=R;exact SeqAt.RcNeAt.str_int _ _ _ _|str _=>unfold RW at Z;subst Z;obtain⟨t,rfl⟩:=R;exact SeqAt.RcNeAt.str_str _ _ _ _|tup _=>unfold RW at Z;obtain⟨a,xs,rfl,U,_⟩:=Z;cases R;obtain⟨Eg,_,t,_⟩:=I.tuple U;exact SeqAt.RcNeAt.str_tuple _ _ t Y|lst _=>unfold RW at Z;obtain⟨a,xs,rfl,U,_⟩:=Z;cases R;obtain⟨Eg,_,t,_⟩:=I.list U;exact SeqAt.RcNeAt.str_list _ _ t.isList Y|ref _=>unfold RW at Z;exact Z.elim|dct=>unfold RW at Z;exact Z.elim|ty _=>unfold RW at Z;exact Z.elim|fn _=>unfold RW at Z;exact Z.elim|exc _ _=>unfold RW at Z;exact Z.elim
def sC(I:L2.Inv X Ee σ H s)(p q:PV){v u:V}{uv uu:EL}{A:EW}(hu:A.units+(fA p+1)<cLine)(M:RW X.K H p v)(Z:RW X.K H q u)(rv:RelV v uv)(R:RelV u uu):SeqAt.RcAt A s uv uu (eY p q):=by
 have Y:A.units<cLine:=Cc (CD _ _) hu;have a3:∀{n:Nat} {l m:EK PV} {xs ys:EK V} {Eg F:EK EL},A.in1.units+n<cLine->eP l≤n->eO X.K H l xs->eO X.K H m ys->ei xs Eg->ei ys F->∀j (h1:j<Eg.toArray.size) (h2:j<F.toArray.size),SeqAt.EqAt A.in1 s Eg.toArray[j] F.toArray[j] (fW l m j):=fun {n l m xs ys Eg F} a5 a6 hl hm vl vm j h1 h2=>by
  have e1:Eg[j]? = some Eg.toArray[j]:=by simp
  have e2:F[j]? = some F.toArray[j]:=by simp
  obtain⟨x,hx,rx⟩:=ei.get2 vl e1;obtain⟨y,hy,ry⟩:=ei.get2 vm e2;obtain⟨p',a4,a7⟩:=eO.get' hl hx;obtain⟨q',a8,a9⟩:=eO.get' hm hy
  have:fW l m j=eY p' q':=by unfold fW;rw[a4,a8]
  rw[this];exact kI I n p' q' x y _ _ A.in1 (AW (W4 a4) a6) a5 a7 a9 rx ry
 cases p with
 |tup l =>
  have aa:=M;unfold RW at M;obtain⟨a,xs,rfl,h2,h3⟩:=M;cases rv;obtain⟨Eg,vl,U,_⟩:=I.tuple h2;unfold fA at hu;cases q with
  |non=>unfold RW at Z;subst Z;cases R;exact SeqAt.RcAt.tuple_none U Y
  |bl _=>unfold RW at Z;subst Z;cases R;exact SeqAt.RcAt.tuple_bool _ U Y
  |int _=>unfold RW at Z;subst Z;obtain⟨t,rfl⟩:=R;exact SeqAt.RcAt.tuple_int _ _ U Y
  |str _=>unfold RW at Z;subst Z;obtain⟨t,rfl⟩:=R;exact SeqAt.RcAt.tuple_str _ _ U Y
  |lst _=>unfold RW at Z;obtain⟨a,xs,rfl,h2,_⟩:=Z;cases R;obtain⟨Eg,_,t,_⟩:=I.list h2;exact SeqAt.RcAt.tuple_list U t.isList Y
  |ref _=>unfold RW at Z;exact Z.elim
  |dct=>unfold RW at Z;exact Z.elim
  |ty _=>unfold RW at Z;exact Z.elim
  |fn _=>unfold RW at Z;exact Z.elim
  |exc _ _=>unfold RW at Z;exact Z.elim
  |tup m =>
   unfold RW at Z;obtain⟨a2,ys,rfl,g2,g3⟩:=Z;cases R;obtain⟨F,vm,tm,_⟩:=I.tuple g2;have rc:=SeqAt.RcAt.tuples (e:=fW l m) U tm Y (a3 (n:=eP l) (by show A.units+1+eP l<cLine;omega) (AN _) h3 g3 vl vm);have a0:Eg.toArray.size=l.length:=by rw[AR,←vl.length,h3.length]
   have a1:F.toArray.size=m.length:=by rw[AR,←vm.length,g3.length]
   rw[a0,a1]at rc;have e:((List.range (min l.length m.length)).all (fW l m)&&l.length==m.length)=eY (.tup l) (.tup m):=by
    unfold eY;by_cases L:l.length=m.length;rw[←L,Nat.min_self,zR l m L,Aj,Bool.and_true];rw[WV l m L,CJ L,CQ]
   rw[e]at rc;exact rc
 |lst l =>
  have aa:=M;unfold RW at M;obtain⟨a,xs,rfl,h2,h3⟩:=M;cases rv;obtain⟨Eg,vl,ab,_⟩:=I.list h2;have U:=ab.isList;unfold fA at hu;cases q with
  |non=>unfold RW at Z;subst Z;cases R;exact SeqAt.RcAt.list_none U Y
  |bl _=>unfold RW at Z;subst Z;cases R;exact SeqAt.RcAt.list_bool _ U Y
  |int _=>unfold RW at Z;subst Z;obtain⟨t,rfl⟩:=R;exact SeqAt.RcAt.list_int _ _ U Y
  |str _=>unfold RW at Z;subst Z;obtain⟨t,rfl⟩:=R;exact SeqAt.RcAt.list_str _ _ U Y
  |tup _=>unfold RW at Z;obtain⟨a,xs,rfl,h2,_⟩:=Z;cases R;obtain⟨Eg,_,t,_⟩:=I.tuple h2;exact SeqAt.RcAt.list_tuple U t Y
  |ref _=>unfold RW at Z;exact Z.elim
  |dct=>unfold RW at Z;exact Z.elim
  |ty _=>unfold RW at Z;exact Z.elim
  |fn _=>unfold RW at Z;exact Z.elim
  |exc _ _=>unfold RW at Z;exact Z.elim
  |lst m =>
   unfold RW at Z;obtain⟨a2,ys,rfl,g2,g3⟩:=Z;cases R;obtain⟨F,vm,ac,_⟩:=I.list g2;have tm:=ac.isList;have a0:Eg.toArray.size=l.length:=by rw[AR,←vl.length,h3.length]
   have a1:F.toArray.size=m.length:=by rw[AR,←vm.length,g3.length]
   unfold eY;by_cases L:l.length=m.length
   ·have rc:=SeqAt.RcAt.lists (e:=fW l m) U tm (by rw[a0,a1,L]) Y (a3 (n:=eP l) (by show A.units+1+eP l<cLine;omega) (AN _) h3 g3 vl vm);rw[a0,zR l m L]at rc;exact rc
   ·rw[WV l m L];exact SeqAt.RcAt.lists_lengths U tm (by rw[a0,a1];exact bne_iff_ne.mpr L) Y
 |non=>exact wF I _ q rfl Y M Z rv R
 |bl _=>exact wF I _ q rfl Y M Z rv R
 |int _=>exact wF I _ q rfl Y M Z rv R
 |str _=>exact wF I _ q rfl Y M Z rv R
 |ref _=>exact wF I _ q rfl Y M Z rv R
 |dct=>exact wF I _ q rfl Y M Z rv R
 |ty _=>exact wF I _ q rfl Y M Z rv R
 |fn _=>exact wF I _ q rfl Y M Z rv R
 |exc _ _=>exact wF I _ q rfl Y M Z rv R
def uk(I:L2.Inv X Ee σ H s)(p q:PV){v u:V}{uv uu:EL}{A:EW}(hu:A.units+(fA p+1)<cLine)(M:RW X.K H p v)(Z:RW X.K H q u)(rv:RelV v uv)(R:RelV u uu):SeqAt.RcNeAt A s uv uu (!eY p q):=by
 have Y:A.units<cLine:=Cc (CD _ _) hu;have a3:∀{n:Nat} {l m:EK PV} {xs ys:EK V} {Eg F:EK EL},A.in1.units+n<cLine->eP l≤n->eO X.K H l xs->eO X.K H m ys->ei xs Eg->ei ys F->∀j (h1:j<Eg.toArray.size) (h2:j<F.toArray.size),SeqAt.EqAt A.in1 s Eg.toArray[j] F.toArray[j] (fW l m j):=fun {n l m xs ys Eg F} a5 a6 hl hm vl vm j h1 h2=>by
  have e1:Eg[j]? = some Eg.toArray[j]:=by simp
  have e2:F[j]? = some F.toArray[j]:=by simp
  obtain⟨x,hx,rx⟩:=ei.get2 vl e1;obtain⟨y,hy,ry⟩:=ei.get2 vm e2;obtain⟨p',a4,a7⟩:=eO.get' hl hx;obtain⟨q',a8,a9⟩:=eO.get' hm hy
  have:fW l m j=eY p' q':=by unfold fW;rw[a4,a8]
  rw[this];exact kI I n p' q' x y _ _ A.in1 (AW (W4 a4) a6) a5 a7 a9 rx ry
 cases p with
 |tup l =>
  have aa:=M;unfold RW at M;obtain⟨a,xs,rfl,h2,h3⟩:=M;cases rv;obtain⟨Eg,vl,U,_⟩:=I.tuple h2;unfold fA at hu;cases q with
  |non=>unfold RW at Z;subst Z;cases R;exact SeqAt.RcNeAt.tuple_none U Y
  |bl _=>unfold RW at Z;subst Z;cases R;exact SeqAt.RcNeAt.tuple_bool _ U Y
  |int _=>unfold RW at Z;subst Z;obtain⟨t,rfl⟩:=R;exact SeqAt.RcNeAt.tuple_int _ _ U Y
  |str _=>unfold RW at Z;subst Z;obtain⟨t,rfl⟩:=R;exact SeqAt.RcNeAt.tuple_str _ _ U Y
  |lst _=>unfold RW at Z;obtain⟨a,xs,rfl,h2,_⟩:=Z;cases R;obtain⟨Eg,_,t,_⟩:=I.list h2;exact SeqAt.RcNeAt.tuple_list U t.isList Y
  |ref _=>unfold RW at Z;exact Z.elim
  |dct=>unfold RW at Z;exact Z.elim
  |ty _=>unfold RW at Z;exact Z.elim
  |fn _=>unfold RW at Z;exact Z.elim
  |exc _ _=>unfold RW at Z;exact Z.elim
  |tup m =>
   unfold RW at Z;obtain⟨a2,ys,rfl,g2,g3⟩:=Z;cases R;obtain⟨F,vm,tm,_⟩:=I.tuple g2;have rc:=SeqAt.RcNeAt.tuples (e:=fW l m) U tm Y (a3 (n:=eP l) (by show A.units+1+eP l<cLine;omega) (AN _) h3 g3 vl vm);have a0:Eg.toArray.size=l.length:=by rw[AR,←vl.length,h3.length]
   have a1:F.toArray.size=m.length:=by rw[AR,←vm.length,g3.length]
   rw[a0,a1]at rc;have e:((List.range (min l.length m.length)).all (fW l m)&&l.length==m.length)=eY (.tup l) (.tup m):=by
    unfold eY;by_cases L:l.length=m.length;rw[←L,Nat.min_self,zR l m L,Aj,Bool.and_true];rw[WV l m L,CJ L,CQ]
   rw[e]at rc;exact rc
 |lst l =>
  have aa:=M;unfold RW at M;obtain⟨a,xs,rfl,h2,h3⟩:=M;cases rv;obtain⟨Eg,vl,ab,_⟩:=I.list h2;have U:=ab.isList;unfold fA at hu;cases q with
  |non=>unfold RW at Z;subst Z;cases R;exact SeqAt.RcNeAt.list_none U Y
  |bl _=>unfold RW at Z;subst Z;cases R;exact SeqAt.RcNeAt.list_bool _ U Y
  |int _=>unfold RW at Z;subst Z;obtain⟨t,rfl⟩:=R;exact SeqAt.RcNeAt.list_int _ _ U Y
  |str _=>unfold RW at Z;subst Z;obtain⟨t,rfl⟩:=R;exact SeqAt.RcNeAt.list_str _ _ U Y
  |tup _=>unfold RW at Z;obtain⟨a,xs,rfl,h2,_⟩:=Z;cases R;obtain⟨Eg,_,t,_⟩:=I.tuple h2;exact SeqAt.RcNeAt.list_tuple U t Y
  |ref _=>unfold RW at Z;exact Z.elim
  |dct=>unfold RW at Z;exact Z.elim
  |ty _=>unfold RW at Z;exact Z.elim
  |fn _=>unfold RW at Z;exact Z.elim
  |exc _ _=>unfold RW at Z;exact Z.elim
  |lst m =>
   unfold RW at Z;obtain⟨a2,ys,rfl,g2,g3⟩:=Z;cases R;obtain⟨F,vm,ac,_⟩:=I.list g2;have tm:=ac.isList;have a0:Eg.toArray.size=l.length:=by rw[AR,←vl.length,h3.length]
   have a1:F.toArray.size=m.length:=by rw[AR,←vm.length,g3.length]
   unfold eY;by_cases L:l.length=m.length
   ·have rc:=SeqAt.RcNeAt.lists (e:=fW l m) U tm (by rw[a0,a1,L]) Y (a3 (n:=eP l) (by show A.units+1+eP l<cLine;omega) (AN _) h3 g3 vl vm);rw[a0,zR l m L]at rc;exact rc
   ·rw[WV l m L];exact SeqAt.RcNeAt.lists_lengths U tm (by rw[a0,a1];exact bne_iff_ne.mpr L) Y
 |non=>exact wG I _ q rfl Y M Z rv R
 |bl _=>exact wG I _ q rfl Y M Z rv R
 |int _=>exact wG I _ q rfl Y M Z rv R
 |str _=>exact wG I _ q rfl Y M Z rv R
 |ref _=>exact wG I _ q rfl Y M Z rv R
 |dct=>exact wG I _ q rfl Y M Z rv R
 |ty _=>exact wG I _ q rfl Y M Z rv R
 |fn _=>exact wG I _ q rfl Y M Z rv R
 |exc _ _=>exact wG I _ q rfl Y M Z rv R
end
def res(st:qC)(p:PV):PV:=match fJ st p with|some l=>.lst l|none=>p
def Zw{K:EQ}{H:Hp}{b:Bz}{st:qC}{p:PV}{v:V}(S:SR K H b st)(r:RV K H b p v)(h:nr (res st p)=true):RW K H (res st p) v:=by
 unfold res at h ⊢;cases e:fJ st p with|none=>rw[e]at h;exact RV.rw p h r|some l=>rw[e]at h;obtain⟨a,xs,rfl,U,F⟩:=Q6 S r e;dsimp only at h ⊢;unfold nr at h;unfold RW;exact⟨a,xs,rfl,U,ee.rws l h F⟩
abbrev Y9:Nat:=60
def ie(p q:PV):Bool:=nr p&&nr q&&decide (fA p≤Y9)
def gEq:PV->PV->qC->Rs PV:=fun p q st=>if ie (res st p) (res st q)=true then .ok (.bl (eY (res st p) (res st q))) st else .no
def gNe:PV->PV->qC->Rs PV:=fun p q st=>if ie (res st p) (res st q)=true then .ok (.bl (!eY (res st p) (res st q))) st else .no
section
variable{X:Cx}{E:XK}{e a c d:EY}{es:EK EY}{f fa fb fc:FE}{pos:Pos}
def kB(K:EQ)(F:Bool):R2:=fun u v H Q=>∃p q,RW K H p u∧RW K H q v∧fA p≤Y9∧Q (.bl (if F then !eY p q else eY p q)) H
def kZ(M:X.A.units+64<cLine):fy X (compareOp .Eq) (kB X.K false):=by intro Ee s σ H x y v u Q I R L h;obtain⟨p,q,F,Z,hd,h⟩:=h;exact sC I p q (by have:fA p≤60:=hd;omega) F Z R L _ _ _ _ ⟨.bl _,H,I,rfl,h⟩
def zp(M:X.A.units+64<cLine):fy X (compareOp .NotEq) (kB X.K true):=by intro Ee s σ H x y v u Q I R L h;obtain⟨p,q,F,Z,hd,h⟩:=h;exact uk I p q (by have:fA p≤60:=hd;omega) F Z R L _ _ _ _ ⟨.bl _,H,I,rfl,h⟩
def ym{p q:PV}(h:ie p q=true):nr p=true∧nr q=true∧fA p≤Y9:=by unfold ie at h;rw[Ar,Ar]at h;exact⟨h.1.1,h.1.2,BV h.2⟩
def k6:ge X E (kB X.K false) gEq:=by
 intro H b st p q u v Q S Z L P;unfold gEq at P;split at P;rename_i h;obtain⟨Y,U,F⟩:=ym h;exact⟨_,_,Zw S Z Y,Zw S L U,F,ed.here P S Wz⟩;exact P.elim
def yB:ge X E (kB X.K true) gNe:=by
 intro H b st p q u v Q S Z L P;unfold gNe at P;split at P;rename_i h;obtain⟨Y,U,F⟩:=ym h;exact⟨_,_,Zw S Z Y,Zw S L U,F,ed.here P S Wz⟩;exact P.elim
def kJ(M:X.A.units+64<cLine)(F:VE X E a fa)(hb:VE X E c fb):VE X E (.Compare a [.Eq] [c] pos) (qK gEq fa fb):=l3 (kZ M) k6 F hb
end
end EV
end
section
namespace EV
open PySem PySem.Spec PyProof.Rows L2 EX
section
variable{X:Cx}{E:XK}{e a c d:EY}{es:EK EY}{f fa fb fc:FE}{pos:Pos}{F G:FS}
def yW(C:EN)(t:FA):FS:=fun r st=>match t r st with| .ok ps s=>if ps.length≤sizeLine then .ex ⟨C,[]⟩ s else .no| .ex x s=>.ex x s| .no=>.no
def JZ{x:Str}{C:EN}{t:FA}{I L:Pos}(F:Rz X E)(U:X.calm=true)(Y:Gl X x)(hm:X.mg x=some (.ref C))(q:W.excIn X.K C gD "ValueError.__new__" = true)(ha:VA X E (e::es) t)(Z:(x==("__debug__":Str))=false:=by decide)
  (he:starEach (e::es) X.env=(false,eval e X.env)::starEach es X.env:=by rfl) (Ep:(backTo L (starEach es X.env)).any (·.1)=false:=by rfl):VS X E (.Raise (some (.Call (.Name x I) (e::es) [] L)) none pos) (yW C t) :=
 PS.imp (sQ F U Y hm q ha Z he Ep) fun D s H ⟨b,r,st,S,R,P⟩=>⟨b,r,st,S,R,by
  unfold yW at P;cases M:t r st with
  |no=>rw[M]at P;exact P.elim
  |ex x s1=>rw[M]at P;exact P
  |ok ps s1 =>
   rw[M]at P;dsimp only at P;by_cases hl:ps.length≤sizeLine;rw[AC hl]at P;exact fun vs H' b' e' S' r'=>⟨by rw[←r'.length];exact hl,P (.ref C) none H' b' e' S' ⟨rfl,.inl ⟨rfl,rfl⟩⟩⟩;rw[AF hl]at P;exact P.elim⟩
def eI.lose{K:EQ}{H:Hp}{b:Bz}{r:qz}{s:L2.St}(h:eI K H b r s)(i:Nat):eI K H b (r.set i none) (s.set i none):=by
 refine⟨by simp[h.1],fun j q Z=>?_⟩;by_cases F:i=j
 ·subst F;by_cases hl:i<r.length;rw[BB hl]at Z;cases Z;rw[List.getElem?_eq_none (by simpa using hl)]at Z;cases Z
 ·rw[BQ F]at Z ⊢;exact h.2 j q Z
def iU(i n:Nat)(cs:EK EN)(I Z:FS):FS:=fun r st=>match I r st with
 | .ex x s=>if x.cls∈cs then (match Z ((List.replicate n none).set i (some (.exc x.cls x.fs))) s with
  | .nx U L=>.nx (U.set i none) L
  | .bk U L=>.bk (U.set i none) L
  | .ct U L=>.ct (U.set i none) L
  | .rt v L=>.rt v L
  | .ex _ _=>.no
  | .no=>.no) else .no
 |o=>o
def vx{x n:Str}{Bx:EN}{dd:EO EN}{cd:ClassData}{sl:EZ (EO EL)}{Y:EK Stmt}{b0:Stmt}{I:EK Stmt}{np a0:Pos}{cs:EK EN}{Fb Fh:FS}(i:Nat)(FX:gO X)(hc:X.calm=true)(hN:X.N.Nodup)
  (hg:Gl X x) (hm:X.mg x=some (.ref Bx)) (o1:X.K.lookup Bx=some ⟨.type "type",dd,.cls cd,sl⟩) (m1:W.mroIn X.K Bx (.type "BaseException")=some true) (a3:∀C∈cs,W.mroIn X.K C (.ref Bx)=some true)
  (hb:∀(Ee:EK (EN×Obj)) (xe:EL->EM->Prop) (E':XK),Ws (fu X.prog X.w) (Jj X Ee xe) E'->gM (Jj X Ee xe) E' Y Fb) (hh:∀ea,gM (iE X ea) E0 (b0::I) Fh)
  (hi:X.N[i]? = some n:=by rfl) (hl:X.env.scope.names.lookup n=some .local:=by rfl) (a4:(x==("__debug__":Str))=false:=by decide) :
  VS X E (.Try Y [.ExceptHandler (some (.Name x np)) (some n) (b0::I) a0] [] [] pos) (iU i X.N.length cs Fb Fh):=by
 refine PS.imp (sj (ok:=fun v=>∃C∈cs,v= .ref C) (tb:=fun E'=>i7 X.K E' Fb) (th:=i7 X.K E0 Fh) FX hc hN hi hl hg hm o1 m1 (fun v ⟨C,hC,e⟩=>⟨C,e,a3 C hC⟩) hb hh a4) fun D σ H ⟨b,r,st,S,R,P⟩=>⟨b,r,st,S,R,?_⟩;unfold iU at P;cases eb:Fb r st with
 |nx r' U=>rw[eb]at P;exact P
 |rt r' U=>rw[eb]at P;exact P
 |bk r' U=>rw[eb]at P;exact P
 |ct r' U=>rw[eb]at P;exact P
 |no=>rw[eb]at P;exact P
 |ex x s1 =>
  rw[eb]at P;dsimp only at P;by_cases hx:x.cls∈cs
  ·rw[AC hx]at P;intro c d H' b' e' S' rx;obtain⟨rc,rf⟩:=rx;refine⟨⟨x.cls,hx,rc⟩,fun σ' ea oe F hn a1 M Z=>⟨b',(List.replicate X.N.length none).set i (some (.exc x.cls x.fs)),s1,S'.new hn,⟨by simp[F],fun j p hp=>?_⟩,?_⟩⟩
   ·by_cases hj:i=j
    ·subst hj;have a2:i<X.N.length:=(Ag.mp hi).1;rw[BB (by simpa using a2)]at hp;cases hp;refine⟨.ref ea,by rw[BB (by rw[F];exact a2)],?_⟩;unfold RV;refine⟨ea,oe,_,rfl,QN,S'.new_notin hn,a1.trans rc,Z,rf.imp (fun q=>⟨q.1,M.trans q.2⟩) fun⟨a,q1,q2,q3⟩=>⟨a,M.trans q1,by rw[qP (qN q2 hn)];exact q2,q3⟩⟩
    ·rw[BQ hj,CB]at hp;split at hp <;> cases hp
   ·have L:=eD.ext P (e'.trans (eE.new (o:=.frz oe iQ) hn));cases eh:Fh ((List.replicate X.N.length none).set i (some (.exc x.cls x.fs))) s1 with|nx r' U=>rw[eh]at L;exact fun s2 H2 b2 e2 S2 R2=>L _ H2 b2 e2 S2 (R2.lose i)|bk r' U=>rw[eh]at L;exact fun s2 H2 b2 e2 S2 R2=>L _ H2 b2 e2 S2 (R2.lose i)|ct r' U=>rw[eh]at L;exact fun s2 H2 b2 e2 S2 R2=>L _ H2 b2 e2 S2 (R2.lose i)|rt v U=>rw[eh]at L;exact L|ex y U=>rw[eh]at L;exact L.elim|no=>rw[eh]at L;exact L.elim
  ·rw[AF hx]at P;exact P.elim
def hZ:PV->EO EL| .non=>some (.type "NoneType")| .bl _=>some (.type "bool")| .int _=>some (.type "int")| .str _=>some (.type "str")| .tup _=>some (.type "tuple")| .lst _=>some (.type "list")| .ref _=>some (.type "list")| .dct=>some (.type "dict")| .exc c _=>some (.ref c)|_=>none
def i4:PV->EO EL| .ty n=>some (.type n)| .fn a=>some (.ref a)|_=>none
def ir(kit:EL->EL->EO Bool)(p c:PV):EO Bool:=match hZ p,i4 c with|some t,some c=>kit t c|_,_=>none
def JM(kit:EL->EL->EO Bool)(p:PV):EK PV->EO Bool
 |[]=>some false
 |c::r=>match ir kit p c with|some true=>some true|some false=>JM kit p r|none=>none
def mx(kit:EL->EL->EO Bool)(p:PV):PV->EO Bool| .tup cs=>if (hZ p).isSome then JM kit p cs else none|c=>ir kit p c
structure f6 (K:W.Frag) (kit:Value->Value->Option Bool):Prop where
 one:∀t c b,kit t c=some b->W.kitOne K t c=some b
 exc:∀a c b,kit (.ref a) c=some b->gK K a
end
end EV
end
section
namespace EX
open PySem PySem.Spec PyProof.Rows L2
def D1{X:Cx}{Ee:EK (EN×Obj)}{σ:L2.St}{H:Hp}{s:EM}(I:L2.Inv X Ee σ H s){fp:EK EN}(F:∀b∈fp,ZP X Ee H b){h':Heap}{t':Nat}{x y:V}{u v:EL}(U:RelV x u)(L:RelV y v)
  (k:∀b o,b∉fp->s.heap.get? b=some o->h'.get? b=some o) (kf:∀b∈fp,∃o,h'.get? b=some o) (R:IsPair h' s.heap.objs.size u v):L2.Inv X Ee σ (eN H s.heap.objs.size (.tup [x,y])) { s with heap:=h',toks:=t' }:=by
 have Y:H s.heap.objs.size=none:=I.hok.fresh (AN _);have M:∀b o,s.heap.get? b=some o->b≠s.heap.objs.size:=fun b o e=>AV (AK e);have Z:∀b u,H b=some u->b∉fp:=fun b u e z=>by rw[(F b z).1]at e;cases e
 have un:Un (fx X.stack) fp H (eN H s.heap.objs.size (.tup [x,y])) s.heap h' :=
  ⟨fun b o e _ _ hb=>k b o hb e,fun b o e _ _ hb=>⟨o.slots,k b o hb e⟩,fun b o e n _=>by rw[qP (M b o e)];exact n,fun b o e hb=>⟨o,k b o hb e⟩,fun b xs e=>by rw[qP (qN e Y)];exact e,fun b o u e=>by rw[qP (qN e Y)];exact e,fun b ps e=>⟨#[],by rw[qP (qN e Y),e];simp⟩⟩
 refine I.call (g':=s.gens) (d':=s.drawn) (t':=t') (ch:=fp) un (fun b u' e=>?_) I.bare fun b hb=>⟨(F b hb).2.2.2.1,(F b hb).2.1,(F b hb).2.2.2.2.1,(F b hb).2.2.2.2.2⟩;by_cases hb:b=s.heap.objs.size;subst hb;rw[QN]at e;cases e;exact⟨by show 2≤sizeLine;decide,[u,v],.cons U (.cons L .nil),⟨_,R,rfl,0,rfl⟩,_,R,rfl⟩
 ·rw[qP hb]at e;refine (I.hok b u' e).stay (fun c w hc q=>k c w ?_ q) (fun c q=>by rw[qP (qN q Y)];exact q) fun c xs q=>by rw[qP (qN q Y)];exact q
  rcases hc with rfl|hc
  ·exact Z _ _ e
  ·exact Z _ _ hc
section
variable{X:Cx}
def uL(K:EQ):R2:=fun x y H Q=>∃l b xs R,x= .ref l∧y= .ref b∧fm K H l xs∧fm K H b R∧xs.length+R.length≤sizeLine∧∀p,H p=none->Q (.ref p) (eN H p (.lst (xs++R)))
theorem pF:fy X (binaryOp .Add) (uL X.K):=by
 intro Ee s σ H x y v u Q I rx ry h;obtain⟨l,b,xs,zs,rfl,rfl,h1,h2,M,q⟩:=h;cases rx;cases ry;obtain⟨us,L,p1,_⟩:=I.list h1;obtain⟨ws,r2,p2,_⟩:=I.list h2;obtain⟨⟨c1,d1,a1,s1⟩,o1,Z,m1,Y⟩:=id p1.isList;obtain⟨⟨c2,d2,a2,s2⟩,o2,R,m2,U⟩:=id p2.isList;have Z:c1=_:=Z;have R:c2=_:=R;have Y:a1=_:=Y;have U:a2=_:=U;subst Z;subst R;subst Y;subst U;have z:us.length+ws.length≤sizeLine:=by rw[←L.length,←r2.length];exact M
 refine concat_meets ⟨_,o1,rfl⟩ ⟨_,o2,rfl⟩ noFill_list_add seq_list_add F.slot_list_add F.entry_list_add (F.args_list_add_2 _ _) (list_addW l b us.toArray ws.toArray m1 m2 d1 d2 s1 s2 (by simpa using z)) ⟨o1,o2,?_⟩;rw[show us.toArray++ws.toArray=(us++ws).toArray by simp];exact⟨.ref _,_,I.lnew (t':=s.toks) (L.append r2) (by rw[Ac];exact M),rfl,q _ I.fresh⟩
def tQ(K:EQ):R2:=fun x y H Q=>∃a b xs M,x= .ref a∧y= .ref b∧fC K H a xs∧fC K H b M∧xs.length+M.length≤sizeLine ∧
 (xs=[]->Q (.ref b) H)∧(xs≠[]->M=[]->Q (.ref a) H)∧(xs≠[]->M≠[]->∀p,H p=none->Q (.ref p) (eN H p (.tup (xs++M))))
theorem rk:fy X (binaryOp .Add) (tQ X.K):=by
 intro Ee s σ H x y v u Q I L q h;obtain⟨a,b,xs,ys,rfl,rfl,ha,hb,hz,q0,q1,q2⟩:=h;by_cases M:xs=[];cases L;cases q;obtain⟨us,r1,p1,_⟩:=I.tuple ha;obtain⟨ws,r2,p2,_⟩:=I.tuple hb;obtain⟨⟨c1,d1,a1,s1⟩,o1,Z,m1,Y⟩:=id p1;obtain⟨⟨c2,d2,a2,s2⟩,o2,R,m2,U⟩:=id p2;have Z:c1=_:=Z;have R:c2=_:=R;have Y:a1=_:=Y;have U:a2=_:=U;subst Z;subst R;subst Y;subst U;exact concat_meets ⟨_,o1,rfl⟩ ⟨_,o2,rfl⟩ noFill_tuple_add seq_tuple_add F.slot_tuple_add F.entry_tuple_add (F.args_tuple_add_2 _ _) (tuple_addW0 a b us.toArray ws.toArray m1 m2 d1 d2 s1 s2 (by simp[r1.nil_iff.mpr M])) ⟨o1,o2,.ref b,H,I,rfl,q0 M⟩;exact vN Ee s σ H _ _ v u Q I L q ⟨a,b,xs,ys,rfl,rfl,ha,hb,M,hz,q1 M,q2 M⟩
def uf(K:EQ):V->EO Int->EO Int->Hp->VK->Prop:=fun x lo hi H Q=>∃a xs,x= .ref a∧fC K H a xs∧HT.sIx xs.length 0 lo=0∧HT.sIx xs.length xs.length hi=xs.length∧Q (.ref a) H
def pD:ij X (uf X.K):=by
 intro Ee s σ H x v vl vu lo hi sl Q I U hs pl Z h;obtain⟨a,xs,rfl,hx,w1,w2,q⟩:=h;cases U;obtain⟨Eg,r,L,hz⟩:=I.tuple hx;have F:Eg.toArray.size=xs.length:=by rw[AR];exact r.length.symm
 refine⟨"tuple",_,PyProof.Rows.slot_tuple_getitem.lookup,L.typeIs,?_⟩;obtain⟨os,R,Y,a0⟩:=id hs;have M:s.TypeIs (.ref sl) "slice" :=⟨os,R,Y⟩;unfold getItem;try with_reducible refine Ay ?_
 first|refine AA (AB ?_)|skip
 refine AA (wpAny_sequenceKey L.typeIs (by decide) ?_);refine AA (A6 (name:=Str.ofString "__getitem__") L.typeIs B4 (BA B4 L.typeIs PyProof.Rows.entry_tuple_getitem ?_ (PyProof.Rows.args_tuple_getitem _ _)));show wpAny _ _ (Builtin.Tuple.tupleItemsOf (.ref a) >>= _) _ _ s;refine AA (tupleItemsOf_ L ?_);refine AA (CU M ?_);rw[AC (by decide)];refine AA (HT.sliceApplied_gen hs pl Z ?_);rw[F,w1,w2];dsimp only;rw[AC (show ((((0:Nat):Int)==0&&(1:Int)==1&&xs.length-0==xs.length)=true) by simp)];unfold Builtin.Tuple.tupleIsExact;refine AA (AA (CU L.typeIs (AB ?_)));rw[AC (by simp)];exact AA (BM (AB ⟨_,rfl,AB ⟨.ref a,H,I,rfl,q⟩⟩))
def PJ(X:Cx)(es:EK EY)(t:Str->L2.St->Hp->(Str->Hp->Prop)->Prop):Prop:=∀(out:Str) (Ee:EK (EN×Obj)) (s:EM) (σ:L2.St) (H:Hp) (Q:Str->Hp->Prop),L2.Inv X Ee σ H s->t out σ H Q ->
 wpAny (model X.prog X.w) X.A (joinParts out (evalEach es X.env)) (fun u L=>∃x H',L2.Inv X Ee σ H' L∧(∃t,u= .str x t)∧Q x H') X.xe s
def vI:PJ X [] (fun out _ H Q=>out.length≤sizeLine∧Q out H):=fun out Ee s σ H Q I h=>joinParts_nil ⟨out,H,I.tok _,⟨_,rfl⟩,h.2⟩ h.1
def vQ{e:EY}{es:EK EY}{R:TE}{t:Str->L2.St->Hp->(Str->Hp->Prop)->Prop}(Y:PE X e R)(U:PJ X es t):PJ X (e::es) (fun out σ H Q=>R σ H fun v H1=>∃y,v= .str y∧(out++y).length≤sizeLine∧t (out++y) σ H1 Q) :=
 fun out Ee s σ H Q I h=>joinParts_cons (eK (Y Ee s σ H _ I h) fun u s1 ⟨v,H1,L,M,y,e,z,q⟩=>by
  subst e;obtain⟨Z,rfl⟩:=M;exact⟨z,U (out++y) Ee s1 σ H1 Q L q⟩)
def xg{e:EY}{R:TE}{pos:Pos}(h:PE X e R):PE X (.FormattedValue e (-1) none pos) (fun σ H Q=>R σ H fun v H1=>∃i,v= .int i∧i.natAbs.log2<1920∧Q (.str (toString i)) H1) :=
 fun Ee s σ H Q I q=>FormattedValue_plain (eK (h Ee s σ H _ I q) fun u s1 ⟨v,H1,L,Y,i,e,z,q⟩=>by
  subst e;obtain⟨M,rfl⟩:=Y;exact wpAny_formatField_int z ⟨.str _,H1,L.tok _,⟨_,rfl⟩,q⟩)
def pA{Z R:EY}{es:EK EY}{t:Str->L2.St->Hp->(Str->Hp->Prop)->Prop}{pos:Pos}(h:PJ X (Z::R::es) t):PE X (.JoinedStr (Z::R::es) pos) (fun σ H Q=>t Str.empty σ H fun x H1=>Q (.str x) H1) :=
 fun Ee s σ H Q I q=>JoinedStr_many (eK (h Str.empty Ee s σ H _ I q) fun u s1 ⟨x,H1,L,Y,F⟩=>⟨.str x,H1,L,Y,F⟩)
def v3{CX:CXT}{E:XK}{f:EY}{tf:TE}{e:EY}{es:EK EY}{t:TA}{pos:Pos}{fs:EK (EN×Sp)}(M:Ws CX X E)(Z:∀p∈fs,∃k fd ps,fM X.prog X.w X.K X.mg X.base CX k p.1 fd ps p.2∧eW k X.A∧W.keepIn X.K (.ref p.1)=true∧Binds X.K fd ps [])
  (F:PE X f tf) (R:PA X (e::es) t) (hc:eval (.Call f (e::es) [] pos) X.env=(do callWith pos (←eval f X.env) [] (backTo pos (starEach (e::es) X.env)) (backToKw pos (keywordEach [] X.env))):=by rfl) (he:starEach (e::es) X.env=(false,eval e X.env)::starEach es X.env:=by rfl) (Ep:(backTo pos (starEach es X.env)).any (·.1)=false:=by rfl) :
  PE X (.Call f (e::es) [] pos) (fun σ H Q=>tf σ H fun v H1=>∃a sp,v= .ref a∧(a,sp)∈fs∧t σ H1 fun vs Y=>sp vs Y Q E):=by intro Ee s σ H Q I h;refine Call_ (eK (F Ee s σ H _ I h) fun u s1 ⟨v,H1,L,r1,a,sp,e1,hm,q⟩=>?_) hc;subst e1;cases r1;obtain⟨k,fd,ps,Fk,hr,hk,hb⟩:=Z (a,sp) hm;refine W.callWith_K (h₀:=X.base) L.ok.mod.kin hk (eK (R pos Ee s1 σ H1 _ L q) fun us s2 ⟨vs,Y,U,r2,q2⟩=>⟨U.kIn,?_⟩) he Ep;exact mT Fk hr hb .nil M U r2 (by rw[BW];exact q2)
end
end EX
end
section
namespace EV
open PySem PySem.Spec PyProof.Rows L2 EX
section
variable{X:Cx}{E:XK}{e a c d:EY}{es:EK EY}{f fa fb fc:FE}{pos:Pos}{F G:FS}
def Wy{x:Str}{n:String}{pos:Pos}(I:Gl X x)(M:X.mg x=none)(L:bootBuiltins x=some (.type n))(Y:x ≠ "__name__" :=by decide)(hd:(x==("__debug__":Str))=false:=by decide):VE X E (.Name x pos) (vC (.ty n)) :=
 il (Dx (v:=.ty n) I M L rfl Y hd) fun _ _=>by unfold RV;rfl
def Wx{x:Str}{a:EN}{pos:Pos}(I:Gl X x)(M:X.mg x=some (.ref a))(hd:(x==("__debug__":Str))=false:=by decide):VE X E (.Name x pos) (vC (.fn a)) :=
 il (oO (v:=.ref a) I M rfl hd) fun _ _=>by unfold RV;rfl
def lk(st:qC):PV->Bool
 | .ref i=>match st[i]? with|some (.l _)=>true|_=>false
 |_=>true
def n9{kit:EL->EL->EO Bool}(hk:f6 X.K kit){Ee:EK (EN×Obj)}{σ:L2.St}{H:Hp}{s:EM}(I:L2.Inv X Ee σ H s){b:Bz}{st:qC}(S:SR X.K H b st){p:PV}{v:V}{u t:EL}(r:RV X.K H b p v)(R:RelV v u)(Y:hZ p=some t)(L:lk st p=true)(F:∀a,t= .ref a->gK X.K a) :
  ∃Hh,W.KitX X.K u t Hh∧Hh s.heap∧u≠ .builtin "__main__.__loader__#opaque" :=by
 cases p with
 |non=>unfold RV at r;subst r;cases Y;cases (show u=Value.none from R);exact⟨_,W.kitx_none,trivial,fun z=>nomatch z⟩
 |bl x=>unfold RV at r;subst r;cases Y;cases (show u=Value.bool x from R);exact⟨_,W.kitx_bool,trivial,fun z=>nomatch z⟩
 |int x=>unfold RV at r;subst r;cases Y;obtain⟨t,rfl⟩:=(show ∃t,u=Value.int x t from R);exact⟨_,W.kitx_int,trivial,fun z=>nomatch z⟩
 |str x=>unfold RV at r;subst r;cases Y;obtain⟨t,rfl⟩:=(show ∃t,u=Value.str x t from R);exact⟨_,W.kitx_str,trivial,fun z=>nomatch z⟩
 |tup l=>unfold RV at r;obtain⟨a,xs,rfl,U,Z⟩:=r;cases Y;cases (show u=Value.ref a from R);obtain⟨Eg,_,⟨o,q,M,_⟩,_⟩:=I.tuple U.sq;exact⟨_,W.kitx_tuple,⟨o,q,M⟩,fun z=>nomatch z⟩
 |lst l=>unfold RV at r;obtain⟨a,xs,rfl,U,Z⟩:=r;cases Y;cases (show u=Value.ref a from R);obtain⟨Eg,_,⟨o,n,q,M,_⟩,_⟩:=I.list U.sq;exact⟨_,W.kitx_list,⟨o,q,M⟩,fun z=>nomatch z⟩
 |ref i =>
  unfold RV at r;obtain⟨a,rfl,U⟩:=r;cases Y;cases (show u=Value.ref a from R);have hl:i<st.length:=by rw[←S.len];exact (Ag.mp U).1
  obtain⟨a',o,Z,q,M⟩:=S.at_ i _ (AE hl);rw[U]at Z;cases Z;have hq:∃vs,o= .lst vs:=by
   cases F:st[i] with|l xs=>rw[F]at M;obtain⟨vs,e,_⟩:=M;exact⟨vs,e⟩|z xs=>unfold lk at L;dsimp only at L;rw[AE hl,F]at L;cases L|k xs=>unfold lk at L;dsimp only at L;rw[AE hl,F]at L;cases L|y xs=>unfold lk at L;dsimp only at L;rw[AE hl,F]at L;cases L|o C xs=>unfold lk at L;dsimp only at L;rw[AE hl,F]at L;cases L|d xs=>unfold lk at L;dsimp only at L;rw[AE hl,F]at L;cases L
  obtain⟨vs,rfl⟩:=hq;obtain⟨Eg,_,⟨o,n,h6,h7,_⟩,_⟩:=I.list (fm.of q);exact⟨_,W.kitx_list,⟨o,h6,h7⟩,fun z=>nomatch z⟩
 |dct=>unfold RV at r;obtain⟨a,rfl,U,Z⟩:=r;cases Y;cases (show u=Value.ref a from R);obtain⟨_,_,vs,_,o,_,_,q,M,_⟩:=(show eT X.prog X.w H s.heap a (.dK []) from I.hok a _ U);exact⟨_,W.kitx_dict,⟨o,q,M.1⟩,fun z=>nomatch z⟩
 |exc c fs =>
  unfold RV at r;obtain⟨a,o,w,rfl,U,Z,q,⟨vs,h6⟩,M⟩:=r;cases Y;cases (show u=Value.ref a from R);have ho:s.heap.get? a=some o:=(I.hok a _ U).1;have hn:W.notCls o=true:=by obtain⟨c',d',dt,sl⟩:=o;have h6:dt=_:=h6;subst h6;rfl
  refine⟨_,ul (F c rfl),?_,fun z=>nomatch z⟩;rcases M with⟨_,M⟩|⟨d,M,h7,h8⟩
  ·exact⟨o,none,ho,q,hn,by rw[M];trivial⟩
  ·obtain⟨od,h9⟩:=nH (I.hok d _ h7);exact⟨o,some od,ho,q,hn,by rw[M];exact h9⟩
 |ty n=>cases Y
 |fn n=>cases Y
def nt{K:EQ}{H:Hp}{b:Bz}{c:PV}{v:V}{u t:EL}(r:RV K H b c v)(R:RelV v u)(L:i4 c=some t):u=t:=by
 cases c with|ty n=>unfold RV at r;subst r;cases L;exact R|fn a=>unfold RV at r;subst r;cases L;exact R|_=>cases L
def JG{kit:EL->EL->EO Bool}(R:f6 X.K kit){H:Hp}{b:Bz}{p:PV}{t:EL}(L:hZ p=some t):∀{cs:EK PV} {xs:EK V} {us:EK EL} {k:Bool},ee X.K H b cs xs->ei xs us->JM kit p cs=some k->W.kitAny X.K t us=some k
 |[],_,_,k,h,r,e=>by unfold ee at h;subst h;cases r;exact e
 |c::cs,_,_,k,h,r,e=>by
  unfold ee at h;obtain⟨x,xs,rfl,Y,Z⟩:=h;cases r with
  | @cons _ u _ us I F =>
   unfold JM ir at e;rw[L]at e;cases U:i4 c with
   |none=>rw[U]at e;cases e
   |some c' =>
    rw[U]at e;have M:=nt Y I U;subst M;dsimp only at e;unfold W.kitAny;cases q:kit t u with
    |none=>rw[q]at e;cases e
    |some bb =>
     rw[q]at e;rw[R.one _ _ _ q];cases bb with|true=>exact e|false=>exact JG R L Z F e
def sJ{kit:EL->EL->EO Bool}(R:f6 X.K kit){p:PV}{t:EL}(L:hZ p=some t):∀{cs:EK PV} {k:Bool},cs≠[]->JM kit p cs=some k->∀a,t= .ref a->gK X.K a
 |[],_,h,_,_,_=>absurd rfl h
 |c::cs,k,_,e,a,F=>by
  unfold JM ir at e;rw[L]at e;cases U:i4 c with
  |none=>rw[U]at e;cases e
  |some Z =>
   rw[U]at e;dsimp only at e;cases q:kit t Z with|none=>rw[q]at e;cases e|some M=>subst F;exact R.exc _ _ _ q
def rD{kit:EL->EL->EO Bool}(F:f6 X.K kit):W5 X (.builtin "isinstance") (fun vs H Q=>∃b st p c k,SR X.K H b st∧ee X.K H b [p,c] vs∧(∀cs,c= .tup cs->cs≠[])∧lk st p=true∧mx kit p c=some k∧Q (.bl k) H):=by
 intro Ee s σ H xs us Q I r h;obtain⟨b,st,p,c,k,S,rs,Y,U,e,q⟩:=h;obtain⟨x,y,rfl,r1,M⟩:=ee.two rs;obtain⟨u,v,rfl,ru,rv⟩:=Zh r;by_cases hc:∃cs,c= .tup cs
 ·obtain⟨cs,rfl⟩:=hc;have e:(if (hZ p).isSome then JM kit p cs else none)=some k:=e;cases L:hZ p with|none=>rw[L]at e;cases e|some t=>rw[L]at e;have e:JM kit p cs=some k:=e;obtain⟨Hh,Z,hh,hx⟩:=n9 F I S r1 ru L U (sJ F L (Y cs rfl) e);unfold RV at M;obtain⟨a,ys,rfl,h2,h3⟩:=M;cases (show v=Value.ref a from rv);obtain⟨Eg,r',⟨o,h4,h5,n,h6⟩,_⟩:=I.tuple h2.sq;obtain⟨c1,d1,dt,sl⟩:=o;have h5:c1=_:=h5;have h6:dt=_:=h6;subst h5;subst h6;exact W.kia_tup Z I.kIn hh h4 (JG F L h3 r' e) hx fun tk=>⟨.bl k,H,I.tok _,rfl,q⟩
 ·have e:ir kit p c=some k:=by cases c <;> first|exact e|exact (hc ⟨_,rfl⟩).elim
  unfold ir at e;cases L:hZ p with
  |none=>rw[L]at e;cases e
  |some t =>
   cases R:i4 c with
   |none=>rw[L,R]at e;cases e
   |some c' =>
    rw[L,R]at e;have eu:=nt M rv R;subst eu;obtain⟨Hh,Z,hh,hx⟩:=n9 F I S r1 ru L U (fun a ha=>by subst ha;exact F.exc _ _ _ e);exact W.kia_one Z I.kIn hh (F.one _ _ _ e) hx fun tk=>⟨.bl k,H,I.tok _,rfl,q⟩
def QX(kit:EL->EL->EO Bool):EK PV->qC->Rs PV:=fun ps st=>match ps with
 |[p,c]=>match c with
  | .tup []=>.no
  |c=>match mx kit p c with|some b=>if lk st p=true then .ok (.bl b) st else .no|none=>.no
 |_=>.no
def QS{kit:EL->EL->EO Bool}{U:FA}{p:Pos}(R:f6 X.K kit)(M:X.mg "isinstance" = none)(F:VA X E (e::es) U)(I:Gl X "isinstance" :=by rfl)
  (he:starEach (e::es) X.env=(false,eval e X.env)::starEach es X.env:=by rfl) (Ep:(backTo pos (starEach es X.env)).any (·.1)=false:=by rfl):VE X E (.Call (.Name "isinstance" p) (e::es) [] pos) (qI (QX kit) U) :=
 W3 (rD R) (fun H b st ps vs Q S r P=>by
  unfold QX at P;split at P
  ·rename_i p c;split at P;exact P.elim
   ·rename_i q;split at P
    ·rename_i k Z;split at P;rename_i L;exact⟨b,st,p,c,k,S,r,fun cs e z=>by subst e;subst z;exact q rfl,L,Z,ed.here P S Wz⟩;exact P.elim
    ·exact P.elim
  ·exact P.elim) I M PyProof.Rows.boot_isinstance F (he:=he) (Ep:=Ep)
end
def iN:PV->EO Bool| .bl b=>some b|_=>none
def YY:PV->EO Int| .int i=>some i|_=>none
def Q2{α:Type}(f:PV->EO α):EK PV->EO (EK α)
 |[]=>some []
 |p::ps=>match f p with
  |some a=>match Q2 f ps with|some r=>some (a::r)|none=>none
  |none=>none
section
variable{X:Cx}{E:XK}{e a c d:EY}{es:EK EY}{f fa fb fc:FE}{pos:Pos}{F G:FS}
def nT{K:EQ}{H:Hp}{b:Bz}:∀{l:EK PV} {xs:EK V} {bs:EK Bool},ee K H b l xs->Q2 iN l=some bs->xs=bs.map V.bl
 |[],_,_,h,e=>by unfold ee at h;subst h;cases e;rfl
 |p::ps,_,bs,h,e=>by
  unfold ee at h;obtain⟨x,r,rfl,Y,U⟩:=h;unfold Q2 at e;cases p with
  |bl k =>
   unfold RV at Y;subst Y;cases q:Q2 iN ps with|none=>rw[q]at e;cases e|some F=>rw[q]at e;cases e;rw[nT U q];rfl
  |_=>cases e
def yV{K:EQ}{H:Hp}{b:Bz}:∀{l:EK PV} {xs:EK V} {bs:EK Int},ee K H b l xs->Q2 YY l=some bs->xs=bs.map V.int
 |[],_,_,h,e=>by unfold ee at h;subst h;cases e;rfl
 |p::ps,_,bs,h,e=>by
  unfold ee at h;obtain⟨x,r,rfl,Y,U⟩:=h;unfold Q2 at e;cases p with
  |int k =>
   unfold RV at Y;subst Y;cases q:Q2 YY ps with|none=>rw[q]at e;cases e|some F=>rw[q]at e;cases e;rw[yV U q];rfl
  |_=>cases e
def Yn{α:Type}(k:PV->EO α)(g:EK α->PV):EK PV->qC->Rs PV:=fun ps st=>match ps with
 |[p]=>match fJ st p with
  |some l=>match Q2 k l with|some r=>.ok (g r) st|none=>.no
  |none=>.no
 |_=>.no
def Z2:=Yn iN fun bs=>.bl (bs.all id)
def YH:=Yn YY fun F=>.int F.sum
def pR:Za X E (fun xs H Q=>∃(p:EN) (bs:EK Bool),xs=[.ref p]∧fm X.K H p (bs.map V.bl)∧Q (.bl (bs.all id)) H) Z2:=by
 intro H b st ps vs Q S r P;unfold Z2 Yn at P;split at P
 ·obtain⟨v,rfl,Y⟩:=ee.one r;split at P
  ·rename_i l e;split at P;rename_i bs q;obtain⟨a,xs,rfl,U,F⟩:=Q6 S Y e;rw[nT F q]at U;exact⟨a,bs,rfl,U,ed.here P S Wz⟩;exact P.elim
  ·exact P.elim
 ·exact P.elim
def uK:Za X E (fun xs H Q=>∃(p:EN) (ns:EK Int),xs=[.ref p]∧fm X.K H p (ns.map V.int)∧Q (.int ns.sum) H) YH:=by
 intro H b st ps vs Q S r P;unfold YH Yn at P;split at P
 ·obtain⟨v,rfl,Y⟩:=ee.one r;split at P
  ·rename_i l e;split at P;rename_i bs q;obtain⟨a,xs,rfl,U,F⟩:=Q6 S Y e;rw[yV F q]at U;exact⟨a,bs,rfl,U,ed.here P S Q0⟩;exact P.elim
  ·exact P.elim
 ·exact P.elim
section
variable{ta:FA}{p:Pos}(ha:VA X E (e::es) ta)
include ha
def jW(M:X.mg "all" = none)(I:Gl X "all" :=by rfl)(he:starEach (e::es) X.env=(false,eval e X.env)::starEach es X.env:=by rfl)(Ep:(backTo pos (starEach es X.env)).any (·.1)=false:=by rfl):VE X E (.Call (.Name "all" p) (e::es) [] pos) (qI Z2 ta) :=
 W3 su pR I M Boot.«all» ha (he:=he) (Ep:=Ep)
def lM(M:X.mg "sum" = none)(I:Gl X "sum" :=by rfl)(he:starEach (e::es) X.env=(false,eval e X.env)::starEach es X.env:=by rfl)(Ep:(backTo pos (starEach es X.env)).any (·.1)=false:=by rfl):VE X E (.Call (.Name "sum" p) (e::es) [] pos) (qI YH ta) :=
 W3 xN uK I M Boot.«sum» ha (he:=he) (Ep:=Ep)
def WO(M:X.mg "len" = none)(I:Gl X "len" :=by rfl)(he:starEach (e::es) X.env=(false,eval e X.env)::starEach es X.env:=by rfl)(Ep:(backTo pos (starEach es X.env)).any (·.1)=false:=by rfl):VE X E (.Call (.Name "len" p) (e::es) [] pos) (qI Wp ta) :=
 W3 jE r6 I M Boot.«len» ha (he:=he) (Ep:=Ep)
def pZ(U:X.calm=true)(M:X.mg "max" = none)(I:Gl X "max" :=by rfl)(he:starEach (e::es) X.env=(false,eval e X.env)::starEach es X.env:=by rfl)(Ep:(backTo pos (starEach es X.env)).any (·.1)=false:=by rfl):VE X E (.Call (.Name "max" p) (e::es) [] pos) (qI qCP ta) :=
 W3 (uT U) uq I M Boot.«max» ha (he:=he) (Ep:=Ep)
def DC(U:X.calm=true)(M:X.mg "min" = none)(I:Gl X "min" :=by rfl)(he:starEach (e::es) X.env=(false,eval e X.env)::starEach es X.env:=by rfl)(Ep:(backTo pos (starEach es X.env)).any (·.1)=false:=by rfl):VE X E (.Call (.Name "min" p) (e::es) [] pos) (qI qDV ta) :=
 W3 (rV U) uP I M Boot.«min» ha (he:=he) (Ep:=Ep)
def rH(M:X.mg "tuple" = none)(I:Gl X "tuple" :=by rfl)(he:starEach (e::es) X.env=(false,eval e X.env)::starEach es X.env:=by rfl)(Ep:(backTo pos (starEach es X.env)).any (·.1)=false:=by rfl):VE X E (.Call (.Name "tuple" p) (e::es) [] pos) (qI Z9 ta) :=
 Ys YX uh I M Boot.«tuple» ha (he:=he) (Ep:=Ep)
def uz(M:X.mg "int" = none)(I:Gl X "int" :=by rfl)(he:starEach (e::es) X.env=(false,eval e X.env)::starEach es X.env:=by rfl)(Ep:(backTo pos (starEach es X.env)).any (·.1)=false:=by rfl):VE X E (.Call (.Name "int" p) (e::es) [] pos) (qI qCy ta) :=
 Ys sH vO I M Boot.«int» ha (he:=he) (Ep:=Ep)
end
def ud{p:Pos}(M:X.mg "list" = none)(F:VE X E e f)(I:Gl X "list" :=by rfl)(he:starEach [e] X.env=(false,eval e X.env)::starEach [] X.env:=by rfl)(Ep:(backTo pos (starEach [] X.env)).any (·.1)=false:=by rfl):VN X E (.Call (.Name "list" p) [e] [] pos) (kM f) :=
 se I M Boot.«list» F he Ep
def ZM(fa fb:FE):FL:=fun r st=>(fa r st).bind fun p s1=>(fb r s1).bind fun q s2=>match fJ s2 p with
 |some l=>match fJ s2 q with|some m=>if l.length+m.length≤sizeLine then .ok (l++m) s2 else .no|none=>.no
 |none=>.no
def ZL(Y:VE X E a fa)(hb:VE X E c fb):VN X E (.BinOp a .Add c pos) (ZM fa fb):=PE.imp (nA pF Y hb) fun s H Q ⟨b,r,st,S,R,P⟩ =>
 ⟨b,r,st,S,R,ed.bindN P fun p s1 u H1 Z U S1 r1 P1=>⟨Z,r,s1,S1,R.ext U,ed.bindN P1 fun q s2 v H2 b2 e2 M r2 L=>by
  split at L
  ·rename_i l el;split at L
   ·rename_i m em;split at L;rename_i hl;obtain⟨x,xs,rfl,h2,F⟩:=Q6 M (RV.ext e2 p r1) el;obtain⟨y,ys,rfl,h4,I⟩:=Q6 M r2 em;exact⟨x,y,xs,ys,rfl,rfl,h2,h4,by rw[←F.length,←I.length];exact hl,fun z hz=>eH.lay L M (F.append I) hz⟩;exact L.elim
   ·exact L.elim
  ·exact L.elim⟩⟩
end
section
variable{X:Cx}{E:XK}{e a c d:EY}{es:EK EY}{f fa fb fc:FE}{fl:FL}{pos:Pos}{F G:FS}
def wf:PV->PV->qC->Rs PV:=fun p q st=>match p,q with| .tup l,.tup m=>if l.length+m.length≤sizeLine then .ok (.tup (l++m)) st else .no|_,_=>.no
def ZE(ha:VE X E a fa)(hb:VE X E c fb):VE X E (.BinOp a .Add c pos) (qK wf fa fb):=Zn rk (fun H b st p q u v Q S Z L P=>by
 unfold wf at P;split at P
 ·rename_i l m;split at P
  ·rename_i hl;have R:=Z;have I:=L;unfold RV at Z L;obtain⟨x,xs,rfl,h2,F⟩:=Z;obtain⟨y,ys,rfl,h4,M⟩:=L;have Y:=F.length;have U:=M.length;refine⟨x,y,xs,ys,rfl,rfl,h2.sq,h4.sq,by rw[←Y,←U];exact hl,fun z=>?_,fun _ z=>?_,fun _ _ w hw=>ed.layT P S (F.append M) hw⟩
   ·have:l=[]:=List.length_eq_zero_iff.mp (by rw[Y,z];rfl)
    subst this;exact ed.here P S I
   ·have:m=[]:=List.length_eq_zero_iff.mp (by rw[U,z];rfl)
    subst this;rw[BW]at P;exact ed.here P S R
  ·exact P.elim
 ·exact P.elim) ha hb
abbrev FO:=qz->qC->Rs (EO Int)
def gh(K:EQ)(E:XK)(H:Hp)(b:Bz)(r:Rs (EO Int))(Q:EO Int->Hp->Prop):Prop:=match r with| .ok k st=>∀H' b',eE H b H' b'->SR K H' b' st->Q k H'| .ex x st=>XP K E H b x st| .no=>False
def xw(K:EQ)(E:XK)(f:FO):TO:=fun s H Q=>∃b r st,SR K H b st∧eI K H b r s∧gh K E H b (f r st) Q
abbrev VO(X:Cx)(E:XK)(e:EO EY)(f:FO):Prop:=PO X e (xw X.K E f)
def jQ:FO:=fun _ st=>.ok none st
def yx(f:FE):FO:=fun r st=>(f r st).bind fun p s=>match p with| .int i=>.ok (some i) s|_=>.no
def jv:VO X E none jQ:=fun Ee s σ H Q I ⟨b,r,st,S,R,P⟩=>vY Ee s σ H Q I (P H b (eE.refl _ _) S)
def jG(h:VE X E e f):VO X E (some e) (yx f):=fun Ee s σ H Q I ⟨b,r,st,S,R,P⟩=>xT h Ee s σ H Q I ⟨b,r,st,S,R,by
 unfold yx at P;cases M:f r st with
 |no=>rw[M]at P;exact P.elim
 |ex x s1=>rw[M]at P;exact P
 |ok p s1 =>
  rw[M]at P;intro v H1 L Z F Y;dsimp only[Rs.bind]at P;split at P;rename_i i;unfold RV at Y;exact⟨i,Y,P H1 L Z F⟩;exact P.elim⟩
def WH(l:EK PV)(lo hi:EO Int):EK PV:=(l.drop (HT.sIx l.length 0 lo)).take (HT.sIx l.length l.length hi-HT.sIx l.length 0 lo)
def kc(f:FE)(lo hi:FO):FE:=fun r st=>(f r st).bind fun p s1=>(lo r s1).bind fun a s2=>(hi r s2).bind fun c R=>match p with| .tup l=>.ok (.tup (WH l a c)) R|_=>.no
def gh.bind{K:EQ}{E:XK}{H:Hp}{b:Bz}{r:Rs (EO Int)}{k:EO Int->qC->Rs PV}{Q:VK}{R:EO Int->Hp->Prop}(P:ed K E H b (r.bind k) Q)
  (h:∀p st H1 L,eE H b H1 L->SR K H1 L st->ed K E H1 L (k p st) Q->R p H1):gh K E H b r R:=by
 cases r with|ok p st=>exact fun H1 L e S=>h p st H1 L e S (ed.ext (show ed K E H b (k p st) Q from P) e)|ex x st=>exact P|no=>exact P
def lJ{lo hi:EO EY}{q I:FO}{p2:Pos}(h:VE X E e f)(hl:VO X E lo q)(hh:VO X E hi I):VE X E (.Subscript e (.Slice lo hi none p2) pos) (kc f q I) :=
 PE.imp (pz (ig.or pD) h hl hh) fun s H Q ⟨b,r,st,S,R,P⟩=>⟨b,r,st,S,R,ed.bind P fun p s1 u H1 b1 Y S1 r1 P1=>⟨b1,r,s1,S1,R.ext Y,gh.bind P1 fun k s2 H2 b2 U S2 P2=>⟨b2,r,s2,S2,(R.ext Y).ext U,gh.bind P2 fun m s3 H3 b3 e3 L P3=>by
  split at P3
  ·rename_i l;have Z:=RV.ext e3 _ (RV.ext U _ r1);have r0:=Z;unfold RV at Z;obtain⟨x,xs,rfl,h2,h3⟩:=Z;have F:=h3.length;by_cases M:HT.sIx xs.length 0 k=0∧HT.sIx xs.length xs.length m=xs.length
   ·refine .inr ⟨x,xs,rfl,h2.sq,M.1,M.2,?_⟩
    have:WH l k m=l:=by unfold WH;rw[F,M.1,M.2,List.drop_zero,Nat.sub_zero,←F,List.take_length]
    rw[this]at P3;exact ed.here P3 L r0
   ·refine .inl ⟨x,xs,rfl,h2.sq,M,fun z hz=>?_⟩;have hc:ee X.K H3 b3 (WH l k m) (iC xs k m):=by unfold WH iC;rw[F];exact (h3.drop _).take _
    exact ed.layT P3 L hc hz
  ·exact P3.elim⟩⟩⟩
def wU(fo f:FE):FS:=fun r st=>(fo r st).bindS fun o s1=>match o with
 | .ref n=>if lk s1 (.ref n)=true then (f r s1).bindS fun p s2=>match s2[n]? with|some (.l xs)=>if xs.length<sizeLine then .nx r (s2.set n (.l (xs++[p]))) else .no|_=>.no else .no
 |_=>.no
def ZI{fo:FE}{o:EY}{Z q:Pos}(ho:VE X E o fo)(h:VE X E e f)(hs:swapsWith (.Call (.Attribute o "append" Z) [e] [] q) none pos.line X.env=pure false:=by rfl)
  (U:attributeBase o "append" X.env (eval o X.env)=eval o X.env:=by rfl)
  (a0:((backTo q (starEach [e] X.env)).all (fun x=> !x.1)&&(backToKw q (keywordEach [] X.env)).all (fun x=>x.1.isSome)&&decide ([e].length+([]:EK Keyword).length+(if ([]:EK Keyword).isEmpty then 0 else 1)<30))=true:=by rfl)
  (Y:(Z.endLine==q.line)=true:=by rfl) (h1:starEach [e] X.env=(false,eval e X.env)::starEach [] X.env:=by rfl) (M:(backTo q (starEach [] X.env)).any (·.1)=false:=by rfl) :
  VS X E (.Expr (.Call (.Attribute o "append" Z) [e] [] q) pos) (wU fo f) :=
 PS.imp (nQ (ng PySem.F.plainAttrs_list PySem.F.slot_list_append PySem.F.type_list_append Yp ho (yQ h jB h1) U a0 Y h1 M) hs) fun D s H ⟨b,r,st,S,R,P⟩=>⟨b,r,st,S,R,ed.bindS P fun o s1 u H1 b1 e1 S1 r1 I=>by
  have a2:∀{n:Nat},o= .ref n->lk s1 (.ref n)=true->lm X.K "list" u H1:=fun {n} ho L=>by
   subst ho;unfold RV at r1;obtain⟨x,rfl,hx⟩:=r1;have hl:n<s1.length:=by rw[←S1.len];exact (Ag.mp hx).1
   obtain⟨a',o',h3,h4,h5⟩:=S1.at_ n _ (AE hl);rw[hx]at h3;cases h3;cases hq:s1[n] with|l xs=>rw[hq]at h5;obtain⟨vs,e,_⟩:=h5;subst e;exact .inl ⟨rfl,vs,fm.of h4⟩|z xs=>unfold lk at L;dsimp only at L;rw[AE hl,hq]at L;cases L|k xs=>unfold lk at L;dsimp only at L;rw[AE hl,hq]at L;cases L|y xs=>unfold lk at L;dsimp only at L;rw[AE hl,hq]at L;cases L|o C xs=>unfold lk at L;dsimp only at L;rw[AE hl,hq]at L;cases L|d xs=>unfold lk at L;dsimp only at L;rw[AE hl,hq]at L;cases L
  cases o with
  |ref n =>
   have I:eD X.K E H1 b1 (if lk s1 (.ref n)=true then ((f r s1).bindS fun p s2=>match s2[n]? with|some (.l xs)=>if xs.length<sizeLine then .nx r (s2.set n (.l (xs++[p]))) else .no|_=>.no) else .no) D:=I;by_cases L:lk s1 (.ref n)=true
   rotate_left
   ·rw[AF L]at I;exact I.elim
   rw[AC L]at I;refine⟨a2 rfl L,b1,r,s1,S1,R.ext e1,?_⟩;cases eb:f r s1 with
   |no=>rw[eb]at I;exact I.elim
   |ex x s2=>rw[eb]at I;exact I
   |ok p s2 =>
    rw[eb]at I;intro v H2 b2 e2 S2 r2;have P2:eD X.K E H1 b1 (match s2[n]? with|some (.l xs)=>if xs.length<sizeLine then .nx r (s2.set n (.l (xs++[p]))) else .no|_=>.no) D:=I;split at P2
    ·rename_i xs ex;split at P2
     ·rename_i hl;have a1:=RV.ext e2 _ r1;unfold RV at a1;obtain⟨x,rfl,hx⟩:=a1;obtain⟨x',o',h1,h2,vs,rfl,h4⟩:=S2.at_ n _ ex;rw[hx]at h1;cases h1;refine⟨x,vs,v,rfl,rfl,h2,by rw[←h4.length];exact hl,?_⟩;have hm:x∈b2.b:=Bh hx;have ew:eE H2 b2 (eN H2 x (.lst (vs++[v]))) b2:=eE.wr hm S2.zb (lc h2);exact P2 s _ b2 (e2.trans ew) (S2.wr (x:=.l (xs++[p])) hx ⟨_,rfl,(ee.ext ew xs h4).append (ee.cons (RV.ext ew p r2) ee.nil)⟩) (((R.ext e1).ext e2).ext ew)
     ·exact P2.elim
    ·exact P2.elim
  |_=>exact I.elim⟩
def iJ(p:PV):EK PV->EO Nat|[]=>none|q::F=>if eY q p=true then some 0 else (iJ p F).map (· + 1)
def Y0(p:PV):∀{l:EK PV} {j:Nat},iJ p l=some j->(∃q,l[j]? = some q∧eY q p=true)∧∀m,m<j->∃q,l[m]? = some q∧eY q p=false
 |[],_,h=>by cases h
 |q::F,j,h=>by
  unfold iJ at h;split at h;rename_i Z;cases h;exact⟨⟨q,rfl,Z⟩,fun m M=>by omega⟩
  ·rename_i Z;cases e:iJ p F with
   |none=>rw[e]at h;cases h
   |some k =>
    rw[e]at h;cases h;obtain⟨⟨I,Y,U⟩,L⟩:=Y0 p e;refine⟨⟨I,by simpa using Y,U⟩,fun m M=>?_⟩;cases m with|zero=>exact⟨q,rfl,by simpa using Z⟩|succ m=>obtain⟨R,h4,h5⟩:=L m (by have M:m+1<k+1:=M;omega);exact⟨R,by simpa using h4,h5⟩
def xM{Ee:EK (EN×Obj)}{σ:L2.St}{H:Hp}{s:EM}(I:L2.Inv X Ee σ H s){A:EW}{p:PV}{u:V}{F:EL}(hp:RW X.K H p u)(ru:RelV u F)(hA:A.units+60<cLine)
  {l:EK PV} {xs:EK V} {Eg:EK EL} (hl:eO X.K H l xs) (vl:ei xs Eg) (hd:eP l≤Y9):∃g:EL->Bool,(∀y∈Eg,SeqAt.EqAt A s y F (g y))∧∀(i:Nat) (q:PV) (y:EL),l[i]? = some q->Eg[i]? = some y->g y=eY q p:=by
 classical
 have Y:∀(q:PV) (x:V) (y:EL),RW X.K H q x->RelV x y->decide (∃q x,RW X.K H q x∧RelV x y∧eY q p=true)=eY q p:=fun q x y h1 h2=>by
  by_cases hb:eY q p=true;rw[hb];exact Af ⟨q,x,h1,h2,hb⟩
  ·rw[show eY q p=false by simpa using hb];refine Ak fun⟨q',x',k1,k2,k3⟩=>hb ?_;have ex:x'=x:=k2.inj h2;subst ex;rw[RW.det I q q' h1 k1];exact k3
 refine⟨fun y=>decide (∃q x,RW X.K H q x∧RelV x y∧eY q p=true),fun y U=>?_,fun i q y Z U=>?_⟩;obtain⟨i,hi⟩:=List.getElem?_of_mem U;obtain⟨x,hx,R⟩:=ei.get2 vl hi;obtain⟨q,Z,L⟩:=eO.get' hl hx;dsimp only;rw[Y q x y L R];exact kI I 60 q p x u y F A (AW (W4 Z) hd) hA L hp R ru;obtain⟨x,hx,R⟩:=ei.get2 vl U;obtain⟨q',M,L⟩:=eO.get' hl hx;rw[Z]at M;cases M;exact Y q x y L R
theorem vG(hr:X.A.units+64<cLine):oz X "list.index" (fun x vs H Q=>∃l xs a p v j,x= .ref a∧vs=[v]∧fm X.K H a xs∧eO X.K H l xs∧RW X.K H p v∧eP l≤Y9∧iJ p l=some j∧Q (.int j) H):=by
 intro Ee s σ H x vs v us Q I rx rv h;obtain⟨l,xs,ad,p,y,j,rfl,rfl,hs,hl,hp,hd,hj,q⟩:=h;cases rx;obtain⟨u,rfl,ru⟩:=rv.one;obtain⟨Eg,U,pl,hz⟩:=I.list hs;obtain⟨⟨c1,d1,a1,s1⟩,M,Z,m1,Y⟩:=id pl.isList;have Z:c1=_:=Z;have Y:a1=_:=Y;subst Z;subst Y;have hA:X.A.in1.units+60<cLine:=by show X.A.units+1+60<cLine;omega
 obtain⟨g,g1,R⟩:=xM I hp ru hA hl U hd;obtain⟨⟨q1,k1,k2⟩,k3⟩:=Y0 p hj;have n1:l.length=Eg.length:=by rw[hl.length,U.length]
 have jl:j<l.length:=(Ag.mp k1).1;have ji:j<Eg.length:=by rw[←n1];exact jl
 refine call_meets F.slot_list_index ⟨_,M,rfl⟩ F.entry_list_index (F.args_list_index_2 _ _) (SeqAt.list_indexAt ad Eg.toArray m1 d1 s1 u g j (by simpa using ji) ?_ ?_ fun m hm L=>?_) ⟨M,fun y hy=>g1 y (by simpa using hy),⟨.int j,H,I.tok _,⟨_,rfl⟩,q⟩⟩
 ·have:Eg.length≤sizeLine:=by rw[←U.length];exact hz
  have h2:(sizeLine:Nat)<2 ^ 62:=by decide
  omega
 ·rw[show Eg.toArray[j]=Eg[j] by simp,R j q1 _ k1 (AE ji)];exact k2
 ·obtain⟨q2,k4,k5⟩:=k3 m L;have mi:m<Eg.length:=by simpa using hm
  rw[show Eg.toArray[m]=Eg[m] by simp,R m q2 _ k4 (AE mi)];exact k5
def l4(fo f:FE):FE:=fun r st=>(fo r st).bind fun o s1=>match fJ s1 o with
 |some _=>(f r s1).bind fun p s2=>match fJ s2 o with|some l=>if gt l=true∧nr p=true∧eP l≤Y9 then (match iJ p l with|some j=>.ok (.int j) s2|none=>.no) else .no|none=>.no
 |none=>.no
def vh{fo:FE}{o:EY}{Z L:Pos}(hr:X.A.units+64<cLine)(ho:VE X E o fo)(h:VE X E e f)(I:attributeBase o "index" X.env (eval o X.env)=eval o X.env:=by rfl)
  (U:((backTo L (starEach [e] X.env)).all (fun x=> !x.1)&&(backToKw L (keywordEach [] X.env)).all (fun x=>x.1.isSome)&&decide ([e].length+([]:EK Keyword).length+(if ([]:EK Keyword).isEmpty then 0 else 1)<30))=true:=by rfl)
  (M:(Z.endLine==L.line)=true:=by rfl) (h1:starEach [e] X.env=(false,eval e X.env)::starEach [] X.env:=by rfl) (q:(backTo L (starEach [] X.env)).any (·.1)=false:=by rfl) :
  VE X E (.Call (.Attribute o "index" Z) [e] [] L) (l4 fo f) :=
 PE.imp (ng PySem.F.plainAttrs_list PySem.F.slot_list_index PySem.F.type_list_index (vG hr) ho (yQ h jB h1) I U M h1 q) fun s H Q ⟨b,r,st,S,R,P⟩=>⟨b,r,st,S,R,ed.bind P fun o s1 u H1 b1 e1 S1 r1 P1=>by
  split at P1
  ·rename_i l1 a0;obtain⟨x,xs,rfl,h2,h3⟩:=Q6 S1 r1 a0;refine⟨.inl ⟨rfl,xs,h2⟩,b1,r,s1,S1,R.ext e1,ed.bind P1 fun p s2 v H2 b2 e2 S2 r2 Y=>?_⟩;split at Y
   ·rename_i l el;split at Y
    ·rename_i hc;split at Y;rename_i j hj;obtain⟨x',ys,ex,h4,h5⟩:=Q6 S2 (RV.ext e2 o r1) el;cases ex;exact⟨l,ys,x,p,v,j,rfl,rfl,h4,ee.rws l hc.1 h5,RV.rw p hc.2.1 r2,hc.2.2,hj,ed.here Y S2 Q0⟩;exact Y.elim
    ·exact Y.elim
   ·exact Y.elim
  ·exact P1.elim⟩
def Zv:EK PV->EK PV->EK PV|x::l,y::m=>.tup [x,y]::Zv l m|_,_=>[]
def JY:∀{l m:EK PV} {i:Nat} {p:PV},(Zv l m)[i]? = some p->∃x y,l[i]? = some x∧m[i]? = some y∧p= .tup [x,y]
 |[],_,_,_,h=>by simp[Zv]at h
 |_::_,[],_,_,h=>by simp[Zv]at h
 |x::l,y::m,0,p,h=>⟨x,y,rfl,rfl,by simpa[Zv] using h.symm⟩
 |x::l,y::m,i+1,p,h=>by
  obtain⟨u,v,Y,U,F⟩:=JY (l:=l) (m:=m) (i:=i) (p:=p) (by simpa[Zv] using h);exact⟨u,v,by simpa using Y,by simpa using U,F⟩
def JS:∀(l m:EK PV),(Zv l m).length=min l.length m.length|[],m=>by simp[Zv]|_::_,[]=>by simp[Zv]|x::l,y::m=>by simp[Zv,JS l m]
def uG(i:Int):Str:=toString i
def kH(f:FE):FE:=fun r st=>(f r st).bind fun p s=>match p with| .int i=>if i.natAbs.log2<1920 then .ok (.str (uG i)) s else .no|_=>.no
def lB(h:VE X E e f):VE X E (.FormattedValue e (-1) none pos) (kH f):=PE.imp (xg h) fun s H Q ⟨b,r,st,S,R,P⟩=>⟨b,r,st,S,R,ed.bind P fun p s1 u H1 L Z I Y q=>by
 split at q
 ·rename_i i;split at q;rename_i hi;unfold RV at Y;exact⟨i,Y,hi,ed.here q I (by unfold RV;rfl)⟩;exact q.elim
 ·exact q.elim⟩
def vJ:EK FE->Str->qz->qC->Rs PV
 |[],out,_,st=>if out.length≤sizeLine then .ok (.str out) st else .no
 |f::fs,out,r,st=>(f r st).bind fun p s=>match p with| .str y=>if (out++y).length≤sizeLine then vJ fs (out++y) r s else .no|_=>.no
def VJ(X:Cx)(E:XK)(es:EK EY)(fs:EK FE):Prop:=PJ X es (fun out σ H Q=>∃b r st,SR X.K H b st∧eI X.K H b r σ∧ed X.K E H b (vJ fs out r st) (fun v H'=>∃x,v= .str x∧Q x H'))
def oM:VJ X E [] []:=fun out Ee s σ H Q I ⟨b,r,st,S,R,P⟩=>vI out Ee s σ H Q I (by
 unfold vJ at P;split at P
 ·rename_i h;obtain⟨x,e,q⟩:=ed.here P S (by unfold RV;rfl);cases e;exact⟨h,q⟩
 ·exact P.elim)
def Wo{fs:EK FE}(M:VE X E e f)(U:VJ X E es fs):VJ X E (e::es) (f::fs):=fun out Ee s σ H Q I ⟨b,r,st,S,R,P⟩=>vQ M U out Ee s σ H Q I (by
 unfold vJ at P;refine⟨b,r,st,S,R,ed.bind P fun p s1 u H1 L Z F Y q=>?_⟩;split at q
 ·rename_i y;split at q;rename_i h;unfold RV at Y;exact⟨y,Y,h,L,r,s1,F,R.ext Z,q⟩;exact q.elim
 ·exact q.elim)
def nX{Z F:EY}{fs:EK FE}(h:VJ X E (Z::F::es) fs):VE X E (.JoinedStr (Z::F::es) pos) (vJ fs Str.empty):=fun Ee s σ H Q I ⟨b,r,st,S,R,P⟩=>pA h Ee s σ H Q I ⟨b,r,st,S,R,by
 cases e:vJ fs Str.empty r st with
 |ex x s1=>rw[e]at P;exact P
 |no=>rw[e]at P;exact P
 |ok p s1 =>
  rw[e]at P;intro v H' b' L S' U;have q:=P v H' b' L S' U;have hp:∃y,p= .str y:=by
   have Y:∀(fs:EK FE) (out:Str) (st:qC) (p:PV) (s1:qC),vJ fs out r st= .ok p s1->∃y,p= .str y:=by
    intro fs;induction fs with
    |nil=>intro out st p s1 h;unfold vJ at h;split at h;(cases h;exact⟨_,rfl⟩);cases h
    |cons g gs ih =>
     intro out st p s1 h;unfold vJ at h;cases M:g r st with
     |no=>rw[M]at h;cases h
     |ex x s2=>rw[M]at h;cases h
     |ok p2 s2 =>
      rw[M]at h;dsimp only[Rs.bind]at h;split at h
      ·split at h;exact ih _ _ _ _ h;cases h
      ·cases h
   exact Y _ _ _ _ _ e
  obtain⟨y,rfl⟩:=hp;unfold RV at U;exact⟨y,U,by rw[U]at q;exact q⟩⟩
def QE{P:ER}{w:EU}(X:Cx):Ws (fu P w) X E0:=fun Ee σ H s e L I h=>by obtain⟨_,_,_,_,_,_,_,_,_,_,_,_,q⟩:=h;exact q.elim
def qw(i:Nat):FG:=fun p r=>match r[i]? with|some none=>some (r.set i (some p))|_=>none
def mj{i:Nat}{p:PV}{r r':qz}(h:qw i p r=some r'):r[i]? = some none∧r'=r.set i (some p):=by
 unfold qw at h;split at h;rename_i e;cases h;exact⟨e,rfl⟩;cases h
def QM(i:Nat){x:Str}(Z:X.N.Nodup)(hi:X.N[i]? = some x:=by rfl)(M:Loc X.env.scope x:=by first|exact Or.inl rfl|exact Or.inr rfl)(F:X.fn x=true∨X.env.scope.names.lookup x=some .local:=by first|exact .inl rfl|exact .inr rfl|assumption):VG X (.Name x pos) (qw i) :=
 PG.imp (Qr i Z hi M F) fun v s H Q ⟨b,r,p,st,S,R,L,U,e,q⟩=>⟨b,r,p,st,S,R,L,U,by rw[(mj e).2];rfl,q⟩
def Le.refl(r:qz):Le r r:=⟨rfl,fun _ _ h=>h⟩
def Le.trans{r r1 I:qz}(h:Le r r1)(g:Le r1 I):Le r I:=⟨h.1.trans g.1,fun i p e=>g.2 i p (h.2 i p e)⟩
def qZ(i:Nat):kD (qw i):=fun p r U h=>by
 obtain⟨Y,rfl⟩:=mj h;refine⟨by simp,fun j q e=>?_⟩;by_cases F:i=j;subst F;rw[Y]at e;cases e;rw[BQ F];exact e
def jA(g:FGs):Prop:=∀p r U,g p r=some U->Le r U
def wc:jA wS:=fun p r U h=>by
 unfold wS at h;split at h;cases h;exact Le.refl _;cases h
def qm{g:FG}{gs:FGs}(Y:kD g)(U:jA gs):jA (qW g gs):=fun p r q h=>by
 unfold qW at h;split at h
 ·split at h;rename_i I e;exact (Y _ _ _ e).trans (U _ _ _ h);cases h
 ·cases h
def wb{n:Nat}{gs:FGs}(Y:jA gs):kD (wN n gs):=fun p r U h=>by
 unfold wN at h;split at h
 ·split at h;exact Y _ _ _ h;cases h
 ·cases h
end
structure eR (P:Program) (w:World) (K:W.Frag) (mg:Str->Option Value) (base:Heap) (k:Nat) (x:Str) (fa:Addr) (n:Nat) (g:List PV->qC->Rs PV):Prop where
 ok:∃fd ps,ps.length=n∧fM P w K mg base (fu P w) k fa fd ps (hX K ps.length g)∧L2.Binds K fd ps []∧∀l st,g l st≠ .no->l.length=ps.length
 mg:mg x=some (.ref fa)
 kp:W.keepIn K (.ref fa)=true
section
variable{X:Cx}{E:XK}{e a c d:EY}{es:EK EY}{f fa fb fc:FE}{fl:FL}{pos:Pos}{F G:FS}
def eR.call{k n:Nat}{x:Str}{fa:EN}{g:EK PV->qC->Rs PV}(D:eR X.prog X.w X.K X.mg X.base k x fa n g)(M:eW k X.A)(L:Ws (fu X.prog X.w) X E)(I:Gl X x:=by rfl)(Z:(x==("__debug__":Str))=false:=by decide):kK X E x g:=by obtain⟨fd,ps,_,F,B,hl⟩:=D.ok;exact DP (n:=n) F M I D.mg D.kp B L hl Z
def YF(tbl:EK (EN×(EK PV->qC->Rs PV)))(q:FE)(t:FA):FE:=fun r st=>(q r st).bind fun p s=>match p with
 | .fn a=>match tbl.lookup a with|some g=>(t r s).bind g|none=>.no
 |_=>.no
def yG{α:Type}{a:EN}{g:α}:∀{l:EK (EN×α)},l.lookup a=some g->(a,g)∈l
 |[],h=>by cases h
 |(b,k)::l,h=>by
  rw[At]at h;split at h;rename_i e;cases h;rw[eq_of_beq e];exact AT;exact AO _ (yG h)
def DW{n:Nat}{tbl:EK (EN×(EK PV->qC->Rs PV))}{t:FA}{U:EY}(hx:Ws (fu X.prog X.w) X E)(Z:∀q∈tbl,∃k x,eR X.prog X.w X.K X.mg X.base k x q.1 n q.2∧eW k X.A)
  (hf:VE X E U f) (ha:VA X E (e::es) t) (hc:eval (.Call U (e::es) [] pos) X.env=(do callWith pos (←eval U X.env) [] (backTo pos (starEach (e::es) X.env)) (backToKw pos (keywordEach [] X.env))):=by rfl) (he:starEach (e::es) X.env=(false,eval e X.env)::starEach es X.env:=by rfl) (Ep:(backTo pos (starEach es X.env)).any (·.1)=false:=by rfl) :
  VE X E (.Call U (e::es) [] pos) (YF tbl f t) :=
 PE.imp (v3 (fs:=tbl.map fun q=>(q.1,hX X.K n q.2)) hx (fun p hp=>by
  obtain⟨q,hq,rfl⟩:=An.mp hp;obtain⟨k,x,D,hr⟩:=Z q hq;obtain⟨fd,ps,Y,F,B,hl⟩:=D.ok;exact⟨k,fd,ps,by rw[Y]at F;exact F,hr,D.kp,B⟩) hf ha hc he Ep) fun s H Q ⟨b,r,st,S,R,P⟩=>⟨b,r,st,S,R,ed.bind P fun p s1 u H1 b1 e1 S1 r1 I=>by
  split at I
  ·rename_i a;split at I
   ·rename_i g eg;unfold RV at r1;have hm:=yG eg;obtain⟨k,x,D,hr⟩:=Z _ hm;obtain⟨fd,ps,Y,F,B,hl⟩:=D.ok;refine⟨a,hX X.K n g,r1,An.mpr ⟨_,hm,rfl⟩,b1,r,s1,S1,R.ext e1,eG.bind I fun l s2 us H2 b2 e2 S2 r2 L=>?_⟩;have M:g l s2≠ .no:=fun z=>by rw[z]at L;exact L
    exact⟨by rw[←r2.length,←Y];exact hl l s2 M,b2,l,s2,S2,r2,L⟩
   ·exact I.elim
  ·exact I.elim⟩
end
def QD(n N:Nat)(B:FS):EK PV->qC->Rs PV:=fun l st=>if l.length=n then kA (B (QC N l) st) else .no
def qf{n N:Nat}{B:FS}{l:EK PV}{st:qC}(h:QD n N B l st≠ .no):l.length=n:=by
 unfold QD at h;split at h;assumption;exact absurd rfl h
section
variable{X:Cx}{E:XK}{e a c d:EY}{f fa fb fc:FE}{pos:Pos}
def JW(f:FE):FE:=fun r st=>(f r st).bind fun p s=>match p with| .int i=>.ok (.int (-i)) s|_=>.no
def Z0(h:VE X E e f):VE X E (.UnaryOp .USub e pos) (JW f):=PE.imp (tv sr h) fun s H Q ⟨b,r,st,S,R,P⟩=>⟨b,r,st,S,R,ed.bind P fun p s1 u H1 L Z I Y q=>by
 split at q;rename_i i;unfold RV at Y;exact⟨i,Y,ed.here q I Q0⟩;exact q.elim⟩
end
def xj{k:Nat}{A:EW}{v:EO EL}(h:eW k A)(R:1≤k:=by omega):eW 1 (A.mark v) :=
 ⟨fun z=>absurd z (by decide),by have:=h.dp;show A.depth+3*1+5<recursionLimit;omega,by have:=h.un;show A.units+16*1+200<cLine;omega,h.gd⟩
def qb{n N m:Nat}{B:FS}{l:EK PV}{Z:qC}(hl:l.length=n):gz m (kA (B (QC N l) Z)) (QD n N B l Z):=by unfold QD;rw[AC hl];exact gz.refl
section
variable{P:ER}{w:EU}{K:EQ}{mg:Str->EO EL}{base:Heap}
def wL{x:Str}{st:Stmt}{fa:EN}{fd:FuncData}{N ps:EK Str}{k:Nat}{B:FS}{g:EK PV->qC->Rs PV}(F:fI K x x st fa fd)(S:ez N ps (qJ st))(b:L2.Binds K fd ps [])(m:mg x=some (.ref fa))(Y:∀l s,g l s≠ .no->l.length=ps.length)
  (R:∀(Em:EL) (A:EW) (outer:EK Env) (s:EM) (H:Hp) (E:XK),eW k (A.deeper (envOfC x (qJ st) s.heap.objs.size fa Em))->(0<k->A.handled=none)->gM (wV (fu P w) P w K mg base N x (qJ st) fa Em A outer s H E) E (qi st) B)
  (I:∀l Z,l.length=ps.length->g l Z≠ .no->gz Z.length (kA (B (QC N.length l) Z)) (g l Z)):eR P w K mg base (k+1) x fa ps.length g :=
 ⟨⟨fd,ps,rfl,iq F S fun Em A outer s H E M U=>⟨B,R Em A outer s H E M U,I⟩,b,Y⟩,m,F.kp⟩
def og{x:Str}{st:Stmt}{fa:EN}{fd:FuncData}{ps:EK Str}{k:Nat}{g:EK PV->qC->Rs PV}(F:fI K x x st fa fd)(b:L2.Binds K fd ps [])(m:mg x=some (.ref fa))(I:∀l s,g l s= .no):eR P w K mg base k x fa ps.length g:=by
 have no:∀vs H Q E,¬hX K ps.length g vs H Q E:=fun vs H Q E ⟨_,b,l,st,_,_,h⟩=>by rw[I]at h;exact h
 exact⟨⟨fd,ps,rfl,⟨fun vs H Q E h=>absurd h (no vs H Q E),fun A outer s H args us vs Q E _ _ _ _ h=>absurd h (no vs H Q E)⟩,b,fun l s h=>absurd (I l s) h⟩,m,F.kp⟩
end
section
variable{X:Cx}{E:XK}{es:EK EY}{f:FE}{g:FA}{pos:Pos}
def qe{c:Const}{j:Nat}(h:VE X E (.Constant c j pos) f)(U:VA X E es g):VA X E (.Constant c j pos::es) (qA f g):=Qt h U rfl
def qQ{x:Str}(h:VE X E (.Name x pos) f)(U:VA X E es g):VA X E (.Name x pos::es) (qA f g):=Qt h U rfl
def W6{a b c}(h:VE X E (.Call a b c pos) f)(U:VA X E es g):VA X E (.Call a b c pos::es) (qA f g):=Qt h U rfl
def zc{a b c}(h:VE X E (.BinOp a b c pos) f)(U:VA X E es g):VA X E (.BinOp a b c pos::es) (qA f g):=Qt h U rfl
def wR{a b}(h:VE X E (.Tuple a b pos) f)(U:VA X E es g):VA X E (.Tuple a b pos::es) (qA f g):=Qt h U rfl
def nU{a}(h:VE X E (.List a pos) f)(U:VA X E es g):VA X E (.List a pos::es) (qA f g):=Qt h U rfl
def ly{a b}(h:VE X E (.Subscript a b pos) f)(U:VA X E es g):VA X E (.Subscript a b pos::es) (qA f g):=Qt h U rfl
def kU{a b}(h:VE X E (.UnaryOp a b pos) f)(U:VA X E es g):VA X E (.UnaryOp a b pos::es) (qA f g):=Qt h U rfl
def Eb{a b c}(h:VE X E (.Compare a b c pos) f)(U:VA X E es g):VA X E (.Compare a b c pos::es) (qA f g):=Qt h U rfl
def YW{a b c}(h:VE X E (.ListComp a b c pos) f)(U:VA X E es g):VA X E (.ListComp a b c pos::es) (qA f g):=Qt h U rfl
def nW{a}(h:VE X E (.JoinedStr a pos) f)(U:VA X E es g):VA X E (.JoinedStr a pos::es) (qA f g):=Qt h U rfl
def Ec{a b c}(h:VE X E (.IfExp a b c pos) f)(U:VA X E es g):VA X E (.IfExp a b c pos::es) (qA f g):=Qt h U rfl
def D9{a b}(h:VE X E (.BoolOp a b pos) f)(U:VA X E es g):VA X E (.BoolOp a b pos::es) (qA f g):=Qt h U rfl
end
section
variable{X:Cx}{E:XK}{e a c d:EY}{es:EK EY}{f fa fb fc:FE}{pos:Pos}
def k8:PV->Bool| .non=>true|_=>false
def Ja{K:EQ}{H:Hp}{b:Bz}{p:PV}{u:V}(r:RV K H b p u):decide (u= .non)=k8 p:=by
 cases p with|non=>unfold RV at r;subst r;rfl|bl x=>unfold RV at r;subst r;rfl|int x=>unfold RV at r;subst r;rfl|str x=>unfold RV at r;subst r;rfl|tup l=>unfold RV at r;obtain⟨a,xs,rfl,_⟩:=r;rfl|lst l=>unfold RV at r;obtain⟨a,xs,rfl,_⟩:=r;rfl|ref i=>unfold RV at r;obtain⟨a,rfl,_⟩:=r;rfl|dct=>unfold RV at r;obtain⟨a,rfl,_⟩:=r;rfl|ty n=>unfold RV at r;subst r;rfl|fn n=>unfold RV at r;subst r;rfl|exc x y=>unfold RV at r;obtain⟨a,o,u,rfl,_⟩:=r;rfl
def yM(F:Bool):PV->PV->qC->Rs PV:=fun p q st=>match q with| .non=>.ok (.bl (if F then !k8 p else k8 p)) st|_=>.no
def p4:ge X E (fun x y H Q=>y= .non∧Q (.bl (decide (x= .non))) H) (yM false):=by
 intro H b st p q u v Q S Z L P;unfold yM at P;split at P;unfold RV at L;refine⟨L,?_⟩;rw[Ja Z];exact ed.here P S Wz;exact P.elim
def JQ:ge X E (fun x y H Q=>y= .non∧Q (.bl (!decide (x= .non))) H) (yM true):=by
 intro H b st p q u v Q S Z L P;unfold yM at P;split at P;unfold RV at L;refine⟨L,?_⟩;rw[Ja Z];exact ed.here P S Wz;exact P.elim
end
section
variable{X:Cx}{E:XK}{es:EK EY}{f:FE}{g:FA}{pos:Pos}
def D8{a b}(h:VE X E (.Dict a b pos) f)(U:VA X E es g):VA X E (.Dict a b pos::es) (qA f g):=Qt h U rfl
end
end EV
end
section
namespace EF
open PySem PySem.W PySem.Calls PyProof.Rows
def yh:∀{ns:EK Int} {n:Int},n∈ns->WData.weight (.int n)≤WData.weightAll (ns.map WData.int)
 |m::ns,n,h=>by
  show _≤WData.weight (.int m)+1+WData.weightAll (ns.map WData.int);rcases AJ.mp h with rfl|h
  ·omega
  ·have:=yh h;omega
def Jk{ns:EK Int}(h:WData.layableAll [WData.list (ns.map WData.int)]=true):∀n∈ns,Builtin.Int.intBits n≤2 ^ 20:=by
 intro n M;unfold WData.layableAll at h;have Y:WData.layable (WData.list (ns.map WData.int))=true:=by simpa using h
 unfold WData.layable at Y;rw[Ar]at Y;have U:WData.weight (WData.list (ns.map WData.int))≤2 ^ 20:=BV Y.2;have F:WData.weightAll (ns.map WData.int)≤2 ^ 20:=U;exact AW (yh M) F
def attach_callB{l:OpenLaw}{n:Nat}{q:ER}{L:EK Str}{XP:(Str->EO EL)->Heap->Prop}{YP:EU->Heap->Prop}{d:DefRec}
  (hn:l.most=some n) (a0:d.params.defaults=[])
  (call:∀(w:EU) (s₀ M:EM) (mg mb:Str->EO EL) (fa:EN) (o:Obj) (pm cd Ey:EL) (a:EN) (vs:EK EL) (ns:EK Int),
   Ground q L [] XP w s₀ mg mb M.heap->YP w M.heap ->
   M.heap.get? fa=some o->o.data= .func (docDef d.name d.params d.body d.scope pm cd Ey)->M.heap.CodeRec cd d.name->mg d.name=some (.ref fa) ->
   M.heap.get? a=some { cls:=.type "list",data:=.seq vs.toArray }->IntsAre vs ns->ns.length≤n->(∀k∈ns,Builtin.Int.intBits k≤2 ^ 20)->M.gens = #[] ->
   codeAny (model l.prog w) callerA (.call (.ref fa) ⟨[.ref a],[]⟩) (fun r s'=>r= .ok (.ret (.bool true))∧OldK M.heap s'.heap∧s'.os=M.os∧AllBare s'.gens) M) :
  WalkO q L XP YP l.row.toRowW d [] (fun f vs=>PySem.call f vs):=by intro w s₀ M mg mb G Y fa o pm cd Ey dV kV ho hd a1 hD a2 hg args a4 as Z I a5 a3 a6;obtain rfl:dV= .none:=Dflts.none hD a0;obtain rfl:kV= .none:=Dflts.noKw hD;obtain⟨a,vs,ns,rfl,rfl,U,R,F⟩:=sF hn Z a3;refine enter_call (codeAny_mono (call w s₀ M mg mb fa o pm cd Ey a vs ns G Y ho (fd_plain hd) a1 a2 U R F (Jk I) hg) fun r s' hq=>?_);obtain⟨rfl,h2,h3,h4⟩:=hq;exact⟨.inl ⟨.bool true,.bool true,[],rfl,fun _=>rfl,.bool true,sS l _,fun _=>⟨List.Pairwise.nil,fun _ hm=>(nomatch hm)⟩⟩,h2,h3,h4⟩
end EF
end
section
namespace EX
open PySem PySem.Spec PyProof.Rows L2
end EX
namespace EV
open PySem PySem.Spec PyProof.Rows L2 EX
end EV
end
section
namespace HT
open PySem PySem.Spec PyProof.Rows L2
end HT
namespace L2
open PySem PySem.Spec PyProof.Rows
end L2
end
section
namespace EV
open PySem PySem.Spec PyProof.Rows L2
def DD{X:Cx}{E:XK}(i:Nat){x:Str}{p' Z:Pos}{a0:EY}{c:Comprehension}{cs:EK Comprehension}{scope:Scope}{pos:Pos}{Eo Ej:EK Str}{Ei:EK Nat}{fi:FI}{g:FG}{ts:EK FT}{gs:EK fG}{f:FE}(hN:X.N.Nodup)(af:X.N[i]? = some x)(hx:Loc X.env.scope x)(hf:X.fn x=true∨X.env.scope.names.lookup x=some .local)(ag:swapsWith (.ListComp a0 (c::cs) scope pos) (some (.Name x p')) Z.line X.env=pure true)(a1:i0 X scope Eo Ej Ei)
  (hi:VI X E c.target c.iter fi) (sub:∀s H fp pn,VE (gg X scope (Eo++Ej) s H fp pn) E0 a0 f∧GOk (gg X scope (Eo++Ej) s H fp pn) c ⟨fi,g,ts⟩∧fe (gg X scope (Eo++Ej) s H fp pn) cs gs)
  (hs:∀x,foldedSetIterable c.iter X.env x=pure x):PS X (.Assign [.Name x p'] (.ListComp a0 (c::cs) scope pos) Z) (lF (oP X.K E (qr Ei Ej.length fi g ts gs f)) (k9 i)):=by
 intro Ee s σ H D0 I hq;obtain⟨b,r,st,S,RE,P⟩:=hq;have a2:∀x∈scope.names,x.2= .free->∃c,X.env.cells.lookup x.1=some c:=fun x hx hk=>I.ok.has x.1 (a1.fr x hx hk);obtain⟨c1,c2,c3,c4⟩:=c;have a4:c4=0:=(sub s H [] []).2.1.asy;subst a4;rw[exec_Assign_Name_used x p' _ Z ag];refine AA (CZ ?_);refine AA (Bb (Q:=fun _ U=>∃v H',L2.Inv X Ee (σ.set i (some v)) H' U∧D0.nx (σ.set i (some v)) H') ?_ (fun _ U ⟨v,H',I',q'⟩=>AB ⟨_,H',I',q'⟩) fun _ _ z=>z);rw[arm_evalThenUse_ListComp];refine AA (Bb (Q:=fun _ U=>∃v H',L2.Inv X Ee (σ.set i (some v)) H' U∧D0.nx (σ.set i (some v)) H') ?_ (fun _ U q'=>AB q') fun _ _ z=>z);refine wpAny_comprehension_free (e:= .ListComp a0 (⟨c1,c2,c3,0⟩::cs) scope pos) (use:=some (assign (.Name x p') X.env)) rfl hs (YB a2) a1.kind (fun x hx hl=>WW a1.nd (by rw[←hl];exact hx)) ?_;show wpAny _ _ (eval c2 X.env) _ _ s;unfold qr at P;cases ef:fi r st with
 |no=>rw[ef]at P;exact P.elim
 |ex xx s1 =>
  rw[ef]at P;refine eK (hi Ee s σ H (fun _ _=>False) I ⟨b,r,st,S,RE,by rw[ef];exact P⟩) fun v s2 h2=>eK h2 fun ah s3 h3=>?_;obtain⟨_,_,_,_,_,_,_,_,_,_,z⟩:=h3;exact z.elim
 |ok w s1 =>
  rw[ef]at P;refine eK (hi Ee s σ H (fun J H'=>∃b',eE H b H' b'∧SR X.K H' b' s1∧yO X.K H' b' J w) I ⟨b,r,st,S,RE,by rw[ef];exact fun J H' b' e' S' i'=>⟨b',e',S',i'⟩⟩) fun v s2 h2=>eK h2 fun ah s3 h3=>?_;obtain⟨it,fp,tn,J,H2,rfl,I2,T,t2,f2,b2,e2,S2,i2⟩:=h3;have P:eH X.K E H b (match qo w.G (Qp ⟨fi,g,ts⟩ (wK gs f) (zZ Ei Ej.length r)) w.l s1 with | .ok l U=>if l.length≤sizeLine then .ok l U else .no|_=>.no) (fun v H'=>D0.nx (σ.set i (some v)) H'):=P;cases ev:qo w.G (Qp ⟨fi,g,ts⟩ (wK gs f) (zZ Ei Ej.length r)) w.l s1 with
  |no=>rw[ev]at P;exact P.elim
  |ex xx s4=>rw[ev]at P;exact P.elim
  |ok l a3 =>
   rw[ev]at P;have P:eH X.K E H b (if l.length≤sizeLine then .ok l a3 else .no) (fun v H'=>D0.nx (σ.set i (some v)) H'):=P;by_cases hl:l.length≤sizeLine
   ·rw[AC hl]at P;have R:H2 s3.heap.objs.size=none:=I2.hok.fresh (AN _);refine CM ?_;generalize a5:({ s3 with heap:=s3.heap.push { cls:=.type "list",data:=.seq ([]:EK EL).toArray } }:EM)=L;have I3:L2.Inv X Ee σ (eN H2 s3.heap.objs.size (.lst [])) L:=by rw[←a5];exact I2.laid (t':=s3.toks) (fun a u e=>AD _ e) (AN _) (show eT X.prog X.w _ _ _ (.lst []) from⟨Bf _,[],0,.nil,AQ _ rfl⟩)
    have k3:∀a o,s3.heap.get? a=some o->L.heap.get? a=some o:=fun a o e=>by rw[←a5];exact AD _ e
    have ai:∀a∈fp,a<s3.heap.objs.size:=fun a F=>by obtain⟨o,e,_⟩:=T.obj _ _ t2 a F;exact AK e
    have f3:∀a∈fp,ZP X Ee (eN H2 s3.heap.objs.size (.lst [])) a:=fun a F=>⟨by rw[qP (AV (ai a F))];exact (f2 a F).1,(f2 a F).2⟩;have a6:∀a∈fp,a<L.heap.objs.size:=fun a F=>by obtain⟨o,e,_⟩:=T.obj _ _ t2 a F;exact AK (k3 a o e)
    generalize hD:s3.heap.objs.size=D at I3 f3 R;refine JT ?_;have J0:=YS a1 I3 f3 a6 rfl;obtain⟨he,hg,aj⟩:=sub L (eN H2 D (.lst [])) fp (X.pn++Ee);have k4:∀a o,L.heap.get? a=some o->(pushCells (L.heap.push { cls:=.type "dict",data:=.dict #[] }) scope.names).get? a=some o:=fun a o e=>Cz _ _ _ _ (AD _ e);have ak:D∉b2.z:=(S2.new_notin R).2;have Ew:=Ym (X:=gg X scope (Eo++Ej) L (eN H2 D (.lst [])) fp (X.pn++Ee)) (fun _ _ z=>z) (gens:=⟨c1,c2,c3,0⟩::cs) (scope:=scope) (pos:=pos) (D:=D) he gs cs 0 ⟨c1,c2,c3,0⟩ ⟨fi,g,ts⟩ rfl hg aj [] _ _ _ ⟨b2.b,D::b2.z⟩ (zZ Ei Ej.length r) s1 a3 it fp tn J w [] l
     (compPost (model X.prog X.w) X.A X.xe (some (assign (.Name x p') X.env)) (fun _ U=>∃v H',L2.Inv X Ee (σ.set i (some v)) H' U∧D0.nx (σ.set i (some v)) H') (.ref D) L.heap.objs.size) J0 (SR.hide S2 R) (Jr ((RE.ext e2).wext (WE.hide R))) AT QN T (T.keep _ _ _ t2 fun a F o e=>k4 a o (k3 a o e))
     (fun a F=>⟨(f3 a F).1,(J0.ok.exf a F).1,J0.ok.exfs a F,.inl F,(J0.ok.exf a F).2,fun p hp=>(f3 a F).2.2.2.2.2 p (by simpa[gg] using hp)⟩) (Yt i2 R) ev (by simpa using hl)
     (fun U σ' H' b' lV I' e' S' R' al r'=>by
      obtain⟨m,hn,_⟩:=I'.loc;have hn:U.heap.Ns L.heap.objs.size m:=hn;have am:L2.Inv X Ee σ H' U:=J4 I3 f3 I' ⟨rfl,fun _ _=>rfl⟩;have hC:H' L.heap.objs.size=none:=I'.free;have M:ZP X Ee H' L.heap.objs.size:=I3.fpOk (AN _) hC;obtain⟨oC,ao,ap,a7,a8,aq⟩:=id hn;have a9:=am.pinned (fp:=[L.heap.objs.size]) (fun b hb=>by rw[AX.mp hb];exact M) (fun b hb=>by rw[AX.mp hb];exact⟨oC,a7,fun v z=>by rw[a8]at z;cases z⟩);have ar:b'.z=D::b2.z:=e'.same;show wpAny (model X.prog X.w) X.A (assign (.Name x p') X.env (.ref D)) _ _ U;refine wpAny_assign_Name ?_;refine W0 a9 hN af hx (v:=.ref D) rfl (fun aa ab=>?_) hf;have ac:aa.heap.get? L.heap.objs.size=some oC:=by
       have hm:(L.heap.objs.size,oC)∈X.pn++(Ee++ZS [L.heap.objs.size] U.heap):=by unfold ZS;simp[a7]
       exact (ab.pin _ hm).1
      refine⟨m,⟨oC,ao,ap,ac,a8,aq⟩,fun as sb=>⟨.ref D,H',(ab.unpinned).turned (t':=aa.toks) (fun b o hb e=>sb.extBut b o hb e) M.1 M.2.1 M.2.2.2.1 M.2.2.2.2.1 (fun p hp=>M.2.2.2.2.2 p hp),?_⟩⟩;have ex:eE H2 b2 H' ⟨b'.b,b2.z⟩:=by
       refine⟨⟨?_,⟨[],rfl,by simp⟩,fun a o F ho=>?_,fun a o F=>?_⟩,rfl,fun a o hz F=>?_,fun a o u F=>e'.fz a o u (qN F R) (by rw[qP (qN F R)];exact F)⟩
       ·obtain⟨n,hb,hh⟩:=e'.more;exact⟨n,hb,fun a F=>by
         have:=hh a F
         by_cases q:a=D;rw[q];exact R;rwa[qP q]at this⟩
       ·have Y:a≠D:=qN F R;exact e'.keep a o (by rw[qP Y];exact F) ⟨ho.1,fun z=>(AJ.mp z).elim Y ho.2⟩
       ·have Y:a≠D:=qN F R;exact e'.dom a o (by rw[qP Y];exact F)
       ·have Y:a≠D:=qN F R;exact e'.hid a o (AO _ hz) Y (by rw[qP Y];exact F)
      have ae:(⟨b'.b,D::b2.z⟩:Bz)=b':=by rw[←ar]
      refine P D lV H' ⟨b'.b,b2.z⟩ (e2.trans ex) (e2.none_of R) (by simpa using al) ak ?_ ?_;show SR X.K H' ⟨b'.b,D::b2.z⟩ a3;rw[ae];exact S';show ee X.K H' ⟨b'.b,D::b2.z⟩ l lV;rw[ae];exact r')
    exact zF rfl rfl Ew (T.self X.A 0 _ _ _ (T.keep _ _ _ t2 fun a F o e=>k4 a o (k3 a o e)) Ew)
   ·rw[AF hl]at P;exact P.elim
end EV
namespace EV
open PySem PySem.Spec PyProof.Rows L2
section
variable{X:Cx}{E:XK}{x:Str}{p' Ev:Pos}{EH:EY}{c:Comprehension}{cs:EK Comprehension}{scope:Scope}{pos:Pos}{Eo Ej:EK Str}{Ei:EK Nat}{fi:FI}{g:FG}{ts:EK FT}{gs:EK fG}{f:FE}
def yT(i:Nat)(Z:X.N.Nodup)(L:i0 X scope Eo Ej Ei)
  (hi:VI X E c.target c.iter fi) (sub:∀s H fp pn,VE (gg X scope (Eo++Ej) s H fp pn) E0 EH f∧GOk (gg X scope (Eo++Ej) s H fp pn) c ⟨fi,g,ts⟩∧fe (gg X scope (Eo++Ej) s H fp pn) cs gs)
  (U:X.N[i]? = some x:=by rfl) (F:Loc X.env.scope x:=by first|exact Or.inl rfl|exact Or.inr rfl) (q:X.fn x=true∨X.env.scope.names.lookup x=some .local:=by first|exact .inl rfl|exact .inr rfl|assumption)
  (M:swapsWith (.ListComp EH (c::cs) scope pos) (some (.Name x p')) Ev.line X.env=pure true:=by rfl) (hs:∀x,foldedSetIterable c.iter X.env x=pure x:=by intro _;rfl) :
  VS X E (.Assign [.Name x p'] (.ListComp EH (c::cs) scope pos) Ev) (qc i (eM (qr Ei Ej.length fi g ts gs f))) :=
 PS.imp (DD i Z U F q M L hi sub hs) fun D s H ⟨b,r,st,S,R,P⟩=>⟨b,r,st,S,R,eH.of (ed.bindS P fun p s1 u H1 I Y S1 r1 P1=>P1 _ H1 I (eE.refl _ _) S1 ((R.ext Y).set r1 i))⟩
end
end EV
end
section
namespace EX
open PySem PySem.Spec PyProof.Rows L2
def fO(b:Bool)(i l:EN)(xs:EZ EL)(k:Nat)(h:Heap):Prop:=match b with|true=>h.IsTupleIter i l k∧h.IsTuple l xs|false=>h.IsListIter i l k∧h.IsList l xs
def fO.keep{b:Bool}{i l:EN}{xs:EZ EL}{k:Nat}{h h':Heap}(S:fO b i l xs k h)(Z:∀o,h.get? i=some o->h'.get? i=some o)(R:∀o,h.get? l=some o->h'.get? l=some o):fO b i l xs k h':=by
 cases b;exact⟨S.1.at Z,S.2.at R⟩;exact⟨S.1.at Z,S.2.at R⟩
def fO.but{b:Bool}{i l c:EN}{xs:EZ EL}{k:Nat}{h h':Heap}(S:fO b i l xs k h)(e:Heap.ExtBut c h h')(F:i≠c)(Y:l≠c):fO b i l xs k h':=S.keep (fun o q=>e _ o F q) fun o q=>e _ o Y q
section
variable{prog:ER}{w:EU}{A:EW}{E:EL->EM->Prop}{s:EM}
theorem fO.item{b:Bool}{i l:EN}{xs:EZ EL}{k:Nat}{x:EL}{Q:EL->EM->Prop}(S:fO b i l xs k s.heap)(Y:l≠i)(M:xs[k]? = some x)
  (U:∀h',fO b i l xs (k+1) h'->Heap.SameBut i s.heap h'->Q x { s with heap:=h' }):wpAny (model prog w) A (Builtin.SmallTypes.nextOf (.ref i)) Q E s:=by
 cases b;exact wpAny_nextOf_list_item S.1 S.2 M fun h' a1 q=>U h' ⟨a1,S.2.extBut q.extBut Y⟩ q
 ·obtain⟨L,ht⟩:=S;obtain⟨o,Z,hc,hd⟩:=id L;obtain⟨ol,R,_,nl,I⟩:=id ht;unfold Builtin.SmallTypes.nextOf;refine AA (A6 (name:=Str.ofString "__next__") L.typeIs BY
   (BA BY L.typeIs F.entry_tuple_iterator_next ?_ (F.args_tuple_iterator_next_1 _)))
  show wpAny _ _ (field (.ref i) 0 >>= _) _ _ s;refine AA (Av Z hd (x:=.ref l) rfl ?_);show wpAny _ _ (if (Value.ref l==Value.none)=true then _ else _) _ _ s;rw[AF (show ¬((Value.ref l==Value.none)=true) from Bc)];show wpAny _ _ (field (.ref i) 1 >>= _) _ _ s;refine AA (Av Z hd (x:=.int k 0) rfl ?_);show wpAny _ _ (seqItems? (.ref l) >>= _) _ _ s;refine AA (BP R I ?_);simp only[BU,M];refine AA (BZ Z hd (by simp) (AB ⟨x,rfl,AB (U _ ⟨?_,ht.extBut (Cy ..).extBut Y⟩ (Cy ..))⟩));exact⟨_,Az _ Z (Bw (BC hd _)),(Cg ..).trans hc,by
   rw[BC hd];simp[rawInt]⟩
theorem fO.over{b:Bool}{i l:EN}{xs:EZ EL}{k:Nat}{Q:EL->EM->Prop}(M:A.handled=none)(S:fO b i l xs k s.heap)(Y:xs[k]? = none)
  (q:∀h' e,Heap.ExtBut i s.heap h'->(∃o,h'.get? e=some o∧o.cls= .type "StopIteration")->E (.ref e) { s with heap:=h' }):wpAny (model prog w) A (Builtin.SmallTypes.nextOf (.ref i)) Q E s:=by
 cases b;exact wpAny_nextOf_list_end M S.1 S.2 Y q
 ·obtain⟨L,U⟩:=S;obtain⟨o,Z,hc,hd⟩:=id L;obtain⟨ol,R,_,nl,I⟩:=U;unfold Builtin.SmallTypes.nextOf;refine AA (A6 (name:=Str.ofString "__next__") L.typeIs BY
   (BA BY L.typeIs F.entry_tuple_iterator_next ?_ (F.args_tuple_iterator_next_1 _)))
  show wpAny _ _ (field (.ref i) 0 >>= _) _ _ s;refine AA (Av Z hd (x:=.ref l) rfl ?_);show wpAny _ _ (if (Value.ref l==Value.none)=true then _ else _) _ _ s;rw[AF (show ¬((Value.ref l==Value.none)=true) from Bc)];show wpAny _ _ (field (.ref i) 1 >>= _) _ _ s;refine AA (Av Z hd (x:=.int k 0) rfl ?_);show wpAny _ _ (seqItems? (.ref l) >>= _) _ _ s;refine AA (BP R I ?_);simp only[BU,Y];refine AA (BM (AA (BZ Z hd (by simp) ?_)));show wpAny _ _ (newExc (.type "StopIteration") [] >>= _) _ _ _;refine AA ?_;simp only[newExc,newTuple];refine AA (BO ?_ (by size_fits));refine AA (m:=firstArgMember _ _) (Aw (a:=Value.none) (by first|rfl|(simp only[firstArgMember];rfl)) ?_);refine BO ?_ (by size_fits);simp only[raiseNew];refine AA (wpAny_handled ?_);first|rw[show A.in1.handled=none from M]|rw[M]
  refine AA (AB (wpAny_throw ?_));exact q _ _ (((Cy ..).extBut.push _).push _) ⟨_,AQ _ rfl,rfl⟩
theorem tS{b1 b2:Bool}{z TI TO Z I l1 l2:EN}{k:Nat}{xs ys:EZ EL}{x y a b:EL}{Q:EO EL->EM->Prop}(D:ZipApart z TI TO Z I l1 l2)
  (hz:IsZip s.heap z TI TO .none) (a2:IsPair s.heap TI (.ref Z) (.ref I)) (a3:IsPair s.heap TO a b) (h1:fO b1 Z l1 xs k s.heap) (h2:fO b2 I l2 ys k s.heap) (hx:xs[k]? = some x) (hy:ys[k]? = some y)
  (hQ:∀h',IsZip h' z TI TO (rawInt s.heap.objs.size)->IsPair h' TO x y->fO b1 Z l1 xs (k+1) h'->fO b2 I l2 ys (k+1) h'->IsPair h' s.heap.objs.size x y ->
   (∀c o,c≠z->c≠TO->c≠Z->c≠I->s.heap.get? c=some o->h'.get? c=some o)->Q (some (.ref s.heap.objs.size)) { s with heap:=h' }) :
  wpAny (model prog w) A (pyNext (.ref z)) Q E s:=by
 have hT:s.TypeIs (.ref z) "zip" :=⟨_,hz,rfl⟩;unfold pyNext;refine AA (Bt (A6 (name:=Str.ofString "__next__") hT F.slot_zip_next (BA F.slot_zip_next hT F.entry_zip_next ?_ (F.args_zip_next_1 _))));show wpAny _ _ (field (.ref z) 2 >>= _) _ _ _;refine AA (Av hz rfl (x:=.bool false) rfl ?_);show wpAny _ _ (field (.ref z) 3 >>= _) _ _ _;refine AA (Av hz rfl (x:=.ref TI) rfl ?_);refine AA (BP a2 rfl ?_);show wpAny _ _ (Builtin.SmallTypes.ownedTupleIsFree (.ref z) >>= _) _ _ _;refine AA ?_;unfold Builtin.SmallTypes.ownedTupleIsFree;refine AA (Av hz rfl (x:=.none) rfl (AB ?_));simp only[if_true];refine AA (BM ?_);refine AA (Av hz rfl (x:=.ref TO) rfl ?_);refine AA (CI hz (by simp) fun g1 R s1=>?_);replace R:IsZip g1 z TI TO .ellipsis:=R;refine AA ?_;simp only[List.zipIdx_cons,List.zipIdx_nil,C0,List.forIn_nil];refine AA (AA (wpAny_onRaise ?_));show wpAny _ _ (Builtin.SmallTypes.nextOf (.ref Z) >>= _) _ _ _;refine AA ((h1.but s1.extBut D.i1z D.l1z).item D.l1i1 hx fun g2 q1 s2=>AB ?_);have t2:IsPair g2 TO a b:=s2.extBut _ _ D.TOi1 (s1.extBut _ _ D.TOz a3);refine AA (BP t2 rfl ?_);refine AA (wpAny_updateSeq_pair t2 fun g3 t3 s3=>?_);replace t3:IsPair g3 TO x b:=t3;refine AA (Cw (AB ?_));refine AA (AA (wpAny_onRaise ?_));show wpAny _ _ (Builtin.SmallTypes.nextOf (.ref I) >>= _) _ _ _;refine AA ((((h2.but s1.extBut D.i2z D.l2z).but s2.extBut D.i12.symm D.l2i1).but s3.extBut D.TOi2.symm D.l2TO).item D.l2i2 hy fun g4 q2 s4=>AB ?_);have t4:IsPair g4 TO x b:=s4.extBut _ _ D.TOi2 t3;refine AA (BP t4 rfl ?_);refine AA (wpAny_updateSeq_pair t4 fun M t5 s5=>?_);replace t5:IsPair M TO x y:=t5;refine AA (Cw (AB (AB ?_)));refine AA (BP t5 rfl ?_);refine AA (wpAny_newTuple ?_);have a0:M.objs.size=s.heap.objs.size:=by rw[s5.1,s4.1,s3.1,s2.1,s1.1]
 have a1:IsZip M z TI TO .ellipsis:=s5.extBut _ _ D.TOz.symm (s4.extBut _ _ D.i2z.symm (s3.extBut _ _ D.TOz.symm (s2.extBut _ _ D.i1z.symm R)));have k5:∀c o,c≠z->c≠TO->c≠Z->c≠I->s.heap.get? c=some o->M.get? c=some o:=fun c o q c2 c3 c4 e =>
  s5.extBut _ _ c2 (s4.extBut _ _ c4 (s3.extBut _ _ c2 (s2.extBut _ _ c3 (s1.extBut _ _ q e))))
 have p1:fO b1 Z l1 xs (k+1) M:=((q1.but s3.extBut D.TOi1.symm D.l1TO).but s4.extBut D.i12 D.l1i2).but s5.extBut D.TOi1.symm D.l1TO;have p2:fO b2 I l2 ys (k+1) M:=q2.but s5.extBut D.TOi2.symm D.l2TO;have L:z<M.objs.size:=AK a1;show wpAny _ _ (Builtin.SmallTypes.ownedTupleHandOut (.ref z) (.ref M.objs.size) >>= _) _ _ _;refine AA ?_;unfold Builtin.SmallTypes.ownedTupleHandOut;have a4:IsZip (M.push { cls:=.type "tuple",data:=.seq #[x,y] }) z TI TO .ellipsis:=AD _ a1;refine AA (CI a4 (by simp) fun g7 Y s7=>?_);replace Y:IsZip g7 z TI TO (rawInt M.objs.size):=Y;refine CI Y (by simp) fun g8 U s8=>?_;replace U:IsZip g8 z TI TO (rawInt M.objs.size):=U;have up:∀c o,c≠z->M.get? c=some o->g8.get? c=some o:=fun c o q e=>s8.extBut _ _ q (s7.extBut _ _ q (AD _ e));have t8:IsPair g8 M.objs.size x y:=s8.extBut _ _ (Cj L) (s7.extBut _ _ (Cj L) (AQ _ rfl));rw[a0]at U t8;refine AB ⟨_,rfl,AB ?_⟩;show Q (some (.ref M.objs.size)) _;rw[a0];exact hQ g8 U (up _ _ D.TOz t5) (p1.keep (fun o e=>up _ o D.i1z e) fun o e=>up _ o D.l1z e) (p2.keep (fun o e=>up _ o D.i2z e) fun o e=>up _ o D.l2z e) t8 fun c o q c2 c3 c4 e=>up c o q (k5 c o q c2 c3 c4 e)
def DN{b1 b2:Bool}{z TI TO q I l1 l2:EN}{k:Nat}{xs ys:EZ EL}{a b:EL}{Q:Fin->EM->Prop}(hh:A.handled=none)(D:ZipApart z TI TO q I l1 l2)
  (L:IsZip s.heap z TI TO .none) (a2:IsPair s.heap TI (.ref q) (.ref I)) (a3:IsPair s.heap TO a b) (h1:fO b1 q l1 xs k s.heap) (h2:fO b2 I l2 ys k s.heap) (Y:xs[k]? = none∨ys[k]? = none)
  (stop:∀h' e,(∀c o,c≠z->c≠TO->c≠q->c≠I->s.heap.get? c=some o->h'.get? c=some o)->(∃o,h'.get? e=some o∧o.cls= .type "StopIteration")->E (.ref e) { s with heap:=h' }) :
  wpAny (model prog w) A (Builtin.«zip.__next__» ⟨[.ref z],[]⟩) Q E s:=by
 show wpAny _ _ (field (.ref z) 2 >>= _) _ _ _;refine AA (Av L rfl (x:=.bool false) rfl ?_);show wpAny _ _ (field (.ref z) 3 >>= _) _ _ _;refine AA (Av L rfl (x:=.ref TI) rfl ?_);refine AA (BP a2 rfl ?_);show wpAny _ _ (Builtin.SmallTypes.ownedTupleIsFree (.ref z) >>= _) _ _ _;refine AA ?_;unfold Builtin.SmallTypes.ownedTupleIsFree;refine AA (Av L rfl (x:=.none) rfl (AB ?_));simp only[if_true];refine AA (BM ?_);refine AA (Av L rfl (x:=.ref TO) rfl ?_);refine AA (CI L (by simp) fun g1 Z s1=>?_);replace Z:IsZip g1 z TI TO .ellipsis:=Z;refine AA ?_;simp only[List.zipIdx_cons,List.zipIdx_nil,C0,List.forIn_nil];refine AA (AA (wpAny_onRaise ?_));show wpAny _ _ (Builtin.SmallTypes.nextOf (.ref q) >>= _) _ _ _;cases hx:xs[k]? with
 |none =>
  refine AA ((h1.but s1.extBut D.i1z D.l1z).over hh hx fun g2 e s2 he=>?_);obtain⟨oe,F,R⟩:=he;have a0:IsZip g2 z TI TO .ellipsis:=s2 _ _ D.i1z.symm Z;have U:e≠z:=fun x=>by subst x;rw[a0]at F;cases F;simp at R
  exact CI a0 (by simp) fun g3 _ M=>stop g3 e (fun c o c1 _ c3 _ x=>M.extBut _ _ c1 (s2 _ _ c3 (s1.extBut _ _ c1 x))) ⟨oe,M.extBut _ _ U F,R⟩
 |some x =>
  have hy:ys[k]? = none:=by rcases Y with h|h;rw[hx]at h;cases h;exact h
  refine AA ((h1.but s1.extBut D.i1z D.l1z).item D.l1i1 hx fun g2 q1 s2=>AB ?_);have t2:IsPair g2 TO a b:=s2.extBut _ _ D.TOi1 (s1.extBut _ _ D.TOz a3);refine AA (BP t2 rfl ?_);refine AA (wpAny_updateSeq_pair t2 fun g3 t3 M=>?_);refine AA (Cw (AB ?_));refine AA (AA (wpAny_onRaise ?_));show wpAny _ _ (Builtin.SmallTypes.nextOf (.ref I) >>= _) _ _ _;refine AA ((((h2.but s1.extBut D.i2z D.l2z).but s2.extBut D.i12.symm D.l2i1).but M.extBut D.TOi2.symm D.l2TO).over hh hy fun g4 e s4 he=>?_);obtain⟨oe,F,R⟩:=he;have a1:IsZip g4 z TI TO .ellipsis:=s4 _ _ D.i2z.symm (M.extBut _ _ D.TOz.symm (s2.extBut _ _ D.i1z.symm Z));have U:e≠z:=fun x=>by subst x;rw[a1]at F;cases F;simp at R
  exact CI a1 (by simp) fun g5 _ s5=>stop g5 e (fun c o c1 c2 c3 c4 x=>s5.extBut _ _ c1 (s4 _ _ c4 (M.extBut _ _ c2 (s2.extBut _ _ c3 (s1.extBut _ _ c1 x))))) ⟨oe,s5.extBut _ _ U F,R⟩
theorem xU{b1 b2:Bool}{z TI TO Z I q M:EN}{k:Nat}{xs U:EZ EL}{a b:EL}{Q:EO EL->EM->Prop}(hh:A.handled=none)(D:ZipApart z TI TO Z I q M)
  (hz:IsZip s.heap z TI TO .none) (L:IsPair s.heap TI (.ref Z) (.ref I)) (R:IsPair s.heap TO a b) (h1:fO b1 Z q xs k s.heap) (h2:fO b2 I M U k s.heap) (Y:xs[k]? = none∨U[k]? = none)
  (hQ:∀h',(∀c o,c≠z->c≠TO->c≠Z->c≠I->s.heap.get? c=some o->h'.get? c=some o)->Q none { s with heap:=h' }):wpAny (model prog w) A (pyNext (.ref z)) Q E s:=by have hT:s.TypeIs (.ref z) "zip" :=⟨_,hz,rfl⟩;unfold pyNext;refine AA (Bt (A6 (name:=Str.ofString "__next__") hT F.slot_zip_next (BA F.slot_zip_next hT F.entry_zip_next (DN hh D hz L R h1 h2 Y fun h' e hk he=>?_) (F.args_zip_next_1 _))));obtain⟨o,ho,hc⟩:=he;refine AA (Bd (T := "StopIteration") (b:=true) ⟨o,ho,hc⟩ C6 ?_);exact AB (hQ _ hk)
def WU(b:Bool)(l:EN):Obj:={ cls:=.type (cond b "tuple_iterator" "list_iterator"),data:=.fields #[.ref l,.int 0 0] }
def fh(b:Bool)(l:EN)(xs:EZ EL)(h:Heap):Prop:=match b with|true=>h.IsTuple l xs|false=>h.IsList l xs
def fh.push{b:Bool}{l:EN}{xs:EZ EL}{h:Heap}(S:fh b l xs h)(o:Obj):fh b l xs (h.push o):=by
 cases b;exact Heap.IsList.push S o;exact Heap.IsTuple.push S o
def fh.here{b:Bool}{l:EN}{xs:EZ EL}{h:Heap}(S:fh b l xs h):∃o,h.get? l=some o:=by
 cases b;obtain⟨o,e,_⟩:=S;exact⟨o,e⟩;obtain⟨o,e,_⟩:=S;exact⟨o,e⟩
def fh.at{b:Bool}{l:EN}{xs:EZ EL}{h h':Heap}(S:fh b l xs h)(e:∀o,h.get? l=some o->h'.get? l=some o):fh b l xs h':=by
 cases b;exact Heap.IsList.at S e;obtain⟨o,q,r⟩:=S;exact⟨o,e o q,r⟩
def fh.iter{b:Bool}{l:EN}{xs:EZ EL}{Q:EL->EM->Prop}(S:fh b l xs s.heap)(I:Q (.ref s.heap.objs.size) { s with heap:=s.heap.push (WU b l) }):wpAny (model prog w) A (pyIter (.ref l)) Q E s:=by
 cases b;exact Ci S I;exact wpAny_pyIter_tuple S I
def fh.src{b:Bool}{i l:EN}{xs:EZ EL}{h:Heap}(S:fh b l xs h)(e:h.get? i=some (WU b l)):fO b i l xs 0 h:=by
 cases b;exact⟨⟨_,e,rfl,rfl⟩,S⟩;exact⟨⟨_,e,rfl,rfl⟩,S⟩
def hJ(L U:Bool)(h:Heap)(Y Z:EN):Heap:=(h.push (WU L Y)).push (WU U Z)
def gU(L U:Bool)(h:Heap)(Y Z:EN):Heap:=(((hJ L U h Y Z).push { cls:=.type "tuple",data:=.seq #[.ref h.objs.size,.ref (h.objs.size+1)] }).push { cls:=.type "tuple",data:=.seq #[.none,.none] }).push { cls:=.type "zip",data:=.fields #[.none,.bool false,.bool false,.ref (h.objs.size+2),.ref (h.objs.size+3)] }
def pf(L U:Bool)(Y Z:EN)(xs ys:EZ EL) :
  Meets (Builtin.«zip.__new__» ⟨[.type "zip",.ref Y,.ref Z],[]⟩) (fun _ R s=>fh L Y xs s.heap∧fh U Z ys s.heap ∧
   R (.ok (.ret (.ref (s.heap.objs.size+4)))) { s with heap:=gU L U s.heap Y Z }) :=
 .of_wp fun prog w A R s h=>by
  obtain⟨F,g,d,tk,os⟩:=s;obtain⟨I,q,h⟩:=h;have a1:=sub_zip;have M:fh L Y xs (Shared.heap ⟨F,g,d,tk,os⟩):=I;have a0:fh U Z ys (Shared.heap ⟨F.push (WU L Y),g,d,tk,os⟩):=q.push _
  wp_walk using fh.iter M,fh.iter a0
  refine⟨_,rfl,?_⟩;have z1:(F.push (WU L Y)).objs.size=F.objs.size+1:=BI ..;unfold gU hJ at h;simp only[BI];exact h
theorem vL{L U:Bool}{Y Z:EN}{xs R:EZ EL}{Q:EL->EM->Prop}(I:fh L Y xs s.heap)(q:fh U Z R s.heap)
  (h:∀h',IsZip h' (s.heap.objs.size+4) (s.heap.objs.size+2) (s.heap.objs.size+3) .none->IsPair h' (s.heap.objs.size+2) (.ref s.heap.objs.size) (.ref (s.heap.objs.size+1)) ->
   IsPair h' (s.heap.objs.size+3) .none .none->fO L s.heap.objs.size Y xs 0 h'->fO U (s.heap.objs.size+1) Z R 0 h' ->
   (∀c o,s.heap.get? c=some o->h'.get? c=some o)->Q (.ref (s.heap.objs.size+4)) { s with heap:=h' }) :
  wpAny (model prog w) A (call (.type "zip") [.ref Y,.ref Z]) Q E s:=by
 refine callType_new F.called_zip (by decide) (F.typeCall_zip_2 _ _) (F.newCall_zip_2 _ _) (fun obj=>F.args_object_init_3 obj _ _) F.entry_zip_new
  (pf L U Y Z xs R) ⟨I,q,?_⟩
 have z1:(s.heap.push (WU L Y)).objs.size=s.heap.objs.size+1:=BI ..;have z2:(hJ L U s.heap Y Z).objs.size=s.heap.objs.size+2:=by unfold hJ;rw[BI,z1]
 have g5:(gU L U s.heap Y Z).get? (s.heap.objs.size+4)=some { cls:=.type "zip",data:=.fields #[.none,.bool false,.bool false,.ref (s.heap.objs.size+2),.ref (s.heap.objs.size+3)] }:=by
  have:=AQ (((hJ L U s.heap Y Z).push { cls:=.type "tuple",data:=.seq #[.ref s.heap.objs.size,.ref (s.heap.objs.size+1)] }).push { cls:=.type "tuple",data:=.seq #[.none,.none] }) (o:={ cls:=.type "zip",data:=.fields #[.none,.bool false,.bool false,.ref (s.heap.objs.size+2),.ref (s.heap.objs.size+3)] }) rfl
  simp only[BI,z2]at this;exact this
 have g4:(gU L U s.heap Y Z).get? (s.heap.objs.size+3)=some { cls:=.type "tuple",data:=.seq #[.none,.none] }:=by
  have:=AQ ((hJ L U s.heap Y Z).push { cls:=.type "tuple",data:=.seq #[.ref s.heap.objs.size,.ref (s.heap.objs.size+1)] }) (o:={ cls:=.type "tuple",data:=.seq #[.none,.none] }) rfl
  simp only[BI,z2]at this;exact AD _ this
 have g3:(gU L U s.heap Y Z).get? (s.heap.objs.size+2)=some { cls:=.type "tuple",data:=.seq #[.ref s.heap.objs.size,.ref (s.heap.objs.size+1)] }:=by
  have:=AQ (hJ L U s.heap Y Z) (o:={ cls:=.type "tuple",data:=.seq #[.ref s.heap.objs.size,.ref (s.heap.objs.size+1)] }) rfl
  rw[z2]at this;exact AD _ (AD _ this)
 have up:∀c o,(hJ L U s.heap Y Z).get? c=some o->(gU L U s.heap Y Z).get? c=some o:=fun c o e=>AD _ (AD _ (AD _ e));have g2:(gU L U s.heap Y Z).get? (s.heap.objs.size+1)=some (WU U Z):=by
  have:=AQ (s.heap.push (WU L Y)) (o:=WU U Z) rfl
  rw[z1]at this;exact up _ _ this
 have g1:(gU L U s.heap Y Z).get? s.heap.objs.size=some (WU L Y):=up _ _ (AD _ (AQ _ rfl));have M:∀c o,s.heap.get? c=some o->(gU L U s.heap Y Z).get? c=some o:=fun c o e=>up _ _ (AD _ (AD _ e));show _∧_;exact⟨⟨_,g5,rfl⟩,h _ g5 g3 g4 ((I.at fun o e=>M _ o e).src g1) ((q.at fun o e=>M _ o e).src g2) M⟩
end
def gC(b:Bool)(K:EQ)(H:Hp)(l:EN)(xs:EK V):Prop:=match b with|true=>fC K H l xs|false=>fm K H l xs
def yA{X:Cx}{Ee:EK (EN×Obj)}{σ:L2.St}{H:Hp}{s:EM}(I:L2.Inv X Ee σ H s){b:Bool}{l:EN}{xs:EK V}(h:gC b X.K H l xs):∃us:EK EL,ei xs us∧fh b l us.toArray s.heap:=by
 cases b;obtain⟨us,r,p,_⟩:=I.list h;exact⟨us,r,p.isList⟩;obtain⟨us,r,p,_⟩:=I.tuple h;exact⟨us,r,p⟩
def lY{X:Cx}{Ee:EK (EN×Obj)}{σ:L2.St}{H:Hp}{s:EM}(I:L2.Inv X Ee σ H s){b:Bool}{l:EN}{xs M:EK V}(h:gC b X.K H l xs)(h':gC b X.K H l M):xs=M:=by
 cases b;exact I.list_inj h h';exact I.tuple_inj h h'
def nw(L U:Bool)(K:EQ)(Y Z:EN):It :=
 ⟨fun i H=>∃xs M x y,gC L K H Y xs∧gC U K H Z M∧xs[i]? = some x∧M[i]? = some y,
  fun i H v H'=>∃T x y,H T=none∧v= .ref T∧H'=eN H T (.tup [x,y])∧∀xs M,gC L K H Y xs->gC U K H Z M->xs[i]? = some x∧M[i]? = some y,
  fun i H=>∃xs M,gC L K H Y xs∧gC U K H Z M∧(xs.length≤i∨M.length≤i)⟩
def fk(b:Bool)(i l:EN)(k:Nat)(h:Heap):Prop:=match b with|true=>h.IsTupleIter i l k|false=>h.IsListIter i l k
def fk.at{b:Bool}{i l:EN}{k:Nat}{h h':Heap}(S:fk b i l k h)(e:∀o,h.get? i=some o->h'.get? i=some o):fk b i l k h':=by
 cases b;exact Heap.IsListIter.at S e;exact Heap.IsTupleIter.at S e
def fk.here{b:Bool}{i l:EN}{k:Nat}{h:Heap}(S:fk b i l k h):∃o,h.get? i=some o∧∃vs,o.data= .fields vs:=by
 cases b;obtain⟨o,e,_,d⟩:=S;exact⟨o,e,_,d⟩;obtain⟨o,e,_,d⟩:=S;exact⟨o,e,_,d⟩
def fk.src{b:Bool}{i l:EN}{k:Nat}{xs:EZ EL}{h:Heap}(S:fk b i l k h)(M:fh b l xs h):fO b i l xs k h:=by
 cases b;exact⟨S,M⟩;exact⟨S,M⟩
def fO.iter{b:Bool}{i l:EN}{k:Nat}{xs:EZ EL}{h:Heap}(S:fO b i l xs k h):fk b i l k h:=by
 cases b;exact S.1;exact S.1
def oy(L U:Bool)(z TI TO Z I Y q:EN)(i:Nat)(h:Heap):Prop:=IsZip h z TI TO .none∧IsPair h TI (.ref Z) (.ref I)∧(∃a b,IsPair h TO a b)∧fk L Z Y i h∧fk U I q i h
def Dj{P:ER}{w:EU}{K:EQ}{A:EW}{EC:EK EY}{n:Nat}{pos:Pos}(hA:A.handled=none)(b1 b2:Bool)(z TI TO i1 i2 l1 l2:EN)(D:ZipApart z TI TO i1 i2 l1 l2) :
  gp P w K A (.Tuple EC n pos) (nw b1 b2 K l1 l2) [z,TI,TO,i1,i2] z (oy b1 b2 z TI TO i1 i2 l1 l2) where
 mem:=by simp
 obj:=fun i h st b hb=>by
  obtain⟨a1,a2,⟨a,c,a3⟩,s4,s5⟩:=st;obtain⟨o4,a4,_,d4⟩:=s4.here;obtain⟨o5,a5,_,d5⟩:=s5.here;simp only[AJ,Ae,BX]at hb;rcases hb with rfl|rfl|rfl|rfl|rfl
  ·exact⟨_,a1,fun v q=>by cases (show Data.fields _=Data.cell v from q)⟩
  ·exact⟨_,a2,fun v q=>by cases (show Data.seq _ _=Data.cell v from q)⟩
  ·exact⟨_,a3,fun v q=>by cases (show Data.seq _ _=Data.cell v from q)⟩
  ·exact⟨_,a4,fun v q=>by rw[d4]at q;cases q⟩
  ·exact⟨_,a5,fun v q=>by rw[d5]at q;cases q⟩
 keep:=fun i h h' st k=>by obtain⟨a1,a2,⟨a,c,a3⟩,a4,a5⟩:=st;exact⟨k z (by simp) _ a1,k TI (by simp) _ a2,⟨a,c,k TO (by simp) _ a3⟩,a4.at fun o e=>k i1 (by simp) o e,a5.at fun o e=>k i2 (by simp) o e⟩
 item:=by
  intro X hP hw hK hA' i Ee s σ H E I hf st hg;subst hP hw hK;obtain⟨xs,ys,x,y,q1,q2,e1,e2⟩:=hg;obtain⟨a1,a2,⟨a,c,a3⟩,a4,a5⟩:=st;obtain⟨us,r1,p1⟩:=yA I q1;obtain⟨vs,r2,p2⟩:=yA I q2;obtain⟨u,g1,ru⟩:=r1.get e1;obtain⟨v,g2,rv⟩:=r2.get e2;refine tS D a1 a2 a3 (a4.src p1) (a5.src p2) (x:=u) (y:=v) (by simpa using g1) (by simpa using g2) fun h' z1 z2 z3 z4 z5 z7=>⟨_,rfl,?_⟩;refine wpAny_letOwnedTupleGo_zip (s:={ s with heap:=h' }) z1 fun h2 y1 y2=>?_;have nz:s.heap.objs.size≠z:=Cj (AK a1);have EE:∀b,b≠z->h2.get? b=h'.get? b:=fun b hb=>y2.2 b hb;have tz:oy b1 b2 z TI TO i1 i2 l1 l2 (i+1) h2:=⟨y1,(EE TI D.TIz).trans (z7 TI _ D.TIz D.TITO D.TIi1 D.TIi2 a2),⟨u,v,(EE TO D.TOz).trans z2⟩,z3.iter.at fun o e=>(EE i1 D.i1z).trans e,z4.iter.at fun o e=>(EE i2 D.i2z).trans e⟩;have hT:IsPair h2 s.heap.objs.size u v:=(EE _ nz).trans z5;have I2:=D1 (t':=s.toks) (h':=h2) I hf ru rv (fun b o hb e=>(EE b fun q=>hb (by simp[q])).trans (z7 b o (fun q=>hb (by simp[q])) (fun q=>hb (by simp[q])) (fun q=>hb (by simp[q])) (fun q=>hb (by simp[q])) e)) (fun b hb=>by
   obtain⟨b1,b2,⟨a',c',b3⟩,s4,s5⟩:=tz;obtain⟨o4,b4,_⟩:=s4.here;obtain⟨o5,b5,_⟩:=s5.here;simp only[AJ,Ae,BX]at hb;rcases hb with rfl|rfl|rfl|rfl|rfl
   ·exact⟨_,b1⟩
   ·exact⟨_,b2⟩
   ·exact⟨_,b3⟩
   ·exact⟨_,b4⟩
   ·exact⟨_,b5⟩) hT
  refine⟨.ref s.heap.objs.size,_,I2,rfl,⟨_,x,y,I.hok.fresh (AN _),rfl,rfl,fun xs' ys' h1 h2=>?_⟩,tz,fun b hb=>?_⟩;rw[lY I h1 q1,lY I h2 q2];exact⟨e1,e2⟩
  ·have:=(hf b hb).1
   have ne:b≠s.heap.objs.size:=by
    simp only[AJ,Ae,BX]at hb;obtain⟨o4,b4,_⟩:=a4.here;obtain⟨o5,b5,_⟩:=a5.here;rcases hb with rfl|rfl|rfl|rfl|rfl
    ·exact AV (AK a1)
    ·exact AV (AK a2)
    ·exact AV (AK a3)
    ·exact AV (AK b4)
    ·exact AV (AK b5)
   rw[qP ne];exact this
 done:=by
  intro X hP hw hK hA' i Ee s σ H E I hf st hg;subst hP hw hK;obtain⟨xs,ys,q1,q2,e1⟩:=hg;obtain⟨a1,a2,⟨a,c,a3⟩,a4,a5⟩:=st;obtain⟨us,r1,p1⟩:=yA I q1;obtain⟨vs,r2,p2⟩:=yA I q2;have n1:=r1.length;have n2:=r2.length;refine xU (by rw[hA'];exact hA) D a1 a2 a3 (a4.src p1) (a5.src p2) (e1.imp (fun q=>by simp;omega) fun q=>by simp;omega) fun h' k=>⟨rfl,?_⟩;have nf:∀b u,H b=some u->b∉[z,TI,TO,i1,i2]:=fun b u e q=>by rw[(hf b q).1]at e;cases e
  have kk:∀b o,b∉[z,TI,TO,i1,i2]->s.heap.get? b=some o->h'.get? b=some o:=fun b o hb e=>k b o (fun q=>hb (by simp[q])) (fun q=>hb (by simp[q])) (fun q=>hb (by simp[q])) (fun q=>hb (by simp[q])) e;exact I.call (g':=s.gens) (d':=s.drawn) (t':=s.toks) (ch:=[z,TI,TO,i1,i2]) ⟨fun b o e _ _ hb=>kk b o hb e,fun b o e _ _ hb=>⟨o.slots,kk b o hb e⟩,fun b o e n _=>n,fun b o e hb=>⟨o,kk b o hb e⟩,fun b xs e=>e,fun b o u e=>e,fun b ps e=>⟨#[],by rw[e];simp⟩⟩
   (fun b u' e=>(I.hok b u' e).stay (fun c w hc q=>kk c w (hc.elim (fun z=>by rw[z];exact nf _ _ e) fun z=>nf _ _ z) q) (fun c q=>q) fun c xs q=>q) I.bare fun b hb=>⟨(hf b hb).2.2.2.1,(hf b hb).2.1,(hf b hb).2.2.2.2.1,(hf b hb).2.2.2.2.2⟩
 self:=fun _ _ _ _ _ st h=>wpAny_pyIter_zip st.1 h
section
variable{X:Cx}{a b:EY}{ta:TA}{p pos:Pos}{EC:EK EY}{n:Nat}{tpos:Pos}
def B2(K:EQ)(ta:TA):TI:=fun σ H R=>ta σ H fun vs H1=>∃L U Y Z,vs=[.ref Y,.ref Z]∧(∃xs,gC L K H1 Y xs)∧(∃M,gC U K H1 Z M)∧R (nw L U K Y Z) H1
def xz(hc:X.calm=true)(hg:Gl X "zip")(hm:X.mg "zip" = none)(ha:PA X [a,b] ta)(he:starEach [a,b] X.env=(false,eval a X.env)::starEach [b] X.env:=by rfl)(Ep:(backTo pos (starEach [b] X.env)).any (·.1)=false:=by rfl) :
  PI X (.Tuple EC n tpos) (.Call (.Name "zip" p) [a,b] [] pos) (B2 X.K ta):=by
 intro Ee s σ H R I h;refine Be (Wq I hg hm PyProof.Rows.boot_zip ?_);refine Bl (eK (ha pos Ee s σ H _ I h) fun us s1 ⟨vs,H1,L,Y,q1⟩=>?_) he Ep;obtain⟨b1,b2,l1,l2,rfl,⟨xs,h1⟩,⟨ys,h2⟩,q⟩:=q1;obtain⟨u,v,rfl,ru,rv⟩:=Zh Y;cases ru;cases rv;obtain⟨ts,Y,p1⟩:=yA L h1;obtain⟨ws,r2,p2⟩:=yA L h2;refine vL p1 p2 fun h' c1 c2 c3 c4 c5 c7=>?_;refine wpAny_pyIter_zip c1 ?_;have Z:l1<s1.heap.objs.size:=by obtain⟨_,e⟩:=p1.here;exact AK e
 have M:l2<s1.heap.objs.size:=by obtain⟨_,e⟩:=p2.here;exact AK e
 have I2:L2.Inv X Ee σ H1 { s1 with heap:=h' }:=L.kept (t':=s1.toks) c7;refine⟨_,_,_,_,H1,rfl,I2,Dj (L.ok.hd hc) b1 b2 _ _ _ _ _ _ _ (PyProof.Rows.zipApart_new Z M),⟨c1,c2,⟨_,_,c3⟩,c4.iter,c5.iter⟩,fun c F=>?_,q⟩;have U:s1.heap.objs.size≤c:=by
  simp only[AJ,Ae,BX]at F;rcases F with rfl|rfl|rfl|rfl|rfl
  ·exact CD _ _
  ·exact CD _ _
  ·exact CD _ _
  ·exact AN _
  ·exact CD _ _
 exact L.fpOk U (L.hok.fresh U)
end
end EX
namespace EV
open PySem PySem.Spec PyProof.Rows L2 EX
section
variable{X:Cx}{E:XK}{e a c d:EY}{es:EK EY}{f fa fb fc:FE}{fl:FL}{pos:Pos}{F G:FS}
def kQ:PV->Bool| .tup _=>true|_=>false
def ZY{K:EQ}{H:Hp}{b:Bz}{st:qC}{p:PV}{v:V}{l:EK PV}(S:SR K H b st)(r:RV K H b p v)(h:WN st p=some l) :
  ∃x xs,v= .ref x∧gC (kQ p) K H x xs∧ee K H b l xs:=by
 unfold WN at h;split at h;cases h;unfold RV at r;obtain⟨x,xs,rfl,U,F⟩:=r;exact⟨x,xs,rfl,U.sq,F⟩
 ·rename_i L
  have:kQ p=false:=by unfold kQ;split <;> first|(exact absurd rfl (L _))|rfl
  rw[this];exact Q6 S r h
def om(ps:EK PV)(st:qC):Rs ItP:=match ps with
 |[p,q]=>match WN st p,WN st q with|some l,some m=>.ok ⟨Zv l m,fun s=>WN s p=some l∧WN s q=some m⟩ st|_,_=>.no
 |_=>.no
def jC(t:FA):FI:=fun r st=>(t r st).bind om
def u0{Z:EK EY}{n:Nat}{L p:Pos}{t:FA}(hc:X.calm=true)(hm:X.mg "zip" = none)(ha:VA X E [a,c] t)(hg:Gl X "zip" :=by rfl)(he:starEach [a,c] X.env=(false,eval a X.env)::starEach [c] X.env:=by rfl)(Ep:(backTo pos (starEach [c] X.env)).any (·.1)=false:=by rfl) :
  VI X E (.Tuple Z n L) (.Call (.Name "zip" p) [a,c] [] pos) (jC t):=fun Ee s σ H R I q=>xz hc hg hm ha he Ep Ee s σ H R I (by
 obtain⟨b,r,st,S,RE,P⟩:=q;refine⟨b,r,st,S,RE,eG.bindI P fun l s1 us H1 b1 e1 S1 r1 M=>?_⟩;unfold om at M;split at M
 ·rename_i p q;obtain⟨u,v,rfl,h1,h2⟩:=ee.two r1;split at M
  ·rename_i l m el em;obtain⟨x,xs,rfl,k1,k2⟩:=ZY S1 h1 el;obtain⟨y,ys,rfl,k3,k4⟩:=ZY S1 h2 em;refine⟨kQ p,kQ q,x,y,rfl,⟨xs,k1⟩,⟨ys,k3⟩,M _ H1 b1 (eE.refl _ _) S1 fun H2 b2 a0 e2 _ S2 g2=>?_⟩;obtain⟨x',F,ex,j1,j2⟩:=ZY S2 (RV.wext e2 p h1) g2.1;cases ex;obtain⟨y',Y,ey,j3,j4⟩:=ZY S2 (RV.wext e2 q h2) g2.2;cases ey;refine⟨fun i w hw=>?_,fun i hi=>?_⟩
   ·obtain⟨x1,y1,w1,w2,rfl⟩:=JY hw;obtain⟨v1,z1,z2⟩:=j2.get w1;obtain⟨v2,z3,z4⟩:=j4.get w2;refine⟨⟨F,Y,v1,v2,j1,j3,z1,z3⟩,fun z H3 ⟨T,a1,a2,U,hz,hH,ha⟩=>?_⟩;subst hz;subst hH;obtain⟨q1,q2⟩:=ha F Y j1 j3;rw[z1]at q1;cases q1;rw[z3]at q2;cases q2;refine⟨fun b' o h=>by rw[qP (qN h U)];exact h,S2.new U,?_⟩;unfold RV;exact⟨T,_,rfl,.inl ⟨QN,S2.new_notin U⟩,ee.cons (RV.wext (WE.new U) _ z2) (ee.cons (RV.wext (WE.new U) _ z4) ee.nil)⟩
   ·have hi:min l.length m.length≤i:=by rw[←JS];exact hi
    exact⟨F,Y,j1,j3,by rw[←j2.length,←j4.length];omega⟩
  ·exact M.elim
 ·exact M.elim)
end
end EV
end
section
namespace EV
open PySem PySem.Spec PyProof.Rows L2 EX
section
variable{X:Cx}{E:XK}
def ls(sc:Scope)(x:Str):Bool:=match sc.names.lookup x with|some .local=>true|some .cell=>true|some .free=>true|_=>false
def pN{sc:Scope}{x:Str}(h:ls sc x=true):iz sc x:=by
 unfold ls at h;unfold iz;split at h;rename_i e;exact .inl e;rename_i e;exact .inr (.inl e);rename_i e;exact .inr (.inr e);cases h
def qG(i:Nat){x:Str}{pos:Pos}(Z:X.N[i]? = some x:=by rfl)(L:ls X.env.scope x=true:=by rfl)(hd:((x==("__debug__":Str))||(x==("__classdict__":Str)))=false:=by rfl):VE X E (.Name x pos) (qB i):=by rw[Bool.or_eq_false_iff]at hd;exact ur (pv i Z (pN L) hd.1 hd.2)
def iA(X:Cx):EK (Str×NameKind)->Bool|[]=>true|(x,.free)::l=>(match X.env.kindOf x with|some .cell=>true|some .free=>true|_=>false)&&iA X l|_::l=>iA X l
def mL:∀{l:EK (Str×NameKind)},iA X l=true->∀x∈l,x.2= .free->(X.env.kindOf x.1=some .cell∨X.env.kindOf x.1=some .free)
 |[],_,x,hx,_=>by cases hx
 |(y,k)::l,h,x,hx,R=>by
  rcases AJ.mp hx with rfl|hx
  ·have R:k= .free:=R;subst R;unfold iA at h;rw[Ar]at h;have h:=h.1;split at h;rename_i e;exact .inl e;rename_i e;exact .inr e;cases h
  ·refine mL (l:=l) ?_ x hx R;unfold iA at h;split at h;rename_i q;cases q;rename_i q;cases q;rw[Ar]at h;exact h.2;rename_i q;cases q;exact h
def kE(X:Cx)(l:EK (Str×NameKind)):EK Str->EK Nat->Prop|x::xs,j::L=>(X.N[j]? = some x∧l.lookup x=some .free)∧kE X l xs L|_,_=>True
def YC{x:Str}{k:NameKind}:∀{l:EK (Str×NameKind)},l.lookup x=some k->(x,k)∈l
 |[],h=>by cases h
 |(y,q)::l,h=>by
  rw[At]at h;split at h;rename_i e;cases h;rw[eq_of_beq e];exact AT;exact AO _ (YC h)
def l0{l:EK (Str×NameKind)}:∀{xs:EK Str} {L:EK Nat},kE X l xs L->∀(i:Nat) (x:Str) (j:Nat),xs[i]? = some x->L[i]? = some j->X.N[j]? = some x∧(x,NameKind.free)∈l
 |[],_,_,i,x,j,Y,_=>by cases Y
 |_::_,[],_,i,x,j,_,U=>by cases U
 |a::xs,b::L,h,i,x,j,Y,U=>by
  unfold kE at h;cases i with|zero=>cases Y;cases U;exact⟨h.1.1,YC h.1.2⟩|succ i=>exact l0 h.2 i x j Y U
def wP{scope:Scope}{Eo Ej:EK Str}{Ei:EK Nat}(Y:scope.kind= .function)(U:(scope.names.map (·.1)).Nodup)(F:iA X scope.names=true)(q:Eo.length=Ei.length)(I:kE X scope.names Eo Ei):i0 X scope Eo Ej Ei :=
 ⟨Y,U,mL F,q,l0 I⟩
end
end EV
end
section
namespace EX
open PySem PySem.Spec PyProof.Rows L2
end EX
namespace EV
open PySem PySem.Spec PyProof.Rows L2 EX
end EV
end
section
namespace EV
open PySem PySem.Spec PyProof.Rows L2 EX
section
variable{X:Cx}{E:XK}{e:EY}{es:EK EY}{pos:Pos}
def Ed{a:EY}{n:Str}{f:FE}{g:FA}(h:VE X E (.Attribute a n pos) f)(U:VA X E es g):VA X E (.Attribute a n pos::es) (qA f g):=Qt h U rfl
end
end EV
end
section
namespace EX
open PySem PySem.Spec PyProof.Rows L2
end EX
namespace EV
open PySem PySem.Spec PyProof.Rows L2 EX
end EV
end
section
namespace EX
open PySem PySem.Spec PyProof.Rows L2
end EX
namespace EV
open PySem PySem.Spec PyProof.Rows L2 EX
end EV
end
section
namespace EX
open PySem PySem.Spec PyProof.Rows L2
end EX
namespace EV
open PySem PySem.Spec PyProof.Rows L2 EX
end EV
end
section
namespace EX
open PySem PySem.Spec PyProof.Rows L2
end EX
namespace EV
open PySem PySem.Spec PyProof.Rows L2 EX
end EV
end
section
namespace EX
open PySem PySem.Spec PyProof.Rows L2
def gb(w:EU):Bool:=w.params.followText "set-order"
def ll:EK Nat->EK (EK Nat)|[]=>[[]]|x::xs=>ll xs++(ll xs).map (x :: ·)
def Wc(k:Nat):EK (EK Nat):=(ll (List.range 8)).filter fun l=>Nat.beq l.length k
def yt(place:EZ Nat):SetTable:=⟨7,place,#[],0,true,0,true⟩
def ow(pl:EK Nat)(k:Nat)(h:Int):Bool:=match (yt pl.toArray).freeSlot h with|some (slot,false)=>decide ((SetTable.insertAt pl.toArray (SetTable.below pl.toArray slot) slot).toList∈Wc (k+1))|_=>false
def uj:([0,1,2,3].all fun k=>(Wc k).all fun pl=>[1,2,3,4,5,6,7,8,9].all fun h=>ow pl k h)=true:=by decide +kernel
structure gN (w:World) (t:SetTable) (k:Nat):Prop where
 mask:t.mask=7
 dum:t.dummies = #[]
 led:t.led= !gb w
 pl:t.plain=true
 ris:t.place.toList∈Wc k
def fY(w:EU)(h:Heap)(a:EN)(ns:EK Int):Prop:=∃o es ep t,h.get? a=some o∧o.ExactSet∧o.data=Data.set es ep t∧(∀e∈es.toList,(∃q,e.2=Value.int e.1 q)∧1≤e.1∧e.1≤9)∧es.toList.map (·.1)=ns∧gN w t ns.length
def ZA{k:Nat}{l:EK Nat}(h:l∈Wc k):l.length=k:=by unfold Wc at h;exact Nat.eq_of_beq_eq_true (B5.mp h).2
def vp{n:Int}(Y:1≤n)(U:n≤9):n∈([1,2,3,4,5,6,7,8,9]:EK Int):=by
 have:n=1∨n=2∨n=3∨n=4∨n=5∨n=6∨n=7∨n=8∨n=9:=by omega
 simp only[AJ,Ae,BX];exact this
def lH{n:Int}(Y:1≤n)(U:n≤9):hashInt n=n:=by
 have:n=1∨n=2∨n=3∨n=4∨n=5∨n=6∨n=7∨n=8∨n=9:=by omega
 rcases this with rfl|rfl|rfl|rfl|rfl|rfl|rfl|rfl|rfl <;> rfl
def j8{t:SetTable}(M:t.mask=7)(hd:t.dummies = #[])(f:Nat->Int)(h:Int):∀(n:Nat) (p:SetTable.Probe),SetTable.probe.go t f h n p=SetTable.probe.go (yt t.place) f h n p:=by
 intro n;obtain⟨m,pl,d,fi,le,mo,pn⟩:=t;have M:m=7:=M;have hd:d = #[]:=hd;subst M;subst hd;induction n with|zero=>intro p;rfl|succ n I=>intro p;rw[SetTable.probe.go,SetTable.probe.go];simp only[I];rfl
def YD{t:SetTable}(M:t.mask=7)(hd:t.dummies = #[])(h:Int):t.freeSlot h=(yt t.place).freeSlot h:=by
 have U:(yt t.place).probeStart h=t.probeStart h:=by unfold SetTable.probeStart yt;rw[M]
 unfold SetTable.freeSlot SetTable.probe;rw[j8 M hd,U,M];rfl
def DJ{w:EU}{t:SetTable}{k:Nat}{h:Int}(T:gN w t k)(R:k≤3)(Y:1≤h)(U:h≤9):∃slot,t.freeSlot h=some (slot,false)∧(SetTable.insertAt t.place (SetTable.below t.place slot) slot).toList∈Wc (k+1):=by
 have Z:k∈[0,1,2,3]:=by
  have:k=0∨k=1∨k=2∨k=3:=by omega
  simp only[AJ,Ae,BX];exact this
 have e:=A0.mp (A0.mp (A0.mp uj k Z) _ T.ris) h (vp Y U);unfold ow at e;rw[YD T.mask T.dum];have q:t.place.toList.toArray=t.place:=by simp
 rw[q]at e;split at e;rename_i slot es;exact⟨slot,es,BV e⟩;cases e
section
variable{prog:ER}{w:EU}{A:EW}{E:EL->EM->Prop}{s:EM}
def uH{es:EK (Int×EL)}(h:∀e∈es,(∃q,e.2=Value.int e.1 q)∧1≤e.1∧e.1≤9):ElemsOf (intKind prog w) es:=fun e R=>by
 obtain⟨⟨q,Y⟩,U,F⟩:=h e R;refine⟨⟨e.1,?_,(lH U F).symm⟩,?_⟩;rw[Y];exact Cq prog w e.1 q;rw[Y];rfl
def DV{k n:Int}{q:Tok}:(intKind prog w).is k (.int n q)=decide (n=k):=by
 by_cases h:n=k;subst h;rw[Cq];exact (Af rfl).symm
 ·rw[Ak h];cases e:(intKind prog w).is k (.int n q) with|false=>rfl|true=>exact absurd ((intKind prog w).inj _ _ _ (Cq prog w n q) e) h
def v5{a:EN}{k:Int}{q:Tok}{ns:EK Int}{Q:Bool->EM->Prop}(S:fY w s.heap a ns)(hn:ns.length≤3)(h1:1≤k)(h2:k≤9)
  (h:∀(h':Heap) (a1:EK Int),Heap.SameBut a s.heap h'->fY w h' a a1->a1.Perm (if k∈ns then ns else ns++[k])->Q (decide (k∉ns)) { s with heap:=h' }):wpAny (model prog w) A (setAddHashed a (.int k q) k) Q E s:=by
 obtain⟨o,es,ep,t,ho,hx,hd,U,hm,T⟩:=S;have a2:es.size=ns.length:=by rw[←hm,AG,Ai]
 have M:t.fits es.size=true:=by
  unfold SetTable.fits;rw[Ar]
  have:=ZA T.ris
  rw[Ai]at this;refine⟨by rw[this,a2];exact Aj _,Af ?_⟩;unfold SetTable.fill;rw[T.dum,T.mask,this];show ns.length+0≤7;omega
 have a3:=uH (prog:=prog) (w:=w) U;have hk:=lH h1 h2;unfold setAddHashed;refine Ay ?_;rw[setAddHashedIn.eq_def];refine AA (Ba ho hd M ?_);dsimp only;rw[AC (byScan_of (knd:=intKind prog w) (x:=.int k q) rfl (by rw[a2];exact Cc hn (by decide)) a3)];refine AA ?_;rw[setAddByScan.eq_def];refine AA (BM (AA ?_));have I:=@wpAny_setScan_of prog w Int _ (intKind prog w) A E s a o es ep t (.int k q) k true;rw[show (intKind prog w).hash k=k from hk]at I;refine I (Cq prog w k q) ho hd M a3 ?_;have Z:∀l:EK (Int×EL),(∀e∈l,(∃q,e.2=Value.int e.1 q)∧1≤e.1∧e.1≤9)->(l.findIdx? fun e=>(intKind prog w).is k e.2).isSome=decide (k∈l.map (·.1)):=by
  intro l hl;induction l with
  |nil=>rfl
  |cons e l ih =>
   obtain⟨⟨a9,he⟩,_⟩:=hl e AT;rw[List.findIdx?_cons,he,DV];by_cases hq:e.1=k
   ·rw[AC (by rw[Af hq])];exact (Af (by rw[AU,hq];exact AT)).symm
   ·rw[AF (by rw[Ak hq];simp),Option.isSome_map,ih fun x hx=>hl x (AO _ hx)];refine decide_eq_decide.mpr ⟨fun z=>AO _ z,fun z=>?_⟩;rcases AJ.mp z with z|z
    ·exact absurd z.symm hq
    ·exact z
 have hf:=Z es.toList U;rw[hm]at hf;cases hi:es.toList.findIdx? fun e=>(intKind prog w).is k e.2 with
 |some j =>
  rw[hi]at hf;have hk:k∈ns:=BV hf.symm;dsimp only;refine AB (AB ?_)
  have:=h s.heap ns ⟨rfl,fun _ _=>rfl⟩ ⟨o,es,ep,t,ho,hx,hd,U,hm,T⟩ (by rw[AC hk])
  rw[Ak (not_not_intro hk)]at this;exact this
 |none =>
  rw[hi]at hf;have a4:k∉ns:=of_decide_eq_false hf.symm;dsimp only;obtain⟨slot,a6,a7⟩:=DJ T hn h1 h2;have F:gN w (t.put slot).1 (ns.length+1):=by refine⟨T.mask,?_,T.led,T.pl,a7⟩;show (if SetTable.has t.dummies slot=true then SetTable.eraseAt t.dummies (SetTable.below t.dummies slot) else t.dummies) = #[];rw[T.dum];rfl
  have Y:(SetTable.insertAt es (t.put slot).2 (k,Value.int k q)).size=ns.length+1:=by unfold SetTable.insertAt;simp only[Array.size_append,Cd,Array.size_extract];omega
  have L:(t.put slot).1.fits (ns.length+1)=true:=by
   unfold SetTable.fits;rw[Ar]
   have:=ZA F.ris
   rw[Ai]at this;refine⟨by rw[this];exact Aj _,Af ?_⟩;unfold SetTable.fill;rw[F.dum,F.mask,this];show ns.length+1+0≤7;omega
  have hl:layNew t es k (.int k q)=(SetTable.insertAt es (t.put slot).2 (k,.int k q),(t.put slot).1,false,false):=by unfold layNew;rw[a6];show (SetTable.insertAt es (t.put slot).2 (k,Value.int k q),(t.put slot).1.orStandIn (SetTable.insertAt es (t.put slot).2 (k,Value.int k q)).size,false,!(t.put slot).1.fits (SetTable.insertAt es (t.put slot).2 (k,Value.int k q)).size)=_;rw[Y];unfold SetTable.orStandIn;rw[AC L,L];rfl
  have R:=layNew_perm t es k (.int k q);rw[hl]at R ⊢;dsimp only;refine AA (Aw (a:=()) (by with_unfolding_all rfl) ?_);rw[AC F.pl];refine AA (Aw (a:=true) (by rw[hashByValue_scannable 8 (x:=.int k q) rfl];rfl) ?_);rw[AC rfl];refine AA (wpAny_storeSet_of ho hd ?_ (by rw[Y];exact AW (Nat.succ_le_succ hn) (by decide)));have a0:(t.put slot).1.tooFull=false:=by
   unfold SetTable.tooFull;refine Ak ?_
   have:=ZA F.ris
   rw[Ai]at this;unfold SetTable.fill;rw[F.dum,F.mask,this];show ¬(ns.length+1+0)*5≥7*3;omega
  rw[a0];rw[AF (by decide)];refine AB (AB ?_);obtain⟨oc,od,a8,Ez⟩:=o;have hd:a8=Data.set es ep t:=hd;subst hd;have hu:({ s with heap:=s.heap.update a (Obj.putSet (SetTable.insertAt es (t.put slot).2 (k,.int k q)) (t.put slot).1) }:EM).heap.get? a=some ⟨oc,od,Data.set (SetTable.insertAt es (t.put slot).2 (k,.int k q)) (ep+1) (t.put slot).1,Ez⟩:=by show (s.heap.update a _).get? a=_;rw[Az _ ho rfl];rfl
  have a5:((SetTable.insertAt es (t.put slot).2 (k,Value.int k q)).toList.map (·.1)).Perm (ns++[k]):=by refine (R.map (·.1)).trans (.of_eq ?_);rw[Ax,Bn,hm];rfl
  have:=h _ ((SetTable.insertAt es (t.put slot).2 (k,Value.int k q)).toList.map (·.1)) ⟨CW ..,fun b hb=>Heap.get?_update_ne _ _ _ _ hb⟩ ⟨_,_,_,_,hu,hx,rfl,fun e he=>?_,rfl,?_⟩ (by rw[AF a4];exact a5)
  ·rw[Af a4]at this;exact this
  ·have he:=R.mem_iff.mp he;rw[Ax]at he;rcases Ab.mp he with he|he
   ·exact U e he
   ·rw[AX.mp he];exact⟨⟨q,rfl⟩,h1,h2⟩
  ·rw[a5.length_eq,Ac];exact F
end
def gE(Eh:EK Int)(k:Int):EK Int:=if k∈Eh then Eh else Eh++[k]
def dd(vs:EK Int):EK Int:=vs.foldl gE []
def tj{vs:EK Int}{i:Nat}(h:i<vs.length):dd (vs.take (i+1))=gE (dd (vs.take i)) (vs.getD i 0):=by unfold dd;rw[Bv h,List.foldl_append,AH,AE h];rfl
def rB{a b:EK Int}{k:Int}(h:a.Perm b):(if k∈a then a else a++[k]).Perm (gE b k):=by
 unfold gE;by_cases q:k∈a;rw[AC q,AC (h.mem_iff.mp q)];exact h;rw[AF q,AF (fun z=>q (h.mem_iff.mpr z))];exact h.append_right _
def yo:∀(vs:EK Int) (Eh:EK Int),(vs.foldl gE Eh).length≤Eh.length+vs.length
 |[],Eh=>AN _
 |k::vs,Eh=>by
  rw[Bo,Aa];have h:=yo vs (gE Eh k)
  have:(gE Eh k).length≤Eh.length+1:=by
   unfold gE;split;omega;rw[Ac];exact AN _
  omega
section
variable{prog:ER}{w:EU}{A:EW}{E:EL->EM->Prop}{R:Result->EM->Prop}
def fY.same{h h':Heap}{a:EN}{ns:EK Int}(S:fY w h a ns)(e:∀o,h.get? a=some o->h'.get? a=some o):fY w h' a ns:=by obtain⟨o,es,ep,t,Y,U⟩:=S;exact⟨o,es,ep,t,e o Y,U⟩
theorem Dg{I:EN}{fp wr:EK EN}{n:Nat}{P:Nat->EL->Prop}{St:Nat->Heap->Prop}(W:Walks prog w A.in1 I fp wr n P St){Sa:EN}(hS:Sa∉fp){vs:EK Int}(hn:vs.length=n)(h4:n≤4)(hv:∀i v,P i v->∃t,v=Value.int (vs.getD i 0) t)(hb:∀v∈vs,1≤v∧v≤9) :
  ∀(k i:Nat) (s:EM) (ns:EK Int),n-i=k->i≤n->St i s.heap->fY w s.heap Sa ns->ns.Perm (dd (vs.take i)) ->
   (∀(h':Heap) (tk:Nat) (U:EK Int),(∀b o,b∉Sa::wr->s.heap.get? b=some o->h'.get? b=some o)->fY w h' Sa U->U.Perm (dd vs)->R (.ok (.ret .none)) { s with heap:=h',toks:=tk }) ->
   codeAny (model prog w) A (.builtin "set.update.loop" ⟨[.ref Sa,.ref I],[]⟩) R s:=by
 intro k;induction k with
 |zero =>
  intro i s ns hk hi L S hp h
  have:i=n:=by omega
  subst this;refine BJ F.entry_set_update_loop ?_;rw[BR F.plain_set_update_loop];unfold Builtin.«set.update.loop»;refine AA (W.done _ _ _ L fun h' tk Z=>?_);dsimp only;refine AB ?_;refine h h' tk ns (fun b o Y=>Z b o fun q=>Y (AO _ q)) (S.same fun o=>Z Sa o fun q=>hS (W.sub _ q)) ?_;rw[←hn,List.take_length]at hp;exact hp
 |succ k ih =>
  intro i s ns hk hi L S hp h;have a2:i<n:=by omega
  refine BJ F.entry_set_update_loop ?_;rw[BR F.plain_set_update_loop];unfold Builtin.«set.update.loop»;refine AA (W.item i _ _ _ a2 L fun v h' tk hP a0 Z=>?_);obtain⟨t,rfl⟩:=hv i v hP;have hm:vs.getD i 0∈vs:=by rw[AH,AE (by omega)];exact List.getElem_mem _
  have Y:=hb _ hm;dsimp only;refine AA (Ay ?_);unfold setAdd;refine Ay (AA ((intKind prog w).pyHash (Cq prog w _ t) ?_));rw[show (intKind prog w).hash (vs.getD i 0)=vs.getD i 0 from lH Y.1 Y.2];have hl:ns.length≤3:=by
   have:=yo (vs.take i) []
   have e:(dd (vs.take i)).length≤i:=by have q:=List.length_take_le i vs;unfold dd;have z:([]:EK Int).length=0:=rfl;omega
   rw[hp.length_eq];omega
  refine v5 (S.same fun o=>Z Sa o fun q=>hS (W.sub _ q)) hl Y.1 Y.2 fun h2 a3 a1 S2 a4=>?_;refine AB ⟨CN F.plain_set_update_loop _,?_⟩;refine ih (i+1) _ a3 (by omega) (by omega) (W.frame _ _ _ a0 fun b a5 o ho=>by
   rw[a1.2 b (fun z=>hS (by rw[←z];exact a5))];exact ho) S2 ?_ fun h3 a6 a7 hh S3 a8=>?_
  ·rw[tj (by omega)];exact a4.trans (rB hp)
  ·exact h h3 a6 a7 (fun b o M ho=>hh b o M (by
    have:b≠Sa:=fun z=>M (by rw[z];exact AT)
    rw[a1.2 b this];exact Z b o (fun q=>M (AO _ q)) ho)) S3 a8
end
section
variable{prog:ER}{w:EU}{A:EW}{E:EL->EM->Prop}{s:EM}
theorem uY{a:EL}{Q:EL->EM->Prop}(h:Q (.ref s.heap.objs.size) { s with heap:=s.heap.push { cls:=.type "set",data:=.set #[] 0 (SetTable.fresh 0 0 (!gb w)) } }) :
  codeAny (model prog w) A (.call (.builtin "set.__new__") ⟨[.type "set",a],[]⟩) (wants Q E) s:=by
 refine Cp F.plain_set_new F.entry_set_new (Aw (F.newCall_set_1 a) ?_);unfold Builtin.«set.__new__» Builtin.Frozenset.newClass;dsimp only;refine AA (AA (Aw (a:=true) rfl ?_));rw[AF (by decide)];refine AA (Aw sub_set_self ?_);rw[AF (by decide)];refine AB (AA ?_);unfold newSet setsByText;refine AA (AA (CV (AB ?_)));dsimp only;unfold newObj;dsimp only;rw[AF (by decide)];unfold newObjAsIs;refine AA (wpAny_alloc ?_);dsimp only;exact AB (AB h)
def sk{h:Heap}{led:Bool}(hl:led= !gb w):fY w (h.push { cls:=.type "set",data:=.set #[] 0 (SetTable.fresh 0 0 led) }) h.objs.size [] :=
 ⟨_,#[],0,_,AQ _ rfl,⟨rfl,rfl,rfl⟩,rfl,(fun e q=>(Ae q).elim),rfl,⟨rfl,rfl,hl,rfl,show ([]:EK Nat)∈Wc 0 from by decide⟩⟩
theorem Dp{l:EN}{items:EZ EL}{vs:EK Int}{Q:EL->EM->Prop}(hh:A.handled=none)(hl:s.heap.IsList l items)(hv:IntsAre items.toList vs)(h4:vs.length≤4)(hb:∀v∈vs,1≤v∧v≤9)
  (h:∀(h':Heap) (tk:Nat) (U:EK Int),fY w h' s.heap.objs.size U->U.Perm (dd vs)->(∀b o,b<s.heap.objs.size->s.heap.get? b=some o->h'.get? b=some o)->Q (.ref s.heap.objs.size) { s with heap:=h',toks:=tk }) :
  wpAny (model prog w) A (call (.type "set") [.ref l]) Q E s:=by
 refine C7 (codeAny_of_tree (Aw (a:=Fin.again (.builtin "type.__call__" ⟨[.type "set",.ref l],[]⟩)) rfl ⟨Code.quiet_builtin _ (by decide +kernel),?_⟩));refine BJ F.entry_type_call ?_;rw[Around.under_plain (weight_type_call_type _ _ _) rfl];unfold Builtin.«type.__call__»;dsimp only;rw[AF (by rw[F.called_set.notType];decide),AF (by rw[F.called_set.canCreate];decide)];refine AA (Aw (F.typeCall_set_1 _) ?_);obtain⟨c,tl,hm⟩:=F.called_set.mro;refine AA (Aw hm ?_);rw[AF (by simp)];refine AA (Aw F.called_set.made ?_);dsimp only;refine AA (AB (AA (Ay (C7 (uY ?_)))));have hT:({ s with heap:=s.heap.push { cls:=.type "set",data:=.set #[] 0 (SetTable.fresh 0 0 (!gb w)) } }:EM).TypeIs (.ref s.heap.objs.size) "set" :=⟨_,AQ _ rfl,rfl⟩;refine AA (Bd hT sub_set_self ?_);rw[AF (by decide)];refine AA (Ay ?_);unfold callSpecial?;refine AA (wpAny_specialOf hT F.called_set.init.lookup ?_);dsimp only;refine Ay (AA (Aw (F.called_set.init.bind _) ?_));dsimp only;refine AA (C7 (Cp F.called_set.init.plain F.entry_set_init (check_set_init_1 hT ?_)));unfold Builtin.«set.__init__»;refine AA (Aw (a:=()) rfl ?_);show wpAny _ _ (do
  let n ← typeNameOfCut 200 (.ref s.heap.objs.size)
  checkCount n 0 1 1
  let a ← Builtin.Frozenset.addrOf (.ref s.heap.objs.size)
  let u ← setUsed a
  if u=true then do
   Builtin.Frozenset.clearAll a
   Builtin.Frozenset.updateFrom "set.__init__" a (.ref l)
   ret Value.none
  else do
   Builtin.Frozenset.updateFrom "set.__init__" a (.ref l)
   ret Value.none) _ _ _
 unfold typeNameOfCut shownTypeOf;refine AA (AA (AA (CU hT ?_)));rw[AF (by decide)];refine AB (Aw (a := "set") (by rfl) ?_);refine AA (Aw (a:=()) rfl ?_);refine AA (Aw (a:=s.heap.objs.size) rfl ?_);unfold setUsed;have hg:(s.heap.push { cls:=.type "set",data:=.set #[] 0 (SetTable.fresh 0 0 (!gb w)) }).get? s.heap.objs.size=some { cls:=.type "set",data:=.set #[] 0 (SetTable.fresh 0 0 (!gb w)) }:=AQ _ rfl;refine AA (AA (Ba hg rfl rfl (AB ?_)));rw[AF (by intro q;exact Bool.noConfusion (show false=true from q))];refine AA ?_;unfold Builtin.Frozenset.updateFrom Builtin.Frozenset.isAnySet;have Y:(s.heap.push { cls:=.type "set",data:=.set #[] 0 (SetTable.fresh 0 0 (!gb w)) }).IsList l items:=hl.push _;refine AA (AA (Bd (T := "list") Y.typeIs F.sub_list_set ?_));show wpAny _ _ (isInstance (.ref l) (.type "frozenset")) _ _ _;refine Bd (T := "list") Y.typeIs F.sub_list_frozenset ?_;rw[AF (by decide)];refine AA (CU (T := "list") Y.typeIs ?_);rw[AF (by decide)];refine AA (Ci Y (AA (wpAny_runValue ?_)));have I:l<s.heap.objs.size:=by obtain⟨o,Z,_⟩:=hl;exact AK Z
 have hS:=sk (w:=w) (h:=s.heap) (led:= !gb w) rfl;have L:(s.heap.push { cls:=.type "set",data:=.set #[] 0 (SetTable.fresh 0 0 (!gb w)) }).objs.size=s.heap.objs.size+1:=BI ..;have R:vs.length=items.size:=by
  rw[←Ai];clear hb h4 h hl Y;generalize items.toList=Eg at hv;induction hv with|nil=>rfl|cons n t _ ih=>rw[Aa,Aa,ih]
 refine Dg (A:=A.in1.in1) (Walks.list (A:=A.in1.in1.in1) hh (s.heap.push { cls:=.type "set",data:=.set #[] 0 (SetTable.fresh 0 0 (!gb w)) }).objs.size l (by rw[L];exact AV (BG I)) items) (Sa:=s.heap.objs.size) (by
  rw[L];intro q;rcases AJ.mp q with q|q
  ·exact absurd q (by show ¬s.heap.objs.size=s.heap.objs.size+1;omega)
  ·have:=AX.mp q;exact absurd I (by rw[←this];exact CA _)) R (by omega) (fun i v hi=>hv.int_at i v (by rw[←Cm]at hi;exact hi)) hb _ 0 _ [] rfl (Bf _) ⟨⟨_,AQ _ rfl,rfl,rfl⟩,Y.push _⟩ (hS.same fun o Z=>AD _ Z) (by rw[List.take_zero];exact .refl _) fun h' tk U hk S' hp=>?_
 refine AB (AB ?_);refine AB ?_;dsimp only;rw[AF (by decide)];refine AB ?_;refine h h' tk U S' hp fun b o M Z=>hk b o (fun q=>?_) (AD _ (AD _ Z));rw[L]at q;rcases AJ.mp q with q|q
 ·exact absurd M (by rw[q];exact CA _)
 ·have:=AX.mp q;exact absurd M (by rw[this];exact Cr (Nat.le_succ _))
end
def jj:entryFor table "set.__iter__" = some Builtin.«frozenset.__iter__» :=entryFor_alias (id' := "frozenset.__iter__") (by kernel_rfl) (by kernel_rfl) (by kernel_rfl) (by kernel_rfl)
def Zl:entryFor table "set_iterator.__next__" = some Builtin.«set_iterator.__next__» :=entryFor_of_fast (by kernel_rfl)
def eZ:Slot "set_iterator" (Str.ofString "__next__") "set_iterator.__next__" :=@Slot.of "set_iterator" (Str.ofString "__next__") "set_iterator.__next__" "set_iterator" "__next__" (by rw[typeLookup_type,builtinLookup_eq_fast];rfl) (by decide) (by decide) (by decide) (Or.inl (by decide +kernel)) (by rw[isSubtype_type];rfl) (by decide +kernel)
def y0(a:EL):argsOk "set_iterator.__next__" { pos:=[a] }:=by
 unfold argsOk
 kernel_rfl
def nV{α:Type}:∀{l:EK α} {i:Nat} (h:i<l.length),(l[i]::l.eraseIdx i).Perm l|x::l,0,_=>.refl _|x::l,i+1,h=>(List.Perm.swap x _ _).trans ((nV (l:=l) (i:=i) (by simpa using h)).cons x)
def nD{α:Type}(next:Nat->Nat):∀(n k:Nat) (left:EK α) (out:EZ α),left.length=n->(pickOrder.go next n k left out).toList.Perm (out.toList++left)
 |0,k,left,out,h=>by
  have:left=[]:=List.eq_nil_of_length_eq_zero h
  subst this;show out.toList.Perm _;rw[BW]
 |n+1,k,left,out,h=>by
  have hl:next k%left.length<left.length:=Nat.mod_lt _ (by omega);show (match left[next k%left.length]? with|some x=>pickOrder.go next n (k+1) (left.eraseIdx (next k%left.length)) (out.push x)|none=>out).toList.Perm _;rw[AE hl];dsimp only;refine (nD next n (k+1) _ _ (by rw[List.length_eraseIdx_of_lt hl];omega)).trans ?_;rw[Ax,Ah];exact CK _ (nV hl)
def wx(w:EU)(a:EN)(ep:Nat)(es:EZ (Int×EL)):EZ (Int×EL):=if gb w=true then pickOrder (w.params.setOrder a ep) es else es
def Jt{w:EU}{a:EN}{ep:Nat}{es:EZ (Int×EL)}:(wx w a ep es).toList.Perm es.toList:=by
 unfold wx;split;exact nD _ _ _ _ _ (by simp);exact .refl _
def zA{w:EU}{a:EN}{ep:Nat}{es:EZ (Int×EL)}:(wx w a ep es).size=es.size:=by
 have:=(Jt (w:=w) (a:=a) (ep:=ep) (es:=es)).length_eq
 rwa[Ai,Ai]at this
def nP(pl:EK Nat):Bool:=Nat.beq (SetTable.below pl.toArray 0) 0&&(List.range pl.length).all fun i=>Nat.beq (SetTable.below pl.toArray (pl.getD i 0+1)) (i+1)
def uw:([0,1,2,3,4].all fun k=>(Wc k).all nP)=true:=by decide +kernel
def nZ{w:EU}{t:SetTable}{k:Nat}(T:gN w t k)(R:k≤4):SetTable.below t.place 0=0∧∀i,i<k->SetTable.below t.place (t.place.getD i 0+1)=i+1:=by
 have Z:k∈[0,1,2,3,4]:=by
  have:k=0∨k=1∨k=2∨k=3∨k=4:=by omega
  simp only[AJ,Ae,BX];exact this
 have e:=A0.mp (A0.mp uw k Z) _ T.ris;unfold nP at e;rw[Ar,A0,show t.place.toList.toArray=t.place by simp]at e;refine⟨Nat.eq_of_beq_eq_true e.1,fun i hi=>?_⟩
 have:=Nat.eq_of_beq_eq_true (e.2 i (Bg.mpr (by rw[ZA T.ris];exact hi)))
 rw[show t.place.toList.getD i 0=t.place.getD i 0 by simp[Ap,AH]]at this;exact this
structure fB (w:World) (h:Heap) (a:Addr) (es:Array (Int×Value)) (ep:Nat) (t:SetTable):Prop where
 ex:∃o,h.get? a=some o∧o.ExactSet∧o.data=Data.set es ep t
 T:gN w t es.size
 n:es.size≤4
def gW(w:EU)(h:Heap)(it a:EN)(es:EZ (Int×EL))(ep:Nat)(t:SetTable)(i:Nat):Prop:=∃(o:Obj) (slot:Nat),h.get? it=some o∧o.cls= .type "set_iterator" ∧o.data= .fields #[.int slot 0,.int i 0,.ref a,.int es.size 0,.int ep 0]∧(gb w=false->SetTable.below t.place slot=i)
section
variable{prog:ER}{w:EU}{A:EW}{E:EL->EM->Prop}{s:EM}{a it:EN}{es:EZ (Int×EL)}{ep i:Nat}{t:SetTable}
def fB.fits(L:fB w s.heap a es ep t):t.fits es.size=true:=by
 unfold SetTable.fits;rw[Ar]
 have:=ZA L.T.ris
 rw[Ai]at this;refine⟨by rw[this];exact Aj _,Af ?_⟩;unfold SetTable.fill;rw[L.T.dum,L.T.mask,this]
 have:=L.n
 show es.size+0≤7;omega
def fB.typeIs(L:fB w s.heap a es ep t):s.TypeIs (.ref a) "set" :=let ⟨o,h,c,_⟩:=L.ex;⟨o,h,c.1⟩
def gW.typeIs(I:gW w s.heap it a es ep t i):s.TypeIs (.ref it) "set_iterator" :=let ⟨o,_,h,c,_⟩:=I;⟨o,h,c⟩
theorem DM{Q:EL->EM->Prop}(L:fB w s.heap a es ep t)
  (I:Q (.ref s.heap.objs.size) { s with heap:=s.heap.push { cls:=.type "set_iterator",data:=.fields #[.int 0 0,.int 0 0,.ref a,.int es.size 0,.int ep 0] } }):wpAny (model prog w) A (pyIter (.ref a)) Q E s:=by
 obtain⟨o,Z,M,hd⟩:=L.ex;refine wpAny_pyIter_slot L.typeIs F.slot_set_iter (BA F.slot_set_iter L.typeIs jj ?_ (F.args_set_iter_1 _));unfold Builtin.«frozenset.__iter__» Builtin.Frozenset.slot0 Builtin.Frozenset.sizeOf setEntries;refine AA (Aw (a:=a) rfl ?_);refine AA (AA (AA (Ba Z hd L.fits (AB (AB ?_)))));unfold setDrawn setsByText;refine AA (AA (Ba Z hd L.fits ?_));dsimp only;refine AA (AA (CV (AB (AB ?_))));rw[AF (by
  rw[Ar];intro q;have R:(!t.plain&&decide (es.size>1))=true:=q.2;rw[L.T.pl]at R;cases R)]
 refine AA (AB ?_);unfold setEpoch newFields;refine AA (AA (Ba Z hd L.fits (AB ?_)));exact AA (BO (AB ⟨_,rfl,"set_iterator",_,⟨_,AQ _ rfl,rfl⟩,eZ.lookup,by simpa[rawInt] using I⟩))
def j7{R:EO (EL×Nat)->EM->Prop}{slot:Nat}(L:fB w s.heap a es ep t)(hb:gb w=false->SetTable.below t.place slot=i)
  (Z:∀e nx,(wx w a ep es)[i]? = some e->(gb w=false->SetTable.below t.place nx=i+1)->R (some (e.2,nx)) s) (U:(wx w a ep es)[i]? = none->R none s):wpAny (model prog w) A (setNext a ((slot:Int)).toNat ((i:Int)).toNat ((ep:Int)).toNat) R E s:=by
 obtain⟨o,ho,a0,hd⟩:=L.ex;have hf:=L.fits;unfold setNext;refine AA (Ba ho hd hf ?_);unfold setsByText;dsimp only;refine AA (AA (CV (AB ?_)));rw[BU,BU,BU];by_cases I:gb w=true
 ·rw[AC (by exact I),AF (by simp)];unfold setWalk setsByText;refine AA (AA (Ba ho hd hf ?_));dsimp only;refine AA (AA (CV (AB ?_)));rw[AC (by exact I)];refine AA (CV (AB (AB ?_)));have eo:wx w a ep es=pickOrder (w.params.setOrder a ep) es:=by unfold wx;rw[AC I]
  rw[eo]at Z U;show R (((pickOrder (w.params.setOrder a ep) es)[i]?).map fun e=>(e.2,slot)) s;cases F:(pickOrder (w.params.setOrder a ep) es)[i]? with|none=>exact U F|some e=>exact Z e slot F fun q=>by rw[q]at I;cases I
 ·have M:gb w=false:=by cases h:gb w with|true=>exact absurd h I|false=>rfl
  rw[AF (by exact I),AF (by
   intro q;have q2:(!t.plain&&decide (es.size>1))=true:=q;rw[L.T.pl]at q2;cases q2)]
  have eo:wx w a ep es=es:=by unfold wx;rw[AF I]
  rw[eo]at Z U;have Y:t.led=true:=by rw[L.T.led,M];rfl
  refine AA (Aw (a:=()) ?_ (AB ?_));show (if (!t.led && !es.isEmpty)=true then unsupported "set:maker-not-led" else pure ())=pure ();rw[Y];rfl
  ·rw[hb M];have a1:t.place.size=es.size:=by have:=ZA L.T.ris;rwa[Ai]at this
   cases F:es[i]? with
   |none=>exact U F
   |some e =>
    have hi:i<es.size:=(Bu.mp F).1;have hp:t.place[i]? = some (t.place.getD i 0):=by rw[Ap,AM (by omega)];rfl
    rw[hp];exact Z e _ F fun _=>(nZ L.T L.n).2 i hi
def xt{Q:EO EL->EM->Prop}(L:fB w s.heap a es ep t)(I:gW w s.heap it a es ep t i){e:Int×EL}(hx:(wx w a ep es)[i]? = some e)
  (hQ:∀h',gW w h' it a es ep t (i+1)->Heap.SameBut it s.heap h'->Q (some e.2) { s with heap:=h' }):wpAny (model prog w) A (pyNext (.ref it)) Q E s:=by
 obtain⟨o,ho,a0,hd⟩:=L.ex;obtain⟨oi,slot,U,F,R,hb⟩:=id I;unfold pyNext;refine AA (Bt (A6 (name:=Str.ofString "__next__") I.typeIs eZ (BA eZ I.typeIs Zl ?_ (y0 _))));unfold Builtin.«set_iterator.__next__»;refine AA (Aw (a:=(.ref it,[])) rfl ?_);dsimp only;refine AA (wpAny_fieldsOf U R ?_);dsimp only;unfold setEntries;refine AA (AA (Ba ho hd L.fits (AB ?_)));rw[AF (by simp)];refine AA (j7 L hb (fun e' nx q hn=>?_) fun q=>?_)
 ·rw[hx]at q;cases q;dsimp only;refine AA (BZ U R (by simp) ?_);have M:=Az (Obj.mapFields fun x=>x.setIfInBounds 0 (rawInt (nx:Int))) U (Bw (BC R _));refine AA (BZ M (BC R _) (by simp) ?_);have Z:=Az (Obj.mapFields fun x=>x.setIfInBounds 1 (rawInt ((i:Int)+1))) M (Bw (BC (BC R _) _));refine AB ⟨_,rfl,AB (hQ _ ⟨_,nx,Z,?_,?_,hn⟩ ⟨?_,fun b Y=>?_⟩)⟩;rw[Cg,Cg];exact F;rw[BC (BC R _)];simp[rawInt];rw[CW,CW];exact (AY _ _ (Ne.symm Y)).trans (AY _ _ (Ne.symm Y))
 ·rw[hx]at q;cases q
def xF{Q:EO EL->EM->Prop}(Z:A.handled=none)(L:fB w s.heap a es ep t)(I:gW w s.heap it a es ep t i)(hx:(wx w a ep es)[i]? = none)
  (hQ:∀h',(∀b o,b≠it->s.heap.get? b=some o->h'.get? b=some o)->Q none { s with heap:=h' }):wpAny (model prog w) A (pyNext (.ref it)) Q E s:=by
 obtain⟨o,ho,a0,hd⟩:=L.ex;obtain⟨oi,slot,U,a1,R,hb⟩:=id I;unfold pyNext;refine AA (Bt (A6 (name:=Str.ofString "__next__") I.typeIs eZ (BA eZ I.typeIs Zl ?_ (y0 _))));unfold Builtin.«set_iterator.__next__»;refine AA (Aw (a:=(.ref it,[])) rfl ?_);dsimp only;refine AA (wpAny_fieldsOf U R ?_);dsimp only;unfold setEntries;refine AA (AA (Ba ho hd L.fits (AB ?_)));rw[AF (by simp)];refine AA (j7 L hb (fun e' nx F hn=>by rw[hx]at F;cases F) fun F=>?_);dsimp only;refine AA (BZ U R (by simp) ?_);refine zJ (A:=A.in1) (fun v M=>by rw[show A.in1.handled=A.handled from rfl,Z]at M;cases M) fun h' e k ht=>?_;refine AA (Bd (T := "StopIteration") (b:=true) ht C6 ?_);exact AB (hQ _ fun b o' Y q=>k b o' ((AY _ _ (Ne.symm Y)).trans q))
end
def Y5:entryFor table "list.extend.loop" = some Builtin.«list.extend.loop» :=entryFor_of_fast (by kernel_rfl)
def Wh:plainId "list.extend.loop" = true:=by decide +kernel
section
variable{prog:ER}{w:EU}{A:EW}{E:EL->EM->Prop}{R:Result->EM->Prop}{a it:EN}{es:EZ (Int×EL)}{ep:Nat}{t:SetTable}
def fB.same{h h':Heap}(L:fB w h a es ep t)(e:∀o,h.get? a=some o->h'.get? a=some o):fB w h' a es ep t:=by obtain⟨⟨o,Y,U⟩,T,n⟩:=L;exact⟨⟨o,e o Y,U⟩,T,n⟩
def gW.same{h h':Heap}{i:Nat}(L:gW w h it a es ep t i)(e:∀o,h.get? it=some o->h'.get? it=some o):gW w h' it a es ep t i:=by obtain⟨o,sl,Y,U⟩:=L;exact⟨o,sl,e o Y,U⟩
def v7{D:EN}(hh:A.handled=none)(a0:a≠D)(F:it≠D)(a1:a≠it):∀(k i:Nat) (s:EM) (n:Nat),es.size-i=k->i≤es.size->fB w s.heap a es ep t->gW w s.heap it a es ep t i->s.heap.get? D=some (seqObj "list" (((wx w a ep es).toList.take i).map (·.2)).toArray n) ->
  (∀(h':Heap) (n':Nat),(∀b o,b≠D->b≠it->s.heap.get? b=some o->h'.get? b=some o)->h'.get? D=some (seqObj "list" ((wx w a ep es).toList.map (·.2)).toArray n')->R (.ok (.ret (.ref D))) { s with heap:=h' }) ->
  codeAny (model prog w) A (.builtin "list.extend.loop" ⟨[.ref D,.ref it,.ref D],[]⟩) R s:=by
 intro k;induction k with
 |zero =>
  intro i s n hk hi L I hD h;have U:i=es.size:=by omega
  refine BJ Y5 ?_;rw[BR Wh];unfold Builtin.«list.extend.loop»;refine AA (xF hh L I (by rw[Array.getElem?_eq_none];rw[zA];omega) fun h' Z=>?_);dsimp only;refine AB (h h' n (fun b o h1 h2=>Z b o h2) ?_);rw[Z D _ (Ne.symm F) hD,Br (by rw[Ai,zA];omega)]
 |succ k ih =>
  intro i s n hk hi L I hD h;have U:i<(wx w a ep es).size:=by rw[zA];omega
  refine BJ Y5 ?_;rw[BR Wh];unfold Builtin.«list.extend.loop»;refine AA (xt L I (AM U) fun h' I' sb=>?_);dsimp only;unfold Builtin.List.listUpdate;dsimp only;have Y:h'.get? D=some (seqObj "list" (((wx w a ep es).toList.take i).map (·.2)).toArray n):=(sb.2 D (Ne.symm F)).trans hD;have q:(((wx w a ep es).toList.take i).map (·.2)).length≤4:=by
   rw[AG,CT,Ai,zA]
   have:=L.n
   omega
  have M:(((wx w a ep es).toList.take i).map (·.2)).toArray.size≤4:=by rw[AR];exact q
  refine AA (Ce Y rfl ?_ (AW M (by decide)) (by rw[Cd];exact AW (Nat.succ_le_succ M) (by decide)));have e1:((((wx w a ep es).toList.take i).map (·.2)).toArray.push (wx w a ep es)[i].2)=((((wx w a ep es).toList.take (i+1)).map (·.2)).toArray):=by
   have hl:i<(wx w a ep es).toList.length:=by rw[Ai];exact U
   rw[Bv hl,Bn,List.push_toArray];rfl
  have hu:∃n2,(h'.update D (Obj.mapSeq fun x=>x.push (wx w a ep es)[i].2)).get? D=some (seqObj "list" (((wx w a ep es).toList.take (i+1)).map (·.2)).toArray n2):=by rw[Az _ Y rfl,←e1];exact⟨_,rfl⟩
  obtain⟨n2,hu⟩:=hu;refine AB ⟨CN Wh _,?_⟩;refine ih (i+1) _ n2 (by omega) (by rw[zA]at U;omega) (L.same fun o ho=>?_) (I'.same fun o ho=>?_) hu fun h2 n3 a2 a3=>h h2 n3 (fun b o h3 h4 ho=>a2 b o h3 h4 ?_) a3;exact (AY _ _ (Ne.symm a0)).trans ((sb.2 a a1).trans ho);exact (AY _ _ (Ne.symm F)).trans ho;exact (AY _ _ (Ne.symm h3)).trans ((sb.2 b h4).trans ho)
theorem De{s:EM}{Q:Bool->EM->Prop}(R:s.TypeIs (.ref a) "set")(h:Q false s):wpAny (model prog w) A (Builtin.List.listLengthHint (.ref a)) Q E s:=by
 unfold Builtin.List.listLengthHint;refine AA (wpAny_specialOf R F.slot_set_len.lookup ?_);dsimp only;rw[show splitId "set.__len__" = some ("set","__len__") by decide];dsimp only;refine AA (Bd R sub_set_self ?_);rw[AF (by decide),AC (by decide +kernel)];exact AA (CU R (AB h))
theorem jy{s:EM}{Q:EK EL->EM->Prop}(hh:A.handled=none)(L:fB w s.heap a es ep t)
  (hQ:∀h',(∀b o,s.heap.get? b=some o->h'.get? b=some o)->s.heap.objs.size≤h'.objs.size->Q ((wx w a ep es).toList.map (·.2)) { s with heap:=h' }):wpAny (model prog w) A (collect (.ref a)) Q E s:=by
 have I:a<s.heap.objs.size:=by obtain⟨o,Z,_⟩:=L.ex;exact AK Z
 unfold collect;refine AA (wpAny_runValue (BJ F.entry_proto_collect ?_));rw[BR F.plain_proto_collect];unfold Builtin.«proto.collect»;dsimp only;refine AA (CM ?_);refine AB ⟨CN F.plain_list_iadd _,BJ F.entry_list_iadd ?_⟩;rw[BR F.plain_list_iadd];unfold Builtin.«list.__iadd__»;refine AA (Aw (a:=(.ref s.heap.objs.size,[.ref a])) rfl ?_);dsimp only;unfold Builtin.List.listExtendWith;have L1:fB w (s.heap.push { cls:=.type "list",data:=.seq ([]:EK EL).toArray }) a es ep t:=L.same fun o Z=>AD _ Z;refine AA (CU (T := "set") L1.typeIs ?_);have a0:(s.heap.objs.size==a)=false:=AI.mpr (Cj I);rw[AF (by
  show ¬((s.heap.objs.size==a||_||_)=true);rw[a0]
  decide)]
 refine AA (DM L1 ?_);have L2:fB w ((s.heap.push { cls:=.type "list",data:=.seq ([]:EK EL).toArray }).push { cls:=.type "set_iterator",data:=.fields #[.int 0 0,.int 0 0,.ref a,.int es.size 0,.int ep 0] }) a es ep t:=L1.same fun o Z=>AD _ Z;refine AA (Ay (De L2.typeIs ?_));dsimp only;rw[AC (by decide +kernel)];have hz:(s.heap.push { cls:=.type "list",data:=.seq ([]:EK EL).toArray }).objs.size=s.heap.objs.size+1:=BI ..;have R:((s.heap.push { cls:=.type "list",data:=.seq ([]:EK EL).toArray }).push { cls:=.type "set_iterator",data:=.fields #[.int 0 0,.int 0 0,.ref a,.int es.size 0,.int ep 0] }).get? s.heap.objs.size=some (seqObj "list" #[] 0):=AD _ (AQ _ rfl);refine AA (BM (AA ?_));unfold Builtin.List.listTouch Builtin.List.listUpdate;dsimp only;refine AA (Ce R rfl ?_ (by decide) (by decide));have U:=Az (Obj.mapSeq fun x=>x.push Value.none) R rfl;refine Ce U rfl ?_ (by decide) (by decide);have M:∃n,((((s.heap.push { cls:=.type "list",data:=.seq ([]:EK EL).toArray }).push { cls:=.type "set_iterator",data:=.fields #[.int 0 0,.int 0 0,.ref a,.int es.size 0,.int ep 0] }).update s.heap.objs.size (Obj.mapSeq fun x=>x.push Value.none)).update s.heap.objs.size (Obj.mapSeq fun x=>x.pop)).get? s.heap.objs.size=some (seqObj "list" #[] n):=by rw[Az _ U rfl];exact⟨_,rfl⟩
 obtain⟨n2,M⟩:=M;have q:∀b o,b≠s.heap.objs.size->((s.heap.push { cls:=.type "list",data:=.seq ([]:EK EL).toArray }).push { cls:=.type "set_iterator",data:=.fields #[.int 0 0,.int 0 0,.ref a,.int es.size 0,.int ep 0] }).get? b=some o->((((s.heap.push { cls:=.type "list",data:=.seq ([]:EK EL).toArray }).push { cls:=.type "set_iterator",data:=.fields #[.int 0 0,.int 0 0,.ref a,.int es.size 0,.int ep 0] }).update s.heap.objs.size (Obj.mapSeq fun x=>x.push Value.none)).update s.heap.objs.size (Obj.mapSeq fun x=>x.pop)).get? b=some o:=fun b o hb Z=>(AY _ _ (Ne.symm hb)).trans ((AY _ _ (Ne.symm hb)).trans Z);have Y:(s.heap.push { cls:=.type "list",data:=.seq ([]:EK EL).toArray }).objs.size≠s.heap.objs.size:=by rw[hz];exact Cj (Nat.lt_succ_self _)
 refine AB ⟨CN Wh _,?_⟩;refine v7 (w:=w) (t:=t) (ep:=ep) (es:=es) (a:=a) hh (AV I) Y (by rw[hz];exact AV (BG I)) _ 0 _ n2 rfl (Bf _) (L2.same fun o Z=>q a o (AV I) Z) ⟨_,0,q _ _ Y (AQ _ rfl),rfl,rfl,fun _=>(nZ L.T L.n).1⟩ M fun h' n' hk hD=>?_;dsimp only;refine AA (wpAny_load' hD ?_);refine AB ?_
 have:=hQ h' (fun b o Z=>hk b o (AV (AK Z)) (by rw[hz];exact AV (BG (AK Z))) (q b o (AV (AK Z)) (AD _ (AD _ Z)))) (C1 (AK hD))
 simpa using this
end
section
variable{prog:ER}{w:EU}{A:EW}{E:EL->EM->Prop}{s:EM}
def nF:∀{l:EK (Int×EL)},(∀e∈l,(∃q,e.2=Value.int e.1 q)∧1≤e.1∧e.1≤9)->IntsAre (l.map (·.2)) (l.map (·.1))|[],_=>.nil|e::l,h=>by obtain⟨⟨q,Y⟩,_⟩:=h e AT;rw[AU,AU,Y];exact .cons _ q (nF fun x M=>h x (AO _ M))
def DI{a:EN}{ns:EK Int}{Q:EL->EM->Prop}(hh:A.handled=none)(S:fY w s.heap a ns)(hn:ns.length≤4)
  (h:∀(h':Heap) (D:EN) (out:EZ EL) (e:Nat) (U:EK Int),s.heap.objs.size≤D->h'.get? D=some (seqObj "list" out e)->IntsAre out.toList U->U.Perm ns->U.Pairwise (· ≤ ·)->(∀b o,s.heap.get? b=some o->h'.get? b=some o)->Q (.ref D) { s with heap:=h' }) :
  wpAny (model prog w) A (call (.builtin "sorted") [.ref a]) Q E s:=by
 obtain⟨o,es,ep,t,ho,hx,hd,M,hm,T⟩:=S;have Y:es.size=ns.length:=by rw[←hm,AG,Ai]
 have L:fB w s.heap a es ep t:=⟨⟨o,ho,hx,hd⟩,by rw[Y];exact T,by rw[Y];exact hn⟩;refine Calls.call_function_entry kind_sorted plain_sorted entry_sorted (args_sorted1 _) ?_;unfold Builtin.sorted;refine AA (Aw (a:=()) rfl ?_);refine AA (jy (A:=A.in1) hh L fun h1 a0 a1=>?_);have R:=Jt (w:=w) (a:=a) (ep:=ep) (es:=es);have F:((wx w a ep es).toList.map (·.2)).length≤4:=by rw[AG,Ai,zA,Y];exact hn
 have I:=nF (l:=(wx w a ep es).toList) fun e he=>M e (R.mem_iff.mp he);refine AA (CM ?_ (AW F (by decide)));have hD:(h1.push { cls:=.type "list",data:=.seq ((wx w a ep es).toList.map (·.2)).toArray }).get? h1.objs.size=some (seqObj "list" ((wx w a ep es).toList.map (·.2)).toArray 0):=AQ _ rfl;refine AA (Ay (BA slot_list_sort ⟨_,hD,rfl⟩ entry_list_sort ?_ (args_list_sort _)));refine list_sort_tree hD I (Cc F (by decide)) fun out U hi hp a2=>⟨_,rfl,?_⟩;refine AB ⟨_,rfl,?_⟩;obtain⟨e,he⟩:=sortedHeap_at (vs:=(wx w a ep es).toList.map (·.2)) (out:=out) hD;refine h _ _ out e U a1 he hi (hp.trans ?_) a2 fun b o' hb=>?_;rw[←hm];exact R.map _
 ·have Z:=a0 b o' hb;have q:=AK Z;rw[sortedHeap_old (AV q) (by rw[BI];exact BG q)];exact AD _ Z
end
def Yh:∀{l m:EK Int},l.Pairwise (· ≤ ·)->m.Pairwise (· ≤ ·)->l.Perm m->l=m
 |[],m,_,_,p=>(List.Perm.eq_nil p.symm).symm
 |x::l,[],_,_,p=>by have:=p.length_eq;simp at this
 |x::l,y::m,hl,M,p=>by
  have L:x∈y::m:=p.mem_iff.mp AT;have I:y∈x::l:=p.mem_iff.mpr AT;have e:x=y:=by
   have Y:x≤y:=by
    rcases AJ.mp I with q|q
    ·omega
    ·exact (A3.mp hl).1 y q
   have U:y≤x:=by
    rcases AJ.mp L with q|q
    ·omega
    ·exact (A3.mp M).1 x q
   omega
  subst e;rw[Yh (A3.mp hl).2 (A3.mp M).2 (List.Perm.cons_inv p)]
def f7(vs:EK Int):EK Int:=(dd vs).mergeSort fun a b=>decide (a≤b)
def za(vs:EK Int):(f7 vs).Perm (dd vs):=List.mergeSort_perm _ _
def n8(vs:EK Int):(f7 vs).Pairwise (· ≤ ·):=by
 have:=List.pairwise_mergeSort (le:=fun a b:Int=>decide (a≤b)) (fun a b c Y U=>by simp at *;omega) (fun a b=>by simp;omega) (dd vs)
 exact this.imp fun h=>by simpa using h
section
variable{X:Cx}{e:EY}{te:TE}{p p2 pos Ev:Pos}
def td(K:EQ)(te:TE):TE:=fun σ H Q=>te σ H fun x H1=>∃a vs,x= .ref a∧fm K H1 a (vs.map V.int)∧vs.length≤4∧(∀v∈vs,1≤v∧v≤9)∧∀p,H1 p=none->Q (.ref p) (eN H1 p (.lst ((f7 vs).map V.int)))
def vf{us:EK EL}{ns:EK Int}(h:IntsAre us ns):ei (ns.map V.int) us:=by
 induction h with|nil=>exact .nil|cons n t _ I=>exact .cons ⟨t,rfl⟩ I
def tu(hc:X.calm=true)(hg:Gl X "sorted")(hm:X.mg "sorted" = none)(M:Gl X "set")(R:X.mg "set" = none)(he:PE X e te)
  (h1:starEach [.Call (.Name "set" p2) [e] [] Ev] X.env=(false,eval (.Call (.Name "set" p2) [e] [] Ev) X.env)::starEach [] X.env:=by rfl) (h2:starEach [e] X.env=(false,eval e X.env)::starEach [] X.env:=by rfl) :
  PE X (.Call (.Name "sorted" p) [.Call (.Name "set" p2) [e] [] Ev] [] pos) (td X.K te):=by
 intro Ee s σ H Q I h;refine Be (Wq I hg hm PyProof.Rows.boot_sorted ?_ (by decide) (by decide));refine PyProof.Rows.callWith_builtin1 ?_ h1 rfl;rw[h1];show wpAny _ _ (spliced ((false,eval (.Call (.Name "set" p2) [e] [] Ev) X.env)::[])) _ _ s;refine Cb ?_;refine Be (Wq I M R PyProof.Rows.Boot.«set» ?_ (by decide) (by decide));refine Bl ?_ h2 rfl;rw[h2];show wpAny _ _ (spliced ((false,eval e X.env)::[])) _ _ s;refine Cb (eK (he Ee s σ H _ I h) fun u s1 ⟨x,H1,L,r1,q1⟩=>Ch ?_);obtain⟨a,vs,rfl,hq,h4,hb,q⟩:=q1;cases r1;obtain⟨Eg,rv,ht,hz⟩:=L.list hq;have hh:X.A.handled=none:=I.ok.hd hc;refine Dp hh ht.isList (uR rv) h4 hb fun h' tk a4 S hp hk=>Ch ?_;refine DI (s:={ s1 with heap:=h',toks:=tk }) hh S (by rw[hp.length_eq];have:=yo vs [];unfold dd;have z:([]:EK Int).length=0:=rfl;omega) fun h3 D out e' Y hD U hi a0 a1 a2=>?_;have es:Y=f7 vs:=Yh a1 (n8 vs) ((a0.trans hp).trans (za vs).symm);subst es;have a3:s1.heap.objs.size≤h'.objs.size:=by obtain⟨o,_,_,_,ho,_⟩:=S;exact C1 (AK ho)
 have Z:s1.heap.objs.size≤D:=AW a3 hD;have F:(f7 vs).length≤4:=by
  rw[(za vs).length_eq]
  have:=yo vs []
  have z:([]:EK Int).length=0:=rfl;unfold dd;omega
 refine⟨.ref D,_,L.laid (t':=tk) (h':=h3) (o:=.lst ((f7 vs).map V.int)) (fun b ob hb=>a2 b ob (hk b ob (AK hb) hb)) Z ⟨by rw[AG];exact AW F (by decide),out.toList,e',vf hi,by simpa using U⟩,rfl,q _ (L.hok.fresh Z)⟩
end
end EX
namespace EV
open PySem PySem.Spec PyProof.Rows L2 EX
section
variable{X:Cx}{E:XK}{e:EY}{f:FE}{p p2 pos Ev:Pos}
def kC:PV->qC->Rs PV:=fun q st=>match fJ st q with
 |some l=>match Q2 YY l with|some F=>if F.length≤4∧(∀v∈F,1≤v∧v≤9) then .ok (.lst ((f7 F).map PV.int)) st else .no|none=>.no
 |none=>.no
def lr(f:FE):FE:=fun r st=>(f r st).bind kC
def W9{K:EQ}{H:Hp}{b:Bz}:∀(ns:EK Int),ee K H b (ns.map PV.int) (ns.map V.int)|[]=>ee.nil|n::ns=>ee.cons Q0 (W9 ns)
def xB(hc:X.calm=true)(hm:X.mg "sorted" = none)(F:X.mg "set" = none)(h:VE X E e f)(hg:Gl X "sorted" :=by rfl)(M:Gl X "set" :=by rfl)
  (h1:starEach [.Call (.Name "set" p2) [e] [] Ev] X.env=(false,eval (.Call (.Name "set" p2) [e] [] Ev) X.env)::starEach [] X.env:=by rfl) (U:starEach [e] X.env=(false,eval e X.env)::starEach [] X.env:=by rfl) :
  VE X E (.Call (.Name "sorted" p) [.Call (.Name "set" p2) [e] [] Ev] [] pos) (lr f) :=
 PE.imp (tu hc hg hm M F h h1 U) fun s H Q ⟨b,r,st,S,R,P⟩=>⟨b,r,st,S,R,ed.bind P fun q s1 u H1 b1 e1 Z r1 I=>by
  unfold kC at I;split at I
  ·rename_i l el;split at I
   ·rename_i L en;split at I;rename_i Y;obtain⟨x,xs,rfl,U,h3⟩:=Q6 Z r1 el;rw[yV h3 en]at U;exact⟨x,L,rfl,U,Y.1,Y.2,fun p hp=>eH.lay (eH.of (r:=.ok ((f7 L).map PV.int) s1) I) Z (W9 _) hp⟩;exact I.elim
   ·exact I.elim
  ·exact I.elim⟩
end
end EV
end
section
namespace EX
open PySem PySem.Spec PyProof.Rows L2
inductive f9 (A:Around) (s:Shared) (r:Bool):List Value->List Value->Prop where|nn:r=false->f9 A s r [] []|nc {w ws}:r=true->f9 A s r [] (w::ws)|cn {v vs}:r=false->f9 A s r (v::vs) []|eq {v vs w ws}:SeqAt.EqAt A s v w true->f9 A s r vs ws->f9 A s r (v::vs) (w::ws)|ne {v vs w ws}:SeqAt.EqAt A s v w false->(∀(prog:Program) (wd:World) (E:Value->Shared->Prop) (Q:Value->Shared->Prop),Q (.bool r) s->wpAny (model prog wd) A (richCompare .Lt v w) Q E s)->f9 A s r (v::vs) (w::ws)
section
open PySem.SeqAt
open PySem.AutoSeq1 (wpAny_loadPart')
open PySem.MeetsSeq PySem.MeetsSeq2 PySem.MeetsSeq3
def ja(l b:EN)(items I:EZ EL)(n n2:Nat)(dd a0:EO EN)(sl a1:EZ (EO EL))(r:Bool) :
  Meets (Builtin.«tuple.__lt__» ⟨[.ref l,.ref b],[]⟩)
   (fun A R s=>s.heap.get? l=some { cls:=.type "tuple",dict:=dd,data:=.seq items n,slots:=sl }∧s.heap.get? b=some { cls:=.type "tuple",dict:=a0,data:=.seq I n2,slots:=a1 }∧f9 A.in1 s r items.toList I.toList ∧
    R (.ok (.ret (.bool r))) s) :=
 .of_wp fun prog w A R s h=>by
  obtain⟨hp,g,d,tk,os⟩:=s;obtain⟨hl,hb,hG,h⟩:=h;have f2:=AutoSeq1.sub_tuple_tuple
  wp_walk using wpAny_loadPart' hl,wpAny_loadPart' hb,wpAny_forIn_list _ (fun q b s'=>b.1=none∧s'=⟨hp,g,d,tk,os⟩∧∃(vs ws:EK EL),q=vs.zip ws∧f9 A.in1 ⟨hp,g,d,tk,os⟩ r vs ws ∧
   vs.length+I.size=ws.length+items.size) _
  case turn =>
   rintro⟨y,x⟩ q b s' ⟨Y,rfl,vs,ws,Z,M,F⟩;cases M with
   |nn _=>cases Z
   |nc _=>cases Z
   |cn _=>rw[List.zip_nil_right]at Z;cases Z
   |eq U L =>
    rw[C4]at Z;injection Z with EI hrest;injection EI with hy hx;subst hy hx;simp only[Aa]at F;refine AA (U prog w _ _ ?_)
    wp_walk
    exact⟨rfl,rfl,_,_,hrest,L,by omega⟩
   |ne U hc =>
    rw[C4]at Z;injection Z with EI hrest;injection EI with hy hx;subst hy hx;refine AA (U prog w _ _ ?_);have a2:=hc prog w
    wp_walk using a2
    exact⟨_,rfl,by simpa using h⟩
  case fin =>
   rintro⟨b1,b2⟩ s' ⟨Y,rfl,vs,ws,Z,M,F⟩;simp only at Y;subst Y;have hv:r=decide (items.size<I.size):=by
    cases M with|nn hr=>simp only[List.length_nil]at F;rw[hr];exact (Ak (by omega)).symm|nc hr=>simp only[List.length_nil,Aa]at F;rw[hr];exact (Af (by omega)).symm|cn hr=>simp only[List.length_nil,Aa]at F;rw[hr];exact (Ak (by omega)).symm|eq U L=>rw[C4]at Z;cases Z|ne U hc=>rw[C4]at Z;cases Z
   rw[hv]at h
   wp_walk
   exact⟨_,rfl,by simpa[Builtin.Tuple.tupleCompareSizes] using h⟩
  case h=>exact⟨rfl,rfl,items.toList,I.toList,rfl,hG,by simp;omega⟩
end
end EX
namespace EV
open PySem PySem.Spec PyProof.Rows L2 EX
mutual
def fQ:PV->PV->EO Bool| .int i,.int j=>some (decide (i<j))| .tup l,.tup m=>ft l m|_,_=>none
def ft:EK PV->EK PV->EO Bool|[],[]=>some false|[],_::_=>some true|_::_,[]=>some false|p::ps,q::qs=>if eY p q=true then ft ps qs else fQ p q
end
section
variable{X:Cx}{Ee:EK (EN×Obj)}{σ:L2.St}{H:Hp}{s:EM}
def mZ(X:Cx)(H:Hp)(s:EM)(A:EW)(p q:PV):Prop:=∀{v u:V} {R F:EL} {r:Bool},RW X.K H p v->RW X.K H q u->RelV v R->RelV u F->fQ p q=some r ->
  ∀(prog:ER) (wd:EU) (E:EL->EM->Prop) (Q:EL->EM->Prop),Q (.bool r) s->wpAny (model prog wd) A (richCompare .Lt R F) Q E s
def vg(I:L2.Inv X Ee σ H s){n:Nat}{A:EW}{r:Bool}(hu:A.units+n<cLine)(ih:∀p q,fA p≤n->mZ X H s A p q):∀{l m:EK PV} {xs R:EK V} {Eg Y:EK EL},eP l≤n->eO X.K H l xs->eO X.K H m R->ei xs Eg->ei R Y->ft l m=some r->f9 A s r Eg Y:=by
 intro l;induction l with
 |nil =>
  intro m xs R Eg Y _ M U Z L e;unfold eO at M;subst M;cases Z;cases m with|nil=>unfold eO at U;subst U;cases L;unfold ft at e;cases e;exact .nn rfl|cons q qs=>unfold eO at U;obtain⟨y,yr,rfl,_,_⟩:=U;cases L;unfold ft at e;cases e;exact .nc rfl
 |cons p ps a0 =>
  intro m xs R Eg Y hd M U Z L e;unfold eO at M;obtain⟨x,xr,rfl,hx,a1⟩:=M;unfold eP at hd;cases Z with
  |cons rx a2 =>
   cases m with
   |nil=>unfold eO at U;subst U;cases L;unfold ft at e;cases e;exact .cn rfl
   |cons q qs =>
    unfold eO at U;obtain⟨y,yr,rfl,hy,a3⟩:=U;cases L with
    |cons ry a4 =>
     have F:=kI I n p q x y _ _ A (by omega) hu hx hy rx ry;unfold ft at e;cases hq:eY p q with|true=>rw[hq]at e F;exact .eq F (a0 (by omega) a1 a3 a2 a4 e)|false=>rw[hq]at e F;exact .ne F (ih p q (by omega) hx hy rx ry e)
def k7(I:L2.Inv X Ee σ H s):∀(n:Nat) (p q:PV) (A:EW),fA p≤n->A.units+n<cLine->mZ X H s A p q:=by
 intro n;induction n with
 |zero =>
  intro p q A hd hu v u uv uu r R Z rv ru e prog wd E Q h;cases p with
  |int i =>
   cases q with|int j=>unfold RW at R Z;subst R;subst Z;obtain⟨t,rfl⟩:=rv;obtain⟨t',rfl⟩:=ru;unfold fQ at e;cases e;exact HT.rcLt_int A s i t j t' prog wd E Q h|_=>simp[fQ]at e
  |tup l=>unfold fA at hd;omega
  |_=>cases q <;> simp[fQ]at e
 |succ n ih =>
  intro p q A hd hu v u uv uu r R Z rv ru e prog wd E Q h;cases p with
  |int i =>
   cases q with|int j=>unfold RW at R Z;subst R;subst Z;obtain⟨t,rfl⟩:=rv;obtain⟨t',rfl⟩:=ru;unfold fQ at e;cases e;exact HT.rcLt_int A s i t j t' prog wd E Q h|_=>simp[fQ]at e
  |tup l =>
   cases q with
   |tup m =>
    unfold RW at R Z;obtain⟨a,xs,rfl,h2,h3⟩:=R;obtain⟨a',ys,rfl,k2,k3⟩:=Z;cases rv;cases ru;obtain⟨Eg,r1,t1,_⟩:=I.tuple h2;obtain⟨Y,r2,t2,_⟩:=I.tuple k2;unfold fQ at e;unfold fA at hd;obtain⟨⟨cls,dd,data,sl⟩,ho,hc,n1,M⟩:=id t1;obtain⟨⟨a4,a2,data2,a3⟩,U,a0,n2,L⟩:=id t2;simp only at hc M a0 L;subst hc M a0 L;have a1:A.in1.units+n<cLine:=by show A.units+1+n<cLine;omega
    have G:=vg I (n:=n) (A:=A.in1) a1 (fun p q hd=>ih p q A.in1 hd a1) (by omega) h3 k3 r1 r2 e;exact richCompare_meets_room (op:= .Lt) ⟨_,ho,rfl⟩ ⟨_,U,rfl⟩ PySem.F.slot_tuple_lt PySem.F.entry_tuple_lt (PySem.F.args_tuple_lt_2 _ _) (ja _ _ Eg.toArray Y.toArray n1 n2 dd a2 sl a3 r)
     ⟨ho,U,by simpa using G,show Value.bool r≠Value.notImplemented∧Q (.bool r) s from⟨(fun x=>nomatch x),h⟩⟩ (by omega)
   |_=>simp[fQ]at e
  |_=>cases q <;> simp[fQ]at e
end
section
variable{X:Cx}{E:XK}{a c:EY}{fa fb:FE}{pos:Pos}
def ot(K:EQ):R2:=fun u v H Q=>∃p q r,RW K H p u∧RW K H q v∧fA p≤Y9∧fQ p q=some r∧Q (.bl r) H
def pj(M:X.A.units+64<cLine):fy X (compareOp .Lt) (ot X.K):=by intro Ee s σ H x y v u Q I R L h;obtain⟨p,q,r,F,Z,hd,e,h⟩:=h;exact k7 I 60 p q X.A hd (by omega) F Z R L e _ _ _ _ ⟨.bl _,H,I,rfl,h⟩
def J7:PV->PV->qC->Rs PV:=fun p q st=>if ie (res st p) (res st q)=true then (match fQ (res st p) (res st q) with|some r=>.ok (.bl r) st|none=>.no) else .no
def xW:ge X E (ot X.K) J7:=by
 intro H b st p q u v Q S Z L P;unfold J7 at P;split at P
 ·rename_i h;obtain⟨Y,U,F⟩:=ym h;split at P;rename_i r M;exact⟨_,_,r,Zw S Z Y,Zw S L U,F,M,ed.here P S Wz⟩;exact P.elim
 ·exact P.elim
end
end EV
end
section
namespace EX
open PySem PySem.Spec PyProof.Rows L2
def fS(bt:Nat->Nat->Bool):Nat->Nat|0=>0|n+1=>if bt (n+1) (fS bt n)=true then n+1 else fS bt n
def lE(bt:Nat->Nat->Bool):∀n,fS bt n≤n
 |0=>AN _
 |n+1=>by
  unfold fS;split;exact AN _;exact Nat.le_succ_of_le (lE bt n)
section
variable{prog:ER}{w:EU}{A:EW}{R:Result->EM->Prop}{s0:EM}{bt:Nat->Nat->Bool}{Eg:EK EL}{l B It:EN}{kw:EK (Str×EL)}
theorem DA(hh:A.handled=none)(hB:s0.heap.objs.size≤B)(hI:s0.heap.objs.size≤It)(a2:B≠It)(hl:s0.heap.IsList l Eg.toArray)
  (hc:∀(i j:Nat) (vi vj:EL),Eg[i]? = some vi->Eg[j]? = some vj->∀(h':Heap) (tk:Nat),(∀b o,s0.heap.get? b=some o->h'.get? b=some o)->∀(E Q:EL->EM->Prop),Q (.bool (bt i j)) { s0 with heap:=h',toks:=tk }->wpAny (model prog w) A.in1 (richCompare .Lt vi vj) Q E { s0 with heap:=h',toks:=tk })
  (hR:∀(v:EL) (h':Heap) (tk:Nat),Eg[fS bt (Eg.length-1)]? = some v->(∀b o,s0.heap.get? b=some o->h'.get? b=some o)->R (.ok (.ret v)) { s0 with heap:=h',toks:=tk }) :
  ∀(k i:Nat) (h:Heap) (tk:Nat) (L:EL) (c:Nat),Eg.length-(i+1)=k->i+1≤Eg.length->(∀b o,s0.heap.get? b=some o->h.get? b=some o)->h.IsListIter It l (i+1)->h.get? B=some (seqObj "list" #[L,L] c)->Eg[fS bt i]? = some L ->
   codeAny (model prog w) A (.builtin "min.loop" ⟨[.ref It,.none,.ref B],kw⟩) R { s0 with heap:=h,toks:=tk }:=by
 have a0:l<s0.heap.objs.size:=by obtain⟨o,I,_⟩:=hl;exact AK I
 have aa:l≠It:=fun z=>by rw[z]at a0;exact absurd a0 (Cr hI)
 have ae:l≠B:=fun z=>by rw[z]at a0;exact absurd a0 (Cr hB)
 have a3:∀{b:EN} {o:Obj},s0.heap.get? b=some o->b≠It∧b≠B:=fun {b o} I=>⟨fun z=>by have:=AK I;rw[z]at this;exact absurd this (Cr hI),fun z=>by have:=AK I;rw[z]at this;exact absurd this (Cr hB)⟩;have W:=Walks.list (prog:=prog) (w:=w) (A:=A.in1) hh It l aa Eg.toArray;intro k;induction k with
 |zero =>
  intro i h tk L c hk hi q a4 hb hv;have a1:i+1=Eg.length:=by omega
  have hL:h.IsList l Eg.toArray:=hl.at fun o I=>q l o I;refine BJ F.entry_min_loop ?_;rw[BR CF];refine AA (BP hb rfl (AA (wpAny_tryCatch (W.done { s0 with heap:=h,toks:=tk } _ _ (by rw[AR,←a1];exact⟨a4,hL⟩) fun h' M U=>?_))));have Y:=U B _ (by simp;exact a2) hb;show wpAny _ _ (updateSeq B (fun x => #[]) >>= fun _=>letGo [L] [L] >>= fun _=>ret L) _ _ _;refine AA (Ce Y rfl (AA (Cw (AB ?_))) (show 2≤sizeLine by decide) (show 0≤sizeLine+1 by decide));refine hR L _ M (by rw[←a1,BS];exact hv) fun b o I=>?_;obtain⟨h1,h2⟩:=a3 I;exact (AY _ _ (Ne.symm h2)).trans (U b o (by simp;exact h1) (q b o I))
 |succ k ih =>
  intro i h tk L c hk hi q a4 hb hv;have a1:i+1<Eg.length:=by omega
  have hL:h.IsList l Eg.toArray:=hl.at fun o I=>q l o I;refine BJ F.entry_min_loop ?_;rw[BR CF];refine AA (BP hb rfl (AA (wpAny_tryCatch (W.item (i+1) { s0 with heap:=h,toks:=tk } _ _ (by rw[AR];exact a1) ⟨a4,hL⟩ fun v h' M hP a7 U=>?_))));have a8:Eg[i+1]? = some v:=by simpa using hP
  have Y:=U B _ (by simp;exact a2) hb;have Z:∀b o,s0.heap.get? b=some o->h'.get? b=some o:=fun b o I=>U b o (by simp;exact (a3 I).1) (q b o I);refine AA (AB (AA (wpAny_tryCatch (Ay (AA (hc (i+1) (fS bt i) v L a8 hv h' M Z _ _ (AA (Ay (Bj (AA (Cw (AB ?_))))))))))));have a5:(toString "min" ++ toString ".loop") = "min.loop" :=by decide
  rw[a5];cases a9:bt (i+1) (fS bt i) with
  |true =>
   rw[AC rfl];refine AA (Ce Y rfl (AA (Cw (AB ⟨CN CF _,?_⟩))) (show 2≤sizeLine by decide) (show 2≤sizeLine+1 by decide));have a6:∃c',(h'.update B (Obj.mapSeq fun x => #[v,v])).get? B=some (seqObj "list" #[v,v] c'):=by rw[Az _ Y rfl];exact⟨_,rfl⟩
   obtain⟨c',a6⟩:=a6;obtain⟨⟨oi,ab,ac⟩,_⟩:=a7;refine ih (i+1) _ M v c' (by omega) (by omega) (fun b o I=>(AY _ _ (Ne.symm (a3 I).2)).trans (Z b o I)) ⟨oi,(AY _ _ a2).trans ab,ac⟩ a6 ?_;unfold fS;rw[a9,AC rfl];exact a8
  |false =>
   rw[AF (by decide)];refine AA (Cw (AB ⟨CN CF _,?_⟩));refine ih (i+1) _ M L c (by omega) (by omega) Z a7.1 Y ?_;unfold fS;rw[a9,AF (by decide)];exact hv
theorem DS{Q:EL->EM->Prop}{E:EL->EM->Prop}{d:EL}(hh:A.handled=none)(hl:s0.heap.IsList l Eg.toArray)
  (hc:∀(i j:Nat) (vi vj:EL),Eg[i]? = some vi->Eg[j]? = some vj->∀(h':Heap) (M:Nat),(∀b o,s0.heap.get? b=some o->h'.get? b=some o)->∀(E Q:EL->EM->Prop),Q (.bool (bt i j)) { s0 with heap:=h',toks:=M }->wpAny (model prog w) A.in1 (richCompare .Lt vi vj) Q E { s0 with heap:=h',toks:=M })
  (h1:∀(v:EL) (h':Heap) (M:Nat),Eg[fS bt (Eg.length-1)]? = some v->(∀b o,s0.heap.get? b=some o->h'.get? b=some o)->Q v { s0 with heap:=h',toks:=M })
  (h2:∀(h':Heap) (M:Nat),Eg=[]->(∀b o,s0.heap.get? b=some o->h'.get? b=some o)->Q d { s0 with heap:=h',toks:=M }) :
  wpAny (model prog w) A (call (.builtin "min") [.ref l] [("default",d)]) Q E s0:=by
 refine C7 (Cp F.plain_min F.entry_min ?_);refine Aw (a:=()) (by kernel_rfl) ?_;have a3:l<s0.heap.objs.size:=by obtain⟨o,Z,_⟩:=hl;exact AK Z
 refine AA (Aw (a:=[none,some d]) (by kernel_rfl) ?_);refine AA (AB (AA (Ci hl (AA (CM ?_)))));have I:(toString "min" ++ toString ".loop") = "min.loop" :=by decide
 rw[I];refine AB ⟨CN CF _,?_⟩;have a4:s0.heap.objs.size≤s0.heap.objs.size:=AN _;have hz:(s0.heap.push { cls:=.type "list_iterator",data:=.fields #[.ref l,.int 0 0] }).objs.size=s0.heap.objs.size+1:=BI ..;show codeAny _ _ (.builtin "min.loop" ⟨[.ref s0.heap.objs.size,.none,.ref (s0.heap.push { cls:=.type "list_iterator",data:=.fields #[.ref l,.int 0 0] }).objs.size],[("default",d)]⟩) _ { s0 with heap:=(s0.heap.push { cls:=.type "list_iterator",data:=.fields #[.ref l,.int 0 0] }).push { cls:=.type "list",data:=.seq ([]:EK EL).toArray } };rw[hz];have hb:((s0.heap.push { cls:=.type "list_iterator",data:=.fields #[.ref l,.int 0 0] }).push { cls:=.type "list",data:=.seq ([]:EK EL).toArray }).get? (s0.heap.objs.size+1)=some (seqObj "list" #[] 0):=by rw[←hz];exact AQ _ rfl
 have q:∀b o,s0.heap.get? b=some o->((s0.heap.push { cls:=.type "list_iterator",data:=.fields #[.ref l,.int 0 0] }).push { cls:=.type "list",data:=.seq ([]:EK EL).toArray }).get? b=some o:=fun b o Z=>AD _ (AD _ Z);have a0:((s0.heap.push { cls:=.type "list_iterator",data:=.fields #[.ref l,.int 0 0] }).push { cls:=.type "list",data:=.seq ([]:EK EL).toArray }).IsListIter s0.heap.objs.size l 0:=⟨_,AD _ (AQ _ rfl),rfl,rfl⟩;have hL:((s0.heap.push { cls:=.type "list_iterator",data:=.fields #[.ref l,.int 0 0] }).push { cls:=.type "list",data:=.seq ([]:EK EL).toArray }).IsList l Eg.toArray:=hl.at fun o Z=>q l o Z;have W:=Walks.list (prog:=prog) (w:=w) (A:=A.in1) hh s0.heap.objs.size l (AV a3) Eg.toArray;have a1:s0.heap.objs.size+1≠s0.heap.objs.size:=Nat.succ_ne_self _;have R:∀{b:EN} {o:Obj},s0.heap.get? b=some o->b≠s0.heap.objs.size∧b≠s0.heap.objs.size+1:=fun {b o} Z=>⟨AV (AK Z),AV (BG (AK Z))⟩;refine BJ F.entry_min_loop ?_;rw[BR CF];refine AA (BP hb rfl (AA (wpAny_tryCatch ?_)));by_cases h0:Eg=[];subst h0;refine W.done _ _ _ ⟨a0,hL⟩ fun h' Y L=>?_;refine AA (BM (AB ?_));exact h2 h' Y rfl fun b o Z=>L b o (by simp;exact (R Z).1) (q b o Z)
 ·have hp:0<Eg.length:=List.length_pos_iff.mpr h0;refine W.item 0 _ _ _ (by rw[AR];exact hp) ⟨a0,hL⟩ fun v h' Y hP a5 L=>?_;have a6:Eg[0]? = some v:=by simpa using hP
  have a2:=L (s0.heap.objs.size+1) _ (by simp) hb;refine AA (AB (AA (Ce a2 rfl ?_ (by decide) (show 2≤sizeLine+1 by decide))));rw[I];refine AB ⟨CN CF _,?_⟩;have U:∃c',(h'.update (s0.heap.objs.size+1) (Obj.mapSeq fun x => #[v,v])).get? (s0.heap.objs.size+1)=some (seqObj "list" #[v,v] c'):=by rw[Az _ a2 rfl];exact⟨_,rfl⟩
  obtain⟨c',U⟩:=U;obtain⟨⟨oi,a7,a8⟩,_⟩:=a5;exact DA hh (Nat.le_succ _) a4 a1 hl hc (fun v h' M he hk=>h1 v h' M he hk) _ 0 _ Y v c' rfl hp (fun b o Z=>(AY _ _ (Ne.symm (R Z).2)).trans (L b o (by simp;exact (R Z).1) (q b o Z))) ⟨oi,(AY _ _ a1).trans a7,a8⟩ U a6
end
end EX
end
section
namespace EV
open PySem PySem.Spec PyProof.Rows L2 EX
def fZ(l:EK PV)(i j:Nat):Bool:=fQ (l.getD i .non) (l.getD j .non)==some true
def kl(l:EK PV):Bool:=l.all fun p=>l.all fun q=>(fQ p q).isSome
section
variable{X:Cx}{E:XK}{e:EY}{te:TE}{f:FE}{p kp EA pos:Pos}{j:Nat}
def sG(K:EQ)(te:TE):TE:=fun σ H Q=>te σ H fun x H1=>∃a l xs,x= .ref a∧fm K H1 a xs∧eO K H1 l xs∧eP l≤Y9∧kl l=true∧(l=[]->Q .non H1)∧∀v,xs[fS (fZ l) (l.length-1)]? = some v->Q v H1
def vq(hc:X.calm=true)(hu:X.A.units+64<cLine)(hg:Gl X "min")(hm:X.mg "min" = none)(he:PE X e te)
  (h1:starEach [e] X.env=(false,eval e X.env)::starEach [] X.env:=by rfl)
  (h2:backToKw pos (keywordEach [⟨some "default",.Constant .none j kp,EA⟩] X.env)=[(some ("default":Str),do let v ← eval (.Constant .none j kp) X.env;standAt pos;pure v)]:=by rfl) :
  PE X (.Call (.Name "min" p) [e] [⟨some "default",.Constant .none j kp,EA⟩] pos) (sG X.K te):=by
 intro Ee s σ H Q I h;refine Be (Wq I hg hm PyProof.Rows.boot_min ?_ (by decide) (by decide));refine PyProof.Rows.callWith_builtin_kwB (by rw[h1];rfl) (by rw[h2];rfl) ?_;rw[h1];show wpAny _ _ (evalArgs _ true ((false,eval e X.env)::[]) _) _ _ _;refine PyProof.Rows.evalArgs_kwB (by rw[h2];rfl) ?_;refine Cb (eK (he Ee s σ H _ I h) fun u s1 ⟨x,H1,I1,r1,q1⟩=>Ch ?_);rw[h2]
 show wpAny _ _ (evalAll [do let v ← eval (.Constant .none j kp) X.env;standAt pos;pure v]) _ _ _
 refine wpAny_evalAll_cons (AA ?_);have hn:=mM (X:=X) (j:=j) (pos:=kp) Ee s1 σ H1 (fun v K2=>v= .non∧K2=H1) I1 (show (V.non= .non∧H1=H1) from⟨rfl,rfl⟩);refine eK hn fun u2 s2 R=>?_;obtain⟨x2,H2,I2,r2,e1,e2⟩:=R;subst e1;subst e2;cases r2;refine AA (CZ (AB (wpAny_evalAll_nil ?_)));obtain⟨a,l,xs,rfl,hq,hl,hd,Z,q0,q1⟩:=q1;cases r1;obtain⟨Eg,rv,ht,hz⟩:=I2.list hq;have hh:X.A.handled=none:=I.ok.hd hc;have Y:=rv.length;have q:l.length=xs.length:=eO.length hl;show wpAny _ _ (call (.builtin "min") [.ref a] [("default",.none)]) _ _ _;refine DS (bt:=fZ l) (Eg:=Eg) hh ht.isList (fun i k vi vk hi hk h' tk F E' Q' hQ=>?_) (fun v h' tk hv F=>?_) fun h' tk h0 F=>?_
 ·obtain⟨x1,U,L⟩:=ei.get2 rv hi;obtain⟨x2,R,a1⟩:=ei.get2 rv hk;obtain⟨p1,M,a2⟩:=eO.get' hl U;obtain⟨p2,a0,a3⟩:=eO.get' hl R;have I3:=I2.kept (h':=h') (t':=tk) F;have hs:=Z;unfold kl at hs;rw[A0]at hs;have a4:=A0.mp (hs p1 (Bh M)) p2 (Bh a0);obtain⟨r,hr⟩:=Option.isSome_iff_exists.mp a4;have hb:fZ l i k=r:=by unfold fZ;rw[AH,AH,M,a0];show (fQ p1 p2==some true)=r;rw[hr];cases r <;> rfl
  rw[hb]at hQ;exact k7 I3 60 p1 p2 X.A.in1 (AW (W4 M) hd) (by show X.A.units+1+60<cLine;omega) a2 a3 L a1 hr _ _ _ _ hQ
 ·rw[←Y,←q]at hv;obtain⟨x1,U,L⟩:=ei.get2 rv hv;exact⟨x1,_,I2.kept (h':=h') (t':=tk) F,L,q1 x1 U⟩
 ·have:l=[]:=List.eq_nil_of_length_eq_zero (by rw[q,Y,h0];rfl)
  exact⟨.non,_,I2.kept (h':=h') (t':=tk) F,rfl,q0 this⟩
def ee.get'{K:EQ}{H:Hp}{b:Bz}:∀{l:EK PV} {xs:EK V} {i:Nat} {x:V},ee K H b l xs->xs[i]? = some x->∃p,l[i]? = some p∧RV K H b p x|[],_,_,_,r,h=>by unfold ee at r;subst r;cases h|q::ps,_,0,x,r,h=>by unfold ee at r;obtain⟨y,t,rfl,U,F⟩:=r;cases h;exact⟨q,rfl,U⟩|q::ps,_,i+1,x,r,h=>by unfold ee at r;obtain⟨y,t,rfl,U,F⟩:=r;exact ee.get' (l:=ps) (i:=i) F h
def kg:PV->qC->Rs PV:=fun q st=>match fJ st q with
 |some l=>if gt l=true∧eP l≤Y9∧kl l=true then (match l with
   |[]=>.ok .non st
   |b::l=>.ok ((b::l).getD (fS (fZ (b::l)) l.length) .non) st) else .no
 |none=>.no
def Jb(f:FE):FE:=fun r st=>(f r st).bind kg
def Da(Z:X.calm=true)(hu:X.A.units+64<cLine)(hm:X.mg "min" = none)(h:VE X E e f)(hg:Gl X "min" :=by rfl)
  (h1:starEach [e] X.env=(false,eval e X.env)::starEach [] X.env:=by rfl)
  (U:backToKw pos (keywordEach [⟨some "default",.Constant .none j kp,EA⟩] X.env)=[(some ("default":Str),do let v ← eval (.Constant .none j kp) X.env;standAt pos;pure v)]:=by rfl) :
  VE X E (.Call (.Name "min" p) [e] [⟨some "default",.Constant .none j kp,EA⟩] pos) (Jb f) :=
 PE.imp (vq Z hu hg hm h h1 U) fun s H Q ⟨b,r,st,S,R,P⟩=>⟨b,r,st,S,R,ed.bind P fun q s1 u H1 b1 e1 M r1 I=>by
  unfold kg at I;split at I
  ·rename_i l el;split at I
   ·rename_i Y;obtain⟨x,xs,rfl,U,F⟩:=Q6 M r1 el;refine⟨x,l,xs,rfl,U,ee.rws l Y.1 F,Y.2.1,Y.2.2,fun h0=>?_,fun v L=>?_⟩;subst h0;exact ed.here I M (by unfold RV;rfl)
    ·cases l with
     |nil=>unfold ee at F;subst F;cases L
     |cons b l =>
      obtain⟨p,hp,rp⟩:=ee.get' F L;have e2:(b::l).getD (fS (fZ (b::l)) l.length) .non=p:=by rw[AH,show (fS (fZ (b::l)) l.length)=fS (fZ (b::l)) ((b::l).length-1) by rw[Aa,BS],hp];rfl
      dsimp only at I;rw[e2]at I;exact ed.here I M rp
   ·exact I.elim
  ·exact I.elim⟩
def qA9:=gI fun i j=>if 0<j∧j<2 ^ 64 then some (.int (i/j)) else none
def p7:fy X (binaryOp .FloorDiv) (rI (fun _ j=>0<j∧j<2 ^ 64) fun i j=>.int (i/j)):=i9 fun i j _ _ _ _ _ U q=>by
 have Y:(0:Int)<j:=U.1;have Z:j<2 ^ 64:=U.2;refine floordiv_int (by omega) (by rw[Int.fdiv_eq_ediv_of_nonneg i (by omega)];exact q) (.inl (PyProof.noPylong_of_log2 ?_));have F:j.natAbs<2 ^ 64:=by omega
 have M:j.natAbs≠0:=by omega
 exact Nat.lt_trans ((Nat.log2_lt M).mpr F) (by decide)
def tF{a c:EY}{fa I:FE}(F:VE X E a fa)(hb:VE X E c I):VE X E (.BinOp a .FloorDiv c pos) (qK qA9 fa I):=Zn p7 (iT fun i j z e=>by
 split at e;rename_i h;cases e;exact⟨h,fun _ _=>Q0⟩;cases e) F hb
end
end EV
end
section
namespace ET
open PySem PySem.Spec PyProof.Rows L2 EX
section
variable{prog:ER}{w:EU}{A:EW}{E:EL->EM->Prop}{s:EM}
abbrev TK(prog:ER)(w:EU)(h:Heap)(ks:EK Int)(b:EN):Prop:=IsTupleKey (intKind prog w) h ks b
end
end ET
end
section
namespace ET
open PySem PySem.Spec PyProof.Rows L2 EX PySem.W
section
variable{O:KeyOrd}{Ek:Nat->O.α}{n:Nat}
structure PB (n:Nat) (p:Array Nat):Prop where
 perm:p.Perm (List.range n).toArray
def PB.size{p:EZ Nat}(h:PB n p):p.size=n:=by
 have:=h.perm.size_eq;simpa using this
def kq(Ek:Nat->O.α)(p:EZ Nat)(k:Nat):O.α:=Ek (p.getD k 0)
def fU(Ek:Nat->O.α)(p:EZ Nat)(k:Nat):Prop:=∀i j,i≤j->j<k->O.kle (kq Ek p i) (kq Ek p j)
end
section
variable{prog:ER}{w:EU}{A:EW}{E:EL->EM->Prop}{s:EM}{O:KeyOrd}
def tP{vs:EK EL}(L:vs.toArray.size=vs.length)(U:vs.toArray.size<2):List.toArray ((List.range vs.length).toArray.toList.map fun i=>vs.getD i Value.none)=(vs.toArray.zip vs.toArray).map (·.2):=by
 match vs,L,U with|[],_,_=>simp|[v],_,_=>simp|q::F::Z,L,U=>rw[L,Aa,Aa]at U;omega
abbrev YK(prog:ER)(w:EU)(A:EW)(E:EL->EM->Prop)(κ:SortKind)(vs:EK EL)(Ek:Nat->O.α)(Z:EM):Prop :=
 wpAny (model prog w) A ((sortRuns').run (SortSt.mk' κ (vs.toArray.zip vs.toArray) #[] 7 none)) (fun r L=>∃p:EZ Nat,p.size=vs.length∧arrOf r.2=p.map (kas_item (vs.toArray.zip vs.toArray))∧failedOf r.2=none∧L=Z∧PB vs.length p∧fU Ek p vs.length) E Z
def vR{a:EN}{vs:EK EL}{n:Nat}{P:PySem.Fin->EM->Prop}{Ek:Nat->O.α}{κ:SortKind}(L:s.heap.get? a=some (seqObj "list" vs.toArray n))(a2:vs.length<1000)
  (hk:2≤vs.length->∀(Z:Heap) (Q:SortKind->EM->Prop),(∀b o,b≠a->s.heap.get? b=some o->Z.get? b=some o)->Q κ { s with heap:=Z }->wpAny (model prog w) A (keyKind' vs.toArray) Q E { s with heap:=Z })
  (I:2≤vs.length->∀Z:Heap,(∀b o,b≠a->s.heap.get? b=some o->Z.get? b=some o)->YK prog w A E κ vs Ek { s with heap:=Z })
  (h:∀p:EZ Nat,PB vs.length p->fU Ek p vs.length->P (.done (.ret .none)) { s with heap:=sortedHeap s.heap a vs (List.toArray (p.toList.map fun i=>vs.getD i Value.none)) }) :
  wpAny (model prog w) A (Builtin.«list.sort» ⟨[.ref a],[]⟩) P E s:=by
 rw[list_sort_plain];have ha:a<s.heap.objs.size:=AK L;refine AA (listItems_at L rfl ?_);refine AA (listUpdate_at L rfl ?_);obtain⟨e1,U⟩:∃e1,(s.heap.update a (Obj.mapSeq fun _ => #[])).get? a=some (seqObj "list" #[] e1):=⟨_,get?_update_seq L (fun _ => #[])⟩;refine AA (seqEpoch_at U rfl ?_);refine AA (wpAny_newTuple ?_);refine AA (CM ?_);refine Ay ?_;have Y:(((s.heap.update a (Obj.mapSeq fun _ => #[])).push (seqObj "tuple" vs.toArray 0)).push (seqObj "list" #[] 0)).get? a=some (seqObj "list" #[] e1):=by
  rw[Heap.get?_push_ne _ _ _ (by rw[size_push',CW];exact AV (BG ha)),Heap.get?_push_ne _ _ _ (by rw[CW];exact AV ha)];exact U
 have keep:∀b o,b≠a->s.heap.get? b=some o->(((s.heap.update a (Obj.mapSeq fun _ => #[])).push (seqObj "tuple" vs.toArray 0)).push (seqObj "list" #[] 0)).get? b=some o:=fun b o hb q =>
  AD _ (AD _ ((AY _ _ (Ne.symm hb)).trans q))
 show wpAny (model prog w) A _ P E { s with heap:=((s.heap.update a (Obj.mapSeq fun _ => #[])).push (seqObj "tuple" vs.toArray 0)).push (seqObj "list" #[] 0) };dsimp only;have a0:vs.toArray.size=vs.length:=by simp
 by_cases F:vs.toArray.size<2
 ·rw[AC F,AC F];refine AA (AB ?_);rw[StateT.run_pure];refine AA (AB ?_);dsimp only;refine AA (seqEpoch_at Y rfl ?_);refine AA (listUpdate_at Y rfl ?_ (hsz2:=by rw[Array.size_map];show (pairsOf vs).size≤_;rw[pairsOf_size,Cf];omega));simp only[bne_self_eq_false,C3,if_false];refine AB ?_
  have:=h (List.range vs.length).toArray ⟨Array.Perm.refl _⟩ fun i j a3 hj=>by
   have:i=j:=by omega
   subst this;exact BK _
  have e:List.toArray ((List.range vs.length).toArray.toList.map fun i=>vs.getD i Value.none)=(arrOf (SortSt.mk' general' (vs.toArray.zip vs.toArray) #[] 7 none)).map (·.2):=tP a0 F;rw[e]at this;exact this
 ·rw[AF F,AF F];have R:2≤vs.length:=by omega
  refine AA (hk R _ _ keep ?_);refine AA (Bb (I R _ keep) ?_ fun _ _ e=>e);rintro⟨⟨⟩,a4⟩ s' ⟨p,hp,a1,hf,rfl,B,S⟩;dsimp only;have M:=kat_snds rfl a1;refine AA (seqEpoch_at Y rfl ?_);refine AA (listUpdate_at Y rfl ?_ (hsz2:=by rw[M,AR,AG,Ai,hp,Cf];omega));rw[hf];simp only[bne_self_eq_false,C3,if_false];rw[M];exact AB (h p B S)
def Je{l:EN}{vs:EK EL}{Q:EK EL->EM->Prop}(hl:∃o,s.heap.get? l=some o∧o.cls= .type "tuple" ∧∃n,o.data= .seq vs.toArray n)(Z:vs.length≤sizeLine)
  (h:Q vs { s with heap:=(s.heap.push (seqObj "list" #[] 0)).update s.heap.objs.size (Obj.mapSeq (· ++ vs.toArray)) }):wpAny (model prog w) A (collect (.ref l)) Q E s:=by
 obtain⟨Y,R,F,nn,U⟩:=hl;unfold collect;refine AA (wpAny_runValue (BJ entry_proto_collect' ?_));show wpAny _ _ (do again (.builtin "list.__iadd__" ⟨[←newList [],.ref l],[]⟩)) _ _ s;refine AA (CM (AB ⟨Code.quiet_builtin _ (by decide +kernel),BJ entry_list_iadd' ?_⟩));show wpAny _ _ (Builtin.List.listExtendWith (.ref s.heap.objs.size) (.ref l) (.ref s.heap.objs.size)) _ _ { s with heap:=s.heap.push (seqObj "list" #[] 0) };unfold Builtin.List.listExtendWith;have L:(s.heap.push (seqObj "list" #[] 0)).get? l=some Y:=AD _ R;refine AA (CU (T := "tuple") ⟨Y,L,F⟩ ?_);have M:(Value.type "tuple" == Value.type "tuple")=true:=by rfl
 rw[AC (by rw[M];simp)];refine AA (listItems_at L U ?_);refine AA (listItems_at (xs := #[]) (n:=0) (AQ _ rfl) rfl ?_);rw[AF (by simp)];refine AA (listUpdate_at (xs := #[]) (n:=0) (AQ _ rfl) rfl ?_ (Bf _) (by show (#[]++vs.toArray).size≤sizeLine+1;simp only[Array.size_append,AR,List.length_nil];omega));refine AB ?_;show wpAny _ _ (load s.heap.objs.size >>= _) Q E _;refine AA (wpAny_load (get?_update_seq (AQ _ rfl) _) ?_);show wpAny _ _ (pure ((#[]:EZ EL)++vs.toArray).toList) Q E _;rw[show ((#[]:EZ EL)++vs.toArray).toList=vs by simp];exact AB h
def xA{l:EN}{vs:EK EL}{Q:EL->EM->Prop}{Ek:Nat->O.α}{κ:SortKind}(Z:∀{R:EL->EM->Prop} {Q':EK EL->EM->Prop},Q' vs { s with heap:=(s.heap.push (seqObj "list" #[] 0)).update s.heap.objs.size (Obj.mapSeq (· ++ vs.toArray)) }->wpAny (model prog w) A.in1 (collect (.ref l)) Q' R s)(a0:vs.length<1000)
  (hk:2≤vs.length->∀(A':EW) (R:EL->EM->Prop) (M:Heap) (Q:SortKind->EM->Prop),(∀b o,s.heap.get? b=some o->M.get? b=some o)->Q κ { s with heap:=M }->wpAny (model prog w) A' (keyKind' vs.toArray) Q R { s with heap:=M })
  (Y:2≤vs.length->∀(R:EL->EM->Prop) (M:Heap),(∀b o,s.heap.get? b=some o->M.get? b=some o)->YK prog w A.in1.in1 R κ vs Ek { s with heap:=M })
  (h:∀p:EZ Nat,PB vs.length p->fU Ek p vs.length->Q (.ref (s.heap.objs.size+1)) { s with heap:=sortedAll s.heap vs (List.toArray (p.toList.map fun i=>vs.getD i Value.none)) }) :
  wpAny (model prog w) A (call (.builtin "sorted") [.ref l]) Q E s:=by
 refine Calls.call_function_entry kind_sorted plain_sorted entry_sorted (args_sorted1 _) ?_;unfold Builtin.«sorted»;refine AA (m:=checkCount "sorted" 1 1 _) (AB ?_);refine AA (Z ?_);refine AA (CM ?_ (by rw[Cf];omega));have L:((s.heap.push (seqObj "list" #[] 0)).update s.heap.objs.size (Obj.mapSeq (· ++ vs.toArray))).objs.size=s.heap.objs.size+1:=by rw[CW,size_push']
 have U:(((s.heap.push (seqObj "list" #[] 0)).update s.heap.objs.size (Obj.mapSeq (· ++ vs.toArray))).push (seqObj "list" vs.toArray 0)).get? (s.heap.objs.size+1)=some (seqObj "list" vs.toArray 0):=by rw[←L];exact AQ _ rfl
 have keep:∀b o,s.heap.get? b=some o->(((s.heap.push (seqObj "list" #[] 0)).update s.heap.objs.size (Obj.mapSeq (· ++ vs.toArray))).push (seqObj "list" vs.toArray 0)).get? b=some o:=fun b o q=>by
  have I:b<s.heap.objs.size:=AK q;rw[Heap.get?_push_ne _ _ _ (by rw[L];exact AV (BG I)),Heap.get?_update_ne _ _ _ _ (AV I),Heap.get?_push_ne _ _ _ (AV I)];exact q
 show wpAny _ _ _ _ _ { s with heap:=((s.heap.push (seqObj "list" #[] 0)).update s.heap.objs.size (Obj.mapSeq (· ++ vs.toArray))).push (seqObj "list" vs.toArray 0) };rw[L];have F:∀b o,s.heap.get? b=some o->b≠s.heap.objs.size+1:=fun b o q=>AV (BG (AK q));refine AA (Ay (BA slot_list_sort ⟨_,U,rfl⟩ entry_list_sort (vR (O:=O) (Ek:=Ek) (κ:=κ) U a0 (fun h2 M Q' k q=>hk h2 _ _ M Q' (fun b o hb=>k b o (F b o hb) (keep b o hb)) q) (fun h2 M k=>Y h2 _ M fun b o hb=>k b o (F b o hb) (keep b o hb)) fun p a1 a2=>⟨_,rfl,?_⟩) (args_list_sort _)));exact AB ⟨_,rfl,h p a1 a2⟩
end
def fw:EK Int->EK Int->Bool|_,[]=>false|[],_::_=>true|a::l,b::m=>if a<b then true else if b<a then false else fw l m
def Wd:∀l,fw l l=false|[]=>rfl|a::l=>by rw[fw,AF (Ct a),AF (Ct a)];exact Wd l
def lv:∀a b c,fw a b=true->fw b c=true->fw a c=true
 |_,_,[],_,h=>by cases ‹EK Int› <;> simp[fw]at h
 |_,[],_::_,h,_=>by simp[fw]at h
 |[],_::_,_::_,_,_=>rfl
 |x::l,y::m,z::n,Y,U=>by
  unfold fw at Y U ⊢;by_cases F:x<y
  ·by_cases L:y<z;rw[AC (by omega)]
   ·rw[AF L]at U;by_cases I:z<y;rw[AC I]at U;cases U;rw[AC (by omega)]
  ·rw[AF F]at Y;by_cases q:y<x;rw[AC q]at Y;cases Y
   ·rw[AF q]at Y;by_cases L:y<z;rw[AC (by omega)]
    ·rw[AF L]at U;by_cases I:z<y;rw[AC I]at U;cases U
     ·rw[AF I]at U;rw[AF (by omega),AF (by omega)];exact lv l m n Y U
def Zb:∀a b,fw a b=false->fw b a=false->a=b
 |[],[],_,_=>rfl
 |[],_::_,h,_=>by cases h
 |_::_,[],_,h=>by cases h
 |x::l,y::m,Y,U=>by
  unfold fw at Y U;by_cases F:x<y;rw[AC F]at Y;cases Y
  ·by_cases q:y<x;rw[AC q]at U;cases U
   ·rw[AF F,AF q]at Y;rw[AF q,AF F]at U
    have:x=y:=by omega
    rw[this,Zb l m Y U]
def iy:KeyOrd where
 α:=EK Int
 blt:=fw
 irrefl:=Wd
 trans:=lv
 total:=Zb
 negTrans:=fun a b c h=>by
  cases h1:fw a b with
  |true=>exact .inl rfl
  |false =>
   right;cases h2:fw b a with|true=>exact lv b a c h2 h|false=>rw[←Zb a b h1 h2];exact h
section
variable{prog:ER}{w:EU}{A:EW}{E:EL->EM->Prop}{s:EM}
def sd(b:Bool){x y:Int}{t u:Tok}{Q:Bool->EM->Prop}(h:Q (decide (x<y)) s):wpAny (model prog w) A (oneLt' b (.int x t) (.int y u)) Q E s:=by
 cases b with|true=>exact oneLt_int h|false=>exact kat_one _ _ (wpAny_lt_int h)
def gf(Er:EK (EK Int)):EK (EK Int):=Er.mergeSort fun a b=> !fw b a
def Zd(Er:EK (EK Int)):(gf Er).Perm Er:=List.mergeSort_perm _ _
def ny(Er:EK (EK Int)):(gf Er).Pairwise fun a b=>fw b a=false:=by
 have:=List.pairwise_mergeSort (le:=fun a b:EK Int=> !fw b a) (fun a b c Y U=>by
  simp only[Bool.not_eq_eq_eq_not,Bool.not_true]at Y U ⊢;exact A7 (O:=iy) Y U) (fun a b=>by
  cases h:fw b a with
  |false=>simp
  |true =>
   have:fw a b=false:=A8 (O:=iy) (a:=b) (b:=a) h
   simp[this]) Er
 exact this.imp fun h=>by simpa using h
def mI:∀{l m:EK (EK Int)},l.Pairwise (fun a b=>fw b a=false)->m.Pairwise (fun a b=>fw b a=false)->l.Perm m->l=m
 |[],m,_,_,p=>(List.Perm.eq_nil p.symm).symm
 |x::l,[],_,_,p=>by have:=p.length_eq;simp at this
 |x::l,y::m,hl,M,p=>by
  have L:x∈y::m:=p.mem_iff.mp AT;have I:y∈x::l:=p.mem_iff.mpr AT;have e:x=y:=by
   have Y:fw y x=false:=by
    rcases AJ.mp I with q|q
    ·rw[q];exact Wd _
    ·exact (A3.mp hl).1 y q
   have U:fw x y=false:=by
    rcases AJ.mp L with q|q
    ·rw[q];exact Wd _
    ·exact (A3.mp M).1 x q
   exact Zb _ _ U Y
  subst e;rw[mI (A3.mp hl).2 (A3.mp M).2 (List.Perm.cons_inv p)]
end
end ET
end
section
namespace ET
open PySem PySem.Spec PyProof.Rows L2 PySem.W
open EX
section
variable{prog:ER}{w:EU}{A:EW}{E:EL->EM->Prop}{s:EM}
def PB.mem{n:Nat}{p:EZ Nat}(B:PB n p):∀i∈p.toList,i<n:=fun i hi=>by
 have:=(BF.mp B.perm).mem_iff.mp hi
 simpa using this
end
section
variable{X:Cx}{Ee:EK (EN×Obj)}{σ:L2.St}{H:Hp}{s:EM}
def Jy{prog:ER}{w:EU}:∀{ks:EK Int} {Eg:EK EL},ei (ks.map V.int) Eg->ItemsAre (intKind prog w) ks Eg
 |[],Eg,h=>by
  cases Eg with|nil=>exact .nil|cons u us=>cases h
 |k::ks,Eg,h=>by
  rw[AU]at h;cases h with|cons r t=>obtain⟨q,rfl⟩:=(show ∃t,_=Value.int k t from r);exact .cons (Cq prog w k q) (Jy t)
def kz(I:L2.Inv X Ee σ H s){a:EN}{ks:EK Int}(h:fC X.K H a (ks.map V.int)):TK X.prog X.w s.heap ks a:=by obtain⟨Eg,L,⟨o,Y,U,n,F⟩,Z⟩:=I.tuple h;exact⟨o,Eg.toArray,n,Y,U,F,Jy L⟩
end
open EX
end ET
namespace EV
open PySem PySem.Spec PyProof.Rows L2 EX ET
def iW(ks:EK Int):PV:=.tup (ks.map PV.int)
end EV
end
section
namespace EJ
open PySem PySem.Spec PyProof.Rows L2 PySem.W EX ET
end EJ
namespace EV
open PySem PySem.Spec PyProof.Rows L2 EX ET EJ
end EV
end
section
namespace EX
open PySem PySem.Spec PyProof.Rows L2 PySem.W
end EX
namespace EX
open PySem PySem.Spec PyProof.Rows L2 PySem.W
end EX
namespace EV
open PySem PySem.Spec PyProof.Rows L2 EX
end EV
end
section
namespace EX
open PySem PySem.Spec PyProof.Rows L2 PySem.W
end EX
namespace EV
open PySem PySem.Spec PyProof.Rows L2 EX ET
end EV
end
section
namespace EX
open PySem PySem.Spec PyProof.Rows L2
end EX
namespace EV
open PySem PySem.Spec PyProof.Rows L2 EX
end EV
end
section
namespace EV
open PySem PySem.Spec PyProof.Rows L2 EX ET PySem.W
def yf:∀k Z:EK Int,ft (k.map PV.int) (Z.map PV.int)=some (fw k Z)
 |[],[]=>rfl
 |[],_::_=>rfl
 |_::_,[]=>rfl
 |a::k,b::Z=>by
  show (if (a==b)=true then ft (k.map PV.int) (Z.map PV.int) else some (decide (a<b)))=some (if a<b then true else if b<a then false else fw k Z);rw[yf k Z];by_cases h:a=b;subst h;rw[AC (Aj a),AF (Ct a),AF (Ct a)]
  ·rw[AF (fun z=>h (eq_of_beq z))];by_cases U:a<b;rw[AC U,Af U];rw[AF U,AC (by omega),Ak U]
def J9{K:EQ}{H:Hp}:∀k:EK Int,eO K H (k.map PV.int) (k.map V.int)|[]=>by unfold eO;rfl|a::k=>by show eO K H (.int a::k.map PV.int) (.int a::k.map V.int);unfold eO;exact⟨_,_,rfl,by unfold RW;rfl,J9 k⟩
def J3:∀k:EK Int,eP (k.map PV.int)=0|[]=>rfl|a::k=>by rw[AU,eP,J3 k];rfl
section
variable{X:Cx}{Ee:EK (EN×Obj)}{σ:L2.St}{H:Hp}{s:EM}
def W7{xs:EK V}{Eg:EK EL}(h:ei xs Eg):∀{i:Nat},i<Eg.length->RelV (xs.getD i .non) (Eg.getD i Value.none):=by
 induction h with
 |nil=>intro i hi;exact absurd hi (B6 _)
 |cons a _ I =>
  intro i hi;cases i with|zero=>exact a|succ i=>simpa using I (i:=i) (by simpa using hi)
def Yk{xs:EK V}{Eg:EK EL}(h:ei xs Eg):∀(l:EK Nat),(∀i∈l,i<Eg.length)->ei (l.map fun i=>xs.getD i .non) (l.map fun i=>Eg.getD i Value.none)|[],_=>.nil|i::l,hl=>.cons (W7 h (hl i AT)) (Yk h l fun j F=>hl j (AO _ F))
def Dw{Er:EK (EK Int)}{n:Nat}(hl:Er.length=n){p:EZ Nat}(B:PB n p)(S:fU (O:=iy) (fun i=>Er.getD i []) p n):p.toList.map (fun i=>Er.getD i [])=gf Er:=by
 have L:=B.size;refine mI ?_ (ny Er) ?_
 ·rw[List.pairwise_map,By];intro i j hi F I
  have:=S i j (by omega) (by rw[Ai]at F;omega)
  unfold kq at this;rw[Ap,Ap,AM (by simpa using hi),AM (by simpa using F)]at this;exact this
 ·refine ((BF.mp B.perm).map _).trans (.trans ?_ (Zd Er).symm)
  have:(List.range n).map (fun i=>Er.getD i [])=Er:=by
   rw[←hl];refine List.ext_getElem (by simp) fun i Y U=>?_;simp[AH,AE U]
  show ((List.range n).map fun i=>Er.getD i []).Perm Er;rw[this]
end
end EV
end
section
namespace EX
open PySem PySem.Spec PyProof.Rows L2 PySem.W
end EX
namespace EV
open PySem PySem.Spec PyProof.Rows L2 EX
end EV
end
section
namespace EX
open PySem PySem.Spec PyProof.Rows L2 PySem.W
end EX
namespace EV
open PySem PySem.Spec PyProof.Rows L2 EX
end EV
end
section
namespace EX
open PySem PySem.Spec PyProof.Rows L2
end EX
namespace EV
open PySem PySem.Spec PyProof.Rows L2 EX
end EV
end
section
namespace ET
open PySem PySem.Spec PyProof.Rows L2 PySem.W
open EX
end ET
namespace EV
open PySem PySem.Spec PyProof.Rows L2 EX ET
end EV
end
section
namespace EX
open PySem PySem.Spec PyProof.Rows L2
end EX
namespace EV
open PySem PySem.Spec PyProof.Rows L2 EX
end EV
end
section
namespace EX
open PySem PySem.Spec PyProof.Rows L2
end EX
namespace EV
open PySem PySem.Spec PyProof.Rows L2 EX
end EV
end
section
namespace ES
open PySem PySem.Spec PyProof.Rows
def zP:Bool->Keyed->EZ Keyed->Nat->Nat->Nat->StateT SortSt Sem (EO Nat):=sortPriv% PySem.Builtin.gallop
def yR(left:Bool)(Ek:Keyed)(q:EZ Keyed)(base i:Nat):StateT SortSt Sem (EO Bool):=do
 let x ← elem' q (base+i)
 if left then lt' x Ek else return (←lt' Ek x).map (!·)
section
variable{prog:ER}{w:EU}{A:EW}{E:EL->EM->Prop}{s:EM}
def yn{left:Bool}{Ek:Keyed}{a0:EZ Keyed}{base n Z:Nat}{st:SortSt}{Q:EO Nat->SortSt->Prop}{p:Nat->Bool}(hh:Z<n)
  (hb:∀i,i<n->∀{R:EO Bool->SortSt->Prop},R (some (p i)) st->wpS (model prog w) A E s (yR left Ek a0 base i) R st)
  (mono:∀i j,i≤j->j<n->p j=true->p i=true)
  (h:∀k,k≤n->(∀i,i<k->p i=true)->(∀i,k≤i->i<n->p i=false)->Q (some k) st) :
  wpS (model prog w) A E s (zP left Ek a0 base n Z) Q st:=by
 have F:∀i j,i≤j->j<n->p i=false->p j=false:=fun i j a2 hj hi=>by
  cases e:p j with|false=>rfl|true=>rw[mono i j a2 hj e]at hi;cases hi
 have bin:∀lo hi,lo≤hi->hi≤n->(∀i,i<lo->p i=true)->(∀i,hi≤i->i<n->p i=false)->wpS (model prog w) A E s (do
   let mut lo:=lo
   let mut hi:=hi
   for _ in [0:n] do
    if lo≥hi then break
    let m:=lo+(hi-lo)/2
    let some more ← yR left Ek a0 base m|return none
    if more then lo:=m+1 else hi:=m
   return some hi) Q st:=fun lo hi h1 h2 h3 h4=>by
  refine AL (Bk (BH (I:=fun x c L=>L=st∧∃l r,c=(none,l,r)∧l≤r∧r≤n∧r-l≤n-x∧(∀i,i<l->p i=true)∧(∀i,r≤i->i<n->p i=false))
   (Q:=fun c L=>L=st∧∃r,c=(none,r,r)∧r≤n∧(∀i,i<r->p i=true)∧(∀i,r≤i->i<n->p i=false)) ?step ?fin ⟨rfl,lo,hi,rfl,h1,h2,by omega,h3,h4⟩) ?post)
  case fin =>
   rintro c L ⟨rfl,l,r,rfl,U,M,q,Y,k5⟩
   have:l=r:=by omega
   subst this;exact⟨rfl,l,rfl,M,Y,k5⟩
  case step =>
   rintro x c L _ hx ⟨rfl,l,r,rfl,U,M,q,Y,k5⟩;dsimp only;by_cases a1:l≥r
   ·rw[AC a1]
    have:l=r:=by omega
    subst this;exact AS ⟨rfl,l,rfl,M,Y,k5⟩
   ·rw[AF a1];refine AL (hb (l+(r-l)/2) (by omega) ?_);dsimp only;cases e:p (l+(r-l)/2) with
    |true=>rw[AC rfl];exact AS ⟨rfl,l+(r-l)/2+1,r,rfl,by omega,M,by omega,fun i hi=>mono i _ (by omega) (by omega) e,k5⟩
    |false =>
     rw[AF (by decide)];exact AS ⟨rfl,l,l+(r-l)/2,rfl,by omega,by omega,by omega,Y,fun i hi hn=>F _ i hi hn e⟩
  case post =>
   rintro c L ⟨rfl,r,rfl,U,M,q⟩;exact AS (h r U M q)
 show wpS _ _ _ _ (_ >>= _) _ _;refine AL (hb Z hh ?_);dsimp only;cases e:p Z with
 |true =>
  rw[AC rfl];refine AL (Bk (BH (I:=fun x c L=>L=st∧∃l o,c=(none,l,o)∧l<o∧x+1≤o∧Z+l<n∧p (Z+l)=true)
   (Q:=fun c L=>L=st∧∃l o,c=(none,l,o)∧l<o∧Z+l<n∧p (Z+l)=true∧(n-Z≤o∨(Z+o<n∧p (Z+o)=false))) ?step ?fin ⟨rfl,0,1,rfl,by omega,by omega,by omega,e⟩) ?post)
  case fin =>
   rintro c L ⟨rfl,l,o,rfl,U,M,q,Y⟩;exact⟨rfl,l,o,rfl,U,q,Y,.inl (by omega)⟩
  case step =>
   rintro x c L _ hx ⟨rfl,l,o,rfl,U,M,q,Y⟩;dsimp only;by_cases ho:o≥n-Z;rw[AC ho];exact AS ⟨rfl,l,o,rfl,U,q,Y,.inl ho⟩
   ·rw[AF ho];refine AL (hb (Z+o) (by omega) ?_);dsimp only;cases e2:p (Z+o) with
    |true =>
     rw[AF (by decide)];exact AS ⟨rfl,o,2*o+1,rfl,by omega,by omega,by omega,e2⟩
    |false =>
     rw[AC (by decide)];exact AS ⟨rfl,l,o,rfl,U,q,Y,.inr ⟨by omega,e2⟩⟩
  case post =>
   rintro c L ⟨rfl,l,o,rfl,U,M,q,Y⟩;refine bin (Z+l+1) (Z+min o (n-Z)) (by omega) (by omega) (fun i hi=>mono i _ (by omega) M q) fun i hi hn=>?_;rcases Y with Y|⟨Y,k5⟩
   ·omega
   ·exact F _ i (by omega) hn k5
 |false =>
  rw[AF (by decide)];refine AL (Bk (BH (I:=fun x c L=>L=st∧∃l o,c=(none,l,o)∧l<o∧x+1≤o∧l≤Z∧p (Z-l)=false)
   (Q:=fun c L=>L=st∧∃l o,c=(none,l,o)∧l<o∧l≤Z∧p (Z-l)=false∧(Z+1≤o∨(o≤Z∧p (Z-o)=true))) ?step2 ?fin2 ⟨rfl,0,1,rfl,by omega,by omega,by omega,e⟩) ?post2)
  case fin2 =>
   rintro c L ⟨rfl,l,o,rfl,U,M,q,Y⟩;exact⟨rfl,l,o,rfl,U,q,Y,.inl (by omega)⟩
  case step2 =>
   rintro x c L _ hx ⟨rfl,l,o,rfl,U,M,q,Y⟩;dsimp only;by_cases ho:o≥Z+1;rw[AC ho];exact AS ⟨rfl,l,o,rfl,U,q,Y,.inl ho⟩
   ·rw[AF ho];refine AL (hb (Z-o) (by omega) ?_);dsimp only;cases e2:p (Z-o) with
    |false =>
     rw[AF (by decide)];exact AS ⟨rfl,o,2*o+1,rfl,by omega,by omega,by omega,e2⟩
    |true=>rw[AC rfl];exact AS ⟨rfl,l,o,rfl,U,q,Y,.inr ⟨by omega,e2⟩⟩
  case post2 =>
   rintro c L ⟨rfl,l,o,rfl,U,M,q,Y⟩;refine bin (Z+1-min o (Z+1)) (Z-l) (by omega) (by omega) (fun i hi=>?_) fun i hi hn=>F _ i hi hn q;rcases Y with Y|⟨Y,k5⟩
   ·omega
   ·exact mono i _ (by omega) (by omega) k5
end
def wT:Nat->StateT SortSt Sem Unit:=sortPriv% PySem.Builtin.setMinGallop
def YE:EZ Keyed->EZ Keyed->StateT SortSt Sem (EZ Keyed):=sortPriv% PySem.Builtin.mergeLo
def YJ:EZ Keyed->EZ Keyed->StateT SortSt Sem (EZ Keyed):=sortPriv% PySem.Builtin.mergeHi
def kT(lo n q:Nat):StateT SortSt Sem (EO Nat):=do
 let mut n:=n
 reverseSlice' lo (lo+n)
 for _ in [n:q] do
  let some M ← ltAt' (lo+n) (lo+n-1)|return none
  if M then break
  n:=n+1
 return some n
def kn(lo n q:Nat):StateT SortSt Sem (EO Nat):=do
 rule "list.sort.descending-run"
 let mut n:=n+1
 let mut F:=0
 for _ in [n:q] do
  let some M ← ltAt' (lo+n) (lo+n-1)|return none
  if M then
   if F>0 then reverseSlice' (lo+n-(F+1)) (lo+n)
   F:=0
  else
   let some I ← ltAt' (lo+n-1) (lo+n)|return none
   if I then break
   F:=F+1
  n:=n+1
 if F>0 then reverseSlice' (lo+n-(F+1)) (lo+n)
 kT lo n q
def Dq(lo q:Nat):countRun' lo q=(do
 let mut n:=1
 for _ in [1:q] do
  let some M ← ltAt' (lo+n) (lo+n-1)|return none
  if M then break
  n:=n+1
 if n==q then return some n
 if n>1 then
  let some F ← ltAt' lo (lo+n-1)|return none
  if F then return some n
  reverseSlice' lo (lo+n)
 kn lo n q):=rfl
def kk{O:KeyOrd}(ky:Keyed->O.α)(xs:EZ Keyed)(i:Nat):O.α:=ky (xs.getD i (Value.none,Value.none))
structure SX (κ:SortKind) (a₀ bs:Array Keyed) (lo:Nat) (pd:Array (Nat×Nat×Nat)) (st:SortSt):Prop where
 perm:(arrOf st).Perm a₀
 kind:kindOf st=κ
 failed:failedOf st=none
 pend:pendingOf st=pd
 keep:∀k,k<lo->(arrOf st)[k]? = bs[k]?
def WQ(prog:ER)(w:EU)(A:EW)(E:EL->EM->Prop)(s:EM){O:KeyOrd}(ky:Keyed->O.α)(κ:SortKind)(a₀:EZ Keyed):Prop :=
 ∀(x y:Keyed) (st:SortSt) (R:EO Bool->SortSt->Prop),x∈a₀.toList->y∈a₀.toList->kindOf st=κ->R (some (O.blt (ky x) (ky y))) st->wpS (model prog w) A E s (lt' x y) R st
section
variable{prog:ER}{w:EU}{A:EW}{E:EL->EM->Prop}{s:EM}{O:KeyOrd}{ky:Keyed->O.α}{κ:SortKind}{a₀ bs:EZ Keyed}{lo:Nat}{pd:EZ (Nat×Nat×Nat)}{st:SortSt}
def QP{q:EZ Keyed}{i:Nat}{x:Keyed}{Q:Keyed->SortSt->Prop}(e:q[i]? = some x)(h:Q x st):wpS (model prog w) A E s (elem' q i) Q st:=by rw[elem'_eq,e];exact AS h
def SX.size(B:SX κ a₀ bs lo pd st):(arrOf st).size=a₀.size:=B.perm.size_eq
def SX.mem(B:SX κ a₀ bs lo pd st){i:Nat}(hi:i<a₀.size):∃x,(arrOf st)[i]? = some x∧x∈a₀.toList∧kk ky (arrOf st) i=ky x:=by
 have U:i<(arrOf st).size:=by rw[B.size];exact hi
 refine⟨(arrOf st)[i],AM U,(BF.mp B.perm).mem_iff.mp (by simp),?_⟩;unfold kk;rw[Ap,AM U];rfl
def js(L:WQ prog w A E s ky κ a₀)(B:SX κ a₀ bs lo pd st){i j:Nat}{Q:EO Bool->SortSt->Prop}(hi:i<a₀.size)(F:j<a₀.size)(h:Q (some (O.blt (kk ky (arrOf st) i) (kk ky (arrOf st) j))) st):wpS (model prog w) A E s (ltAt' i j) Q st:=by obtain⟨x,Z,U,M⟩:=B.mem (ky:=ky) hi;obtain⟨y,R,Y,I⟩:=B.mem (ky:=ky) F;rw[ltAt'_eq];refine AL (CS ?_);refine AL (QP Z (AL (QP R (L x y st _ U Y B.kind ?_))));rw[M,I]at h;exact h
def Up(ky:Keyed->O.α)(xs:EZ Keyed)(lo m:Nat):Prop:=∀i j,i≤j->j<m->O.kle (kk ky xs (lo+i)) (kk ky xs (lo+j))
def Dn(ky:Keyed->O.α)(xs:EZ Keyed)(lo m:Nat):Prop:=∀i j,i≤j->j<m->O.kle (kk ky xs (lo+j)) (kk ky xs (lo+i))
def Z1{xs:EZ Keyed}{i j:Nat}(F:j≤xs.size)(k:Nat):kk ky (mirror xs i j ((j-i)/2)) k=if i≤k∧k<j then kk ky xs (i+j-1-k) else kk ky xs k:=by have e:=getElem?_mirror_all (i:=i) F k;unfold kk;rw[Ap,e];split <;> rw[Ap]
def zD{xs:EZ Keyed}{i j:Nat}(F:j≤xs.size)(q:∀k,i≤k->k<j->kk ky xs k=kk ky xs (j-1))(k:Nat):kk ky (mirror xs i j ((j-i)/2)) k=kk ky xs k:=by
 rw[Z1 F];split;rw[q _ (by omega) (by omega),q k (by omega) (by omega)];rfl
def SX.rev(B:SX κ a₀ bs lo pd st){i j:Nat}(hi:lo≤i)(F:j≤a₀.size):SX κ a₀ bs lo pd (setArr st (mirror (arrOf st) i j ((j-i)/2))) :=
 ⟨(mirror_perm _ _ _ _).trans B.perm,B.kind,B.failed,B.pend,fun k R=>by
  have e:=getElem?_mirror_all (xs:=arrOf st) (i:=i) (j:=j) (by rw[B.size];exact F) k;exact e.trans (by rw[AF (by omega)];exact B.keep k R)⟩
def l9{El:Nat->StateT SortSt Sem (EO Nat)}{a q:Nat}{Q:EO Nat->SortSt->Prop}(L:WQ prog w A E s ky κ a₀)(B:SX κ a₀ bs lo pd st)(hn:lo+q≤a₀.size)(h1:1≤a)(U:a≤q)(hs:Up ky (arrOf st) lo a)
  (h:∀m,a≤m->m≤q->Up ky (arrOf st) lo m->(m=q∨O.klt (kk ky (arrOf st) (lo+m)) (kk ky (arrOf st) (lo+m-1)))->wpS (model prog w) A E s (El m) Q st):wpS (model prog w) A E s (do
   let mut n:=a
   for _ in [a:q] do
    let some M ← ltAt' (lo+n) (lo+n-1)|return none
    if M then break
    n:=n+1
   El n) Q st:=by
 refine AL (Bk (BH (I:=fun x c Z=>Z=st∧c=(none,x)∧Up ky (arrOf st) lo x)
  (Q:=fun c Z=>Z=st∧∃m,c=(none,m)∧a≤m∧m≤q∧Up ky (arrOf st) lo m∧(m=q∨O.klt (kk ky (arrOf st) (lo+m)) (kk ky (arrOf st) (lo+m-1)))) ?step ?fin ⟨rfl,rfl,hs⟩) ?post)
 case fin =>
  rintro c Z ⟨rfl,rfl,k⟩;rw[show max a q=q by omega]at k ⊢;exact⟨rfl,q,rfl,U,AN _,k,.inl rfl⟩
 case step =>
  rintro x c Z R F ⟨rfl,rfl,k⟩;dsimp only;refine AL (js L B (by omega) (by omega) ?_);dsimp only;cases e:O.blt (kk ky (arrOf Z) (lo+x)) (kk ky (arrOf Z) (lo+x-1)) with
  |true=>rw[AC rfl];exact AS ⟨rfl,x,rfl,R,by omega,k,.inr e⟩
  |false =>
   rw[AF (by decide)];refine AS ⟨rfl,rfl,fun i j Y hj=>?_⟩;by_cases hx:j<x;exact k i j Y hx
   ·have z:j=x:=by omega
    subst z;by_cases hi:i=j;rw[hi];exact BK _
    ·have:=k i (j-1) (by omega) (by omega)
     rw[show lo+(j-1)=lo+j-1 by omega]at this;exact A7 this e
 case post =>
  rintro c Z ⟨rfl,m,rfl,R,F,g3,g4⟩;exact h m R F g3 g4
def lQ{n q:Nat}{Q:EO Nat->SortSt->Prop}(L:WQ prog w A E s ky κ a₀)(B:SX κ a₀ bs lo pd st)(Y:lo+q≤a₀.size)(F:1≤n)(U:n≤q)(hs:Dn ky (arrOf st) lo n)
  (h:∀m Ef,SX κ a₀ bs lo pd Ef->1≤m->m≤q->Up ky (arrOf Ef) lo m->Q (some m) Ef):wpS (model prog w) A E s (kT lo n q) Q st:=by
 unfold kT;refine AL (wpS_reverse ?_);have M:=B.rev (i:=lo) (j:=lo+n) (AN _) (by omega);refine l9 (El:=fun n=>pure (some n)) L M Y F U (fun i j I hj=>?_) fun m g1 R g3 _=>AS (h m _ M (by omega) R g3);have Z:lo+n≤(arrOf st).size:=by rw[B.size];omega
 show O.kle (kk ky (mirror (arrOf st) lo (lo+n) ((lo+n-lo)/2)) (lo+i)) (kk ky (mirror (arrOf st) lo (lo+n) ((lo+n-lo)/2)) (lo+j));rw[Z1 Z,Z1 Z,AC (by omega),AC (by omega),show lo+(lo+n)-1-(lo+i)=lo+(n-1-i) by omega,show lo+(lo+n)-1-(lo+j)=lo+(n-1-j) by omega];exact hs _ _ (by omega) (by omega)
def nv{n M:Nat}{Q:EO Nat->SortSt->Prop}(L:WQ prog w A E s ky κ a₀)(B:SX κ a₀ bs lo pd st)(hn:lo+M≤a₀.size)(h2:n+1≤M)(hs:Dn ky (arrOf st) lo (n+1))
  (h:∀m Ef,SX κ a₀ bs lo pd Ef->1≤m->m≤M->Up ky (arrOf Ef) lo m->Q (some m) Ef):wpS (model prog w) A E s (kn lo n M) Q st:=by
 unfold kn;refine AL (C8 (BM ⟨rfl,?_⟩));refine AL (Bk (BH (I:=fun x c Ef=>∃q,c=(none,x,q)∧SX κ a₀ bs lo pd Ef∧Dn ky (arrOf Ef) lo x∧q+1≤x∧∀i,x-(q+1)≤i->i<x->kk ky (arrOf Ef) (lo+i)=kk ky (arrOf Ef) (lo+x-1))
  (Q:=fun c Ef=>∃m q,c=(none,m,q)∧n+1≤m∧m≤M∧SX κ a₀ bs lo pd Ef∧Dn ky (arrOf Ef) lo m∧q+1≤m∧∀i,m-(q+1)≤i->i<m->kk ky (arrOf Ef) (lo+i)=kk ky (arrOf Ef) (lo+m-1)) ?step ?fin ⟨0,rfl,B,hs,by omega,fun i g1 g2=>by congr 1;omega⟩) ?post)
 case fin =>
  rintro c Ef ⟨q,rfl,U,Z,F,Y⟩;rw[show max (n+1) M=M by omega]at Z F Y ⊢;exact⟨M,q,rfl,h2,AN _,U,Z,F,Y⟩
 case step =>
  rintro x c Ef g1 g2 ⟨q,rfl,U,Z,F,Y⟩;dsimp only;refine AL (js L U (by omega) (by omega) ?_);dsimp only;have hz:lo+x≤(arrOf Ef).size:=by rw[U.size];omega
  cases e:O.blt (kk ky (arrOf Ef) (lo+x)) (kk ky (arrOf Ef) (lo+x-1)) with
  |true =>
   rw[AC rfl];have dn:∀ys:EZ Keyed,(∀k,kk ky ys k=kk ky (arrOf Ef) k)->Dn ky ys lo (x+1):=fun ys hy i j R hj=>by
    rw[hy,hy];by_cases hx:j<x;exact Z i j R hx
    ·have z:j=x:=by omega
     subst z;by_cases hi:i=j;rw[hi];exact BK _
     ·have:=Z i (j-1) (by omega) (by omega)
      rw[show lo+(j-1)=lo+j-1 by omega]at this;exact A7 (A8 e) this
   by_cases hq:q>0
   ·rw[AC hq];refine AL (wpS_reverse (AS ⟨0,rfl,U.rev (by omega) (by omega),dn _ (zD hz fun k a b=>?_),by omega,fun i a b=>by congr 1;omega⟩))
    have:=Y (k-lo) (by omega) (by omega)
    rwa[show lo+(k-lo)=k by omega]at this
   ·rw[AF hq];exact AS ⟨0,rfl,U,dn _ fun _=>rfl,by omega,fun i a b=>by congr 1;omega⟩
  |false =>
   rw[AF (by decide)];refine AL (js L U (by omega) (by omega) ?_);dsimp only;cases e2:O.blt (kk ky (arrOf Ef) (lo+x-1)) (kk ky (arrOf Ef) (lo+x)) with
   |true=>rw[AC rfl];exact AS ⟨x,q,rfl,g1,by omega,U,Z,F,Y⟩
   |false =>
    rw[AF (by decide)];have eq:kk ky (arrOf Ef) (lo+x)=kk ky (arrOf Ef) (lo+x-1):=KeyOrd.kle_antisymm e2 e;refine AS ⟨q+1,rfl,U,fun i j R hj=>?_,by omega,fun i a b=>?_⟩
    ·by_cases hx:j<x;exact Z i j R hx
     ·have z:j=x:=by omega
      subst z;by_cases hi:i=j;rw[hi];exact BK _
      ·have:=Z i (j-1) (by omega) (by omega)
       rw[show lo+(j-1)=lo+j-1 by omega]at this;rw[eq];exact this
    ·rw[show lo+(x+1)-1=lo+x by omega];by_cases hx:i=x;rw[hx];rw[eq];exact Y i (by omega) (by omega)
 case post =>
  rintro c Ef ⟨m,q,rfl,g1,g2,U,Z,F,Y⟩;dsimp only;have hz:lo+m≤(arrOf Ef).size:=by rw[U.size];omega
  by_cases hq:q>0
  ·rw[AC hq];refine AL (wpS_reverse ?_);refine lQ L (U.rev (by omega) (by omega)) hn (by omega) g2 (fun i j R hj=>?_) h;have me:∀k,kk ky (mirror (arrOf Ef) (lo+m-(q+1)) (lo+m) ((lo+m-(lo+m-(q+1)))/2)) k=kk ky (arrOf Ef) k:=zD hz fun k a b=>by
    have:=Y (k-lo) (by omega) (by omega)
    rwa[show lo+(k-lo)=k by omega]at this
   show O.kle (kk ky (mirror _ _ _ _) _) (kk ky (mirror _ _ _ _) _);rw[me,me];exact Z i j R hj
  ·rw[AF hq];exact lQ L U hn (by omega) g2 Z h
def oR{q:Nat}{Q:EO Nat->SortSt->Prop}(L:WQ prog w A E s ky κ a₀)(B:SX κ a₀ bs lo pd st)(M:lo+q≤a₀.size)(h1:1≤q)
  (h:∀m Ef,SX κ a₀ bs lo pd Ef->1≤m->m≤q->Up ky (arrOf Ef) lo m->Q (some m) Ef):wpS (model prog w) A E s (countRun' lo q) Q st:=by
 rw[Dq];refine l9 (El:=fun n=>do
  if n==q then return some n
  if n>1 then
   let some rose ← ltAt' lo (lo+n-1)|return none
   if rose then return some n
   reverseSlice' lo (lo+n)
  kn lo n q) L B M (AN 1) h1 (fun i j I hj=>by rw[show i=j by omega];exact BK _) fun m g1 g2 Z g4=>?_
 by_cases R:m=q;rw[AC (by simpa using R)];exact AS (h m st B g1 g2 Z)
 ·rw[AF (by simpa using R)];have Y:=g4.resolve_left R;have hz:lo+m≤(arrOf st).size:=by rw[B.size];omega
  by_cases U:m>1
  ·rw[AC U];refine AL (js L B (by omega) (by omega) ?_);dsimp only;cases e:O.blt (kk ky (arrOf st) lo) (kk ky (arrOf st) (lo+m-1)) with
   |true=>rw[AC rfl];exact AS (h m st B g1 g2 Z)
   |false =>
    rw[AF (by decide)];refine AL (wpS_reverse ?_);have all:∀k,lo≤k->k<lo+m->kk ky (arrOf st) k=kk ky (arrOf st) (lo+m-1):=fun k a b=>by
     have a1:=Z 0 (k-lo) (by omega) (by omega);have F:=Z (k-lo) (m-1) (by omega) (by omega);rw[show lo+(k-lo)=k by omega]at a1 F;rw[show lo+(m-1)=lo+m-1 by omega]at F;exact KeyOrd.kle_antisymm F (A7 e a1)
    have me:∀k,kk ky (mirror (arrOf st) lo (lo+m) ((lo+m-lo)/2)) k=kk ky (arrOf st) k:=zD hz all;refine nv L (B.rev (AN _) (by omega)) M (by omega) (fun i j I hj=>?_) h;show O.kle (kk ky (mirror _ _ _ _) _) (kk ky (mirror _ _ _ _) _);rw[me,me];by_cases a0:j<m;rw[all _ (by omega) (by omega),all (lo+i) (by omega) (by omega)];exact BK _
    ·have z:j=m:=by omega
     subst z;by_cases hi:i=j;rw[hi];exact BK _;rw[all (lo+i) (by omega) (by omega)];exact A8 Y
  ·rw[AF U];have z:m=1:=by omega
   subst z;refine nv L B M (by omega) (fun i j I hj=>?_) h;by_cases hi:i=j;rw[hi];exact BK _;rw[show i=0 by omega,show j=1 by omega];exact A8 Y
def Y1{xs:EZ Keyed}{src d:Nat}(hs:src<xs.size)(hd:d≤src)(k:Nat):kk ky (bubble xs src d) k=if k=src-d then kk ky xs src else if src-d<k∧k≤src then kk ky xs (k-1) else kk ky xs k:=by
 have e:=getElem?_bubble hs d hd k;unfold kk;simp only[Ap,e];split;rfl;split <;> rfl
def oE{n ok:Nat}{Q:Bool->SortSt->Prop}(L:WQ prog w A E s ky κ a₀)(B:SX κ a₀ bs lo pd st)(hn:lo+n≤a₀.size)(h1:1≤ok)(h2:ok≤n)(hs:Up ky (arrOf st) lo ok)
  (h:∀Ef,SX κ a₀ bs lo pd Ef->Up ky (arrOf Ef) lo n->Q true Ef):wpS (model prog w) A E s (binarySort' lo n ok) Q st:=by
 rw[binarySort'_eq];refine AL (Bk (BH (I:=fun k c Ef=>c=(none,())∧SX κ a₀ bs lo pd Ef∧Up ky (arrOf Ef) lo k)
  (Q:=fun c Ef=>c=(none,())∧SX κ a₀ bs lo pd Ef∧Up ky (arrOf Ef) lo n) ?step ?fin ⟨rfl,B,by rw[show max ok 1=ok by omega];exact hs⟩) ?post)
 case post =>
  rintro c Ef ⟨rfl,U,M⟩;exact AS (h Ef U M)
 case fin =>
  rintro c Ef ⟨rfl,U,M⟩;rw[show max (max ok 1) n=n by omega]at M;exact⟨rfl,U,M⟩
 case step =>
  rintro k c Ef g1 g2 ⟨rfl,U,M⟩;dsimp only;refine AL (Bk (BH (I:=fun x c Z=>Z=Ef∧∃l r,c=(none,l,r)∧l≤r∧r≤k∧r-l≤k-x∧(∀i,i<l->O.kle (kk ky (arrOf Ef) (lo+i)) (kk ky (arrOf Ef) (lo+k)))∧(∀i,r≤i->i<k->O.klt (kk ky (arrOf Ef) (lo+k)) (kk ky (arrOf Ef) (lo+i))))
   (Q:=fun c Z=>Z=Ef∧∃l,(∃r,c=(none,l,r))∧l≤k∧(∀i,i<l->O.kle (kk ky (arrOf Ef) (lo+i)) (kk ky (arrOf Ef) (lo+k)))∧(∀i,l≤i->i<k->O.klt (kk ky (arrOf Ef) (lo+k)) (kk ky (arrOf Ef) (lo+i)))) ?step2 ?fin2 ⟨rfl,0,k,rfl,by omega,by omega,by omega,fun i hi=>absurd hi (by omega),fun i a b=>absurd b (by omega)⟩) ?post2)
  case fin2 =>
   rintro c Z ⟨rfl,l,r,rfl,a1,R,a3,Y,a5⟩;have z:l=r:=by omega
   subst z;exact⟨rfl,l,⟨l,rfl⟩,R,Y,a5⟩
  case step2 =>
   rintro x c Z _ gx ⟨rfl,l,r,rfl,a1,R,a3,Y,a5⟩;dsimp only;by_cases F:l≥r
   ·rw[AC F];have z:l=r:=by omega
    subst z;exact AS ⟨rfl,l,⟨l,rfl⟩,R,Y,a5⟩
   ·rw[AF F];refine AL (js L U (by omega) (by omega) ?_);dsimp only;cases e:O.blt (kk ky (arrOf Z) (lo+k)) (kk ky (arrOf Z) (lo+(l+r)/2)) with
    |true=>rw[AC rfl];exact AS ⟨rfl,l,(l+r)/2,rfl,by omega,by omega,by omega,Y,fun i p q=>KeyOrd.klt_of_klt_of_kle e (M _ _ p q)⟩
    |false =>
     rw[AF (by decide)];exact AS ⟨rfl,(l+r)/2+1,r,rfl,by omega,by omega,by omega,fun i p=>A7 (M i ((l+r)/2) (by omega) (by omega)) (show O.kle _ _ from e),a5⟩
  case post2 =>
   rintro c Z ⟨rfl,l,⟨r,rfl⟩,a1,R,a3⟩;dsimp only;rw[moveDown'_eq];have hz:lo+k<(arrOf Z).size:=by rw[U.size];omega
   refine AL (B7 (AS ⟨rfl,⟨(bubble_perm _ _ _).trans U.perm,U.kind,U.failed,U.pend,fun i hi=>?_⟩,fun i j a0 hj=>?_⟩))
   ·have e:=getElem?_bubble hz (lo+k-(lo+l)) (by omega) i;exact e.trans (by rw[AF (by omega),AF (by omega)];exact U.keep i hi)
   ·show O.kle (kk ky (bubble _ _ _) _) (kk ky (bubble _ _ _) _);rw[Y1 hz (by omega),Y1 hz (by omega),show lo+k-(lo+k-(lo+l))=lo+l by omega]
    repeat' split
    all_goals first
     |(exfalso;omega)
     |exact BK _
     |(exact R _ (by omega))
     |(rw[show lo+j-1=lo+(j-1) by omega];exact A8 (a3 _ (by omega) (by omega)))
     |(rw[show lo+j-1=lo+(j-1) by omega,show lo+i-1=lo+(i-1) by omega];exact M _ _ (by omega) (by omega))
     |(rw[show lo+j-1=lo+(j-1) by omega];exact M _ _ (by omega) (by omega))
     |exact M _ _ (by omega) (by omega)
end
section
variable{O:KeyOrd}{ky:Keyed->O.α}{a b out:EZ Keyed}{ia ib:Nat}
abbrev Pw(ky:Keyed->O.α)(l:EK Keyed):Prop:=l.Pairwise fun x y=>O.kle (ky x) (ky y)
def Rm(ky:Keyed->O.α)(a b r:EZ Keyed):Prop:=r.toList.Perm (a.toList++b.toList)∧Pw ky r.toList
structure MG (ky:Keyed->O.α) (a b out:Array Keyed) (ia ib:Nat):Prop where
 la:ia≤a.size
 lb:ib≤b.size
 sz:out.size=ia+ib
 perm:(out.toList++(a.toList.drop ia++b.toList.drop ib)).Perm (a.toList++b.toList)
 pw:Pw ky out.toList
 low:∀x∈out.toList,∀y∈a.toList.drop ia++b.toList.drop ib,O.kle (ky x) (ky y)
def zE{a:EZ Keyed}{i:Nat}(h:i<a.size):a.toList.drop i=a[i]::a.toList.drop (i+1):=by rw[List.drop_eq_getElem_cons (by simpa using h)];simp
def Wa{l:EK Keyed}(h:Pw ky l)(i:Nat):Pw ky (l.drop i):=h.sublist (List.drop_sublist _ _)
def QZ{a:EZ Keyed}{i:Nat}(h:i<a.size):kk ky a i=ky a[i]:=by unfold kk;rw[Ap,AM h];rfl
def MG.pa(m:MG ky a b out ia ib)(ua:Pw ky a.toList)(ub:Pw ky b.toList)(h:ia<a.size)(hb:∀(hb:ib<b.size),O.kle (ky a[ia]) (ky b[ib])):MG ky a b (out.push a[ia]) (ia+1) ib:=by
 have F:=zE h;have pa:=Wa ua ia;rw[F]at pa;have pa:=A3.mp pa;refine⟨h,m.lb,by rw[Cd,m.sz];omega,?_,?_,?_⟩
 ·rw[Ax,Ah]
  have:=m.perm
  rw[F]at this;exact this
 ·rw[Ax];refine As.mpr ⟨m.pw,CC _ _,fun x M y I=>?_⟩;rw[AX.mp I];exact m.low x M _ (by rw[F];simp)
 ·intro x M y I;rw[Ax]at M;rcases Ab.mp M with q|q
  ·exact m.low x q y (by rw[F];rcases Ab.mp I with z|z <;> simp[z])
  ·rw[AX.mp q];rcases Ab.mp I with z|z
   ·exact pa.1 y z
   ·by_cases hl:ib<b.size
    ·have pb:=Wa ub ib;rw[zE hl]at z pb;rcases AJ.mp z with z|z
     ·rw[z];exact hb hl
     ·exact A7 (hb hl) ((A3.mp pb).1 y z)
    ·rw[Bs (by simp;omega)]at z;cases z
def MG.pb(m:MG ky a b out ia ib)(ua:Pw ky a.toList)(ub:Pw ky b.toList)(h:ib<b.size)(F:∀(F:ia<a.size),O.kle (ky b[ib]) (ky a[ia])):MG ky a b (out.push b[ib]) ia (ib+1):=by
 have L:=zE h;have pb:=Wa ub ib;rw[L]at pb;have pb:=A3.mp pb;refine⟨m.la,h,by rw[Cd,m.sz];omega,?_,?_,?_⟩
 ·rw[Ax,Ah]
  have:=m.perm
  rw[L]at this;refine List.Perm.trans (CK _ ?_) this;exact (List.perm_middle (a:=b[ib]) (l₁:=a.toList.drop ia) (l₂:=b.toList.drop (ib+1))).symm
 ·rw[Ax];refine As.mpr ⟨m.pw,CC _ _,fun x M y I=>?_⟩;rw[AX.mp I];exact m.low x M _ (by rw[L];simp)
 ·intro x M y I;rw[Ax]at M;rcases Ab.mp M with q|q
  ·exact m.low x q y (by rw[L];rcases Ab.mp I with z|z <;> simp[z])
  ·rw[AX.mp q];rcases Ab.mp I with z|z
   ·by_cases hl:ia<a.size
    ·have pa:=Wa ua ia;rw[zE hl]at z pa;rcases AJ.mp z with z|z
     ·rw[z];exact F hl
     ·exact A7 (F hl) ((A3.mp pa).1 y z)
    ·rw[Bs (by simp;omega)]at z;cases z
   ·exact pb.1 y z
def J8{a:EZ Keyed}{i k:Nat}(h:i+k<a.size):out++a.extract i (i+(k+1))=(out++a.extract i (i+k)).push a[i+k]:=by
 rw[Array.push_eq_append,Array.append_assoc];congr 1;rw[←Array.push_eq_append];apply Array.toList_inj.mp;rw[Ax,Bi,Bi];show (a.toList.extract i (i+(k+1)))=a.toList.extract i (i+k)++[a[i+k]];simp only[CP];rw[show i+(k+1)-i=k+1 by omega,show i+k-i=k by omega,List.take_add_one,List.getElem?_drop,Cm,AM h];rfl
def MG.pas(m:MG ky a b out ia ib)(ua:Pw ky a.toList)(ub:Pw ky b.toList):∀(k:Nat),ia+k≤a.size->(∀i (h:ia+i<a.size),i<k->∀(hb:ib<b.size),O.kle (ky a[ia+i]) (ky b[ib]))->MG ky a b (out++a.extract ia (ia+k)) (ia+k) ib
 |0,_,_=>by
  have:out++a.extract ia (ia+0)=out:=by simp;omega
  rw[this];exact m
 |k+1,R,hb=>by
  rw[J8 (by omega)];exact (m.pas ua ub k (by omega) fun i h hi=>hb i h (by omega)).pa ua ub (by omega) (hb k (by omega) (by omega))
def MG.pbs(m:MG ky a b out ia ib)(ua:Pw ky a.toList)(ub:Pw ky b.toList):∀(k:Nat),ib+k≤b.size->(∀i (h:ib+i<b.size),i<k->∀(F:ia<a.size),O.kle (ky b[ib+i]) (ky a[ia]))->MG ky a b (out++b.extract ib (ib+k)) ia (ib+k)
 |0,_,_=>by
  have:out++b.extract ib (ib+0)=out:=by simp;omega
  rw[this];exact m
 |k+1,R,hb=>by
  rw[J8 (by omega)];exact (m.pbs ua ub k (by omega) fun i h hi=>hb i h (by omega)).pb ua ub (by omega) (hb k (by omega) (by omega))
def ZU(a:EZ Keyed)(i:Nat):(a.extract i a.size).toList=a.toList.drop i:=by rw[Bi];simp only[CP];rw[Br (by simp)]
def MG.done(m:MG ky a b out ia ib)(ua:Pw ky a.toList)(ub:Pw ky b.toList)(h:ia=a.size∨ib=b.size):Rm ky a b (out++a.extract ia a.size++b.extract ib b.size):=by
 have e:(out++a.extract ia a.size++b.extract ib b.size).toList=out.toList++(a.toList.drop ia++b.toList.drop ib):=by rw[BN,BN,ZU,ZU,Ah]
 refine⟨by rw[e];exact m.perm,?_⟩;rw[e];refine As.mpr ⟨m.pw,?_,m.low⟩;rcases h with h|h
 ·rw[Bs (l:=a.toList) (by simp;omega)];exact Wa ub ib
 ·rw[Bs (l:=b.toList) (by simp;omega),BW];exact Wa ua ia
def MG.last(m:MG ky a b out ia ib)(ub:Pw ky b.toList)(h:ia+1=a.size)(hl:∀y∈b.toList,∀(h:a.size-1<a.size),O.kle (ky y) (ky a[a.size-1])):Rm ky a b (out++b.extract ib b.size++a.extract ia a.size):=by
 have e:(out++b.extract ib b.size++a.extract ia a.size).toList=out.toList++(b.toList.drop ib++a.toList.drop ia):=by rw[BN,BN,ZU,ZU,Ah]
 refine⟨by rw[e];exact (CK _ List.perm_append_comm).trans m.perm,?_⟩;rw[e];refine As.mpr ⟨m.pw,As.mpr ⟨Wa ub ib,?_,fun x M y I=>?_⟩,fun x M y I=>m.low x M y (by rcases Ab.mp I with z|z <;> simp[z])⟩;rw[zE (by omega),Bs (by simp;omega)];exact CC _ _
 ·rw[zE (by omega),Bs (by simp;omega)]at I;rw[AX.mp I]
  have:=hl x (B8 M) (by omega)
  rw[show a[ia]=a[a.size-1] by congr 1;omega];exact this
def MG.start(h:0<b.size)(ua:Pw ky a.toList)(ub:Pw ky b.toList)(h0:∀(F:0<a.size),O.kle (ky b[0]) (ky a[0])):MG ky a b #[b[0]] 0 1:=by
 have m:MG ky a b #[] 0 0:=⟨by omega,by omega,rfl,by simp,List.Pairwise.nil,fun x M=>by cases M⟩;exact m.pb ua ub h h0
end
def wH(g:Nat):wT g=modify fun s=>SortSt.mk' (kindOf s) (arrOf s) (pendingOf s) g (failedOf s):=rfl
abbrev ArK:=EZ Keyed
abbrev T0:=EO ArK×ArK×Nat×Nat×Nat
abbrev T1:=EO ArK×ArK×Nat×Nat×Nat×Nat
abbrev T3:=EO ArK×ArK×Nat×Nat×Nat×Nat×Nat
abbrev SM:=StateT SortSt Sem
abbrev hV(a b out:ArK)(ia ib:Nat):ArK:=out++a.extract ia a.size++b.extract ib b.size
abbrev kv(a b out:ArK)(ia ib:Nat):ArK:=out++b.extract ib b.size++a.extract ia a.size
def cL(a b:ArK)(mg:Nat)(c:T1):SM (ForInStep T1):=do
 let out:=c.2.1;let ia:=c.2.2.1;let ib:=c.2.2.2.1;let M:=c.2.2.2.2.1;let Z:=c.2.2.2.2.2
 let x ← elem' b ib
 let y ← elem' a ia
 match ← lt' x y with
 |some t =>
  if t=true then
   let z ← elem' b ib
   if (ib+1==b.size)=true then pure (.done (some (hV a b (out.push z) ia (ib+1)),out.push z,ia,ib+1,0,Z+1))
   else if Z+1≥mg then pure (.done (none,out.push z,ia,ib+1,0,Z+1)) else pure (.yield (none,out.push z,ia,ib+1,0,Z+1))
  else
   let z ← elem' a ia
   if (ia+1+1==a.size)=true then pure (.done (some (kv a b (out.push z) (ia+1) ib),out.push z,ia+1,ib,M+1,0))
   else if M+1≥mg then pure (.done (none,out.push z,ia+1,ib,M+1,0)) else pure (.yield (none,out.push z,ia+1,ib,M+1,0))
 |_=>pure (.done (some (hV a b out ia ib),out,ia,ib,M,Z))
def i5(a b out:ArK)(ia ib mg M Z:Nat):SM (ForInStep T3):=do
 let z ← elem' a ia
 if (ia+1+1==a.size)=true then pure (.done (some (kv a b (out.push z) (ia+1) ib),out.push z,ia+1,ib,mg,M,Z))
 else if (M<7&&Z<7)=true then pure (.done (none,out.push z,ia+1,ib,mg,M,Z)) else pure (.yield (none,out.push z,ia+1,ib,mg,M,Z))
def iX(a b out:ArK)(ia ib mg M Z:Nat):SM (ForInStep T3):=do
 let z ← elem' b ib
 if (ib+1==b.size)=true then pure (.done (some (hV a b (out.push z) ia (ib+1)),out.push z,ia,ib+1,mg,M,Z))
 else do
  let y ← elem' a ia
  match ← zP true y b (ib+1) (b.size-(ib+1)) 0 with
  |some k =>
   if k>0 then
    if (ib+1+k==b.size)=true then pure (.done (some (hV a b (out.push z++b.extract (ib+1) (ib+1+k)) ia (ib+1+k)),out.push z++b.extract (ib+1) (ib+1+k),ia,ib+1+k,mg,M,k))
    else i5 a b (out.push z++b.extract (ib+1) (ib+1+k)) ia (ib+1+k) mg M k
   else i5 a b (out.push z) ia (ib+1) mg M k
  |_=>pure (.done (some (hV a b (out.push z) ia (ib+1)),out.push z,ia,ib+1,mg,M,Z))
def iS(a b out:ArK)(ia ib mg M Z:Nat):SM (ForInStep T3):=do
 wT mg
 let x ← elem' b ib
 match ← zP false x a ia (a.size-ia) 0 with
 |some k =>
  if k>0 then
   if (ia+k+1==a.size)=true then pure (.done (some (kv a b (out++a.extract ia (ia+k)) (ia+k) ib),out++a.extract ia (ia+k),ia+k,ib,mg,k,Z))
   else if (ia+k==a.size)=true then pure (.done (some (hV a b (out++a.extract ia (ia+k)) (ia+k) ib),out++a.extract ia (ia+k),ia+k,ib,mg,k,Z))
   else iX a b (out++a.extract ia (ia+k)) (ia+k) ib mg k Z
  else iX a b out ia ib mg k Z
 |_=>pure (.done (some (hV a b out ia ib),out,ia,ib,mg,M,Z))
def gL(a b:ArK)(c:T3):SM (ForInStep T3) :=
 if c.2.2.2.2.1>1 then iS a b c.2.1 c.2.2.1 c.2.2.2.1 (c.2.2.2.2.1-1) c.2.2.2.2.2.1 c.2.2.2.2.2.2 else iS a b c.2.1 c.2.2.1 c.2.2.2.1 c.2.2.2.2.1 c.2.2.2.2.2.1 c.2.2.2.2.2.2
def oL(a b:ArK)(c:T0):SM (ForInStep T0):=do
 let s1 ← forIn [0:a.size+b.size] ((none,c.2.1,c.2.2.1,c.2.2.2.1,0,0):T1) fun _ s=>cL a b c.2.2.2.2 s
 match s1.1 with
 |some r=>pure (.done (some r,s1.2.1,s1.2.2.1,s1.2.2.2.1,c.2.2.2.2))
 |none=>do
  liftM (rule "list.sort.gallop")
  let s2 ← forIn [0:a.size+b.size] ((none,s1.2.1,s1.2.2.1,s1.2.2.2.1,c.2.2.2.2+1,s1.2.2.2.2.1,s1.2.2.2.2.2):T3) fun _ s=>gL a b s
  match s2.1 with
  |some r=>pure (.done (some r,s2.2.1,s2.2.2.1,s2.2.2.2.1,s2.2.2.2.2.1))
  |none=>do
   wT (s2.2.2.2.2.1+1)
   pure (.yield (none,s2.2.1,s2.2.2.1,s2.2.2.2.1,s2.2.2.2.2.1+1))
set_option maxHeartbeats 4000000 in
def ph(a b:ArK):YE a b=(do
 liftM (rule "list.sort.merge-lo")
 let y ← elem' b 0
 if (1==b.size)=true then pure (hV a b #[y] 0 1)
 else if (0+1==a.size)=true then pure (kv a b #[y] 0 1)
 else do
  let st ← get
  let c ← forIn [0:a.size+b.size] ((none,#[y],0,1,gallopOf st):T0) fun _ s=>oL a b s
  match c.1 with
  |some r=>pure r
  |none=>unsupported "internal:list.sort.merge-bound"):=by
 show (_ >>= _)=_;dsimp only;refine A5 _ (funext fun _=>A5 _ (funext fun y=>?_));refine ite_congr rfl (fun _=>rfl) fun _=>ite_congr rfl (fun _=>rfl) fun _=>?_
 ··refine A5 _ (funext fun st=>?_);refine congr (A5 _ (A5 _ (funext fun _=>funext fun c=>?_))) (funext fun c=>?_)
   ·unfold oL;refine congr (A5 _ (A5 _ (funext fun _=>funext fun c=>?_))) (funext fun s1=>?_);unfold cL;rfl
    ·rcases s1 with⟨_|r,s1⟩
     ·dsimp only;refine A5 _ (funext fun _=>?_);refine congr (A5 _ (A5 _ (funext fun _=>funext fun c=>?_))) (funext fun s1=>?_);unfold gL iS iX i5;rfl;rcases s1 with⟨_|r,s1⟩ <;> rfl
     ·rfl
   ·rcases c with⟨_|r,c⟩ <;> rfl
section
variable{prog:ER}{w:EU}{A:EW}{E:EL->EM->Prop}{s:EM}{O:KeyOrd}{ky:Keyed->O.α}{κ:SortKind}{a₀ a b:EZ Keyed}{st:SortSt}
def Jo(h:Pw ky a.toList){lo m:Nat}(M:lo+m≤a.size):Up ky a lo m:=fun i j I F=>by
 rw[QZ (by omega),QZ (by omega)];by_cases e:i=j;subst e;exact BK _
 ·have:=By.mp h (lo+i) (lo+j) (by simp;omega) (by simp;omega) (by omega)
  simpa using this
def wM{i:Nat}(h:i<a.size)(m:∀x∈a.toList,x∈a₀.toList):a[i]∈a₀.toList:=m _ (by simp)
def lq{Ek:Keyed}{base n I:Nat}{Q:EO Nat->SortSt->Prop}(L:WQ prog w A E s ky κ a₀)(F:kindOf st=κ)(M:Ek∈a₀.toList)(ma:∀x∈a.toList,x∈a₀.toList)(hn:base+n≤a.size)(Y:I<n)(u:Up ky a base n)
  (h:∀k,k≤n->(∀i,i<k->O.kle (kk ky a (base+i)) (ky Ek))->(∀i,k≤i->i<n->O.klt (ky Ek) (kk ky a (base+i)))->Q (some k) st):wpS (model prog w) A E s (zP false Ek a base n I) Q st:=by
 refine yn (p:=fun i=> !O.blt (ky Ek) (kk ky a (base+i))) Y (fun i hi R U=>?_) (fun i j Z hj q=>?_) fun k h1 h2 h3=>h k h1 (fun i hi=>?_) fun i h4 h5=>?_
 ·unfold yR;have hb:base+i<a.size:=by omega
  refine AL (QP (AM hb) ?_);rw[AF (by decide)];refine AL (L _ _ st _ M (wM hb ma) F (AS ?_));rw[←QZ (ky:=ky) hb];exact U
 ·have q:O.blt (ky Ek) (kk ky a (base+j))=false:=by simpa using q
  have:=A7 (u i j Z hj) q
  show (!O.blt (ky Ek) (kk ky a (base+i)))=true;rw[show O.blt (ky Ek) (kk ky a (base+i))=false from this];rfl
 ·have q:O.blt (ky Ek) (kk ky a (base+i))=false:=by simpa using h2 i hi
  exact q
 ·have q:O.blt (ky Ek) (kk ky a (base+i))=true:=by simpa using h3 i h4 h5
  exact q
def lw{Ek:Keyed}{base n I:Nat}{Q:EO Nat->SortSt->Prop}(L:WQ prog w A E s ky κ a₀)(F:kindOf st=κ)(M:Ek∈a₀.toList)(ma:∀x∈a.toList,x∈a₀.toList)(hn:base+n≤a.size)(Y:I<n)(u:Up ky a base n)
  (h:∀k,k≤n->(∀i,i<k->O.klt (kk ky a (base+i)) (ky Ek))->(∀i,k≤i->i<n->O.kle (ky Ek) (kk ky a (base+i)))->Q (some k) st):wpS (model prog w) A E s (zP true Ek a base n I) Q st:=by
 refine yn (p:=fun i=>O.blt (kk ky a (base+i)) (ky Ek)) Y (fun i hi R U=>?_) (fun i j Z hj q=>?_) fun k h1 h2 h3=>h k h1 (fun i hi=>h2 i hi) fun i h4 h5=>h3 i h4 h5
 ·unfold yR;have hb:base+i<a.size:=by omega
  refine AL (QP (AM hb) ?_);rw[AC rfl];refine L _ _ st _ (wM hb ma) M F ?_;rw[←QZ (ky:=ky) hb];exact U
 ·exact KeyOrd.klt_of_kle_of_klt (u i j Z hj) q
structure gl (ky:Keyed->O.α) (a₀ a b:Array Keyed):Prop where
 ma:∀x∈a.toList,x∈a₀.toList
 mb:∀x∈b.toList,x∈a₀.toList
 ua:Pw ky a.toList
 ub:Pw ky b.toList
 h0:∀(hb:0<b.size),∀y∈a.toList,O.kle (ky b[0]) (ky y)
 hl:∀y∈b.toList,∀(h:a.size-1<a.size),O.kle (ky y) (ky a[a.size-1])
abbrev LI(ky:Keyed->O.α)(a b out:ArK)(ia ib:Nat):Prop:=MG ky a b out ia ib∧ia+1<a.size∧ib<b.size
def O1(ky:Keyed->O.α)(a b:ArK)(n:Nat)(o:EO ArK)(out:ArK)(ia ib:Nat):Prop:=(∃r,o=some r∧Rm ky a b r)∨(o=none∧LI ky a b out ia ib∧n≤out.size)
def uC{mg:Nat}{o:EO ArK}{out:ArK}{ia ib ac bc:Nat}{Q:ForInStep T1->SortSt->Prop}(L:WQ prog w A E s ky κ a₀)(T:gl ky a₀ a b)(hk:kindOf st=κ)(m:LI ky a b out ia ib)
  (h1:∀c:T1,O1 ky a b (out.size+1) c.1 c.2.1 c.2.2.1 c.2.2.2.1->Q (.done c) st) (h2:∀U M Y a0 a1,LI ky a b U M Y->U.size=out.size+1->Q (.yield (none,U,M,Y,a0,a1)) st):wpS (model prog w) A E s (cL a b mg (o,out,ia,ib,ac,bc)) Q st:=by
 obtain⟨m,ha,hb⟩:=m;have R:ia<a.size:=by omega
 unfold cL;dsimp only;refine AL (QP (AM hb) (AL (QP (AM R) (AL (L _ _ st _ (wM hb T.mb) (wM R T.ma) hk ?_)))));dsimp only;cases e:O.blt (ky b[ib]) (ky a[ia]) with
 |true =>
  rw[AC rfl];have I:=m.pb T.ua T.ub hb fun _=>A8 e;refine AL (QP (AM hb) ?_);by_cases Z:ib+1=b.size;rw[AC (by simpa using Z)];exact AS (h1 _ (.inl ⟨_,rfl,I.done T.ua T.ub (.inr Z)⟩))
  ·rw[AF (by simpa using Z)];have q:ib+1<b.size:=by omega
   by_cases F:bc+1≥mg;rw[AC F];exact AS (h1 _ (.inr ⟨rfl,⟨I,ha,q⟩,by simp⟩));rw[AF F];exact AS (h2 _ _ _ _ _ ⟨I,ha,q⟩ (by simp))
 |false =>
  rw[AF (by decide)];have I:=m.pa T.ua T.ub R fun _=>e;refine AL (QP (AM R) ?_);by_cases Z:ia+1+1=a.size;rw[AC (by simpa using Z)];exact AS (h1 _ (.inl ⟨_,rfl,I.last T.ub Z T.hl⟩))
  ·rw[AF (by simpa using Z)];have q:ia+1+1<a.size:=by omega
   by_cases F:ac+1≥mg;rw[AC F];exact AS (h1 _ (.inr ⟨rfl,⟨I,q,hb⟩,by simp⟩));rw[AF F];exact AS (h2 _ _ _ _ _ ⟨I,q,hb⟩ (by simp))
def n4{mg:Nat}{out:ArK}{ia ib M F:Nat}{Q:ForInStep T3->SortSt->Prop}(T:gl ky a₀ a b)(m:LI ky a b out ia ib)(U:O.kle (ky (a[ia]'(by have:=m.2.1;omega))) (ky (b[ib]'m.2.2)))
  (Y:∀c:T3,O1 ky a b (out.size+1) c.1 c.2.1 c.2.2.1 c.2.2.2.1->Q (.done c) st) (h2:∀c:T3,c.1=none->LI ky a b c.2.1 c.2.2.1 c.2.2.2.1->c.2.1.size=out.size+1->Q (.yield c) st):wpS (model prog w) A E s (i5 a b out ia ib mg M F) Q st:=by
 obtain⟨m,ha,hb⟩:=m;have R:ia<a.size:=by omega
 unfold i5;have I:=m.pa T.ua T.ub R fun _=>U;refine AL (QP (AM R) ?_);by_cases Z:ia+1+1=a.size;rw[AC (by simpa using Z)];exact AS (Y _ (.inl ⟨_,rfl,I.last T.ub Z T.hl⟩))
 ·rw[AF (by simpa using Z)];have q:ia+1+1<a.size:=by omega
  by_cases L:(M<7&&F<7)=true;rw[AC L];exact AS (Y _ (.inr ⟨rfl,⟨I,q,hb⟩,by simp⟩));rw[AF L];exact AS (h2 _ rfl ⟨I,q,hb⟩ (by simp))
def O1.mono{n k:Nat}{o:EO ArK}{out:ArK}{ia ib:Nat}(h:O1 ky a b n o out ia ib)(R:k≤n):O1 ky a b k o out ia ib:=h.imp id fun⟨x,y,z⟩=>⟨x,y,AW R z⟩
def oh{mg:Nat}{out:ArK}{ia ib ac bc:Nat}{Q:ForInStep T3->SortSt->Prop}(L:WQ prog w A E s ky κ a₀)(T:gl ky a₀ a b)(hk:kindOf st=κ)(m:LI ky a b out ia ib)(I:O.klt (ky (b[ib]'m.2.2)) (ky (a[ia]'(by have:=m.2.1;omega))))
  (Y:∀c:T3,O1 ky a b (out.size+1) c.1 c.2.1 c.2.2.1 c.2.2.2.1->Q (.done c) st) (h2:∀c:T3,c.1=none->LI ky a b c.2.1 c.2.2.1 c.2.2.2.1->out.size+1≤c.2.1.size->Q (.yield c) st):wpS (model prog w) A E s (iX a b out ia ib mg ac bc) Q st:=by
 obtain⟨m,ha,hb⟩:=m;have R:ia<a.size:=by omega
 unfold iX;have F:=m.pb T.ua T.ub hb fun _=>A8 I;refine AL (QP (AM hb) ?_);by_cases Z:ib+1=b.size;rw[AC (by simpa using Z)];exact AS (Y _ (.inl ⟨_,rfl,F.done T.ua T.ub (.inr Z)⟩))
 ·rw[AF (by simpa using Z)];refine AL (QP (AM R) ?_);refine AL (lw (a:=b) L hk (wM R T.ma) T.mb (by omega) (by omega) (Jo T.ub (by omega)) fun k k1 k2 k3=>?_);dsimp only;by_cases hp:k>0
  ·rw[AC hp];have U:=F.pbs T.ua T.ub k (by omega) fun i hi a0 _=>by
    have:=k2 i a0
    rw[QZ hi]at this;exact A8 this
   by_cases hq:ib+1+k=b.size;rw[AC (by simpa using hq)];exact AS (Y _ (.inl ⟨_,rfl,U.done T.ua T.ub (.inr hq)⟩))
   ·rw[AF (by simpa using hq)];have M:ib+1+k<b.size:=by omega
    have le:=k3 k (AN _) (by omega);rw[QZ M]at le;have sz:(out.push b[ib]++b.extract (ib+1) (ib+1+k)).size=out.size+1+k:=by rw[U.sz,m.sz];omega
    exact n4 T ⟨U,ha,M⟩ le (fun c q=>Y c (q.mono (by rw[sz];omega))) fun c q1 q2 q3=>h2 c q1 q2 (by rw[q3,sz];omega)
  ·rw[AF hp];have M:ib+1<b.size:=by omega
   have le:=k3 0 (by omega) (by omega);rw[Cn,QZ M]at le;exact n4 T ⟨F,ha,M⟩ le (fun c q=>Y c (q.mono (by simp))) fun c q1 q2 q3=>h2 c q1 q2 (by rw[q3];simp)
def Sg(st Ef:SortSt):Prop:=∃g,Ef=SortSt.mk' (kindOf st) (arrOf st) (pendingOf st) g (failedOf st)
def Sg.refl(st:SortSt):Sg st st:=⟨gallopOf st,rfl⟩
def Sg.kind{st Ef:SortSt}(h:Sg st Ef):kindOf Ef=kindOf st:=by obtain⟨g,rfl⟩:=h;rfl
def Sg.set{st Ef:SortSt}(h:Sg st Ef)(g:Nat):Sg st (SortSt.mk' (kindOf Ef) (arrOf Ef) (pendingOf Ef) g (failedOf Ef)):=by obtain⟨q,rfl⟩:=h;exact⟨g,rfl⟩
def nJ{Z:SortSt}{mg:Nat}{out:ArK}{ia ib ac bc:Nat}{Q:ForInStep T3->SortSt->Prop}(L:WQ prog w A E s ky κ a₀)(T:gl ky a₀ a b)(R:kindOf Z=κ)(hg:Sg Z st)(m:LI ky a b out ia ib)
  (Y:∀(c:T3) Ef,Sg Z Ef->O1 ky a b (out.size+1) c.1 c.2.1 c.2.2.1 c.2.2.2.1->Q (.done c) Ef) (h2:∀(c:T3) Ef,Sg Z Ef->c.1=none->LI ky a b c.2.1 c.2.2.1 c.2.2.2.1->out.size+1≤c.2.1.size->Q (.yield c) Ef):wpS (model prog w) A E s (iS a b out ia ib mg ac bc) Q st:=by
 obtain⟨m,ha,hb⟩:=m;have U:ia<a.size:=by omega
 unfold iS;rw[wH];refine AL (B7 ?_);have I:=hg.set mg;refine AL (QP (AM hb) ?_);refine AL (lq (a:=a) L (I.kind.trans R) (wM hb T.mb) T.ma (by omega) (by omega) (Jo T.ua (by omega)) fun k k1 k2 k3=>?_);dsimp only;by_cases hp:k>0
 ·rw[AC hp];have M:=m.pas T.ua T.ub k (by omega) fun i hi F _=>by
   have:=k2 i F
   rwa[QZ hi]at this
  have sz:(out++a.extract ia (ia+k)).size=out.size+k:=by rw[M.sz,m.sz];omega
  by_cases hq:ia+k+1=a.size;rw[AC (by simpa using hq)];exact AS (Y _ _ I (.inl ⟨_,rfl,M.last T.ub hq T.hl⟩))
  ·rw[AF (by simpa using hq)];by_cases hr:ia+k=a.size;rw[AC (by simpa using hr)];exact AS (Y _ _ I (.inl ⟨_,rfl,M.done T.ua T.ub (.inl hr)⟩))
   ·rw[AF (by simpa using hr)];have a0:ia+k<a.size:=by omega
    have lt:=k3 k (AN _) (by omega);rw[QZ a0]at lt;exact oh L T (I.kind.trans R) ⟨M,by omega,hb⟩ lt (fun c q=>Y c _ I (q.mono (by rw[sz];omega))) fun c q1 q2 q3=>h2 c _ I q1 q2 (by rw[sz]at q3;omega)
 ·rw[AF hp];have lt:=k3 0 (by omega) (by omega);rw[Cn,QZ U]at lt;exact oh L T (I.kind.trans R) ⟨m,ha,hb⟩ lt (fun c q=>Y c _ I q) fun c q1 q2 q3=>h2 c _ I q1 q2 q3
def tM{Z:SortSt}{c:T3}{Q:ForInStep T3->SortSt->Prop}(L:WQ prog w A E s ky κ a₀)(T:gl ky a₀ a b)(R:kindOf Z=κ)(I:Sg Z st)(m:LI ky a b c.2.1 c.2.2.1 c.2.2.2.1)
  (Y:∀(F:T3) Ef,Sg Z Ef->O1 ky a b (c.2.1.size+1) F.1 F.2.1 F.2.2.1 F.2.2.2.1->Q (.done F) Ef) (U:∀(F:T3) Ef,Sg Z Ef->F.1=none->LI ky a b F.2.1 F.2.2.1 F.2.2.2.1->c.2.1.size+1≤F.2.1.size->Q (.yield F) Ef):wpS (model prog w) A E s (gL a b c) Q st:=by
 unfold gL;split;exact nJ L T R I m Y U;exact nJ L T R I m Y U
def LI.lt{out:ArK}{ia ib:Nat}(m:LI ky a b out ia ib):out.size<a.size+b.size:=by rw[m.1.sz];have:=m.2.1;have:=m.2.2;omega
def uA{Z:SortSt}{c:T0}{Q:ForInStep T0->SortSt->Prop}(L:WQ prog w A E s ky κ a₀)(T:gl ky a₀ a b)(hk:kindOf Z=κ)(hg:Sg Z st)(m:LI ky a b c.2.1 c.2.2.1 c.2.2.2.1)
  (h1:∀(M:T0) Ef r,Sg Z Ef->M.1=some r->Rm ky a b r->Q (.done M) Ef) (h2:∀(M:T0) Ef,Sg Z Ef->M.1=none->LI ky a b M.2.1 M.2.2.1 M.2.2.2.1->c.2.1.size+1≤M.2.1.size->Q (.yield M) Ef):wpS (model prog w) A E s (oL a b c) Q st:=by
 unfold oL;have a4:=m.lt;refine AL (Bk (BH (I:=fun x (d:T1) Ef=>Ef=st∧d.1=none∧LI ky a b d.2.1 d.2.2.1 d.2.2.2.1∧d.2.1.size=c.2.1.size+x)
  (Q:=fun (d:T1) Ef=>Ef=st∧O1 ky a b (c.2.1.size+1) d.1 d.2.1 d.2.2.1 d.2.2.2.1) ?step ?fin ⟨rfl,rfl,m,rfl⟩) ?post)
 case fin =>
  rintro d Ef ⟨rfl,e,k,sz⟩
  have:=k.lt
  rw[sz]at this;omega
 case step =>
  rintro x ⟨o,out,ia,ib,ac,bc⟩ Ef _ hx ⟨rfl,e,k,sz⟩;have sz:out.size=c.2.1.size+x:=sz;exact uC L T (hg.kind.trans hk) k (fun d q=>⟨rfl,q.mono (by omega)⟩) fun U a0 a1 a2 a3 q1 q2=>⟨rfl,rfl,q1,by show U.size=_;omega⟩
 case post =>
  rintro⟨o,out,ia,ib,ac,bc⟩ Ef ⟨rfl,q⟩;rcases q with⟨r,e,q⟩|⟨e,k,sz⟩
  ·have e:o=some r:=e;subst e;exact AS (h1 _ _ r hg rfl q)
  ·have e:o=none:=e;have k:LI ky a b out ia ib:=k;have sz:c.2.1.size+1≤out.size:=sz;subst e;dsimp only;refine AL (C8 (BM ⟨rfl,?_⟩));refine AL (Bk (BH (I:=fun x (d:T3) Ef=>Sg Z Ef∧d.1=none∧LI ky a b d.2.1 d.2.2.1 d.2.2.2.1∧out.size+x≤d.2.1.size)
    (Q:=fun (d:T3) Ef=>Sg Z Ef∧O1 ky a b (c.2.1.size+1) d.1 d.2.1 d.2.2.1 d.2.2.2.1) ?step2 ?fin2 ⟨hg,rfl,k,AN _⟩) ?post2)
   case fin2 =>
    rintro d R ⟨_,e,k,Y⟩
    have:=k.lt
    omega
   case step2 =>
    rintro x d R _ hx ⟨F,e,k,Y⟩;exact tM L T hk F k (fun d' s' g q=>⟨g,q.mono (by omega)⟩) fun d' s' g q1 q2 q3=>⟨g,q1,q2,by omega⟩
   case post2 =>
    rintro⟨o,U,a0,a1,a5,a2,a3⟩ R ⟨F,q⟩;rcases q with⟨r,e,q⟩|⟨e,k,Y⟩
    ·have e:o=some r:=e;subst e;exact AS (h1 _ _ r F rfl q)
    ·have e:o=none:=e;subst e;dsimp only;rw[wH];exact AL (B7 (AS (h2 _ _ (F.set _) rfl k Y)))
def v6{Q:ArK->SortSt->Prop}(L:WQ prog w A E s ky κ a₀)(T:gl ky a₀ a b)(M:kindOf st=κ)(ha:0<a.size)(hb:0<b.size)
  (h:∀r Ef,Sg st Ef->Rm ky a b r->Q r Ef):wpS (model prog w) A E s (YE a b) Q st:=by
 rw[ph];refine AL (C8 (BM ⟨rfl,?_⟩));refine AL (QP (AM hb) ?_);have m:=MG.start hb T.ua T.ub fun ha=>T.h0 hb _ (by simp);by_cases Y:1=b.size;rw[AC (by simpa using Y)];exact AS (h _ _ (Sg.refl _) (m.done T.ua T.ub (.inr Y)))
 ·rw[AF (by simpa using Y)];by_cases U:0+1=a.size;rw[AC (by simpa using U)];exact AS (h _ _ (Sg.refl _) (m.last T.ub U T.hl))
  ·rw[AF (by simpa using U)];have z1:0+1<a.size:=by omega
   have z2:1<b.size:=by omega
   refine AL (CS ?_);refine AL (Bk (BH (I:=fun x (d:T0) Ef=>Sg st Ef∧d.1=none∧LI ky a b d.2.1 d.2.2.1 d.2.2.2.1∧x≤d.2.1.size)
    (Q:=fun (d:T0) Ef=>Sg st Ef∧∃r,d.1=some r∧Rm ky a b r) ?step ?fin ⟨Sg.refl _,rfl,⟨m,z1,z2⟩,Bf _⟩) ?post)
   case fin =>
    rintro d Ef ⟨_,e,k,sz⟩
    have:=k.lt
    omega
   case step =>
    rintro x d Ef _ hx ⟨Z,e,k,sz⟩;exact uA L T M Z k (fun d' s' r g F R=>⟨g,r,F,R⟩) fun d' s' g F R q3=>⟨g,F,R,by omega⟩
   case post =>
    rintro⟨o,d⟩ Ef ⟨Z,r,e,q⟩;have e:o=some r:=e;subst e;exact AS (h r Ef Z q)
end
abbrev H0:=EO ArK×Nat×Nat×ArK×Nat
abbrev H1:=EO ArK×Nat×Nat×ArK×Nat×Nat
abbrev H3:=EO ArK×Nat×Nat×ArK×Nat×Nat×Nat
abbrev gR(a b out:ArK)(na nb:Nat):ArK:=a.extract 0 na++b.extract 0 nb++out.reverse
abbrev iK(a b out:ArK)(na nb:Nat):ArK:=b.extract 0 nb++a.extract 0 na++out.reverse
def cH(a b:ArK)(mg:Nat)(c:H1):SM (ForInStep H1):=do
 let na:=c.2.1;let nb:=c.2.2.1;let out:=c.2.2.2.1;let M:=c.2.2.2.2.1;let Z:=c.2.2.2.2.2
 let x ← elem' b (nb-1)
 let y ← elem' a (na-1)
 match ← lt' x y with
 |some t =>
  if t=true then
   let z ← elem' a (na-1)
   if (na-1==0)=true then pure (.done (some (gR a b (out.push z) (na-1) nb),na-1,nb,out.push z,M+1,0))
   else if M+1≥mg then pure (.done (none,na-1,nb,out.push z,M+1,0)) else pure (.yield (none,na-1,nb,out.push z,M+1,0))
  else
   let z ← elem' b (nb-1)
   if (nb-1==1)=true then pure (.done (some (iK a b (out.push z) na (nb-1)),na,nb-1,out.push z,0,Z+1))
   else if Z+1≥mg then pure (.done (none,na,nb-1,out.push z,0,Z+1)) else pure (.yield (none,na,nb-1,out.push z,0,Z+1))
 |_=>pure (.done (some (gR a b out na nb),na,nb,out,M,Z))
def iO(a b out:ArK)(na nb mg M Z:Nat):SM (ForInStep H3):=do
 let z ← elem' a (na-1)
 if (na-1==0)=true then pure (.done (some (gR a b (out.push z) (na-1) nb),na-1,nb,out.push z,mg,M,Z))
 else if (M<7&&Z<7)=true then pure (.done (none,na-1,nb,out.push z,mg,M,Z)) else pure (.yield (none,na-1,nb,out.push z,mg,M,Z))
def iV(a b out:ArK)(na nb mg M Z:Nat):SM (ForInStep H3):=do
 let z ← elem' b (nb-1)
 if (nb-1==1)=true then pure (.done (some (iK a b (out.push z) na (nb-1)),na,nb-1,out.push z,mg,M,Z))
 else do
  let y ← elem' a (na-1)
  match ← zP true y b 0 (nb-1) (nb-1-1) with
  |some t =>
   if nb-1-t>0 then
    if (t==1)=true then pure (.done (some (iK a b (out.push z++(b.extract t (nb-1)).reverse) na t),na,t,out.push z++(b.extract t (nb-1)).reverse,mg,M,nb-1-t))
    else if (t==0)=true then pure (.done (some (gR a b (out.push z++(b.extract t (nb-1)).reverse) na t),na,t,out.push z++(b.extract t (nb-1)).reverse,mg,M,nb-1-t))
    else iO a b (out.push z++(b.extract t (nb-1)).reverse) na t mg M (nb-1-t)
   else iO a b (out.push z) na (nb-1) mg M (nb-1-t)
  |_=>pure (.done (some (gR a b (out.push z) na (nb-1)),na,nb-1,out.push z,mg,M,Z))
def iM(a b out:ArK)(na nb mg M Z:Nat):SM (ForInStep H3):=do
 wT mg
 let x ← elem' b (nb-1)
 match ← zP false x a 0 na (na-1) with
 |some t =>
  if na-t>0 then
   if (t==0)=true then pure (.done (some (gR a b (out++(a.extract t na).reverse) t nb),t,nb,out++(a.extract t na).reverse,mg,na-t,Z))
   else iV a b (out++(a.extract t na).reverse) t nb mg (na-t) Z
  else iV a b out na nb mg (na-t) Z
 |_=>pure (.done (some (gR a b out na nb),na,nb,out,mg,M,Z))
def gH(a b:ArK)(c:H3):SM (ForInStep H3) :=
 if c.2.2.2.2.1>1 then iM a b c.2.2.2.1 c.2.1 c.2.2.1 (c.2.2.2.2.1-1) c.2.2.2.2.2.1 c.2.2.2.2.2.2 else iM a b c.2.2.2.1 c.2.1 c.2.2.1 c.2.2.2.2.1 c.2.2.2.2.2.1 c.2.2.2.2.2.2
def oH(a b:ArK)(c:H0):SM (ForInStep H0):=do
 let s1 ← forIn [0:a.size+b.size] ((none,c.2.1,c.2.2.1,c.2.2.2.1,0,0):H1) fun _ s=>cH a b c.2.2.2.2 s
 match s1.1 with
 |some r=>pure (.done (some r,s1.2.1,s1.2.2.1,s1.2.2.2.1,c.2.2.2.2))
 |none=>do
  liftM (rule "list.sort.gallop")
  let s2 ← forIn [0:a.size+b.size] ((none,s1.2.1,s1.2.2.1,s1.2.2.2.1,c.2.2.2.2+1,s1.2.2.2.2.1,s1.2.2.2.2.2):H3) fun _ s=>gH a b s
  match s2.1 with
  |some r=>pure (.done (some r,s2.2.1,s2.2.2.1,s2.2.2.2.1,s2.2.2.2.2.1))
  |none=>do
   wT (s2.2.2.2.2.1+1)
   pure (.yield (none,s2.2.1,s2.2.2.1,s2.2.2.2.1,s2.2.2.2.2.1+1))
set_option maxHeartbeats 4000000 in
def o0(a b:ArK):YJ a b=(do
 liftM (rule "list.sort.merge-hi")
 let y ← elem' a (a.size-1)
 if (a.size-1==0)=true then pure (gR a b #[y] (a.size-1) b.size)
 else if (b.size==1)=true then pure (iK a b #[y] (a.size-1) b.size)
 else do
  let st ← get
  let c ← forIn [0:a.size+b.size] ((none,a.size-1,b.size,#[y],gallopOf st):H0) fun _ s=>oH a b s
  match c.1 with
  |some r=>pure r
  |none=>unsupported "internal:list.sort.merge-bound"):=by
 show (_ >>= _)=_;dsimp only;refine A5 _ (funext fun _=>A5 _ (funext fun y=>?_));refine ite_congr rfl (fun _=>rfl) fun _=>ite_congr rfl (fun _=>rfl) fun _=>?_
 ··refine A5 _ (funext fun st=>?_);refine congr (A5 _ (A5 _ (funext fun _=>funext fun c=>?_))) (funext fun c=>?_)
   ·unfold oH;refine congr (A5 _ (A5 _ (funext fun _=>funext fun c=>?_))) (funext fun s1=>?_);unfold cH;rfl
    ·rcases s1 with⟨_|r,s1⟩
     ·dsimp only;refine A5 _ (funext fun _=>?_);refine congr (A5 _ (A5 _ (funext fun _=>funext fun c=>?_))) (funext fun s1=>?_);unfold gH iM iV iO;rfl;rcases s1 with⟨_|r,s1⟩ <;> rfl
     ·rfl
   ·rcases c with⟨_|r,c⟩ <;> rfl
section
variable{O:KeyOrd}{ky:Keyed->O.α}{a b out:EZ Keyed}{na nb:Nat}
structure MH (ky:Keyed->O.α) (a b out:Array Keyed) (na nb:Nat):Prop where
 la:na≤a.size
 lb:nb≤b.size
 sz:out.size+(na+nb)=a.size+b.size
 perm:((a.toList.take na++b.toList.take nb)++out.toList.reverse).Perm (a.toList++b.toList)
 pw:Pw ky out.toList.reverse
 hi:∀x∈a.toList.take na++b.toList.take nb,∀y∈out.toList,O.kle (ky x) (ky y)
def ZV{a:EZ Keyed}{i:Nat}(h:i<a.size):a.toList.take (i+1)=a.toList.take i++[a[i]]:=by rw[List.take_add_one,Cm,AM h];rfl
def zx{l:EK Keyed}(h:Pw ky l)(i:Nat):Pw ky (l.take i):=h.sublist (List.take_sublist _ _)
def jK{a:EZ Keyed}(u:Pw ky a.toList){i:Nat}(h:i<a.size){x:Keyed}(M:x∈a.toList.take (i+1)):O.kle (ky x) (ky a[i]):=by
 have p:=zx u (i+1);rw[ZV h]at p M;rcases Ab.mp M with q|q
 ·exact (As.mp p).2.2 x q _ (by simp)
 ·rw[AX.mp q];exact BK _
def MH.pa(m:MH ky a b out (na+1) nb)(ua:Pw ky a.toList)(ub:Pw ky b.toList)(hb:∀(h:nb-1<b.size),0<nb->O.kle (ky b[nb-1]) (ky (a[na]'(m.la)))):MH ky a b (out.push (a[na]'(m.la))) na nb:=by
 have h:na<a.size:=m.la;have Z:=ZV h;refine⟨by omega,m.lb,by rw[Cd];have:=m.sz;omega,?_,?_,?_⟩;have p:=m.perm;rw[Z]at p;rw[Ax,CY];refine List.Perm.trans ?_ p;rw[Ah,Ah,Ah];refine CK _ ?_;rw[←Ah,←Ah];exact List.Perm.append_right _ List.perm_append_comm
 ·rw[Ax,CY];refine As.mpr ⟨CC _ _,m.pw,fun x M y I=>?_⟩;rw[AX.mp (show x∈[a[na]] by simpa using M)];exact m.hi _ (by rw[Z];simp) y (by simpa using I)
 ·intro x M y I;rw[Ax]at I;rcases Ab.mp I with q|q
  ·exact m.hi x (by rw[Z];rcases Ab.mp M with z|z <;> simp[z]) y q
  ·rw[AX.mp q];rcases Ab.mp M with z|z
   ·exact jK ua h (by rw[Z];simp[z])
   ·cases nb with|zero=>simp at z|succ n=>have Y:n<b.size:=m.lb;exact A7 (jK ub Y z) (hb Y (by omega))
def MH.pb(m:MH ky a b out na (nb+1))(ua:Pw ky a.toList)(ub:Pw ky b.toList)(F:∀(h:na-1<a.size),0<na->O.kle (ky a[na-1]) (ky (b[nb]'(m.lb)))):MH ky a b (out.push (b[nb]'(m.lb))) na nb:=by
 have h:nb<b.size:=m.lb;have L:=ZV h;refine⟨m.la,by omega,by rw[Cd];have:=m.sz;omega,?_,?_,?_⟩;have p:=m.perm;rw[L]at p;rw[Ax,CY];refine List.Perm.trans ?_ p;rw[Ah,Ah,Ah];exact List.Perm.refl _
 ·rw[Ax,CY];refine As.mpr ⟨CC _ _,m.pw,fun x M y I=>?_⟩;rw[AX.mp (show x∈[b[nb]] by simpa using M)];exact m.hi _ (by rw[L];simp) y (by simpa using I)
 ·intro x M y I;rw[Ax]at I;rcases Ab.mp I with q|q
  ·exact m.hi x (by rw[L];rcases Ab.mp M with z|z <;> simp[z]) y q
  ·rw[AX.mp q];rcases Ab.mp M with z|z
   ·cases na with|zero=>simp at z|succ n=>have Y:n<a.size:=m.la;exact A7 (jK ua Y z) (F Y (by omega))
   ·exact jK ub h (by rw[L];simp[z])
def Jf{a:EZ Keyed}{t n:Nat}(L:t≤n)(h:n<a.size):out++(a.extract t (n+1)).reverse=out.push a[n]++(a.extract t n).reverse:=by
 apply Array.toList_inj.mp;have e:(a.extract t (n+1)).toList=(a.extract t n).toList++[a[n]]:=by
  rw[Bi,Bi];simp only[CP];rw[show n+1-t=(n-t)+1 by omega,List.take_add_one,List.getElem?_drop,show t+(n-t)=n by omega,Cm,AM h];rfl
 rw[BN,BN,Ax,Cs,Cs,e,CY,Ah];rfl
def JA(a:EZ Keyed)(t:Nat)(out:EZ Keyed):out++(a.extract t t).reverse=out:=by
 have:a.extract t t = #[]:=by simp;omega
 rw[this];simp
def MH.pas(ua:Pw ky a.toList)(ub:Pw ky b.toList){t:Nat}:∀(k:Nat) {out:EZ Keyed},MH ky a b out (t+k) nb->(∀i (h:i<a.size),t≤i->i<t+k->∀(hb:nb-1<b.size),0<nb->O.kle (ky b[nb-1]) (ky a[i]))->MH ky a b (out++(a.extract t (t+k)).reverse) t nb
 |0,out,m,_=>by rw[Cn,JA];exact m
 |k+1,out,m,hb=>by
  have hl:t+k<a.size:=m.la;rw[←Nat.add_assoc,Jf (by omega) hl];exact MH.pas ua ub k (m.pa ua ub (hb (t+k) hl (by omega) (by omega))) fun i h q M=>hb i h q (by omega)
def MH.pbs(ua:Pw ky a.toList)(ub:Pw ky b.toList){t:Nat}:∀(k:Nat) {out:EZ Keyed},MH ky a b out na (t+k)->(∀i (h:i<b.size),t≤i->i<t+k->∀(F:na-1<a.size),0<na->O.kle (ky a[na-1]) (ky b[i]))->MH ky a b (out++(b.extract t (t+k)).reverse) na t
 |0,out,m,_=>by rw[Cn,JA];exact m
 |k+1,out,m,hb=>by
  have hl:t+k<b.size:=m.lb;rw[←Nat.add_assoc,Jf (by omega) hl];exact MH.pbs ua ub k (m.pb ua ub (hb (t+k) hl (by omega) (by omega))) fun i h q M=>hb i h q (by omega)
def ZZ(a:EZ Keyed)(i:Nat):(a.extract 0 i).toList=a.toList.take i:=by rw[Bi];simp[CP]
def MH.done(m:MH ky a b out na nb)(ua:Pw ky a.toList)(ub:Pw ky b.toList)(h:na=0∨nb=0):Rm ky a b (gR a b out na nb):=by
 have e:(gR a b out na nb).toList=(a.toList.take na++b.toList.take nb)++out.toList.reverse:=by rw[BN,BN,ZZ,ZZ,Cs]
 refine⟨by rw[e];exact m.perm,?_⟩;rw[e];refine As.mpr ⟨?_,m.pw,fun x M y I=>m.hi x M y (by simpa using I)⟩;rcases h with h|h
 ·rw[h,List.take_zero,List.nil_append];exact zx ub nb
 ·rw[h,List.take_zero,BW];exact zx ua na
def MH.first(m:MH ky a b out na nb)(ua:Pw ky a.toList)(ub:Pw ky b.toList)(h:nb=1)(h0:∀(hb:0<b.size),∀y∈a.toList,O.kle (ky b[0]) (ky y)):Rm ky a b (iK a b out na nb):=by
 have e:(iK a b out na nb).toList=(b.toList.take nb++a.toList.take na)++out.toList.reverse:=by rw[BN,BN,ZZ,ZZ,Cs]
 subst h;have hb:0<b.size:=m.lb;have U:b.toList.take 1=[b[0]]:=by have:=ZV hb;simpa using this
 refine⟨by rw[e];exact (List.Perm.append_right _ List.perm_append_comm).trans m.perm,?_⟩;rw[e];refine As.mpr ⟨As.mpr ⟨zx ub 1,zx ua na,fun x M y I=>?_⟩,m.pw,fun x M y I=>m.hi x (by rcases Ab.mp M with z|z <;> simp[z]) y (by simpa using I)⟩;rw[U]at M;rw[AX.mp M];exact h0 hb y (B9 I)
def MH.start(h:a.size-1<a.size)(ua:Pw ky a.toList)(ub:Pw ky b.toList)(hl:∀y∈b.toList,∀(h:a.size-1<a.size),O.kle (ky y) (ky a[a.size-1])):MH ky a b #[a[a.size-1]] (a.size-1) b.size:=by
 have m:MH ky a b #[] a.size b.size:=⟨AN _,AN _,by simp,by rw[Br (by simp),Br (by simp)];simp,List.Pairwise.nil,fun x _ y I=>by cases I⟩;obtain⟨n,Y⟩:∃n,a.size=n+1:=⟨a.size-1,by omega⟩;have m:MH ky a b #[] (n+1) b.size:=by rw[←Y];exact m
 have e:n=a.size-1:=by omega
 subst e;exact m.pa ua ub fun h' _=>hl _ (by simp) h
end
section
variable{prog:ER}{w:EU}{A:EW}{E:EL->EM->Prop}{s:EM}{O:KeyOrd}{ky:Keyed->O.α}{κ:SortKind}{a₀ a b:EZ Keyed}{st:SortSt}
abbrev LH(ky:Keyed->O.α)(a b out:ArK)(na nb:Nat):Prop:=MH ky a b out na nb∧0<na∧1<nb
def O2(ky:Keyed->O.α)(a b:ArK)(n:Nat)(o:EO ArK)(na nb:Nat)(out:ArK):Prop:=(∃r,o=some r∧Rm ky a b r)∨(o=none∧LH ky a b out na nb∧n≤out.size)
def O2.mono{n k:Nat}{o:EO ArK}{out:ArK}{na nb:Nat}(h:O2 ky a b n o na nb out)(R:k≤n):O2 ky a b k o na nb out:=h.imp id fun⟨x,y,z⟩=>⟨x,y,AW R z⟩
def LH.lt{out:ArK}{na nb:Nat}(m:LH ky a b out na nb):out.size<a.size+b.size:=by have:=m.1.sz;have:=m.2.1;omega
def uo{mg:Nat}{o:EO ArK}{out:ArK}{na nb ac bc:Nat}{Q:ForInStep H1->SortSt->Prop}(L:WQ prog w A E s ky κ a₀)(T:gl ky a₀ a b)(hk:kindOf st=κ)(m:LH ky a b out na nb)
  (h1:∀c:H1,O2 ky a b (out.size+1) c.1 c.2.1 c.2.2.1 c.2.2.2.1->Q (.done c) st) (h2:∀M a0 U a1 a2,LH ky a b U M a0->U.size=out.size+1->Q (.yield (none,M,a0,U,a1,a2)) st):wpS (model prog w) A E s (cH a b mg (o,na,nb,out,ac,bc)) Q st:=by
 obtain⟨m,ha,hb⟩:=m;obtain⟨p,rfl⟩:∃p,na=p+1:=⟨na-1,by omega⟩;obtain⟨q,rfl⟩:∃q,nb=q+1:=⟨nb-1,by omega⟩;have R:p<a.size:=m.la;have Y:q<b.size:=m.lb;unfold cH;dsimp only;rw[BS,BS];refine AL (QP (AM Y) (AL (QP (AM R) (AL (L _ _ st _ (wM Y T.mb) (wM R T.ma) hk ?_)))));dsimp only;cases e:O.blt (ky b[q]) (ky a[p]) with
 |true =>
  rw[AC rfl];have I:=m.pa T.ua T.ub fun _ _=>A8 e;refine AL (QP (AM R) ?_);by_cases Z:p=0;rw[AC (by simpa using Z)];exact AS (h1 _ (.inl ⟨_,rfl,I.done T.ua T.ub (.inl Z)⟩))
  ·rw[AF (by simpa using Z)];have F:0<p:=by omega
   by_cases hg:ac+1≥mg;rw[AC hg];exact AS (h1 _ (.inr ⟨rfl,⟨I,F,hb⟩,by simp⟩));rw[AF hg];exact AS (h2 _ _ _ _ _ ⟨I,F,hb⟩ (by simp))
 |false =>
  rw[AF (by decide)];have I:=m.pb T.ua T.ub fun _ _=>e;refine AL (QP (AM Y) ?_);by_cases Z:q=1;rw[AC (by simpa using Z)];exact AS (h1 _ (.inl ⟨_,rfl,I.first T.ua T.ub Z T.h0⟩))
  ·rw[AF (by simpa using Z)];have F:1<q:=by omega
   by_cases hg:bc+1≥mg;rw[AC hg];exact AS (h1 _ (.inr ⟨rfl,⟨I,ha,F⟩,by simp⟩));rw[AF hg];exact AS (h2 _ _ _ _ _ ⟨I,ha,F⟩ (by simp))
def lR{mg:Nat}{out:ArK}{p nb M F:Nat}{Q:ForInStep H3->SortSt->Prop}(T:gl ky a₀ a b)(m:LH ky a b out (p+1) nb)(U:∀(h:nb-1<b.size) (h':p<a.size),O.kle (ky b[nb-1]) (ky a[p]))
  (Y:∀c:H3,O2 ky a b (out.size+1) c.1 c.2.1 c.2.2.1 c.2.2.2.1->Q (.done c) st) (h2:∀c:H3,c.1=none->LH ky a b c.2.2.2.1 c.2.1 c.2.2.1->c.2.2.2.1.size=out.size+1->Q (.yield c) st):wpS (model prog w) A E s (iO a b out (p+1) nb mg M F) Q st:=by
 obtain⟨m,ha,hb⟩:=m;have R:p<a.size:=m.la;unfold iO;rw[BS];have I:=m.pa T.ua T.ub fun h _=>U h R;refine AL (QP (AM R) ?_);by_cases Z:p=0;rw[AC (by simpa using Z)];exact AS (Y _ (.inl ⟨_,rfl,I.done T.ua T.ub (.inl Z)⟩))
 ·rw[AF (by simpa using Z)];have q:0<p:=by omega
  by_cases L:(M<7&&F<7)=true;rw[AC L];exact AS (Y _ (.inr ⟨rfl,⟨I,q,hb⟩,by simp⟩));rw[AF L];exact AS (h2 _ rfl ⟨I,q,hb⟩ (by simp))
def oY{mg:Nat}{out:ArK}{na q ac bc:Nat}{Q:ForInStep H3->SortSt->Prop}(L:WQ prog w A E s ky κ a₀)(T:gl ky a₀ a b)(hk:kindOf st=κ)(m:LH ky a b out na (q+1))(U:∀(h:na-1<a.size) (h':q<b.size),O.kle (ky a[na-1]) (ky b[q]))
  (Y:∀c:H3,O2 ky a b (out.size+1) c.1 c.2.1 c.2.2.1 c.2.2.2.1->Q (.done c) st) (h2:∀c:H3,c.1=none->LH ky a b c.2.2.2.1 c.2.1 c.2.2.1->out.size+1≤c.2.2.2.1.size->Q (.yield c) st):wpS (model prog w) A E s (iV a b out na (q+1) mg ac bc) Q st:=by
 obtain⟨m,ha,hb⟩:=m;have I:q<b.size:=m.lb;obtain⟨p,rfl⟩:∃p,na=p+1:=⟨na-1,by omega⟩;have R:p<a.size:=m.la;unfold iV;rw[BS,BS];have M:=m.pb T.ua T.ub fun h _=>U h I;refine AL (QP (AM I) ?_);by_cases Z:q=1;rw[AC (by simpa using Z)];exact AS (Y _ (.inl ⟨_,rfl,M.first T.ua T.ub Z T.h0⟩))
 ·rw[AF (by simpa using Z)];refine AL (QP (AM R) ?_);refine AL (lw (a:=b) L hk (wM R T.ma) T.mb (by omega) (by omega) (Jo T.ub (by omega)) fun t k1 k2 k3=>?_);dsimp only;have a0:(out.push b[q]).size=out.size+1:=by simp
  by_cases hp:q-t>0
  ·rw[AC hp];obtain⟨d,rfl⟩:∃d,q=t+d:=⟨q-t,by omega⟩;have F:=MH.pbs T.ua T.ub d M fun i hi a1 a2 h _=>by
    have:=k3 i a1 a2
    rw[Au,QZ hi]at this;exact this
   by_cases hq:t=1;rw[AC (by simpa using hq)];exact AS (Y _ (.inl ⟨_,rfl,F.first T.ua T.ub hq T.h0⟩))
   ·rw[AF (by simpa using hq)];by_cases hr:t=0;rw[AC (by simpa using hr)];exact AS (Y _ (.inl ⟨_,rfl,F.done T.ua T.ub (.inr hr)⟩))
    ·rw[AF (by simpa using hr)];have sz:out.size+1≤(out.push b[t+d]++(b.extract t (t+d)).reverse).size:=by rw[Array.size_append];omega
     refine lR T ⟨F,ha,by omega⟩ (fun h h'=>?_) (fun c q=>Y c (q.mono (by omega))) fun c q1 q2 q3=>h2 c q1 q2 (by omega)
     have:=k2 (t-1) (by omega)
     rw[Au,QZ h]at this;exact A8 this
  ·rw[AF hp];refine lR T ⟨M,ha,by omega⟩ (fun h h'=>?_) (fun c q=>Y c (q.mono (by omega))) fun c q1 q2 q3=>h2 c q1 q2 (by omega)
   have:=k2 (q-1) (by omega)
   rw[Au,QZ h]at this;exact A8 this
def oI{Z:SortSt}{mg:Nat}{out:ArK}{na nb ac bc:Nat}{Q:ForInStep H3->SortSt->Prop}(L:WQ prog w A E s ky κ a₀)(T:gl ky a₀ a b)(R:kindOf Z=κ)(hg:Sg Z st)(m:LH ky a b out na nb)
  (M:∀(c:H3) Ef,Sg Z Ef->O2 ky a b (out.size+1) c.1 c.2.1 c.2.2.1 c.2.2.2.1->Q (.done c) Ef) (h2:∀(c:H3) Ef,Sg Z Ef->c.1=none->LH ky a b c.2.2.2.1 c.2.1 c.2.2.1->out.size+1≤c.2.2.2.1.size->Q (.yield c) Ef):wpS (model prog w) A E s (iM a b out na nb mg ac bc) Q st:=by
 obtain⟨m,ha,hb⟩:=m;obtain⟨q,rfl⟩:∃q,nb=q+1:=⟨nb-1,by omega⟩;have Y:q<b.size:=m.lb;have a0:=m.la;unfold iM;rw[wH];refine AL (B7 ?_);have I:=hg.set mg;rw[BS];refine AL (QP (AM Y) ?_);refine AL (lq (a:=a) L (I.kind.trans R) (wM Y T.mb) T.ma (by omega) (by omega) (Jo T.ua (by omega)) fun t k1 k2 k3=>?_);dsimp only;by_cases hp:na-t>0
 ·rw[AC hp];obtain⟨d,rfl⟩:∃d,na=t+d:=⟨na-t,by omega⟩;have U:=MH.pas T.ua T.ub d m fun i hi a1 a2 h _=>by
   have:=k3 i a1 a2
   rw[Au,QZ hi]at this;exact A8 this
  have sz:out.size≤(out++(a.extract t (t+d)).reverse).size:=by rw[Array.size_append];omega
  have a3:(out++(a.extract t (t+d)).reverse).size+(t+(q+1))=out.size+(t+d+(q+1)):=by rw[U.sz,m.sz]
  by_cases F:t=0;rw[AC (by simpa using F)];exact AS (M _ _ I (.inl ⟨_,rfl,U.done T.ua T.ub (.inl F)⟩))
  ·rw[AF (by simpa using F)];refine oY L T (I.kind.trans R) ⟨U,by omega,hb⟩ (fun h h'=>?_) (fun c q=>M c _ I (q.mono (by omega))) fun c q1 q2 q3=>h2 c _ I q1 q2 (by omega)
   have:=k2 (t-1) (by omega)
   rw[Au,QZ h]at this;exact this
 ·rw[AF hp];refine oY L T (I.kind.trans R) ⟨m,ha,hb⟩ (fun h h'=>?_) (fun c q=>M c _ I q) fun c q1 q2 q3=>h2 c _ I q1 q2 q3
  have:=k2 (na-1) (by omega)
  rw[Au,QZ h]at this;exact this
def rC{Z:SortSt}{c:H3}{Q:ForInStep H3->SortSt->Prop}(L:WQ prog w A E s ky κ a₀)(T:gl ky a₀ a b)(R:kindOf Z=κ)(I:Sg Z st)(m:LH ky a b c.2.2.2.1 c.2.1 c.2.2.1)
  (Y:∀(F:H3) Ef,Sg Z Ef->O2 ky a b (c.2.2.2.1.size+1) F.1 F.2.1 F.2.2.1 F.2.2.2.1->Q (.done F) Ef) (U:∀(F:H3) Ef,Sg Z Ef->F.1=none->LH ky a b F.2.2.2.1 F.2.1 F.2.2.1->c.2.2.2.1.size+1≤F.2.2.2.1.size->Q (.yield F) Ef):wpS (model prog w) A E s (gH a b c) Q st:=by
 unfold gH;split;exact oI L T R I m Y U;exact oI L T R I m Y U
def pB{Z:SortSt}{c:H0}{Q:ForInStep H0->SortSt->Prop}(L:WQ prog w A E s ky κ a₀)(T:gl ky a₀ a b)(hk:kindOf Z=κ)(hg:Sg Z st)(m:LH ky a b c.2.2.2.1 c.2.1 c.2.2.1)
  (h1:∀(M:H0) Ef r,Sg Z Ef->M.1=some r->Rm ky a b r->Q (.done M) Ef) (h2:∀(M:H0) Ef,Sg Z Ef->M.1=none->LH ky a b M.2.2.2.1 M.2.1 M.2.2.1->c.2.2.2.1.size+1≤M.2.2.2.1.size->Q (.yield M) Ef):wpS (model prog w) A E s (oH a b c) Q st:=by
 unfold oH;have a4:=m.lt;refine AL (Bk (BH (I:=fun x (d:H1) Ef=>Ef=st∧d.1=none∧LH ky a b d.2.2.2.1 d.2.1 d.2.2.1∧d.2.2.2.1.size=c.2.2.2.1.size+x)
  (Q:=fun (d:H1) Ef=>Ef=st∧O2 ky a b (c.2.2.2.1.size+1) d.1 d.2.1 d.2.2.1 d.2.2.2.1) ?step ?fin ⟨rfl,rfl,m,rfl⟩) ?post)
 case fin =>
  rintro d Ef ⟨rfl,e,k,sz⟩
  have:=k.lt
  rw[sz]at this;omega
 case step =>
  rintro x ⟨o,na,nb,out,ac,bc⟩ Ef _ hx ⟨rfl,e,k,sz⟩;have sz:out.size=c.2.2.2.1.size+x:=sz;exact uo L T (hg.kind.trans hk) k (fun d q=>⟨rfl,q.mono (by omega)⟩) fun a0 a1 U a2 a3 q1 q2=>⟨rfl,rfl,q1,by show U.size=_;omega⟩
 case post =>
  rintro⟨o,na,nb,out,ac,bc⟩ Ef ⟨rfl,q⟩;rcases q with⟨r,e,q⟩|⟨e,k,sz⟩
  ·have e:o=some r:=e;subst e;exact AS (h1 _ _ r hg rfl q)
  ·have e:o=none:=e;have k:LH ky a b out na nb:=k;have sz:c.2.2.2.1.size+1≤out.size:=sz;subst e;dsimp only;refine AL (C8 (BM ⟨rfl,?_⟩));refine AL (Bk (BH (I:=fun x (d:H3) Ef=>Sg Z Ef∧d.1=none∧LH ky a b d.2.2.2.1 d.2.1 d.2.2.1∧out.size+x≤d.2.2.2.1.size)
    (Q:=fun (d:H3) Ef=>Sg Z Ef∧O2 ky a b (c.2.2.2.1.size+1) d.1 d.2.1 d.2.2.1 d.2.2.2.1) ?step2 ?fin2 ⟨hg,rfl,k,AN _⟩) ?post2)
   case fin2 =>
    rintro d R ⟨_,e,k,Y⟩
    have:=k.lt
    omega
   case step2 =>
    rintro x d R _ hx ⟨F,e,k,Y⟩;exact rC L T hk F k (fun d' s' g q=>⟨g,q.mono (by omega)⟩) fun d' s' g q1 q2 q3=>⟨g,q1,q2,by omega⟩
   case post2 =>
    rintro⟨o,a0,a1,U,a5,a2,a3⟩ R ⟨F,q⟩;rcases q with⟨r,e,q⟩|⟨e,k,Y⟩
    ·have e:o=some r:=e;subst e;exact AS (h1 _ _ r F rfl q)
    ·have e:o=none:=e;subst e;dsimp only;rw[wH];exact AL (B7 (AS (h2 _ _ (F.set _) rfl k Y)))
def xp{Q:ArK->SortSt->Prop}(L:WQ prog w A E s ky κ a₀)(T:gl ky a₀ a b)(M:kindOf st=κ)(ha:0<a.size)(hb:0<b.size)
  (h:∀r Ef,Sg st Ef->Rm ky a b r->Q r Ef):wpS (model prog w) A E s (YJ a b) Q st:=by
 rw[o0];have hl:a.size-1<a.size:=by omega
 refine AL (C8 (BM ⟨rfl,?_⟩));refine AL (QP (AM hl) ?_);have m:=MH.start hl T.ua T.ub T.hl;by_cases Y:a.size-1=0;rw[AC (by simpa using Y)];exact AS (h _ _ (Sg.refl _) (m.done T.ua T.ub (.inl Y)))
 ·rw[AF (by simpa using Y)];by_cases U:b.size=1;rw[AC (by simpa using U)];exact AS (h _ _ (Sg.refl _) (m.first T.ua T.ub U T.h0))
  ·rw[AF (by simpa using U)];have z1:0<a.size-1:=by omega
   have z2:1<b.size:=by omega
   refine AL (CS ?_);refine AL (Bk (BH (I:=fun x (d:H0) Ef=>Sg st Ef∧d.1=none∧LH ky a b d.2.2.2.1 d.2.1 d.2.2.1∧x≤d.2.2.2.1.size)
    (Q:=fun (d:H0) Ef=>Sg st Ef∧∃r,d.1=some r∧Rm ky a b r) ?step ?fin ⟨Sg.refl _,rfl,⟨m,z1,z2⟩,Bf _⟩) ?post)
   case fin =>
    rintro d Ef ⟨_,e,k,sz⟩
    have:=k.lt
    omega
   case step =>
    rintro x d Ef _ hx ⟨Z,e,k,sz⟩;exact pB L T M Z k (fun d' s' r g F R=>⟨g,r,F,R⟩) fun d' s' g F R q3=>⟨g,F,R,by omega⟩
   case post =>
    rintro⟨o,d⟩ Ef ⟨Z,r,e,q⟩;have e:o=some r:=e;subst e;exact AS (h r Ef Z q)
end
section
variable{prog:ER}{w:EU}{A:EW}{E:EL->EM->Prop}{s:EM}{O:KeyOrd}{ky:Keyed->O.α}{κ:SortKind}{a₀ bs:EZ Keyed}{st:SortSt}
def Q1{Et:SortSt}{Q:PUnit->SortSt->Prop}(h:Q ⟨⟩ Et):wpS (model prog w) A E s (set Et:StateT SortSt Sem PUnit) Q st:=by unfold wpS;rw[StateT.run_set];exact AB ⟨rfl,h⟩
def Jm{sa:Nat}:∀(l:EK Keyed) (i:Nat) (xs:EZ Keyed),sa+i+l.length≤xs.size->((l.zipIdx i).foldl (fun (a:EZ Keyed) (x:Keyed×Nat)=>a.setIfInBounds (sa+x.2) x.1) xs).toList=xs.toList.take (sa+i)++(l++xs.toList.drop (sa+i+l.length))
 |[],i,xs,_=>by simp
 |x::l,i,xs,h=>by
  rw[Aa]at h;rw[List.zipIdx_cons,Bo,Jm l (i+1) _ (by simp;omega),Array.toList_setIfInBounds];have I:sa+i<xs.toList.length:=by simp;omega
  rw[←Nat.add_assoc,List.take_add_one,List.take_set_of_le (AN _),BB I,List.drop_set_of_lt (by omega),Aa];simp only[Option.toList_some,Ah,List.cons_append,List.nil_append];rw[show sa+i+1+l.length=sa+i+(l.length+1) by omega]
def oW{xs:EZ Keyed}{lo m:Nat}(M:lo+m≤xs.size)(u:Up ky xs lo m):Pw ky ((xs.toList.drop lo).take m):=by
 refine By.mpr fun i j hi F I=>?_;have q:j<m:=by simp at F;omega
 have:=u i j (by omega) q
 rw[QZ (by omega),QZ (by omega)]at this;simpa using this
def tT{xs:EZ Keyed}{n:Nat}(Y:n=xs.size)(p:Pw ky xs.toList):Up ky xs 0 n:=Jo p (by omega)
def Zk{xs:EZ Keyed}{lo m:Nat}{z:Keyed}(h:z∈(xs.toList.drop lo).take m):∃i,i<m∧∃(hi:lo+i<xs.size),z=xs[lo+i]:=by
 obtain⟨i,hi,e⟩:=List.mem_iff_getElem.mp h;have Y:i<m:=by have:=hi;simp at this;omega
 have U:lo+i<xs.size:=by have:=hi;simp at this;omega
 exact⟨i,Y,U,by rw[←e];simp⟩
def YU(xs:EZ Keyed)(i j:Nat):(xs.extract i j).toList=(xs.toList.drop i).take (j-i):=by rw[Bi]
def l7(q:ArK)(k F nb:Nat):SM Bool:=do
 let r ← if F-k≤nb then YE (q.extract k F) (q.extract F (F+nb)) else YJ (q.extract k F) (q.extract F (F+nb))
 modify fun s=>setArr s (r.toList.zipIdx.foldl (fun a x=>a.setIfInBounds (k+x.2) x.1) (arrOf s))
 let s ← get
 pure (failedOf s).isNone
def pW{k F n2 nb:Nat}{pd:EZ (Nat×Nat×Nat)}{Q:Bool->SortSt->Prop}(L:WQ prog w A E s ky κ a₀)(B:SX κ a₀ bs 0 pd st)(hz:F+n2=a₀.size)(hk:k<F)(hb:0<nb)(a9:nb≤n2)(u1:Up ky (arrOf st) 0 F)(u2:Up ky (arrOf st) F n2)
  (k2:∀i,i<k->O.kle (kk ky (arrOf st) i) (kk ky (arrOf st) F)) (k3:∀i,k≤i->i<F->O.klt (kk ky (arrOf st) F) (kk ky (arrOf st) i))
  (j2:∀i,i<nb->O.klt (kk ky (arrOf st) (F+i)) (kk ky (arrOf st) (F-1))) (j3:∀i,nb≤i->i<n2->O.kle (kk ky (arrOf st) (F-1)) (kk ky (arrOf st) (F+i)))
  (h:∀Ef,(arrOf Ef).Perm a₀->failedOf Ef=none->pendingOf Ef=pd->Up ky (arrOf Ef) 0 a₀.size->Q true Ef):wpS (model prog w) A E s (l7 (arrOf st) k F nb) Q st:=by
 have sz:=B.size;have a0:∀x∈(arrOf st).toList,x∈a₀.toList:=fun x M=>(BF.mp B.perm).mem_iff.mp M;have P1:=oW (by omega) u1;have P2:=oW (by omega) u2;rw[List.drop_zero]at P1;have P2:Pw ky ((arrOf st).toList.drop F):=by rw[Br (by simp;omega)]at P2;exact P2
 have ex:((arrOf st).extract k F).toList=((arrOf st).toList.take F).drop k:=by rw[YU,List.drop_take]
 have Y:((arrOf st).extract F (F+nb)).toList=((arrOf st).toList.drop F).take nb:=by rw[YU,Nat.add_sub_cancel_left]
 have sx:((arrOf st).extract k F).size=F-k:=by simp;omega
 have sy:((arrOf st).extract F (F+nb)).size=nb:=by simp;omega
 have q:F<(arrOf st).size:=by omega
 have R:F-1<(arrOf st).size:=by omega
 -- the parts,as lists
 have c1:∀z∈(arrOf st).toList.take k,O.kle (ky z) (ky (arrOf st)[F]):=fun z U=>by
  obtain⟨i,hi,Z,rfl⟩:=Zk (lo:=0) (by rwa[List.drop_zero])
  have:=k2 i hi
  rw[QZ (by omega),QZ q]at this;simpa using this
 have c2:∀z∈((arrOf st).toList.take F).drop k,O.kle (ky (arrOf st)[F]) (ky z):=fun z U=>by
  rw[←ex,YU]at U;obtain⟨i,hi,Z,rfl⟩:=Zk U
  have:=k3 (k+i) (by omega) (by omega)
  rw[QZ Z,QZ q]at this;exact A8 this
 have c3:∀z∈((arrOf st).toList.drop F).take nb,O.kle (ky z) (ky (arrOf st)[F-1]):=fun z U=>by
  obtain⟨i,hi,Z,rfl⟩:=Zk U
  have:=j2 i hi
  rw[QZ Z,QZ R]at this;exact A8 this
 have c4:∀z∈((arrOf st).toList.drop F).drop nb,O.kle (ky (arrOf st)[F-1]) (ky z):=fun z U=>by
  rw[List.drop_drop]at U;obtain⟨i,hi,Z,rfl⟩:=Zk (xs:=arrOf st) (lo:=F+nb) (m:=n2-nb) (by rw[Br (by simp;omega)];exact U)
  have:=j3 (nb+i) (by omega) (by omega)
  rw[←Nat.add_assoc,QZ Z,QZ R]at this;exact this
 have T:gl ky a₀ ((arrOf st).extract k F) ((arrOf st).extract F (F+nb)):=by
  refine⟨fun x M=>a0 x ?_,fun x M=>a0 x ?_,?_,?_,fun hb y I=>?_,fun y I h=>?_⟩;rw[ex]at M;exact B9 (B8 M);rw[Y]at M;exact B8 (B9 M);rw[ex];exact Wa P1 k;rw[Y];exact zx P2 nb
  ·rw[ex]at I
   have:=c2 y I
   simpa using this
  ·rw[Y]at I
   have:=c3 y I
   simp only[Array.getElem_extract];rw[show (arrOf st)[k+(((arrOf st).extract k F).size-1)]'(by omega)=(arrOf st)[F-1] by congr 1;omega];exact this
 unfold l7;have a1:∀(r:ArK) Ef,Sg st Ef->Rm ky ((arrOf st).extract k F) ((arrOf st).extract F (F+nb)) r->wpS (model prog w) A E s (do
   modify fun s=>setArr s (r.toList.zipIdx.foldl (fun a x=>a.setIfInBounds (k+x.2) x.1) (arrOf s))
   let s ← get
   pure (failedOf s).isNone) Q Ef:=fun r Ef hg ⟨rp,a7⟩=>by
  obtain⟨g,rfl⟩:=hg;refine AL (B7 (AL (CS ?_)));have rl:r.toList.length=F-k+nb:=by
   have:=rp.length_eq
   rw[Ac,ex,Y]at this;rw[this,←ex,←Y,Ai,Ai,sx,sy]
  have e:(r.toList.zipIdx.foldl (fun a x=>a.setIfInBounds (k+x.2) x.1) (arrOf st)).toList=(arrOf st).toList.take k++(r.toList++((arrOf st).toList.drop F).drop nb):=by
   have:=Jm (sa:=k) r.toList 0 (arrOf st) (by omega)
   rw[Cn,rl,show k+(F-k+nb)=F+nb by omega]at this;rw[this,List.drop_drop]
  have hr:∀z∈r.toList,z∈((arrOf st).toList.take F).drop k∨z∈((arrOf st).toList.drop F).take nb:=fun z U=>by
   have:=rp.mem_iff.mp U
   rw[ex,Y]at this;exact Ab.mp this
  have hp:(r.toList.zipIdx.foldl (fun a x=>a.setIfInBounds (k+x.2) x.1) (arrOf st)).toList.Perm (arrOf st).toList:=by
   rw[e];refine List.Perm.trans (CK _ (List.Perm.append_right _ rp)) ?_;rw[ex,Y,Ah,CL,←Ah]
   have:(arrOf st).toList.take k++((arrOf st).toList.take F).drop k=(arrOf st).toList.take F:=by
    have:=CL k ((arrOf st).toList.take F)
    rwa[List.take_take,Nat.min_eq_left (by omega)]at this
   rw[this,CL]
  have hs:Pw ky (r.toList.zipIdx.foldl (fun a x=>a.setIfInBounds (k+x.2) x.1) (arrOf st)).toList:=by
   rw[e];have p1:=CL k ((arrOf st).toList.take F);rw[List.take_take,Nat.min_eq_left (by omega)]at p1;have a2:=P1;rw[←p1]at a2;obtain⟨q1,q2,q3⟩:=As.mp a2;have a3:=P2;rw[←CL nb ((arrOf st).toList.drop F)]at a3;obtain⟨t1,t2,t3⟩:=As.mp a3;have a4:∀z∈(arrOf st).toList.drop F,O.kle (ky (arrOf st)[F]) (ky z):=fun z U=>by
    have d:=zE q;have pp:=P2;rw[d]at U pp;rcases AJ.mp U with y|y
    ·rw[y];exact BK _
    ·exact (A3.mp pp).1 z y
   have a8:∀z∈(arrOf st).toList.take F,O.kle (ky z) (ky (arrOf st)[F-1]):=fun z U=>by
    have tt:=ZV R;rw[show F-1+1=F by omega]at tt;have pp:=P1;rw[tt]at U pp;rcases Ab.mp U with y|y
    ·exact (As.mp pp).2.2 z y _ (by simp)
    ·rw[AX.mp y];exact BK _
   refine As.mpr ⟨q1,As.mpr ⟨a7,t2,fun x M y I=>?_⟩,fun x M y I=>?_⟩
   ·rcases hr x M with z|z
    ·exact A7 (a8 x (B8 z)) (c4 y I)
    ·exact t3 x z y I
   ·rcases Ab.mp I with z|z
    ·rcases hr y z with v|v
     ·exact q3 x M y v
     ·exact A7 (c1 x M) (a4 y (B9 v))
    ·exact A7 (c1 x M) (a4 y (B8 z))
  have a5:=BF.mpr hp;show wpS _ _ _ _ (pure (failedOf st).isNone) _ _;have hf:(failedOf st).isNone=true:=by rw[B.failed];rfl
  rw[hf];exact AS (h _ (a5.trans B.perm) B.failed B.pend (tT (by rw[a5.size_eq];omega) hs))
 by_cases a6:F-k≤nb;rw[AC a6];exact AL (v6 L T B.kind (by omega) (by omega) a1);rw[AF a6];exact AL (xp L T B.kind (by omega) (by omega) a1)
def sD{F Y p q:Nat}{Q:Bool->SortSt->Prop}(L:WQ prog w A E s ky κ a₀)(B:SX κ a₀ bs 0 #[(0,F,p),(F,Y,q)] st)(hz:F+Y=a₀.size)(h1:0<F)(h2:0<Y)(u1:Up ky (arrOf st) 0 F)(u2:Up ky (arrOf st) F Y)
  (h:∀Ef,(arrOf Ef).Perm a₀->failedOf Ef=none->pendingOf Ef = #[(0,F+Y,p)]->Up ky (arrOf Ef) 0 a₀.size->Q true Ef):wpS (model prog w) A E s (mergeAt' 0) Q st:=by
 show wpS _ _ _ _ (get >>= _) _ _;refine AL (CS ?_);have e0:(pendingOf st)[0]? = some (0,F,p):=by rw[B.pend];rfl
 have e1:(pendingOf st)[0+1]? = some (F,Y,q):=by rw[B.pend];rfl
 have e2:((pendingOf st).setIfInBounds 0 (0,F+Y,p)).eraseIdxIfInBounds (0+1) = #[(0,F+Y,p)]:=by rw[B.pend];simp
 have sz:=B.size;have Z:∀x∈(arrOf st).toList,x∈a₀.toList:=fun x hx=>(BF.mp B.perm).mem_iff.mp hx;have M:F<(arrOf st).size:=by omega
 have I:F-1<(arrOf st).size:=by omega
 dsimp only;rw[e0,e1];dsimp only;rw[e2];refine AL (Q1 ?_);have B':SX κ a₀ bs 0 #[(0,F+Y,p)] (SortSt.mk' (kindOf st) (arrOf st) #[(0,F+Y,p)] (gallopOf st) (failedOf st)):=⟨B.perm,B.kind,B.failed,rfl,B.keep⟩;have U:Up ky (arrOf st) 0 F->Up ky (arrOf st) F Y->O.kle (kk ky (arrOf st) (F-1)) (kk ky (arrOf st) F)->Up ky (arrOf st) 0 a₀.size:=fun a b c i j a1 hj=>by
  rw[Au,Au];by_cases a2:j<F
  ·have:=a i j a1 a2;rwa[Au,Au]at this
  ·by_cases a5:i<F
   ·have t1:=a i (F-1) (by omega) (by omega);have t2:=b 0 (j-F) (by omega) (by omega);rw[Au,Au]at t1;rw[Cn,show F+(j-F)=j by omega]at t2;exact A7 t1 (A7 c t2)
   ·have t2:=b (i-F) (j-F) (by omega) (by omega);rwa[show F+(j-F)=j by omega,show F+(i-F)=i by omega]at t2
 refine AL (QP (AM M) ?_);refine AL (lq (ky:=ky) (st:=SortSt.mk' (kindOf st) (arrOf st) #[(0,F+Y,p)] (gallopOf st) (failedOf st)) L B.kind (wM M Z) Z (show 0+F≤(arrOf st).size by omega) h1 u1 fun k k1 k2 k3=>?_);dsimp only;have R:∀i,i<k->O.kle (kk ky (arrOf st) i) (kk ky (arrOf st) F):=fun i hi=>by have:=k2 i hi;rwa[Au,←QZ (ky:=ky) M]at this
 have a3:∀i,k≤i->i<F->O.klt (kk ky (arrOf st) F) (kk ky (arrOf st) i):=fun i a b=>by have:=k3 i a b;rwa[Au,←QZ (ky:=ky) M]at this
 by_cases hk:F-k=0
 ·rw[AC (by simpa using hk)];exact AS (h _ B.perm B.failed rfl (U u1 u2 (R (F-1) (by omega))))
 ·rw[AF (by simpa using hk)];rw[Au,show k+(F-k)-1=F-1 by omega];refine AL (QP (AM I) ?_);refine AL (lw (ky:=ky) (st:=SortSt.mk' (kindOf st) (arrOf st) #[(0,F+Y,p)] (gallopOf st) (failedOf st)) L B.kind (wM I Z) Z (show F+Y≤(arrOf st).size by omega) (by omega) u2 fun nb j1 j2 j3=>?_);dsimp only;have a4:∀i,i<nb->O.klt (kk ky (arrOf st) (F+i)) (kk ky (arrOf st) (F-1)):=fun i hi=>by have:=j2 i hi;rwa[←QZ (ky:=ky) I]at this
  have a0:∀i,nb≤i->i<Y->O.kle (kk ky (arrOf st) (F-1)) (kk ky (arrOf st) (F+i)):=fun i a b=>by have:=j3 i a b;rwa[←QZ (ky:=ky) I]at this
  by_cases hb:nb=0
  ·rw[AC (by simpa using hb)]
   have:=a0 0 (by omega) (by omega)
   rw[Cn]at this;exact AS (h _ B.perm B.failed rfl (U u1 u2 this))
  ·rw[AF (by simpa using hb)];exact pW L B' hz (by omega) (by omega) j1 u1 u2 R a3 a4 a0 h
end
def sv{n:Nat}(U:2≤n)(h:n<128):∃m,minRun' n n 0=m∧1≤m∧m≤n∧n≤2*m:=by
 obtain⟨f,F⟩:∃f,n=f+2:=⟨n-2,by omega⟩;have e:minRun' (f+1+1) n 0=if n<64 then n+0 else if n/2<64 then n/2+max 0 (n%2) else minRun' f (n/2/2) (max (max 0 (n%2)) (n/2%2)):=by rw[minRun'_succ,minRun'_succ]
 rw[show f+1+1=n by omega]at e;by_cases M:n<64;rw[AC M]at e;exact⟨n,by rw[e];rfl,by omega,by omega,by omega⟩;rw[AF M,AC (by omega)]at e;exact⟨_,e,by omega,by omega,by omega⟩
section
variable{prog:ER}{w:EU}{A:EW}{E:EL->EM->Prop}{s:EM}{O:KeyOrd}{ky:Keyed->O.α}{κ:SortKind}{a₀ bs:EZ Keyed}{st:SortSt}
def ke(ky:Keyed->O.α)(κ:SortKind)(a₀:ArK)(st:SortSt):Prop :=
 ((arrOf st).Perm a₀∧failedOf st=none∧(pendingOf st).size≤1∧Up ky (arrOf st) 0 a₀.size)∨∃n Y p,n+Y=a₀.size∧0<n∧0<Y∧SX κ a₀ (arrOf st) 0 #[(0,n,p),(n,Y,0)] st∧Up ky (arrOf st) 0 n∧Up ky (arrOf st) n Y
def nq{xs M:EZ Keyed}{k:Nat}(e:xs[k]? = M[k]?):kk ky xs k=kk ky M k:=by unfold kk;rw[Ap,Ap,e]
def ut{Q:Unit->SortSt->Prop}(L:WQ prog w A E s ky κ a₀)(B:SX κ a₀ bs 0 #[] st)(h2:2≤a₀.size)(h8:a₀.size<128)
  (h:∀Ef,(arrOf Ef).Perm a₀->failedOf Ef=none->Up ky (arrOf Ef) 0 a₀.size->Q () Ef):wpS (model prog w) A E s sortRuns' Q st:=by
 obtain⟨mr,a0,m1,m2,m3⟩:=sv h2 h8;rw[sortRuns'_eq];refine AL (CS ?_);dsimp only;simp only[B.size,a0];refine AL (Bk (BH
  (I:=fun x c Ef=>(x=0∧c=(none,0)∧SX κ a₀ bs 0 #[] Ef)∨(x=1∧∃n,c=(none,n)∧mr≤n∧n≤a₀.size∧SX κ a₀ (arrOf Ef) n #[(0,n,0)] Ef∧Up ky (arrOf Ef) 0 n)∨(c=(none,a₀.size)∧ke ky κ a₀ Ef))
  (Q:=fun c Ef=>c=(none,a₀.size)∧ke ky κ a₀ Ef) ?step ?fin (.inl ⟨rfl,rfl,B⟩)) ?post)
 case fin =>
  rintro c Ef (⟨hx,_,_⟩|⟨hx,_⟩|k);omega;omega;exact k
 case step =>
  rintro x c Ef _ hx (⟨rfl,rfl,B1⟩|⟨rfl,n,rfl,n1,n2,B1,u1⟩|⟨rfl,k⟩)
  ·dsimp only;rw[AF (by omega)];rw[Nat.sub_zero];refine AL (oR L B1 (by omega) (by omega) fun m Y R a1 a2 a3=>?_);dsimp only;have go:∀U n,mr≤n->n≤a₀.size->SX κ a₀ bs 0 #[] U->Up ky (arrOf U) 0 n->(1=1∧∃k,((none:EO Unit),0+n)=(none,k)∧mr≤k∧k≤a₀.size∧SX κ a₀ (arrOf (setPending U ((pendingOf U).push (0,n,0)))) k #[(0,k,0)] (setPending U ((pendingOf U).push (0,n,0)))∧Up ky (arrOf (setPending U ((pendingOf U).push (0,n,0)))) 0 k):=fun U n q1 q2 F u =>
    ⟨rfl,n,by rw[Au],q1,q2,⟨F.perm,F.kind,F.failed,by show (pendingOf U).push _=_;rw[F.pend];rfl,fun _ _=>rfl⟩,u⟩
   by_cases q:m<mr
   ·rw[AC q];refine AL (C8 (BM ⟨rfl,?_⟩));rw[show min a₀.size mr=mr by omega];refine AL (oE L R (by omega) a1 (by omega) a3 fun U F u3=>?_);rw[AF (show ¬((!true)=true) by decide)];refine AL (CS ?_);have hb:(pendingOf U).back? = none:=by rw[F.pend];rfl
    rw[hb];dsimp only;exact AL (B7 (AS (.inr (.inl (go U mr (AN _) m2 F u3)))))
   ·rw[AF q];refine AL (CS ?_);have hb:(pendingOf Y).back? = none:=by rw[R.pend];rfl
    rw[hb];dsimp only;exact AL (B7 (AS (.inr (.inl (go Y m (by omega) a2 R a3)))))
  ·dsimp only;by_cases hl:n≥a₀.size
   ·rw[AC hl];have hn:n=a₀.size:=by omega
    subst hn;exact AS ⟨rfl,.inl ⟨B1.perm,B1.failed,by rw[B1.pend];exact AN 1,u1⟩⟩
   ·rw[AF hl];refine AL (oR L B1 (by omega) (by omega) fun m Y R a1 a2 a3=>?_);dsimp only;have res:∀U M p,SX κ a₀ (arrOf Ef) n #[(0,n,0)] U->Up ky (arrOf U) n (a₀.size-n)->arrOf M=arrOf U->kindOf M=kindOf U->failedOf M=failedOf U->pendingOf M = #[(0,n,p),(n,a₀.size-n,0)]->ke ky κ a₀ M:=fun U M p F u3 e1 e2 e3 e4 =>
     .inr ⟨n,a₀.size-n,p,by omega,by omega,by omega,⟨by rw[e1];exact F.perm,by rw[e2];exact F.kind,by rw[e3];exact F.failed,e4,fun _ _=>rfl⟩,fun i j a4 hj=>by
      rw[Au,Au,e1,nq (F.keep i (by omega)),nq (F.keep j (by omega))]
      have:=u1 i j a4 hj
      rwa[Au,Au]at this,by rw[e1];exact u3⟩
    by_cases q:m<mr
    ·rw[AC q];refine AL (C8 (BM ⟨rfl,?_⟩));rw[show min (a₀.size-n) mr=a₀.size-n by omega];refine AL (oE L R (by omega) a1 (by omega) a3 fun U F u3=>?_);rw[AF (show ¬((!true)=true) by decide)];refine AL (CS ?_);have hb:(pendingOf U).back? = some (0,n,0):=by rw[F.pend];rfl
     rw[hb];dsimp only;refine AL (Bk (BH (I:=fun _ c Z=>Z=U∧c=(none,())) (Q:=fun c Z=>Z=U∧c=(none,())) ?_ (fun _ _ hh=>hh) ⟨rfl,rfl⟩) ?_)
     ·rintro x c Z _ _ ⟨rfl,rfl⟩;refine AL (CS ?_);have hs:¬(pendingOf Z).size>1:=by rw[F.pend];simp
      rw[AF hs];exact AS ⟨rfl,rfl⟩
     ·rintro c Z ⟨rfl,rfl⟩;dsimp only;refine AL (B7 (AL (B7 (AS (.inr (.inr ⟨by rw[show n+(a₀.size-n)=a₀.size by omega],res Z _ (power' a₀.size (2*0+n) (2*0+n+n+(a₀.size-n)) a₀.size) F u3 rfl rfl rfl ?_⟩))))));show (((pendingOf Z).modify ((pendingOf Z).size-1) _).push _)=_;rw[F.pend];rfl
    ·rw[AF q];have hm:m=a₀.size-n:=by omega
     subst hm;refine AL (CS ?_);have hb:(pendingOf Y).back? = some (0,n,0):=by rw[R.pend];rfl
     rw[hb];dsimp only;refine AL (Bk (BH (I:=fun _ c Z=>Z=Y∧c=(none,())) (Q:=fun c Z=>Z=Y∧c=(none,())) ?_ (fun _ _ hh=>hh) ⟨rfl,rfl⟩) ?_)
     ·rintro x c Z _ _ ⟨rfl,rfl⟩;refine AL (CS ?_);have hs:¬(pendingOf Z).size>1:=by rw[R.pend];simp
      rw[AF hs];exact AS ⟨rfl,rfl⟩
     ·rintro c Z ⟨rfl,rfl⟩;dsimp only;refine AL (B7 (AL (B7 (AS (.inr (.inr ⟨by rw[show n+(a₀.size-n)=a₀.size by omega],res Z _ (power' a₀.size (2*0+n) (2*0+n+n+(a₀.size-n)) a₀.size) R a3 rfl rfl rfl ?_⟩))))));show (((pendingOf Z).modify ((pendingOf Z).size-1) _).push _)=_;rw[R.pend];rfl
  ·dsimp only;rw[AC (AN _)];exact AS ⟨rfl,k⟩
 case post =>
  rintro c Ef ⟨rfl,k⟩;dsimp only;refine AL (Bk (BH (I:=fun x c Z=>c=(none,())∧((x=0∧ke ky κ a₀ Z)∨((arrOf Z).Perm a₀∧failedOf Z=none∧(pendingOf Z).size≤1∧Up ky (arrOf Z) 0 a₀.size))) (Q:=fun c Z=>c=(none,())∧(arrOf Z).Perm a₀∧failedOf Z=none∧Up ky (arrOf Z) 0 a₀.size) ?_ ?_ ⟨rfl,.inl ⟨rfl,k⟩⟩) ?_)
  ·rintro x c Z _ _ ⟨rfl,k⟩;refine AL (CS ?_);have one:(arrOf Z).Perm a₀∧failedOf Z=none∧(pendingOf Z).size≤1∧Up ky (arrOf Z) 0 a₀.size∨∃n n2 p,n+n2=a₀.size∧0<n∧0<n2∧SX κ a₀ (arrOf Z) 0 #[(0,n,p),(n,n2,0)] Z∧Up ky (arrOf Z) 0 n∧Up ky (arrOf Z) n n2:=k.elim (fun k=>k.2) .inl;rcases one with⟨q1,q2,q3,q4⟩|⟨n,n2,p,q1,q2,q3,R,u,u2⟩
   ·rw[AC q3];exact AS ⟨rfl,q1,q2,q4⟩
   ·have hs:(pendingOf Z).size=2:=by rw[R.pend];rfl
    rw[AF (by omega)];rw[hs,AF (show ¬(2-2>0) by decide)];refine AL (sD L R q1 q2 q3 u u2 fun U r1 r2 r3 r4=>?_);rw[AF (show ¬((!true)=true) by decide)];exact AS ⟨rfl,.inr ⟨r1,r2,by rw[r3];exact AN 1,r4⟩⟩
  ·rintro c Z ⟨rfl,⟨z,_⟩|⟨q1,q2,q3,q4⟩⟩;omega;exact⟨rfl,q1,q2,q4⟩
  ·rintro c Z ⟨rfl,q1,q2,q3⟩;exact AS (h _ q1 q2 q3)
end
end ES
end
section
namespace ET
open PySem PySem.Spec PyProof.Rows L2 EX PySem.W ES
def sE{α β:Type}(g:α->β){l₁ l₂:EK β}(p:l₁.Perm l₂):∀m:EK α,l₂=m.map g->∃I:EK α,I.Perm m∧l₁=I.map g:=by
 induction p with
 |nil =>
  intro m e;cases m with|nil=>exact⟨[],.refl _,rfl⟩|cons _ _=>cases e
 |cons x _ M =>
  intro m e;cases m with|nil=>cases e|cons a m=>rw[AU]at e;obtain⟨Z,R⟩:=List.cons.inj e;obtain⟨I,Y,U⟩:=M m R;exact⟨a::I,Y.cons _,by rw[AU,Z,U]⟩
 |swap x y l =>
  intro m e;cases m with
  |nil=>cases e
  |cons a m =>
   cases m with|nil=>cases e|cons b m=>rw[AU,AU]at e;obtain⟨Z,R⟩:=List.cons.inj e;obtain⟨R,q⟩:=List.cons.inj R;exact⟨b::a::m,.swap _ _ _,by rw[AU,AU,Z,R,q]⟩
 |trans _ _ F L=>intro m e;obtain⟨m1,Y,U⟩:=L m e;obtain⟨m2,h3,h4⟩:=F m1 U;exact⟨m2,h3.trans Y,h4⟩
section
variable{prog:ER}{w:EU}{A:EW}{E:EL->EM->Prop}{s:EM}{O:KeyOrd}
open Classical in
noncomputable def iI(vs:EK EL)(Ek:Nat->O.α)(x:Keyed):O.α:=if h:∃i,i<vs.length∧vs.getD i Value.none=x.1 then Ek (choose h) else Ek 0
def kL{vs:EK EL}{Ek:Nat->O.α}(L:∀i j,i<vs.length->j<vs.length->vs.getD i Value.none=vs.getD j Value.none->Ek i=Ek j){i:Nat}(hi:i<vs.length)(y:EL):iI vs Ek (vs.getD i Value.none,y)=Ek i:=by unfold iI;have h:∃j,j<vs.length∧vs.getD j Value.none=(vs.getD i Value.none,y).1:=⟨i,hi,rfl⟩;rw[dif_pos h];exact L _ _ (Classical.choose_spec h).1 hi (Classical.choose_spec h).2
def u9{vs:EK EL}{Ek:Nat->O.α}{κ:SortKind}(h2:2≤vs.length)(h8:vs.length<128)(q:∀i j,i<vs.length->j<vs.length->vs.getD i Value.none=vs.getD j Value.none->Ek i=Ek j)
  (hc:∀(i j:Nat) (C:Bool->EM->Prop),i<vs.length->j<vs.length->C (O.blt (Ek i) (Ek j)) s->wpAny (model prog w) A (keyLt' κ (vs.getD i Value.none) (vs.getD j Value.none)) C (fun _ _=>False) s):YK prog w A E κ vs Ek s:=by
 have hl:(vs.toArray.zip vs.toArray).toList=(List.range vs.length).map (kas_item (vs.toArray.zip vs.toArray)):=by have e:=A5 Array.toList (kas_range (vs.toArray.zip vs.toArray));have sz:(vs.toArray.zip vs.toArray).size=vs.length:=pairsOf_size vs;rw[sz]at e;rw[←e];simp
 have it:∀i,kas_item (vs.toArray.zip vs.toArray) i=(vs.getD i Value.none,vs.getD i Value.none):=kas_item_eq vs;have sz:(vs.toArray.zip vs.toArray).size=vs.length:=pairsOf_size vs;have L:WQ prog w A E s (iI vs Ek) κ (vs.toArray.zip vs.toArray):=fun x y st R hx hy I Y=>by rw[hl]at hx hy;obtain⟨i,hi,rfl⟩:=An.mp hx;obtain⟨j,F,rfl⟩:=An.mp hy;have hi:=Bg.mp hi;have F:=Bg.mp F;rw[it,it]at Y ⊢;rw[kL q hi,kL q F]at Y;rw[lt'_eq];refine AL (CS ?_);rw[I];refine AL (C8 (Bt (Bb (hc i j (fun b U=>U=s∧b=O.blt (Ek i) (Ek j)) hi F ⟨rfl,rfl⟩) (fun b U h=>?_) fun _ _ z=>z.elim)));obtain⟨rfl,rfl⟩:=h;exact⟨rfl,AS Y⟩
 refine Bb (ut (s:=s) L (bs := #[]) (st:=SortSt.mk' κ (vs.toArray.zip vs.toArray) #[] 7 none) ⟨Array.Perm.refl _,rfl,rfl,rfl,fun k I=>absurd I (B6 k)⟩ (by omega) (by omega) (Q:=fun _ Z=>(arrOf Z).Perm (vs.toArray.zip vs.toArray)∧failedOf Z=none∧Up (iI vs Ek) (arrOf Z) 0 (vs.toArray.zip vs.toArray).size) fun Z a b c=>⟨a,b,c⟩) (fun r U h=>?_) fun _ _ z=>z;obtain⟨rfl,p1,p2,p3⟩:=h;obtain⟨m,m1,m2⟩:=sE _ (BF.mp p1) _ hl;have ms:m.length=vs.length:=by rw[m1.length_eq,List.length_range]
 have mm:∀i∈m,i<vs.length:=fun i hi=>Bg.mp (m1.mem_iff.mp hi);have ar:arrOf r.2=m.toArray.map (kas_item (vs.toArray.zip vs.toArray)):=by apply Array.toList_inj.mp;rw[m2];simp
 refine⟨m.toArray,by simp[ms],ar,p2,rfl,⟨by rw[BF];exact m1⟩,fun i j a0 F=>?_⟩
 have:=p3 i j a0 (by rw[sz];exact F)
 rw[Au,Au]at this;have at_:∀k,k<vs.length->kk (iI vs Ek) (arrOf r.2) k=kq Ek m.toArray k:=fun k I=>by
  have M:k<m.length:=by omega
  have a1:=mm m[k] (List.getElem_mem M);unfold kk kq;rw[ar,Ap,Array.getElem?_map,Ap,List.getElem?_toArray,AE M];show iI vs Ek (kas_item (vs.toArray.zip vs.toArray) m[k])=Ek m[k];rw[it,kL q a1]
 rw[at_ i (by omega),at_ j F]at this;exact this
end
end ET
end
section
namespace EV
open PySem PySem.Spec PyProof.Rows L2 EX ET PySem.W
def io(K:EQ)(H:Hp)(x:V)(ks:EK Int):Prop:=∃a c k t,x= .ref a∧fC K H a [.int t,.ref c]∧fC K H c (k.map V.int)∧ks=t::k
section
variable{X:Cx}{Ee:EK (EN×Obj)}{σ:L2.St}{H:Hp}{s:EM}
def rT{A:EW}{E:EL->EM->Prop}(I:L2.Inv X Ee σ H s)(hu:A.units+8<cLine){x y:V}{ks R:EK Int}{ux uy:EL}(hx:io X.K H x ks)(hy:io X.K H y R)(rx:RelV x ux)(ry:RelV y uy){Q:Bool->EM->Prop}(h:Q (fw ks R) s):wpAny (model X.prog X.w) A (keyLt' (tuples' true) ux uy) Q E s:=by
 obtain⟨a,c,k,t,rfl,h1,h2,rfl⟩:=hx;obtain⟨a',c',Z,M,rfl,g1,g2,rfl⟩:=hy;cases rx;cases ry;obtain⟨Eg,rv,⟨o,o1,o2,n,o3⟩,_⟩:=I.tuple h1;obtain⟨a0,U,⟨o',p1,p2,n',p3⟩,_⟩:=I.tuple g1;obtain⟨u1,u2,rfl,r1,r2⟩:=Zh rv;obtain⟨a1,a2,rfl,F,Y⟩:=Zh U;cases r2;cases Y;obtain⟨tk,rfl⟩:=r1;obtain⟨L,rfl⟩:=F;refine kat_lt o1 o3 p1 p3 ?_;show KatLex X.prog X.w A true false Q [(.int t tk,.int M L),(.ref c,.ref c')] 0 s;refine kat_cons ((intKind X.prog X.w).eqBool (Cq X.prog X.w t tk) (Cq X.prog X.w M L) ?_);unfold fw at h;by_cases ht:t=M
 ·rw[Af ht];rw[AF (by omega),AF (by omega)]at h;refine kat_yes (kat_cons (wpAny_eqBool_tuple (by omega) (kz I h2) (kz I g2) ?_));by_cases q:k=Z;rw[Af q];subst q;rw[Wd]at h;exact kat_yes (kat_nil h)
  ·rw[Ak q];refine kat_no (kat_one _ _ ?_);have hw:∀{c:EN} {k:EK Int},fC X.K H c (k.map V.int)->RW X.K H (iW k) (.ref c):=fun {c k} z=>by unfold iW RW;exact⟨c,_,rfl,z,J9 k⟩
   exact k7 I 2 (iW k) (iW Z) A (by unfold iW;rw[fA,J3];decide) (by omega) (hw h2) (hw g2) rfl rfl (yf k Z) _ _ _ _ h
 ·rw[Ak ht];refine kat_no (sd _ ?_);by_cases hl:t<M;rw[AC hl]at h;rw[Af hl];exact h;rw[AF hl,AC (by omega)]at h;rw[Ak hl];exact h
def sR(I:L2.Inv X Ee σ H s){x y:V}{ks R:EK Int}{u:EL}(L:io X.K H x ks)(hy:io X.K H y R)(rx:RelV x u)(ry:RelV y u):ks=R:=by obtain⟨a,c,k,t,rfl,h1,h2,rfl⟩:=L;obtain⟨a',c',k',t',rfl,g1,g2,rfl⟩:=hy;cases rx;cases ry;obtain⟨Eg,rv,⟨o,o1,o2,n,o3⟩,_⟩:=I.tuple h1;obtain⟨q,U,⟨o',M,p2,n',Z⟩,_⟩:=I.tuple g1;rw[o1]at M;cases M;rw[o3]at Z;injection Z with Z _;obtain⟨u1,u2,rfl,r1,r2⟩:=Zh rv;obtain⟨a0,a1,rfl,F,Y⟩:=Zh U;have Z:=A5 Array.toList Z;injection Z with e1 e2;injection e2 with e2 _;cases r2;cases Y;obtain⟨tk,rfl⟩:=r1;obtain⟨a2,rfl⟩:=F;injection e1 with e1 _;injection e2 with e2;subst e1;subst e2;rw[(kz I h2).inj (kz I g2)]
inductive gQ (K:W.Frag) (H:Hp):List V->List (List Int)->Prop
 |nil:gQ K H [] []
 |cons {x:V} {ks:List Int} {xs:List V} {Er:List (List Int)}:io K H x ks->gQ K H xs Er->gQ K H (x::xs) (ks::Er)
def gQ.len{K:EQ}{xs:EK V}{Er:EK (EK Int)}(h:gQ K H xs Er):xs.length=Er.length:=by
 induction h with|nil=>rfl|cons _ _ I=>rw[Aa,Aa,I]
def gQ.get{K:EQ}{xs:EK V}{Er:EK (EK Int)}(h:gQ K H xs Er):∀{i:Nat},i<xs.length->io K H (xs.getD i .non) (Er.getD i []):=by
 induction h with
 |nil=>intro i hi;exact absurd hi (B6 _)
 |cons a _ I =>
  intro i hi;cases i with|zero=>exact a|succ i=>simpa using I (i:=i) (by simpa using hi)
def DK{A:EW}{E:EL->EM->Prop}(I:L2.Inv X Ee σ H s){xs:EK V}{Er:EK (EK Int)}(T:gQ X.K H xs Er){Eg:EK EL}(F:ei xs Eg)(U:2≤Eg.length){Q:SortKind->EM->Prop}(h:Q (tuples' true) s):wpAny (model X.prog X.w) A (keyKind' Eg.toArray) Q E s:=by
 obtain⟨fs,Z,f2,q⟩:∃fs:EK EL,KatTups s.heap Eg fs∧fs.length=Eg.length∧∀v∈fs,∃n t,v=Value.int n t:=by
  clear U;induction T generalizing Eg with
  |nil=>cases F;exact⟨[],KatTups.nil,rfl,fun v L=>(Ae L).elim⟩
  | @cons x ks xs Er a _ R =>
   cases F with
   | @cons _ u _ us r1 r2 =>
    obtain⟨fs,g1,g2,g3⟩:=R r2;obtain⟨ad,c,k,t,rfl,h1,U,rfl⟩:=a;cases r1;obtain⟨Y,M,⟨o,o1,o2,n,o3⟩,_⟩:=I.tuple h1;obtain⟨u1,u2,rfl,q1,q2⟩:=Zh M;obtain⟨tk,rfl⟩:=q1;refine⟨.int t tk::fs,KatTups.cons o1 o2 o3 rfl g1,by rw[Aa,Aa,g2],fun v L=>?_⟩;rcases AJ.mp L with z|z
    ·exact⟨_,_,z⟩
    ·exact g3 v z
 refine kat_kind (T:=.type "int") Z (by omega) (fun v L=>?_) (by decide) ?_;obtain⟨n,t,rfl⟩:=q v L;exact .now;rw[show (Value.type "int" != Value.type "tuple")=true by decide];exact h
end
section
variable{X:Cx}{e:EY}{te:TE}{p pos:Pos}
def vo(K:EQ)(te:TE):TE:=fun σ H Q=>te σ H fun x H1=>∃a xs Er,x= .ref a∧(fm K H1 a xs∨fC K H1 a xs)∧gQ K H1 xs Er∧Er.length<128∧∀p (L:EK Nat),H1 p=none->(∀i∈L,i<xs.length)->L.map (fun i=>Er.getD i [])=gf Er->Q (.ref p) (eN H1 p (.lst (L.map fun i=>xs.getD i .non)))
def r9(hu:X.A.units+64<cLine)(hg:Gl X "sorted")(hm:X.mg "sorted" = none)(he:PE X e te)(h1:starEach [e] X.env=(false,eval e X.env)::starEach [] X.env:=by rfl) :
  PE X (.Call (.Name "sorted" p) [e] [] pos) (vo X.K te):=by
 intro Ee s σ H Q I h;refine Be (Wq I hg hm PyProof.Rows.boot_sorted ?_ (by decide) (by decide));refine PyProof.Rows.callWith_builtin1 ?_ h1 rfl;rw[h1];show wpAny _ _ (spliced ((false,eval e X.env)::[])) _ _ s;refine Cb (eK (he Ee s σ H _ I h) fun u s1 ⟨x,H1,R,r1,q1⟩=>Ch ?_);obtain⟨a,xs,Er,rfl,hq,T,h8,q⟩:=q1;cases r1;obtain⟨Eg,L,Z⟩:∃Eg,ei xs Eg∧(Eg.length<128->∀{U:EL->EM->Prop} {Y:EK EL->EM->Prop},Y Eg { s1 with heap:=(s1.heap.push (seqObj "list" #[] 0)).update s1.heap.objs.size (Obj.mapSeq (· ++ Eg.toArray)) }->wpAny (model X.prog X.w) X.A.in1 (collect (.ref a)) Y U s1):=by
  rcases hq with hq|hq
  ·obtain⟨Eg,L,ht,_⟩:=R.list hq;exact⟨Eg,L,fun h _ _ q=>collect_list ht.isList q (by rw[Cf];omega)⟩
  ·obtain⟨Eg,L,ht,_⟩:=R.tuple hq;exact⟨Eg,L,fun h _ _ q=>Je ht (by rw[Cf];omega) q⟩
 have hl:xs.length=Eg.length:=L.length;have hk:=T.len;refine xA (O:=iy) (Ek:=fun i=>Er.getD i []) (κ:=tuples' true) (s:=s1) (vs:=Eg) (Z (by omega)) (by omega) (fun h2 A' U M Y k q'=>DK (s:={ s1 with heap:=M }) (R.kept (h':=M) (t':=s1.toks) k) T L h2 q') (fun h2 U M k=>?_) fun pp B S=>?_
 ·have I6:=R.kept (h':=M) (t':=s1.toks) k;exact u9 (s:={ s1 with heap:=M }) h2 (by omega) (fun i j hi hj e=>sR I6 (T.get (by omega)) (T.get (by omega)) (W7 L hi) (by rw[e];exact W7 L hj)) fun i j C hi hj q' =>
   rT (s:={ s1 with heap:=M }) I6 (by show X.A.units+2+8<cLine;omega) (T.get (by omega)) (T.get (by omega)) (W7 L hi) (W7 L hj) q'
 ·have keep:∀b o,s1.heap.get? b=some o->(sortedAll s1.heap Eg (List.toArray (pp.toList.map fun i=>Eg.getD i Value.none))).get? b=some o:=fun b o hb=>sortedAll_old hb;have a0:=Yk L pp.toList B.mem;obtain⟨e',a1⟩:=sortedAll_at s1.heap Eg (List.toArray (pp.toList.map fun i=>Eg.getD i Value.none));have F:(pp.toList.map fun i=>xs.getD i V.non).length≤sizeLine:=by rw[AG,Ai,B.size,Cf];omega
  exact⟨.ref (s1.heap.objs.size+1),_,R.laid (t':=s1.toks) (o:=.lst (pp.toList.map fun i=>xs.getD i V.non)) keep (Nat.le_succ _) ⟨F,_,e',a0,a1⟩,rfl,q _ pp.toList (R.hok.fresh (Nat.le_succ _)) (fun i hi=>by rw[hl];exact B.mem i hi) (Dw (by omega) B S)⟩
end
def hU:PV->EO (EK Int)| .tup [.int t,.tup l]=>(Q2 YY l).map (t :: ·)|_=>none
def gB(ks:EK Int):PV:=.tup [.int (ks.headD 0),.tup (ks.tail.map PV.int)]
def vt{K:EQ}{H:Hp}{b:Bz}{p:PV}{v:V}{ks:EK Int}(r:RV K H b p v)(h:hU p=some ks):io K H v ks∧RV K H b (gB ks) v:=by
 unfold hU at h;split at h
 ·rename_i t l;cases R:Q2 YY l with|none=>rw[R]at h;cases h|some k=>rw[R]at h;cases h;unfold RV at r;obtain⟨a,xs,rfl,U,F⟩:=r;unfold ee at F;obtain⟨x,xs,rfl,q,I⟩:=F;unfold ee at I;obtain⟨y,ys,rfl,M,Y⟩:=I;unfold ee at Y;subst Y;unfold RV at q;subst q;unfold RV at M;obtain⟨c,zs,rfl,L,Z⟩:=M;have e:=yV Z R;subst e;refine⟨⟨a,c,k,t,rfl,U.sq,L.sq,rfl⟩,?_⟩;show RV K H b (.tup [.int t,.tup (k.map PV.int)]) (.ref a);unfold RV;exact⟨a,_,rfl,U,ee.cons (by unfold RV;rfl) (ee.cons (by unfold RV;exact⟨c,_,rfl,L,W9 k⟩) ee.nil)⟩
 ·cases h
def lU{K:EQ}{H:Hp}{b:Bz}:∀{l:EK PV} {xs:EK V} {Er:EK (EK Int)},ee K H b l xs->Q2 hU l=some Er->gQ K H xs Er∧∀i,i<xs.length->RV K H b (gB (Er.getD i [])) (xs.getD i .non)
 |[],xs,Er,r,h=>by unfold ee at r;subst r;cases h;exact⟨.nil,fun i hi=>absurd hi (B6 _)⟩
 |p::l,xs,Er,r,h=>by
  unfold ee at r;obtain⟨x,t,rfl,U,F⟩:=r;unfold Q2 at h;cases Z:hU p with
  |none=>rw[Z]at h;cases h
  |some ks =>
   rw[Z]at h;dsimp only at h;cases R:Q2 hU l with
   |none=>rw[R]at h;cases h
   |some L =>
    rw[R]at h;cases h;obtain⟨q,I⟩:=vt U Z;obtain⟨M,Y⟩:=lU F R;refine⟨.cons q M,fun i hi=>?_⟩;cases i with|zero=>exact I|succ i=>simpa using Y i (by simpa using hi)
def Y4{K:EQ}{H:Hp}{b:Bz}{xs:EK V}{Er:EK (EK Int)}(h:∀i,i<xs.length->RV K H b (gB (Er.getD i [])) (xs.getD i .non)):∀{L:EK Nat},(∀i∈L,i<xs.length)->ee K H b ((L.map fun i=>Er.getD i []).map gB) (L.map fun i=>xs.getD i .non)|[],_=>ee.nil|i::L,R=>by rw[AU,AU,AU];exact ee.cons (h i (R i AT)) (Y4 h fun j F=>R j (AO _ F))
def jD:PV->qC->Rs PV:=fun q st=>match WN st q with
 |some l=>match Q2 hU l with|some Er=>if Er.length<128 then .ok (.lst ((gf Er).map gB)) st else .no|none=>.no
 |none=>.no
def Zs(f:FE):FE:=fun r st=>(f r st).bind jD
def tI{X:Cx}{E:XK}{e:EY}{f:FE}{p pos:Pos}(U:X.A.units+64<cLine)(F:X.mg "sorted" = none)(h:VE X E e f)(Y:Gl X "sorted" :=by rfl)(h1:starEach [e] X.env=(false,eval e X.env)::starEach [] X.env:=by rfl) :
  VE X E (.Call (.Name "sorted" p) [e] [] pos) (Zs f) :=
 PE.imp (r9 U Y F h h1) fun s H Q ⟨b,r,st,S,R,P⟩=>⟨b,r,st,S,R,ed.bind P fun q s1 u H1 b1 e1 M r1 I=>by
  unfold jD at I;split at I
  ·rename_i l el;split at I
   ·rename_i Er ek;split at I;rename_i hn;obtain⟨x,xs,rfl,h2,h3⟩:=yX M r1 el;obtain⟨T,hr⟩:=lU h3 ek;exact⟨x,xs,Er,rfl,h2,T,hn,fun p L hp Z hL=>eH.lay (eH.of (r:=.ok ((gf Er).map gB) s1) I) M (by rw[←hL];exact Y4 hr Z) hp⟩;exact I.elim
   ·exact I.elim
  ·exact I.elim⟩
end EV
end
noncomputable section
namespace K86
open PySem PySem.Spec PyProof.Rows L2 EX EV
structure Ad where
 (Z0 Z1 Z2 Z3 Z4 Z5 Z6 Z7 Z8 Z9 Z10 Z11:Addr)
 (is_whole is_whole_within are_wholes is_rising need_number is_sort are_sorts need_line line_ways cheapest_lines cheapest_line law_cell law_box law_take law_kind law_same law_sorts law_no_sorts law_no_cells law_least law_all law_asked law:Addr)
def gk:EK ((String×String)×Bool):=[(("NoneType","int"),false),(("NoneType","bool"),false),(("NoneType","tuple"),false),(("NoneType","list"),false),(("int","int"),true),(("int","bool"),false),(("int","tuple"),false),(("int","list"),false),(("bool","int"),true),(("bool","bool"),true),(("bool","tuple"),false),(("bool","list"),false),(("str","int"),false),(("str","bool"),false),(("str","tuple"),false),(("str","list"),false),(("tuple","int"),false),(("tuple","bool"),false),(("tuple","tuple"),true),(("tuple","list"),false),(("list","int"),false),(("list","bool"),false),(("list","tuple"),false),(("list","list"),true),(("dict","int"),false),(("dict","bool"),false),(("dict","tuple"),false),(("dict","list"),false)]
def mq(s T:String):EO Bool:=gk.lookup (s,T)
def Ad.kinds(a:Ad):EK EN:=[a.Z1,a.Z2,a.Z3,a.Z4,a.Z5,a.Z6,a.Z7,a.Z8,a.Z9,a.Z10,a.Z11]
def e9(a:Ad):Prop:=a.kinds.Nodup∧a.line_ways≠a.cheapest_line
instance (a:Ad):Decidable (e9 a):=by unfold e9;infer_instance
def e9.nd{a:Ad}(h:e9 a):a.kinds.Nodup:=h.1
def Qb(a:Ad):EK EN:=[a.Z6,a.Z2]
def kit(a:Ad):EL->EL->EO Bool| .type s,.type T=>mq s T| .ref x,.ref d=>if x∈Qb a∧d∈a.kinds then some (x==d) else none| .ref x,.type T=>if x∈Qb a∧T = "ValueError" then some true else none|_,_=>none
def fV(i:Nat):Stmt:=PySem.Challenge.pw_barfloors_k86_lines_filled.main.body.getD i (.Pass ⟨0,0,0,0⟩)
abbrev WA:Stmt:=fV 14
abbrev QK:Stmt:=fV 15
abbrev wJ:Stmt:=fV 16
abbrev wj:Stmt:=fV 17
abbrev Ql:Stmt:=fV 18
abbrev WR:Stmt:=fV 24
abbrev Q7:Stmt:=fV 25
abbrev Q5:Stmt:=fV 26
abbrev Q9:Stmt:=fV 27
abbrev QB:Stmt:=fV 28
abbrev Qe:Stmt:=fV 29
abbrev w6:Stmt:=fV 31
abbrev WS:Stmt:=fV 32
abbrev w5:Stmt:=fV 33
abbrev w8:Stmt:=fV 34
abbrev wa:Stmt:=fV 35
abbrev wA:Stmt:=fV 36
abbrev QV:Stmt:=fV 37
abbrev Qo:Stmt:=fV 38
abbrev Q4:Stmt:=fV 39
abbrev wy:Stmt:=fV 40
abbrev wB:Stmt:=fV 41
abbrev zW:Stmt:=fV 42
def yw(a:Ad):FS:=(qt (ZN (qI (QX (kit a)) (qA (qB 0) (qA (vC (.ty "int")) qD))) (oV (qI (QX (kit a)) (qA (qB 0) (qA (vC (.ty "bool")) qD))))))
def zQ(a:Ad):EK PV->qC->Rs PV:=QD 1 1 (yw a)
def wt(a:Ad):FS:=(qt (ZN (qI (zQ a) (qA (qB 0) qD)) (WJ gLe gLe (qB 1) (qB 0) (qB 2))))
def wu(a:Ad):EK PV->qC->Rs PV:=QD 3 3 (wt a)
def Zc(a:Ad):FS:=(qt (ZN (qI (QX (kit a)) (qA (qB 0) (qA (vC (.ty "tuple")) qD))) (ZN (WJ gLe gLe (qB 1) (qI Wp (qA (qB 0) qD)) (qB 2)) (qI Z2 (qA (eM (qr [] 1 (q9 (qB 0)) (qw 0) [] [] (qI (zQ a) (qA (qB 0) qD)))) qD)))))
def zL(a:Ad):EK PV->qC->Rs PV:=QD 3 3 (Zc a)
def yC(a:Ad):FS:=(qt (qI Z2 (qA (eM (qr [0] 1 (yF (qA (vC (.int 1)) (qA (qI Wp (qA (qB 0) qD)) qD))) (qw 1) [] [] (qK gLt (qK eL (qB 0) (qK zT (qB 1) (vC (.int 1)))) (qK eL (qB 0) (qB 1))))) qD)))
def zq(a:Ad):EK PV->qC->Rs PV:=QD 1 1 (yC a)
def Wt(a:Ad):FS:=(Qs (zB (wn (qI (wu a) (qA (qB 0) (qA (qB 1) (qA (qB 2) qD)))))) (yW a.Z2 (qA (vJ [(vC (.str "a whole number from ")),(kH (qB 1)),(vC (.str " to ")),(kH (qB 2)),(vC (.str " is wanted"))] Str.empty) qD)) Qh)
def WB(a:Ad):EK PV->qC->Rs PV:=QD 3 3 (Wt a)
def Yf(a:Ad):FS:=(qt (ZN (qI (zL a) (qA (qB 0) (qA (vC (.int 2)) (qA (vC (.int 2)) qD)))) (ZN (WJ gLe gLe (vC (.int 1)) (qK eL (qB 0) (vC (.int 0))) (vC (.int 9))) (WJ gLe gLe (vC (.int 0)) (qK eL (qB 0) (vC (.int 1))) (vC (.int 1000000000000))))))
def ZF(a:Ad):EK PV->qC->Rs PV:=QD 1 1 (Yf a)
def Wg(a:Ad):FS:=(qS (Qs (zN (zB (wn (qI (QX (kit a)) (qA (qB 0) (qA (vC (.ty "tuple")) qD))))) (zN (zB (eU (WJ gLe gLe (vC (.int 1)) (qI Wp (qA (qB 0) qD)) (vC (.int 4))))) (zB (wn (qI Z2 (qA (eM (qr [] 1 (q9 (qB 0)) (qw 0) [] [] (qI (ZF a) (qA (qB 0) qD)))) qD)))))) (qt (vC (.bl false))) Qh) (qt (qI (zq a) (qA (eM (qr [] 2 (q9 (qB 0)) (wN 2 (qW (qw 0) (qW (qw 1) wS))) [] [] (qB 0))) qD))))
def Qq(a:Ad):EK PV->qC->Rs PV:=QD 1 1 (Wg a)
def WI(a:Ad):FS:=(qS (Qs (zB (wn (qI (Qq a) (qA (qB 0) qD)))) (yW a.Z6 (qA (vJ [(vC (.str "sorts are a rising tuple of one to ")),(kH (vC (.int 4))),(vC (.str " tuples of a long and a price"))] Str.empty) qD)) Qh) (Ww (qI (WB a) (qA (qB 1) (qA (vC (.int 0)) (qA (vC (.int 200)) qD))))))
def wE(a:Ad):EK PV->qC->Rs PV:=QD 2 2 (WI a)
def Wn(a:Ad):FS:=(qS (Ww (qI (wE a) (qA (qB 0) (qA (qB 1) qD)))) (qS (zC 2 (Qx (qA (vC (.int 1)) qD))) (qS (We (yF (qA (vC (.int 1)) (qA (qK QU (qB 1) (vC (.int 1))) qD))) (Qf 3) (wU (qB 2) (qI YH (qA (eM (qr [2,3] 2 (q9 (qB 0)) (wN 2 (qW (qw 2) (qW (qw 3) wS))) [(eU (qK gLe (qB 2) (qB 1)))] [] (qK eL (qB 0) (qK zT (qB 1) (qB 2))))) qD)))) (qt (qK eL (qB 2) (JW (vC (.int 1))))))))
def we(a:Ad):EK PV->qC->Rs PV:=QD 2 4 (Wn a)
def w4(a:Ad):FS:=(qS (zC 2 (Qx (qA (qp (qA (vC (.int 0)) (qA (qp qD) qD))) qD))) (qS (We (yF (qA (vC (.int 1)) (qA (qK QU (qB 1) (vC (.int 1))) qD))) (Qf 3) (qS (qc 4 (eM (qr [2,3] 2 (q9 (qB 0)) (wN 2 (qW (qw 2) (qW (qw 3) wS))) [(eU (qK gLe (qB 2) (qB 1)))] [] (qp (qA (qB 2) (qA (qB 3) (qA (qK eL (qB 0) (qK zT (qB 1) (qB 2))) qD))))))) (qS (qc 5 (eM (qr [] 3 (q9 (qB 4)) (wN 3 (qW (qw 0) (qW (qw 1) (qW (qw 2) wS)))) [(eU (qK (yM true) (qB 2) (vC .non)))] [] (qp (qA (qK QU (qB 1) (qK eL (qB 2) (vC (.int 0)))) (qA (qK wf (qp (qA (qB 0) qD)) (qK eL (qB 2) (vC (.int 1)))) qD)))))) (wU (qB 2) (Jb (qB 5)))))) (qt (qB 2))))
def wz(a:Ad):EK PV->qC->Rs PV:=QD 2 6 (w4 a)
def wY(a:Ad):FS:=(qS (Ww (qI (wE a) (qA (qB 0) (qA (qB 1) qD)))) (qt (qK eL (qI (wz a) (qA (qB 0) (qA (qB 1) qD))) (JW (vC (.int 1))))))
def Qd(a:Ad):EK PV->qC->Rs PV:=QD 2 2 (wY a)
def tbl(a:Ad):EK (EN×(EK PV->qC->Rs PV)):=[(a.line_ways,we a),(a.cheapest_line,Qd a)]
def zO(a:Ad):FS:=(qS (Qs (eU (qK gLt (qB 1) (qI Wp (qA (qB 0) qD)))) (qt (qK eL (qB 0) (qB 1))) Qh) (qt (qK QU (qK zr (vC (.int 6151)) (qB 1)) (vC (.int 29)))))
def zK(a:Ad):EK PV->qC->Rs PV:=QD 2 2 (zO a)
def ZG(a:Ad):FS:=(qS (qc 2 (qI (zK a) (qA (qB 0) (qA (qB 1) qD)))) (qS (Qs (eU (qK gEq (qK jo (qB 2) (vC (.int 2))) (vC (.int 0)))) (yq (Qx (qA (qK qEw (qB 2) (vC (.int 2))) qD))) Qh) (qS (qc 3 (vC (.int 0))) (qS (qc 4 (qK jo (qB 2) (vC (.int 2147483647)))) (qS (We (zY (qA (vC (.int 24)) qD)) (Qf 5) (qS (qc 4 (qK jo (qK QU (qK QU (qK QU (qK zr (qB 4) (vC (.int 48271))) (qK zr (qK zr (vC (.int 7)) (qB 5)) (qB 5))) (qK zr (vC (.int 11)) (qB 1))) (vC (.int 1))) (vC (.int 2147483647)))) (qc 3 (qK QU (qK zr (qB 3) (vC (.int 2147483647))) (qB 4))))) (yq (Qx (qA (qB 3) qD))))))))
def ZD(a:Ad):EK PV->qC->Rs PV:=QD 2 6 (ZG a)
def ZR(a:Ad):FS:=(qS (qc 2 (qK jo (qK eL (qB 0) (vC (.int 0))) (qB 1))) (qS (lj (qB 0) (vC (.int 0)) (qK qA9 (qK eL (qB 0) (vC (.int 0))) (qB 1))) (qt (qB 2))))
def qg(a:Ad):EK PV->qC->Rs PV:=QD 2 3 (ZR a)
def zM(a:Ad):FS:=(qS (qc 1 (eM (Qx (qA (qI (QX (kit a)) (qA (qB 0) (qA (vC (.fn a.Z1)) qD))) (qA (qI (QX (kit a)) (qA (qB 0) (qA (vC (.fn a.Z2)) qD))) (qA (qI (QX (kit a)) (qA (qB 0) (qA (vC (.fn a.Z3)) qD))) (qA (qI (QX (kit a)) (qA (qB 0) (qA (vC (.fn a.Z4)) qD))) qD))))))) (qS (qc 1 (eM (ZM (qB 1) (eM (Qx (qA (qI (QX (kit a)) (qA (qB 0) (qA (vC (.fn a.Z5)) qD))) (qA (qI (QX (kit a)) (qA (qB 0) (qA (vC (.fn a.Z6)) qD))) (qA (qI (QX (kit a)) (qA (qB 0) (qA (vC (.fn a.Z7)) qD))) (qA (qI (QX (kit a)) (qA (qB 0) (qA (vC (.fn a.Z8)) qD))) qD))))))))) (qS (qc 1 (eM (ZM (qB 1) (eM (Qx (qA (qI (QX (kit a)) (qA (qB 0) (qA (vC (.fn a.Z9)) qD))) (qA (qI (QX (kit a)) (qA (qB 0) (qA (vC (.fn a.Z10)) qD))) (qA (qI (QX (kit a)) (qA (qB 0) (qA (vC (.fn a.Z11)) qD))) qD)))))))) (qS (Qs (zN (zB (wn (qI (QX (kit a)) (qA (qB 0) (qA (vC (.ty "ValueError")) qD))))) (eU (qK gNe (qI YH (qA (eM (qr [] 1 (q9 (qB 1)) (qw 0) [] [] (qI qCy (qA (qB 0) qD)))) qD)) (vC (.int 1))))) (qt (vC (.str "! none of the classes"))) Qh) (qS (qc 2 (eM (Qx (qA (vC (.str "length")) (qA (vC (.str "number")) (qA (vC (.str "bars")) (qA (vC (.str "box")) (qA (vC (.str "weights")) (qA (vC (.str "sorts")) (qA (vC (.str "turn")) (qA (vC (.str "place")) (qA (vC (.str "text")) (qA (vC (.str "row")) (qA (vC (.str "many")) qD)))))))))))))) (qt (qK lx (vC (.str "! ")) (qK eL (qB 2) (l4 (qB 1) (vC (.bl true)))))))))))
def WZ(a:Ad):EK PV->qC->Rs PV:=QD 1 3 (zM a)
def wC(a:Ad)(rec:EK PV->qC->Rs PV):FS:=(qS (Qs (wn (qI (QX (kit a)) (qA (qB 1) (qA (qp (qA (vC (.ty "tuple")) (qA (vC (.ty "list")) qD))) qD)))) (qS (Qs (zN (eU (qK gNe (qI (QX (kit a)) (qA (qB 0) (qA (vC (.ty "tuple")) qD))) (qI (QX (kit a)) (qA (qB 1) (qA (vC (.ty "tuple")) qD))))) (eU (qK gNe (qI (QX (kit a)) (qA (qB 0) (qA (vC (.ty "list")) qD))) (qI (QX (kit a)) (qA (qB 1) (qA (vC (.ty "list")) qD)))))) (qt (vC (.bl false))) Qh) (qt (ZN (qK gEq (qI Wp (qA (qB 0) qD)) (qI Wp (qA (qB 1) qD))) (qI Z2 (qA (eM (qr [] 2 (jC (qA (qB 0) (qA (qB 1) qD))) (wN 2 (qW (qw 0) (qW (qw 1) wS))) [] [] (qI rec (qA (qB 0) (qA (qB 1) qD))))) qD))))) Qh) (qt (ZN (qK gEq (qB 0) (qB 1)) (qK gEq (qI (QX (kit a)) (qA (qB 0) (qA (vC (.ty "bool")) qD))) (qI (QX (kit a)) (qA (qB 1) (qA (vC (.ty "bool")) qD)))))))
def qv:Nat->Ad->EK PV->qC->Rs PV|0,_=>fun _ _=>.no|n+1,a=>QD 2 2 (wC a (qv n a))
def zd(a:Ad):FS:=(qS (qc 1 (lr (eM (qr [0] 1 (zY (qA (qK QU (vC (.int 1)) (qI (qg a) (qA (qB 0) (qA (vC (.int 4)) qD)))) qD)) (qw 1) [] [] (qK QU (vC (.int 1)) (qI (qg a) (qA (qB 0) (qA (qK eL (eM (Qx (qA (vC (.int 3)) (qA (vC (.int 9)) qD)))) (qI (qg a) (qA (qB 0) (qA (vC (.int 2)) qD)))) qD)))))))) (qS (qc 2 (qK eL (eM (Qx (qA (vC (.int 3)) (qA (vC (.int 12)) (qA (qK QU (qK qC1 (vC (.int 10)) (vC (.int 12))) (vC (.int 1))) qD))))) (qI (qg a) (qA (qB 0) (qA (vC (.int 3)) qD))))) (qt (qI Z9 (qA (eM (qr [0,2] 1 (q9 (qB 1)) (qw 2) [] [] (qp (qA (qB 2) (qA (qI (qg a) (qA (qB 0) (qA (qB 1) qD))) qD))))) qD)))))
def Wf(a:Ad):EK PV->qC->Rs PV:=QD 1 3 (zd a)
def WX(a:Ad):FS:=(qS (qc 2 (qI (qg a) (qA (qB 0) (qA (qI Wp (qA (qB 1) qD)) qD)))) (qS (Yr (qK eL (qB 1) (qB 2)) (wN 2 (qW (Qf 3) (qW (Qf 4) wS)))) (qS (qc 5 (qK eL (eM (Qx (qA (vC (.int 0)) (qA (vC (.int 10)) (qA (JW (vC (.int 1))) (qA (vC (.bl true)) (qA (vC .non) (qA (vC (.str "2")) (qA (qK QU (qK qC1 (vC (.int 10)) (vC (.int 12))) (vC (.int 1))) (qA (qp (qA (vC (.int 1)) qD)) qD)))))))))) (qI (qg a) (qA (qB 0) (qA (vC (.int 8)) qD))))) (qS (zC 6 (Qx (qA (qp (qA (vC (.int 10)) (qA (qB 4) qD))) (qA (qp (qA (vC (.int 0)) (qA (qB 4) qD))) (qA (qp (qA (vC (.bl true)) (qA (qB 4) qD))) (qA (qp (qA (qB 3) (qA (JW (vC (.int 1))) qD))) (qA (qp (qA (qB 3) (qA (qK QU (qK qC1 (vC (.int 10)) (vC (.int 12))) (vC (.int 1))) qD))) (qA (qp (qA (qB 3) (qA (vC (.bl true)) qD))) (qA (qp (qA (qB 3) (qA (vC .non) qD))) qD))))))))) (qS (wU (qB 6) (eM (Qx (qA (qB 3) (qA (qB 4) qD))))) (qS (zC 6 (ZM (qB 6) (eM (Qx (qA (qp (qA (qB 3) qD)) (qA (qp (qA (qB 3) (qA (qB 4) (qA (vC (.int 0)) qD)))) (qA (qB 5) qD))))))) (qS (qc 7 (eM (qr [1,2] 1 (q9 (qB 6)) (qw 2) [] [] (qK wf (qK wf (kc (qB 0) jQ (yx (qB 1))) (qp (qA (qB 2) qD))) (kc (qB 0) (yx (qK QU (qB 1) (vC (.int 1)))) jQ))))) (qS (qc 7 (eM (ZM (qB 7) (eM (Qx (qA (qK wf (qB 1) (kc (qB 1) jQ (yx (vC (.int 1))))) (qA (qp qD) (qA (eM (kM (qB 1))) (qA (vC .non) (qA (qp (qA (qp (qA (vC (.int 1)) (qA (vC (.int 1)) qD))) (qA (qp (qA (vC (.int 2)) (qA (vC (.int 1)) qD))) (qA (qp (qA (vC (.int 3)) (qA (vC (.int 1)) qD))) (qA (qp (qA (vC (.int 4)) (qA (vC (.int 1)) qD))) (qA (qp (qA (vC (.int 5)) (qA (vC (.int 1)) qD))) qD)))))) qD)))))))))) (qt (qK eL (eM (ZM (qB 7) (eM (Qx (qA (qp (qA (qp (qA (vC (.int 2)) (qA (vC (.int 1)) qD))) (qA (qp (qA (vC (.int 2)) (qA (vC (.int 3)) qD))) qD))) (qA (qp (qA (qp (qA (vC (.int 3)) (qA (vC (.int 1)) qD))) (qA (qp (qA (vC (.int 2)) (qA (vC (.int 1)) qD))) qD))) qD)))))) (qI (qg a) (qA (qB 0) (qA (vC (.int 18)) qD)))))))))))))
def wp(a:Ad):EK PV->qC->Rs PV:=QD 2 8 (WX a)
def zt(a:Ad):FS:=(qt (qK eL (eM (Qx (qA (JW (vC (.int 1))) (qA (vC (.int 201)) (qA (vC (.bl true)) (qA (vC .non) (qA (vC (.str "3")) (qA (qp (qA (vC (.int 1)) qD)) (qA (qK qC1 (vC (.int 10)) (vC (.int 39))) (qA (eM (Qx (qA (vC (.int 2)) qD))) qD)))))))))) (qI (qg a) (qA (qB 0) (qA (vC (.int 8)) qD)))))
def wD(a:Ad):EK PV->qC->Rs PV:=QD 1 1 (zt a)
def zu(a:Ad):FS:=(qS (zC 2 (Qx (qA (qp (qA (vC (.int 1)) (qA (qp (qA (vC (.int 0)) (qA (qp qD) qD))) qD))) qD))) (qS (We (yF (qA (vC (.int 1)) (qA (qK QU (qB 1) (vC (.int 1))) qD))) (Qf 3) (qS (qc 4 (eM (qr [3] 2 (q9 (qB 0)) (wN 2 (qW (qw 1) (qW (qw 2) wS))) [(eU (qK gLe (qB 1) (qB 0)))] [] (qp (qA (qB 1) (qA (qB 2) qD)))))) (qS (qc 5 (qI YH (qA (eM (qr [2,3] 2 (q9 (qB 4)) (wN 2 (qW (qw 2) (qW (qw 3) wS))) [] [] (qK eL (qK eL (qB 0) (qK zT (qB 1) (qB 2))) (vC (.int 0))))) qD))) (qS (qc 6 (vC .non)) (qS (We (q9 (qB 4)) (wN 2 (qW (Qf 7) (qW (Qf 8) wS))) (qS (qc 9 (qK eL (qK eL (qB 2) (qK zT (qB 3) (qB 7))) (vC (.int 1)))) (Qs (eU (qK (yM true) (qB 9) (vC .non))) (qS (qc 10 (qp (qA (qK QU (qK eL (qB 9) (vC (.int 0))) (qB 8)) (qA (qK wf (qp (qA (qB 7) qD)) (qK eL (qB 9) (vC (.int 1)))) qD)))) (Qs (zN (eU (qK (yM false) (qB 6) (vC .non))) (eU (qK J7 (qB 10) (qB 6)))) (qc 6 (qB 10)) Qh)) Qh))) (wU (qB 2) (qp (qA (qB 5) (qA (qB 6) qD))))))))) (qt (qB 2))))
def Wi(a:Ad):EK PV->qC->Rs PV:=QD 2 11 (zu a)
def ZB(a:Ad)(rec:EK PV->qC->Rs PV):FS:=(qS (Qs (eU (qK gEq (qB 1) (vC (.int 0)))) (qt (eM (Qx (qA (qp (qA (vC (.int 0)) (qA (qp qD) qD))) qD)))) Qh) (qS (qc 2 (eM (Qx qD))) (qS (We (q9 (qB 0)) (wN 2 (qW (Qf 3) (qW (Qf 4) wS))) (Qs (eU (qK gLe (qB 3) (qB 1))) (qc 2 (eM (ZM (qB 2) (eM (qr [4,3] 2 (q9 (qI rec (qA (qB 0) (qA (qK zT (qB 1) (qB 3)) qD)))) (wN 2 (qW (qw 2) (qW (qw 3) wS))) [] [] (qp (qA (qK QU (qB 0) (qB 2)) (qA (qK wf (qp (qA (qB 1) qD)) (qB 3)) qD)))))))) Qh)) (qt (qB 2)))))
def Qy:Nat->Ad->EK PV->qC->Rs PV|0,_=>fun _ _=>.no|n+1,a=>QD 2 5 (ZB a (Qy n a))
def Wb(a:Ad):FS:=(iU 3 4 (Qb a) (qt (YF (tbl a) (qK eL (eM (Qx (qA (vC (.fn a.line_ways)) (qA (vC (.fn a.cheapest_line)) qD)))) (qB 0)) (qA (qB 1) (qA (qB 2) qD)))) (qt (qI (WZ a) (qA (qB 3) qD))))
def qd(a:Ad):EK PV->qC->Rs PV:=QD 3 4 (Wb a)
def ml(a:Ad):FS:=(qS (We (zY (qA (qI qCP (qA (vC (.int 1)) (qA (qI qDV (qA (qI Wp (qA (qB 0) qD)) (qA (vC (.int 6)) qD))) qD))) qD)) (Qf 1) (qS (qc 2 (qI (ZD a) (qA (qB 0) (qA (qB 1) qD)))) (qS (qc 3 (qI (Wf a) (qA (qB 2) qD))) (qS (qc 4 (qI (qg a) (qA (qB 2) (qA (qK eL (eM (Qx (qA (vC (.int 9)) (qA (vC (.int 40)) (qA (vC (.int 201)) qD))))) (qI (qg a) (qA (qB 2) (qA (vC (.int 3)) qD)))) qD)))) (qS (Yr (qK eL (qI (Wi a) (qA (qB 3) (qA (qB 4) qD))) (JW (vC (.int 1)))) (wN 2 (qW (Qf 5) (qW (Qf 6) wS)))) (qS (Qs (zB (wn (qI (qv 4 a) (qA (eM (qr [3,4] 1 (zY (qA (vC (.int 2)) qD)) (qw 2) [] [] (qI (qd a) (qA (qB 2) (qA (qB 0) (qA (qB 1) qD)))))) (qA (eM (Qx (qA (qB 5) (qA (qB 6) qD)))) qD))))) (qt (vC (.bl false))) Qh) (qS (Qs (eU (qK gLt (qB 4) (vC (.int 9)))) (qS (qc 7 (Zs (qI (Qy 9 a) (qA (qB 3) (qA (qB 4) qD))))) (Qs (zN (eU (qK gNe (qI Wp (qA (qB 7) qD)) (qB 5))) (eU (qK gNe (qK eL (eM (ZM (qB 7) (eM (Qx (qA (vC .non) qD))))) (vC (.int 0))) (qB 6)))) (qt (vC (.bl false))) Qh)) Qh) (qS (jz 8 9 (qA (qI (wp a) (qA (qB 2) (qA (qB 3) qD))) (qA (qI (wD a) (qA (qB 2) qD)) qD))) (We (zY (qA (vC (.int 2)) qD)) (Qf 10) (qS (Qs (zN (eU (qK gNe (qI (qd a) (qA (qB 10) (qA (qB 8) (qA (qB 4) qD)))) (vC (.str "! sorts")))) (eU (qK gNe (qI (qd a) (qA (qB 10) (qA (qB 8) (qA (qB 9) qD)))) (vC (.str "! sorts"))))) (qt (vC (.bl false))) Qh) (Qs (eU (qK gNe (qI (qd a) (qA (qB 10) (qA (qB 3) (qA (qB 9) qD)))) (vC (.str "! number")))) (qt (vC (.bl false))) Qh))))))))))) (qt (vC (.bl true))))
def JJ(a:Ad):EK PV->qC->Rs PV:=QD 1 11 (ml a)
structure Env (K:W.Frag) (mg:Str->Option Value) (a:Ad):Prop where
 kit:f6 K (kit a)
 n_ValueError:mg "ValueError" = none
 n_all:mg "all" = none
 n_bool:mg "bool" = none
 n_int:mg "int" = none
 n_isinstance:mg "isinstance" = none
 n_len:mg "len" = none
 n_list:mg "list" = none
 n_max:mg "max" = none
 n_min:mg "min" = none
 n_range:mg "range" = none
 n_set:mg "set" = none
 n_sorted:mg "sorted" = none
 n_sum:mg "sum" = none
 n_tuple:mg "tuple" = none
 n_zip:mg "zip" = none
 c_MOST_SORTS:∃t,mg "MOST_SORTS" = some (.int 4 t)
 c_MOST_LONG:∃t,mg "MOST_LONG" = some (.int 9 t)
 c_MOST_PRICE:∃t,mg "MOST_PRICE" = some (.int 1000000000000 t)
 c_MOST_LINE:∃t,mg "MOST_LINE" = some (.int 200 t)
 k_Z0:mg "BarError" = some (.ref a.Z0)
 k_Z1:mg "NoLength" = some (.ref a.Z1)
 k_Z2:mg "NoNumber" = some (.ref a.Z2)
 k_Z3:mg "NoBars" = some (.ref a.Z3)
 k_Z4:mg "NoBox" = some (.ref a.Z4)
 k_Z5:mg "NoWeights" = some (.ref a.Z5)
 k_Z6:mg "NoSorts" = some (.ref a.Z6)
 k_Z7:mg "NoTurn" = some (.ref a.Z7)
 k_Z8:mg "NoPlace" = some (.ref a.Z8)
 k_Z9:mg "NoText" = some (.ref a.Z9)
 k_Z10:mg "NoRow" = some (.ref a.Z10)
 k_Z11:mg "TooMany" = some (.ref a.Z11)
 x_Z6:W.excIn K a.Z6 gD "ValueError.__new__" = true
 e_Z6:W.mroIn K a.Z6 (.ref a.Z0)=some true
 x_Z2:W.excIn K a.Z2 gD "ValueError.__new__" = true
 e_Z2:W.mroIn K a.Z2 (.ref a.Z0)=some true
 o_Z0:∃dd cd sl,K.lookup a.Z0=some ⟨.type "type",dd,.cls cd,sl⟩
 b_Z0:W.mroIn K a.Z0 (.type "BaseException")=some true
 m_is_whole:mg "is_whole" = some (.ref a.is_whole)
 f_is_whole:∃fd,fI K "is_whole" "is_whole" WA a.is_whole fd
 m_is_whole_within:mg "is_whole_within" = some (.ref a.is_whole_within)
 f_is_whole_within:∃fd,fI K "is_whole_within" "is_whole_within" QK a.is_whole_within fd
 m_are_wholes:mg "are_wholes" = some (.ref a.are_wholes)
 f_are_wholes:∃fd,fI K "are_wholes" "are_wholes" wJ a.are_wholes fd
 m_is_rising:mg "is_rising" = some (.ref a.is_rising)
 f_is_rising:∃fd,fI K "is_rising" "is_rising" wj a.is_rising fd
 m_need_number:mg "need_number" = some (.ref a.need_number)
 f_need_number:∃fd,fI K "need_number" "need_number" Ql a.need_number fd
 m_is_sort:mg "is_sort" = some (.ref a.is_sort)
 f_is_sort:∃fd,fI K "is_sort" "is_sort" WR a.is_sort fd
 m_are_sorts:mg "are_sorts" = some (.ref a.are_sorts)
 f_are_sorts:∃fd,fI K "are_sorts" "are_sorts" Q7 a.are_sorts fd
 m_need_line:mg "need_line" = some (.ref a.need_line)
 f_need_line:∃fd,fI K "need_line" "need_line" Q5 a.need_line fd
 m_line_ways:mg "line_ways" = some (.ref a.line_ways)
 f_line_ways:∃fd,fI K "line_ways" "line_ways" Q9 a.line_ways fd
 m_cheapest_lines:mg "cheapest_lines" = some (.ref a.cheapest_lines)
 f_cheapest_lines:∃fd,fI K "cheapest_lines" "cheapest_lines" QB a.cheapest_lines fd
 m_cheapest_line:mg "cheapest_line" = some (.ref a.cheapest_line)
 f_cheapest_line:∃fd,fI K "cheapest_line" "cheapest_line" Qe a.cheapest_line fd
 m_law_cell:mg "_law_cell" = some (.ref a.law_cell)
 f_law_cell:∃fd,fI K "_law_cell" "_law_cell" w6 a.law_cell fd
 m_law_box:mg "_law_box" = some (.ref a.law_box)
 f_law_box:∃fd,fI K "_law_box" "_law_box" WS a.law_box fd
 m_law_take:mg "_law_take" = some (.ref a.law_take)
 f_law_take:∃fd,fI K "_law_take" "_law_take" w5 a.law_take fd
 m_law_kind:mg "_law_kind" = some (.ref a.law_kind)
 f_law_kind:∃fd,fI K "_law_kind" "_law_kind" w8 a.law_kind fd
 m_law_same:mg "_law_same" = some (.ref a.law_same)
 f_law_same:∃fd,fI K "_law_same" "_law_same" wa a.law_same fd
 m_law_sorts:mg "_law_sorts" = some (.ref a.law_sorts)
 f_law_sorts:∃fd,fI K "_law_sorts" "_law_sorts" wA a.law_sorts fd
 m_law_no_sorts:mg "_law_no_sorts" = some (.ref a.law_no_sorts)
 f_law_no_sorts:∃fd,fI K "_law_no_sorts" "_law_no_sorts" QV a.law_no_sorts fd
 m_law_no_cells:mg "_law_no_cells" = some (.ref a.law_no_cells)
 f_law_no_cells:∃fd,fI K "_law_no_cells" "_law_no_cells" Qo a.law_no_cells fd
 m_law_least:mg "_law_least" = some (.ref a.law_least)
 f_law_least:∃fd,fI K "_law_least" "_law_least" Q4 a.law_least fd
 m_law_all:mg "_law_all" = some (.ref a.law_all)
 f_law_all:∃fd,fI K "_law_all" "_law_all" wy a.law_all fd
 m_law_asked:mg "_law_asked" = some (.ref a.law_asked)
 f_law_asked:∃fd,fI K "_law_asked" "_law_asked" wB a.law_asked fd
 m_law:mg "law" = some (.ref a.law)
 f_law:∃fd,fI K "law" "law" zW a.law fd
section
variable{P:ER}{w:EU}{K:EQ}{mg:Str->EO EL}{base:Heap}{a:Ad}
def Jw:ez ["thing"] ["thing"] (qJ WA):=⟨rfl,rfl,rfl,by decide +kernel,rfl,by decide +kernel,by decide +kernel⟩
def YG(V:Env K mg a):eR P w K mg base 2 "is_whole" a.is_whole 1 (zQ a):=by obtain⟨fd,F⟩:=V.f_is_whole;refine wL (B:=yw a) F Jw (F.binds (ps:=["thing"]) fun _ _ _ _ _ _ us hl=>match us,hl with|[_],_=>rfl) V.m_is_whole (fun l st h=>qf h) (fun Em A outer s H E M R=>?_) (fun l Z hl Y=>qb hl);have q:=M.units;exact (@qU _ _ _ _ (@qu _ _ _ _ _ (@zn _ _ _ _ _ _ _ _ (@QS _ _ _ _ _ _ _ _ V.kit V.n_isinstance (@qQ _ _ _ _ _ _ _ (@qG _ _ 0 _ _ (by rfl) (by rfl) (by rfl)) (@qQ _ _ _ _ _ _ _ (@Wy _ _ _ _ _ rfl V.n_int Boot.«int» (by decide) (by decide)) qF)) (by rfl) (by rfl) (by rfl)) (@Zq _ _ _ _ _ _ (@Db _ _ _ _ _ (@QS _ _ _ _ _ _ _ _ V.kit V.n_isinstance (@qQ _ _ _ _ _ _ _ (@qG _ _ 0 _ _ (by rfl) (by rfl) (by rfl)) (@qQ _ _ _ _ _ _ _ (@Wy _ _ _ _ _ rfl V.n_bool Boot.«bool» (by decide) (by decide)) qF)) (by rfl) (by rfl) (by rfl)))))))
def ZK:ez ["thing","least","most"] ["thing","least","most"] (qJ QK):=⟨rfl,rfl,rfl,by decide +kernel,rfl,by decide +kernel,by decide +kernel⟩
def ZW(V:Env K mg a):eR P w K mg base 3 "is_whole_within" a.is_whole_within 3 (wu a):=by obtain⟨fd,F⟩:=V.f_is_whole_within;refine wL (B:=wt a) F ZK (F.binds (ps:=["thing","least","most"]) fun _ _ _ _ _ _ us hl=>match us,hl with|[_,_,_],_=>rfl) V.m_is_whole_within (fun l st h=>qf h) (fun Em A outer s H E M R=>?_) (fun l Z hl Y=>qb hl);have q:=M.units;exact (@qU _ _ _ _ (@qu _ _ _ _ _ (@zn _ _ _ _ _ _ _ _ (@qX _ _ _ _ _ _ _ _ _ ((YG V).call (M.mono (by omega)) qy) (@qQ _ _ _ _ _ _ _ (@qG _ _ 0 _ _ (by rfl) (by rfl) (by rfl)) qF) (by rfl) (by rfl)) (@Zq _ _ _ _ _ _ (@ZX _ _ _ _ _ _ _ _ _ _ _ _ _ _ _ Wk Wk Wj Wj (@qG _ _ 1 _ _ (by rfl) (by rfl) (by rfl)) (@qG _ _ 0 _ _ (by rfl) (by rfl) (by rfl)) (@qG _ _ 2 _ _ (by rfl) (by rfl) (by rfl)) (by with_unfolding_all rfl))))))
def Yb:ez ["thing","least","most"] ["thing","least","most"] (qJ wJ):=⟨rfl,rfl,rfl,by decide +kernel,rfl,by decide +kernel,by decide +kernel⟩
def jr(V:Env K mg a):eR P w K mg base 3 "are_wholes" a.are_wholes 3 (zL a):=by obtain⟨fd,F⟩:=V.f_are_wholes;refine wL (B:=Zc a) F Yb (F.binds (ps:=["thing","least","most"]) fun _ _ _ _ _ _ us hl=>match us,hl with|[_,_,_],_=>rfl) V.m_are_wholes (fun l st h=>qf h) (fun Em A outer s H E M R=>?_) (fun l Z hl Y=>qb hl);have q:=M.units;exact (@qU _ _ _ _ (@qu _ _ _ _ _ (@zn _ _ _ _ _ _ _ _ (@QS _ _ _ _ _ _ _ _ V.kit V.n_isinstance (@qQ _ _ _ _ _ _ _ (@qG _ _ 0 _ _ (by rfl) (by rfl) (by rfl)) (@qQ _ _ _ _ _ _ _ (@Wy _ _ _ _ _ rfl V.n_tuple Boot.«tuple» (by decide) (by decide)) qF)) (by rfl) (by rfl) (by rfl)) (@zn _ _ _ _ _ _ _ _ (@ZX _ _ _ _ _ _ _ _ _ _ _ _ _ _ _ Wk Wk Wj Wj (@qG _ _ 1 _ _ (by rfl) (by rfl) (by rfl)) (@WO _ _ _ _ _ _ _ (@qQ _ _ _ _ _ _ _ (@qG _ _ 0 _ _ (by rfl) (by rfl) (by rfl)) qF) V.n_len (by rfl) (by rfl) (by rfl)) (@qG _ _ 2 _ _ (by rfl) (by rfl) (by rfl)) (by with_unfolding_all rfl)) (@Zq _ _ _ _ _ _ (@jW _ _ _ _ _ _ _ (@YW _ _ _ _ _ _ _ _ _ (@QA _ _ _ _ (@wW _ _ _ _ _ _ _ ([]) (["number"]) ([]) _ _ _ _ _ (by exact wP rfl (by decide +kernel) rfl rfl trivial) (@ww _ _ _ _ _ (@qG _ _ 0 _ _ (by rfl) (by rfl) (by rfl))) (fun L H' fp pn=>⟨(@qX _ _ _ _ _ _ _ _ _ ((YG V).call (M.mono (by omega)) (QE _)) (@qQ _ _ _ _ _ _ _ (@qG _ _ 0 _ _ (by rfl) (by rfl) (by rfl)) qF) (by rfl) (by rfl)),⟨(@QM _ _ 0 _ (show (["number"]:EK Str).Nodup by decide +kernel) (by rfl) (by first|exact Or.inl rfl|exact Or.inr rfl) (by first|exact .inl rfl|exact .inr rfl|assumption)),(qZ 0),eV.nil,rfl⟩,fe.nil⟩) (by intro _;rfl))) qF) V.n_all (by rfl) (by rfl) (by rfl)))))))
def jg:ez ["things"] ["things"] (qJ wj):=⟨rfl,rfl,rfl,by decide +kernel,rfl,by decide +kernel,by decide +kernel⟩
def Ji(V:Env K mg a):eR P w K mg base 2 "is_rising" a.is_rising 1 (zq a):=by obtain⟨fd,F⟩:=V.f_is_rising;refine wL (B:=yC a) F jg (F.binds (ps:=["things"]) fun _ _ _ _ _ _ us hl=>match us,hl with|[_],_=>rfl) V.m_is_rising (fun l st h=>qf h) (fun Em A outer s H E M R=>?_) (fun l Z hl Y=>qb hl);have q:=M.units;exact (@qU _ _ _ _ (@qu _ _ _ _ _ (@jW _ _ _ _ _ _ _ (@YW _ _ _ _ _ _ _ _ _ (@QA _ _ _ _ (@wW _ _ _ _ _ _ _ (["things"]) (["at"]) ([0]) _ _ _ _ _ (by exact wP rfl (by decide +kernel) rfl rfl ⟨⟨rfl,rfl⟩,trivial⟩) (@ZH _ _ _ _ _ _ _ _ rfl V.n_range (@qe _ _ _ _ _ _ _ _ qH (@W6 _ _ _ _ _ _ _ _ _ (@WO _ _ _ _ _ _ _ (@qQ _ _ _ _ _ _ _ (@qG _ _ 0 _ _ (by rfl) (by rfl) (by rfl)) qF) V.n_len (by rfl) (by rfl) (by rfl)) qF)) (by rfl) (by rfl)) (fun L H' fp pn=>⟨(@py _ _ _ _ _ _ _ (@QY _ _ _ _ _ _ _ (@qG _ _ 0 _ _ (by rfl) (by rfl) (by rfl)) (@Z7 _ _ _ _ _ _ _ (@qG _ _ 1 _ _ (by rfl) (by rfl) (by rfl)) qH) (by exact fun _ _=>rfl)) (@QY _ _ _ _ _ _ _ (@qG _ _ 0 _ _ (by rfl) (by rfl) (by rfl)) (@qG _ _ 1 _ _ (by rfl) (by rfl) (by rfl)) (by exact fun _ _=>rfl))),⟨(@QM _ _ 1 _ (show (["things","at"]:EK Str).Nodup by decide +kernel) (by rfl) (by first|exact Or.inl rfl|exact Or.inr rfl) (by first|exact .inl rfl|exact .inr rfl|assumption)),(qZ 1),eV.nil,rfl⟩,fe.nil⟩) (by intro _;rfl))) qF) V.n_all (by rfl) (by rfl) (by rfl))))
def yz:ez ["thing","least","most"] ["thing","least","most"] (qJ Ql):=⟨rfl,rfl,rfl,by decide +kernel,rfl,by decide +kernel,by decide +kernel⟩
def Ya(V:Env K mg a):eR P w K mg base 4 "need_number" a.need_number 3 (WB a):=by
 obtain⟨fd,F⟩:=V.f_need_number;refine wL (B:=Wt a) F yz (F.binds (ps:=["thing","least","most"]) fun _ _ _ _ _ _ us hl=>match us,hl with|[_,_,_],_=>rfl) V.m_need_number (fun l st h=>qf h) (fun Em A outer s H E M R=>?_) (fun l Z hl Y=>qb hl);have q:=M.units;have U:(wV (fu P w) P w K mg base ["thing","least","most"] "need_number" (qJ Ql) a.need_number Em A outer s H E).calm=true:=by show A.handled.isNone=true;rw[R (by omega)];rfl
 exact (@qU _ _ _ _ (@WD _ _ _ _ _ _ _ _ _ (@ZQ _ _ _ _ _ (@ZO _ _ _ _ (@qX _ _ _ _ _ _ _ _ _ ((ZW V).call (M.mono (by omega)) qy) (@qQ _ _ _ _ _ _ _ (@qG _ _ 0 _ _ (by rfl) (by rfl) (by rfl)) (@qQ _ _ _ _ _ _ _ (@qG _ _ 1 _ _ (by rfl) (by rfl) (by rfl)) (@qQ _ _ _ _ _ _ _ (@qG _ _ 2 _ _ (by rfl) (by rfl) (by rfl)) qF))) (by rfl) (by rfl)) (by intro _;rfl))) (@qU _ _ _ _ (@JZ _ _ _ _ _ _ _ _ _ _ oq U rfl V.k_Z2 V.x_Z2 (@nW _ _ _ _ _ _ _ (@nX _ _ _ _ _ _ _ (@Wo _ _ _ _ _ _ QT (@Wo _ _ _ _ _ _ (@lB _ _ _ _ _ (@qG _ _ 1 _ _ (by rfl) (by rfl) (by rfl))) (@Wo _ _ _ _ _ _ QT (@Wo _ _ _ _ _ _ (@lB _ _ _ _ _ (@qG _ _ 2 _ _ (by rfl) (by rfl) (by rfl))) (@Wo _ _ _ _ _ _ QT oM)))))) qF) (by decide) (by rfl) (by rfl))) Qg))
def xZ:ez ["thing"] ["thing"] (qJ WR):=⟨rfl,rfl,rfl,by decide +kernel,rfl,by decide +kernel,by decide +kernel⟩
def v9(V:Env K mg a):eR P w K mg base 4 "is_sort" a.is_sort 1 (ZF a):=by obtain⟨fd,F⟩:=V.f_is_sort;obtain⟨_,c_MOST_LONG⟩:=V.c_MOST_LONG;obtain⟨_,c_MOST_PRICE⟩:=V.c_MOST_PRICE;refine wL (B:=Yf a) F xZ (F.binds (ps:=["thing"]) fun _ _ _ _ _ _ us hl=>match us,hl with|[_],_=>rfl) V.m_is_sort (fun l st h=>qf h) (fun Em A outer s H E M R=>?_) (fun l Z hl Y=>qb hl);have q:=M.units;exact (@qU _ _ _ _ (@qu _ _ _ _ _ (@zn _ _ _ _ _ _ _ _ (@qX _ _ _ _ _ _ _ _ _ ((jr V).call (M.mono (by omega)) qy) (@qQ _ _ _ _ _ _ _ (@qG _ _ 0 _ _ (by rfl) (by rfl) (by rfl)) (@qe _ _ _ _ _ _ _ _ qH (@qe _ _ _ _ _ _ _ _ qH qF))) (by rfl) (by rfl)) (@zn _ _ _ _ _ _ _ _ (@ZX _ _ _ _ _ _ _ _ _ _ _ _ _ _ _ Wk Wk Wj Wj qH (@QY _ _ _ _ _ _ _ (@qG _ _ 0 _ _ (by rfl) (by rfl) (by rfl)) qH (by exact fun _ _=>rfl)) (@ZT _ _ _ _ _ _ rfl c_MOST_LONG (by decide)) (by with_unfolding_all rfl)) (@Zq _ _ _ _ _ _ (@ZX _ _ _ _ _ _ _ _ _ _ _ _ _ _ _ Wk Wk Wj Wj qH (@QY _ _ _ _ _ _ _ (@qG _ _ 0 _ _ (by rfl) (by rfl) (by rfl)) qH (by exact fun _ _=>rfl)) (@ZT _ _ _ _ _ _ rfl c_MOST_PRICE (by decide)) (by with_unfolding_all rfl)))))))
def jp:ez ["thing"] ["thing"] (qJ Q7):=⟨rfl,rfl,rfl,by decide +kernel,rfl,by decide +kernel,by decide +kernel⟩
def Jx(V:Env K mg a):eR P w K mg base 5 "are_sorts" a.are_sorts 1 (Qq a):=by
 obtain⟨fd,F⟩:=V.f_are_sorts;obtain⟨_,c_MOST_SORTS⟩:=V.c_MOST_SORTS;refine wL (B:=Wg a) F jp (F.binds (ps:=["thing"]) fun _ _ _ _ _ _ us hl=>match us,hl with|[_],_=>rfl) V.m_are_sorts (fun l st h=>qf h) (fun Em A outer s H E M R=>?_) (fun l Z hl Y=>qb hl);have q:=M.units;have U:(wV (fu P w) P w K mg base ["thing"] "are_sorts" (qJ Q7) a.are_sorts Em A outer s H E).calm=true:=by show A.handled.isNone=true;rw[R (by omega)];rfl
 exact (@qM _ _ _ _ _ _ (@WD _ _ _ _ _ _ _ _ _ (@iL _ _ _ _ (@YI _ _ _ _ _ _ _ _ (@ZQ _ _ _ _ _ (@ZO _ _ _ _ (@QS _ _ _ _ _ _ _ _ V.kit V.n_isinstance (@qQ _ _ _ _ _ _ _ (@qG _ _ 0 _ _ (by rfl) (by rfl) (by rfl)) (@qQ _ _ _ _ _ _ _ (@Wy _ _ _ _ _ rfl V.n_tuple Boot.«tuple» (by decide) (by decide)) qF)) (by rfl) (by rfl) (by rfl)) (by intro _;rfl))) (@YI _ _ _ _ _ _ _ _ (@ZQ _ _ _ _ _ (@Ds _ _ _ _ _ _ _ _ _ _ _ _ _ _ _ Wk Wk Wj Wj qH (@WO _ _ _ _ _ _ _ (@qQ _ _ _ _ _ _ _ (@qG _ _ 0 _ _ (by rfl) (by rfl) (by rfl)) qF) V.n_len (by rfl) (by rfl) (by rfl)) (@ZT _ _ _ _ _ _ rfl c_MOST_SORTS (by decide)) (by with_unfolding_all rfl))) (@Zy _ _ _ _ _ (@ZQ _ _ _ _ _ (@ZO _ _ _ _ (@jW _ _ _ _ _ _ _ (@YW _ _ _ _ _ _ _ _ _ (@QA _ _ _ _ (@wW _ _ _ _ _ _ _ ([]) (["part"]) ([]) _ _ _ _ _ (by exact wP rfl (by decide +kernel) rfl rfl trivial) (@ww _ _ _ _ _ (@qG _ _ 0 _ _ (by rfl) (by rfl) (by rfl))) (fun L H' fp pn=>⟨(@qX _ _ _ _ _ _ _ _ _ ((v9 V).call (M.mono (by omega)) (QE _)) (@qQ _ _ _ _ _ _ _ (@qG _ _ 0 _ _ (by rfl) (by rfl) (by rfl)) qF) (by rfl) (by rfl)),⟨(@QM _ _ 0 _ (show (["part"]:EK Str).Nodup by decide +kernel) (by rfl) (by first|exact Or.inl rfl|exact Or.inr rfl) (by first|exact .inl rfl|exact .inr rfl|assumption)),(qZ 0),eV.nil,rfl⟩,fe.nil⟩) (by intro _;rfl))) qF) V.n_all (by rfl) (by rfl) (by rfl)) (by intro _;rfl))))))) (@qU _ _ _ _ (@qu _ _ _ _ _ zX)) Qg) (@qU _ _ _ _ (@qu _ _ _ _ _ (@qX _ _ _ _ _ _ _ _ _ ((Ji V).call (M.mono (by omega)) qy) (@YW _ _ _ _ _ _ _ _ _ (@QA _ _ _ _ (@wW _ _ _ _ _ _ _ ([]) (["long","price"]) ([]) _ _ _ _ _ (by exact wP rfl (by decide +kernel) rfl rfl trivial) (@ww _ _ _ _ _ (@qG _ _ 0 _ _ (by rfl) (by rfl) (by rfl))) (fun L H' fp pn=>⟨(@qG _ _ 0 _ _ (by rfl) (by rfl) (by rfl)),⟨(@WK _ _ _ _ _ _ U (@qh _ _ _ _ _ (@QM _ _ 0 _ (show (["long","price"]:EK Str).Nodup by decide +kernel) (by rfl) (by first|exact Or.inl rfl|exact Or.inr rfl) (by first|exact .inl rfl|exact .inr rfl|assumption)) (@qh _ _ _ _ _ (@QM _ _ 1 _ (show (["long","price"]:EK Str).Nodup by decide +kernel) (by rfl) (by first|exact Or.inl rfl|exact Or.inr rfl) (by first|exact .inl rfl|exact .inr rfl|assumption)) wX (by rfl)) (by rfl)) (by rfl) (by rfl)),(wb (qm (qZ 0) (qm (qZ 1) wc))),eV.nil,rfl⟩,fe.nil⟩) (by intro _;rfl))) qF) (by rfl) (by rfl)))))
def jF:ez ["sorts","cells"] ["sorts","cells"] (qJ Q5):=⟨rfl,rfl,rfl,by decide +kernel,rfl,by decide +kernel,by decide +kernel⟩
def yD(V:Env K mg a):eR P w K mg base 6 "need_line" a.need_line 2 (wE a):=by
 obtain⟨fd,F⟩:=V.f_need_line;obtain⟨_,c_MOST_SORTS⟩:=V.c_MOST_SORTS;obtain⟨_,c_MOST_LINE⟩:=V.c_MOST_LINE;refine wL (B:=WI a) F jF (F.binds (ps:=["sorts","cells"]) fun _ _ _ _ _ _ us hl=>match us,hl with|[_,_],_=>rfl) V.m_need_line (fun l st h=>qf h) (fun Em A outer s H E M R=>?_) (fun l Z hl Y=>qb hl);have q:=M.units;have U:(wV (fu P w) P w K mg base ["sorts","cells"] "need_line" (qJ Q5) a.need_line Em A outer s H E).calm=true:=by show A.handled.isNone=true;rw[R (by omega)];rfl
 exact (@qM _ _ _ _ _ _ (@WD _ _ _ _ _ _ _ _ _ (@ZQ _ _ _ _ _ (@ZO _ _ _ _ (@qX _ _ _ _ _ _ _ _ _ ((Jx V).call (M.mono (by omega)) qy) (@qQ _ _ _ _ _ _ _ (@qG _ _ 0 _ _ (by rfl) (by rfl) (by rfl)) qF) (by rfl) (by rfl)) (by intro _;rfl))) (@qU _ _ _ _ (@JZ _ _ _ _ _ _ _ _ _ _ oq U rfl V.k_Z6 V.x_Z6 (@nW _ _ _ _ _ _ _ (@nX _ _ _ _ _ _ _ (@Wo _ _ _ _ _ _ QT (@Wo _ _ _ _ _ _ (@lB _ _ _ _ _ (@ZT _ _ _ _ _ _ rfl c_MOST_SORTS (by decide))) (@Wo _ _ _ _ _ _ QT oM)))) qF) (by decide) (by rfl) (by rfl))) Qg) (@qU _ _ _ _ (@jO _ _ _ _ _ (@qX _ _ _ _ _ _ _ _ _ ((Ya V).call (M.mono (by omega)) qy) (@qQ _ _ _ _ _ _ _ (@qG _ _ 1 _ _ (by rfl) (by rfl) (by rfl)) (@qe _ _ _ _ _ _ _ _ qH (@qQ _ _ _ _ _ _ _ (@ZT _ _ _ _ _ _ rfl c_MOST_LINE (by decide)) qF))) (by rfl) (by rfl)) (by rfl))))
def fq:ez ["sorts","cells","ways","many"] ["sorts","cells"] (qJ Q9):=⟨rfl,rfl,rfl,by decide +kernel,rfl,by decide +kernel,by decide +kernel⟩
def JO(V:Env K mg a):eR P w K mg base 7 "line_ways" a.line_ways 2 (we a):=by
 obtain⟨fd,F⟩:=V.f_line_ways;refine wL (B:=Wn a) F fq (F.binds (ps:=["sorts","cells"]) fun _ _ _ _ _ _ us hl=>match us,hl with|[_,_],_=>rfl) V.m_line_ways (fun l st h=>qf h) (fun Em A outer s H E M R=>?_) (fun l Z hl Y=>qb hl);have q:=M.units;have U:(wV (fu P w) P w K mg base ["sorts","cells","ways","many"] "line_ways" (qJ Q9) a.line_ways Em A outer s H E).calm=true:=by show A.handled.isNone=true;rw[R (by omega)];rfl
 exact (@qM _ _ _ _ _ _ (@jO _ _ _ _ _ (@qX _ _ _ _ _ _ _ _ _ ((yD V).call (M.mono (by omega)) qy) (@qQ _ _ _ _ _ _ _ (@qG _ _ 0 _ _ (by rfl) (by rfl) (by rfl)) (@qQ _ _ _ _ _ _ _ (@qG _ _ 1 _ _ (by rfl) (by rfl) (by rfl)) qF)) (by rfl) (by rfl)) (by rfl)) (@qM _ _ _ _ _ _ (@Zf _ _ _ _ 2 _ _ _ fq.nd (@QL _ _ _ _ _ (@qe _ _ _ _ _ _ _ _ qH qF)) (by rfl) (by first|exact Or.inl rfl|exact Or.inr rfl) (by rfl) (by first|exact .inl rfl|exact .inr rfl|assumption)) (@qM _ _ _ _ _ _ (@zw _ _ _ _ _ _ _ _ _ (@ZH _ _ _ _ _ _ _ _ rfl V.n_range (@qe _ _ _ _ _ _ _ _ qH (@zc _ _ _ _ _ _ _ _ _ (@Qj _ _ _ _ _ _ _ (@qG _ _ 1 _ _ (by rfl) (by rfl) (by rfl)) qH) qF)) (by rfl) (by rfl)) (@Qr _ _ 3 _ fq.nd (by rfl) (by first|exact Or.inl rfl|exact Or.inr rfl) (by first|exact .inl rfl|exact .inr rfl|assumption)) (@qU _ _ _ _ (@ZI _ _ _ _ _ _ _ _ _ (@qG _ _ 2 _ _ (by rfl) (by rfl) (by rfl)) (@lM _ _ _ _ _ _ _ (@YW _ _ _ _ _ _ _ _ _ (@QA _ _ _ _ (@wW _ _ _ _ _ _ _ (["ways","many"]) (["long","price"]) ([2,3]) _ _ _ _ _ (by exact wP rfl (by decide +kernel) rfl rfl ⟨⟨rfl,rfl⟩,⟨⟨rfl,rfl⟩,trivial⟩⟩) (@ww _ _ _ _ _ (@qG _ _ 0 _ _ (by rfl) (by rfl) (by rfl))) (fun L H' fp pn=>⟨(@QY _ _ _ _ _ _ _ (@qG _ _ 0 _ _ (by rfl) (by rfl) (by rfl)) (@Z7 _ _ _ _ _ _ _ (@qG _ _ 1 _ _ (by rfl) (by rfl) (by rfl)) (@qG _ _ 2 _ _ (by rfl) (by rfl) (by rfl))) (by exact fun _ _=>rfl)),⟨(@WK _ _ _ _ _ _ U (@qh _ _ _ _ _ (@QM _ _ 2 _ (show (["ways","many","long","price"]:EK Str).Nodup by decide +kernel) (by rfl) (by first|exact Or.inl rfl|exact Or.inr rfl) (by first|exact .inl rfl|exact .inr rfl|assumption)) (@qh _ _ _ _ _ (@QM _ _ 3 _ (show (["ways","many","long","price"]:EK Str).Nodup by decide +kernel) (by rfl) (by first|exact Or.inl rfl|exact Or.inr rfl) (by first|exact .inl rfl|exact .inr rfl|assumption)) wX (by rfl)) (by rfl)) (by rfl) (by rfl)),(wb (qm (qZ 2) (qm (qZ 3) wc))),(eV.cons (@Qn _ _ _ _ _ _ _ _ _ _ Wk Wj (@qG _ _ 2 _ _ (by rfl) (by rfl) (by rfl)) (@qG _ _ 1 _ _ (by rfl) (by rfl) (by rfl)) (by first|exact Qc _|with_unfolding_all rfl)) eV.nil),rfl⟩,fe.nil⟩) (by intro _;rfl))) qF) V.n_sum (by rfl) (by rfl) (by rfl)) (by rfl) (by rfl) (by rfl) (by rfl) (by rfl) (by rfl))) (by intro _;rfl)) (@qU _ _ _ _ (@qu _ _ _ _ _ (@QY _ _ _ _ _ _ _ (@qG _ _ 2 _ _ (by rfl) (by rfl) (by rfl)) (@Z0 _ _ _ _ _ qH) (by exact fun _ _=>rfl)))))))
def eJ:ez ["sorts","cells","lines","many","firsts","options"] ["sorts","cells"] (qJ QB):=⟨rfl,rfl,rfl,by decide +kernel,rfl,by decide +kernel,by decide +kernel⟩
def Z6(V:Env K mg a):eR P w K mg base 2 "cheapest_lines" a.cheapest_lines 2 (wz a):=by
 obtain⟨fd,F⟩:=V.f_cheapest_lines;refine wL (B:=w4 a) F eJ (F.binds (ps:=["sorts","cells"]) fun _ _ _ _ _ _ us hl=>match us,hl with|[_,_],_=>rfl) V.m_cheapest_lines (fun l st h=>qf h) (fun Em A outer s H E M R=>?_) (fun l Z hl Y=>qb hl);have q:=M.units;have U:(wV (fu P w) P w K mg base ["sorts","cells","lines","many","firsts","options"] "cheapest_lines" (qJ QB) a.cheapest_lines Em A outer s H E).calm=true:=by show A.handled.isNone=true;rw[R (by omega)];rfl
 exact (@qM _ _ _ _ _ _ (@Zf _ _ _ _ 2 _ _ _ eJ.nd (@QL _ _ _ _ _ (@wR _ _ _ _ _ _ _ _ (@qa _ _ _ _ _ _ (@qe _ _ _ _ _ _ _ _ qH (@wR _ _ _ _ _ _ _ _ (@qa _ _ _ _ _ _ qF) qF))) qF)) (by rfl) (by first|exact Or.inl rfl|exact Or.inr rfl) (by rfl) (by first|exact .inl rfl|exact .inr rfl|assumption)) (@qM _ _ _ _ _ _ (@zw _ _ _ _ _ _ _ _ _ (@ZH _ _ _ _ _ _ _ _ rfl V.n_range (@qe _ _ _ _ _ _ _ _ qH (@zc _ _ _ _ _ _ _ _ _ (@Qj _ _ _ _ _ _ _ (@qG _ _ 1 _ _ (by rfl) (by rfl) (by rfl)) qH) qF)) (by rfl) (by rfl)) (@Qr _ _ 3 _ eJ.nd (by rfl) (by first|exact Or.inl rfl|exact Or.inr rfl) (by first|exact .inl rfl|exact .inr rfl|assumption)) (@qM _ _ _ _ _ _ (@yT _ _ _ _ _ _ _ _ _ _ (["lines","many"]) (["long","price"]) ([2,3]) _ _ _ _ _ 4 eJ.nd (by exact wP rfl (by decide +kernel) rfl rfl ⟨⟨rfl,rfl⟩,⟨⟨rfl,rfl⟩,trivial⟩⟩) (@ww _ _ _ _ _ (@qG _ _ 0 _ _ (by rfl) (by rfl) (by rfl))) (fun L H' fp pn=>⟨(@qa _ _ _ _ _ _ (@qQ _ _ _ _ _ _ _ (@qG _ _ 2 _ _ (by rfl) (by rfl) (by rfl)) (@qQ _ _ _ _ _ _ _ (@qG _ _ 3 _ _ (by rfl) (by rfl) (by rfl)) (@ly _ _ _ _ _ _ _ _ (@QY _ _ _ _ _ _ _ (@qG _ _ 0 _ _ (by rfl) (by rfl) (by rfl)) (@Z7 _ _ _ _ _ _ _ (@qG _ _ 1 _ _ (by rfl) (by rfl) (by rfl)) (@qG _ _ 2 _ _ (by rfl) (by rfl) (by rfl))) (by exact fun _ _=>rfl)) qF)))),⟨(@WK _ _ _ _ _ _ U (@qh _ _ _ _ _ (@QM _ _ 2 _ (show (["lines","many","long","price"]:EK Str).Nodup by decide +kernel) (by rfl) (by first|exact Or.inl rfl|exact Or.inr rfl) (by first|exact .inl rfl|exact .inr rfl|assumption)) (@qh _ _ _ _ _ (@QM _ _ 3 _ (show (["lines","many","long","price"]:EK Str).Nodup by decide +kernel) (by rfl) (by first|exact Or.inl rfl|exact Or.inr rfl) (by first|exact .inl rfl|exact .inr rfl|assumption)) wX (by rfl)) (by rfl)) (by rfl) (by rfl)),(wb (qm (qZ 2) (qm (qZ 3) wc))),(eV.cons (@Qn _ _ _ _ _ _ _ _ _ _ Wk Wj (@qG _ _ 2 _ _ (by rfl) (by rfl) (by rfl)) (@qG _ _ 1 _ _ (by rfl) (by rfl) (by rfl)) (by first|exact Qc _|with_unfolding_all rfl)) eV.nil),rfl⟩,fe.nil⟩) (by rfl) (by first|exact Or.inl rfl|exact Or.inr rfl) (by first|exact .inl rfl|exact .inr rfl|assumption) (by rfl) (by intro _;rfl)) (@qM _ _ _ _ _ _ (@yT _ _ _ _ _ _ _ _ _ _ ([]) (["long","price","rest"]) ([]) _ _ _ _ _ 5 eJ.nd (by exact wP rfl (by decide +kernel) rfl rfl trivial) (@ww _ _ _ _ _ (@qG _ _ 4 _ _ (by rfl) (by rfl) (by rfl))) (fun L H' fp pn=>⟨(@qa _ _ _ _ _ _ (@zc _ _ _ _ _ _ _ _ _ (@Qj _ _ _ _ _ _ _ (@qG _ _ 1 _ _ (by rfl) (by rfl) (by rfl)) (@QY _ _ _ _ _ _ _ (@qG _ _ 2 _ _ (by rfl) (by rfl) (by rfl)) qH (by exact fun _ _=>rfl))) (@zc _ _ _ _ _ _ _ _ _ (@ZE _ _ _ _ _ _ _ (@qa _ _ _ _ _ _ (@qQ _ _ _ _ _ _ _ (@qG _ _ 0 _ _ (by rfl) (by rfl) (by rfl)) qF)) (@QY _ _ _ _ _ _ _ (@qG _ _ 2 _ _ (by rfl) (by rfl) (by rfl)) qH (by exact fun _ _=>rfl))) qF))),⟨(@WK _ _ _ _ _ _ U (@qh _ _ _ _ _ (@QM _ _ 0 _ (show (["long","price","rest"]:EK Str).Nodup by decide +kernel) (by rfl) (by first|exact Or.inl rfl|exact Or.inr rfl) (by first|exact .inl rfl|exact .inr rfl|assumption)) (@qh _ _ _ _ _ (@QM _ _ 1 _ (show (["long","price","rest"]:EK Str).Nodup by decide +kernel) (by rfl) (by first|exact Or.inl rfl|exact Or.inr rfl) (by first|exact .inl rfl|exact .inr rfl|assumption)) (@qh _ _ _ _ _ (@QM _ _ 2 _ (show (["long","price","rest"]:EK Str).Nodup by decide +kernel) (by rfl) (by first|exact Or.inl rfl|exact Or.inr rfl) (by first|exact .inl rfl|exact .inr rfl|assumption)) wX (by rfl)) (by rfl)) (by rfl)) (by rfl) (by rfl)),(wb (qm (qZ 0) (qm (qZ 1) (qm (qZ 2) wc)))),(eV.cons (@Qn _ _ _ _ _ _ _ _ _ _ oa JQ (@qG _ _ 2 _ _ (by rfl) (by rfl) (by rfl)) zG (by first|exact Qc _|with_unfolding_all rfl)) eV.nil),rfl⟩,fe.nil⟩) (by rfl) (by first|exact Or.inl rfl|exact Or.inr rfl) (by first|exact .inl rfl|exact .inr rfl|assumption) (by rfl) (by intro _;rfl)) (@qU _ _ _ _ (@ZI _ _ _ _ _ _ _ _ _ (@qG _ _ 2 _ _ (by rfl) (by rfl) (by rfl)) (@Da _ _ _ _ _ _ _ _ _ U q V.n_min (@qG _ _ 5 _ _ (by rfl) (by rfl) (by rfl)) (by rfl) (by rfl) (by rfl)) (by rfl) (by rfl) (by rfl) (by rfl) (by rfl) (by rfl))))) (by intro _;rfl)) (@qU _ _ _ _ (@qu _ _ _ _ _ (@qG _ _ 2 _ _ (by rfl) (by rfl) (by rfl))))))
def Z3:ez ["sorts","cells"] ["sorts","cells"] (qJ Qe):=⟨rfl,rfl,rfl,by decide +kernel,rfl,by decide +kernel,by decide +kernel⟩
def yL(V:Env K mg a):eR P w K mg base 7 "cheapest_line" a.cheapest_line 2 (Qd a):=by obtain⟨fd,F⟩:=V.f_cheapest_line;refine wL (B:=wY a) F Z3 (F.binds (ps:=["sorts","cells"]) fun _ _ _ _ _ _ us hl=>match us,hl with|[_,_],_=>rfl) V.m_cheapest_line (fun l st h=>qf h) (fun Em A outer s H E M R=>?_) (fun l Z hl Y=>qb hl);have q:=M.units;exact (@qM _ _ _ _ _ _ (@jO _ _ _ _ _ (@qX _ _ _ _ _ _ _ _ _ ((yD V).call (M.mono (by omega)) qy) (@qQ _ _ _ _ _ _ _ (@qG _ _ 0 _ _ (by rfl) (by rfl) (by rfl)) (@qQ _ _ _ _ _ _ _ (@qG _ _ 1 _ _ (by rfl) (by rfl) (by rfl)) qF)) (by rfl) (by rfl)) (by rfl)) (@qU _ _ _ _ (@qu _ _ _ _ _ (@QY _ _ _ _ _ _ _ (@qX _ _ _ _ _ _ _ _ _ ((Z6 V).call (M.mono (by omega)) qy) (@qQ _ _ _ _ _ _ _ (@qG _ _ 0 _ _ (by rfl) (by rfl) (by rfl)) (@qQ _ _ _ _ _ _ _ (@qG _ _ 1 _ _ (by rfl) (by rfl) (by rfl)) qF)) (by rfl) (by rfl)) (@Z0 _ _ _ _ _ qH) (by exact fun _ _=>rfl)))))
def tU:ez ["_law_script","_law_k"] ["_law_script","_law_k"] (qJ w6):=⟨rfl,rfl,rfl,by decide +kernel,rfl,by decide +kernel,by decide +kernel⟩
def rQ(V:Env K mg a):eR P w K mg base 2 "_law_cell" a.law_cell 2 (zK a):=by obtain⟨fd,F⟩:=V.f_law_cell;refine wL (B:=zO a) F tU (F.binds (ps:=["_law_script","_law_k"]) fun _ _ _ _ _ _ us hl=>match us,hl with|[_,_],_=>rfl) V.m_law_cell (fun l st h=>qf h) (fun Em A outer s H E M R=>?_) (fun l Z hl Y=>qb hl);have q:=M.units;exact (@qM _ _ _ _ _ _ (@WD _ _ _ _ _ _ _ _ _ (@Qn _ _ _ _ _ _ _ _ _ _ lD lI (@qG _ _ 1 _ _ (by rfl) (by rfl) (by rfl)) (@WO _ _ _ _ _ _ _ (@qQ _ _ _ _ _ _ _ (@qG _ _ 0 _ _ (by rfl) (by rfl) (by rfl)) qF) V.n_len (by rfl) (by rfl) (by rfl)) (by first|exact Qc _|with_unfolding_all rfl)) (@qU _ _ _ _ (@qu _ _ _ _ _ (@QY _ _ _ _ _ _ _ (@qG _ _ 0 _ _ (by rfl) (by rfl) (by rfl)) (@qG _ _ 1 _ _ (by rfl) (by rfl) (by rfl)) (by exact fun _ _=>rfl)))) Qg) (@qU _ _ _ _ (@qu _ _ _ _ _ (@Qj _ _ _ _ _ _ _ (@Z4 _ _ _ _ _ _ _ qH (@qG _ _ 1 _ _ (by rfl) (by rfl) (by rfl))) qH))))
def eQ:ez ["_law_script","_law_k","_law_cell_here","_law_number","_law_mixed","_law_j"] ["_law_script","_law_k"] (qJ WS):=⟨rfl,rfl,rfl,by decide +kernel,rfl,by decide +kernel,by decide +kernel⟩
def vU(V:Env K mg a):eR P w K mg base 3 "_law_box" a.law_box 2 (ZD a):=by obtain⟨fd,F⟩:=V.f_law_box;refine wL (B:=ZG a) F eQ (F.binds (ps:=["_law_script","_law_k"]) fun _ _ _ _ _ _ us hl=>match us,hl with|[_,_],_=>rfl) V.m_law_box (fun l st h=>qf h) (fun Em A outer s H E M R=>?_) (fun l Z hl Y=>qb hl);have q:=M.units;exact (@qM _ _ _ _ _ _ (@QI _ _ _ _ _ 2 _ _ eQ.nd (@qX _ _ _ _ _ _ _ _ _ ((rQ V).call (M.mono (by omega)) qy) (@qQ _ _ _ _ _ _ _ (@qG _ _ 0 _ _ (by rfl) (by rfl) (by rfl)) (@qQ _ _ _ _ _ _ _ (@qG _ _ 1 _ _ (by rfl) (by rfl) (by rfl)) qF)) (by rfl) (by rfl)) (by rfl) (by first|exact Or.inl rfl|exact Or.inr rfl) (by rfl) (by first|exact .inl rfl|exact .inr rfl|assumption)) (@qM _ _ _ _ _ _ (@WD _ _ _ _ _ _ _ _ _ (@Qn _ _ _ _ _ _ _ _ _ _ (kZ q) k6 (@jq _ _ _ _ _ _ _ (@qG _ _ 2 _ _ (by rfl) (by rfl) (by rfl)) qH) qH (by first|exact Qc _|with_unfolding_all rfl)) (@qU _ _ _ _ (@nS _ _ _ _ _ (@QL _ _ _ _ _ (@zc _ _ _ _ _ _ _ _ _ (@um _ _ _ _ _ _ _ (@qG _ _ 2 _ _ (by rfl) (by rfl) (by rfl)) qH) qF)))) Qg) (@qM _ _ _ _ _ _ (@QI _ _ _ _ _ 3 _ _ eQ.nd qH (by rfl) (by first|exact Or.inl rfl|exact Or.inr rfl) (by rfl) (by first|exact .inl rfl|exact .inr rfl|assumption)) (@qM _ _ _ _ _ _ (@QI _ _ _ _ _ 4 _ _ eQ.nd (@jq _ _ _ _ _ _ _ (@qG _ _ 2 _ _ (by rfl) (by rfl) (by rfl)) qH) (by rfl) (by first|exact Or.inl rfl|exact Or.inr rfl) (by rfl) (by first|exact .inl rfl|exact .inr rfl|assumption)) (@qM _ _ _ _ _ _ (@zw _ _ _ _ _ _ _ _ _ (@W8 _ _ _ _ _ _ _ rfl V.n_range (@qe _ _ _ _ _ _ _ _ qH qF) (by rfl)) (@Qr _ _ 5 _ eQ.nd (by rfl) (by first|exact Or.inl rfl|exact Or.inr rfl) (by first|exact .inl rfl|exact .inr rfl|assumption)) (@qM _ _ _ _ _ _ (@QI _ _ _ _ _ 4 _ _ eQ.nd (@jq _ _ _ _ _ _ _ (@Qj _ _ _ _ _ _ _ (@Qj _ _ _ _ _ _ _ (@Qj _ _ _ _ _ _ _ (@Z4 _ _ _ _ _ _ _ (@qG _ _ 4 _ _ (by rfl) (by rfl) (by rfl)) qH) (@Z4 _ _ _ _ _ _ _ (@Z4 _ _ _ _ _ _ _ qH (@qG _ _ 5 _ _ (by rfl) (by rfl) (by rfl))) (@qG _ _ 5 _ _ (by rfl) (by rfl) (by rfl)))) (@Z4 _ _ _ _ _ _ _ qH (@qG _ _ 1 _ _ (by rfl) (by rfl) (by rfl)))) qH) qH) (by rfl) (by first|exact Or.inl rfl|exact Or.inr rfl) (by rfl) (by first|exact .inl rfl|exact .inr rfl|assumption)) (@qU _ _ _ _ (@QI _ _ _ _ _ 3 _ _ eQ.nd (@Qj _ _ _ _ _ _ _ (@Z4 _ _ _ _ _ _ _ (@qG _ _ 3 _ _ (by rfl) (by rfl) (by rfl)) qH) (@qG _ _ 4 _ _ (by rfl) (by rfl) (by rfl))) (by rfl) (by first|exact Or.inl rfl|exact Or.inr rfl) (by rfl) (by first|exact .inl rfl|exact .inr rfl|assumption)))) (by intro _;rfl)) (@qU _ _ _ _ (@nS _ _ _ _ _ (@QL _ _ _ _ _ (@qQ _ _ _ _ _ _ _ (@qG _ _ 3 _ _ (by rfl) (by rfl) (by rfl)) qF)))))))))
def fP:ez ["_law_box_here","_law_many","_law_digit"] ["_law_box_here","_law_many"] (qJ w5):=⟨rfl,rfl,rfl,by decide +kernel,rfl,by decide +kernel,by decide +kernel⟩
def QW(V:Env K mg a):eR P w K mg base 2 "_law_take" a.law_take 2 (qg a):=by obtain⟨fd,F⟩:=V.f_law_take;refine wL (B:=ZR a) F fP (F.binds (ps:=["_law_box_here","_law_many"]) fun _ _ _ _ _ _ us hl=>match us,hl with|[_,_],_=>rfl) V.m_law_take (fun l st h=>qf h) (fun Em A outer s H E M R=>?_) (fun l Z hl Y=>qb hl);have q:=M.units;exact (@qM _ _ _ _ _ _ (@QI _ _ _ _ _ 2 _ _ fP.nd (@jq _ _ _ _ _ _ _ (@QY _ _ _ _ _ _ _ (@qG _ _ 0 _ _ (by rfl) (by rfl) (by rfl)) qH (by exact fun _ _=>rfl)) (@qG _ _ 1 _ _ (by rfl) (by rfl) (by rfl))) (by rfl) (by first|exact Or.inl rfl|exact Or.inr rfl) (by rfl) (by first|exact .inl rfl|exact .inr rfl|assumption)) (@qM _ _ _ _ _ _ (@vw _ _ _ _ _ _ _ _ _ _ (@qG _ _ 0 _ _ (by rfl) (by rfl) (by rfl)) qH (@tF _ _ _ _ _ _ _ (@QY _ _ _ _ _ _ _ (@qG _ _ 0 _ _ (by rfl) (by rfl) (by rfl)) qH (by exact fun _ _=>rfl)) (@qG _ _ 1 _ _ (by rfl) (by rfl) (by rfl))) (by rfl) (by rfl) (by rfl) (by intro _;rfl)) (@qU _ _ _ _ (@qu _ _ _ _ _ (@qG _ _ 2 _ _ (by rfl) (by rfl) (by rfl))))))
def eX:ez ["_law_e","_law_kinds","_law_words"] ["_law_e"] (qJ w8):=⟨rfl,rfl,rfl,by decide +kernel,rfl,by decide +kernel,by decide +kernel⟩
def tq(V:Env K mg a):eR P w K mg base 1 "_law_kind" a.law_kind 1 (WZ a):=by obtain⟨fd,F⟩:=V.f_law_kind;refine wL (B:=zM a) F eX (F.binds (ps:=["_law_e"]) fun _ _ _ _ _ _ us hl=>match us,hl with|[_],_=>rfl) V.m_law_kind (fun l st h=>qf h) (fun Em A outer s H E M R=>?_) (fun l Z hl Y=>qb hl);have q:=M.units;exact (@qM _ _ _ _ _ _ (@QI _ _ _ _ _ 1 _ _ eX.nd (@QA _ _ _ _ (@QL _ _ _ _ _ (@W6 _ _ _ _ _ _ _ _ _ (@QS _ _ _ _ _ _ _ _ V.kit V.n_isinstance (@qQ _ _ _ _ _ _ _ (@qG _ _ 0 _ _ (by rfl) (by rfl) (by rfl)) (@qQ _ _ _ _ _ _ _ (@Wx _ _ _ _ _ rfl V.k_Z1 (by decide)) qF)) (by rfl) (by rfl) (by rfl)) (@W6 _ _ _ _ _ _ _ _ _ (@QS _ _ _ _ _ _ _ _ V.kit V.n_isinstance (@qQ _ _ _ _ _ _ _ (@qG _ _ 0 _ _ (by rfl) (by rfl) (by rfl)) (@qQ _ _ _ _ _ _ _ (@Wx _ _ _ _ _ rfl V.k_Z2 (by decide)) qF)) (by rfl) (by rfl) (by rfl)) (@W6 _ _ _ _ _ _ _ _ _ (@QS _ _ _ _ _ _ _ _ V.kit V.n_isinstance (@qQ _ _ _ _ _ _ _ (@qG _ _ 0 _ _ (by rfl) (by rfl) (by rfl)) (@qQ _ _ _ _ _ _ _ (@Wx _ _ _ _ _ rfl V.k_Z3 (by decide)) qF)) (by rfl) (by rfl) (by rfl)) (@W6 _ _ _ _ _ _ _ _ _ (@QS _ _ _ _ _ _ _ _ V.kit V.n_isinstance (@qQ _ _ _ _ _ _ _ (@qG _ _ 0 _ _ (by rfl) (by rfl) (by rfl)) (@qQ _ _ _ _ _ _ _ (@Wx _ _ _ _ _ rfl V.k_Z4 (by decide)) qF)) (by rfl) (by rfl) (by rfl)) qF)))))) (by rfl) (by first|exact Or.inl rfl|exact Or.inr rfl) (by rfl) (by first|exact .inl rfl|exact .inr rfl|assumption)) (@qM _ _ _ _ _ _ (@QI _ _ _ _ _ 1 _ _ eX.nd (@QA _ _ _ _ (@ZL _ _ _ _ _ _ _ (@qG _ _ 1 _ _ (by rfl) (by rfl) (by rfl)) (@QA _ _ _ _ (@QL _ _ _ _ _ (@W6 _ _ _ _ _ _ _ _ _ (@QS _ _ _ _ _ _ _ _ V.kit V.n_isinstance (@qQ _ _ _ _ _ _ _ (@qG _ _ 0 _ _ (by rfl) (by rfl) (by rfl)) (@qQ _ _ _ _ _ _ _ (@Wx _ _ _ _ _ rfl V.k_Z5 (by decide)) qF)) (by rfl) (by rfl) (by rfl)) (@W6 _ _ _ _ _ _ _ _ _ (@QS _ _ _ _ _ _ _ _ V.kit V.n_isinstance (@qQ _ _ _ _ _ _ _ (@qG _ _ 0 _ _ (by rfl) (by rfl) (by rfl)) (@qQ _ _ _ _ _ _ _ (@Wx _ _ _ _ _ rfl V.k_Z6 (by decide)) qF)) (by rfl) (by rfl) (by rfl)) (@W6 _ _ _ _ _ _ _ _ _ (@QS _ _ _ _ _ _ _ _ V.kit V.n_isinstance (@qQ _ _ _ _ _ _ _ (@qG _ _ 0 _ _ (by rfl) (by rfl) (by rfl)) (@qQ _ _ _ _ _ _ _ (@Wx _ _ _ _ _ rfl V.k_Z7 (by decide)) qF)) (by rfl) (by rfl) (by rfl)) (@W6 _ _ _ _ _ _ _ _ _ (@QS _ _ _ _ _ _ _ _ V.kit V.n_isinstance (@qQ _ _ _ _ _ _ _ (@qG _ _ 0 _ _ (by rfl) (by rfl) (by rfl)) (@qQ _ _ _ _ _ _ _ (@Wx _ _ _ _ _ rfl V.k_Z8 (by decide)) qF)) (by rfl) (by rfl) (by rfl)) qF)))))))) (by rfl) (by first|exact Or.inl rfl|exact Or.inr rfl) (by rfl) (by first|exact .inl rfl|exact .inr rfl|assumption)) (@qM _ _ _ _ _ _ (@QI _ _ _ _ _ 1 _ _ eX.nd (@QA _ _ _ _ (@ZL _ _ _ _ _ _ _ (@qG _ _ 1 _ _ (by rfl) (by rfl) (by rfl)) (@QA _ _ _ _ (@QL _ _ _ _ _ (@W6 _ _ _ _ _ _ _ _ _ (@QS _ _ _ _ _ _ _ _ V.kit V.n_isinstance (@qQ _ _ _ _ _ _ _ (@qG _ _ 0 _ _ (by rfl) (by rfl) (by rfl)) (@qQ _ _ _ _ _ _ _ (@Wx _ _ _ _ _ rfl V.k_Z9 (by decide)) qF)) (by rfl) (by rfl) (by rfl)) (@W6 _ _ _ _ _ _ _ _ _ (@QS _ _ _ _ _ _ _ _ V.kit V.n_isinstance (@qQ _ _ _ _ _ _ _ (@qG _ _ 0 _ _ (by rfl) (by rfl) (by rfl)) (@qQ _ _ _ _ _ _ _ (@Wx _ _ _ _ _ rfl V.k_Z10 (by decide)) qF)) (by rfl) (by rfl) (by rfl)) (@W6 _ _ _ _ _ _ _ _ _ (@QS _ _ _ _ _ _ _ _ V.kit V.n_isinstance (@qQ _ _ _ _ _ _ _ (@qG _ _ 0 _ _ (by rfl) (by rfl) (by rfl)) (@qQ _ _ _ _ _ _ _ (@Wx _ _ _ _ _ rfl V.k_Z11 (by decide)) qF)) (by rfl) (by rfl) (by rfl)) qF))))))) (by rfl) (by first|exact Or.inl rfl|exact Or.inr rfl) (by rfl) (by first|exact .inl rfl|exact .inr rfl|assumption)) (@qM _ _ _ _ _ _ (@WD _ _ _ _ _ _ _ _ _ (@iL _ _ _ _ (@YI _ _ _ _ _ _ _ _ (@ZQ _ _ _ _ _ (@ZO _ _ _ _ (@QS _ _ _ _ _ _ _ _ V.kit V.n_isinstance (@qQ _ _ _ _ _ _ _ (@qG _ _ 0 _ _ (by rfl) (by rfl) (by rfl)) (@qQ _ _ _ _ _ _ _ (@Wy _ _ _ _ _ rfl V.n_ValueError Boot.«ValueError» (by decide) (by decide)) qF)) (by rfl) (by rfl) (by rfl)) (by intro _;rfl))) (@Zy _ _ _ _ _ (@Qn _ _ _ _ _ _ _ _ _ _ (zp q) yB (@lM _ _ _ _ _ _ _ (@YW _ _ _ _ _ _ _ _ _ (@QA _ _ _ _ (@wW _ _ _ _ _ _ _ ([]) (["_law_kind_here"]) ([]) _ _ _ _ _ (by exact wP rfl (by decide +kernel) rfl rfl trivial) (@ww _ _ _ _ _ (@qG _ _ 1 _ _ (by rfl) (by rfl) (by rfl))) (fun L H' fp pn=>⟨(@uz _ _ _ _ _ _ _ (@qQ _ _ _ _ _ _ _ (@qG _ _ 0 _ _ (by rfl) (by rfl) (by rfl)) qF) V.n_int (by rfl) (by rfl) (by rfl)),⟨(@QM _ _ 0 _ (show (["_law_kind_here"]:EK Str).Nodup by decide +kernel) (by rfl) (by first|exact Or.inl rfl|exact Or.inr rfl) (by first|exact .inl rfl|exact .inr rfl|assumption)),(qZ 0),eV.nil,rfl⟩,fe.nil⟩) (by intro _;rfl))) qF) V.n_sum (by rfl) (by rfl) (by rfl)) qH (by first|exact Qc _|with_unfolding_all rfl))))) (@qU _ _ _ _ (@qu _ _ _ _ _ QT)) Qg) (@qM _ _ _ _ _ _ (@QI _ _ _ _ _ 2 _ _ eX.nd (@QA _ _ _ _ (@QL _ _ _ _ _ (@qe _ _ _ _ _ _ _ _ QT (@qe _ _ _ _ _ _ _ _ QT (@qe _ _ _ _ _ _ _ _ QT (@qe _ _ _ _ _ _ _ _ QT (@qe _ _ _ _ _ _ _ _ QT (@qe _ _ _ _ _ _ _ _ QT (@qe _ _ _ _ _ _ _ _ QT (@qe _ _ _ _ _ _ _ _ QT (@qe _ _ _ _ _ _ _ _ QT (@qe _ _ _ _ _ _ _ _ QT (@qe _ _ _ _ _ _ _ _ QT qF))))))))))))) (by rfl) (by first|exact Or.inl rfl|exact Or.inr rfl) (by rfl) (by first|exact .inl rfl|exact .inr rfl|assumption)) (@qU _ _ _ _ (@qu _ _ _ _ _ (@tV _ _ _ _ _ _ _ QT (@QY _ _ _ _ _ _ _ (@qG _ _ 2 _ _ (by rfl) (by rfl) (by rfl)) (@vh _ _ _ _ _ _ _ _ q (@qG _ _ 1 _ _ (by rfl) (by rfl) (by rfl)) zX (by rfl) (by rfl) (by rfl) (by rfl) (by rfl)) (by exact fun _ _=>rfl))))))))))
def JU:ez ["_law_found","_law_due"] ["_law_found","_law_due"] (qJ wa):=⟨rfl,rfl,rfl,by decide +kernel,rfl,by decide +kernel,by decide +kernel⟩
def yH(V:Env K mg a):∀n,eR P w K mg base (n+1) "_law_same" a.law_same 2 (qv n a)
 |0=>by obtain⟨fd,F⟩:=V.f_law_same;exact og F (F.binds (ps:=["_law_found","_law_due"]) fun _ _ _ _ _ _ us hl=>match us,hl with|[_,_],_=>rfl) V.m_law_same fun _ _=>rfl
 |n+1=>by
  obtain⟨fd,F⟩:=V.f_law_same;have I:=yH V n;refine wL (B:=wC a (qv n a)) F JU (F.binds (ps:=["_law_found","_law_due"]) fun _ _ _ _ _ _ us hl=>match us,hl with|[_,_],_=>rfl) V.m_law_same (fun l st h=>qf h) (fun Em A outer s H E M R=>?_) (fun l Z hl Y=>qb hl);have q:=M.units;have U:(wV (fu P w) P w K mg base ["_law_found","_law_due"] "_law_same" (qJ wa) a.law_same Em A outer s H E).calm=true:=by show A.handled.isNone=true;rw[R (by omega)];rfl
  exact (@qM _ _ _ _ _ _ (@WD _ _ _ _ _ _ _ _ _ (@ZO _ _ _ _ (@QS _ _ _ _ _ _ _ _ V.kit V.n_isinstance (@qQ _ _ _ _ _ _ _ (@qG _ _ 1 _ _ (by rfl) (by rfl) (by rfl)) (@wR _ _ _ _ _ _ _ _ (@qa _ _ _ _ _ _ (@qQ _ _ _ _ _ _ _ (@Wy _ _ _ _ _ rfl V.n_tuple Boot.«tuple» (by decide) (by decide)) (@qQ _ _ _ _ _ _ _ (@Wy _ _ _ _ _ rfl V.n_list Boot.«list» (by decide) (by decide)) qF))) qF)) (by rfl) (by rfl) (by rfl)) (by intro _;rfl)) (@qM _ _ _ _ _ _ (@WD _ _ _ _ _ _ _ _ _ (@iL _ _ _ _ (@YI _ _ _ _ _ _ _ _ (@Qn _ _ _ _ _ _ _ _ _ _ (zp q) yB (@QS _ _ _ _ _ _ _ _ V.kit V.n_isinstance (@qQ _ _ _ _ _ _ _ (@qG _ _ 0 _ _ (by rfl) (by rfl) (by rfl)) (@qQ _ _ _ _ _ _ _ (@Wy _ _ _ _ _ rfl V.n_tuple Boot.«tuple» (by decide) (by decide)) qF)) (by rfl) (by rfl) (by rfl)) (@QS _ _ _ _ _ _ _ _ V.kit V.n_isinstance (@qQ _ _ _ _ _ _ _ (@qG _ _ 1 _ _ (by rfl) (by rfl) (by rfl)) (@qQ _ _ _ _ _ _ _ (@Wy _ _ _ _ _ rfl V.n_tuple Boot.«tuple» (by decide) (by decide)) qF)) (by rfl) (by rfl) (by rfl)) (by first|exact Qc _|with_unfolding_all rfl)) (@Zy _ _ _ _ _ (@Qn _ _ _ _ _ _ _ _ _ _ (zp q) yB (@QS _ _ _ _ _ _ _ _ V.kit V.n_isinstance (@qQ _ _ _ _ _ _ _ (@qG _ _ 0 _ _ (by rfl) (by rfl) (by rfl)) (@qQ _ _ _ _ _ _ _ (@Wy _ _ _ _ _ rfl V.n_list Boot.«list» (by decide) (by decide)) qF)) (by rfl) (by rfl) (by rfl)) (@QS _ _ _ _ _ _ _ _ V.kit V.n_isinstance (@qQ _ _ _ _ _ _ _ (@qG _ _ 1 _ _ (by rfl) (by rfl) (by rfl)) (@qQ _ _ _ _ _ _ _ (@Wy _ _ _ _ _ rfl V.n_list Boot.«list» (by decide) (by decide)) qF)) (by rfl) (by rfl) (by rfl)) (by first|exact Qc _|with_unfolding_all rfl))))) (@qU _ _ _ _ (@qu _ _ _ _ _ zX)) Qg) (@qU _ _ _ _ (@qu _ _ _ _ _ (@zn _ _ _ _ _ _ _ _ (@kJ _ _ _ _ _ _ _ q (@WO _ _ _ _ _ _ _ (@qQ _ _ _ _ _ _ _ (@qG _ _ 0 _ _ (by rfl) (by rfl) (by rfl)) qF) V.n_len (by rfl) (by rfl) (by rfl)) (@WO _ _ _ _ _ _ _ (@qQ _ _ _ _ _ _ _ (@qG _ _ 1 _ _ (by rfl) (by rfl) (by rfl)) qF) V.n_len (by rfl) (by rfl) (by rfl))) (@Zq _ _ _ _ _ _ (@jW _ _ _ _ _ _ _ (@YW _ _ _ _ _ _ _ _ _ (@QA _ _ _ _ (@wW _ _ _ _ _ _ _ ([]) (["_law_one","_law_other"]) ([]) _ _ _ _ _ (by exact wP rfl (by decide +kernel) rfl rfl trivial) (@u0 _ _ _ _ _ _ _ _ _ _ U V.n_zip (@qQ _ _ _ _ _ _ _ (@qG _ _ 0 _ _ (by rfl) (by rfl) (by rfl)) (@qQ _ _ _ _ _ _ _ (@qG _ _ 1 _ _ (by rfl) (by rfl) (by rfl)) qF)) (by rfl) (by rfl) (by rfl)) (fun L H' fp pn=>⟨(@qX _ _ _ _ _ _ _ _ _ (I.call (M.mono (by omega)) (QE _)) (@qQ _ _ _ _ _ _ _ (@qG _ _ 0 _ _ (by rfl) (by rfl) (by rfl)) (@qQ _ _ _ _ _ _ _ (@qG _ _ 1 _ _ (by rfl) (by rfl) (by rfl)) qF)) (by rfl) (by rfl)),⟨(@WK _ _ _ _ _ _ U (@qh _ _ _ _ _ (@QM _ _ 0 _ (show (["_law_one","_law_other"]:EK Str).Nodup by decide +kernel) (by rfl) (by first|exact Or.inl rfl|exact Or.inr rfl) (by first|exact .inl rfl|exact .inr rfl|assumption)) (@qh _ _ _ _ _ (@QM _ _ 1 _ (show (["_law_one","_law_other"]:EK Str).Nodup by decide +kernel) (by rfl) (by first|exact Or.inl rfl|exact Or.inr rfl) (by first|exact .inl rfl|exact .inr rfl|assumption)) wX (by rfl)) (by rfl)) (by rfl) (by rfl)),(wb (qm (qZ 0) (qm (qZ 1) wc))),eV.nil,rfl⟩,fe.nil⟩) (by intro _;rfl))) qF) V.n_all (by rfl) (by rfl) (by rfl))))))) Qg) (@qU _ _ _ _ (@qu _ _ _ _ _ (@zn _ _ _ _ _ _ _ _ (@kJ _ _ _ _ _ _ _ q (@qG _ _ 0 _ _ (by rfl) (by rfl) (by rfl)) (@qG _ _ 1 _ _ (by rfl) (by rfl) (by rfl))) (@Zq _ _ _ _ _ _ (@kJ _ _ _ _ _ _ _ q (@QS _ _ _ _ _ _ _ _ V.kit V.n_isinstance (@qQ _ _ _ _ _ _ _ (@qG _ _ 0 _ _ (by rfl) (by rfl) (by rfl)) (@qQ _ _ _ _ _ _ _ (@Wy _ _ _ _ _ rfl V.n_bool Boot.«bool» (by decide) (by decide)) qF)) (by rfl) (by rfl) (by rfl)) (@QS _ _ _ _ _ _ _ _ V.kit V.n_isinstance (@qQ _ _ _ _ _ _ _ (@qG _ _ 1 _ _ (by rfl) (by rfl) (by rfl)) (@qQ _ _ _ _ _ _ _ (@Wy _ _ _ _ _ rfl V.n_bool Boot.«bool» (by decide) (by decide)) qF)) (by rfl) (by rfl) (by rfl))))))))
def D6(V:Env K mg a):eR P w K mg base 5 "_law_same" a.law_same 2 (qv 4 a):=yH V 4
def fv:ez ["_law_box_here","_law_longs","_law_most"] ["_law_box_here"] (qJ wA):=⟨rfl,rfl,rfl,by decide +kernel,rfl,by decide +kernel,by decide +kernel⟩
def tw(V:Env K mg a):eR P w K mg base 3 "_law_sorts" a.law_sorts 1 (Wf a):=by
 obtain⟨fd,F⟩:=V.f_law_sorts;refine wL (B:=zd a) F fv (F.binds (ps:=["_law_box_here"]) fun _ _ _ _ _ _ us hl=>match us,hl with|[_],_=>rfl) V.m_law_sorts (fun l st h=>qf h) (fun Em A outer s H E M R=>?_) (fun l Z hl Y=>qb hl);have q:=M.units;have U:(wV (fu P w) P w K mg base ["_law_box_here","_law_longs","_law_most"] "_law_sorts" (qJ wA) a.law_sorts Em A outer s H E).calm=true:=by show A.handled.isNone=true;rw[R (by omega)];rfl
 exact (@qM _ _ _ _ _ _ (@QI _ _ _ _ _ 1 _ _ fv.nd (@xB _ _ _ _ _ _ _ _ U V.n_sorted V.n_set (@QA _ _ _ _ (@wW _ _ _ _ _ _ _ (["_law_box_here"]) (["_law_turn"]) ([0]) _ _ _ _ _ (by exact wP rfl (by decide +kernel) rfl rfl ⟨⟨rfl,rfl⟩,trivial⟩) (@W8 _ _ _ _ _ _ _ rfl V.n_range (@zc _ _ _ _ _ _ _ _ _ (@Qj _ _ _ _ _ _ _ qH (@qX _ _ _ _ _ _ _ _ _ ((QW V).call (M.mono (by omega)) qy) (@qQ _ _ _ _ _ _ _ (@qG _ _ 0 _ _ (by rfl) (by rfl) (by rfl)) (@qe _ _ _ _ _ _ _ _ qH qF)) (by rfl) (by rfl))) qF) (by rfl)) (fun L H' fp pn=>⟨(@Qj _ _ _ _ _ _ _ qH (@qX _ _ _ _ _ _ _ _ _ ((QW V).call (M.mono (by omega)) (QE _)) (@qQ _ _ _ _ _ _ _ (@qG _ _ 0 _ _ (by rfl) (by rfl) (by rfl)) (@ly _ _ _ _ _ _ _ _ (@QY _ _ _ _ _ _ _ (@QA _ _ _ _ (@QL _ _ _ _ _ (@qe _ _ _ _ _ _ _ _ qH (@qe _ _ _ _ _ _ _ _ qH qF)))) (@qX _ _ _ _ _ _ _ _ _ ((QW V).call (M.mono (by omega)) (QE _)) (@qQ _ _ _ _ _ _ _ (@qG _ _ 0 _ _ (by rfl) (by rfl) (by rfl)) (@qe _ _ _ _ _ _ _ _ qH qF)) (by rfl) (by rfl)) (by exact fun _ _=>rfl)) qF)) (by rfl) (by rfl))),⟨(@QM _ _ 1 _ (show (["_law_box_here","_law_turn"]:EK Str).Nodup by decide +kernel) (by rfl) (by first|exact Or.inl rfl|exact Or.inr rfl) (by first|exact .inl rfl|exact .inr rfl|assumption)),(qZ 1),eV.nil,rfl⟩,fe.nil⟩) (by intro _;rfl))) (by rfl) (by rfl) (by rfl) (by rfl)) (by rfl) (by first|exact Or.inl rfl|exact Or.inr rfl) (by rfl) (by first|exact .inl rfl|exact .inr rfl|assumption)) (@qM _ _ _ _ _ _ (@QI _ _ _ _ _ 2 _ _ fv.nd (@QY _ _ _ _ _ _ _ (@QA _ _ _ _ (@QL _ _ _ _ _ (@qe _ _ _ _ _ _ _ _ qH (@qe _ _ _ _ _ _ _ _ qH (@zc _ _ _ _ _ _ _ _ _ (@Qj _ _ _ _ _ _ _ (@jS _ _ _ _ _ _ _ qH qH) qH) qF))))) (@qX _ _ _ _ _ _ _ _ _ ((QW V).call (M.mono (by omega)) qy) (@qQ _ _ _ _ _ _ _ (@qG _ _ 0 _ _ (by rfl) (by rfl) (by rfl)) (@qe _ _ _ _ _ _ _ _ qH qF)) (by rfl) (by rfl)) (by exact fun _ _=>rfl)) (by rfl) (by first|exact Or.inl rfl|exact Or.inr rfl) (by rfl) (by first|exact .inl rfl|exact .inr rfl|assumption)) (@qU _ _ _ _ (@qu _ _ _ _ _ (@rH _ _ _ _ _ _ _ (@YW _ _ _ _ _ _ _ _ _ (@QA _ _ _ _ (@wW _ _ _ _ _ _ _ (["_law_box_here","_law_most"]) (["_law_long"]) ([0,2]) _ _ _ _ _ (by exact wP rfl (by decide +kernel) rfl rfl ⟨⟨rfl,rfl⟩,⟨⟨rfl,rfl⟩,trivial⟩⟩) (@ww _ _ _ _ _ (@qG _ _ 1 _ _ (by rfl) (by rfl) (by rfl))) (fun L H' fp pn=>⟨(@qa _ _ _ _ _ _ (@qQ _ _ _ _ _ _ _ (@qG _ _ 2 _ _ (by rfl) (by rfl) (by rfl)) (@W6 _ _ _ _ _ _ _ _ _ (@qX _ _ _ _ _ _ _ _ _ ((QW V).call (M.mono (by omega)) (QE _)) (@qQ _ _ _ _ _ _ _ (@qG _ _ 0 _ _ (by rfl) (by rfl) (by rfl)) (@qQ _ _ _ _ _ _ _ (@qG _ _ 1 _ _ (by rfl) (by rfl) (by rfl)) qF)) (by rfl) (by rfl)) qF))),⟨(@QM _ _ 2 _ (show (["_law_box_here","_law_most","_law_long"]:EK Str).Nodup by decide +kernel) (by rfl) (by first|exact Or.inl rfl|exact Or.inr rfl) (by first|exact .inl rfl|exact .inr rfl|assumption)),(qZ 2),eV.nil,rfl⟩,fe.nil⟩) (by intro _;rfl))) qF) V.n_tuple (by rfl) (by rfl) (by rfl))))))
def eA:ez ["_law_box_here","_law_sorts_here","_law_at","_law_long","_law_price","_law_odd","_law_new","_law_some"] ["_law_box_here","_law_sorts_here"] (qJ QV):=⟨rfl,rfl,rfl,by decide +kernel,rfl,by decide +kernel,by decide +kernel⟩
def yc(V:Env K mg a):eR P w K mg base 3 "_law_no_sorts" a.law_no_sorts 2 (wp a):=by
 obtain⟨fd,F⟩:=V.f_law_no_sorts;refine wL (B:=WX a) F eA (F.binds (ps:=["_law_box_here","_law_sorts_here"]) fun _ _ _ _ _ _ us hl=>match us,hl with|[_,_],_=>rfl) V.m_law_no_sorts (fun l st h=>qf h) (fun Em A outer s H E M R=>?_) (fun l Z hl Y=>qb hl);have q:=M.units;have U:(wV (fu P w) P w K mg base ["_law_box_here","_law_sorts_here","_law_at","_law_long","_law_price","_law_odd","_law_new","_law_some"] "_law_no_sorts" (qJ QV) a.law_no_sorts Em A outer s H E).calm=true:=by show A.handled.isNone=true;rw[R (by omega)];rfl
 exact (@qM _ _ _ _ _ _ (@QI _ _ _ _ _ 2 _ _ eA.nd (@qX _ _ _ _ _ _ _ _ _ ((QW V).call (M.mono (by omega)) qy) (@qQ _ _ _ _ _ _ _ (@qG _ _ 0 _ _ (by rfl) (by rfl) (by rfl)) (@W6 _ _ _ _ _ _ _ _ _ (@WO _ _ _ _ _ _ _ (@qQ _ _ _ _ _ _ _ (@qG _ _ 1 _ _ (by rfl) (by rfl) (by rfl)) qF) V.n_len (by rfl) (by rfl) (by rfl)) qF)) (by rfl) (by rfl)) (by rfl) (by first|exact Or.inl rfl|exact Or.inr rfl) (by rfl) (by first|exact .inl rfl|exact .inr rfl|assumption)) (@qM _ _ _ _ _ _ (@nu _ _ _ _ _ _ _ (@QY _ _ _ _ _ _ _ (@qG _ _ 1 _ _ (by rfl) (by rfl) (by rfl)) (@qG _ _ 2 _ _ (by rfl) (by rfl) (by rfl)) (by exact fun _ _=>rfl)) (@WK _ _ _ _ _ _ U (@qh _ _ _ _ _ (@Qr _ _ 3 _ eA.nd (by rfl) (by first|exact Or.inl rfl|exact Or.inr rfl) (by first|exact .inl rfl|exact .inr rfl|assumption)) (@qh _ _ _ _ _ (@Qr _ _ 4 _ eA.nd (by rfl) (by first|exact Or.inl rfl|exact Or.inr rfl) (by first|exact .inl rfl|exact .inr rfl|assumption)) wX (by rfl)) (by rfl)) (by rfl) (by rfl)) (by rfl) (by rfl) (by rfl)) (@qM _ _ _ _ _ _ (@QI _ _ _ _ _ 5 _ _ eA.nd (@QY _ _ _ _ _ _ _ (@QA _ _ _ _ (@QL _ _ _ _ _ (@qe _ _ _ _ _ _ _ _ qH (@qe _ _ _ _ _ _ _ _ qH (@kU _ _ _ _ _ _ _ _ (@Z0 _ _ _ _ _ qH) (@qe _ _ _ _ _ _ _ _ zX (@qe _ _ _ _ _ _ _ _ zG (@qe _ _ _ _ _ _ _ _ QT (@zc _ _ _ _ _ _ _ _ _ (@Qj _ _ _ _ _ _ _ (@jS _ _ _ _ _ _ _ qH qH) qH) (@wR _ _ _ _ _ _ _ _ (@qa _ _ _ _ _ _ (@qe _ _ _ _ _ _ _ _ qH qF)) qF)))))))))) (@qX _ _ _ _ _ _ _ _ _ ((QW V).call (M.mono (by omega)) qy) (@qQ _ _ _ _ _ _ _ (@qG _ _ 0 _ _ (by rfl) (by rfl) (by rfl)) (@qe _ _ _ _ _ _ _ _ qH qF)) (by rfl) (by rfl)) (by exact fun _ _=>rfl)) (by rfl) (by first|exact Or.inl rfl|exact Or.inr rfl) (by rfl) (by first|exact .inl rfl|exact .inr rfl|assumption)) (@qM _ _ _ _ _ _ (@Zf _ _ _ _ 6 _ _ _ eA.nd (@QL _ _ _ _ _ (@wR _ _ _ _ _ _ _ _ (@qa _ _ _ _ _ _ (@qe _ _ _ _ _ _ _ _ qH (@qQ _ _ _ _ _ _ _ (@qG _ _ 4 _ _ (by rfl) (by rfl) (by rfl)) qF))) (@wR _ _ _ _ _ _ _ _ (@qa _ _ _ _ _ _ (@qe _ _ _ _ _ _ _ _ qH (@qQ _ _ _ _ _ _ _ (@qG _ _ 4 _ _ (by rfl) (by rfl) (by rfl)) qF))) (@wR _ _ _ _ _ _ _ _ (@qa _ _ _ _ _ _ (@qe _ _ _ _ _ _ _ _ zX (@qQ _ _ _ _ _ _ _ (@qG _ _ 4 _ _ (by rfl) (by rfl) (by rfl)) qF))) (@wR _ _ _ _ _ _ _ _ (@qa _ _ _ _ _ _ (@qQ _ _ _ _ _ _ _ (@qG _ _ 3 _ _ (by rfl) (by rfl) (by rfl)) (@kU _ _ _ _ _ _ _ _ (@Z0 _ _ _ _ _ qH) qF))) (@wR _ _ _ _ _ _ _ _ (@qa _ _ _ _ _ _ (@qQ _ _ _ _ _ _ _ (@qG _ _ 3 _ _ (by rfl) (by rfl) (by rfl)) (@zc _ _ _ _ _ _ _ _ _ (@Qj _ _ _ _ _ _ _ (@jS _ _ _ _ _ _ _ qH qH) qH) qF))) (@wR _ _ _ _ _ _ _ _ (@qa _ _ _ _ _ _ (@qQ _ _ _ _ _ _ _ (@qG _ _ 3 _ _ (by rfl) (by rfl) (by rfl)) (@qe _ _ _ _ _ _ _ _ zX qF))) (@wR _ _ _ _ _ _ _ _ (@qa _ _ _ _ _ _ (@qQ _ _ _ _ _ _ _ (@qG _ _ 3 _ _ (by rfl) (by rfl) (by rfl)) (@qe _ _ _ _ _ _ _ _ zG qF))) qF)))))))) (by rfl) (by first|exact Or.inl rfl|exact Or.inr rfl) (by rfl) (by first|exact .inl rfl|exact .inr rfl|assumption)) (@qM _ _ _ _ _ _ (@ZI _ _ _ _ _ _ _ _ _ (@qG _ _ 6 _ _ (by rfl) (by rfl) (by rfl)) (@QA _ _ _ _ (@QL _ _ _ _ _ (@qQ _ _ _ _ _ _ _ (@qG _ _ 3 _ _ (by rfl) (by rfl) (by rfl)) (@qQ _ _ _ _ _ _ _ (@qG _ _ 4 _ _ (by rfl) (by rfl) (by rfl)) qF)))) (by rfl) (by rfl) (by rfl) (by rfl) (by rfl) (by rfl)) (@qM _ _ _ _ _ _ (@Zf _ _ _ _ 6 _ _ _ eA.nd (@ZL _ _ _ _ _ _ _ (@qG _ _ 6 _ _ (by rfl) (by rfl) (by rfl)) (@QA _ _ _ _ (@QL _ _ _ _ _ (@wR _ _ _ _ _ _ _ _ (@qa _ _ _ _ _ _ (@qQ _ _ _ _ _ _ _ (@qG _ _ 3 _ _ (by rfl) (by rfl) (by rfl)) qF)) (@wR _ _ _ _ _ _ _ _ (@qa _ _ _ _ _ _ (@qQ _ _ _ _ _ _ _ (@qG _ _ 3 _ _ (by rfl) (by rfl) (by rfl)) (@qQ _ _ _ _ _ _ _ (@qG _ _ 4 _ _ (by rfl) (by rfl) (by rfl)) (@qe _ _ _ _ _ _ _ _ qH qF)))) (@qQ _ _ _ _ _ _ _ (@qG _ _ 5 _ _ (by rfl) (by rfl) (by rfl)) qF)))))) (by rfl) (by first|exact Or.inl rfl|exact Or.inr rfl) (by rfl) (by first|exact .inl rfl|exact .inr rfl|assumption)) (@qM _ _ _ _ _ _ (@yT _ _ _ _ _ _ _ _ _ _ (["_law_sorts_here","_law_at"]) (["_law_one"]) ([1,2]) _ _ _ _ _ 7 eA.nd (by exact wP rfl (by decide +kernel) rfl rfl ⟨⟨rfl,rfl⟩,⟨⟨rfl,rfl⟩,trivial⟩⟩) (@ww _ _ _ _ _ (@qG _ _ 6 _ _ (by rfl) (by rfl) (by rfl))) (fun L H' fp pn=>⟨(@ZE _ _ _ _ _ _ _ (@ZE _ _ _ _ _ _ _ (@lJ _ _ _ _ _ _ _ _ _ _ (@qG _ _ 0 _ _ (by rfl) (by rfl) (by rfl)) jv (@jG _ _ _ _ (@qG _ _ 1 _ _ (by rfl) (by rfl) (by rfl)))) (@qa _ _ _ _ _ _ (@qQ _ _ _ _ _ _ _ (@qG _ _ 2 _ _ (by rfl) (by rfl) (by rfl)) qF))) (@lJ _ _ _ _ _ _ _ _ _ _ (@qG _ _ 0 _ _ (by rfl) (by rfl) (by rfl)) (@jG _ _ _ _ (@Qj _ _ _ _ _ _ _ (@qG _ _ 1 _ _ (by rfl) (by rfl) (by rfl)) qH)) jv)),⟨(@QM _ _ 2 _ (show (["_law_sorts_here","_law_at","_law_one"]:EK Str).Nodup by decide +kernel) (by rfl) (by first|exact Or.inl rfl|exact Or.inr rfl) (by first|exact .inl rfl|exact .inr rfl|assumption)),(qZ 2),eV.nil,rfl⟩,fe.nil⟩) (by rfl) (by first|exact Or.inl rfl|exact Or.inr rfl) (by first|exact .inl rfl|exact .inr rfl|assumption) (by rfl) (by intro _;rfl)) (@qM _ _ _ _ _ _ (@QI _ _ _ _ _ 7 _ _ eA.nd (@QA _ _ _ _ (@ZL _ _ _ _ _ _ _ (@qG _ _ 7 _ _ (by rfl) (by rfl) (by rfl)) (@QA _ _ _ _ (@QL _ _ _ _ _ (@zc _ _ _ _ _ _ _ _ _ (@ZE _ _ _ _ _ _ _ (@qG _ _ 1 _ _ (by rfl) (by rfl) (by rfl)) (@lJ _ _ _ _ _ _ _ _ _ _ (@qG _ _ 1 _ _ (by rfl) (by rfl) (by rfl)) jv (@jG _ _ _ _ qH))) (@wR _ _ _ _ _ _ _ _ (@qa _ _ _ _ _ _ qF) (@W6 _ _ _ _ _ _ _ _ _ (@QA _ _ _ _ (@ud _ _ _ _ _ _ V.n_list (@qG _ _ 1 _ _ (by rfl) (by rfl) (by rfl)) (by rfl) (by rfl) (by rfl))) (@qe _ _ _ _ _ _ _ _ zG (@wR _ _ _ _ _ _ _ _ (@qa _ _ _ _ _ _ (@wR _ _ _ _ _ _ _ _ (@qa _ _ _ _ _ _ (@qe _ _ _ _ _ _ _ _ qH (@qe _ _ _ _ _ _ _ _ qH qF))) (@wR _ _ _ _ _ _ _ _ (@qa _ _ _ _ _ _ (@qe _ _ _ _ _ _ _ _ qH (@qe _ _ _ _ _ _ _ _ qH qF))) (@wR _ _ _ _ _ _ _ _ (@qa _ _ _ _ _ _ (@qe _ _ _ _ _ _ _ _ qH (@qe _ _ _ _ _ _ _ _ qH qF))) (@wR _ _ _ _ _ _ _ _ (@qa _ _ _ _ _ _ (@qe _ _ _ _ _ _ _ _ qH (@qe _ _ _ _ _ _ _ _ qH qF))) (@wR _ _ _ _ _ _ _ _ (@qa _ _ _ _ _ _ (@qe _ _ _ _ _ _ _ _ qH (@qe _ _ _ _ _ _ _ _ qH qF))) qF)))))) qF))))))))) (by rfl) (by first|exact Or.inl rfl|exact Or.inr rfl) (by rfl) (by first|exact .inl rfl|exact .inr rfl|assumption)) (@qU _ _ _ _ (@qu _ _ _ _ _ (@QY _ _ _ _ _ _ _ (@QA _ _ _ _ (@ZL _ _ _ _ _ _ _ (@qG _ _ 7 _ _ (by rfl) (by rfl) (by rfl)) (@QA _ _ _ _ (@QL _ _ _ _ _ (@wR _ _ _ _ _ _ _ _ (@qa _ _ _ _ _ _ (@wR _ _ _ _ _ _ _ _ (@qa _ _ _ _ _ _ (@qe _ _ _ _ _ _ _ _ qH (@qe _ _ _ _ _ _ _ _ qH qF))) (@wR _ _ _ _ _ _ _ _ (@qa _ _ _ _ _ _ (@qe _ _ _ _ _ _ _ _ qH (@qe _ _ _ _ _ _ _ _ qH qF))) qF))) (@wR _ _ _ _ _ _ _ _ (@qa _ _ _ _ _ _ (@wR _ _ _ _ _ _ _ _ (@qa _ _ _ _ _ _ (@qe _ _ _ _ _ _ _ _ qH (@qe _ _ _ _ _ _ _ _ qH qF))) (@wR _ _ _ _ _ _ _ _ (@qa _ _ _ _ _ _ (@qe _ _ _ _ _ _ _ _ qH (@qe _ _ _ _ _ _ _ _ qH qF))) qF))) qF)))))) (@qX _ _ _ _ _ _ _ _ _ ((QW V).call (M.mono (by omega)) qy) (@qQ _ _ _ _ _ _ _ (@qG _ _ 0 _ _ (by rfl) (by rfl) (by rfl)) (@qe _ _ _ _ _ _ _ _ qH qF)) (by rfl) (by rfl)) (by exact fun _ _=>rfl))))))))))))
def yK:ez ["_law_box_here"] ["_law_box_here"] (qJ Qo):=⟨rfl,rfl,rfl,by decide +kernel,rfl,by decide +kernel,by decide +kernel⟩
def yj(V:Env K mg a):eR P w K mg base 3 "_law_no_cells" a.law_no_cells 1 (wD a):=by obtain⟨fd,F⟩:=V.f_law_no_cells;refine wL (B:=zt a) F yK (F.binds (ps:=["_law_box_here"]) fun _ _ _ _ _ _ us hl=>match us,hl with|[_],_=>rfl) V.m_law_no_cells (fun l st h=>qf h) (fun Em A outer s H E M R=>?_) (fun l Z hl Y=>qb hl);have q:=M.units;exact (@qU _ _ _ _ (@qu _ _ _ _ _ (@QY _ _ _ _ _ _ _ (@QA _ _ _ _ (@QL _ _ _ _ _ (@kU _ _ _ _ _ _ _ _ (@Z0 _ _ _ _ _ qH) (@qe _ _ _ _ _ _ _ _ qH (@qe _ _ _ _ _ _ _ _ zX (@qe _ _ _ _ _ _ _ _ zG (@qe _ _ _ _ _ _ _ _ QT (@wR _ _ _ _ _ _ _ _ (@qa _ _ _ _ _ _ (@qe _ _ _ _ _ _ _ _ qH qF)) (@zc _ _ _ _ _ _ _ _ _ (@jS _ _ _ _ _ _ _ qH qH) (@nU _ _ _ _ _ _ _ (@QA _ _ _ _ (@QL _ _ _ _ _ (@qe _ _ _ _ _ _ _ _ qH qF))) qF)))))))))) (@qX _ _ _ _ _ _ _ _ _ ((QW V).call (M.mono (by omega)) qy) (@qQ _ _ _ _ _ _ _ (@qG _ _ 0 _ _ (by rfl) (by rfl) (by rfl)) (@qe _ _ _ _ _ _ _ _ qH qF)) (by rfl) (by rfl)) (by exact fun _ _=>rfl))))
def eC:ez ["_law_sorts_here","_law_cells","_law_found","_law_many","_law_some","_law_ways","_law_best","_law_long","_law_price","_law_ahead","_law_here"] ["_law_sorts_here","_law_cells"] (qJ Q4):=⟨rfl,rfl,rfl,by decide +kernel,rfl,by decide +kernel,by decide +kernel⟩
def J1(V:Env K mg a):eR P w K mg base 2 "_law_least" a.law_least 2 (Wi a):=by
 obtain⟨fd,F⟩:=V.f_law_least;refine wL (B:=zu a) F eC (F.binds (ps:=["_law_sorts_here","_law_cells"]) fun _ _ _ _ _ _ us hl=>match us,hl with|[_,_],_=>rfl) V.m_law_least (fun l st h=>qf h) (fun Em A outer s H E M R=>?_) (fun l Z hl Y=>qb hl);have q:=M.units;have U:(wV (fu P w) P w K mg base ["_law_sorts_here","_law_cells","_law_found","_law_many","_law_some","_law_ways","_law_best","_law_long","_law_price","_law_ahead","_law_here"] "_law_least" (qJ Q4) a.law_least Em A outer s H E).calm=true:=by show A.handled.isNone=true;rw[R (by omega)];rfl
 exact (@qM _ _ _ _ _ _ (@Zf _ _ _ _ 2 _ _ _ eC.nd (@QL _ _ _ _ _ (@wR _ _ _ _ _ _ _ _ (@qa _ _ _ _ _ _ (@qe _ _ _ _ _ _ _ _ qH (@wR _ _ _ _ _ _ _ _ (@qa _ _ _ _ _ _ (@qe _ _ _ _ _ _ _ _ qH (@wR _ _ _ _ _ _ _ _ (@qa _ _ _ _ _ _ qF) qF))) qF))) qF)) (by rfl) (by first|exact Or.inl rfl|exact Or.inr rfl) (by rfl) (by first|exact .inl rfl|exact .inr rfl|assumption)) (@qM _ _ _ _ _ _ (@zw _ _ _ _ _ _ _ _ _ (@ZH _ _ _ _ _ _ _ _ rfl V.n_range (@qe _ _ _ _ _ _ _ _ qH (@zc _ _ _ _ _ _ _ _ _ (@Qj _ _ _ _ _ _ _ (@qG _ _ 1 _ _ (by rfl) (by rfl) (by rfl)) qH) qF)) (by rfl) (by rfl)) (@Qr _ _ 3 _ eC.nd (by rfl) (by first|exact Or.inl rfl|exact Or.inr rfl) (by first|exact .inl rfl|exact .inr rfl|assumption)) (@qM _ _ _ _ _ _ (@yT _ _ _ _ _ _ _ _ _ _ (["_law_many"]) (["_law_long","_law_price"]) ([3]) _ _ _ _ _ 4 eC.nd (by exact wP rfl (by decide +kernel) rfl rfl ⟨⟨rfl,rfl⟩,trivial⟩) (@ww _ _ _ _ _ (@qG _ _ 0 _ _ (by rfl) (by rfl) (by rfl))) (fun L H' fp pn=>⟨(@qa _ _ _ _ _ _ (@qQ _ _ _ _ _ _ _ (@qG _ _ 1 _ _ (by rfl) (by rfl) (by rfl)) (@qQ _ _ _ _ _ _ _ (@qG _ _ 2 _ _ (by rfl) (by rfl) (by rfl)) qF))),⟨(@WK _ _ _ _ _ _ U (@qh _ _ _ _ _ (@QM _ _ 1 _ (show (["_law_many","_law_long","_law_price"]:EK Str).Nodup by decide +kernel) (by rfl) (by first|exact Or.inl rfl|exact Or.inr rfl) (by first|exact .inl rfl|exact .inr rfl|assumption)) (@qh _ _ _ _ _ (@QM _ _ 2 _ (show (["_law_many","_law_long","_law_price"]:EK Str).Nodup by decide +kernel) (by rfl) (by first|exact Or.inl rfl|exact Or.inr rfl) (by first|exact .inl rfl|exact .inr rfl|assumption)) wX (by rfl)) (by rfl)) (by rfl) (by rfl)),(wb (qm (qZ 1) (qm (qZ 2) wc))),(eV.cons (@Qn _ _ _ _ _ _ _ _ _ _ Wk Wj (@qG _ _ 1 _ _ (by rfl) (by rfl) (by rfl)) (@qG _ _ 0 _ _ (by rfl) (by rfl) (by rfl)) (by first|exact Qc _|with_unfolding_all rfl)) eV.nil),rfl⟩,fe.nil⟩) (by rfl) (by first|exact Or.inl rfl|exact Or.inr rfl) (by first|exact .inl rfl|exact .inr rfl|assumption) (by rfl) (by intro _;rfl)) (@qM _ _ _ _ _ _ (@QI _ _ _ _ _ 5 _ _ eC.nd (@lM _ _ _ _ _ _ _ (@YW _ _ _ _ _ _ _ _ _ (@QA _ _ _ _ (@wW _ _ _ _ _ _ _ (["_law_found","_law_many"]) (["_law_long","_law_price"]) ([2,3]) _ _ _ _ _ (by exact wP rfl (by decide +kernel) rfl rfl ⟨⟨rfl,rfl⟩,⟨⟨rfl,rfl⟩,trivial⟩⟩) (@ww _ _ _ _ _ (@qG _ _ 4 _ _ (by rfl) (by rfl) (by rfl))) (fun L H' fp pn=>⟨(@QY _ _ _ _ _ _ _ (@QY _ _ _ _ _ _ _ (@qG _ _ 0 _ _ (by rfl) (by rfl) (by rfl)) (@Z7 _ _ _ _ _ _ _ (@qG _ _ 1 _ _ (by rfl) (by rfl) (by rfl)) (@qG _ _ 2 _ _ (by rfl) (by rfl) (by rfl))) (by exact fun _ _=>rfl)) qH (by exact fun _ _=>rfl)),⟨(@WK _ _ _ _ _ _ U (@qh _ _ _ _ _ (@QM _ _ 2 _ (show (["_law_found","_law_many","_law_long","_law_price"]:EK Str).Nodup by decide +kernel) (by rfl) (by first|exact Or.inl rfl|exact Or.inr rfl) (by first|exact .inl rfl|exact .inr rfl|assumption)) (@qh _ _ _ _ _ (@QM _ _ 3 _ (show (["_law_found","_law_many","_law_long","_law_price"]:EK Str).Nodup by decide +kernel) (by rfl) (by first|exact Or.inl rfl|exact Or.inr rfl) (by first|exact .inl rfl|exact .inr rfl|assumption)) wX (by rfl)) (by rfl)) (by rfl) (by rfl)),(wb (qm (qZ 2) (qm (qZ 3) wc))),eV.nil,rfl⟩,fe.nil⟩) (by intro _;rfl))) qF) V.n_sum (by rfl) (by rfl) (by rfl)) (by rfl) (by first|exact Or.inl rfl|exact Or.inr rfl) (by rfl) (by first|exact .inl rfl|exact .inr rfl|assumption)) (@qM _ _ _ _ _ _ (@QI _ _ _ _ _ 6 _ _ eC.nd zG (by rfl) (by first|exact Or.inl rfl|exact Or.inr rfl) (by rfl) (by first|exact .inl rfl|exact .inr rfl|assumption)) (@qM _ _ _ _ _ _ (@zw _ _ _ _ _ _ _ _ _ (@ww _ _ _ _ _ (@qG _ _ 4 _ _ (by rfl) (by rfl) (by rfl))) (@WK _ _ _ _ _ _ U (@qh _ _ _ _ _ (@Qr _ _ 7 _ eC.nd (by rfl) (by first|exact Or.inl rfl|exact Or.inr rfl) (by first|exact .inl rfl|exact .inr rfl|assumption)) (@qh _ _ _ _ _ (@Qr _ _ 8 _ eC.nd (by rfl) (by first|exact Or.inl rfl|exact Or.inr rfl) (by first|exact .inl rfl|exact .inr rfl|assumption)) wX (by rfl)) (by rfl)) (by rfl) (by rfl)) (@qM _ _ _ _ _ _ (@QI _ _ _ _ _ 9 _ _ eC.nd (@QY _ _ _ _ _ _ _ (@QY _ _ _ _ _ _ _ (@qG _ _ 2 _ _ (by rfl) (by rfl) (by rfl)) (@Z7 _ _ _ _ _ _ _ (@qG _ _ 3 _ _ (by rfl) (by rfl) (by rfl)) (@qG _ _ 7 _ _ (by rfl) (by rfl) (by rfl))) (by exact fun _ _=>rfl)) qH (by exact fun _ _=>rfl)) (by rfl) (by first|exact Or.inl rfl|exact Or.inr rfl) (by rfl) (by first|exact .inl rfl|exact .inr rfl|assumption)) (@qU _ _ _ _ (@WD _ _ _ _ _ _ _ _ _ (@Qn _ _ _ _ _ _ _ _ _ _ oa JQ (@qG _ _ 9 _ _ (by rfl) (by rfl) (by rfl)) zG (by first|exact Qc _|with_unfolding_all rfl)) (@qM _ _ _ _ _ _ (@QI _ _ _ _ _ 10 _ _ eC.nd (@qa _ _ _ _ _ _ (@zc _ _ _ _ _ _ _ _ _ (@Qj _ _ _ _ _ _ _ (@QY _ _ _ _ _ _ _ (@qG _ _ 9 _ _ (by rfl) (by rfl) (by rfl)) qH (by exact fun _ _=>rfl)) (@qG _ _ 8 _ _ (by rfl) (by rfl) (by rfl))) (@zc _ _ _ _ _ _ _ _ _ (@ZE _ _ _ _ _ _ _ (@qa _ _ _ _ _ _ (@qQ _ _ _ _ _ _ _ (@qG _ _ 7 _ _ (by rfl) (by rfl) (by rfl)) qF)) (@QY _ _ _ _ _ _ _ (@qG _ _ 9 _ _ (by rfl) (by rfl) (by rfl)) qH (by exact fun _ _=>rfl))) qF))) (by rfl) (by first|exact Or.inl rfl|exact Or.inr rfl) (by rfl) (by first|exact .inl rfl|exact .inr rfl|assumption)) (@qU _ _ _ _ (@WD _ _ _ _ _ _ _ _ _ (@iL _ _ _ _ (@YI _ _ _ _ _ _ _ _ (@Qn _ _ _ _ _ _ _ _ _ _ xn p4 (@qG _ _ 6 _ _ (by rfl) (by rfl) (by rfl)) zG (by first|exact Qc _|with_unfolding_all rfl)) (@Zy _ _ _ _ _ (@Qn _ _ _ _ _ _ _ _ _ _ (pj q) xW (@qG _ _ 10 _ _ (by rfl) (by rfl) (by rfl)) (@qG _ _ 6 _ _ (by rfl) (by rfl) (by rfl)) (by first|exact Qc _|with_unfolding_all rfl))))) (@qU _ _ _ _ (@QI _ _ _ _ _ 6 _ _ eC.nd (@qG _ _ 10 _ _ (by rfl) (by rfl) (by rfl)) (by rfl) (by first|exact Or.inl rfl|exact Or.inr rfl) (by rfl) (by first|exact .inl rfl|exact .inr rfl|assumption))) Qg))) Qg))) (by intro _;rfl)) (@qU _ _ _ _ (@ZI _ _ _ _ _ _ _ _ _ (@qG _ _ 2 _ _ (by rfl) (by rfl) (by rfl)) (@qa _ _ _ _ _ _ (@qQ _ _ _ _ _ _ _ (@qG _ _ 5 _ _ (by rfl) (by rfl) (by rfl)) (@qQ _ _ _ _ _ _ _ (@qG _ _ 6 _ _ (by rfl) (by rfl) (by rfl)) qF))) (by rfl) (by rfl) (by rfl) (by rfl) (by rfl) (by rfl))))))) (by intro _;rfl)) (@qU _ _ _ _ (@qu _ _ _ _ _ (@qG _ _ 2 _ _ (by rfl) (by rfl) (by rfl))))))
def ff:ez ["_law_sorts_here","_law_cells","_law_found","_law_long","_law_price"] ["_law_sorts_here","_law_cells"] (qJ wy):=⟨rfl,rfl,rfl,by decide +kernel,rfl,by decide +kernel,by decide +kernel⟩
def yg(V:Env K mg a):∀n,eR P w K mg base (n+1) "_law_all" a.law_all 2 (Qy n a)
 |0=>by obtain⟨fd,F⟩:=V.f_law_all;exact og F (F.binds (ps:=["_law_sorts_here","_law_cells"]) fun _ _ _ _ _ _ us hl=>match us,hl with|[_,_],_=>rfl) V.m_law_all fun _ _=>rfl
 |n+1=>by
  obtain⟨fd,F⟩:=V.f_law_all;have I:=yg V n;refine wL (B:=ZB a (Qy n a)) F ff (F.binds (ps:=["_law_sorts_here","_law_cells"]) fun _ _ _ _ _ _ us hl=>match us,hl with|[_,_],_=>rfl) V.m_law_all (fun l st h=>qf h) (fun Em A outer s H E M R=>?_) (fun l Z hl Y=>qb hl);have q:=M.units;have U:(wV (fu P w) P w K mg base ["_law_sorts_here","_law_cells","_law_found","_law_long","_law_price"] "_law_all" (qJ wy) a.law_all Em A outer s H E).calm=true:=by show A.handled.isNone=true;rw[R (by omega)];rfl
  exact (@qM _ _ _ _ _ _ (@WD _ _ _ _ _ _ _ _ _ (@Qn _ _ _ _ _ _ _ _ _ _ (kZ q) k6 (@qG _ _ 1 _ _ (by rfl) (by rfl) (by rfl)) qH (by first|exact Qc _|with_unfolding_all rfl)) (@qU _ _ _ _ (@qu _ _ _ _ _ (@QA _ _ _ _ (@QL _ _ _ _ _ (@wR _ _ _ _ _ _ _ _ (@qa _ _ _ _ _ _ (@qe _ _ _ _ _ _ _ _ qH (@wR _ _ _ _ _ _ _ _ (@qa _ _ _ _ _ _ qF) qF))) qF))))) Qg) (@qM _ _ _ _ _ _ (@QI _ _ _ _ _ 2 _ _ ff.nd (@QA _ _ _ _ (@QL _ _ _ _ _ qF)) (by rfl) (by first|exact Or.inl rfl|exact Or.inr rfl) (by rfl) (by first|exact .inl rfl|exact .inr rfl|assumption)) (@qM _ _ _ _ _ _ (@zw _ _ _ _ _ _ _ _ _ (@ww _ _ _ _ _ (@qG _ _ 0 _ _ (by rfl) (by rfl) (by rfl))) (@WK _ _ _ _ _ _ U (@qh _ _ _ _ _ (@Qr _ _ 3 _ ff.nd (by rfl) (by first|exact Or.inl rfl|exact Or.inr rfl) (by first|exact .inl rfl|exact .inr rfl|assumption)) (@qh _ _ _ _ _ (@Qr _ _ 4 _ ff.nd (by rfl) (by first|exact Or.inl rfl|exact Or.inr rfl) (by first|exact .inl rfl|exact .inr rfl|assumption)) wX (by rfl)) (by rfl)) (by rfl) (by rfl)) (@qU _ _ _ _ (@WD _ _ _ _ _ _ _ _ _ (@Qn _ _ _ _ _ _ _ _ _ _ Wk Wj (@qG _ _ 3 _ _ (by rfl) (by rfl) (by rfl)) (@qG _ _ 1 _ _ (by rfl) (by rfl) (by rfl)) (by first|exact Qc _|with_unfolding_all rfl)) (@qU _ _ _ _ (@QI _ _ _ _ _ 2 _ _ ff.nd (@QA _ _ _ _ (@ZL _ _ _ _ _ _ _ (@qG _ _ 2 _ _ (by rfl) (by rfl) (by rfl)) (@QA _ _ _ _ (@wW _ _ _ _ _ _ _ (["_law_price","_law_long"]) (["_law_more","_law_rest"]) ([4,3]) _ _ _ _ _ (by exact wP rfl (by decide +kernel) rfl rfl ⟨⟨rfl,rfl⟩,⟨⟨rfl,rfl⟩,trivial⟩⟩) (@ww _ _ _ _ _ (@qX _ _ _ _ _ _ _ _ _ (I.call (M.mono (by omega)) (QE _)) (@qQ _ _ _ _ _ _ _ (@qG _ _ 0 _ _ (by rfl) (by rfl) (by rfl)) (@zc _ _ _ _ _ _ _ _ _ (@Z7 _ _ _ _ _ _ _ (@qG _ _ 1 _ _ (by rfl) (by rfl) (by rfl)) (@qG _ _ 3 _ _ (by rfl) (by rfl) (by rfl))) qF)) (by rfl) (by rfl))) (fun L H' fp pn=>⟨(@qa _ _ _ _ _ _ (@zc _ _ _ _ _ _ _ _ _ (@Qj _ _ _ _ _ _ _ (@qG _ _ 0 _ _ (by rfl) (by rfl) (by rfl)) (@qG _ _ 2 _ _ (by rfl) (by rfl) (by rfl))) (@zc _ _ _ _ _ _ _ _ _ (@ZE _ _ _ _ _ _ _ (@qa _ _ _ _ _ _ (@qQ _ _ _ _ _ _ _ (@qG _ _ 1 _ _ (by rfl) (by rfl) (by rfl)) qF)) (@qG _ _ 3 _ _ (by rfl) (by rfl) (by rfl))) qF))),⟨(@WK _ _ _ _ _ _ U (@qh _ _ _ _ _ (@QM _ _ 2 _ (show (["_law_price","_law_long","_law_more","_law_rest"]:EK Str).Nodup by decide +kernel) (by rfl) (by first|exact Or.inl rfl|exact Or.inr rfl) (by first|exact .inl rfl|exact .inr rfl|assumption)) (@qh _ _ _ _ _ (@QM _ _ 3 _ (show (["_law_price","_law_long","_law_more","_law_rest"]:EK Str).Nodup by decide +kernel) (by rfl) (by first|exact Or.inl rfl|exact Or.inr rfl) (by first|exact .inl rfl|exact .inr rfl|assumption)) wX (by rfl)) (by rfl)) (by rfl) (by rfl)),(wb (qm (qZ 2) (qm (qZ 3) wc))),eV.nil,rfl⟩,fe.nil⟩) (by intro _;rfl))))) (by rfl) (by first|exact Or.inl rfl|exact Or.inr rfl) (by rfl) (by first|exact .inl rfl|exact .inr rfl|assumption))) Qg)) (by intro _;rfl)) (@qU _ _ _ _ (@qu _ _ _ _ _ (@qG _ _ 2 _ _ (by rfl) (by rfl) (by rfl)))))))
def rA(V:Env K mg a):eR P w K mg base 10 "_law_all" a.law_all 2 (Qy 9 a):=yg V 9
def ue(V:Env K mg a):∀C∈Qb a,W.mroIn K C (.ref a.Z0)=some true:=by
 intro C hC;unfold Qb at hC;rcases AJ.mp hC with rfl|hC
 ·exact V.e_Z6
 rcases AJ.mp hC with rfl|hC
 ·exact V.e_Z2
 cases hC
def xK(V:Env K mg a){A:EW}(M:eW 7 A):∀q∈tbl a,∃k x,eR P w K mg base k x q.1 2 q.2∧eW k A:=by
 intro q hq;unfold tbl at hq;rcases AJ.mp hq with rfl|hq
 ·exact⟨7,_,JO V,M.mono (by omega)⟩
 ·rcases AJ.mp hq with rfl|hq
  ·exact⟨7,_,yL V,M.mono (by omega)⟩
  ·cases hq
def fL:ez ["_law_way","_law_sorts_here","_law_cells","_law_e"] ["_law_way","_law_sorts_here","_law_cells"] (qJ wB):=⟨rfl,rfl,rfl,by decide +kernel,rfl,by decide +kernel,by decide +kernel⟩
def Wm(V:Env K mg a):eR P w K mg base 8 "_law_asked" a.law_asked 3 (qd a):=by
 obtain⟨fd,F⟩:=V.f_law_asked;obtain⟨_,_,_,o_Z0⟩:=V.o_Z0;refine wL (B:=Wb a) F fL (F.binds (ps:=["_law_way","_law_sorts_here","_law_cells"]) fun _ _ _ _ _ _ us hl=>match us,hl with|[_,_,_],_=>rfl) V.m_law_asked (fun l st h=>qf h) (fun Em A outer s H E M R=>?_) (fun l Z hl Y=>qb hl);have q:=M.units;have U:(wV (fu P w) P w K mg base ["_law_way","_law_sorts_here","_law_cells","_law_e"] "_law_asked" (qJ wB) a.law_asked Em A outer s H E).calm=true:=by show A.handled.isNone=true;rw[R (by omega)];rfl
 exact (@qU _ _ _ _ (@vx _ _ _ _ _ _ _ _ _ _ _ _ _ _ _ _ _ 3 ⟨rfl,rfl,rfl⟩ U fL.nd rfl V.k_Z0 o_Z0 V.b_Z0 (ue V) (fun Ee xe I L=>(@qU _ _ _ _ (@qu _ _ _ _ _ (@DW _ _ _ _ _ _ _ _ _ _ L (xK V M) (@QY _ _ _ _ _ _ _ (@QA _ _ _ _ (@QL _ _ _ _ _ (@qQ _ _ _ _ _ _ _ (@Wx _ _ _ _ _ rfl V.m_line_ways (by decide)) (@qQ _ _ _ _ _ _ _ (@Wx _ _ _ _ _ rfl V.m_cheapest_line (by decide)) qF)))) (@qG _ _ 0 _ _ (by rfl) (by rfl) (by rfl)) (by exact fun _ _=>rfl)) (@qQ _ _ _ _ _ _ _ (@qG _ _ 1 _ _ (by rfl) (by rfl) (by rfl)) (@qQ _ _ _ _ _ _ _ (@qG _ _ 2 _ _ (by rfl) (by rfl) (by rfl)) qF)) (by rfl) (by rfl) (by rfl))))) (fun ea=>(@qU _ _ _ _ (@qu _ _ _ _ _ (@qX _ _ _ _ _ _ _ _ _ ((tq V).call (xj M) (QE _)) (@qQ _ _ _ _ _ _ _ (@qG _ _ 3 _ _ (by rfl) (by rfl) (by rfl)) qF) (by rfl) (by rfl))))) (by rfl) (by rfl) (by decide)))
def fj:ez ["_law_script","_law_k","_law_box_here","_law_sorts_here","_law_cells","_law_ways","_law_best","_law_every","_law_bad","_law_odd","_law_way"] ["_law_script"] (qJ zW):=⟨rfl,rfl,rfl,by decide +kernel,rfl,by decide +kernel,by decide +kernel⟩
def tY{fd:FuncData}(V:Env K mg a)(F:fI K "law" "law" zW a.law fd):fM P w K mg base (fu P w) 12 a.law fd ["_law_script"] (hX K 1 (JJ a)):=by
 refine iq F fj fun Em A outer s H E M R=>⟨ml a,?_,fun l Z hl Y=>qb hl⟩;have q:=M.units;have U:(wV (fu P w) P w K mg base ["_law_script","_law_k","_law_box_here","_law_sorts_here","_law_cells","_law_ways","_law_best","_law_every","_law_bad","_law_odd","_law_way"] "law" (qJ zW) a.law Em A outer s H E).calm=true:=by show A.handled.isNone=true;rw[R (by omega)];rfl
 exact (@qM _ _ _ _ _ _ (@zw _ _ _ _ _ _ _ _ _ (@W8 _ _ _ _ _ _ _ rfl V.n_range (@W6 _ _ _ _ _ _ _ _ _ (@pZ _ _ _ _ _ _ _ (@qe _ _ _ _ _ _ _ _ qH (@W6 _ _ _ _ _ _ _ _ _ (@DC _ _ _ _ _ _ _ (@W6 _ _ _ _ _ _ _ _ _ (@WO _ _ _ _ _ _ _ (@qQ _ _ _ _ _ _ _ (@qG _ _ 0 _ _ (by rfl) (by rfl) (by rfl)) qF) V.n_len (by rfl) (by rfl) (by rfl)) (@qe _ _ _ _ _ _ _ _ qH qF)) U V.n_min (by rfl) (by rfl) (by rfl)) qF)) U V.n_max (by rfl) (by rfl) (by rfl)) qF) (by rfl)) (@Qr _ _ 1 _ fj.nd (by rfl) (by first|exact Or.inl rfl|exact Or.inr rfl) (by first|exact .inl rfl|exact .inr rfl|assumption)) (@qM _ _ _ _ _ _ (@QI _ _ _ _ _ 2 _ _ fj.nd (@qX _ _ _ _ _ _ _ _ _ ((vU V).call (M.mono (by omega)) (QE _)) (@qQ _ _ _ _ _ _ _ (@qG _ _ 0 _ _ (by rfl) (by rfl) (by rfl)) (@qQ _ _ _ _ _ _ _ (@qG _ _ 1 _ _ (by rfl) (by rfl) (by rfl)) qF)) (by rfl) (by rfl)) (by rfl) (by first|exact Or.inl rfl|exact Or.inr rfl) (by rfl) (by first|exact .inl rfl|exact .inr rfl|assumption)) (@qM _ _ _ _ _ _ (@QI _ _ _ _ _ 3 _ _ fj.nd (@qX _ _ _ _ _ _ _ _ _ ((tw V).call (M.mono (by omega)) (QE _)) (@qQ _ _ _ _ _ _ _ (@qG _ _ 2 _ _ (by rfl) (by rfl) (by rfl)) qF) (by rfl) (by rfl)) (by rfl) (by first|exact Or.inl rfl|exact Or.inr rfl) (by rfl) (by first|exact .inl rfl|exact .inr rfl|assumption)) (@qM _ _ _ _ _ _ (@QI _ _ _ _ _ 4 _ _ fj.nd (@qX _ _ _ _ _ _ _ _ _ ((QW V).call (M.mono (by omega)) (QE _)) (@qQ _ _ _ _ _ _ _ (@qG _ _ 2 _ _ (by rfl) (by rfl) (by rfl)) (@ly _ _ _ _ _ _ _ _ (@QY _ _ _ _ _ _ _ (@QA _ _ _ _ (@QL _ _ _ _ _ (@qe _ _ _ _ _ _ _ _ qH (@qe _ _ _ _ _ _ _ _ qH (@qe _ _ _ _ _ _ _ _ qH qF))))) (@qX _ _ _ _ _ _ _ _ _ ((QW V).call (M.mono (by omega)) (QE _)) (@qQ _ _ _ _ _ _ _ (@qG _ _ 2 _ _ (by rfl) (by rfl) (by rfl)) (@qe _ _ _ _ _ _ _ _ qH qF)) (by rfl) (by rfl)) (by exact fun _ _=>rfl)) qF)) (by rfl) (by rfl)) (by rfl) (by first|exact Or.inl rfl|exact Or.inr rfl) (by rfl) (by first|exact .inl rfl|exact .inr rfl|assumption)) (@qM _ _ _ _ _ _ (@nu _ _ _ _ _ _ _ (@QY _ _ _ _ _ _ _ (@qX _ _ _ _ _ _ _ _ _ ((J1 V).call (M.mono (by omega)) (QE _)) (@qQ _ _ _ _ _ _ _ (@qG _ _ 3 _ _ (by rfl) (by rfl) (by rfl)) (@qQ _ _ _ _ _ _ _ (@qG _ _ 4 _ _ (by rfl) (by rfl) (by rfl)) qF)) (by rfl) (by rfl)) (@Z0 _ _ _ _ _ qH) (by exact fun _ _=>rfl)) (@WK _ _ _ _ _ _ U (@qh _ _ _ _ _ (@Qr _ _ 5 _ fj.nd (by rfl) (by first|exact Or.inl rfl|exact Or.inr rfl) (by first|exact .inl rfl|exact .inr rfl|assumption)) (@qh _ _ _ _ _ (@Qr _ _ 6 _ fj.nd (by rfl) (by first|exact Or.inl rfl|exact Or.inr rfl) (by first|exact .inl rfl|exact .inr rfl|assumption)) wX (by rfl)) (by rfl)) (by rfl) (by rfl)) (by rfl) (by rfl) (by rfl)) (@qM _ _ _ _ _ _ (@WD _ _ _ _ _ _ _ _ _ (@ZQ _ _ _ _ _ (@ZO _ _ _ _ (@qX _ _ _ _ _ _ _ _ _ ((D6 V).call (M.mono (by omega)) (QE _)) (@YW _ _ _ _ _ _ _ _ _ (@QA _ _ _ _ (@wW _ _ _ _ _ _ _ (["_law_sorts_here","_law_cells"]) (["_law_way"]) ([3,4]) _ _ _ _ _ (by exact wP rfl (by decide +kernel) rfl rfl ⟨⟨rfl,rfl⟩,⟨⟨rfl,rfl⟩,trivial⟩⟩) (@W8 _ _ _ _ _ _ _ rfl V.n_range (@qe _ _ _ _ _ _ _ _ qH qF) (by rfl)) (fun L H' fp pn=>⟨(@qX _ _ _ _ _ _ _ _ _ ((Wm V).call (M.mono (by omega)) (QE _)) (@qQ _ _ _ _ _ _ _ (@qG _ _ 2 _ _ (by rfl) (by rfl) (by rfl)) (@qQ _ _ _ _ _ _ _ (@qG _ _ 0 _ _ (by rfl) (by rfl) (by rfl)) (@qQ _ _ _ _ _ _ _ (@qG _ _ 1 _ _ (by rfl) (by rfl) (by rfl)) qF))) (by rfl) (by rfl)),⟨(@QM _ _ 2 _ (show (["_law_sorts_here","_law_cells","_law_way"]:EK Str).Nodup by decide +kernel) (by rfl) (by first|exact Or.inl rfl|exact Or.inr rfl) (by first|exact .inl rfl|exact .inr rfl|assumption)),(qZ 2),eV.nil,rfl⟩,fe.nil⟩) (by intro _;rfl))) (@nU _ _ _ _ _ _ _ (@QA _ _ _ _ (@QL _ _ _ _ _ (@qQ _ _ _ _ _ _ _ (@qG _ _ 5 _ _ (by rfl) (by rfl) (by rfl)) (@qQ _ _ _ _ _ _ _ (@qG _ _ 6 _ _ (by rfl) (by rfl) (by rfl)) qF)))) qF)) (by rfl) (by rfl)) (by intro _;rfl))) (@qU _ _ _ _ (@qu _ _ _ _ _ zX)) Qg) (@qM _ _ _ _ _ _ (@WD _ _ _ _ _ _ _ _ _ (@Qn _ _ _ _ _ _ _ _ _ _ lD lI (@qG _ _ 4 _ _ (by rfl) (by rfl) (by rfl)) qH (by first|exact Qc _|with_unfolding_all rfl)) (@qM _ _ _ _ _ _ (@QI _ _ _ _ _ 7 _ _ fj.nd (@tI _ _ _ _ _ _ q V.n_sorted (@qX _ _ _ _ _ _ _ _ _ ((rA V).call (M.mono (by omega)) (QE _)) (@qQ _ _ _ _ _ _ _ (@qG _ _ 3 _ _ (by rfl) (by rfl) (by rfl)) (@qQ _ _ _ _ _ _ _ (@qG _ _ 4 _ _ (by rfl) (by rfl) (by rfl)) qF)) (by rfl) (by rfl)) (by rfl) (by rfl)) (by rfl) (by first|exact Or.inl rfl|exact Or.inr rfl) (by rfl) (by first|exact .inl rfl|exact .inr rfl|assumption)) (@qU _ _ _ _ (@WD _ _ _ _ _ _ _ _ _ (@iL _ _ _ _ (@YI _ _ _ _ _ _ _ _ (@Qn _ _ _ _ _ _ _ _ _ _ (zp q) yB (@WO _ _ _ _ _ _ _ (@qQ _ _ _ _ _ _ _ (@qG _ _ 7 _ _ (by rfl) (by rfl) (by rfl)) qF) V.n_len (by rfl) (by rfl) (by rfl)) (@qG _ _ 5 _ _ (by rfl) (by rfl) (by rfl)) (by first|exact Qc _|with_unfolding_all rfl)) (@Zy _ _ _ _ _ (@Qn _ _ _ _ _ _ _ _ _ _ (zp q) yB (@QY _ _ _ _ _ _ _ (@QA _ _ _ _ (@ZL _ _ _ _ _ _ _ (@qG _ _ 7 _ _ (by rfl) (by rfl) (by rfl)) (@QA _ _ _ _ (@QL _ _ _ _ _ (@qe _ _ _ _ _ _ _ _ zG qF))))) qH (by exact fun _ _=>rfl)) (@qG _ _ 6 _ _ (by rfl) (by rfl) (by rfl)) (by first|exact Qc _|with_unfolding_all rfl))))) (@qU _ _ _ _ (@qu _ _ _ _ _ zX)) Qg))) Qg) (@qM _ _ _ _ _ _ (@pc _ _ _ _ _ 8 9 _ _ _ _ _ _ _ _ _ U fj.nd (@W6 _ _ _ _ _ _ _ _ _ (@qX _ _ _ _ _ _ _ _ _ ((yc V).call (M.mono (by omega)) (QE _)) (@qQ _ _ _ _ _ _ _ (@qG _ _ 2 _ _ (by rfl) (by rfl) (by rfl)) (@qQ _ _ _ _ _ _ _ (@qG _ _ 3 _ _ (by rfl) (by rfl) (by rfl)) qF)) (by rfl) (by rfl)) (@W6 _ _ _ _ _ _ _ _ _ (@qX _ _ _ _ _ _ _ _ _ ((yj V).call (M.mono (by omega)) (QE _)) (@qQ _ _ _ _ _ _ _ (@qG _ _ 2 _ _ (by rfl) (by rfl) (by rfl)) qF) (by rfl) (by rfl)) qF)) (by rfl) (by rfl) (by rfl) (by decide) (by rfl) (by rfl) (by rfl)) (@qU _ _ _ _ (@zw _ _ _ _ _ _ _ _ _ (@W8 _ _ _ _ _ _ _ rfl V.n_range (@qe _ _ _ _ _ _ _ _ qH qF) (by rfl)) (@Qr _ _ 10 _ fj.nd (by rfl) (by first|exact Or.inl rfl|exact Or.inr rfl) (by first|exact .inl rfl|exact .inr rfl|assumption)) (@qM _ _ _ _ _ _ (@WD _ _ _ _ _ _ _ _ _ (@iL _ _ _ _ (@YI _ _ _ _ _ _ _ _ (@Qn _ _ _ _ _ _ _ _ _ _ (zp q) yB (@qX _ _ _ _ _ _ _ _ _ ((Wm V).call (M.mono (by omega)) (QE _)) (@qQ _ _ _ _ _ _ _ (@qG _ _ 10 _ _ (by rfl) (by rfl) (by rfl)) (@qQ _ _ _ _ _ _ _ (@qG _ _ 8 _ _ (by rfl) (by rfl) (by rfl)) (@qQ _ _ _ _ _ _ _ (@qG _ _ 4 _ _ (by rfl) (by rfl) (by rfl)) qF))) (by rfl) (by rfl)) QT (by first|exact Qc _|with_unfolding_all rfl)) (@Zy _ _ _ _ _ (@Qn _ _ _ _ _ _ _ _ _ _ (zp q) yB (@qX _ _ _ _ _ _ _ _ _ ((Wm V).call (M.mono (by omega)) (QE _)) (@qQ _ _ _ _ _ _ _ (@qG _ _ 10 _ _ (by rfl) (by rfl) (by rfl)) (@qQ _ _ _ _ _ _ _ (@qG _ _ 8 _ _ (by rfl) (by rfl) (by rfl)) (@qQ _ _ _ _ _ _ _ (@qG _ _ 9 _ _ (by rfl) (by rfl) (by rfl)) qF))) (by rfl) (by rfl)) QT (by first|exact Qc _|with_unfolding_all rfl))))) (@qU _ _ _ _ (@qu _ _ _ _ _ zX)) Qg) (@qU _ _ _ _ (@WD _ _ _ _ _ _ _ _ _ (@Qn _ _ _ _ _ _ _ _ _ _ (zp q) yB (@qX _ _ _ _ _ _ _ _ _ ((Wm V).call (M.mono (by omega)) (QE _)) (@qQ _ _ _ _ _ _ _ (@qG _ _ 10 _ _ (by rfl) (by rfl) (by rfl)) (@qQ _ _ _ _ _ _ _ (@qG _ _ 3 _ _ (by rfl) (by rfl) (by rfl)) (@qQ _ _ _ _ _ _ _ (@qG _ _ 9 _ _ (by rfl) (by rfl) (by rfl)) qF))) (by rfl) (by rfl)) QT (by first|exact Qc _|with_unfolding_all rfl)) (@qU _ _ _ _ (@qu _ _ _ _ _ zX)) Qg))) (by intro _;rfl)))))))))) (by intro _;rfl)) (@qU _ _ _ _ (@qu _ _ _ _ _ zX)))
end
end K86
end
section
namespace EV
open PySem L2 EX
def ze{G:qC->Prop}{k:PV->qC->Rs (EK PV)}{st:qC}(R:G st){F:PV->EK PV}:∀{l:EK PV},(∀p∈l,k p st= .ok (F p) st)->qo G k l st= .ok (l.flatMap F) st|[],_=>by unfold qo;rw[AC R];rfl|p::l,h=>by unfold qo;rw[AC R,h p AT];show (qo G k l st).bind _=_;rw[ze R fun q Z=>h q (AO _ Z)];rfl
def yJ{F:PV->PV}:∀l:EK PV,l.flatMap (fun p=>[F p])=l.map F|[]=>rfl|p::l=>by rw[List.flatMap_cons,yJ l];rfl
def wI{Ei:EK Nat}{n:Nat}{fi:FI}{g:FG}{f:FE}{r:qz}{st:qC}{w:ItP}{F:PV->PV}(q:fi r st= .ok w st)(R:w.G st)(hl:w.l.length≤sizeLine)
  (h:∀p∈w.l,∃r',g p (zZ Ei n r)=some r'∧f r' st= .ok (F p) st):qr Ei n fi g [] [] f r st= .ok (w.l.map F) st:=by
 unfold qr;rw[q];show (match qo w.G (Qp ⟨fi,g,[]⟩ (wK [] f) (zZ Ei n r)) w.l st with | .ok l L=>if l.length≤sizeLine then Rs.ok l L else Rs.no|_=>Rs.no)=_;rw[ze (F:=fun p=>[F p]) R fun p M=>by
  obtain⟨r',Y,U⟩:=h p M;unfold Qp;show (match g p (zZ Ei n r) with|none=>_|some r'=>_)=_;rw[Y];show (wK [] f) r' st=_;unfold wK;rw[U];rfl]
 rw[yJ];dsimp only;rw[AC (by rw[AG];exact hl)]
def Yl{G:qC->Prop}{g:FG}{F:FS}{r:qz}{st:qC}(h:G st):Q3 G g F [] r st= .nx r st:=by unfold Q3;rw[AC h]
def YM{G:qC->Prop}{g:FG}{F:FS}{r r1 I:qz}{st s2:qC}{p:PV}{ps:EK PV}(h:G st)(Y:g p r=some r1)(U:F r1 st= .nx I s2):Q3 G g F (p::ps) r st=Q3 G g F ps I s2:=by rw[Q3,AC h,Y];dsimp only;rw[U]
section
variable{F G:FS}{f:FE}{fl:FL}{fi:FI}{g:FG}{t:FT}{r r':qz}{st Ef:qC}{p:PV}{l:EK PV}{w:ItP}{i:Nat}
def Qk(h:F r st= .nx r' Ef):qS F G r st=G r' Ef:=by unfold qS;rw[h]
def kR(h:F r st= .rt p Ef):qS F G r st= .rt p Ef:=by unfold qS;rw[h]
def rR{x:gG}(h:F r st= .ex x Ef):qS F G r st= .ex x Ef:=by unfold qS;rw[h]
def sB{x:gG}(h:f r st= .ex x Ef):Ww f r st= .ex x Ef:=by unfold Ww;rw[h];rfl
def pk{x:gG}{n N:Nat}{B:FS}(hl:l.length=n)(h:B (QC N l) st= .ex x Ef):QD n N B l st= .ex x Ef:=by unfold QD;rw[AC hl,h];rfl
def DO(h:f r st= .ok p Ef):Ww f r st= .nx r Ef:=by unfold Ww;rw[h];rfl
def w9(h:f r st= .ok p Ef):qc i f r st= .nx (r.set i (some p)) Ef:=by unfold qc;rw[h];rfl
def xS(h:fl r st= .ok l Ef):zC i fl r st= .nx (r.set i (some (.ref Ef.length))) (Ef++[.l l]):=by unfold zC;rw[h];rfl
def jw(h:f r st= .ok p Ef):qt f r st= .rt p Ef:=by unfold qt;rw[h];rfl
def n6(h:fl r st= .ok l Ef):yq fl r st= .rt (.ref Ef.length) (Ef++[.l l]):=by unfold yq;rw[h];rfl
def mG(h:fi r st= .ok w Ef):We fi g F r st=Q3 w.G g F w.l r Ef:=by unfold We;rw[h];rfl
def lG(h:t r st= .ok true Ef):Qs t F G r st=F r Ef:=by unfold Qs;rw[h];rfl
def iR(h:t r st= .ok false Ef):Qs t F G r st=G r Ef:=by unfold Qs;rw[h];rfl
def zV(h:fl r st= .ok l Ef):eM fl r st= .ok (.lst l) Ef:=by unfold eM;rw[h];rfl
def wq{k:EK PV->qC->Rs PV}{fa:FA}(h:fa r st= .ok l Ef):qI k fa r st=k l Ef:=by unfold qI;rw[h];rfl
def qq{fa:FA}{Et:qC}(h:f r st= .ok p Ef)(U:fa r Ef= .ok l Et):qA f fa r st= .ok (p::l) Et:=by unfold qA;rw[h];show (fa r Ef).bind _=_;rw[U];rfl
def QH{k:PV->PV->qC->Rs PV}{I:FE}{q:PV}{Et:qC}(h:f r st= .ok p Ef)(U:I r Ef= .ok q Et):qK k f I r st=k p q Et:=by unfold qK;rw[h];show (I r Ef).bind _=_;rw[U];rfl
def Zr{b:Bool}(h:f r st= .ok (.bl b) Ef):wn f r st= .ok b Ef:=by unfold wn;rw[h];rfl
def lK{b:Bool}(h:t r st= .ok b Ef):zB t r st= .ok (!b) Ef:=by unfold zB;rw[h];rfl
def Yv{b:Bool}(h:f r st= .ok (.bl b) Ef):eU f r st= .ok b Ef:=by unfold eU;rw[h];rfl
def WP{n N:Nat}{B:FS}(hl:l.length=n)(h:B (QC N l) st= .rt p Ef):QD n N B l st= .ok p Ef:=by unfold QD;rw[AC hl,h];rfl
end
section
variable{F G:FS}{f fb fo fi2:FE}{fl:FL}{fi:FI}{fa:FA}{g:FG}{t u:FT}{r r1 r':qz}{st s1 s2 s3:qC}{p q z:PV}{l m:EK PV}{w:ItP}{i:Nat}{b c:Bool}{x:gG}{o:RS}{R:Rs PV}
def qV{k:PV->PV->qC->Rs PV}(h:f r st= .ok p s1)(U:fb r s1= .ok q s2)(F:k p q s2=R):qK k f fb r st=R:=by rw[QH h U];exact F
def qO{k:EK PV->qC->Rs PV}(h:fa r st= .ok l s1)(U:k l s1=R):qI k fa r st=R:=by rw[wq h];exact U
def qY:qD r st= .ok [] st:=rfl
def qL(h:f r st= .ok p s1)(U:fa r s1= .ok l s2):qA f fa r st= .ok (p::l) s2:=qq h U
def Qw(h:fa r st= .ok l s1)(hl:l.length≤sizeLine):qp fa r st= .ok (.tup l) s1:=by unfold qp;rw[h];exact AC hl
def zi(h:fa r st= .ok l s1)(hl:l.length≤sizeLine):Qx fa r st= .ok l s1:=by unfold Qx;rw[h];exact AC hl
def WG(h:fl r st= .ok l s1):eM fl r st= .ok (.lst l) s1:=zV h
def JF(h:f r st= .ok p s1)(U:fb r s1= .ok q s2)(Z:fJ s2 p=some l)(R:fJ s2 q=some m)(hl:l.length+m.length≤sizeLine):ZM f fb r st= .ok (l++m) s2:=by unfold ZM;rw[h];show (fb r s1).bind _=_;rw[U];show (match fJ s2 p with|some l=>_|none=>_)=_;rw[Z];dsimp only;rw[R];dsimp only;rw[AC hl]
def QQ(h:f r st= .ok (.bl b) s1):wn f r st= .ok b s1:=Zr h
def WL(h:f r st= .ok (.bl b) s1):eU f r st= .ok b s1:=Yv h
def w_not(h:t r st= .ok b s1):zB t r st= .ok (!b) s1:=lK h
def zg(h:t r st= .ok true s1):zN t u r st= .ok true s1:=by unfold zN;rw[h];rfl
def WT(h:t r st= .ok false s1)(U:u r s1= .ok b s2):zN t u r st= .ok b s2:=by unfold zN;rw[h];exact U
def qk(h:F r st= .nx r' s1)(U:G r' s1=o):qS F G r st=o:=by rw[Qk h];exact U
def Q8(h:F r st= .rt p s1):qS F G r st= .rt p s1:=kR h
def YT(h:F r st= .ex x s1):qS F G r st= .ex x s1:=rR h
def Q1(h:f r st= .ok p s1):qc i f r st= .nx (r.set i (some p)) s1:=w9 h
def YR(h:fl r st= .ok l s1):zC i fl r st= .nx (r.set i (some (.ref s1.length))) (s1++[.l l]):=xS h
def lz(h:f r st= .ok p s1):Ww f r st= .nx r s1:=DO h
def Zz(h:f r st= .ex x s1):Ww f r st= .ex x s1:=sB h
def Qm(h:f r st= .ok p s1):qt f r st= .rt p s1:=jw h
def xX(h:f r st= .ex x s1):qt f r st= .ex x s1:=by unfold qt;rw[h];rfl
def wQ(h:t r st= .ok true s1)(U:F r s1=o):Qs t F G r st=o:=by rw[lG h];exact U
def wO(h:t r st= .ok false s1)(U:G r s1=o):Qs t F G r st=o:=by rw[iR h];exact U
def yv(h:fi r st= .ok w s1)(U:Q3 w.G g F w.l r s1=o):We fi g F r st=o:=by rw[mG h];exact U
def wZ{q:qC->Prop}(h:q st):Q3 q g F [] r st= .nx r st:=Yl h
def zH{q:qC->Prop}{ps:EK PV}(h:q st)(Y:g p r=some r1)(U:F r1 st= .nx r' s2)(I:Q3 q g F ps r' s2=o):Q3 q g F (p::ps) r st=o:=by rw[YM h Y U];exact I
def mz{r1:qz}(h:f r st= .ok p s1)(U:g p r=some r1):Yr f g r st= .nx r1 s1:=by unfold Yr;rw[h];show (match g p r with|some r'=>RS.nx r' s1|none=>RS.no)=_;rw[U]
def tO{j:Nat}(h:fa r st= .ok [p,q] s1):jz i j fa r st= .nx ((r.set i (some p)).set j (some q)) s1:=by unfold jz;rw[h];rfl
def Qu{n N:Nat}{B:FS}(hl:l.length=n)(h:B (QC N l) st= .rt p s1):QD n N B l st= .ok p s1:=WP hl h
def xm{n N:Nat}{B:FS}(hl:l.length=n)(h:B (QC N l) st= .nx r1 s1):QD n N B l st= .ok .non s1:=by unfold QD;rw[AC hl,h];rfl
def zy{n N:Nat}{B:FS}(hl:l.length=n)(h:B (QC N l) st= .ex x s1):QD n N B l st= .ex x s1:=pk hl h
def sz{n:Nat}(h:Nat.ble n 1000=true):n≤sizeLine:=AW (Nat.le_of_ble_eq_true h) (by decide)
def yE{i j:Int}:QU (.int i) (.int j) st= .ok (.int (i+j)) st:=rfl
def Zx{i j:Int}:zT (.int i) (.int j) st= .ok (.int (i-j)) st:=rfl
def w_lt{i j:Int}:gLt (.int i) (.int j) st= .ok (.bl (decide (i<j))) st:=rfl
def iw{i j:Int}:gLe (.int i) (.int j) st= .ok (.bl (decide (i≤j))) st:=rfl
def YZ{i:Int}(h:WN st p=some l)(U:atI l i=some z):eL p (.int i) st= .ok z st:=by unfold eL;simp only[h,U]
def Zi(h:WN st p=some l){n:Int}(Y:(l.length:Int)=n):Wp [p] st= .ok (.int n) st:=by unfold Wp;simp only[h];rw[Y]
def Y3{n:Nat}(h:st[n]? = some (.l l)):WN st (.ref n)=some l:=by unfold WN fJ;simp only[h]
def mW{n:Nat}(h:st[n]? = some (.l l)):fJ st (.ref n)=some l:=by unfold fJ;simp only[h]
def DR{n:Nat}(h:r[n]? = some (some p)):qB n r st= .ok p st:=by unfold qB;rw[h]
def Zg{n:Nat}(h:fo r st= .ok (.ref n) s1)(R:lk s1 (.ref n)=true)(U:f r s1= .ok p s2)(F:s2[n]? = some (.l l))(hl:l.length<sizeLine):wU fo f r st= .nx r (s2.set n (.l (l++[p]))):=by unfold wU;rw[h];show (if lk s1 (.ref n)=true then (f r s1).bindS _ else RS.no)=_;rw[AC R,U];show (match s2[n]? with|some (.l xs)=>if xs.length<sizeLine then RS.nx r (s2.set n (.l (xs++[p]))) else .no|_=>.no)=_;rw[F];exact AC hl
def zh{q:qC->Prop}{k:PV->qC->Rs (EK PV)}(h:q st):qo q k [] st= .ok [] st:=by unfold qo;exact AC h
def yU{q:qC->Prop}{k:PV->qC->Rs (EK PV)}{ps:EK PV}(R:q st)(h:k p st= .ok l s1)(U:qo q k ps s1= .ok m s2):qo q k (p::ps) st= .ok (l++m) s2:=by rw[qo,AC R,h];show (qo q k ps s1).bind _=_;rw[U];rfl
def jL(h:g p r=some r')(F:f r' st= .ok q s1):Qp ⟨fi,g,[]⟩ (wK [] f) r p st= .ok [q] s1:=by unfold Qp;show (match g p r with|none=>_|some r'=>_)=_;rw[h];show (wK [] f) r' st=_;unfold wK;rw[F];rfl
def lN{Ei:EK Nat}{n:Nat}{ts:EK FT}{gs:EK fG}(q:fi r st= .ok w s1)(h:qo w.G (Qp ⟨fi,g,ts⟩ (wK gs f) (zZ Ei n r)) w.l s1= .ok l s2)(hl:l.length≤sizeLine):qr Ei n fi g ts gs f r st= .ok l s2:=by unfold qr;rw[q];show (match qo w.G (Qp ⟨fi,g,ts⟩ (wK gs f) (zZ Ei n r)) w.l s1 with | .ok l L=>if l.length≤sizeLine then Rs.ok l L else Rs.no|_=>Rs.no)=_;rw[h];exact AC hl
def tW(h:WN st p=some l):Z9 [p] st= .ok (.tup l) st:=by unfold Z9;simp only[h]
def zU(h:f r st= .ok (.lst l) s1):q9 f r st= .ok ⟨l,fun _=>True⟩ s1:=by unfold q9;rw[h];rfl
def YA(h:f r st= .ok (.tup l) s1):q9 f r st= .ok ⟨l,fun _=>True⟩ s1:=by unfold q9;rw[h];rfl
end
abbrev CE:=qz->EO PV
section
variable{F G:FS}{f fb fc fo fi2:FE}{fl:FL}{fi:FI}{fa:FL}{g:FG}{t u:FT}{c d e:CE}{co cp:CO}{f1 f2:FO}{r r':qz}{st s1 s2 s3:qC}{p q z:PV}{l:EK PV}{n:Nat}{o:RS}
def pP(h:f r st= .ok (.ref n) s1)(U:s1[n]? = some (.l l)):q9 f r st= .ok ⟨l,fun s=>s[n]? = some (.l l)⟩ s1:=by unfold q9;rw[h];show kG (.ref n) s1=_;unfold kG;dsimp only;rw[mW U]
def kr(h:st[n]? = some (.l l)):lk st (.ref n)=true:=by unfold lk;dsimp only;rw[h]
end
end EV
end
noncomputable section
namespace K86
open PySem EV
def Wl:PV->Bool
 | .non=>true | .bl _=>true | .int _=>true | .str _=>true | .tup _=>true | .lst _=>true | .dct=>true|_=>false
def isInt:PV->Bool| .int _=>true|_=>false
def YO{a:Ad}{v:PV}{st:qC}(h:Wl v=true):zQ a [v] st= .ok (.bl (isInt v)) st:=by cases v <;> first|rfl|cases h
def zI(lo hi:Int):PV->Bool| .int i=>decide (lo≤i)&&decide (i≤hi)|_=>false
def sm{a:Ad}{v:PV}{st:qC}{lo hi:Int}(h:Wl v=true):wu a [v,.int lo,.int hi] st= .ok (.bl (zI lo hi v)) st:=by
 refine WP rfl ?_;unfold wt;refine (jw (p:=.bl (zI lo hi v)) (Ef:=st) ?_);unfold ZN;rw[wq (l:=[v]) (Ef:=st) rfl,YO h];cases v with|int i=>show (match (PV.bl (decide (lo≤i))) with | .bl true=>Rs.ok (PV.bl (decide (i≤hi))) st | .bl false=>Rs.ok (.bl false) st|_=>.no)=_;unfold zI;dsimp only;cases decide (lo≤i) <;> rfl|_=>rfl
def Jl{f:PV->Bool}:∀l:EK PV,Q2 iN (l.map fun p=>.bl (f p))=some (l.map f)|[]=>rfl|p::l=>by simp only[AU,Q2,iN,Jl l]
def jP{i j:Int}{st:qC}:gEq (.int i) (.int j) st= .ok (.bl (i==j)) st:=rfl
def km{n:Nat}(h:n≤100000):n≤sizeLine:=AW h (by decide)
def yN(L:Int):EK Int:=(List.range L.toNat).map fun (i:Nat)=>(i:Int)
def xq{L:Int}:yp 0 L=(yN L).map PV.int:=by unfold yp yN;rw[BL,Int.sub_zero];refine BE fun i _=>?_;show PV.int (0+(i:Int))=PV.int i;rw[Int.zero_add]
def gc{L i:Int}:i∈yN L ↔ 0≤i∧i<L:=by
 unfold yN;rw[An];constructor;rintro⟨j,F,rfl⟩;rw[Bg]at F;omega;rintro⟨Y,U⟩;exact⟨i.toNat,by rw[Bg];omega,by omega⟩
def rj{L:Int}:(yN L).length=L.toNat:=by simp[yN]
def pi{l:EK Int}{L i:Int}(hl:l.length=L.toNat)(h0:0≤i)(Y:i<L):L2.atI (l.map PV.int) i=some (.int (l.getD i.toNat 0)):=by
 unfold L2.atI L2.ixN;rw[AG,AC h0,AC (by omega)];show (l.map PV.int)[i.toNat]? = _;have hi:i.toNat<l.length:=by omega
 rw[Am,AE hi,AH,AE hi];rfl
def kP{l:EK Int}{L i:Int}{st:qC}(hl:l.length=L.toNat)(h0:0≤i)(Y:i<L):eL (.lst (l.map PV.int)) (.int i) st= .ok (.int (l.getD i.toNat 0)) st:=by unfold eL;simp only[WN,fJ,pi hl h0 Y]
def lg{i j:Int}{st:qC}(h:-(2 ^ 64)<j∧j<2 ^ 64):zr (.int i) (.int j) st= .ok (.int (i*j)) st:=by unfold zr gI;dsimp only;rw[AC (.inr h)]
def jh{i j:Int}{st:qC}(h:0<j):jo (.int i) (.int j) st= .ok (.int (i%j)) st:=by unfold jo gI;dsimp only;rw[AC h]
def pO{i j:Int}{st:qC}(h:0<j)(U:j<1073741824):qEw (.int i) (.int j) st= .ok (.int (i/j)) st:=by unfold qEw gI;dsimp only;rw[AC ⟨h,U⟩]
def xI{i j:Int}{st:qC}(h:0<j)(U:j<2 ^ 64):qA9 (.int i) (.int j) st= .ok (.int (i/j)) st:=by unfold qA9 gI;dsimp only;rw[AC ⟨h,U⟩]
def wm{a:Ad}{st j:qC}{x m:Int}(h0:0<m)(Y:m<2 ^ 64):qg a [.ref st.length,.int m] (st ++ .l [.int x]::j)= .ok (.int (x%m)) (st ++ .l [.int (x/m)]::j):=by
 have hs:(st++SO.l [.int x]::j)[st.length]? = some (.l [.int x]):=by simp
 have I:eL (.ref st.length) (.int 0) (st++SO.l [.int x]::j)= .ok (.int x) (st++SO.l [.int x]::j):=by unfold eL;simp only[WN,fJ,hs];rfl
 refine WP rfl ?_;unfold ZR;rw[Qk (w9 (p:=.int (x%m)) (Ef:=st++SO.l [.int x]::j) (r:=QC 3 [.ref st.length,.int m]) ?_),Qk (r':=[some (.ref st.length),some (.int m),some (.int (x%m))]) (Ef:=st++SO.l [.int (x/m)]::j) ?_];rfl
 ·unfold lj;rw[QH (p:=.int x) (q:=.int m) (Ef:=st++SO.l [.int x]::j) (Et:=st++SO.l [.int x]::j) ?_ rfl,xI h0 Y]
  ·show (match Y7 (st++SO.l [.int x]::j) (.ref st.length) (.int 0) (.int (x/m)) with|some F=>RS.nx _ F|none=>RS.no)=_
   have:Y7 (st++SO.l [.int x]::j) (.ref st.length) (.int 0) (.int (x/m))=some (st++SO.l [.int (x/m)]::j):=by unfold Y7;simp only[hs];show some ((st++SO.l [.int x]::j).set st.length (.l [.int (x/m)]))=_;rw[List.set_append_right _ _ (AN _),C5];rfl
   rw[this];rfl
  ·rw[QH (p:=.ref st.length) (q:=.int 0) rfl rfl];exact I
 ·rw[QH (p:=.int x) (q:=.int m) (Ef:=st++SO.l [.int x]::j) (Et:=st++SO.l [.int x]::j) ?_ rfl,jh h0];rw[QH (p:=.ref st.length) (q:=.int 0) rfl rfl];exact I
def re{a:Ad}{ns:EK Int}{k:Int}{st:qC}(h0:0≤k):∃c,zK a [.lst (ns.map PV.int),.int k] st= .ok (.int c) st:=by
 by_cases R:k<(ns.length:Int)
 ·refine⟨ns.getD k.toNat 0,WP rfl ?_⟩;unfold zO;rw[kR (p:=.int (ns.getD k.toNat 0)) (Ef:=st) (r:=QC 2 [.lst (ns.map PV.int),.int k]) ?_];rw[lG (Ef:=st) ?_,jw (p:=.int (ns.getD k.toNat 0)) (Ef:=st) ?_];rw[QH (p:=.lst (ns.map PV.int)) (q:=.int k) rfl rfl,kP (L:=ns.length) (by omega) h0 R]
  ·refine Yv ?_;rw[QH (p:=.int k) (q:=.int ns.length) rfl ?_];show Rs.ok (PV.bl (decide (k<(ns.length:Int)))) st=_;rw[Af R];rw[wq (l:=[.lst (ns.map PV.int)]) rfl];show Rs.ok (PV.int ((ns.map PV.int).length:Int)) st=_;rw[AG]
 ·refine⟨6151*k+29,WP rfl ?_⟩;unfold zO;rw[Qk (r':=QC 2 [.lst (ns.map PV.int),.int k]) (Ef:=st) (r:=QC 2 [.lst (ns.map PV.int),.int k]) ?_]
  ·rw[jw (p:=.int (6151*k+29)) (Ef:=st) ?_];rw[QH (p:=.int (6151*k)) (q:=.int 29) (Ef:=st) (Et:=st) ?_ rfl];rfl;rw[QH (p:=.int 6151) (q:=.int k) rfl rfl];unfold zr gI;dsimp only;rw[AC (.inl ⟨by decide,by decide⟩)]
  ·rw[iR (Ef:=st) ?_];rfl
   ·refine Yv ?_;rw[QH (p:=.int k) (q:=.int ns.length) rfl ?_];show Rs.ok (PV.bl (decide (k<(ns.length:Int)))) st=_;rw[Ak R];rw[wq (l:=[.lst (ns.map PV.int)]) rfl];show Rs.ok (PV.int ((ns.map PV.int).length:Int)) st=_;rw[AG]
def mD{i j:Int}{st:qC}(h:-(2 ^ 64)<i∧i<2 ^ 64):zr (.int i) (.int j) st= .ok (.int (i*j)) st:=by unfold zr gI;dsimp only;rw[AC (.inl h)]
def jN:FS:=(qS (qc 4 (qK jo (qK QU (qK QU (qK QU (qK zr (qB 4) (vC (.int 48271))) (qK zr (qK zr (vC (.int 7)) (qB 5)) (qB 5))) (qK zr (vC (.int 11)) (qB 1))) (vC (.int 1))) (vC (.int 2147483647)))) (qc 3 (qK QU (qK zr (qB 3) (vC (.int 2147483647))) (qB 4))))
def Ju{s:PV}{c k:Int}{st:qC}:∀(L:EK Int) (n m:Int) (x:EO PV),(∀j∈L,0≤j∧j<24)->∃U I F,Q3 (fun _=>True) (Qf 5) jN (L.map PV.int) [some s,some (.int k),some (.int c),some (.int n),some (.int m),x] st= .nx [some s,some (.int k),some (.int c),some (.int U),some (.int I),F] st
 |[],n,m,x,_=>⟨n,m,x,by rw[C2,Yl trivial]⟩
 |j::L,n,m,x,h=>by
  have M:=h j AT;have e:jN [some s,some (.int k),some (.int c),some (.int n),some (.int m),some (.int j)] st= .nx [some s,some (.int k),some (.int c),some (.int (n*2147483647+(m*48271+7*j*j+11*k+1)%2147483647)),some (.int ((m*48271+7*j*j+11*k+1)%2147483647)),some (.int j)] st:=by
   unfold jN;rw[Qk (w9 (p:=.int ((m*48271+7*j*j+11*k+1)%2147483647)) (Ef:=st) ?_),w9 (p:=.int (n*2147483647+(m*48271+7*j*j+11*k+1)%2147483647)) (Ef:=st) ?_];rfl
   ·rw[QH (p:=.int (n*2147483647)) (q:=.int ((m*48271+7*j*j+11*k+1)%2147483647)) (Ef:=st) (Et:=st) ?_ rfl];rfl;rw[QH (p:=.int n) (q:=.int 2147483647) rfl rfl,lg ⟨by decide,by decide⟩]
   ·rw[QH (p:=.int (m*48271+7*j*j+11*k+1)) (q:=.int 2147483647) (Ef:=st) (Et:=st) ?_ rfl,jh (by decide)];rw[QH (p:=.int (m*48271+7*j*j+11*k)) (q:=.int 1) (Ef:=st) (Et:=st) ?_ rfl];rfl;rw[QH (p:=.int (m*48271+7*j*j)) (q:=.int (11*k)) (Ef:=st) (Et:=st) ?_ ?_];rfl
    ·rw[QH (p:=.int (m*48271)) (q:=.int (7*j*j)) (Ef:=st) (Et:=st) ?_ ?_];rfl;rw[QH (p:=.int m) (q:=.int 48271) rfl rfl,lg ⟨by decide,by decide⟩]
     ·rw[QH (p:=.int (7*j)) (q:=.int j) (Ef:=st) (Et:=st) ?_ rfl,lg ⟨by omega,by omega⟩];rw[QH (p:=.int 7) (q:=.int j) rfl rfl,mD ⟨by decide,by decide⟩]
    ·rw[QH (p:=.int 11) (q:=.int k) rfl rfl,mD ⟨by decide,by decide⟩]
  obtain⟨U,I,F,R⟩:=Ju L _ _ (some (.int j)) fun q Z=>h q (AO _ Z);exact⟨U,I,F,by rw[AU,YM (r1:=[some s,some (.int k),some (.int c),some (.int n),some (.int m),some (.int j)]) trivial rfl e];exact R⟩
def sW{a:Ad}{ns:EK Int}{k:Int}{st:qC}(h0:0≤k):∃x,ZD a [.lst (ns.map PV.int),.int k] st= .ok (.ref st.length) (st++[.l [.int x]]):=by
 obtain⟨c,I⟩:=re (a:=a) (ns:=ns) (k:=k) (st:=st) h0;have Y:qc 2 (qI (zK a) (qA (qB 0) (qA (qB 1) qD))) (QC 6 [.lst (ns.map PV.int),.int k]) st= .nx [some (.lst (ns.map PV.int)),some (.int k),some (.int c),none,none,none] st:=by
  rw[w9 (p:=.int c) (Ef:=st) ?_];rfl;rw[wq (l:=[.lst (ns.map PV.int),.int k]) rfl];exact I
 have L:∀b:Bool,(c%2==0)=b->eU (qK gEq (qK jo (qB 2) (vC (.int 2))) (vC (.int 0))) [some (.lst (ns.map PV.int)),some (.int k),some (.int c),none,none,none] st= .ok b st:=by intro b hb;refine Yv ?_;rw[QH (p:=.int (c%2)) (q:=.int 0) (Ef:=st) (Et:=st) ?_ rfl,jP,hb];rw[QH (p:=.int c) (q:=.int 2) rfl rfl,jh (by decide)]
 cases hb:(c%2==0) with
 |true =>
  refine⟨c/2,WP rfl ?_⟩;unfold ZG;rw[Qk Y,kR (p:=.ref st.length) (Ef:=st++[.l [.int (c/2)]]) ?_];rw[lG (L true hb),n6 (l:=[.int (c/2)]) (Ef:=st) ?_];unfold Qx;rw[qq (p:=.int (c/2)) (l:=[]) (Ef:=st) (Et:=st) ?_ rfl];rfl;rw[QH (p:=.int c) (q:=.int 2) rfl rfl,pO (by decide) (by decide)]
 |false =>
  obtain⟨U,M,F,e⟩:=Ju (s:=.lst (ns.map PV.int)) (c:=c) (k:=k) (st:=st) (yN 24) 0 (c%2147483647) none fun j Z=>gc.mp Z;refine⟨U,WP rfl ?_⟩;unfold ZG;rw[Qk Y,Qk (r':=[some (.lst (ns.map PV.int)),some (.int k),some (.int c),none,none,none]) (Ef:=st) (by rw[iR (L false hb)];rfl),Qk (w9 (p:=.int 0) (Ef:=st) rfl),Qk (w9 (p:=.int (c%2147483647)) (Ef:=st) ?_),Qk (r':=[some (.lst (ns.map PV.int)),some (.int k),some (.int c),some (.int U),some (.int M),F]) (Ef:=st) ?_,n6 (l:=[.int U]) (Ef:=st) rfl];rw[mG (w:=⟨(yN 24).map PV.int,fun _=>True⟩) (Ef:=st) rfl];exact e;rw[QH (p:=.int c) (q:=.int 2147483647) rfl rfl,jh (by decide)]
section
variable{F G:FS}{f fb:FE}{fl:FL}{t u:FT}{r:qz}{st Ef Et:qC}{p q:PV}{l m:EK PV}
def Z8{fa:FA}(h:fa r st= .ok l Ef)(hl:l.length≤sizeLine):Qx fa r st= .ok l Ef:=by unfold Qx;rw[h];show (if l.length≤sizeLine then _ else _)=_;rw[AC hl]
def jV(h:f r st= .ok p Ef)(U:fb r Ef= .ok q Et)(Z:fJ Et p=some l)(R:fJ Et q=some m)(hl:l.length+m.length≤sizeLine):ZM f fb r st= .ok (l++m) Et:=by unfold ZM;rw[h];show (fb r Ef).bind _=_;rw[U];show (match fJ Et p with|some l=>_|none=>_)=_;rw[Z];dsimp only;rw[R];dsimp only;rw[AC hl]
def oA{b:Bool}(h:t r st= .ok false Ef)(U:u r Ef= .ok b Et):zN t u r st= .ok b Et:=by unfold zN;rw[h];exact U
end
def Qa{a:Ad}{x d:EN}{fs:EK (Str×Int)}{st:qC}{r:qz}{b:Bool}(h0:r[0]? = some (some (.exc x fs)))(M:x∈Qb a)(hd:d∈a.kinds)(hb:(x==d)=b):qI (QX (kit a)) (qA (qB 0) (qA (vC (.fn d)) qD)) r st= .ok (.bl b) st:=by
 rw[wq (l:=[.exc x fs,.fn d]) (Ef:=st) (by unfold qA qB;rw[h0];rfl)];show (match (if x∈Qb a∧d∈a.kinds then some (x==d) else none) with|some b=>Rs.ok (PV.bl b) st|none=>.no)=_;rw[AC ⟨M,hd⟩,hb]
def md{a:Ad}{x:EN}{fs:EK (Str×Int)}{st:qC}{r:qz}(h0:r[0]? = some (some (.exc x fs)))(M:x∈Qb a):qI (QX (kit a)) (qA (qB 0) (qA (vC (.ty "ValueError")) qD)) r st= .ok (.bl true) st:=by
 rw[wq (l:=[.exc x fs,.ty "ValueError"]) (Ef:=st) (by unfold qA qB;rw[h0];rfl)];show (match (if x∈Qb a ∧ "ValueError" = "ValueError" then some true else none) with|some b=>Rs.ok (PV.bl b) st|none=>.no)=_;rw[AC ⟨M,rfl⟩]
def Yq(a:Ad):a.Z1∈a.kinds∧a.Z2∈a.kinds∧a.Z3∈a.kinds∧a.Z4∈a.kinds∧a.Z5∈a.kinds∧a.Z6∈a.kinds∧a.Z7∈a.kinds∧a.Z8∈a.kinds∧a.Z9∈a.kinds∧a.Z10∈a.kinds∧a.Z11∈a.kinds:=by unfold Ad.kinds;simp
def mV{bs:EK PV}{F:PV->PV}{st:qC}{r:qz}(Y:r[1]? = some (some (.lst bs)))(hl:bs.length≤11)(hb:∀p∈bs,∃b,p= .bl b)(Z:∀b,F (.bl b)= .int (if b then 1 else 0)) :
  eM (qr [] 1 (q9 (qB 1)) (qw 0) [] [] (qI qCy (qA (qB 0) qD))) r st= .ok (.lst (bs.map F)) st:=by
 refine zV ?_;rw[wI (w:=⟨bs,fun _=>True⟩) (F:=F) (by unfold q9 qB;rw[Y];rfl) trivial (km (by show bs.length≤100000;omega)) fun p L=>?_];obtain⟨b,rfl⟩:=hb p L;refine⟨[some (.bl b)],rfl,?_⟩;rw[Z];cases b <;> rfl
def l6:PV->PV| .bl b=>.int (if b then 1 else 0)|p=>p
def j0{a:Ad}(hd:e9 a){st:qC}{fs:EK (Str×Int)}:WZ a [.exc a.Z2 fs] st= .ok (.str "! number") st:=by
 have nd:=hd.nd;unfold Ad.kinds at nd;simp only[Bm,AJ,Ae,not_or,BX]at nd;obtain⟨⟨Y,af,ag,ah,ai,aj,ak,al,am,a4⟩,⟨Z,I,L,R,a0,a1,a2,a3,U⟩,⟨ao,ap,aq,ar,as,au,av,a5⟩,⟨aw,ax,ay,az,aA,aB,a6⟩,⟨aC,aD,aE,aF,aG,a7⟩,⟨aH,aI,aJ,aK,a8⟩,⟨aL,aM,aN,a9⟩,⟨aO,aP,aa⟩,⟨aQ,ab⟩,ac,_⟩:=nd;obtain⟨m0,m1,m2,m3,m4,m5,m6,m7,m8,m9,ae⟩:=Yq a;have M:a.Z2∈Qb a:=by unfold Qb;simp
 refine WP rfl ?_;unfold zM;rw[Qk (w9 (p:=.lst [.bl false,.bl true,.bl false,.bl false]) (Ef:=st) (r:=QC 3 [.exc a.Z2 fs]) (zV (Z8 (qq (Qa rfl M m0 (AI.mpr (Ne.symm Y))) (qq (Qa rfl M m1 (Aj _)) (qq (Qa rfl M m2 (AI.mpr Z)) (qq (Qa rfl M m3 (AI.mpr I)) rfl)))) (by decide)))),
  Qk (w9 (p:=.lst [.bl false,.bl true,.bl false,.bl false,.bl false,.bl false,.bl false,.bl false]) (Ef:=st) (zV (jV (l:=[.bl false,.bl true,.bl false,.bl false]) (p:=.lst [.bl false,.bl true,.bl false,.bl false]) (Ef:=st) rfl (zV (Z8 (qq (Qa rfl M m4 (AI.mpr L)) (qq (Qa rfl M m5 (AI.mpr R)) (qq (Qa rfl M m6 (AI.mpr a0)) (qq (Qa rfl M m7 (AI.mpr a1)) rfl)))) (by decide))) rfl rfl (by decide)))),
  Qk (w9 (p:=.lst [.bl false,.bl true,.bl false,.bl false,.bl false,.bl false,.bl false,.bl false,.bl false,.bl false,.bl false]) (Ef:=st) (zV (jV (l:=[.bl false,.bl true,.bl false,.bl false,.bl false,.bl false,.bl false,.bl false]) (p:=.lst [.bl false,.bl true,.bl false,.bl false,.bl false,.bl false,.bl false,.bl false]) (Ef:=st) rfl (zV (Z8 (qq (Qa rfl M m8 (AI.mpr a2)) (qq (Qa rfl M m9 (AI.mpr a3)) (qq (Qa rfl M ae (AI.mpr U)) rfl))) (by decide))) rfl rfl (by decide))))]
 rw[Qk (r':=[some (.exc a.Z2 fs),some (.lst [.bl false,.bl true,.bl false,.bl false,.bl false,.bl false,.bl false,.bl false,.bl false,.bl false,.bl false]),none]) (Ef:=st) ?_,Qk (F:=qc 2 _) (r':=[some (.exc a.Z2 fs),some (.lst [.bl false,.bl true,.bl false,.bl false,.bl false,.bl false,.bl false,.bl false,.bl false,.bl false,.bl false]),some (.lst [.str "length",.str "number",.str "bars",.str "box",.str "weights",.str "sorts",.str "turn",.str "place",.str "text",.str "row",.str "many"])]) (Ef:=st) rfl];rfl
 ·show Qs _ _ _ [some (.exc a.Z2 fs),some (.lst [.bl false,.bl true,.bl false,.bl false,.bl false,.bl false,.bl false,.bl false,.bl false,.bl false,.bl false]),none] st=_;rw[iR (Ef:=st) (oA (Ef:=st) (lK (b:=true) (Zr (md rfl M))) (Yv ?_))];rfl
  ·rw[QH (p:=.int 1) (q:=.int 1) (Ef:=st) (Et:=st) ?_ rfl];rfl
   ·rw[wq (l:=[.lst [.int 0,.int 1,.int 0,.int 0,.int 0,.int 0,.int 0,.int 0,.int 0,.int 0,.int 0]]) (Ef:=st) (qq (Ef:=st) (mV (F:=l6) (bs:=[.bl false,.bl true,.bl false,.bl false,.bl false,.bl false,.bl false,.bl false,.bl false,.bl false,.bl false]) rfl (by decide) (by simp) fun b=>rfl) rfl)];rfl
def t7{a:Ad}(hd:e9 a){st:qC}{fs:EK (Str×Int)}:WZ a [.exc a.Z6 fs] st= .ok (.str "! sorts") st:=by
 have nd:=hd.nd;unfold Ad.kinds at nd;simp only[Bm,AJ,Ae,not_or,BX]at nd;obtain⟨⟨af,ag,ah,ai,Y,aj,ak,al,am,a4⟩,⟨ao,ap,aq,R,ar,as,au,av,a5⟩,⟨aw,ax,Z,ay,az,aA,aB,a6⟩,⟨aC,I,aD,aE,aF,aG,a7⟩,⟨L,aH,aI,aJ,aK,a8⟩,⟨a0,a1,a2,a3,U⟩,⟨aL,aM,aN,a9⟩,⟨aO,aP,aa⟩,⟨aQ,ab⟩,ac,_⟩:=nd;obtain⟨m0,m1,m2,m3,m4,m5,m6,m7,m8,m9,ae⟩:=Yq a;have M:a.Z6∈Qb a:=by unfold Qb;simp
 refine WP rfl ?_;unfold zM;rw[Qk (w9 (p:=.lst [.bl false,.bl false,.bl false,.bl false]) (Ef:=st) (r:=QC 3 [.exc a.Z6 fs]) (zV (Z8 (qq (Qa rfl M m0 (AI.mpr (Ne.symm Y))) (qq (Qa rfl M m1 (AI.mpr (Ne.symm R))) (qq (Qa rfl M m2 (AI.mpr (Ne.symm Z))) (qq (Qa rfl M m3 (AI.mpr (Ne.symm I))) rfl)))) (by decide)))),
  Qk (w9 (p:=.lst [.bl false,.bl false,.bl false,.bl false,.bl false,.bl true,.bl false,.bl false]) (Ef:=st) (zV (jV (l:=[.bl false,.bl false,.bl false,.bl false]) (p:=.lst [.bl false,.bl false,.bl false,.bl false]) (Ef:=st) rfl (zV (Z8 (qq (Qa rfl M m4 (AI.mpr (Ne.symm L))) (qq (Qa rfl M m5 (Aj _)) (qq (Qa rfl M m6 (AI.mpr a0)) (qq (Qa rfl M m7 (AI.mpr a1)) rfl)))) (by decide))) rfl rfl (by decide)))),
  Qk (w9 (p:=.lst [.bl false,.bl false,.bl false,.bl false,.bl false,.bl true,.bl false,.bl false,.bl false,.bl false,.bl false]) (Ef:=st) (zV (jV (l:=[.bl false,.bl false,.bl false,.bl false,.bl false,.bl true,.bl false,.bl false]) (p:=.lst [.bl false,.bl false,.bl false,.bl false,.bl false,.bl true,.bl false,.bl false]) (Ef:=st) rfl (zV (Z8 (qq (Qa rfl M m8 (AI.mpr a2)) (qq (Qa rfl M m9 (AI.mpr a3)) (qq (Qa rfl M ae (AI.mpr U)) rfl))) (by decide))) rfl rfl (by decide))))]
 rw[Qk (r':=[some (.exc a.Z6 fs),some (.lst [.bl false,.bl false,.bl false,.bl false,.bl false,.bl true,.bl false,.bl false,.bl false,.bl false,.bl false]),none]) (Ef:=st) ?_,Qk (F:=qc 2 _) (r':=[some (.exc a.Z6 fs),some (.lst [.bl false,.bl false,.bl false,.bl false,.bl false,.bl true,.bl false,.bl false,.bl false,.bl false,.bl false]),some (.lst [.str "length",.str "number",.str "bars",.str "box",.str "weights",.str "sorts",.str "turn",.str "place",.str "text",.str "row",.str "many"])]) (Ef:=st) rfl];rfl
 ·show Qs _ _ _ [some (.exc a.Z6 fs),some (.lst [.bl false,.bl false,.bl false,.bl false,.bl false,.bl true,.bl false,.bl false,.bl false,.bl false,.bl false]),none] st=_;rw[iR (Ef:=st) (oA (Ef:=st) (lK (b:=true) (Zr (md rfl M))) (Yv ?_))];rfl
  ·rw[QH (p:=.int 1) (q:=.int 1) (Ef:=st) (Et:=st) ?_ rfl];rfl
   ·rw[wq (l:=[.lst [.int 0,.int 0,.int 0,.int 0,.int 0,.int 1,.int 0,.int 0,.int 0,.int 0,.int 0]]) (Ef:=st) (qq (Ef:=st) (mV (F:=l6) (bs:=[.bl false,.bl false,.bl false,.bl false,.bl false,.bl true,.bl false,.bl false,.bl false,.bl false,.bl false]) rfl (by decide) (by simp) fun b=>rfl) rfl)];rfl
def JP{a:Ad}{st j:qC}{x:Int}:∃v,Wl v=true∧zI 0 200 v=false∧wD a [.ref st.length] (st ++ .l [.int x]::j)= .ok v (st ++ .l [.int (x/8)]::j):=by
 have e:∀v,eL (.lst [.int (-1),.int 201,.bl true,.non,.str "3",.tup [.int 1],.int (10 ^ 39),.lst [.int 2]]) (.int (x%8)) (st ++ .l [.int (x/8)]::j)= .ok v (st ++ .l [.int (x/8)]::j)->wD a [.ref st.length] (st ++ .l [.int x]::j)= .ok v (st ++ .l [.int (x/8)]::j):=fun v L =>
  Qu rfl (Qm (qV (p:=.lst [.int (-1),.int 201,.bl true,.non,.str "3",.tup [.int 1],.int (10 ^ 39),.lst [.int 2]]) (q:=.int (x%8)) (s1:=st ++ .l [.int x]::j) (s2:=st ++ .l [.int (x/8)]::j) rfl (qO (l:=[.ref st.length,.int 8]) (s1:=st ++ .l [.int x]::j) rfl (wm (by decide) (by decide))) L))
 have h:x%8=0∨x%8=1∨x%8=2∨x%8=3∨x%8=4∨x%8=5∨x%8=6∨x%8=7:=by omega
 rcases h with h|h|h|h|h|h|h|h <;> rw[h]at e
 ·exact⟨_,rfl,rfl,e (.int (-1)) rfl⟩
 ·exact⟨_,rfl,rfl,e (.int 201) rfl⟩
 ·exact⟨_,rfl,rfl,e (.bl true) rfl⟩
 ·exact⟨_,rfl,rfl,e .non rfl⟩
 ·exact⟨_,rfl,rfl,e (.str "3") rfl⟩
 ·exact⟨_,rfl,rfl,e (.tup [.int 1]) rfl⟩
 ·exact⟨_,rfl,rfl,e (.int (10 ^ 39)) rfl⟩
 ·exact⟨_,rfl,rfl,e (.lst [.int 2]) rfl⟩
end K86
end
noncomputable section
namespace K86
open PySem EV EX
def qj(s:Int×Int):PV:=.tup [.int s.1,.int s.2]
def sP(S:EK (Int×Int)):PV:=.tup (S.map qj)
structure fU (S:List (Int×Int)):Prop where
 lo:1≤S.length
 hi:S.length≤4
 ris:(S.map (·.1)).Pairwise (· < ·)
 b:∀s∈S,1≤s.1∧s.1≤9∧0≤s.2∧s.2≤1000000000000
def ki{L:Int}{r:qz}{st s1:qC}{f:FA}(Y:0≤L)(U:L≤1000)(F:f r st= .ok [.int L] s1):(zY f) r st= .ok ⟨(yN L).map PV.int,fun _=>True⟩ s1:=by unfold zY;rw[F];show jm [.int L] s1=_;unfold jm;dsimp only;rw[AC (by omega),xq]
def JX:∀(vs Eh:EK Int),Eh.Nodup->(vs.foldl gE Eh).Nodup
 |[],Eh,h=>h
 |k::vs,Eh,h=>by
  rw[Bo];refine JX vs _ ?_;unfold gE;split;exact h;rename_i q;exact List.nodup_append.mpr ⟨h,by simp,fun a F b hb=>by rw[AX.mp hb];intro z;subst z;exact q F⟩
def oQ:∀(vs Eh:EK Int) (x:Int),x∈vs.foldl gE Eh ↔ x∈Eh∨x∈vs
 |[],Eh,x=>by simp
 |k::vs,Eh,x=>by
  rw[Bo,oQ vs _ x];unfold gE;split
  ·rename_i q;constructor
   ·rintro (h|h);exact .inl h;exact .inr (AO _ h)
   ·rintro (h|h);exact .inl h
    ·rcases AJ.mp h with rfl|h
     ·exact .inl q
     ·exact .inr h
  ·simp only[Ab,AJ,Ae,BX];constructor
   ·rintro ((h|h)|h);exact .inl h;exact .inr (.inl h);exact .inr (.inr h)
   ·rintro (h|h|h);exact .inl (.inl h);exact .inl (.inr h);exact .inr h
def tx(vs:EK Int):(f7 vs).Pairwise (· < ·):=by have Y:=n8 vs;have U:(f7 vs).Nodup:=(za vs).nodup_iff.mpr (JX vs [] List.nodup_nil);have F:(f7 vs).Pairwise (fun a b=>a≤b∧a≠b):=Y.and U;exact F.imp fun⟨p,q⟩=>by omega
def gw{vs:EK Int}{x:Int}:x∈f7 vs ↔ x∈vs:=by rw[(za vs).mem_iff];unfold dd;rw[oQ];simp
def pV{vs:EK Int}(h:vs≠[]):1≤(f7 vs).length∧(f7 vs).length≤vs.length:=by
 constructor;obtain⟨x,M⟩:=List.exists_mem_of_ne_nil vs h;exact List.length_pos_of_mem (gw.mpr M)
 ·rw[(za vs).length_eq]
  have:=yo vs []
  have z:([]:EK Int).length=0:=rfl;unfold dd;omega
def DY(a:Ad):FE:=(qK QU (vC (.int 1)) (qI (qg a) (qA (qB 0) (qA (qK eL (eM (Qx (qA (vC (.int 3)) (qA (vC (.int 9)) qD)))) (qI (qg a) (qA (qB 0) (qA (vC (.int 2)) qD)))) qD))))
def Jg{a:Ad}{st j:qC}{fi:FI}:∀(ks:EK PV) (x:Int),∃(vs:EK Int) (y:Int),vs.length=ks.length∧(∀v∈vs,1≤v∧v≤9)∧qo (fun _=>True) (Qp ⟨fi,qw 1,[]⟩ (wK [] (DY a)) [some (.ref st.length),none]) ks (st ++ .l [.int x]::j)= .ok (vs.map PV.int) (st ++ .l [.int y]::j)
 |[],x=>⟨[],x,rfl,fun v hv=>(Ae hv).elim,zh trivial⟩
 |k::ks,x=>by
  have I:=wm (a:=a) (st:=st) (j:=j) (x:=x) (m:=2) (by decide) (by decide);have M:∃m:Int,(m=3∨m=9)∧eL (.lst [.int 3,.int 9]) (.int (x%2)) (st ++ .l [.int (x/2)]::j)= .ok (.int m) (st ++ .l [.int (x/2)]::j):=by
   have:x%2=0∨x%2=1:=by omega
   rcases this with h|h <;> rw[h]
   ·exact⟨3,.inl rfl,rfl⟩
   ·exact⟨9,.inr rfl,rfl⟩
  obtain⟨m,F,R⟩:=M;have L:0<m∧m≤9:=by rcases F with rfl|rfl <;> decide
  have Y:=wm (a:=a) (st:=st) (j:=j) (x:=x/2) (m:=m) L.1 (by omega);obtain⟨vs,y,Z,U,h3⟩:=Jg (a:=a) (st:=st) (j:=j) (fi:=fi) ks (x/2/m);have hr:0≤x/2%m∧x/2%m<m:=⟨Int.emod_nonneg _ (by omega),Int.emod_lt_of_pos _ L.1⟩;refine⟨(1+x/2%m)::vs,y,by rw[Aa,Aa,Z],fun v hv=>?_,?_⟩
  ·rcases AJ.mp hv with rfl|hv
   ·omega
   ·exact U v hv
  ·refine yU (l:=[.int (1+x/2%m)]) trivial (jL (r':=[some (.ref st.length),some k]) rfl ?_) h3;exact qV (p:=.int 1) (q:=.int (x/2%m)) rfl (qO (l:=[.ref st.length,.int m]) (qL rfl (qL (qV (p:=.lst [.int 3,.int 9]) (q:=.int (x%2)) rfl (qO (l:=[.ref st.length,.int 2]) rfl I) R) qY)) Y) yE
def xQ(a:Ad):FE:=(qp (qA (qB 2) (qA (qI (qg a) (qA (qB 0) (qA (qB 1) qD))) qD)))
def Jp{a:Ad}{st j:qC}{fi:FI}{m:Int}(h0:0<m)(Y:m≤1000000000001):∀(R:EK Int) (x:Int),∃(S:EK (Int×Int)) (y:Int),S.map (·.1)=R∧(∀s∈S,0≤s.2∧s.2≤1000000000000)∧qo (fun _=>True) (Qp ⟨fi,qw 2,[]⟩ (wK [] (xQ a)) [some (.ref st.length),some (.int m),none]) (R.map PV.int) (st ++ .l [.int x]::j)= .ok (S.map qj) (st ++ .l [.int y]::j)
 |[],x=>⟨[],x,rfl,fun v L=>(Ae L).elim,zh trivial⟩
 |k::ks,x=>by
  have I:=wm (a:=a) (st:=st) (j:=j) (x:=x) (m:=m) h0 (by omega);obtain⟨S,y,U,F,q⟩:=Jp (a:=a) (st:=st) (j:=j) (fi:=fi) h0 Y ks (x/m);have M:0≤x%m∧x%m<m:=⟨Int.emod_nonneg _ (by omega),Int.emod_lt_of_pos _ h0⟩;refine⟨(k,x%m)::S,y,by rw[AU,U],fun s hs=>?_,?_⟩
  ·rcases AJ.mp hs with rfl|hs
   ·show 0≤x%m∧x%m≤_;omega
   ·exact F s hs
  ·refine yU (l:=[qj (k,x%m)]) trivial (jL (r':=[some (.ref st.length),some (.int m),some (.int k)]) rfl ?_) q;exact Qw (qL rfl (qL (qO (l:=[.ref st.length,.int m]) rfl I) qY)) (sz rfl)
def xH{a:Ad}{st j:qC}{x:Int}:∃(S:EK (Int×Int)) (y:Int),fU S∧Wf a [.ref st.length] (st ++ .l [.int x]::j)= .ok (sP S) (st ++ .l [.int y]::j):=by
 have t0:=wm (a:=a) (st:=st) (j:=j) (x:=x) (m:=4) (by decide) (by decide);have hn:1≤1+x%4∧1+x%4≤4:=by omega
 generalize hN:1+x%4=N at hn;obtain⟨vs,y,M,Z,h3⟩:=Jg (a:=a) (st:=st) (j:=j) (fi:=zY (qA (qK QU (vC (.int 1)) (qI (qg a) (qA (qB 0) (qA (vC (.int 4)) qD)))) qD)) ((yN N).map PV.int) (x/4);rw[AG,rj]at M;have I:vs.length≤4:=by omega
 have U:vs≠[]:=fun z=>by rw[z]at M;simp at M;omega
 have t3:=wm (a:=a) (st:=st) (j:=j) (x:=y) (m:=3) (by decide) (by decide);have hm:∃m:Int,(m=3∨m=12∨m=1000000000001)∧eL (.lst [.int 3,.int 12,.int 1000000000001]) (.int (y%3)) (st ++ .l [.int (y/3)]::j)= .ok (.int m) (st ++ .l [.int (y/3)]::j):=by
  have:y%3=0∨y%3=1∨y%3=2:=by omega
  rcases this with h|h|h <;> rw[h]
  ·exact⟨3,.inl rfl,rfl⟩
  ·exact⟨12,.inr (.inl rfl),rfl⟩
  ·exact⟨1000000000001,.inr (.inr rfl),rfl⟩
 obtain⟨m,a0,a1⟩:=hm;have F:0<m∧m≤1000000000001:=by rcases a0 with rfl|rfl|rfl <;> decide
 obtain⟨S,z,R,g2,g3⟩:=Jp (a:=a) (st:=st) (j:=j) (fi:=q9 (qB 1)) F.1 F.2 (f7 vs) (y/3);have hl:=pV U;have Y:S.length=(f7 vs).length:=by rw[←R,AG]
 refine⟨S,z,⟨by omega,by omega,by rw[R];exact tx vs,fun s hs=>?_⟩,Qu rfl ?_⟩
 ·have:s.1∈f7 vs:=by rw[←R];exact An.mpr ⟨s,hs,rfl⟩
  have:=Z _ (gw.mp this)
  exact⟨this.1,this.2,g2 s hs⟩
 unfold zd;refine qk (Q1 (p:=.lst ((f7 vs).map PV.int)) (s1:=st ++ .l [.int y]::j) ?_) ?_
 ·unfold lr;rw[WG (lN (l:=vs.map PV.int) (s2:=st ++ .l [.int y]::j) (ki (L:=N) (by omega) (by omega) (qL (qV rfl (qO (l:=[.ref st.length,.int 4]) rfl t0) (by rw[yE,hN])) qY)) h3 (by rw[AG];exact AW I (by decide)))];show kC (.lst (vs.map PV.int)) _=_;unfold kC;simp only[fJ];rw[show Q2 YY (vs.map PV.int)=some vs from by
   clear M Z h3 I U R g3 hl Y;induction vs with
   |nil=>rfl
   |cons v vs ih=>rw[AU,Q2,ih];rfl]
  dsimp only;rw[AC ⟨I,Z⟩]
 ·refine qk (Q1 (p:=.int m) (s1:=st ++ .l [.int (y/3)]::j) (qV (p:=.lst [.int 3,.int 12,.int 1000000000001]) (q:=.int (y%3)) rfl (qO (l:=[.ref st.length,.int 3]) rfl t3) a1)) ?_;refine Qm (qO (l:=[.lst (S.map qj)]) (qL (WG (lN (w:=⟨(f7 vs).map PV.int,fun _=>True⟩) (zU rfl) g3 (by rw[AG,Y];exact AW hl.2 (AW I (by decide))))) qY) (tW rfl))
def itR{lo hi:Int}{r:qz}{st s1:qC}{f:FA}(Y:0≤lo)(U:lo≤1000)(I:0≤hi)(q:hi≤1000)(F:f r st= .ok [.int lo,.int hi] s1):(yF f) r st= .ok ⟨yp lo hi,fun _=>True⟩ s1:=by unfold yF;rw[F];show jX [.int lo,.int hi] s1=_;unfold jX;dsimp only;rw[AC ⟨by omega,by omega,by omega,by omega⟩]
def gj(l:EK Nat):EK PV:=l.map fun (t:Nat)=>PV.int (t:Int)
def jf{n m:Nat}(h:n≤300)(M:m≤300){r:qz}{S:qC}{f:FA}(e:f r S= .ok [.int (n:Int),.int (m:Int)] S):yF f r S= .ok ⟨gj ((List.range (m-n)).map fun i=>n+i),fun _=>True⟩ S:=by
 rw[itR (by omega) (by omega) (by omega) (by omega) e];congr 2;unfold yp gj;rw[show ((m:Int)-(n:Int)).toNat=m-n by omega,BL];refine BE fun i _=>?_;show PV.int ((n:Int)+(i:Int))=PV.int ((n+i:Nat):Int);rw[Int.natCast_add]
def zf{lo n hi:Int}{r:qz}{st:qC}{f g h:FE}(Z:f r st= .ok (.int lo) st)(F:g r st= .ok (.int n) st)(M:h r st= .ok (.int hi) st):WJ gLe gLe f g h r st= .ok (.bl (decide (lo≤n)&&decide (n≤hi))) st:=by
 unfold WJ;rw[Z];show (g r st).bind _=_;rw[F];show ((gLe (.int lo) (.int n) st).bind fun z R=>match z with | .bl true=>(h r R).bind fun q s=>gLe (.int n) q s | .bl false=>Rs.ok (.bl false) R|_=>.no)=_;rw[iw];show (match PV.bl (decide (lo≤n)) with | .bl true=>(h r st).bind fun q s=>gLe (.int n) q s | .bl false=>Rs.ok (.bl false) st|_=>.no)=_;cases decide (lo≤n);rfl;dsimp only;rw[M];exact iw
def gY:PV->Bool| .tup l=>Nat.ble l.length 1000&&l.all Wl|p=>Wl p
def ii:PV->Bool| .tup [.int _,.int _]=>true|_=>false
def v8{v:PV}(h:gY v=true):Wl v=true:=by cases v <;> first|rfl|exact h
def l5{a:Ad}{v:PV}{st:qC}(h:Wl v=true):QX (kit a) [v,.ty "tuple"] st= .ok (.bl (match v with | .tup _=>true|_=>false)) st:=by cases v <;> first|rfl|cases h
def jd{f:PV->Bool}{l:EK PV}{st:qC}:Z2 [.lst (l.map fun p=>.bl (f p))] st= .ok (.bl (l.all f)) st:=by unfold Z2 Yn;simp only[fJ];rw[Jl];show Rs.ok (PV.bl ((l.map f).all id)) st=_;rw[List.all_map];rfl
def ui(p q:PV):(isInt p&&(isInt q&&true))=ii (.tup [p,q]):=by cases p <;> cases q <;> rfl
def po{l:EK PV}(h:l.length≠2):ii (.tup l)=false:=by
 match l,h with
 |[],_=>rfl
 |[p],_=>cases p <;> rfl
 |[_,_],h=>exact absurd rfl h
 |_::_::_::_,_=>unfold ii;split <;> first|rfl|(rename_i e;cases e)
def ve{a:Ad}{v:PV}{st:qC}(h:gY v=true):zL a [v,.int 2,.int 2] st= .ok (.bl (ii v)) st:=by
 refine Qu rfl (Qm ?_);unfold ZN;rw[qO (l:=[v,.ty "tuple"]) (s1:=st) rfl (l5 (v8 h))];cases v with
 |tup l =>
  have h:(Nat.ble l.length 1000&&l.all Wl)=true:=h;rw[Ar,A0]at h;show (WJ gLe gLe (qB 1) (qI Wp (qA (qB 0) qD)) (qB 2) (QC 3 [.tup l,.int 2,.int 2]) st).bind _=_;rw[zf (lo:=2) (n:=l.length) (hi:=2) rfl (qO rfl (Zi rfl rfl)) rfl];by_cases q:l.length=2
  ·rw[show (decide ((2:Int)≤(l.length:Int))&&decide ((l.length:Int)≤2))=true by rw[q];rfl];show qI Z2 _ _ _=_;refine qO (l:=[.lst (l.map fun p=>.bl (isInt p))]) (qL (WG (wI (w:=⟨l,fun _=>True⟩) (F:=fun p=>.bl (isInt p)) (YA rfl) trivial (sz h.1) fun p L=>⟨[some p],rfl,qO rfl (YO (h.2 p L))⟩)) qY) ?_;rw[jd];congr 2
   match l,q with|[p,q],_=>exact ui p q
  ·rw[show (decide ((2:Int)≤(l.length:Int))&&decide ((l.length:Int)≤2))=false by
    rw[Co];rcases Nat.lt_or_ge l.length 2 with z|z
    ·exact .inl (Ak (by omega))
    ·exact .inr (Ak (by omega)),po q]
   rfl
 |_=>rfl
def gr:PV->Bool| .tup [.int l,.int p]=>(decide (1≤l)&&decide (l≤9))&&(decide (0≤p)&&decide (p≤1000000000000))|_=>false
def ti{v:PV}(h:ii v=false):gr v=false:=by
 unfold gr;split;cases h;rfl
def pC{a:Ad}{v:PV}{st:qC}(h:gY v=true):ZF a [v] st= .ok (.bl (gr v)) st:=by
 refine Qu rfl (Qm ?_);unfold ZN;rw[qO (l:=[v,.int 2,.int 2]) (s1:=st) rfl (ve h)];cases U:ii v with
 |false=>rw[ti U];rfl
 |true =>
  unfold ii at U;split at U
  ·rename_i x y;show ((WJ gLe gLe (vC (.int 1)) (qK eL (qB 0) (vC (.int 0))) (vC (.int 9)) (QC 1 [.tup [.int x,.int y]]) st).bind _)=_;rw[zf (lo:=1) (n:=x) (hi:=9) rfl rfl rfl];show _=Rs.ok (PV.bl ((decide (1≤x)&&decide (x≤9))&&(decide (0≤y)&&decide (y≤1000000000000)))) st;cases (decide (1≤x)&&decide (x≤9));rfl;show WJ gLe gLe (vC (.int 0)) (qK eL (qB 0) (vC (.int 1))) (vC (.int 1000000000000)) (QC 1 [.tup [.int x,.int y]]) st=_;rw[zf (lo:=0) (n:=y) (hi:=1000000000000) rfl rfl rfl];rfl
  ·cases U
def iB(xs:EK Int):Bool:=(List.range (xs.length-1)).all fun i=>decide (xs.getD i 0<xs.getD (i+1) 0)
def rY{a:Ad}{xs:EK Int}{st:qC}(M:1≤xs.length)(U:xs.length≤100):zq a [.lst (xs.map PV.int)] st= .ok (.bl (iB xs)) st:=by
 refine Qu rfl (Qm ?_);let F:PV->PV:=fun p=>match p with | .int t=>.bl (decide (xs.getD (t.toNat-1) 0<xs.getD t.toNat 0))|_=>.non;refine qO (l:=[.lst ((gj ((List.range (xs.length-1)).map fun i=>1+i)).map F)]) (qL (WG (wI (w:=⟨gj ((List.range (xs.length-1)).map fun i=>1+i),fun _=>True⟩) (F:=F) (jf (n:=1) (m:=xs.length) (by omega) (by omega) (qL rfl (qL (qO (l:=[.lst (xs.map PV.int)]) rfl (Zi (l:=xs.map PV.int) rfl (by rw[AG]))) qY))) trivial (by unfold gj;rw[AG,AG,List.length_range];exact AW (Nat.sub_le _ _) (AW U (by decide))) fun p R=>?_)) qY) ?_
 ·obtain⟨t,Y,rfl⟩:=An.mp R;obtain⟨i,hi,rfl⟩:=An.mp Y;have hi:=Bg.mp hi;refine⟨[some (.lst (xs.map PV.int)),some (.int ((1+i:Nat):Int))],rfl,?_⟩;have Z:=kP (l:=xs) (L:=(xs.length:Int)) (i:=((1+i:Nat):Int)-1) (st:=st) (by omega) (by omega) (by omega);have I:=kP (l:=xs) (L:=(xs.length:Int)) (i:=((1+i:Nat):Int)) (st:=st) (by omega) (by omega) (by omega);refine qV (qV rfl (qV rfl rfl Zx) Z) (qV rfl rfl I) ?_;rw[w_lt];show _=Rs.ok (PV.bl (decide (xs.getD ((((1+i:Nat):Int)).toNat-1) 0<xs.getD (((1+i:Nat):Int)).toNat 0))) st;rw[show (((1+i:Nat):Int)-1).toNat=(((1+i:Nat):Int)).toNat-1 by omega]
 ·have e:(gj ((List.range (xs.length-1)).map fun i=>1+i)).map F=(gj (List.range (xs.length-1))).map fun p=>.bl ((fun p=>match p with | .int t=>decide (xs.getD t.toNat 0<xs.getD (t.toNat+1) 0)|_=>false) p):=by unfold gj;rw[BL,BL,BL];refine BE fun i _=>?_;show PV.bl (decide (xs.getD ((((1+i:Nat):Int)).toNat-1) 0<xs.getD (((1+i:Nat):Int)).toNat 0))=PV.bl (decide (xs.getD ((i:Int)).toNat 0<xs.getD (((i:Int)).toNat+1) 0));rw[BU,BU,show 1+i-1=i by omega,Nat.add_comm 1 i]
  rw[e,jd];congr 2;unfold gj iB;rw[List.all_map];rfl
def si{s:Int×Int}(h:1≤s.1∧s.1≤9∧0≤s.2∧s.2≤1000000000000):gr (qj s)=true:=by show ((decide (1≤s.1)&&decide (s.1≤9))&&(decide (0≤s.2)&&decide (s.2≤1000000000000)))=true;rw[Af h.1,Af h.2.1,Af h.2.2.1,Af h.2.2.2];rfl
def nY{a:Ad}{l:EK PV}{st:qC}{r:qz}(M:r[0]? = some (some (.tup l)))(hl:l.length≤1000)(h:∀p∈l,gY p=true):qI Z2 (qA (eM (qr [] 1 (q9 (qB 0)) (qw 0) [] [] (qI (ZF a) (qA (qB 0) qD)))) qD) r st= .ok (.bl (l.all gr)) st :=
 qO (l:=[.lst (l.map fun p=>.bl (gr p))]) (qL (WG (wI (w:=⟨l,fun _=>True⟩) (F:=fun p=>.bl (gr p)) (YA (DR M)) trivial (AW hl (by decide)) fun p L=>⟨[some p],rfl,qO rfl (pC (h p L))⟩)) qY) jd
def iq:PV->Bool| .tup l=>Nat.ble l.length 1000&&l.all gY|p=>Wl p
def DB{v:PV}(h:iq v=true):Wl v=true:=by cases v <;> first|rfl|exact h
def iH(l:EK PV):Bool:=decide (1≤l.length)&&decide (l.length≤4)
def xL{a:Ad}{v:PV}{st:qC}(h:iq v=true)(Y:∀l,v= .tup l->(iH l&&l.all gr)=false):Qq a [v] st= .ok (.bl false) st:=by
 refine Qu rfl ?_;unfold Wg;have Z:=l5 (a:=a) (st:=st) (DB h);cases v with
 |tup l =>
  have h:(Nat.ble l.length 1000&&l.all gY)=true:=h;rw[Ar,A0]at h;have hl:l.length≤1000:=Nat.le_of_ble_eq_true h.1;have Z:QX (kit a) [.tup l,.ty "tuple"] st= .ok (.bl true) st:=Z;have R:=zf (lo:=1) (n:=l.length) (hi:=4) (r:=QC 1 [.tup l]) (st:=st) (f:=vC (.int 1)) (g:=qI Wp (qA (qB 0) qD)) (h:=vC (.int 4)) rfl (qO (l:=[.tup l]) rfl (Zi rfl rfl)) rfl;have q:=nY (a:=a) (l:=l) (st:=st) (r:=QC 1 [.tup l]) rfl hl h.2;have Y:=Y l rfl;have M:(decide ((1:Int)≤(l.length:Int))&&decide ((l.length:Int)≤4))=iH l:=by unfold iH;rw[decide_eq_decide.mpr (show (1:Int)≤(l.length:Int) ↔ 1≤l.length by omega),decide_eq_decide.mpr (show (l.length:Int)≤4 ↔ l.length≤4 by omega)]
  rw[M]at R;cases F:iH l with|false=>rw[F]at R;exact Q8 (wQ (WT (w_not (b:=true) (QQ (qO (l:=[.tup l,.ty "tuple"]) rfl Z))) (zg (w_not (b:=false) (WL R)))) (Qm rfl))|true=>rw[F]at R Y;rw[show l.all gr=false from Y]at q;exact Q8 (wQ (WT (w_not (b:=true) (QQ (qO (l:=[.tup l,.ty "tuple"]) rfl Z))) (WT (w_not (b:=true) (WL R)) (w_not (b:=false) (QQ q)))) (Qm rfl))
 |non=>exact Q8 (wQ (zg (w_not (b:=false) (QQ (qO (l:=[.non,.ty "tuple"]) rfl Z)))) (Qm rfl))
 |bl x=>exact Q8 (wQ (zg (w_not (b:=false) (QQ (qO (l:=[.bl x,.ty "tuple"]) rfl Z)))) (Qm rfl))
 |int x=>exact Q8 (wQ (zg (w_not (b:=false) (QQ (qO (l:=[.int x,.ty "tuple"]) rfl Z)))) (Qm rfl))
 |str x=>exact Q8 (wQ (zg (w_not (b:=false) (QQ (qO (l:=[.str x,.ty "tuple"]) rfl Z)))) (Qm rfl))
 |lst x=>exact Q8 (wQ (zg (w_not (b:=false) (QQ (qO (l:=[.lst x,.ty "tuple"]) rfl Z)))) (Qm rfl))
 |dct=>exact Q8 (wQ (zg (w_not (b:=false) (QQ (qO (l:=[.dct,.ty "tuple"]) rfl Z)))) (Qm rfl))
 |_=>cases h
def ZC{a:Ad}{S:EK (Int×Int)}{st:qC}(Y:1≤S.length)(U:S.length≤4)(hb:∀s∈S,1≤s.1∧s.1≤9∧0≤s.2∧s.2≤1000000000000):Qq a [sP S] st= .ok (.bl (iB (S.map (·.1)))) st:=by
 refine Qu rfl ?_;unfold Wg;have Z:QX (kit a) [sP S,.ty "tuple"] st= .ok (.bl true) st:=rfl;have R:=zf (lo:=1) (n:=S.length) (hi:=4) (r:=QC 1 [sP S]) (st:=st) (f:=vC (.int 1)) (g:=qI Wp (qA (qB 0) qD)) (h:=vC (.int 4)) rfl (qO (l:=[sP S]) rfl (Zi (l:=S.map qj) rfl (by rw[AG]))) rfl;rw[show (decide ((1:Int)≤(S.length:Int))&&decide ((S.length:Int)≤4))=true by rw[Af (by omega),Af (by omega)];rfl]at R;have q:=nY (a:=a) (l:=S.map qj) (st:=st) (r:=QC 1 [sP S]) rfl (by rw[AG];omega) (fun p L=>by obtain⟨s,_,rfl⟩:=An.mp L;rfl);rw[show (S.map qj).all gr=true by
  rw[A0];intro p L;obtain⟨s,hs,rfl⟩:=An.mp L;exact si (hb s hs)]at q
 refine qk (wO (WT (w_not (b:=true) (QQ (qO (l:=[sP S,.ty "tuple"]) rfl Z))) (WT (w_not (b:=true) (WL R)) (w_not (b:=true) (QQ q)))) rfl) (Qm ?_);let F:PV->PV:=fun p=>match p with | .tup [.int x,_]=>.int x|_=>.non;refine qO (l:=[.lst ((S.map (·.1)).map PV.int)]) (qL (WG ?_) qY) (rY (by rw[AG];exact Y) (by rw[AG];omega))
 have I:=wI (Ei:=[]) (n:=2) (fi:=q9 (qB 0)) (g:=wN 2 (qW (qw 0) (qW (qw 1) wS))) (f:=qB 0) (r:=QC 1 [sP S]) (st:=st) (w:=⟨S.map qj,fun _=>True⟩) (F:=F) rfl trivial (by rw[AG];exact AW U (by decide)) fun p L=>by obtain⟨s,_,rfl⟩:=An.mp L;exact⟨[some (.int s.1),some (.int s.2)],rfl,rfl⟩
 rw[I,BL,BL];rfl
def DF{xs:EK Int}(h:xs.Pairwise (· < ·)):iB xs=true:=by
 unfold iB;rw[A0];intro i hi;have hi:=Bg.mp hi;have Y:i<xs.length:=by omega
 have U:i+1<xs.length:=by omega
 rw[AH,AH,AE Y,AE U];exact Af (By.mp h i (i+1) Y U (Nat.lt_succ_self i))
def Y8{a:Ad}{S:EK (Int×Int)}{st:qC}(R:fU S):Qq a [sP S] st= .ok (.bl true) st:=by rw[ZC R.lo R.hi R.b,DF R.ris]
def ZJ{a:Ad}{v:PV}{st:qC}(h:Wl v=true):WB a [v,.int 0,.int 200] st=if zI 0 200 v=true then .ok .non st else .ex ⟨a.Z2,[]⟩ st:=by unfold WB QD;rw[AC (show [v,PV.int 0,.int 200].length=3 from rfl)];unfold Wt Qs zB wn;rw[wq (l:=[v,.int 0,.int 200]) (Ef:=st) rfl,sm h];cases M:zI 0 200 v <;> rfl
def jT{k:EK PV->qC->Rs PV}{fa:FA}{r:qz}{st s1:qC}{l:EK PV}{x:gG}{s2:qC}(h:fa r st= .ok l s1)(U:k l s1= .ex x s2):qI k fa r st= .ex x s2:=by rw[wq h];exact U
def nk{a:Ad}{S:EK (Int×Int)}{c:Nat}{st:qC}(R:fU S)(U:c≤200):wE a [sP S,.int (c:Int)] st= .ok .non st:=by refine xm (r1:=[some (sP S),some (.int (c:Int))]) rfl ?_;unfold WI;refine qk (wO (w_not (b:=true) (QQ (qO (l:=[sP S]) rfl (Y8 R)))) rfl) (lz (p:=.non) (qO (l:=[.int (c:Int),.int 0,.int 200]) rfl ?_));rw[ZJ rfl,AC (by show (decide ((0:Int)≤(c:Int))&&decide ((c:Int)≤200))=true;rw[Af (by omega),Af (by omega)];rfl)]
def rJ{a:Ad}{v u:PV}{st:qC}(h:Qq a [v] st= .ok (.bl false) st):wE a [v,u] st= .ex ⟨a.Z6,[]⟩ st:=by refine zy rfl ?_;unfold WI;refine YT ?_;unfold Qs;rw[w_not (b:=false) (QQ (qO (l:=[v]) (s1:=st) rfl h))];rfl
def xc{a:Ad}{S:EK (Int×Int)}{u:PV}{st:qC}(R:fU S)(L:Wl u=true)(q:zI 0 200 u=false):wE a [sP S,u] st= .ex ⟨a.Z2,[]⟩ st:=by refine zy rfl ?_;unfold WI;refine qk (wO (w_not (b:=true) (QQ (qO (l:=[sP S]) rfl (Y8 R)))) rfl) (Zz (jT (l:=[u,.int 0,.int 200]) rfl ?_));rw[ZJ L,q];rfl
abbrev Ln:=EO (Int×EK Int)
def qT(x:Int×EK Int):PV:=.tup [.int x.1,.tup (x.2.map PV.int)]
def lnP:Ln->PV|some x=>qT x|none=>.non
def Yo:∀t u:EK Int,∃r,ft (t.map PV.int) (u.map PV.int)=some r
 |[],[]=>⟨false,by simp only[C2,ft]⟩
 |[],_::_=>⟨true,by simp only[C2,AU,ft]⟩
 |_::_,[]=>⟨false,by simp only[C2,AU,ft]⟩
 |x::t,y::u=>by
  obtain⟨r,h⟩:=Yo t u;rw[AU,AU,ft];cases eY (.int x) (.int y) with|true=>exact⟨r,h⟩|false=>exact⟨decide (x<y),by rw[AF (by decide),fQ]⟩
def Jc(x y:Int×EK Int):∃r,fQ (qT x) (qT y)=some r∧(r=true->x.1≤y.1)∧(r=false->y.1≤x.1):=by
 unfold qT;rw[fQ,ft];by_cases h:x.1=y.1
 ·have e:eY (.int x.1) (.int y.1)=true:=by rw[h];show (y.1==y.1)=true;exact Aj _
  rw[e,AC rfl,ft];cases eY (.tup (x.2.map PV.int)) (.tup (y.2.map PV.int)) with|true=>exact⟨false,by rw[AC rfl,ft],fun _=>by omega,fun _=>by omega⟩|false=>obtain⟨r,M⟩:=Yo x.2 y.2;exact⟨r,by rw[AF (by decide),fQ];exact M,fun _=>by omega,fun _=>by omega⟩
 ·have e:eY (.int x.1) (.int y.1)=false:=by show (x.1==y.1)=false;exact AI.mpr h
  rw[e,AF (by decide),fQ];exact⟨decide (x.1<y.1),rfl,fun z=>by have:=BV z;omega,fun z=>by have:=of_decide_eq_false z;omega⟩
def gX(x y:Int×EK Int):Bool:=fQ (qT x) (qT y)==some true
def wg(b x:Int×EK Int):Int×EK Int:=if gX x b=true then x else b
def WM:EK (Int×EK Int)->Ln|[]=>none|b::l=>some (l.foldl wg b)
def Js:∀(l:EK (Int×EK Int)) (b:Int×EK Int),l.foldl wg b∈b::l
 |[],b=>AT
 |y::l,b=>by
  rw[Bo]
  have:=Js l (wg b y)
  unfold wg at this ⊢;split at this;rename_i h;rw[AC h];exact AO _ this
  ·rename_i h;rw[AF h];rcases AJ.mp this with e|e
   ·rw[e];exact AT
   ·exact AO _ (AO _ e)
def JV{l:EK (Int×EK Int)}{b:Int×EK Int}(h:WM l=some b):b∈l:=by
 cases l with|nil=>cases h|cons x l=>cases h;exact Js l x
def Jn(o:Int×EK Int)(os:EK (Int×EK Int)):∀n,n≤os.length->(os.take n).foldl wg o=(o::os).getD (fS (fZ ((o::os).map qT)) n) (0,[])
 |0,_=>rfl
 |n+1,h=>by
  have U:=Jn o os n (by omega);have Y:n<os.length:=by omega
  have hb:=lE (fZ ((o::os).map qT)) n;have I:∀i,i<(o::os).length->((o::os).map qT).getD i .non=qT ((o::os).getD i (0,[])):=fun i hi=>by rw[AH,Am,AE hi,AH,AE hi];rfl
  rw[Bv Y,List.foldl_append,U];have R:(o::os).getD (n+1) (0,[])=os[n]:=by rw[List.getD_cons_succ,AH,AE Y];rfl
  show wg ((o::os).getD (fS (fZ ((o::os).map qT)) n) (0,[])) os[n]=(o::os).getD (if fZ ((o::os).map qT) (n+1) (fS (fZ ((o::os).map qT)) n)=true then n+1 else fS (fZ ((o::os).map qT)) n) (0,[]);have q:fZ ((o::os).map qT) (n+1) (fS (fZ ((o::os).map qT)) n)=gX os[n] ((o::os).getD (fS (fZ ((o::os).map qT)) n) (0,[])):=by unfold gX;show (fQ (((o::os).map qT).getD (n+1) .non) (((o::os).map qT).getD (fS (fZ ((o::os).map qT)) n) .non)==some true)=_;rw[I (n+1) (by rw[Aa];omega),I _ (by rw[Aa];omega),R]
  rw[q];unfold wg;split;exact R.symm;rfl
def zz:∀l:EK (Int×EK Int),gt (l.map qT)=true
 |[]=>rfl
 |x::l=>by
  have h:∀u:EK Int,gt (u.map PV.int)=true:=fun u=>by
   induction u with|nil=>rfl|cons y u I=>rw[AU,gt,I];rfl
  rw[AU,gt,zz l,Bool.and_true];show nr (.tup [.int x.1,.tup (x.2.map PV.int)])=true;simp[nr,gt,h]
def YV:∀u:EK Int,eP (u.map PV.int)=0|[]=>rfl|x::u=>by rw[AU,eP,YV u];rfl
def yi(x:Int×EK Int):fA (qT x)=2:=by show fA (.tup [.int x.1,.tup (x.2.map PV.int)])=2;simp[fA,eP,YV]
def yd:∀l:EK (Int×EK Int),eP (l.map qT)≤2
 |[]=>Bf _
 |x::l=>by
  rw[AU,eP,yi]
  have:=yd l
  omega
def xR{os:EK (Int×EK Int)}{S:qC}:kg (.lst (os.map qT)) S= .ok (lnP (WM os)) S:=by
 unfold kg;simp only[fJ];rw[AC ⟨zz os,AW (yd os) (by decide),by
  unfold kl;rw[A0];intro p L;rw[A0];intro q Z;obtain⟨x,_,rfl⟩:=An.mp L;obtain⟨y,_,rfl⟩:=An.mp Z;obtain⟨r,M,_⟩:=Jc x y;rw[M];rfl⟩]
 cases os with
 |nil=>rfl
 |cons o os =>
  show Rs.ok (((o::os).map qT).getD (fS (fZ ((o::os).map qT)) (os.map qT).length) .non) S= .ok (qT (os.foldl wg o)) S;have h:=Jn o os os.length (AN _);rw[List.take_length]at h;have hb:=lE (fZ ((o::os).map qT)) os.length;rw[AG,h,AH,Am,AE (by rw[Aa];omega),AH,AE (by rw[Aa];omega)];rfl
def Zj{Ei:EK Nat}{n:Nat}{fi:FI}{g:FG}{t:FT}{f:FE}{r:qz}{st:qC}{w:ItP}{c:PV->Bool}{F:PV->PV}(q:fi r st= .ok w st)(R:w.G st)(hl:w.l.length≤sizeLine)
  (h:∀p∈w.l,∃r',g p (zZ Ei n r)=some r'∧t r' st= .ok (c p) st∧(c p=true->f r' st= .ok (F p) st)):qr Ei n fi g [t] [] f r st= .ok ((w.l.filter c).map F) st:=by
 unfold qr;rw[q];show (match qo w.G (Qp ⟨fi,g,[t]⟩ (wK [] f) (zZ Ei n r)) w.l st with | .ok l L=>if l.length≤sizeLine then Rs.ok l L else Rs.no|_=>Rs.no)=_;rw[ze (F:=fun p=>if c p=true then [F p] else []) R fun p M=>by
  obtain⟨r',Y,U,I⟩:=h p M;unfold Qp;show (match g p (zZ Ei n r) with|none=>_|some r'=>_)=_;rw[Y];show (Wv [t] r' st).bind _=_;unfold Wv Wv;rw[U];cases Z:c p;rfl;show (wK [] f) r' st=_;unfold wK;rw[I Z];rfl]
 have e:∀l:EK PV,l.flatMap (fun p=>if c p=true then [F p] else [])=(l.filter c).map F:=fun l=>by
  induction l with|nil=>rfl|cons p l ih=>rw[List.flatMap_cons,ih,CG];cases c p <;> rfl
 rw[e];dsimp only;rw[AC (by rw[AG];exact AW (List.length_filter_le _ _) hl)]
def gi{s:qC}{x:SO}{g:qC}{n:Nat}(Y:n=s.length):(s++x::g)[n]? = some x:=by subst Y;rw[A9 (AN _),C5];rfl
def yZ{s:qC}{x y:SO}{g:qC}{n:Nat}(Y:n=s.length):(s++x::g).set n y=s++y::g:=by subst Y;rw[List.set_append_right _ _ (AN _),C5];rfl
def Z5{l:EK PV}{i:Nat}{p:PV}(h:l[i]? = some p):L2.atI l (i:Int)=some p:=by
 have hi:=(Ag.mp h).1;unfold L2.atI L2.ixN;rw[AC (by omega),AC (by omega)];show l[((i:Int)).toNat]? = _;rw[BU];exact h
def fT(L:EK Ln)(m:Nat)(S:EK (Int×Int)):EK (Int×EK Int):=(S.filter fun s=>decide (s.1≤(m:Int))).filterMap fun s=>match L.getD (m-s.1.toNat) none with|some p=>some (s.2+p.1,s.1::p.2)|none=>none
def qR(S:EK (Int×Int)):Nat->EK Ln|0=>[some (0,[])]|m+1=>qR S m++[WM (fT (qR S m) (m+1) S)]
def QR(S:EK (Int×Int)):∀m,(qR S m).length=m+1|0=>rfl|m+1=>by unfold qR;rw[Ac,QR S m];rfl
structure Hs (S:List (Int×Int)):Prop where
 hi:S.length≤4
 b:∀s∈S,1≤s.1∧s.1≤9
def fU.hs{S:EK (Int×Int)}(R:fU S):Hs S:=⟨R.hi,fun s hs=>⟨(R.b s hs).1,(R.b s hs).2.1⟩⟩
def mP{L:EK Ln}{m:Nat}{S:EK (Int×Int)}{x:Int×EK Int}(h:x∈fT L m S):∃s p,s∈S∧s.1≤(m:Int)∧L.getD (m-s.1.toNat) none=some p∧x=(s.2+p.1,s.1::p.2):=by
 unfold fT at h;obtain⟨s,hs,e⟩:=Ca.mp h;obtain⟨Y,U⟩:=B5.mp hs;split at e;rename_i p R;cases e;exact⟨s,p,Y,BV U,R,rfl⟩;cases e
def nh{L:EK Ln}{m:Nat}{S:EK (Int×Int)}{s:Int×Int}{p:Int×EK Int}(Y:s∈S)(U:s.1≤(m:Int))(F:L.getD (m-s.1.toNat) none=some p):(s.2+p.1,s.1::p.2)∈fT L m S:=by unfold fT;exact Ca.mpr ⟨s,B5.mpr ⟨Y,Af U⟩,by rw[F]⟩
def WF{S:EK (Int×Int)}(H:Hs S):∀(m i:Nat) (p:Int×EK Int),(qR S m).getD i none=some p->p.2.length≤i
 |0,i,p,h=>by
  cases i with|zero=>cases h;exact AN _|succ i=>cases h
 |m+1,i,p,h=>by
  unfold qR at h;rw[AH]at h;by_cases hi:i<(qR S m).length;rw[Aq hi,←AH]at h;exact WF H m i p h
  ·rw[A9 (by omega)]at h;have hl:=QR S m;by_cases h0:i-(qR S m).length=0
   ·rw[h0]at h;have h:WM (fT (qR S m) (m+1) S)=some p:=h;obtain⟨s,q,Y,U,F,rfl⟩:=mP (JV h)
    have:=WF H m _ q F
    have:=H.b s Y
    show (s.1::q.2).length≤i;rw[Aa];omega
   ·obtain⟨k,R⟩:=Nat.exists_eq_succ_of_ne_zero h0;rw[R]at h;cases h
def gJ(L:EK Ln)(m:Nat):PV->PV| .tup [.int l,.int p]=>.tup [.int l,.int p,lnP (L.getD (m-l.toNat) none)]|_=>.non
def gy(m:Nat):PV->Bool| .tup [.int l,.int _]=>decide (l≤(m:Int))|_=>false
def kS:PV->PV| .tup [.int l,.int p,.tup [.int q,.tup t]]=>.tup [.int (p+q),.tup (.int l::t)]|_=>.non
def oF:PV->Bool| .tup [_,_,.non]=>false|_=>true
def mU(L:EK Ln)(m:Nat):∀S:EK (Int×Int),(((((S.map qj).filter (gy m)).map (gJ L m)).filter oF).map kS)=(fT L m S).map qT
 |[]=>rfl
 |s::S=>by
  have I:=mU L m S;unfold fT at I ⊢;rw[AU,CG,CG];have e:gy m (qj s)=decide (s.1≤(m:Int)):=rfl;rw[e];cases decide (s.1≤(m:Int)) with
  |false=>exact I
  |true =>
   rw[AC rfl,AC rfl,AU,CG];have R:gJ L m (qj s)= .tup [.int s.1,.int s.2,lnP (L.getD (m-s.1.toNat) none)]:=rfl;rw[R,Bp];cases L.getD (m-s.1.toNat) none with|none=>exact I|some p=>show kS (.tup [.int s.1,.int s.2,qT p])::_=qT (s.2+p.1,s.1::p.2)::_;rw[I];rfl
section
variable{S:EK (Int×Int)}{st:qC}{m:Nat}
abbrev fX(st:qC)(S:EK (Int×Int))(m:Nat):qC:=st++[.l ((qR S m).map lnP)]
def px{i:Nat}(hi:i≤m):eL (.ref st.length) (.int (i:Int)) (fX st S m)= .ok (lnP ((qR S m).getD i none)) (fX st S m):=by
 have hl:i<(qR S m).length:=by rw[QR];omega
 exact YZ (Y3 (gi rfl)) (Z5 (by rw[Am,AE hl,AH,AE hl];rfl))
def uM(H:Hs S){x4 x5 x1:EO PV}:eM (qr [2,3] 2 (q9 (qB 0)) (wN 2 (qW (qw 2) (qW (qw 3) wS))) [(eU (qK gLe (qB 2) (qB 1)))] [] (qp (qA (qB 2) (qA (qB 3) (qA (qK eL (qB 0) (qK zT (qB 1) (qB 2))) qD))))) [some (sP S),x1,some (.ref st.length),some (.int ((m+1:Nat):Int)),x4,x5] (fX st S m)= .ok (.lst (((S.map qj).filter (gy (m+1))).map (gJ (qR S m) (m+1)))) (fX st S m):=by
 refine WG (Zj (w:=⟨S.map qj,fun _=>True⟩) (c:=gy (m+1)) (F:=gJ (qR S m) (m+1)) rfl trivial (by rw[AG];exact AW H.hi (by decide)) fun p L=>?_);obtain⟨s,hs,rfl⟩:=An.mp L;have hb:=H.b s hs;refine⟨[some (.ref st.length),some (.int ((m+1:Nat):Int)),some (.int s.1),some (.int s.2)],rfl,WL (qV rfl rfl iw),fun U=>?_⟩;have U:decide (s.1≤((m+1:Nat):Int))=true:=U;have U:=BV U;have Z:((m+1:Nat):Int)-s.1=((m+1-s.1.toNat:Nat):Int):=by omega
 exact Qw (qL rfl (qL rfl (qL (qV rfl (qV rfl rfl (by rw[Zx,Z])) (px (by omega))) qY))) (sz rfl)
def xk(H:Hs S){x0 x1 x2 x3 x5:EO PV}(M:m≤300):eM (qr [] 3 (q9 (qB 4)) (wN 3 (qW (qw 0) (qW (qw 1) (qW (qw 2) wS)))) [(eU (qK (yM true) (qB 2) (vC .non)))] [] (qp (qA (qK QU (qB 1) (qK eL (qB 2) (vC (.int 0)))) (qA (qK wf (qp (qA (qB 0) qD)) (qK eL (qB 2) (vC (.int 1)))) qD)))) [x0,x1,x2,x3,some (.lst (((S.map qj).filter (gy (m+1))).map (gJ (qR S m) (m+1)))),x5] (fX st S m)= .ok (.lst ((fT (qR S m) (m+1) S).map qT)) (fX st S m):=by
 rw[←mU];refine WG (Zj (w:=⟨((S.map qj).filter (gy (m+1))).map (gJ (qR S m) (m+1)),fun _=>True⟩) (c:=oF) (F:=kS) rfl trivial (by rw[AG];exact AW (List.length_filter_le _ _) (by rw[AG];exact AW H.hi (by decide))) fun p L=>?_);obtain⟨q,Z,rfl⟩:=An.mp L;obtain⟨s,hs,rfl⟩:=An.mp (B5.mp Z).1;cases R:(qR S m).getD (m+1-s.1.toNat) none with
 |none =>
  have e:gJ (qR S m) (m+1) (qj s)= .tup [.int s.1,.int s.2,.non]:=by show PV.tup [.int s.1,.int s.2,lnP ((qR S m).getD (m+1-s.1.toNat) none)]=_;rw[R];rfl
  rw[e];exact⟨[some (.int s.1),some (.int s.2),some .non],rfl,rfl,fun z=>by cases z⟩
 |some p =>
  have e:gJ (qR S m) (m+1) (qj s)= .tup [.int s.1,.int s.2,.tup [.int p.1,.tup (p.2.map PV.int)]]:=by show PV.tup [.int s.1,.int s.2,lnP ((qR S m).getD (m+1-s.1.toNat) none)]=_;rw[R];rfl
  rw[e];have I:=WF H m _ p R;refine⟨[some (.int s.1),some (.int s.2),some (.tup [.int p.1,.tup (p.2.map PV.int)])],rfl,rfl,fun _=>?_⟩;have U:wf (.tup [.int s.1]) (.tup (p.2.map PV.int)) (fX st S m)= .ok (.tup (.int s.1::p.2.map PV.int)) (fX st S m):=by
   unfold wf;dsimp only;rw[AC (by rw[AG];show 1+p.2.length≤sizeLine;exact AW (show 1+p.2.length≤400 by omega) (by decide))];rfl
  exact Qw (qL (qV rfl (qV (p:=.tup [.int p.1,.tup (p.2.map PV.int)]) (q:=.int 0) rfl rfl rfl) yE) (qL (qV (p:=.tup [.int s.1]) rfl (qV (p:=.tup [.int p.1,.tup (p.2.map PV.int)]) (q:=.int 1) rfl rfl rfl) U) qY)) (sz rfl)
def ug:FS:=(qS (qc 4 (eM (qr [2,3] 2 (q9 (qB 0)) (wN 2 (qW (qw 2) (qW (qw 3) wS))) [(eU (qK gLe (qB 2) (qB 1)))] [] (qp (qA (qB 2) (qA (qB 3) (qA (qK eL (qB 0) (qK zT (qB 1) (qB 2))) qD))))))) (qS (qc 5 (eM (qr [] 3 (q9 (qB 4)) (wN 3 (qW (qw 0) (qW (qw 1) (qW (qw 2) wS)))) [(eU (qK (yM true) (qB 2) (vC .non)))] [] (qp (qA (qK QU (qB 1) (qK eL (qB 2) (vC (.int 0)))) (qA (qK wf (qp (qA (qB 0) qD)) (qK eL (qB 2) (vC (.int 1)))) qD)))))) (wU (qB 2) (Jb (qB 5)))))
def oU(H:Hs S){x1:EO PV}:∀(k m:Nat) (x3 x4 x5:EO PV),m+k≤200->∃Y Z L,Q3 (fun _=>True) (Qf 3) ug (gj ((List.range k).map fun i=>m+1+i)) [some (sP S),x1,some (.ref st.length),x3,x4,x5] (fX st S m)= .nx [some (sP S),x1,some (.ref st.length),Y,Z,L] (fX st S (m+k))
 |0,m,x3,x4,x5,_=>⟨x3,x4,x5,wZ trivial⟩
 |k+1,m,x3,x4,x5,h=>by
  obtain⟨Y,Z,L,e⟩:=oU H (x1:=x1) k (m+1) (some (.int ((m+1:Nat):Int))) (some (.lst (((S.map qj).filter (gy (m+1))).map (gJ (qR S m) (m+1))))) (some (.lst ((fT (qR S m) (m+1) S).map qT))) (by omega);have q:(List.range (k+1)).map (fun i=>m+1+i)=(m+1)::(List.range k).map fun i=>m+1+1+i:=by rw[CH,AU,BL];refine List.cons_eq_cons.mpr ⟨rfl,BE fun i _=>?_⟩;show m+1+(i+1)=m+1+1+i;omega
  rw[q,show m+(k+1)=m+1+k by omega];refine⟨Y,Z,L,zH (p:=.int ((m+1:Nat):Int)) trivial rfl ?_ e⟩;refine qk (Q1 (uM H)) (qk (Q1 (xk H (by omega))) ?_);have M:Jb (qB 5) [some (sP S),x1,some (.ref st.length),some (.int ((m+1:Nat):Int)),some (.lst (((S.map qj).filter (gy (m+1))).map (gJ (qR S m) (m+1)))),some (.lst ((fT (qR S m) (m+1) S).map qT))] (fX st S m)= .ok (lnP (WM (fT (qR S m) (m+1) S))) (fX st S m):=xR;have F:=Zg (n:=st.length) (l:=(qR S m).map lnP) (fo:=qB 2) (f:=Jb (qB 5)) (r:=[some (sP S),x1,some (.ref st.length),some (.int ((m+1:Nat):Int)),some (.lst (((S.map qj).filter (gy (m+1))).map (gJ (qR S m) (m+1)))),some (.lst ((fT (qR S m) (m+1) S).map qT))]) (st:=fX st S m) rfl (kr (gi rfl)) M (gi rfl) (by rw[AG,QR];exact Ao (show m+1<300 by omega) (by decide));rw[yZ rfl]at F;have R:(qR S m).map lnP++[lnP (WM (fT (qR S m) (m+1) S))]=(qR S (m+1)).map lnP:=by show _=(qR S m++[WM (fT (qR S m) (m+1) S)]).map lnP;rw[Bn];rfl
  rw[R]at F;exact F
end
def Dz{a:Ad}{S:EK (Int×Int)}{c:Nat}{st:qC}(H:Hs S)(U:c≤200):wz a [sP S,.int (c:Int)] st= .ok (.ref st.length) (fX st S c):=by
 obtain⟨Y,Z,L,e⟩:=oU (st:=st) H (x1:=some (.int (c:Int))) c 0 none none none (by omega);refine Qu rfl ?_;unfold w4;refine qk (YR (l:=[qT (0,[])]) (s1:=st) (zi (qL (Qw (qL rfl (qL (Qw qY (sz rfl)) qY)) (sz rfl)) qY) (sz rfl))) ?_;rw[show (0+c)=c from Au c]at e;refine qk (yv (w:=⟨gj ((List.range (c+1-1)).map fun i=>1+i),fun _=>True⟩) (jf (n:=1) (m:=c+1) (by omega) (by omega) (qL rfl (qL (qV rfl rfl yE) qY))) ?_) (Qm (p:=.ref st.length) (s1:=fX st S c) (r:=[some (sP S),some (.int (c:Int)),some (.ref st.length),Y,Z,L]) rfl);rw[BS];rw[show ((List.range c).map fun i=>1+i)=(List.range c).map fun i=>0+1+i from BE fun i _=>by omega];exact e
def jU{l:EK PV}{n:Nat}{p:PV}(hl:l.length=n+1)(h:l[n]? = some p):L2.atI l (-1)=some p:=by
 unfold L2.atI L2.ixN;rw[AF (by decide),AC (by omega)];show l[((-1:Int)+(l.length:Int)).toNat]? = _;rw[show ((-1:Int)+(l.length:Int)).toNat=n by omega];exact h
def Zt:∀l:EK Int,Q2 YY (l.map PV.int)=some l|[]=>rfl|p::l=>by simp only[AU,Q2,YY,Zt l]
section
variable{S:EK (Int×Int)}{st:qC}{c:Nat}
def rF:eL (.ref st.length) (.int (-1)) (fX st S c)= .ok (lnP ((qR S c).getD c none)) (fX st S c):=by
 have hl:c<(qR S c).length:=by rw[QR];omega
 exact YZ (Y3 (gi rfl)) (jU (n:=c) (by rw[AG,QR]) (by rw[Am,AE hl,AH,AE hl];rfl))
end
def fK(S:EK (Int×Int))(i:Nat):Ln:=(qR S i).getD i none
def j5(S:EK (Int×Int)):∀(c i:Nat),i≤c->(qR S c).getD i none=fK S i
 |0,i,h=>by
  have:i=0:=by omega
  subst this;rfl
 |c+1,i,h=>by
  by_cases e:i=c+1;subst e;rfl
  ·have hl:i<(qR S c).length:=by rw[QR];omega
   rw[←j5 S c i (by omega)];show (qR S c++[WM (fT (qR S c) (c+1) S)]).getD i none=_;rw[AH,Aq hl,AH]
def pI(S:EK (Int×Int))(m:Nat):fK S (m+1)=WM (fT (qR S m) (m+1) S):=by
 show (qR S m++[WM (fT (qR S m) (m+1) S)]).getD (m+1) none=_;rw[AH,A9 (by rw[QR];exact AN _),QR,C5];rfl
def ip(W:EK Int)(m:Nat)(S:EK (Int×Int)):Int:=((S.filter fun s=>decide (s.1≤(m:Int))).map fun s=>W.getD (m-s.1.toNat) 0).sum
def fN(S:EK (Int×Int)):Nat->EK Int|0=>[1]|m+1=>fN S m++[ip (fN S m) (m+1) S]
def zk(S:EK (Int×Int)):∀m,(fN S m).length=m+1|0=>rfl|m+1=>by unfold fN;rw[Ac,zk S m];rfl
def fD(S:EK (Int×Int))(i:Nat):Int:=(fN S i).getD i 0
def n5(S:EK (Int×Int)):∀(c i:Nat),i≤c->(fN S c).getD i 0=fD S i
 |0,i,h=>by
  have:i=0:=by omega
  subst this;rfl
 |c+1,i,h=>by
  by_cases e:i=c+1;subst e;rfl
  ·unfold fN;rw[AH,Aq (by rw[zk];omega),←AH];exact n5 S c i (by omega)
def vH(S:EK (Int×Int))(m:Nat):fD S (m+1)=ip (fN S m) (m+1) S:=by
 unfold fD;show (fN S m++[_]).getD (m+1) 0=_;rw[AH,A9 (by rw[zk];exact AN _),zk,C5];rfl
def kx(S T:EK (Int×Int))(m:Nat):Int:=((T.filter fun s=>decide (s.1≤(m:Int))).map fun s=>fD S (m-s.1.toNat)).sum
def nL{S:EK (Int×Int)}(H:Hs S)(m:Nat):fD S (m+1)=kx S S (m+1):=by rw[vH];unfold ip kx;congr 1;refine BE fun s hs=>?_;have Y:=(H.b s ((B5.mp hs).1)).1;exact n5 S m _ (by omega)
def gZ(x:Int×Ln):PV:=.tup [.int x.1,lnP x.2]
def jY(L:EK Ln)(m:Nat)(s:Int×Int):Ln:=match L.getD (m-s.1.toNat) none with|some p=>some (s.2+p.1,s.1::p.2)|none=>none
def W1(L:EK Ln)(m:Nat)(Eh:Ln)(s:Int×Int):Ln:=match jY L m s with
 |none=>Eh
 |some h=>match Eh with|none=>some h|some b=>some (wg b h)
def Zo(L:EK Ln)(m:Nat):∀(T:EK (Int×Int)) (b:Int×EK Int),T.foldl (W1 L m) (some b)=some ((T.filterMap (jY L m)).foldl wg b)
 |[],b=>rfl
 |s::T,b=>by
  rw[Bo,Bp];unfold W1;cases jY L m s with|none=>exact Zo L m T b|some h=>exact Zo L m T (wg b h)
def Yy(L:EK Ln)(m:Nat):∀(T:EK (Int×Int)),T.foldl (W1 L m) none=WM (T.filterMap (jY L m))
 |[]=>rfl
 |s::T=>by
  rw[Bo,Bp];cases h:jY L m s with
  |none =>
   have:W1 L m none s=none:=by unfold W1;rw[h]
   rw[this];exact Yy L m T
  |some x =>
   have:W1 L m none s=some x:=by unfold W1;rw[h]
   rw[this,Zo];rfl
def Dt(L:EK Ln)(m:Nat)(S:EK (Int×Int)):fT L m S=(S.filter fun s=>decide (s.1≤(m:Int))).filterMap (jY L m):=rfl
def uU{x y:Int×EK Int}{S:qC}:J7 (qT x) (qT y) S= .ok (.bl (gX x y)) S:=by
 obtain⟨r,M,_⟩:=Jc x y;have Y:∀z:Int×EK Int,nr (qT z)=true:=fun z=>by
  have:=zz [z]
  rw[AU,gt]at this;exact (Ar _ _ ▸ this).1
 unfold J7;rw[show res S (qT x)=qT x from rfl,show res S (qT y)=qT y from rfl,AC (by unfold ie;rw[Y,Y,yi];rfl),M];unfold gX;rw[M];cases r <;> rfl
abbrev fH(st:qC)(I:EK (Int×Ln)):qC:=st++[.l (I.map gZ)]
section
variable{S:EK (Int×Int)}{st:qC}{m:Nat}{wl:EK (Int×Ln)}
def oD{i:Nat}(hi:i<wl.length):eL (.ref st.length) (.int (i:Int)) (fH st wl)= .ok (gZ (wl.getD i (0,none))) (fH st wl) :=
 YZ (Y3 (gi rfl)) (Z5 (by rw[Am,AE hi,AH,AE hi];rfl))
def l8(M:wl.map (·.2)=qR S m){i:Nat}(hi:i≤m):(wl.getD i (0,none)).2=(qR S m).getD i none:=by
 have hl:wl.length=m+1:=by have:=A5 List.length M;rw[AG,QR]at this;exact this
 rw[←M,AH,AH,Am,AE (by omega)];rfl
def lZ:FS:=(qS (qc 9 (qK eL (qK eL (qB 2) (qK zT (qB 3) (qB 7))) (vC (.int 1)))) (Qs (eU (qK (yM true) (qB 9) (vC .non))) (qS (qc 10 (qp (qA (qK QU (qK eL (qB 9) (vC (.int 0))) (qB 8)) (qA (qK wf (qp (qA (qB 7) qD)) (qK eL (qB 9) (vC (.int 1)))) qD)))) (Qs (zN (eU (qK (yM false) (qB 6) (vC .non))) (eU (qK J7 (qB 10) (qB 6)))) (qc 6 (qB 10)) Qh)) Qh))
def jM(H:Hs S)(hw:wl.map (·.2)=qR S m)(hm:m≤300){x0 x1 x4 x5:EO PV}:∀(T:EK (Int×Int)) (Eh:Ln) (x7 x8 x9 Es:EO PV),(∀s∈T,1≤s.1∧s.1≤((m+1:Nat):Int)) ->
  ∃U R Z Y,Q3 (fun _=>True) (wN 2 (qW (Qf 7) (qW (Qf 8) wS))) lZ (T.map qj) [x0,x1,some (.ref st.length),some (.int ((m+1:Nat):Int)),x4,x5,some (lnP Eh),x7,x8,x9,Es] (fH st wl)= .nx [x0,x1,some (.ref st.length),some (.int ((m+1:Nat):Int)),x4,x5,some (lnP (T.foldl (W1 (qR S m) (m+1)) Eh)),U,R,Z,Y] (fH st wl)
 |[],Eh,x7,x8,x9,Es,_=>⟨x7,x8,x9,Es,wZ trivial⟩
 |s::T,Eh,x7,x8,x9,Es,h=>by
  have hl:wl.length=m+1:=by have:=A5 List.length hw;rw[AG,QR]at this;exact this
  obtain⟨h1,h2⟩:=h s AT;have e1:((m+1:Nat):Int)-s.1=((m+1-s.1.toNat:Nat):Int):=by omega
  have hA:qK eL (qK eL (qB 2) (qK zT (qB 3) (qB 7))) (vC (.int 1)) [x0,x1,some (.ref st.length),some (.int ((m+1:Nat):Int)),x4,x5,some (lnP Eh),some (.int s.1),some (.int s.2),x9,Es] (fH st wl)= .ok (lnP ((qR S m).getD (m+1-s.1.toNat) none)) (fH st wl):=by
   refine qV (qV rfl (qV rfl rfl (by rw[Zx,e1])) (oD (by omega))) rfl ?_;rw[←l8 hw (by omega)];rfl
  cases M:(qR S m).getD (m+1-s.1.toNat) none with
  |none =>
   have hs:W1 (qR S m) (m+1) Eh s=Eh:=by unfold W1 jY;rw[M]
   obtain⟨U,R,Z,Y,e⟩:=jM H hw hm (x0:=x0) (x1:=x1) (x4:=x4) (x5:=x5) T Eh (some (.int s.1)) (some (.int s.2)) (some .non) Es fun q hq=>h q (AO _ hq);rw[M]at hA;rw[Bo,hs];exact⟨U,R,Z,Y,zH (p:=qj s) (r1:=[x0,x1,some (.ref st.length),some (.int ((m+1:Nat):Int)),x4,x5,some (lnP Eh),some (.int s.1),some (.int s.2),x9,Es]) trivial rfl (qk (Q1 hA) (wO (WL (qV rfl rfl rfl)) rfl)) e⟩
  |some p =>
   have a1:=WF H m _ p M;have ho:jY (qR S m) (m+1) s=some (s.2+p.1,s.1::p.2):=by unfold jY;rw[M]
   rw[M]at hA;have a0:wf (.tup [.int s.1]) (.tup (p.2.map PV.int)) (fH st wl)= .ok (.tup (.int s.1::p.2.map PV.int)) (fH st wl):=by
    unfold wf;dsimp only;rw[AC (by rw[AG];show 1+p.2.length≤sizeLine;exact AW (show 1+p.2.length≤400 by omega) (by decide))];rfl
   have hH:qp (qA (qK QU (qK eL (qB 9) (vC (.int 0))) (qB 8)) (qA (qK wf (qp (qA (qB 7) qD)) (qK eL (qB 9) (vC (.int 1)))) qD)) [x0,x1,some (.ref st.length),some (.int ((m+1:Nat):Int)),x4,x5,some (lnP Eh),some (.int s.1),some (.int s.2),some (qT p),Es] (fH st wl)= .ok (qT (s.2+p.1,s.1::p.2)) (fH st wl) :=
    Qw (qL (qV (qV (p:=qT p) (q:=.int 0) rfl rfl rfl) rfl (by rw[yE,Int.add_comm])) (qL (qV (p:=.tup [.int s.1]) rfl (qV (p:=qT p) (q:=.int 1) rfl rfl rfl) a0) qY)) (sz rfl)
   have go:∀L,W1 (qR S m) (m+1) Eh s=L->(Qs (zN (eU (qK (yM false) (qB 6) (vC .non))) (eU (qK J7 (qB 10) (qB 6)))) (qc 6 (qB 10)) Qh) [x0,x1,some (.ref st.length),some (.int ((m+1:Nat):Int)),x4,x5,some (lnP Eh),some (.int s.1),some (.int s.2),some (qT p),some (qT (s.2+p.1,s.1::p.2))] (fH st wl)= .nx [x0,x1,some (.ref st.length),some (.int ((m+1:Nat):Int)),x4,x5,some (lnP L),some (.int s.1),some (.int s.2),some (qT p),some (qT (s.2+p.1,s.1::p.2))] (fH st wl):=fun L F=>by
    unfold W1 at F;rw[ho]at F;cases Eh with
    |none=>subst F;exact wQ (zg (WL (qV rfl rfl rfl))) (Q1 rfl)
    |some b =>
     have F:some (wg b (s.2+p.1,s.1::p.2))=L:=F;subst F;unfold wg;have I:eU (qK J7 (qB 10) (qB 6)) [x0,x1,some (.ref st.length),some (.int ((m+1:Nat):Int)),x4,x5,some (lnP (some b)),some (.int s.1),some (.int s.2),some (qT p),some (qT (s.2+p.1,s.1::p.2))] (fH st wl)= .ok (gX (s.2+p.1,s.1::p.2) b) (fH st wl):=WL (qV (p:=qT (s.2+p.1,s.1::p.2)) (q:=qT b) rfl rfl uU);cases hb:gX (s.2+p.1,s.1::p.2) b with|true=>rw[hb]at I;rw[AC rfl];exact wQ (WT (WL (qV rfl rfl rfl)) I) (Q1 rfl)|false=>rw[hb]at I;rw[AF (by decide)];exact wO (WT (WL (qV rfl rfl rfl)) I) rfl
   obtain⟨U,R,Z,Y,e⟩:=jM H hw hm (x0:=x0) (x1:=x1) (x4:=x4) (x5:=x5) T (W1 (qR S m) (m+1) Eh s) (some (.int s.1)) (some (.int s.2)) (some (qT p)) (some (qT (s.2+p.1,s.1::p.2))) fun q hq=>h q (AO _ hq);rw[Bo];exact⟨U,R,Z,Y,zH (p:=qj s) (r1:=[x0,x1,some (.ref st.length),some (.int ((m+1:Nat):Int)),x4,x5,some (lnP Eh),some (.int s.1),some (.int s.2),x9,Es]) trivial rfl (qk (Q1 hA) (wQ (WL (qV rfl rfl rfl)) (qk (Q1 hH) (go _ rfl)))) e⟩
end
def mn:FS:=(qS (qc 4 (eM (qr [3] 2 (q9 (qB 0)) (wN 2 (qW (qw 1) (qW (qw 2) wS))) [(eU (qK gLe (qB 1) (qB 0)))] [] (qp (qA (qB 1) (qA (qB 2) qD)))))) (qS (qc 5 (qI YH (qA (eM (qr [2,3] 2 (q9 (qB 4)) (wN 2 (qW (qw 2) (qW (qw 3) wS))) [] [] (qK eL (qK eL (qB 0) (qK zT (qB 1) (qB 2))) (vC (.int 0))))) qD))) (qS (qc 6 (vC .non)) (qS (We (q9 (qB 4)) (wN 2 (qW (Qf 7) (qW (Qf 8) wS))) lZ) (wU (qB 2) (qp (qA (qB 5) (qA (qB 6) qD))))))))
def nG{l:EK Int}{S:qC}:YH [.lst (l.map PV.int)] S= .ok (.int l.sum) S:=by unfold YH Yn;simp only[fJ];rw[Zt]
def nM(m:Nat):∀S:EK (Int×Int),((S.map qj).filter (gy m)).map (fun p=>p)=(S.filter fun s=>decide (s.1≤(m:Int))).map qj
 |[]=>rfl
 |s::S=>by
  have I:=nM m S;rw[AU,CG,CG,show gy m (qj s)=decide (s.1≤(m:Int)) from rfl];cases decide (s.1≤(m:Int)) with|false=>exact I|true=>show qj s::_=qj s::_;rw[I]
def uI{S:EK (Int×Int)}(H:Hs S){st:qC}{m:Nat}{I:EK (Int×Ln)}(hw:I.map (·.2)=qR S m)(hm:m≤300){x1 x4 x5 x6 x7 x8 x9 Es:EO PV}:∃(w:Int) (y4 y5 y6 U L Z Y:EO PV),(I.map (·.1)=fN S m->w=ip (fN S m) (m+1) S)∧mn [some (sP S),x1,some (.ref st.length),some (.int ((m+1:Nat):Int)),x4,x5,x6,x7,x8,x9,Es] (fH st I)= .nx [some (sP S),x1,some (.ref st.length),some (.int ((m+1:Nat):Int)),y4,y5,y6,U,L,Z,Y] (fH st (I++[(w,WM (fT (qR S m) (m+1) S))])):=by
 have hl:I.length=m+1:=by have:=A5 List.length hw;rw[AG,QR]at this;exact this
 generalize R:S.filter (fun s=>decide (s.1≤((m+1:Nat):Int)))=T;have q:∀s∈T,1≤s.1∧s.1≤((m+1:Nat):Int):=fun s hs=>by rw[←R]at hs;obtain⟨M,h2⟩:=B5.mp hs;exact⟨(H.b s M).1,BV h2⟩
 have a0:T.length≤4:=by rw[←R];exact AW (List.length_filter_le _ _) H.hi
 have e4:eM (qr [3] 2 (q9 (qB 0)) (wN 2 (qW (qw 1) (qW (qw 2) wS))) [(eU (qK gLe (qB 1) (qB 0)))] [] (qp (qA (qB 1) (qA (qB 2) qD)))) [some (sP S),x1,some (.ref st.length),some (.int ((m+1:Nat):Int)),x4,x5,x6,x7,x8,x9,Es] (fH st I)= .ok (.lst (T.map qj)) (fH st I):=by
  rw[←R,←nM];refine WG (Zj (w:=⟨S.map qj,fun _=>True⟩) (c:=gy (m+1)) (F:=fun p=>p) rfl trivial (by rw[AG];exact AW H.hi (by decide)) fun p hp=>?_);obtain⟨s,hs,rfl⟩:=An.mp hp;exact⟨[some (.int ((m+1:Nat):Int)),some (.int s.1),some (.int s.2)],rfl,WL (qV rfl rfl iw),fun _=>Qw (qL rfl (qL rfl qY)) (sz rfl)⟩
 let F:PV->PV:=fun p=>match p with | .tup [.int l,_]=>.int (I.getD (m+1-l.toNat) (0,none)).1|_=>.non;have e5:qI YH (qA (eM (qr [2,3] 2 (q9 (qB 4)) (wN 2 (qW (qw 2) (qW (qw 3) wS))) [] [] (qK eL (qK eL (qB 0) (qK zT (qB 1) (qB 2))) (vC (.int 0))))) qD) [some (sP S),x1,some (.ref st.length),some (.int ((m+1:Nat):Int)),some (.lst (T.map qj)),x5,x6,x7,x8,x9,Es] (fH st I)= .ok (.int (T.map fun s=>(I.getD (m+1-s.1.toNat) (0,none)).1).sum) (fH st I):=by
  refine qO (l:=[.lst ((T.map fun s=>(I.getD (m+1-s.1.toNat) (0,none)).1).map PV.int)]) (s1:=fH st I) (qL (WG ?_) qY) nG
  have:(T.map qj).map F=(T.map fun s=>(I.getD (m+1-s.1.toNat) (0,none)).1).map PV.int:=by rw[BL,BL];rfl
  rw[←this];refine wI (w:=⟨T.map qj,fun _=>True⟩) (F:=F) (zU rfl) trivial (by rw[AG];exact AW a0 (by decide)) fun p hp=>?_;obtain⟨s,hs,rfl⟩:=An.mp hp;obtain⟨M,h2⟩:=q s hs;have e1:((m+1:Nat):Int)-s.1=((m+1-s.1.toNat:Nat):Int):=by omega
  exact⟨[some (.ref st.length),some (.int ((m+1:Nat):Int)),some (.int s.1),some (.int s.2)],rfl,qV (qV rfl (qV rfl rfl (by rw[Zx,e1])) (oD (by omega))) rfl rfl⟩
 obtain⟨U,L,Z,Y,e6⟩:=jM (st:=st) H hw hm (x0:=some (sP S)) (x1:=x1) (x4:=some (.lst (T.map qj))) (x5:=some (.int (T.map fun s=>(I.getD (m+1-s.1.toNat) (0,none)).1).sum)) T none x7 x8 x9 Es q;rw[Yy,←R,←Dt,R]at e6;refine⟨(T.map fun s=>(I.getD (m+1-s.1.toNat) (0,none)).1).sum,some (.lst (T.map qj)),some (.int (T.map fun s=>(I.getD (m+1-s.1.toNat) (0,none)).1).sum),some (lnP (WM (fT (qR S m) (m+1) S))),U,L,Z,Y,fun hv=>?_,?_⟩
 ·unfold ip;rw[R];congr 1;refine BE fun s hs=>?_;obtain⟨M,h2⟩:=q s hs;rw[←hv,AH,AH,Am,AE (show m+1-s.1.toNat<I.length by omega)];rfl
 refine qk (Q1 e4) (qk (Q1 e5) (qk (Q1 rfl) (qk (yv (w:=⟨T.map qj,fun _=>True⟩) (zU rfl) e6) ?_)));have ea:=Zg (n:=st.length) (l:=I.map gZ) (fo:=qB 2) (f:=qp (qA (qB 5) (qA (qB 6) qD))) (r:=[some (sP S),x1,some (.ref st.length),some (.int ((m+1:Nat):Int)),some (.lst (T.map qj)),some (.int (T.map fun s=>(I.getD (m+1-s.1.toNat) (0,none)).1).sum),some (lnP (WM (fT (qR S m) (m+1) S))),U,L,Z,Y]) (st:=fH st I) rfl (kr (gi rfl)) (Qw (qL rfl (qL rfl qY)) (sz rfl)) (gi rfl) (by rw[AG,hl];exact Ao (show m+1<400 by omega) (by decide));rw[yZ rfl]at ea;rw[ea];show _=RS.nx _ (st++[.l ((I++[(_,_)]).map gZ)]);rw[Bn];rfl
def oN{S:EK (Int×Int)}(H:Hs S){st:qC}{x1:EO PV}:∀(k m:Nat) (I:EK (Int×Ln)) (x3 x4 x5 x6 x7 x8 x9 Es:EO PV),m+k≤200->I.map (·.2)=qR S m->I.map (·.1)=fN S m->∃(R:EK (Int×Ln)) (U Z q F y7 y8 y9 Y:EO PV),R.map (·.2)=qR S (m+k)∧R.map (·.1)=fN S (m+k)∧Q3 (fun _=>True) (Qf 3) mn (gj ((List.range k).map fun i=>m+1+i)) [some (sP S),x1,some (.ref st.length),x3,x4,x5,x6,x7,x8,x9,Es] (fH st I)= .nx [some (sP S),x1,some (.ref st.length),U,Z,q,F,y7,y8,y9,Y] (fH st R)
 |0,m,I,x3,x4,x5,x6,x7,x8,x9,Es,_,M,L=>⟨I,x3,x4,x5,x6,x7,x8,x9,Es,M,L,wZ trivial⟩
 |k+1,m,I,x3,x4,x5,x6,x7,x8,x9,Es,h,M,L=>by
  obtain⟨w,z4,z5,z6,z7,z8,z9,a0,ew,e1⟩:=uI H (st:=st) (m:=m) M (by omega) (x1:=x1) (x4:=x4) (x5:=x5) (x6:=x6) (x7:=x7) (x8:=x8) (x9:=x9) (Es:=Es);obtain⟨R,U,Z,q,F,y7,y8,y9,Y,h2,h3,e2⟩:=oN H (st:=st) (x1:=x1) k (m+1) (I++[(w,WM (fT (qR S m) (m+1) S))]) (some (.int ((m+1:Nat):Int))) z4 z5 z6 z7 z8 z9 a0 (by omega) (by rw[Bn,M];rfl) (by rw[Bn,L,ew L];rfl);have er:(List.range (k+1)).map (fun i=>m+1+i)=(m+1)::(List.range k).map fun i=>m+1+1+i:=by rw[CH,AU,BL];refine List.cons_eq_cons.mpr ⟨rfl,BE fun i _=>?_⟩;show m+1+(i+1)=m+1+1+i;omega
  rw[er,show m+(k+1)=m+1+k by omega];exact⟨R,U,Z,q,F,y7,y8,y9,Y,h2,h3,zH (p:=.int ((m+1:Nat):Int)) trivial rfl e1 e2⟩
def rK{a:Ad}{S:EK (Int×Int)}{c:Nat}{st:qC}(H:Hs S)(hc:c≤200):∃I:EK (Int×Ln),I.map (·.2)=qR S c∧I.map (·.1)=fN S c∧Wi a [sP S,.int (c:Int)] st= .ok (.ref st.length) (fH st I):=by
 obtain⟨I,L,Z,U,M,F,q,R,Y,h,h',e⟩:=oN (st:=st) H (x1:=some (.int (c:Int))) c 0 [(1,some (0,[]))] none none none none none none none none (by omega) rfl rfl;rw[show (0+c)=c from Au c]at h h';refine⟨I,h,h',Qu rfl ?_⟩;unfold zu;refine qk (YR (l:=[gZ (1,some (0,[]))]) (s1:=st) (zi (qL (Qw (qL rfl (qL (Qw (qL rfl (qL (Qw qY (sz rfl)) qY)) (sz rfl)) qY)) (sz rfl)) qY) (sz rfl))) ?_;refine qk (yv (w:=⟨gj ((List.range (c+1-1)).map fun i=>1+i),fun _=>True⟩) (jf (n:=1) (m:=c+1) (by omega) (by omega) (qL rfl (qL (qV rfl rfl yE) qY))) ?_) (Qm (p:=.ref st.length) (s1:=fH st I) (r:=[some (sP S),some (.int (c:Int)),some (.ref st.length),L,Z,U,M,F,q,R,Y]) rfl);rw[BS];rw[show ((List.range c).map fun i=>1+i)=(List.range c).map fun i=>0+1+i from BE fun i _=>by omega];exact e
structure Bad (v:PV):Prop where
 no:∀(a:Ad) (st:qC),Qq a [v] st= .ok (.bl false) st
def Zu{v:PV}(h:iq v=true)(Y:∀l,v= .tup l->(iH l&&l.all gr)=false):Bad v:=⟨fun a st=>xL h Y⟩
def nO{l:EK PV}{lo hi:EO Int}{p:PV}(h:p∈WH l lo hi):p∈l:=by unfold WH at h;exact B8 (B9 h)
def zj{l:EK PV}{lo hi:EO Int}:(WH l lo hi).length≤l.length:=by unfold WH;rw[CT,List.length_drop];omega
def pr{S:EK (Int×Int)}(R:fU S){one:PV}(Z:gY one=true)(hi:gr one=false){lo U:EO Int}:Bad (.tup (WH (S.map qj) none lo++[one]++WH (S.map qj) U none)):=by
 have hok:∀p∈S.map qj,gY p=true:=fun p hp=>by obtain⟨s,_,rfl⟩:=An.mp hp;rfl
 have Y:=zj (l:=S.map qj) (lo:=none) (hi:=lo);have M:=zj (l:=S.map qj) (lo:=U) (hi:=none);rw[AG]at Y M;have q:=R.hi;refine Zu ?_ fun l e=>?_
 ·show (Nat.ble _ 1000&&_)=true;rw[Ar,A0];refine⟨Nat.ble_eq_true_of_le (by rw[Ac,Ac,Ck];omega),fun p hp=>?_⟩;rcases Ab.mp hp with hp|hp
  ·rcases Ab.mp hp with hp|hp
   ·exact hok p (nO hp)
   ·rw[AX.mp hp];exact Z
  ·exact hok p (nO hp)
 ·cases e;rw[Co];refine .inr ?_;rw[List.all_eq_false];exact⟨one,by simp,by rw[hi];decide⟩
def zl(l p:Int)(o:PV):EK PV:=[.tup [.int 10,.int p],.tup [.int 0,.int p],.tup [.bl true,.int p],.tup [.int l,.int (-1)],.tup [.int l,.int 1000000000001],.tup [.int l,.bl true],.tup [.int l,.non],.lst [.int l,.int p],.tup [.int l],.tup [.int l,.int p,.int 0],o]
def i6:EK PV:=[.int 0,.int 10,.int (-1),.bl true,.non,.str "2",.int 1000000000001,.tup [.int 1]]
def pg{l p:Int}{o:PV}(Z:o∈i6):∀v∈zl l p o,gY v=true∧gr v=false:=by
 have R:gr (.tup [.int l,.int (-1)])=false:=by show ((decide (1≤l)&&decide (l≤9))&&(decide ((0:Int)≤ -1)&&_))=false;rw[show decide ((0:Int)≤ -1)=false from rfl,Bool.false_and,CQ]
 have F:gr (.tup [.int l,.int 1000000000001])=false:=by show ((decide (1≤l)&&decide (l≤9))&&(_&&decide ((1000000000001:Int)≤1000000000000)))=false;rw[show decide ((1000000000001:Int)≤1000000000000)=false from rfl,CQ,CQ]
 intro v L;simp only[zl,AJ,Ae,BX]at L;rcases L with rfl|rfl|rfl|rfl|rfl|rfl|rfl|rfl|rfl|rfl|rfl
 ·exact⟨rfl,rfl⟩
 ·exact⟨rfl,rfl⟩
 ·exact⟨rfl,rfl⟩
 ·exact⟨rfl,R⟩
 ·exact⟨rfl,F⟩
 ·exact⟨rfl,rfl⟩
 ·exact⟨rfl,rfl⟩
 ·exact⟨rfl,rfl⟩
 ·exact⟨rfl,rfl⟩
 ·exact⟨rfl,rfl⟩
 ·simp only[i6,AJ,Ae,BX]at Z;rcases Z with rfl|rfl|rfl|rfl|rfl|rfl|rfl|rfl <;> exact⟨rfl,rfl⟩
def Di{l:EK PV}(h:1≤l.length):WH l none (some 1)=l.take 1:=by
 unfold WH HT.sIx;dsimp only;rw[AF (by decide),show min ((1:Int)).toNat l.length=1 by show min 1 l.length=1;omega];rfl
def D5{S:EK (Int×Int)}(R:fU S):Bad (.tup (S.map qj++WH (S.map qj) none (some 1))):=by
 have lo:=R.lo;have hi:=R.hi;rw[Di (by rw[AG];exact lo),←List.map_take,←Bn];have Y:(S.take 1).length=1:=by rw[CT];omega
 by_cases I:S.length≤3
 ·refine⟨fun a st=>?_⟩;show Qq a [sP (S++S.take 1)] st=_;rw[ZC (by rw[Ac];omega) (by rw[Ac];omega) fun s hs=>by
   rcases Ab.mp hs with hs|hs
   ·exact R.b s hs
   ·exact R.b s (B9 hs)]
  congr 2;unfold iB;rw[List.all_eq_false];have F:((S++S.take 1).map (·.1)).length=S.length+1:=by rw[AG,Ac,Y]
  refine⟨S.length-1,Bg.mpr (by omega),?_⟩;have Z:((S++S.take 1).map (·.1)).getD (S.length-1) 0=(S[S.length-1]'(by omega)).1:=by rw[AH,Am,Aq (by omega),AE (by omega)];rfl
  have q:((S++S.take 1).map (·.1)).getD (S.length-1+1) 0=(S[0]'(by omega)).1:=by rw[show S.length-1+1=S.length by omega,AH,Am,A9 (AN _),C5,List.getElem?_take_of_lt (by decide),AE (by omega)];rfl
  rw[Z,q];have U:(S[0]'(by omega)).1≤(S[S.length-1]'(by omega)).1:=by
   by_cases M:S.length-1=0;rw[show S[S.length-1]'(by omega)=S[0]'(by omega) from getElem_congr_idx M];exact Int.le_refl _
   ·have L:=By.mp R.ris 0 (S.length-1) (by rw[AG];omega) (by rw[AG];omega) (by omega);rw[List.getElem_map,List.getElem_map]at L;omega
  intro z
  have:=BV z
  omega
 ·refine Zu ?_ fun l e=>?_
  ·show (Nat.ble _ 1000&&_)=true;rw[Ar,A0];refine⟨Nat.ble_eq_true_of_le (by rw[AG,Ac];omega),fun p L=>?_⟩;obtain⟨s,_,rfl⟩:=An.mp L;rfl
  ·cases e;rw[Co];refine .inl ?_;unfold iH;rw[Co];exact .inr (Ak (by rw[AG,Ac];omega))
def iY(S:EK (Int×Int))(t:Int)(l p:Int)(o:PV):EK PV:=(zl l p o).map (fun one=>.tup (WH (S.map qj) none (some t)++[one]++WH (S.map qj) (some (t+1)) none))++[.tup (S.map qj++WH (S.map qj) none (some 1)),.tup [],.lst (S.map qj),.non,sP [(1,1),(2,1),(3,1),(4,1),(5,1)]]++[sP [(2,1),(2,3)],sP [(3,1),(2,1)]]
def xE{S:EK (Int×Int)}(R:fU S){t l p:Int}{o:PV}(Z:o∈i6):∀v∈iY S t l p o,Bad v:=by
 intro v hv;unfold iY at hv;rcases Ab.mp hv with hv|hv
 ·rcases Ab.mp hv with hv|hv
  ·obtain⟨one,Y,rfl⟩:=An.mp hv;obtain⟨U,F⟩:=pg Z one Y;exact pr R U F
  ·simp only[AJ,Ae,BX]at hv;rcases hv with rfl|rfl|rfl|rfl|rfl
   ·exact D5 R
   ·exact Zu rfl fun l e=>by cases e;rfl
   ·exact Zu rfl fun l e=>by cases e
   ·exact Zu rfl fun l e=>by cases e
   ·exact Zu rfl fun l e=>by cases e;rfl
 ·simp only[AJ,Ae,BX]at hv;rcases hv with rfl|rfl
  ·exact⟨fun a st=>by rw[ZC (by decide) (by decide) (by decide)];rfl⟩
  ·exact⟨fun a st=>by rw[ZC (by decide) (by decide) (by decide)];rfl⟩
def wM{l:EK PV}{i:Int}(h0:0≤i)(Y:i<l.length):∃v∈l,L2.atI l i=some v:=by
 have hi:i.toNat<l.length:=by omega
 refine⟨l[i.toNat],List.getElem_mem hi,?_⟩
 have:=Z5 (l:=l) (i:=i.toNat) (p:=l[i.toNat]) (AE hi)
 rw[show ((i.toNat:Nat):Int)=i by omega]at this;exact this
def jk{x m:Int}(h:0<m):0≤x%m∧x%m<m:=⟨Int.emod_nonneg _ (by omega),Int.emod_lt_of_pos x h⟩
def ka{l m:EK PV}{s:qC}(h:l.length+m.length≤1000):wf (.tup l) (.tup m) s= .ok (.tup (l++m)) s:=by unfold wf;dsimp only;rw[AC (AW h (by decide))]
def JD{a:Ad}{S:EK (Int×Int)}(R:fU S){st j:qC}{x:Int}:∃v y g,Bad v∧wp a [.ref st.length,sP S] (st ++ .l [.int x]::j)= .ok v (st ++ .l [.int y]::(j++g)):=by
 have lo:=R.lo;have hi:=R.hi;have U:(S.map qj).length=S.length:=AG ..;have m1:=jk (x:=x) (m:=(S.length:Int)) (by omega);have t1:=wm (a:=a) (st:=st) (j:=j) (x:=x) (m:=(S.length:Int)) (by omega) (by omega);generalize hT:x%(S.length:Int)=T at m1 t1;generalize a2:x/(S.length:Int)=I at t1;obtain⟨q,hq,eq⟩:=wM (l:=S.map qj) (i:=T) m1.1 (by rw[U];exact m1.2);obtain⟨s,hs,rfl⟩:=An.mp hq;have t2:=wm (a:=a) (st:=st) (j:=j) (x:=I) (m:=8) (by decide) (by decide);have m2:=jk (x:=I) (m:=8) (by decide);obtain⟨o,ho,eo⟩:=wM (l:=i6) (i:=I%8) m2.1 m2.2;generalize a3:I/8=Z at t2;generalize hB:st++SO.l [.int Z]::j=B;have a4:B.length=st.length+(j.length+1):=by rw[←hB,Ac,Aa]
 let Y:EK PV:=[.tup [.int 10,.int s.2],.tup [.int 0,.int s.2],.tup [.bl true,.int s.2],.tup [.int s.1,.int (-1)],.tup [.int s.1,.int 1000000000001],.tup [.int s.1,.bl true],.tup [.int s.1,.non]];have t3:=wm (a:=a) (st:=st) (j:=j++[SO.l (Y++[.lst [.int s.1,.int s.2]]),.l (zl s.1 s.2 o)]) (x:=Z) (m:=18) (by decide) (by decide);have a0:st++SO.l [.int Z]::(j++[SO.l (Y++[.lst [.int s.1,.int s.2]]),.l (zl s.1 s.2 o)])=B++[SO.l (Y++[.lst [.int s.1,.int s.2]]),.l (zl s.1 s.2 o)]:=by rw[←hB,Ah];rfl
 have m3:=jk (x:=Z) (m:=18) (by decide);have a1:(iY S T s.1 s.2 o).length=18:=rfl;obtain⟨v,hv,ev⟩:=wM (l:=iY S T s.1 s.2 o) (i:=Z%18) m3.1 (by rw[a1];exact m3.2);refine⟨v,Z/18,[SO.l (Y++[.lst [.int s.1,.int s.2]]),.l (zl s.1 s.2 o)],xE R ho v hv,Qu rfl ?_⟩;unfold WX;refine qk (Q1 (p:=.int T) (s1:=st ++ .l [.int I]::j) (qO (l:=[.ref st.length,.int (S.length:Int)]) (qL rfl (qL (qO (l:=[sP S]) rfl (Zi (l:=S.map qj) rfl (by rw[U]))) qY)) t1)) ?_;refine qk (mz (p:=qj s) (s1:=st ++ .l [.int I]::j) (qV (p:=sP S) (q:=.int T) rfl rfl (YZ rfl eq)) rfl) ?_;refine qk (Q1 (p:=o) (s1:=B) (qV (p:=.lst i6) (q:=.int (I%8)) (s1:=st ++ .l [.int I]::j) (s2:=B) rfl (qO (l:=[.ref st.length,.int 8]) rfl (by rw[t2,hB])) (YZ rfl eo))) ?_;refine qk (YR (l:=Y) (s1:=B) (zi (qL (Qw (qL rfl (qL rfl qY)) (sz rfl)) (qL (Qw (qL rfl (qL rfl qY)) (sz rfl)) (qL (Qw (qL rfl (qL rfl qY)) (sz rfl)) (qL (Qw (qL rfl (qL rfl qY)) (sz rfl)) (qL (Qw (qL rfl (qL rfl qY)) (sz rfl)) (qL (Qw (qL rfl (qL rfl qY)) (sz rfl)) (qL (Qw (qL rfl (qL rfl qY)) (sz rfl)) qY))))))) (sz rfl))) ?_;have ea:=Zg (n:=B.length) (l:=Y) (fo:=qB 6) (f:=eM (Qx (qA (qB 3) (qA (qB 4) qD)))) (r:=[some (.ref st.length),some (sP S),some (.int T),some (.int s.1),some (.int s.2),some o,some (.ref B.length),none]) (st:=B++[SO.l Y]) rfl (kr (gi rfl)) (WG (zi (qL rfl (qL rfl qY)) (sz rfl))) (gi rfl) (sz rfl);rw[yZ rfl]at ea;refine qk ea ?_;have ec:ZM (qB 6) (eM (Qx (qA (qp (qA (qB 3) qD)) (qA (qp (qA (qB 3) (qA (qB 4) (qA (vC (.int 0)) qD)))) (qA (qB 5) qD))))) [some (.ref st.length),some (sP S),some (.int T),some (.int s.1),some (.int s.2),some o,some (.ref B.length),none] (B++[SO.l (Y++[.lst [.int s.1,.int s.2]])])= .ok (zl s.1 s.2 o) (B++[SO.l (Y++[.lst [.int s.1,.int s.2]])]) :=
  JF (l:=Y++[.lst [.int s.1,.int s.2]]) (m:=[.tup [.int s.1],.tup [.int s.1,.int s.2,.int 0],o]) rfl (WG (zi (qL (Qw (qL rfl qY) (sz rfl)) (qL (Qw (qL rfl (qL rfl (qL rfl qY))) (sz rfl)) (qL rfl qY))) (sz rfl))) (mW (gi rfl)) rfl (sz rfl)
 refine qk (YR ec) ?_;have hQ:(B++[SO.l (Y++[.lst [.int s.1,.int s.2]])]).length=B.length+1:=by rw[Ac];rfl
 have hC:B++[SO.l (Y++[.lst [.int s.1,.int s.2]])]++[SO.l (zl s.1 s.2 o)]=B++[SO.l (Y++[.lst [.int s.1,.int s.2]]),.l (zl s.1 s.2 o)]:=by rw[Ah];rfl
 have M:(B++[SO.l (Y++[.lst [.int s.1,.int s.2]]),.l (zl s.1 s.2 o)])[B.length+1]? = some (.l (zl s.1 s.2 o)):=by rw[←hC,←hQ];exact gi rfl
 rw[hQ,hC];generalize hG:B++[SO.l (Y++[.lst [.int s.1,.int s.2]]),.l (zl s.1 s.2 o)]=G at M;have c1:=zj (l:=S.map qj) (lo:=none) (hi:=some T);have c2:=zj (l:=S.map qj) (lo:=some (T+1)) (hi:=none);have c3:=zj (l:=S.map qj) (lo:=none) (hi:=some 1);rw[U]at c1 c2 c3;let L:EK PV:=(zl s.1 s.2 o).map fun one=>.tup (WH (S.map qj) none (some T)++[one]++WH (S.map qj) (some (T+1)) none);refine qk (Q1 (p:=.lst L) (s1:=G) (WG (wI (w:=⟨zl s.1 s.2 o,fun s'=>s'[B.length+1]? = some (.l (zl s.1 s.2 o))⟩) (F:=fun one=>.tup (WH (S.map qj) none (some T)++[one]++WH (S.map qj) (some (T+1)) none)) (pP rfl M) M (sz rfl) fun one _=>⟨[some (sP S),some (.int T),some one],rfl,?_⟩))) ?_;refine qV (p:=.tup (WH (S.map qj) none (some T)++[one])) (q:=.tup (WH (S.map qj) (some (T+1)) none)) (s1:=G) (s2:=G) (qV (p:=.tup (WH (S.map qj) none (some T))) (q:=.tup [one]) (s1:=G) (s2:=G) rfl (Qw (qL rfl qY) (sz rfl)) (ka (by show _+1≤1000;omega))) rfl (ka (by rw[Ac];show _+1+_≤1000;omega));let A2:EK PV:=[.tup (S.map qj++WH (S.map qj) none (some 1)),.tup [],.lst (S.map qj),.non,sP [(1,1),(2,1),(3,1),(4,1),(5,1)]];refine qk (Q1 (p:=.lst (L++A2)) (s1:=G) (WG (JF (p:=.lst L) (q:=.lst A2) (l:=L) (m:=A2) (s1:=G) (s2:=G) rfl (WG (zi (qL (qV (p:=sP S) (q:=.tup (WH (S.map qj) none (some 1))) (s1:=G) (s2:=G) rfl rfl (ka (by rw[U];omega))) (qL (Qw qY (sz rfl)) (qL rfl (qL rfl (qL rfl qY))))) (sz rfl))) rfl rfl (sz rfl)))) ?_;rw[a0,hG]at t3;refine Qm (qV (p:=.lst (iY S T s.1 s.2 o)) (q:=.int (Z%18)) (s1:=G) (s2:=st ++ .l [.int (Z/18)]::(j++[SO.l (Y++[.lst [.int s.1,.int s.2]]),.l (zl s.1 s.2 o)])) (WG (JF (p:=.lst (L++A2)) (q:=.lst [sP [(2,1),(2,3)],sP [(3,1),(2,1)]]) (l:=L++A2) (m:=[sP [(2,1),(2,3)],sP [(3,1),(2,1)]]) (s1:=G) (s2:=G) rfl rfl rfl rfl (sz rfl))) (qO (l:=[.ref st.length,.int 18]) (s1:=G) rfl t3) (YZ rfl ev))
def oJ(W:EK Int)(m:Nat):PV->PV| .tup [.int l,_]=>.int (W.getD (m-l.toNat) 0)|_=>.non
def sU(W:EK Int)(m:Nat)(S:EK (Int×Int)):((S.map qj).filter (gy m)).map (oJ W m)=((S.filter fun s=>decide (s.1≤(m:Int))).map fun s=>W.getD (m-s.1.toNat) 0).map PV.int:=by rw[List.filter_map,BL,BL];rfl
abbrev gu(st:qC)(S:EK (Int×Int))(m:Nat):qC:=st++[.l ((fN S m).map PV.int)]
section
variable{S:EK (Int×Int)}{st:qC}{m:Nat}
def pq{i:Nat}(hi:i≤m):eL (.ref st.length) (.int (i:Int)) (gu st S m)= .ok (.int ((fN S m).getD i 0)) (gu st S m):=by
 have hl:i<(fN S m).length:=by rw[zk];omega
 exact YZ (Y3 (gi rfl)) (Z5 (by rw[Am,AE hl,AH,AE hl];rfl))
def kN:FE:=(qI YH (qA (eM (qr [2,3] 2 (q9 (qB 0)) (wN 2 (qW (qw 2) (qW (qw 3) wS))) [(eU (qK gLe (qB 2) (qB 1)))] [] (qK eL (qB 0) (qK zT (qB 1) (qB 2))))) qD))
def pL(H:Hs S){x1:EO PV}:kN [some (sP S),x1,some (.ref st.length),some (.int ((m+1:Nat):Int))] (gu st S m)= .ok (.int (ip (fN S m) (m+1) S)) (gu st S m):=by
 refine qO (l:=[.lst (((S.filter fun s=>decide (s.1≤((m+1:Nat):Int))).map fun s=>(fN S m).getD (m+1-s.1.toNat) 0).map PV.int)]) (s1:=gu st S m) (qL (WG ?_) qY) nG;rw[←sU];refine Zj (w:=⟨S.map qj,fun _=>True⟩) (c:=gy (m+1)) (F:=oJ (fN S m) (m+1)) rfl trivial (by rw[AG];exact AW H.hi (by decide)) fun p L=>?_;obtain⟨s,hs,rfl⟩:=An.mp L;have hb:=H.b s hs;refine⟨[some (.ref st.length),some (.int ((m+1:Nat):Int)),some (.int s.1),some (.int s.2)],rfl,WL (qV rfl rfl iw),fun U=>?_⟩;have U:decide (s.1≤((m+1:Nat):Int))=true:=U;have U:=BV U;have Z:((m+1:Nat):Int)-s.1=((m+1-s.1.toNat:Nat):Int):=by omega
 exact qV rfl (qV rfl rfl (by rw[Zx,Z])) (pq (by omega))
def mC(H:Hs S){x1:EO PV}:∀(k m:Nat) (x3:EO PV),m+k≤200->∃Y,Q3 (fun _=>True) (Qf 3) (wU (qB 2) kN) (gj ((List.range k).map fun i=>m+1+i)) [some (sP S),x1,some (.ref st.length),x3] (gu st S m)= .nx [some (sP S),x1,some (.ref st.length),Y] (gu st S (m+k))
 |0,m,x3,_=>⟨x3,wZ trivial⟩
 |k+1,m,x3,h=>by
  obtain⟨Y,e⟩:=mC H (x1:=x1) k (m+1) (some (.int ((m+1:Nat):Int))) (by omega);have q:(List.range (k+1)).map (fun i=>m+1+i)=(m+1)::(List.range k).map fun i=>m+1+1+i:=by rw[CH,AU,BL];refine List.cons_eq_cons.mpr ⟨rfl,BE fun i _=>?_⟩;show m+1+(i+1)=m+1+1+i;omega
  rw[q,show m+(k+1)=m+1+k by omega];refine⟨Y,zH (p:=.int ((m+1:Nat):Int)) trivial rfl ?_ e⟩;have F:=Zg (n:=st.length) (l:=(fN S m).map PV.int) (fo:=qB 2) (f:=kN) (r:=[some (sP S),x1,some (.ref st.length),some (.int ((m+1:Nat):Int))]) (st:=gu st S m) rfl (kr (gi rfl)) (pL H) (gi rfl) (by rw[AG,zk];exact Ao (show m+1<300 by omega) (by decide));rw[yZ rfl]at F;have R:(fN S m).map PV.int++[.int (ip (fN S m) (m+1) S)]=(fN S (m+1)).map PV.int:=by show _=(fN S m++[_]).map PV.int;rw[Bn];rfl
  rw[R]at F;exact F
end
def uQ{a:Ad}{S:EK (Int×Int)}{c:Nat}{st:qC}(R:fU S)(U:c≤200):we a [sP S,.int (c:Int)] st= .ok (.int (fD S c)) (gu st S c):=by
 obtain⟨Y,e⟩:=mC (st:=st) R.hs (x1:=some (.int (c:Int))) c 0 none (by omega);refine Qu rfl ?_;unfold Wn;refine qk (lz (qO (l:=[sP S,.int (c:Int)]) rfl (nk R U))) ?_;refine qk (YR (l:=[.int 1]) (s1:=st) (zi (qL rfl qY) (sz rfl))) ?_;rw[show (0+c)=c from Au c]at e;refine qk (yv (w:=⟨gj ((List.range (c+1-1)).map fun i=>1+i),fun _=>True⟩) (jf (n:=1) (m:=c+1) (by omega) (by omega) (qL rfl (qL (qV rfl rfl yE) qY))) ?_) (Qm (p:=.int (fD S c)) (st:=gu st S c) (s1:=gu st S c) (r:=[some (sP S),some (.int (c:Int)),some (.ref st.length),Y]) (qV rfl rfl ?_))
 ·rw[show c+1-1=c by omega]
  have:(fun i=>1+i)=fun i=>0+1+i:=by funext i;omega
  rw[this];exact e
 ·have hl:c<(fN S c).length:=by rw[zk];omega
  exact YZ (Y3 (gi rfl)) (jU (n:=c) (by rw[AG,zk]) (by unfold fD;rw[Am,AE hl,AH,AE hl];rfl))
def p8{a:Ad}{S:EK (Int×Int)}{c:Nat}{st:qC}(R:fU S)(U:c≤200):Qd a [sP S,.int (c:Int)] st= .ok (lnP (fK S c)) (fX st S c):=by refine Qu rfl ?_;unfold wY;exact qk (lz (qO (l:=[sP S,.int (c:Int)]) rfl (nk R U))) (Qm (qV (qO (l:=[sP S,.int (c:Int)]) rfl (Dz R.hs U)) rfl rF))
end K86
end
noncomputable section
namespace K86
open PySem EV EX ET
def ky(x:Int×EK Int):EK Int:=x.1::x.2
def ya:∀k Z:EK Int,eY (.tup (k.map PV.int)) (.tup (Z.map PV.int))=decide (k=Z)
 |[],[]=>rfl
 |[],_::_=>rfl
 |_::_,[]=>rfl
 |a::k,b::Z=>by
  have I:=ya k Z;show fE (.int a::k.map PV.int) (.int b::Z.map PV.int)=_;have I:fE (k.map PV.int) (Z.map PV.int)=decide (k=Z):=I;rw[fE,I,show eY (.int a) (.int b)=(a==b) from rfl];by_cases h:a=b;subst h;simp;rw[show (a==b)=false from AI.mpr h];simp[h]
def C9(x y:Int×EK Int):gX x y=fw (ky x) (ky y):=by
 unfold gX qT ky;rw[fQ,ft,show eY (.int x.1) (.int y.1)=(x.1==y.1) from rfl];show _=(if x.1<y.1 then true else if y.1<x.1 then false else fw x.2 y.2);by_cases h:x.1=y.1
 ·rw[AC (by rw[h];exact Aj _),AF (by omega),AF (by omega),ft,ya];by_cases R:x.2=y.2;rw[AC (Af R),R,Wd];rfl
  ·rw[AF (by rw[Ak R];decide),fQ,yf];cases fw x.2 y.2 <;> rfl
 ·rw[AF (by rw[show (x.1==y.1)=false from AI.mpr h];decide),fQ];by_cases hl:x.1<y.1;rw[AC hl,Af hl];rfl;rw[AF hl,AC (by omega),Ak hl];rfl
abbrev Le(x y:Int×EK Int):Prop:=fw (ky y) (ky x)=false
def Le.refl(x:Int×EK Int):Le x x:=Wd _
def Le.trans{x y z:Int×EK Int}(Y:Le x y)(U:Le y z):Le x z:=PyProof.Rows.KeyOrd.kle_trans (O:=iy) (a:=ky x) (b:=ky y) (c:=ky z) Y U
def yy:∀(l:EK (Int×EK Int)) (b:Int×EK Int),Le (l.foldl wg b) b∧∀x∈l,Le (l.foldl wg b) x
 |[],b=>⟨Le.refl b,fun x M=>by cases M⟩
 |y::l,b=>by
  obtain⟨Y,U⟩:=yy l (wg b y);have hb:Le (wg b y) b∧Le (wg b y) y:=by
   unfold wg;rw[C9];cases e:fw (ky y) (ky b) with|true=>rw[AC rfl];exact⟨PyProof.Rows.KeyOrd.kle_of_klt (O:=iy) (a:=ky y) (b:=ky b) e,Le.refl y⟩|false=>rw[AF (by decide)];exact⟨Le.refl b,e⟩
  refine⟨Y.trans hb.1,fun x M=>?_⟩;rcases AJ.mp M with z|z
  ·rw[z];exact Y.trans hb.2
  ·exact U x z
def vb{l:EK (Int×EK Int)}{b:Int×EK Int}(h:WM l=some b):∀x∈l,Le b x:=by
 cases l with
 |nil=>cases h
 |cons a l =>
  have:l.foldl wg a=b:=Al h
  subst this;intro x M;rcases AJ.mp M with z|z
  ·rw[z];exact (yy l a).1
  ·exact (yy l a).2 x z
def Jq(s:Int×Int)(p:Int×EK Int):Int×EK Int:=(s.2+p.1,s.1::p.2)
def xP{s:Int×Int}{p q:Int×EK Int}(h:Le p q):Le (Jq s p) (Jq s q):=by
 have h:(if q.1<p.1 then true else if p.1<q.1 then false else fw q.2 p.2)=false:=h;show (if s.2+q.1<s.2+p.1 then true else if s.2+p.1<s.2+q.1 then false else (if s.1<s.1 then true else if s.1<s.1 then false else fw q.2 p.2))=false;rw[AF (Ct s.1),AF (Ct s.1)];by_cases Y:q.1<p.1;rw[AC Y]at h;cases h
 ·rw[AF Y]at h;rw[AF (by omega)];by_cases U:p.1<q.1;rw[AC (by omega)];rw[AF U]at h;rw[AF (by omega)];exact h
def wk(S:EK (Int×Int)):Nat->Nat->EK (Int×EK Int)|0,_=>[]|n+1,c=>if c=0 then [(0,[])] else S.flatMap fun s=>if s.1≤(c:Int) then (wk S n (c-s.1.toNat)).map (Jq s) else []
def jI{f:(Int×Int)->Int}(c:Int):∀T:EK (Int×Int),(T.map fun s=>if s.1≤c then f s else 0).sum=((T.filter fun s=>decide (s.1≤c)).map f).sum
 |[]=>rfl
 |s::T=>by
  rw[AU,Cu,jI c T,CG];by_cases h:s.1≤c;rw[AC h,AC (Af h),AU,Cu];rw[AF h,AF (by rw[Ak h];decide),Int.zero_add]
def j9{β:Type}(g:(Int×Int)->EK β):∀T:EK (Int×Int),((T.flatMap g).length:Int)=(T.map fun s=>((g s).length:Int)).sum|[]=>rfl|s::T=>by rw[List.flatMap_cons,Ac,AU,Cu,←j9 g T];omega
def jc{S:EK (Int×Int)}(H:Hs S):∀n c,c<n->((wk S n c).length:Int)=fD S c
 |0,_,h=>absurd h (B6 _)
 |n+1,c,h=>by
  unfold wk;cases c with
  |zero=>rfl
  |succ m =>
   rw[AF (Nat.succ_ne_zero m),j9,nL H];unfold kx;rw[←jI];congr 1;refine BE fun s hs=>?_;by_cases hl:s.1≤((m+1:Nat):Int)
   ·rw[AC hl,AC hl,AG]
    have:=(H.b s hs).1
    exact jc H n _ (by omega)
   ·rw[AF hl,AF hl];rfl
def ni{S:EK (Int×Int)}(H:Hs S):∀n c,c<n->(fK S c=none->wk S n c=[])∧∀b,fK S c=some b->b∈wk S n c∧∀x∈wk S n c,Le b x
 |0,_,h=>absurd h (B6 _)
 |n+1,0,h=>⟨(fun z=>by cases z),fun b hb=>by
   have:b=(0,[]):=(Al (show some (0,[])=some b from hb)).symm
   subst this;refine⟨AX.mpr rfl,fun x M=>?_⟩;rw[AX.mp (show x∈[(0,[])] from M)];exact Le.refl _⟩
 |n+1,m+1,h=>by
  have U:∀s∈S,s.1≤((m+1:Nat):Int)->(fK S (m+1-s.1.toNat)=none->wk S n (m+1-s.1.toNat)=[])∧∀b,fK S (m+1-s.1.toNat)=some b->b∈wk S n (m+1-s.1.toNat)∧∀x∈wk S n (m+1-s.1.toNat),Le b x:=fun s hs hl=>by
   have:=(H.b s hs).1
   exact ni H n _ (by omega)
  have at_:∀s∈S,s.1≤((m+1:Nat):Int)->(qR S m).getD (m+1-s.1.toNat) none=fK S (m+1-s.1.toNat):=fun s hs hl=>by
   have:=(H.b s hs).1
   exact j5 S m _ (by omega)
  have mem:∀x,x∈wk S (n+1) (m+1) ↔ ∃s∈S,s.1≤((m+1:Nat):Int)∧∃q∈wk S n (m+1-s.1.toNat),x=Jq s q:=fun x=>by
   show x∈(if m+1=0 then [(0,[])] else S.flatMap _) ↔ _;rw[AF (Nat.succ_ne_zero m),List.mem_flatMap];constructor
   ·rintro⟨s,hs,M⟩;by_cases hl:s.1≤((m+1:Nat):Int);rw[AC hl]at M;obtain⟨q,Z,e⟩:=An.mp M;exact⟨s,hs,hl,q,Z,e.symm⟩;rw[AF hl]at M;cases M
   ·rintro⟨s,hs,hl,q,Z,e⟩;exact⟨s,hs,by rw[AC hl,e];exact List.mem_map_of_mem Z⟩
  rw[pI];constructor
  ·intro hb;refine List.eq_nil_iff_forall_not_mem.mpr fun x M=>?_;obtain⟨s,hs,hl,q,Z,_⟩:=(mem x).mp M;have i:=U s hs hl;cases R:fK S (m+1-s.1.toNat) with
   |none=>rw[i.1 R]at Z;cases Z
   |some p =>
    have I:=nh hs hl ((at_ s hs hl).trans R);cases ho:fT (qR S m) (m+1) S with|nil=>rw[ho]at I;cases I|cons y l=>rw[ho]at hb;cases hb
  ·intro b hb;obtain⟨s,p,hs,hl,hp,rfl⟩:=mP (JV hb);have i:=(U s hs hl).2 p ((at_ s hs hl).symm.trans hp);refine⟨(mem _).mpr ⟨s,hs,hl,p,i.1,rfl⟩,fun x M=>?_⟩;obtain⟨L,F,Y,q,Z,rfl⟩:=(mem x).mp M;have i':=U L F Y;cases R:fK S (m+1-L.1.toNat) with|none=>rw[i'.1 R]at Z;cases Z|some p'=>have I:=nh F Y ((at_ L F Y).trans R);exact (vb hb _ I).trans (xP ((i'.2 p' R).2 q Z))
def hW:EK Nat:=[1,1,2,4,8,15,29,56,108]
def tf(m l:Nat):Nat:=if l≤m then hW.getD (m-l) 0 else 0
def tg(m:Nat):Nat->Nat->Nat|_,0=>0|j,k+1=>tf m j+tg m (j+1) k
def vv:∀m,m≤8->∀j l,j≤l->tf m l≤tf m j:=by
 have h:∀m<9,∀l<9,∀j<9,j≤l->tf m l≤tf m j:=by decide
 intro m M j l q;by_cases hl:l≤m;exact h m (by omega) l (by omega) j (by omega) q;unfold tf;rw[AF hl];exact Bf _
def oj{m:Nat}(M:m≤8):∀(L:EK Nat) (j k:Nat),L.Pairwise (· < ·)->(∀l∈L,j≤l)->L.length≤k->(L.map (tf m)).sum≤tg m j k
 |[],_,_,_,_,_=>Bf _
 |l::L,j,0,_,_,h=>absurd h (Nat.not_succ_le_zero _)
 |l::L,j,k+1,R,F,I=>by
  obtain⟨Y,U⟩:=A3.mp R;rw[AU,Cu];have a:=vv m M j l (F l AT);have q:=F l AT;have b:=oj M L (j+1) k U (fun x Z=>by have:=Y x Z;omega) (by simpa using I);show _≤tf m j+tg m (j+1) k;omega
def kX{S:EK (Int×Int)}(R:fU S):∀n c,c<n->c≤8->fD S c≤((hW.getD c 0:Nat):Int)
 |0,_,h,_=>absurd h (B6 _)
 |n+1,0,_,_=>by show (1:Int)≤1;decide
 |n+1,m+1,h,L=>by
  rw[nL R.hs];unfold kx;rw[←jI];have F:∀s∈S,1≤s.1:=fun s hs=>(R.b s hs).1;have st:(S.map fun s=>if s.1≤((m+1:Nat):Int) then fD S (m+1-s.1.toNat) else 0).sum≤(((S.map fun s=>s.1.toNat).map (tf (m+1))).sum:Nat):=by
   have gen:∀T:EK (Int×Int),(∀s∈T,s∈S)->(T.map fun s=>if s.1≤((m+1:Nat):Int) then fD S (m+1-s.1.toNat) else 0).sum≤(((T.map fun s=>s.1.toNat).map (tf (m+1))).sum:Nat):=fun T=>by
    induction T with
    |nil=>intro _;exact Int.le_refl _
    |cons s T I =>
     intro U;have i:=I fun x M=>U x (AO _ M);have p:=F s (U s AT);rw[AU,Cu,AU,AU,Cu];have e:(if s.1≤((m+1:Nat):Int) then fD S (m+1-s.1.toNat) else 0)≤((tf (m+1) s.1.toNat:Nat):Int):=by
      unfold tf;by_cases hl:s.1≤((m+1:Nat):Int)
      ·rw[AC hl,AC (by omega)];exact kX R n _ (by omega) (by omega)
      ·rw[AF hl,AF (by omega)];exact Int.le_refl _
     omega
   exact gen S fun _ h=>h
  have b:=oj (m:=m+1) L (S.map fun s=>s.1.toNat) 1 4 (by
   rw[List.pairwise_map];refine (List.pairwise_map.mp R.ris).imp_of_mem fun {x y} M Y q=>?_
   have:=F x M;have:=F y Y
   omega) (fun l hl=>by
   obtain⟨s,hs,rfl⟩:=An.mp hl
   have:=F s hs
   omega) (by rw[AG];exact R.hi)
  have c:tg (m+1) 1 4=hW.getD (m+1) 0:=by
   have:∀m<8,tg (m+1) 1 4=hW.getD (m+1) 0:=by decide
   exact this m (by omega)
  omega
def Ye{S:EK (Int×Int)}:∀n c x,x∈wk S n c->x.2.length≤n
 |0,_,_,h=>by cases h
 |n+1,c,x,h=>by
  unfold wk at h;by_cases U:c=0;rw[AC U]at h;rw[AX.mp h];exact Bf _
  ·rw[AF U]at h;obtain⟨s,_,M⟩:=List.mem_flatMap.mp h;by_cases hl:s.1≤(c:Int);rw[AC hl]at M;obtain⟨q,Z,rfl⟩:=An.mp M;show (s.1::q.2).length≤n+1;rw[Aa];exact Nat.succ_le_succ (Ye n _ q Z);rw[AF hl]at M;cases M
def Ze(S:EK (Int×Int))(n c:Nat)(s:Int×Int):EK (Int×EK Int):=if s.1≤(c:Int) then (wk S n (c-s.1.toNat)).map (Jq s) else []
def vS(rec:EK PV->qC->Rs PV):FS:=(Qs (eU (qK gLe (qB 3) (qB 1))) (qc 2 (eM (ZM (qB 2) (eM (qr [4,3] 2 (q9 (qI rec (qA (qB 0) (qA (qK zT (qB 1) (qB 3)) qD)))) (wN 2 (qW (qw 2) (qW (qw 3) wS))) [] [] (qp (qA (qK QU (qB 0) (qB 2)) (qA (qK wf (qp (qA (qB 1) qD)) (qB 3)) qD)))))))) Qh)
def mJ(s:Int×Int):PV->PV| .tup [.int t,.tup l]=>.tup [.int (s.2+t),.tup (.int s.1::l)]|_=>.non
def mh{S:EK (Int×Int)}{n c:Nat}(hc:n≤100)(H:Hs S){rec:EK PV->qC->Rs PV}{st:qC}(I:∀s∈S,s.1≤(c:Int)->rec [sP S,.int ((c:Int)-s.1)] st= .ok (.lst ((wk S n (c-s.1.toNat)).map qT)) st) :
  ∀(T:EK (Int×Int)) (Eh:EK (Int×EK Int)) (x3 x4:EO PV),(∀s∈T,s∈S)->(Eh++T.flatMap (Ze S n c)).length≤200->∃Y Z,Q3 (fun _=>True) (wN 2 (qW (Qf 3) (qW (Qf 4) wS))) (vS rec) (T.map qj) [some (sP S),some (.int (c:Int)),some (.lst (Eh.map qT)),x3,x4] st= .nx [some (sP S),some (.int (c:Int)),some (.lst ((Eh++T.flatMap (Ze S n c)).map qT)),Y,Z] st
 |[],Eh,x3,x4,_,_=>⟨x3,x4,by rw[List.flatMap_nil,BW];exact wZ trivial⟩
 |s::T,Eh,x3,x4,hT,hl=>by
  have hs:=hT s AT;rw[List.flatMap_cons,←Ah]at hl ⊢;obtain⟨Y,Z,e⟩:=mh hc H I T (Eh++Ze S n c s) (some (.int s.1)) (some (.int s.2)) (fun x hx=>hT x (AO _ hx)) hl;have L:eU (qK gLe (qB 3) (qB 1)) [some (sP S),some (.int (c:Int)),some (.lst (Eh.map qT)),some (.int s.1),some (.int s.2)] st= .ok (decide (s.1≤(c:Int))) st:=WL (qV rfl rfl iw);refine⟨Y,Z,zH (p:=qj s) (r1:=[some (sP S),some (.int (c:Int)),some (.lst (Eh.map qT)),some (.int s.1),some (.int s.2)]) trivial rfl ?_ e⟩;by_cases U:s.1≤(c:Int)
  ·rw[Af U]at L;have R:Ze S n c s=(wk S n (c-s.1.toNat)).map (Jq s):=by unfold Ze;rw[AC U]
   have a0:Eh.length+(wk S n (c-s.1.toNat)).length≤200:=by rw[Ac,Ac,R,AG]at hl;omega
   have hm:((wk S n (c-s.1.toNat)).map qT).map (mJ s)=((wk S n (c-s.1.toNat)).map (Jq s)).map qT:=by rw[BL,BL];rfl
   have ec:eM (qr [4,3] 2 (q9 (qI rec (qA (qB 0) (qA (qK zT (qB 1) (qB 3)) qD)))) (wN 2 (qW (qw 2) (qW (qw 3) wS))) [] [] (qp (qA (qK QU (qB 0) (qB 2)) (qA (qK wf (qp (qA (qB 1) qD)) (qB 3)) qD)))) [some (sP S),some (.int (c:Int)),some (.lst (Eh.map qT)),some (.int s.1),some (.int s.2)] st= .ok (.lst (((wk S n (c-s.1.toNat)).map (Jq s)).map qT)) st:=by
    rw[←hm];refine WG (wI (w:=⟨(wk S n (c-s.1.toNat)).map qT,fun _=>True⟩) (F:=mJ s) (zU (qO (l:=[sP S,.int ((c:Int)-s.1)]) (qL rfl (qL (qV rfl rfl Zx) qY)) (I s hs U))) trivial (by rw[AG];exact km (by omega)) fun p M=>?_);obtain⟨q,hq,rfl⟩:=An.mp M;have a1:=Ye n _ q hq;refine⟨[some (.int s.2),some (.int s.1),some (.int q.1),some (.tup (q.2.map PV.int))],rfl,?_⟩;exact Qw (qL (qV rfl rfl yE) (qL (qV (p:=.tup [.int s.1]) (q:=.tup (q.2.map PV.int)) rfl rfl (ka (by rw[AG];show 1+q.2.length≤1000;omega))) qY)) (sz rfl)
   rw[R,Bn];exact wQ L (Q1 (WG (JF rfl ec rfl rfl (by rw[AG,AG,AG];exact km (by omega)))))
  ·rw[Ak U]at L;have R:Ze S n c s=[]:=by unfold Ze;rw[AF U]
   rw[R,BW];exact wO L rfl
def mE{a:Ad}{S:EK (Int×Int)}(R:fU S){st:qC}:∀n c,c<n->c≤8->n≤100->Qy n a [sP S,.int (c:Int)] st= .ok (.lst ((wk S n c).map qT)) st
 |0,_,h,_,_=>absurd h (B6 _)
 |n+1,c,h,L,Y=>by
  refine Qu (N:=5) (B:=ZB a (Qy n a)) rfl ?_;unfold ZB;cases c with
  |zero=>exact Q8 (wQ (WL (qV rfl rfl rfl)) (Qm (WG (zi (qL (Qw (qL rfl (qL (Qw qY (sz rfl)) qY)) (sz rfl)) qY) (sz rfl)))))
  |succ m =>
   have M:(((m+1:Nat):Int)==0)=false:=AI.mpr (by omega);have I:eU (qK gEq (qB 1) (vC (.int 0))) (QC 5 [sP S,.int ((m+1:Nat):Int)]) st= .ok false st:=WL (qV rfl rfl (by rw[jP,M]));have Z:∀s∈S,s.1≤((m+1:Nat):Int)->Qy n a [sP S,.int (((m+1:Nat):Int)-s.1)] st= .ok (.lst ((wk S n (m+1-s.1.toNat)).map qT)) st:=fun s hs hl=>by
    have:=(R.b s hs).1
    rw[show ((m+1:Nat):Int)-s.1=((m+1-s.1.toNat:Nat):Int) by omega];exact mE R n _ (by omega) (by omega) (by omega)
   have U:wk S (n+1) (m+1)=[]++S.flatMap (Ze S n (m+1)):=rfl;have F:([]++S.flatMap (Ze S n (m+1))).length≤200:=by
    rw[←U];have q:=jc R.hs (n+1) (m+1) h;have e2:=kX R (n+1) (m+1) h L;have e3:hW.getD (m+1) 0≤108:=by
     have:∀m<8,hW.getD (m+1) 0≤108:=by decide
     exact this m (by omega)
    omega
   obtain⟨y3,y4,e⟩:=mh (n:=n) (c:=m+1) (by omega) R.hs Z S [] none none (fun _ h=>h) F;refine qk (wO I rfl) (qk (Q1 (WG (zi qY (sz rfl)))) (qk (yv (w:=⟨S.map qj,fun _=>True⟩) rfl e) (Qm ?_)));rw[U];rfl
def mF:∀L:EK (Int×EK Int),Q2 hU (L.map qT)=some (L.map ky)|[]=>rfl|x::L=>by rw[AU,Q2,show hU (qT x)=(Q2 YY (x.2.map PV.int)).map (x.1 :: ·) from rfl,Zt,mF L];rfl
def uF{L:EK (Int×EK Int)}(hl:L.length<128){f:FE}{r:qz}{st s1:qC}(h:f r st= .ok (.lst (L.map qT)) s1):Zs f r st= .ok (.lst ((gf (L.map ky)).map gB)) s1:=by unfold Zs;rw[h];show jD (.lst (L.map qT)) s1=_;unfold jD;rw[show WN s1 (.lst (L.map qT))=some (L.map qT) from rfl];dsimp only;rw[mF];dsimp only;rw[AC (by rw[AG];exact hl)]
def pJ{L:EK (Int×EK Int)}{b:Int×EK Int}(hb:b∈L)(I:∀x∈L,Le b x):∃t,gf (L.map ky)=ky b::t:=by
 have R:=Zd (L.map ky);have M:=ny (L.map ky);have Z:ky b∈gf (L.map ky):=R.mem_iff.mpr (List.mem_map_of_mem hb);cases hs:gf (L.map ky) with
 |nil=>rw[hs]at Z;cases Z
 |cons h t =>
  rw[hs]at Z R M;obtain⟨x,F,rfl⟩:=An.mp (R.mem_iff.mp AT);have Y:fw (ky x) (ky b)=false:=I x F;have U:fw (ky b) (ky x)=false:=by
   rcases AJ.mp Z with z|z
   ·rw[z];exact Wd _
   ·exact (A3.mp M).1 _ z
  exact⟨t,by rw[Zb _ _ Y U]⟩
def Jh:∀l:EK PV,Zv l l=l.map fun p=>PV.tup [p,p]|[]=>rfl|p::l=>by rw[Zv,Jh l];rfl
def YN{a:Ad}{st:qC}{n:Nat}{i:Int}:qv (n+1) a [.int i,.int i] st= .ok (.bl true) st:=by
 refine Qu (N:=2) (B:=wC a (qv n a)) rfl ?_;unfold wC;refine qk (wO (QQ (qO (l:=[.int i,.tup [.ty "tuple",.ty "list"]]) rfl rfl)) rfl) (Qm ?_);unfold ZN;rw[qV (p:=.int i) (q:=.int i) (s1:=st) (s2:=st) (R:=.ok (.bl true) st) rfl rfl (by rw[jP,Aj])];rfl
def Dy{a:Ad}{st:qC}{n:Nat}:qv (n+1) a [.non,.non] st= .ok (.bl true) st:=by refine Qu (N:=2) (B:=wC a (qv n a)) rfl ?_;unfold wC;refine qk (wO (QQ (qO (l:=[.non,.tup [.ty "tuple",.ty "list"]]) rfl rfl)) rfl) (Qm ?_);rfl
def jZ{a:Ad}{st:qC}{n:Nat}{q:PV}{l:EK PV}(Z:q= .tup l∨q= .lst l)(h:l.length≤1000)(hs:∀p∈l,qv n a [p,p] st= .ok (.bl true) st):qv (n+1) a [q,q] st= .ok (.bl true) st:=by
 refine Qu (N:=2) (B:=wC a (qv n a)) rfl ?_;unfold wC;have Y:∀r:qz,r=QC 2 [q,q]->WN st q=some l->ZN (qK gEq (qI Wp (qA (qB 0) qD)) (qI Wp (qA (qB 1) qD))) (qI Z2 (qA (eM (qr [] 2 (jC (qA (qB 0) (qA (qB 1) qD))) (wN 2 (qW (qw 0) (qW (qw 1) wS))) [] [] (qI (qv n a) (qA (qB 0) (qA (qB 1) qD))))) qD)) r st= .ok (.bl true) st:=fun r M I=>by
  subst M;unfold ZN;rw[qV (p:=.int (l.length:Int)) (q:=.int (l.length:Int)) (s1:=st) (s2:=st) (R:=.ok (.bl true) st) (qO (l:=[q]) rfl (Zi (l:=l) I rfl)) (qO (l:=[q]) rfl (Zi (l:=l) I rfl)) (by rw[jP,Aj])];show qI Z2 _ _ _=_;refine qO (l:=[.lst ((l.map fun p=>PV.tup [p,p]).map fun p=>.bl ((fun _=>true) p))]) (qL (WG (wI (w:=⟨l.map fun p=>PV.tup [p,p],fun s=>WN s q=some l∧WN s q=some l⟩) (F:=fun _=>.bl true) (by
   rw[←Jh];rcases Z with rfl|rfl <;> rfl) ⟨I,I⟩ (by rw[AG];exact AW h (by decide)) fun p L=>?_)) qY) ?_
  ·obtain⟨i,hi,rfl⟩:=An.mp L;exact⟨[some i,some i],rfl,qO (l:=[i,i]) rfl (hs i hi)⟩
  ·rw[jd];congr 2;rw[A0];intro p _;rfl
 rcases Z with rfl|rfl
 ·exact Q8 (wQ (QQ (qO (l:=[.tup l,.tup [.ty "tuple",.ty "list"]]) rfl rfl)) (qk (wO (WT (WL (qV (qO (l:=[.tup l,.ty "tuple"]) rfl rfl) (qO (l:=[.tup l,.ty "tuple"]) rfl rfl) rfl)) (WL (qV (qO (l:=[.tup l,.ty "list"]) rfl rfl) (qO (l:=[.tup l,.ty "list"]) rfl rfl) rfl))) rfl) (Qm (Y _ rfl rfl))))
 ·exact Q8 (wQ (QQ (qO (l:=[.lst l,.tup [.ty "tuple",.ty "list"]]) rfl rfl)) (qk (wO (WT (WL (qV (qO (l:=[.lst l,.ty "tuple"]) rfl rfl) (qO (l:=[.lst l,.ty "tuple"]) rfl rfl) rfl)) (WL (qV (qO (l:=[.lst l,.ty "list"]) rfl rfl) (qO (l:=[.lst l,.ty "list"]) rfl rfl) rfl))) rfl) (Qm (Y _ rfl rfl))))
def sN{a:Ad}{st:qC}{n:Nat}{b:Ln}(h:∀p,b=some p->p.2.length≤300):qv (n+3) a [lnP b,lnP b] st= .ok (.bl true) st:=by
 cases b with
 |none=>exact Dy
 |some p =>
  refine jZ (l:=[.int p.1,.tup (p.2.map PV.int)]) (.inl rfl) (by show 2≤1000;decide) fun q Z=>?_;rcases AJ.mp Z with z|z
  ·rw[z];exact YN
  ·rw[AX.mp z];refine jZ (l:=p.2.map PV.int) (.inl rfl) (by rw[AG];exact AW (h p rfl) (by decide)) fun q Z=>?_;obtain⟨i,_,rfl⟩:=An.mp Z;exact YN
def vZ{b:Ln}{st:qC}:gNe (lnP b) (lnP b) st= .ok (.bl false) st:=by
 cases b with
 |none=>rfl
 |some p =>
  have Y:nr (qT p)=true:=by
   have:=zz [p]
   rw[AU,gt]at this;exact (Ar _ _ ▸ this).1
  have q:eY (qT p) (qT p)=true:=by show fE [.int p.1,.tup (p.2.map PV.int)] [.int p.1,.tup (p.2.map PV.int)]=true;rw[fE,fE,ya,show eY (.int p.1) (.int p.1)=(p.1==p.1) from rfl,Aj,Af rfl];rfl
  show gNe (qT p) (qT p) st=_;unfold gNe;rw[show res st (qT p)=qT p from rfl,AC (by unfold ie;rw[Y,yi];rfl),q];rfl
def JE{tbl:EK (EN×(EK PV->qC->Rs PV))}{q:FE}{t:FA}{r:qz}{st s1 s2:qC}{x:EN}{g:EK PV->qC->Rs PV}{l:EK PV}{R:Rs PV}(h:q r st= .ok (.fn x) s1)(hl:tbl.lookup x=some g)(U:t r s1= .ok l s2)(F:g l s2=R):YF tbl q t r st=R:=by unfold YF;rw[h];show (match tbl.lookup x with|some g=>(t r s1).bind g|none=>.no)=_;rw[hl,U];exact F
def p5(a:Ad):(tbl a).lookup a.line_ways=some (we a):=by unfold tbl;rw[At,Aj]
def z0{a:Ad}(hd:e9 a):(tbl a).lookup a.cheapest_line=some (Qd a):=by unfold tbl;rw[At,show (a.cheapest_line==a.line_ways)=false from AI.mpr (Ne.symm hd.2),At,Aj]
def iG(a:Ad):FE:=YF (tbl a) (qK eL (eM (Qx (qA (vC (.fn a.line_ways)) (qA (vC (.fn a.cheapest_line)) qD)))) (qB 0)) (qA (qB 1) (qA (qB 2) qD))
def on{a:Ad}{f L:PV}{st:qC}{R:Rs PV}(e:we a [f,L] st=R):iG a (QC 4 [.int 0,f,L]) st=R:=JE (x:=a.line_ways) (l:=[f,L]) rfl (p5 a) rfl e
def mS{a:Ad}(hd:e9 a){f L:PV}{st:qC}{R:Rs PV}(e:Qd a [f,L] st=R):iG a (QC 4 [.int 1,f,L]) st=R:=JE (x:=a.cheapest_line) (l:=[f,L]) rfl (z0 hd) rfl e
def mA{a:Ad}{w f L z:PV}{st s1:qC}(e:iG a (QC 4 [w,f,L]) st= .ok z s1):qd a [w,f,L] st= .ok z s1:=by refine Qu rfl ?_;unfold Wb iU;unfold iG at e;rw[Qm e]
def mR{a:Ad}(hd:e9 a){w:Int}(M:w=0∨w=1){f L z:PV}{st:qC}{x:gG}(e:wE a [f,L] st= .ex x st)(R:x.cls∈Qb a)(h:WZ a [.exc x.cls x.fs] st= .ok z st):qd a [.int w,f,L] st= .ok z st:=by
 have U:we a [f,L] st= .ex x st:=by refine zy rfl ?_;unfold Wn;exact YT (Zz (jT (l:=[f,L]) rfl e))
 have Z:Qd a [f,L] st= .ex x st:=by refine zy rfl ?_;unfold wY;exact YT (Zz (jT (l:=[f,L]) rfl e))
 have q:iG a (QC 4 [.int w,f,L]) st= .ex x st:=by
  rcases M with rfl|rfl
  ·exact on U
  ·exact mS hd Z
 refine Qu rfl ?_;unfold Wb iU;unfold iG at q;rw[xX q];dsimp only;rw[AC R,Qm (p:=z) (s1:=st) (qO (l:=[.exc x.cls x.fs]) (s1:=st) rfl h)]
def kO{x:Str}{st:qC}:gNe (.str x) (.str x) st= .ok (.bl false) st:=by show Rs.ok (PV.bl (!(x==x))) st=_;rw[Aj];rfl
def Df{i:Int}{st:qC}:gNe (.int i) (.int i) st= .ok (.bl false) st:=by show Rs.ok (PV.bl (!(i==i))) st=_;rw[Aj];rfl
def mu(a:Ad):FS:=(We (zY (qA (vC (.int 2)) qD)) (Qf 10) (qS (Qs (zN (eU (qK gNe (qI (qd a) (qA (qB 10) (qA (qB 8) (qA (qB 4) qD)))) (vC (.str "! sorts")))) (eU (qK gNe (qI (qd a) (qA (qB 10) (qA (qB 8) (qA (qB 9) qD)))) (vC (.str "! sorts"))))) (qt (vC (.bl false))) Qh) (Qs (eU (qK gNe (qI (qd a) (qA (qB 10) (qA (qB 3) (qA (qB 9) qD)))) (vC (.str "! number")))) (qt (vC (.bl false))) Qh)))
def nC(a:Ad):FS:=(qS (jz 8 9 (qA (qI (wp a) (qA (qB 2) (qA (qB 3) qD))) (qA (qI (wD a) (qA (qB 2) qD)) qD))) (mu a))
def mY(a:Ad):FS:=(qS (Qs (eU (qK gLt (qB 4) (vC (.int 9)))) (qS (qc 7 (Zs (qI (Qy 9 a) (qA (qB 3) (qA (qB 4) qD))))) (Qs (zN (eU (qK gNe (qI Wp (qA (qB 7) qD)) (qB 5))) (eU (qK gNe (qK eL (eM (ZM (qB 7) (eM (Qx (qA (vC .non) qD))))) (vC (.int 0))) (qB 6)))) (qt (vC (.bl false))) Qh)) Qh) (nC a))
def oo(a:Ad):FS:=(qS (Qs (zB (wn (qI (qv 4 a) (qA (eM (qr [3,4] 1 (zY (qA (vC (.int 2)) qD)) (qw 2) [] [] (qI (qd a) (qA (qB 2) (qA (qB 0) (qA (qB 1) qD)))))) (qA (eM (Qx (qA (qB 5) (qA (qB 6) qD)))) qD))))) (qt (vC (.bl false))) Qh) (mY a))
def JK(a:Ad):FS:=(qS (qc 2 (qI (ZD a) (qA (qB 0) (qA (qB 1) qD)))) (qS (qc 3 (qI (Wf a) (qA (qB 2) qD))) (qS (qc 4 (qI (qg a) (qA (qB 2) (qA (qK eL (eM (Qx (qA (vC (.int 9)) (qA (vC (.int 40)) (qA (vC (.int 201)) qD))))) (qI (qg a) (qA (qB 2) (qA (vC (.int 3)) qD)))) qD)))) (qS (Yr (qK eL (qI (Wi a) (qA (qB 3) (qA (qB 4) qD))) (JW (vC (.int 1)))) (wN 2 (qW (Qf 5) (qW (Qf 6) wS)))) (oo a)))))
def vT(a:Ad):FS:=(qS (Qs (zN (eU (qK gNe (qI (qd a) (qA (qB 10) (qA (qB 8) (qA (qB 4) qD)))) (vC (.str "! sorts")))) (eU (qK gNe (qI (qd a) (qA (qB 10) (qA (qB 8) (qA (qB 9) qD)))) (vC (.str "! sorts"))))) (qt (vC (.bl false))) Qh) (Qs (eU (qK gNe (qI (qd a) (qA (qB 10) (qA (qB 3) (qA (qB 9) qD)))) (vC (.str "! number")))) (qt (vC (.bl false))) Qh))
def oS{a:Ad}(hd:e9 a){S:EK (Int×Int)}(R:fU S){v u c:PV}(U:Bad v)(F:Wl u=true)(Z:zI 0 200 u=false){st:qC}{w:Int}(M:w=0∨w=1){x0 x1 x2 x5 x6 x7:EO PV}:vT a [x0,x1,x2,some (sP S),some c,x5,x6,x7,some v,some u,some (.int w)] st= .nx [x0,x1,x2,some (sP S),some c,x5,x6,x7,some v,some u,some (.int w)] st:=by
 have hs:∀q,qd a [.int w,v,q] st= .ok (.str "! sorts") st:=fun q=>mR hd M (rJ (U.no a _)) (by unfold Qb;simp) (t7 hd);have Y:qd a [.int w,sP S,u] st= .ok (.str "! number") st:=mR hd M (xc R F Z) (by unfold Qb;simp) (j0 hd);exact qk (wO (WT (WL (qV (qO (l:=[.int w,v,c]) rfl (hs c)) rfl kO)) (WL (qV (qO (l:=[.int w,v,u]) rfl (hs u)) rfl kO))) rfl) (wO (WL (qV (qO (l:=[.int w,sP S,u]) rfl Y) rfl kO)) rfl)
def two:(yN 2).map PV.int=[.int 0,.int 1]:=rfl
def sg{a:Ad}(hd:e9 a){S:EK (Int×Int)}(R:fU S){v u c:PV}(U:Bad v)(F:Wl u=true)(Z:zI 0 200 u=false){st:qC}{x0 x1 x2 x5 x6 x7 Es:EO PV}:∃Y,mu a [x0,x1,x2,some (sP S),some c,x5,x6,x7,some v,some u,Es] st= .nx [x0,x1,x2,some (sP S),some c,x5,x6,x7,some v,some u,Y] st:=by
 refine⟨some (.int 1),?_⟩;refine yv (w:=⟨[.int 0,.int 1],fun _=>True⟩) (by rw[←two];exact ki (L:=2) (by decide) (by decide) rfl) ?_;exact zH trivial rfl (oS hd R U F Z (.inl rfl)) (zH trivial rfl (oS hd R U F Z (.inr rfl)) (wZ trivial))
def nj{a:Ad}(hd:e9 a){S:EK (Int×Int)}(R:fU S){c:PV}{st j:qC}{z:Int}{x0 x1 x5 x6 x7 x8 x9 Es:EO PV}:∃q I Y Ef,nC a [x0,x1,some (.ref st.length),some (sP S),some c,x5,x6,x7,x8,x9,Es] (st ++ .l [.int z]::j)= .nx [x0,x1,some (.ref st.length),some (sP S),some c,x5,x6,x7,q,I,Y] Ef:=by obtain⟨v,y,g,U,F⟩:=JD (a:=a) R (st:=st) (j:=j) (x:=z);obtain⟨u,M,Z,L⟩:=JP (a:=a) (st:=st) (j:=j++g) (x:=y);obtain⟨Y,e⟩:=sg (a:=a) hd R (c:=c) U M Z (st:=st ++ .l [.int (y/8)]::(j++g)) (x0:=x0) (x1:=x1) (x2:=some (.ref st.length)) (x5:=x5) (x6:=x6) (x7:=x7) (Es:=Es);exact⟨some v,some u,Y,_,qk (tO (qL (qO (l:=[.ref st.length,sP S]) rfl F) (qL (qO (l:=[.ref st.length]) rfl L) qY))) e⟩
def vy{a:Ad}(hd:e9 a){S:EK (Int×Int)}(R:fU S){c:Nat}{st j:qC}{z:Int}{x0 x1 x7 x8 x9 Es:EO PV}:∃y7 q F Y Ef,mY a [x0,x1,some (.ref st.length),some (sP S),some (.int (c:Int)),some (.int (fD S c)),some (lnP (fK S c)),x7,x8,x9,Es] (st ++ .l [.int z]::j)= .nx [x0,x1,some (.ref st.length),some (sP S),some (.int (c:Int)),some (.int (fD S c)),some (lnP (fK S c)),y7,q,F,Y] Ef:=by
 have I:eU (qK gLt (qB 4) (vC (.int 9))) [x0,x1,some (.ref st.length),some (sP S),some (.int (c:Int)),some (.int (fD S c)),some (lnP (fK S c)),x7,x8,x9,Es] (st ++ .l [.int z]::j)= .ok (decide ((c:Int)<9)) (st ++ .l [.int z]::j):=WL (qV rfl rfl rfl);by_cases h9:(c:Int)<9
 ·rw[Af h9]at I;have L:c≤8:=by omega
  have el:=jc R.hs 9 c (by omega);have ew:=kX R 9 c (by omega) L;have e3:hW.getD c 0≤108:=by
   have:∀m<9,hW.getD m 0≤108:=by decide
   exact this c (by omega)
  have Z:Zs (qI (Qy 9 a) (qA (qB 3) (qA (qB 4) qD))) [x0,x1,some (.ref st.length),some (sP S),some (.int (c:Int)),some (.int (fD S c)),some (lnP (fK S c)),x7,x8,x9,Es] (st ++ .l [.int z]::j)= .ok (.lst ((gf ((wk S 9 c).map ky)).map gB)) (st ++ .l [.int z]::j) :=
   uF (by omega) (qO (l:=[sP S,.int (c:Int)]) rfl (mE R 9 c (by omega) L (by decide)))
  have U:(((gf ((wk S 9 c).map ky)).map gB).length:Int)=fD S c:=by rw[AG,(Zd _).length_eq,AG];exact el
  have M:L2.atI ((gf ((wk S 9 c).map ky)).map gB++[PV.non]) 0=some (lnP (fK S c)):=by
   have hm:=ni R.hs 9 c (by omega);cases hl:fK S c with|none=>have e0:gf (([]:EK (Int×EK Int)).map ky)=[]:=List.Perm.eq_nil (Zd _);rw[hm.1 hl,e0];exact Z5 (i:=0) rfl|some b=>obtain⟨h1,h2⟩:=hm.2 b hl;obtain⟨t,ht⟩:=pJ h1 h2;rw[ht];exact Z5 (i:=0) rfl
  obtain⟨q,F,Y,Ef,e⟩:=nj (a:=a) hd R (c:=.int (c:Int)) (st:=st) (j:=j) (z:=z) (x0:=x0) (x1:=x1) (x5:=some (.int (fD S c))) (x6:=some (lnP (fK S c))) (x7:=some (.lst ((gf ((wk S 9 c).map ky)).map gB))) (x8:=x8) (x9:=x9) (Es:=Es);refine⟨_,q,F,Y,Ef,qk (wQ I (qk (Q1 Z) (wO (WT (WL (qV (qO (l:=[.lst ((gf ((wk S 9 c).map ky)).map gB)]) rfl (Zi rfl U)) rfl Df)) (WL (qV (qV (WG (JF rfl (WG (zi (qL rfl qY) (sz rfl))) rfl rfl ?_)) rfl (YZ rfl M)) rfl vZ))) rfl))) e⟩
  have:((gf ((wk S 9 c).map ky)).map gB).length≤108:=by omega
  exact km (by show _+1≤100000;omega)
 ·rw[Ak h9]at I;obtain⟨q,F,Y,Ef,e⟩:=nj (a:=a) hd R (c:=.int (c:Int)) (st:=st) (j:=j) (z:=z) (x0:=x0) (x1:=x1) (x5:=some (.int (fD S c))) (x6:=some (lnP (fK S c))) (x7:=x7) (x8:=x8) (x9:=x9) (Es:=Es);exact⟨x7,q,F,Y,Ef,qk (wO I rfl) e⟩
def xG{a:Ad}(hd:e9 a){S:EK (Int×Int)}(R:fU S){c:Nat}(hc:c≤200){st j:qC}{z:Int}{x0 x1 x7 x8 x9 Es:EO PV}:∃F I U Y Ef,oo a [x0,x1,some (.ref st.length),some (sP S),some (.int (c:Int)),some (.int (fD S c)),some (lnP (fK S c)),x7,x8,x9,Es] (st ++ .l [.int z]::j)= .nx [x0,x1,some (.ref st.length),some (sP S),some (.int (c:Int)),some (.int (fD S c)),some (lnP (fK S c)),F,I,U,Y] Ef:=by
 obtain⟨F,I,U,Y,Ef,e⟩:=vy (a:=a) hd R (c:=c) (st:=st) (j:=j++[.l ((fN S c).map PV.int)]++[.l ((qR S c).map lnP)]) (z:=z) (x0:=x0) (x1:=x1) (x7:=x7) (x8:=x8) (x9:=x9) (Es:=Es);have hS:fX (gu (st ++ .l [.int z]::j) S c) S c=st ++ .l [.int z]::(j++[.l ((fN S c).map PV.int)]++[.l ((qR S c).map lnP)]):=by unfold fX gu;simp
 have M:eM (qr [3,4] 1 (zY (qA (vC (.int 2)) qD)) (qw 2) [] [] (qI (qd a) (qA (qB 2) (qA (qB 0) (qA (qB 1) qD))))) [x0,x1,some (.ref st.length),some (sP S),some (.int (c:Int)),some (.int (fD S c)),some (lnP (fK S c)),x7,x8,x9,Es] (st ++ .l [.int z]::j)= .ok (.lst [.int (fD S c),lnP (fK S c)]) (fX (gu (st ++ .l [.int z]::j) S c) S c) :=
  WG (lN (w:=⟨[.int 0,.int 1],fun _=>True⟩) (l:=[.int (fD S c)]++([lnP (fK S c)]++[])) (by rw[←two];exact ki (L:=2) (by decide) (by decide) rfl)
   (yU trivial (jL (r':=[some (sP S),some (.int (c:Int)),some (.int 0)]) rfl (qO (l:=[.int 0,sP S,.int (c:Int)]) rfl (mA (on (uQ R hc)))))
    (yU trivial (jL (r':=[some (sP S),some (.int (c:Int)),some (.int 1)]) rfl (qO (l:=[.int 1,sP S,.int (c:Int)]) rfl (mA (mS hd (p8 R hc))))) (zh trivial))) (sz rfl))
 have Z:∀p,fK S c=some p->p.2.length≤300:=fun p hp=>AW (WF R.hs c c p hp) (by omega);refine⟨F,I,U,Y,Ef,qk (wO (w_not (b:=true) (QQ (qO (l:=[.lst [.int (fD S c),lnP (fK S c)],.lst [.int (fD S c),lnP (fK S c)]]) (qL M (qL (WG (zi (qL rfl (qL rfl qY)) (sz rfl))) qY)) (jZ (.inr rfl) (by show 2≤1000;decide) fun p hp=>?_)))) rfl) (by rw[hS];exact e)⟩;rcases AJ.mp hp with q|q
 ·rw[q];exact YN
 ·rw[AX.mp q];exact sN Z
def pM{a:Ad}(hd:e9 a){ns:EK Int}{k:Int}{st:qC}{x2 x3 x4 x5 x6 x7 x8 x9 Es:EO PV}(h0:0≤k):∃y2 y3 y4 y5 y6 U M y9 Y Ef,JK a [some (.lst (ns.map PV.int)),some (.int k),x2,x3,x4,x5,x6,x7,x8,x9,Es] st= .nx [some (.lst (ns.map PV.int)),some (.int k),y2,y3,y4,y5,y6,U,M,y9,Y] Ef:=by
 obtain⟨x,ex⟩:=sW (a:=a) (ns:=ns) (k:=k) (st:=st) h0;obtain⟨S,y,R,es⟩:=xH (a:=a) (st:=st) (j:=[]) (x:=x);have t1:=wm (a:=a) (st:=st) (j:=[]) (x:=y) (m:=3) (by decide) (by decide);have hm:∃m:Int,(m=9∨m=40∨m=201)∧eL (.lst [.int 9,.int 40,.int 201]) (.int (y%3)) (st ++ .l [.int (y/3)]::[])= .ok (.int m) (st ++ .l [.int (y/3)]::[]):=by
  have:y%3=0∨y%3=1∨y%3=2:=by omega
  rcases this with h|h|h <;> rw[h]
  ·exact⟨9,.inl rfl,rfl⟩
  ·exact⟨40,.inr (.inl rfl),rfl⟩
  ·exact⟨201,.inr (.inr rfl),rfl⟩
 obtain⟨m,a0,a1⟩:=hm;have L:0<m∧m≤201:=by rcases a0 with rfl|rfl|rfl <;> decide
 have t2:=wm (a:=a) (st:=st) (j:=[]) (x:=y/3) (m:=m) L.1 (by omega);have hc:=jk (x:=y/3) (m:=m) L.1;generalize a7:y/3%m=cc at hc t2;obtain⟨c,rfl⟩:∃c:Nat,cc=(c:Int):=⟨cc.toNat,by omega⟩;have Z:c≤200:=by omega
 generalize hz:y/3/m=z at t2;obtain⟨I,hw,hv,el⟩:=rK (a:=a) (st:=st++SO.l [.int z]::[]) R.hs Z;have a2:I.length=c+1:=by have:=A5 List.length hw;rw[AG,QR]at this;exact this
 have F:eL (.ref (st++SO.l [.int z]::[]).length) (.int (-1)) (fH (st++SO.l [.int z]::[]) I)= .ok (gZ (I.getD c (0,none))) (fH (st++SO.l [.int z]::[]) I) :=
  YZ (Y3 (gi rfl)) (jU (n:=c) (by rw[AG,a2]) (by rw[Am,AH,AE (show c<I.length by omega)];rfl))
 have a3:(I.getD c (0,none)).2=fK S c:=by rw[l8 hw (AN _)];rfl
 have a4:(I.getD c (0,none)).1=fD S c:=by
  unfold fD;rw[←hv,AH,AH,Am,AE (show c<I.length by omega)];rfl
 have a5:I.getD c (0,none)=(fD S c,fK S c):=Prod.ext a4 a3;rw[a5]at F;have a6:fH (st++SO.l [.int z]::[]) I=st++SO.l [.int z]::[.l (I.map gZ)]:=by unfold fH;simp
 obtain⟨U,M,y9,Y,Ef,e⟩:=xG (a:=a) hd R Z (st:=st) (j:=[.l (I.map gZ)]) (z:=z) (x0:=some (.lst (ns.map PV.int))) (x1:=some (.int k)) (x7:=x7) (x8:=x8) (x9:=x9) (Es:=Es);refine⟨some (.ref st.length),some (sP S),some (.int (c:Int)),some (.int (fD S c)),some (lnP (fK S c)),U,M,y9,Y,Ef,?_⟩;refine qk (Q1 (p:=.ref st.length) (s1:=st++[.l [.int x]]) (qO (qL rfl (qL rfl qY)) ex)) ?_;refine qk (Q1 (p:=sP S) (s1:=st ++ .l [.int y]::[]) (qO (l:=[.ref st.length]) rfl es)) ?_;refine qk (Q1 (p:=.int (c:Int)) (s1:=st ++ .l [.int z]::[]) (qO (l:=[.ref st.length,.int m]) (qL rfl (qL (qV (p:=.lst [.int 9,.int 40,.int 201]) (q:=.int (y%3)) rfl (qO (l:=[.ref st.length,.int 3]) rfl t1) a1) qY)) t2)) ?_;refine qk (mz (p:=gZ (fD S c,fK S c)) (qV (qO (l:=[sP S,.int (c:Int)]) rfl el) rfl F) rfl) ?_;rw[a6];exact e
def JC{a:Ad}(hd:e9 a){ns:EK Int}:∀(ks:EK Int) (x1 x2 x3 x4 x5 x6 x7 x8 x9 Es:EO PV) (st:qC),(∀k∈ks,0≤k)->∃e Ef,Q3 (fun _=>True) (Qf 1) (JK a) (ks.map PV.int) [some (.lst (ns.map PV.int)),x1,x2,x3,x4,x5,x6,x7,x8,x9,Es] st= .nx e Ef|[],x1,x2,x3,x4,x5,x6,x7,x8,x9,Es,st,_=>⟨_,st,wZ trivial⟩|k::ks,x1,x2,x3,x4,x5,x6,x7,x8,x9,Es,st,h=>by obtain⟨U,L,Z,M,R,I,y8,y9,Y,F,e⟩:=pM (a:=a) hd (ns:=ns) (k:=k) (st:=st) (x2:=x2) (x3:=x3) (x4:=x4) (x5:=x5) (x6:=x6) (x7:=x7) (x8:=x8) (x9:=x9) (Es:=Es) (h k AT);obtain⟨e',Ef,e2⟩:=JC hd (ns:=ns) ks (some (.int k)) U L Z M R I y8 y9 Y F fun q hq=>h q (AO _ hq);exact⟨e',Ef,zH trivial rfl e e2⟩
def law_true:∀(a:Ad) (ns:EK Int),e9 a->ns.length≤63->(∀k∈ns,Builtin.Int.intBits k≤2 ^ 20)->∃st,JJ a [.lst (ns.map PV.int)] []= .ok (.bl true) st:=by
 intro a ns hd hl hb;obtain⟨n,q,F,Y⟩:∃n:Int,0≤n∧n≤6∧qI qCP (qA (vC (.int 1)) (qA (qI qDV (qA (qI Wp (qA (qB 0) qD)) (qA (vC (.int 6)) qD))) qD)) (QC 11 [.lst (ns.map PV.int)]) []= .ok (.int n) []:=by
  refine⟨if (if (6:Int)<ns.length then 6 else (ns.length:Int))>1 then (if (6:Int)<ns.length then 6 else (ns.length:Int)) else 1,?_,?_,?_⟩;split <;> (try split) <;> omega;split <;> (try split) <;> omega;exact qO (qL rfl (qL (qO (l:=[.int ns.length,.int 6]) (qL (qO (qL rfl qY) (Zi (l:=ns.map PV.int) rfl (by rw[AG]))) (qL rfl qY)) rfl) qY)) rfl
 obtain⟨e,Z,h⟩:=JC hd (yN n) none none none none none none none none none none [] fun k R=>by have:=gc.mp R;omega
 exact⟨Z,Qu rfl (qk (yv (ki q (by omega) (qL Y qY)) h) (Qm rfl))⟩
end K86
end
section

end
noncomputable section
namespace K86
open PySem PySem.Spec PyProof.Rows L2 EX EV
def rO{a:Ad}{x:EN}{c:EL}{b:Bool}(h:kit a (.ref x) c=some b):x∈Qb a:=by
 cases c with
 |ref d =>
  have h:(if x∈Qb a∧d∈a.kinds then some (x==d) else none)=some b:=h;split at h;rename_i M;exact M.1;cases h
 |type T =>
  have h:(if x∈Qb a∧T = "ValueError" then some true else none)=some b:=h;split at h;rename_i M;exact M.1;cases h
 |_=>cases h
def tR{K:EQ}:∀p∈gk,W.kitOne K (.type p.1.1) (.type p.1.2)=some p.2:=by intro p L;unfold gk at L;simp only[AJ,Ae,BX]at L;rcases L with rfl|rfl|rfl|rfl|rfl|rfl|rfl|rfl|rfl|rfl|rfl|rfl|rfl|rfl|rfl|rfl|rfl|rfl|rfl|rfl|rfl|rfl|rfl|rfl|rfl|rfl|rfl|rfl <;> rfl
def J5{s T:String}{b:Bool}:∀{l:EK ((String×String)×Bool)},l.lookup (s,T)=some b->((s,T),b)∈l
 |[],h=>by cases h
 |(q,k)::l,h=>by
  rw[At]at h;split at h;rename_i e;cases h;rw[eq_of_beq e];exact AT;exact AO _ (J5 h)
def vc{K:EQ}{s T:String}{b:Bool}(h:mq s T=some b):W.kitOne K (.type s) (.type T)=some b:=tR _ (J5 h)
def QG{a:Ad}(h:e9 a):a.Z6≠a.Z1∧a.Z6≠a.Z2∧a.Z6≠a.Z3∧a.Z6≠a.Z4∧a.Z6≠a.Z5∧a.Z6≠a.Z7∧a.Z6≠a.Z8∧a.Z6≠a.Z9∧a.Z6≠a.Z10∧a.Z6≠a.Z11:=by have nd:=h.nd;unfold Ad.kinds at nd;simp only[Bm,AJ,Ae,not_or,BX]at nd;refine⟨?_,?_,?_,?_,?_,?_,?_,?_,?_,?_⟩ <;> (intro z;simp only[z,not_true_eq_false,false_and,and_false]at nd)
def qx{a:Ad}(h:e9 a):a.Z2≠a.Z1∧a.Z2≠a.Z3∧a.Z2≠a.Z4∧a.Z2≠a.Z5∧a.Z2≠a.Z6∧a.Z2≠a.Z7∧a.Z2≠a.Z8∧a.Z2≠a.Z9∧a.Z2≠a.Z10∧a.Z2≠a.Z11:=by have nd:=h.nd;unfold Ad.kinds at nd;simp only[Bm,AJ,Ae,not_or,BX]at nd;refine⟨?_,?_,?_,?_,?_,?_,?_,?_,?_,?_⟩ <;> (intro z;simp only[z,not_true_eq_false,false_and,and_false]at nd)
def jt(e:DictEntry):Bool:=match e.key with| .str _ _=>true|_=>false
def yS{K:EQ}{N:EN}{c:EL}{dd:EO EN}{es:EZ DictEntry}{ep:Nat}{sl:EZ (EO EL)}(h:K.lookup N=some ⟨c,dd,.dict es ep,sl⟩)(hl:es.toList.all jt=true):W.nsOkIn K N=true:=by unfold W.nsOkIn;rw[show List.lookup N K=_ from h];show (es.all fun e=>match e.key with | .str _ _=>true|_=>false)=true;rw[←Array.all_toList];exact hl
def sL{K:EQ}{B:EN}{Z:ClassData}{Y:EL}{q:EO EN}{U:EZ (EO EL)}(M:K.lookup B=some ⟨Y,q,.cls Z,U⟩)(F:W.nsOkIn K Z.ns=true)(L:W.nsIn K Z.ns "__init__" = some none):W.tailIn K gD (.ref B::gD)=true:=by rw[W.tailIn.eq_2,show List.lookup B K=_ from M];dsimp only;rw[F,L];rfl
def mv{K:EQ}{C B:EN}{dd:EO EN}{cd Z:ClassData}{sl:EZ (EO EL)}{k0 k1 k2 k3 k5:EO EL}{Y:EL}{dB:EO EN}{U:EZ (EO EL)}(hC:K.lookup C=some ⟨.type "type",dd,.cls cd,sl⟩)(M:cd.mro= .ref C :: .ref B::gD)
  (hs:sl.toList=[k0,k1,k2,k3,some (.builtin "ValueError.__new__"),k5]) (R:cd.hasDel=false) (hn:W.nsOkIn K cd.ns=true) (hi:W.nsIn K cd.ns "__init__" = some none) (hB:K.lookup B=some ⟨Y,dB,.cls Z,U⟩) (F:W.nsOkIn K Z.ns=true) (L:W.nsIn K Z.ns "__init__" = some none) :
  W.excIn K C gD "ValueError.__new__" = true:=by have t:=sL hB F L;obtain⟨nm,bs,q,ns,qn,hd,sn,sb,ab,co,I⟩:=cd;obtain⟨sl⟩:=sl;have M:q=_:=M;have hs:sl=_:=hs;have R:I=false:=R;subst M;subst hs;subst R;unfold W.excIn;rw[show List.lookup C K=_ from hC];show (C==C&&("ValueError.__new__" == "ValueError.__new__") && !false&&W.tailIn K gD (.ref B::gD)&&W.nsOkIn K ns&&(W.nsIn K ns "__init__" == some none))=true;rw[t,show W.nsOkIn K ns=true from hn,show W.nsIn K ns "__init__" = some none from hi];simp
def vD{P:ER}{w:EU}{K:EQ}{mg:Str->EO EL}{base:Heap}{CX:CXT}{k:Nat}{f:EN}{fd:FuncData}{ps:EK Str}{sp I:Sp}(F:fM P w K mg base CX k f fd ps sp)(h:∀vs H Q E,I vs H Q E->sp vs H Q E):fM P w K mg base CX k f fd ps I :=
 ⟨fun vs H Q E q=>F.len vs H Q E (h vs H Q E q),fun A outer s H args us vs Q E M e b v q=>F.run A outer s H args us vs Q E M e b v (h vs H Q E q)⟩
def kF(K:EQ):Sp:=fun vs H Q E=>∀a,e9 a->hX K 1 (JJ a) vs H Q E
def all_mk{l:W.OpenLaw}{w:EU}{K:EQ}{h:Heap}{mg:Str->EO EL}{fa:EN}(X:K.In h)(G:h.Ns mainGlobals mg)(de:mg "law" = some (.ref fa))
  {U Z F a0 a1 a2 I a3 a4 a5 L R aG aH aI aJ aK aL aM aN aO aP ag ah ai aj ak al am ao ap aq ar as aa:EN}
  {a6:Tok}
  {ab:Tok}
  {a7:Tok}
  {ac:Tok}
  {df:EO EN} {c3:ClassData} {dg:EZ (EO EL)}
  {NB:EN} {dh:EL} {di:EO EN} {c4:EZ DictEntry} {dj:Nat} {dk:EZ (EO EL)}
  {ba:EO EN} {M:ClassData} {ax:EZ (EO EL)} {bb bc bd be bf:EO EL} {au:EN} {bA:EL} {bg:EO EN} {ay:EZ DictEntry} {bh:Nat} {bi:EZ (EO EL)}
  {bj:EO EN} {Y:ClassData} {az:EZ (EO EL)} {bm bn bo bp bq:EO EL} {av:EN} {bC:EL} {br:EO EN} {aA:EZ DictEntry} {bt:Nat} {bu:EZ (EO EL)}
  (dm:W.nsIn K mainGlobals "is_whole" = some (some (.ref aG)))
  (dn:K.lookup aG=some ⟨oc0,od0,.func (W.fnOf "is_whole" "is_whole" (ql WA) (qi WA) (qJ WA) .none kV0 dc0 pm0 an0 cd0 ct0),sl0⟩)
  (dq:W.codeIn K cd0 "is_whole" = true)
  (dr:W.keepIn K (.ref aG)=true)
  (dt:W.nsIn K mainGlobals "is_whole_within" = some (some (.ref aH)))
  (du:K.lookup aH=some ⟨oc1,od1,.func (W.fnOf "is_whole_within" "is_whole_within" (ql QK) (qi QK) (qJ QK) .none kV1 dc1 pm1 an1 cd1 ct1),sl1⟩)
  (dv:W.codeIn K cd1 "is_whole_within" = true)
  (dw:W.keepIn K (.ref aH)=true)
  (dy:W.nsIn K mainGlobals "are_wholes" = some (some (.ref aI)))
  (dz:K.lookup aI=some ⟨oc2,od2,.func (W.fnOf "are_wholes" "are_wholes" (ql wJ) (qi wJ) (qJ wJ) .none kV2 dc2 pm2 an2 cd2 ct2),sl2⟩)
  (dA:W.codeIn K cd2 "are_wholes" = true)
  (dB:W.keepIn K (.ref aI)=true)
  (dC:W.nsIn K mainGlobals "is_rising" = some (some (.ref aJ)))
  (dD:K.lookup aJ=some ⟨oc3,od3,.func (W.fnOf "is_rising" "is_rising" (ql wj) (qi wj) (qJ wj) .none kV3 dc3 pm3 an3 cd3 ct3),sl3⟩)
  (dE:W.codeIn K cd3 "is_rising" = true)
  (dF:W.keepIn K (.ref aJ)=true)
  (dG:W.nsIn K mainGlobals "need_number" = some (some (.ref aK)))
  (dH:K.lookup aK=some ⟨oc4,od4,.func (W.fnOf "need_number" "need_number" (ql Ql) (qi Ql) (qJ Ql) .none kV4 dc4 pm4 an4 cd4 ct4),sl4⟩)
  (dI:W.codeIn K cd4 "need_number" = true)
  (dJ:W.keepIn K (.ref aK)=true)
  (dL:W.nsIn K mainGlobals "is_sort" = some (some (.ref aL)))
  (dM:K.lookup aL=some ⟨oc5,od5,.func (W.fnOf "is_sort" "is_sort" (ql WR) (qi WR) (qJ WR) .none kV5 dc5 pm5 an5 cd5 ct5),sl5⟩)
  (dN:W.codeIn K cd5 "is_sort" = true)
  (dO:W.keepIn K (.ref aL)=true)
  (dP:W.nsIn K mainGlobals "are_sorts" = some (some (.ref aM)))
  (dQ:K.lookup aM=some ⟨oc6,od6,.func (W.fnOf "are_sorts" "are_sorts" (ql Q7) (qi Q7) (qJ Q7) .none kV6 dc6 pm6 an6 cd6 ct6),sl6⟩)
  (dR:W.codeIn K cd6 "are_sorts" = true)
  (dS:W.keepIn K (.ref aM)=true)
  (dU:W.nsIn K mainGlobals "need_line" = some (some (.ref aN)))
  (dV:K.lookup aN=some ⟨oc7,od7,.func (W.fnOf "need_line" "need_line" (ql Q5) (qi Q5) (qJ Q5) .none kV7 dc7 pm7 an7 cd7 ct7),sl7⟩)
  (dW:W.codeIn K cd7 "need_line" = true)
  (dX:W.keepIn K (.ref aN)=true)
  (dY:W.nsIn K mainGlobals "line_ways" = some (some (.ref aO)))
  (dZ:K.lookup aO=some ⟨oc8,od8,.func (W.fnOf "line_ways" "line_ways" (ql Q9) (qi Q9) (qJ Q9) .none kV8 dc8 pm8 an8 cd8 ct8),sl8⟩)
  (e0:W.codeIn K cd8 "line_ways" = true)
  (e3:W.keepIn K (.ref aO)=true)
  (e4:W.nsIn K mainGlobals "cheapest_lines" = some (some (.ref aP)))
  (e5:K.lookup aP=some ⟨oc9,od9,.func (W.fnOf "cheapest_lines" "cheapest_lines" (ql QB) (qi QB) (qJ QB) .none kV9 dc9 pm9 an9 cd9 ct9),sl9⟩)
  (e6:W.codeIn K cd9 "cheapest_lines" = true)
  (e7:W.keepIn K (.ref aP)=true)
  (c5:W.nsIn K mainGlobals "cheapest_line" = some (some (.ref ag)))
  (c6:K.lookup ag=some ⟨oc10,od10,.func (W.fnOf "cheapest_line" "cheapest_line" (ql Qe) (qi Qe) (qJ Qe) .none kV10 dc10 pm10 an10 cd10 ct10),sl10⟩)
  (c7:W.codeIn K cd10 "cheapest_line" = true)
  (c8:W.keepIn K (.ref ag)=true)
  (c9:W.nsIn K mainGlobals "_law_cell" = some (some (.ref ah)))
  (ca:K.lookup ah=some ⟨oc11,od11,.func (W.fnOf "_law_cell" "_law_cell" (ql w6) (qi w6) (qJ w6) .none kV11 dc11 pm11 an11 cd11 ct11),sl11⟩)
  (cb:W.codeIn K cd11 "_law_cell" = true)
  (cc:W.keepIn K (.ref ah)=true)
  (ce:W.nsIn K mainGlobals "_law_box" = some (some (.ref ai)))
  (cf:K.lookup ai=some ⟨oc12,od12,.func (W.fnOf "_law_box" "_law_box" (ql WS) (qi WS) (qJ WS) .none kV12 dc12 pm12 an12 cd12 ct12),sl12⟩)
  (cg:W.codeIn K cd12 "_law_box" = true)
  (ch:W.keepIn K (.ref ai)=true)
  (ci:W.nsIn K mainGlobals "_law_take" = some (some (.ref aj)))
  (cj:K.lookup aj=some ⟨oc13,od13,.func (W.fnOf "_law_take" "_law_take" (ql w5) (qi w5) (qJ w5) .none kV13 dc13 pm13 an13 cd13 ct13),sl13⟩)
  (ck:W.codeIn K cd13 "_law_take" = true)
  (cl:W.keepIn K (.ref aj)=true)
  (cm:W.nsIn K mainGlobals "_law_kind" = some (some (.ref ak)))
  (cp:K.lookup ak=some ⟨oc14,od14,.func (W.fnOf "_law_kind" "_law_kind" (ql w8) (qi w8) (qJ w8) .none kV14 dc14 pm14 an14 cd14 ct14),sl14⟩)
  (cq:W.codeIn K cd14 "_law_kind" = true)
  (cr:W.keepIn K (.ref ak)=true)
  (cu:W.nsIn K mainGlobals "_law_same" = some (some (.ref al)))
  (cv:K.lookup al=some ⟨oc15,od15,.func (W.fnOf "_law_same" "_law_same" (ql wa) (qi wa) (qJ wa) .none kV15 dc15 pm15 an15 cd15 ct15),sl15⟩)
  (cw:W.codeIn K cd15 "_law_same" = true)
  (cx:W.keepIn K (.ref al)=true)
  (cy:W.nsIn K mainGlobals "_law_sorts" = some (some (.ref am)))
  (cz:K.lookup am=some ⟨oc16,od16,.func (W.fnOf "_law_sorts" "_law_sorts" (ql wA) (qi wA) (qJ wA) .none kV16 dc16 pm16 an16 cd16 ct16),sl16⟩)
  (cA:W.codeIn K cd16 "_law_sorts" = true)
  (cB:W.keepIn K (.ref am)=true)
  (cC:W.nsIn K mainGlobals "_law_no_sorts" = some (some (.ref ao)))
  (cD:K.lookup ao=some ⟨oc17,od17,.func (W.fnOf "_law_no_sorts" "_law_no_sorts" (ql QV) (qi QV) (qJ QV) .none kV17 dc17 pm17 an17 cd17 ct17),sl17⟩)
  (cE:W.codeIn K cd17 "_law_no_sorts" = true)
  (cF:W.keepIn K (.ref ao)=true)
  (cG:W.nsIn K mainGlobals "_law_no_cells" = some (some (.ref ap)))
  (cI:K.lookup ap=some ⟨oc18,od18,.func (W.fnOf "_law_no_cells" "_law_no_cells" (ql Qo) (qi Qo) (qJ Qo) .none kV18 dc18 pm18 an18 cd18 ct18),sl18⟩)
  (cJ:W.codeIn K cd18 "_law_no_cells" = true)
  (cK:W.keepIn K (.ref ap)=true)
  (cM:W.nsIn K mainGlobals "_law_least" = some (some (.ref aq)))
  (cN:K.lookup aq=some ⟨oc19,od19,.func (W.fnOf "_law_least" "_law_least" (ql Q4) (qi Q4) (qJ Q4) .none kV19 dc19 pm19 an19 cd19 ct19),sl19⟩)
  (cO:W.codeIn K cd19 "_law_least" = true)
  (cP:W.keepIn K (.ref aq)=true)
  (cQ:W.nsIn K mainGlobals "_law_all" = some (some (.ref ar)))
  (cR:K.lookup ar=some ⟨oc20,od20,.func (W.fnOf "_law_all" "_law_all" (ql wy) (qi wy) (qJ wy) .none kV20 dc20 pm20 an20 cd20 ct20),sl20⟩)
  (cS:W.codeIn K cd20 "_law_all" = true)
  (cT:W.keepIn K (.ref ar)=true)
  (cU:W.nsIn K mainGlobals "_law_asked" = some (some (.ref as)))
  (cV:K.lookup as=some ⟨oc21,od21,.func (W.fnOf "_law_asked" "_law_asked" (ql wB) (qi wB) (qJ wB) .none kV21 dc21 pm21 an21 cd21 ct21),sl21⟩)
  (cW:W.codeIn K cd21 "_law_asked" = true)
  (cX:W.keepIn K (.ref as)=true)
  (bv:W.nsIn K mainGlobals "law" = some (some (.ref aa)))
  (bw:K.lookup aa=some ⟨oc22,od22,.func (W.fnOf "law" "law" (ql zW) (qi zW) (qJ zW) .none kV22 dc22 pm22 an22 cd22 ct22),sl22⟩)
  (bx:W.codeIn K cd22 "law" = true)
  (bz:W.keepIn K (.ref aa)=true)
  (n_ValueError:W.nsIn K mainGlobals "ValueError" = some none)
  (n_all:W.nsIn K mainGlobals "all" = some none)
  (n_bool:W.nsIn K mainGlobals "bool" = some none)
  (n_int:W.nsIn K mainGlobals "int" = some none)
  (n_isinstance:W.nsIn K mainGlobals "isinstance" = some none)
  (n_len:W.nsIn K mainGlobals "len" = some none)
  (n_list:W.nsIn K mainGlobals "list" = some none)
  (n_max:W.nsIn K mainGlobals "max" = some none)
  (n_min:W.nsIn K mainGlobals "min" = some none)
  (n_range:W.nsIn K mainGlobals "range" = some none)
  (n_set:W.nsIn K mainGlobals "set" = some none)
  (n_sorted:W.nsIn K mainGlobals "sorted" = some none)
  (n_sum:W.nsIn K mainGlobals "sum" = some none)
  (n_tuple:W.nsIn K mainGlobals "tuple" = some none)
  (n_zip:W.nsIn K mainGlobals "zip" = some none)
  (a8:W.nsIn K mainGlobals "MOST_SORTS" = some (some (.int 4 a6)))
  (ae:W.nsIn K mainGlobals "MOST_LONG" = some (some (.int 9 ab)))
  (a9:W.nsIn K mainGlobals "MOST_PRICE" = some (some (.int 1000000000000 a7)))
  (af:W.nsIn K mainGlobals "MOST_LINE" = some (some (.int 200 ac)))
  (cY:W.nsIn K mainGlobals "BarError" = some (some (.ref U)))
  (cZ:W.nsIn K mainGlobals "NoLength" = some (some (.ref Z)))
  (d0:W.nsIn K mainGlobals "NoNumber" = some (some (.ref F)))
  (d1:W.nsIn K mainGlobals "NoBars" = some (some (.ref a0)))
  (d2:W.nsIn K mainGlobals "NoBox" = some (some (.ref a1)))
  (d3:W.nsIn K mainGlobals "NoWeights" = some (some (.ref a2)))
  (d4:W.nsIn K mainGlobals "NoSorts" = some (some (.ref I)))
  (d5:W.nsIn K mainGlobals "NoTurn" = some (some (.ref a3)))
  (d6:W.nsIn K mainGlobals "NoPlace" = some (some (.ref a4)))
  (d7:W.nsIn K mainGlobals "NoText" = some (some (.ref a5)))
  (bD:W.nsIn K mainGlobals "NoRow" = some (some (.ref L)))
  (bE:W.nsIn K mainGlobals "TooMany" = some (some (.ref R)))
  (oB:K.lookup U=some ⟨.type "type",df,.cls c3,dg⟩)
  (nB:c3.ns=NB)
  (d8:K.lookup NB=some ⟨dh,di,.dict c4 dj,dk⟩)
  (d9:c4.toList.all jt=true)
  (da:W.nsIn K NB "__init__" = some none)
  (bB:W.mroIn K U (.type "BaseException")=some true)
  (bF:K.lookup I=some ⟨.type "type",ba,.cls M,ax⟩)
  (bG:M.mro= .ref I :: .ref U::gD)
  (bH:ax.toList=[bb,bc,bd,be,some (.builtin "ValueError.__new__"),bf])
  (bI:M.hasDel=false)
  (aQ:M.ns=au)
  (bJ:K.lookup au=some ⟨bA,bg,.dict ay bh,bi⟩)
  (bK:ay.toList.all jt=true)
  (bL:W.nsIn K au "__init__" = some none)
  (e_Z6:W.mroIn K I (.ref U)=some true)
  (db:W.kitOne K (.ref I) (.type "ValueError")=some true)
  (aR:W.kitOne K (.ref I) (.ref Z)=some false)
  (aS:W.kitOne K (.ref I) (.ref F)=some false)
  (aT:W.kitOne K (.ref I) (.ref a0)=some false)
  (aU:W.kitOne K (.ref I) (.ref a1)=some false)
  (aV:W.kitOne K (.ref I) (.ref a2)=some false)
  (aW:W.kitOne K (.ref I) (.ref I)=some true)
  (aX:W.kitOne K (.ref I) (.ref a3)=some false)
  (aY:W.kitOne K (.ref I) (.ref a4)=some false)
  (aZ:W.kitOne K (.ref I) (.ref a5)=some false)
  (aB:W.kitOne K (.ref I) (.ref L)=some false)
  (aC:W.kitOne K (.ref I) (.ref R)=some false)
  (bM:W.findIn K (.ref I) "__getattribute__" = some (some (.builtin "BaseException.__getattribute__")))
  (bN:W.findIn K (.ref I) "__getattr__" = some none)
  (bO:∀od,W.findObj K I od "__class__" = some (.bind (.builtin "getset_descriptor.__get__") (.builtin "object.__class__")))
  (bP:W.mroIn K I (.type "object")=some true)
  (bQ:W.mroIn K I (.type "BaseException")=some true)
  (bR:K.lookup F=some ⟨.type "type",bj,.cls Y,az⟩)
  (bS:Y.mro= .ref F :: .ref U::gD)
  (bT:az.toList=[bm,bn,bo,bp,some (.builtin "ValueError.__new__"),bq])
  (bU:Y.hasDel=false)
  (b0:Y.ns=av)
  (bV:K.lookup av=some ⟨bC,br,.dict aA bt,bu⟩)
  (bW:aA.toList.all jt=true)
  (bX:W.nsIn K av "__init__" = some none)
  (e_Z2:W.mroIn K F (.ref U)=some true)
  (dc:W.kitOne K (.ref F) (.type "ValueError")=some true)
  (b1:W.kitOne K (.ref F) (.ref Z)=some false)
  (b2:W.kitOne K (.ref F) (.ref F)=some true)
  (b3:W.kitOne K (.ref F) (.ref a0)=some false)
  (b4:W.kitOne K (.ref F) (.ref a1)=some false)
  (b5:W.kitOne K (.ref F) (.ref a2)=some false)
  (b6:W.kitOne K (.ref F) (.ref I)=some false)
  (b7:W.kitOne K (.ref F) (.ref a3)=some false)
  (b8:W.kitOne K (.ref F) (.ref a4)=some false)
  (b9:W.kitOne K (.ref F) (.ref a5)=some false)
  (aD:W.kitOne K (.ref F) (.ref L)=some false)
  (aE:W.kitOne K (.ref F) (.ref R)=some false)
  (bY:W.findIn K (.ref F) "__getattribute__" = some (some (.builtin "BaseException.__getattribute__")))
  (bZ:W.findIn K (.ref F) "__getattr__" = some none)
  (c0:∀od,W.findObj K F od "__class__" = some (.bind (.builtin "getset_descriptor.__get__") (.builtin "object.__class__")))
  (c1:W.mroIn K F (.type "object")=some true)
  (c2:W.mroIn K F (.type "BaseException")=some true)
  (ds:e9 ⟨U,Z,F,a0,a1,a2,I,a3,a4,a5,L,R,aG,aH,aI,aJ,aK,aL,aM,aN,aO,aP,ag,ah,ai,aj,ak,al,am,ao,ap,aq,ar,as,aa⟩) :
  ∃fd:FuncData,(∀(s:EM) (v:EL),BindsTo s fd ⟨[v],[]⟩ [("_law_script",v)])∧∀base:Heap,K.In base->base.Ns mainGlobals mg->fM l.prog w K mg base (fu l.prog w) 12 fa fd ["_law_script"] (kF K):=by
 have e:aa=fa:=Value.ref.inj (Al ((AZ X G bv).symm.trans de));subst e;have V:Env K mg ⟨U,Z,F,a0,a1,a2,I,a3,a4,a5,L,R,aG,aH,aI,aJ,aK,aL,aM,aN,aO,aP,ag,ah,ai,aj,ak,al,am,ao,ap,aq,ar,as,aa⟩:=by
  refine { kit:=⟨fun t c b hk=>?_,fun x c b hk=>?_⟩,n_ValueError:=A4 X G n_ValueError,n_all:=A4 X G n_all,n_bool:=A4 X G n_bool,n_int:=A4 X G n_int,n_isinstance:=A4 X G n_isinstance,n_len:=A4 X G n_len,n_list:=A4 X G n_list,n_max:=A4 X G n_max,n_min:=A4 X G n_min,n_range:=A4 X G n_range,n_set:=A4 X G n_set,n_sorted:=A4 X G n_sorted,n_sum:=A4 X G n_sum,n_tuple:=A4 X G n_tuple,n_zip:=A4 X G n_zip,c_MOST_SORTS:=⟨_,AZ X G a8⟩,c_MOST_LONG:=⟨_,AZ X G ae⟩,c_MOST_PRICE:=⟨_,AZ X G a9⟩,c_MOST_LINE:=⟨_,AZ X G af⟩,k_Z0:=AZ X G cY,k_Z1:=AZ X G cZ,k_Z2:=AZ X G d0,k_Z3:=AZ X G d1,k_Z4:=AZ X G d2,k_Z5:=AZ X G d3,k_Z6:=AZ X G d4,k_Z7:=AZ X G d5,k_Z8:=AZ X G d6,k_Z9:=AZ X G d7,k_Z10:=AZ X G bD,k_Z11:=AZ X G bE,x_Z6:=mv bF bG bH bI (by rw[aQ];exact yS bJ bK) (by rw[aQ];exact bL) oB (by rw[nB];exact yS d8 d9) (by rw[nB];exact da),e_Z6:=e_Z6,x_Z2:=mv bR bS bT bU (by rw[b0];exact yS bV bW) (by rw[b0];exact bX) oB (by rw[nB];exact yS d8 d9) (by rw[nB];exact da),e_Z2:=e_Z2,o_Z0:=⟨_,_,_,oB⟩,b_Z0:=bB,m_is_whole:=AZ X G dm,f_is_whole:=⟨_,QO (st:=WA) dn dq dr⟩,m_is_whole_within:=AZ X G dt,f_is_whole_within:=⟨_,QO (st:=QK) du dv dw⟩,m_are_wholes:=AZ X G dy,f_are_wholes:=⟨_,QO (st:=wJ) dz dA dB⟩,m_is_rising:=AZ X G dC,f_is_rising:=⟨_,QO (st:=wj) dD dE dF⟩,m_need_number:=AZ X G dG,f_need_number:=⟨_,QO (st:=Ql) dH dI dJ⟩,m_is_sort:=AZ X G dL,f_is_sort:=⟨_,QO (st:=WR) dM dN dO⟩,m_are_sorts:=AZ X G dP,f_are_sorts:=⟨_,QO (st:=Q7) dQ dR dS⟩,m_need_line:=AZ X G dU,f_need_line:=⟨_,QO (st:=Q5) dV dW dX⟩,m_line_ways:=AZ X G dY,f_line_ways:=⟨_,QO (st:=Q9) dZ e0 e3⟩,m_cheapest_lines:=AZ X G e4,f_cheapest_lines:=⟨_,QO (st:=QB) e5 e6 e7⟩,m_cheapest_line:=AZ X G c5,f_cheapest_line:=⟨_,QO (st:=Qe) c6 c7 c8⟩,m_law_cell:=AZ X G c9,f_law_cell:=⟨_,QO (st:=w6) ca cb cc⟩,m_law_box:=AZ X G ce,f_law_box:=⟨_,QO (st:=WS) cf cg ch⟩,m_law_take:=AZ X G ci,f_law_take:=⟨_,QO (st:=w5) cj ck cl⟩,m_law_kind:=AZ X G cm,f_law_kind:=⟨_,QO (st:=w8) cp cq cr⟩,m_law_same:=AZ X G cu,f_law_same:=⟨_,QO (st:=wa) cv cw cx⟩,m_law_sorts:=AZ X G cy,f_law_sorts:=⟨_,QO (st:=wA) cz cA cB⟩,m_law_no_sorts:=AZ X G cC,f_law_no_sorts:=⟨_,QO (st:=QV) cD cE cF⟩,m_law_no_cells:=AZ X G cG,f_law_no_cells:=⟨_,QO (st:=Qo) cI cJ cK⟩,m_law_least:=AZ X G cM,f_law_least:=⟨_,QO (st:=Q4) cN cO cP⟩,m_law_all:=AZ X G cQ,f_law_all:=⟨_,QO (st:=wy) cR cS cT⟩,m_law_asked:=AZ X G cU,f_law_asked:=⟨_,QO (st:=wB) cV cW cX⟩,m_law:=AZ X G bv,f_law:=⟨_,QO (st:=zW) bw bx bz⟩ }
  ·have hnd:=ds.nd;unfold kit at hk;split at hk;exact vc hk
   ·split at hk
    ·rename_i x d hx;cases hk;have aw:=hx.1;have aF:=hx.2;unfold Qb at aw;unfold Ad.kinds at aF;simp only[AJ,Ae,BX]at aw aF;rcases aw with e1|e1
     ·rcases aF with e2|e2|e2|e2|e2|e2|e2|e2|e2|e2|e2
      ·rw[e1,e2,show (I==Z)=false from AI.mpr (QG ds).1];exact aR
      ·rw[e1,e2,show (I==F)=false from AI.mpr (QG ds).2.1];exact aS
      ·rw[e1,e2,show (I==a0)=false from AI.mpr (QG ds).2.2.1];exact aT
      ·rw[e1,e2,show (I==a1)=false from AI.mpr (QG ds).2.2.2.1];exact aU
      ·rw[e1,e2,show (I==a2)=false from AI.mpr (QG ds).2.2.2.2.1];exact aV
      ·rw[e1,e2,Aj];exact aW
      ·rw[e1,e2,show (I==a3)=false from AI.mpr (QG ds).2.2.2.2.2.1];exact aX
      ·rw[e1,e2,show (I==a4)=false from AI.mpr (QG ds).2.2.2.2.2.2.1];exact aY
      ·rw[e1,e2,show (I==a5)=false from AI.mpr (QG ds).2.2.2.2.2.2.2.1];exact aZ
      ·rw[e1,e2,show (I==L)=false from AI.mpr (QG ds).2.2.2.2.2.2.2.2.1];exact aB
      ·rw[e1,e2,show (I==R)=false from AI.mpr (QG ds).2.2.2.2.2.2.2.2.2];exact aC
     ·rcases aF with e2|e2|e2|e2|e2|e2|e2|e2|e2|e2|e2
      ·rw[e1,e2,show (F==Z)=false from AI.mpr (qx ds).1];exact b1
      ·rw[e1,e2,Aj];exact b2
      ·rw[e1,e2,show (F==a0)=false from AI.mpr (qx ds).2.1];exact b3
      ·rw[e1,e2,show (F==a1)=false from AI.mpr (qx ds).2.2.1];exact b4
      ·rw[e1,e2,show (F==a2)=false from AI.mpr (qx ds).2.2.2.1];exact b5
      ·rw[e1,e2,show (F==I)=false from AI.mpr (qx ds).2.2.2.2.1];exact b6
      ·rw[e1,e2,show (F==a3)=false from AI.mpr (qx ds).2.2.2.2.2.1];exact b7
      ·rw[e1,e2,show (F==a4)=false from AI.mpr (qx ds).2.2.2.2.2.2.1];exact b8
      ·rw[e1,e2,show (F==a5)=false from AI.mpr (qx ds).2.2.2.2.2.2.2.1];exact b9
      ·rw[e1,e2,show (F==L)=false from AI.mpr (qx ds).2.2.2.2.2.2.2.2.1];exact aD
      ·rw[e1,e2,show (F==R)=false from AI.mpr (qx ds).2.2.2.2.2.2.2.2.2];exact aE
    ·cases hk
   ·split at hk
    ·rename_i x T hx;cases hk;have aw:=hx.1;have aF:=hx.2;subst aF;unfold Qb at aw;simp only[AJ,Ae,BX]at aw;rcases aw with e1|e1
     ·rw[e1];exact db
     ·rw[e1];exact dc
    ·cases hk
   ·cases hk
  ·have hm:=rO hk;unfold Qb at hm;simp only[AJ,Ae,BX]at hm;rcases hm with e1|e1
   ·rw[e1];exact⟨bM,bN,bO,bP,bQ⟩
   ·rw[e1];exact⟨bY,bZ,c0,c1,c2⟩
 refine⟨W.fnOf "law" "law" (ql zW) (qi zW) (qJ zW) .none kV22 dc22 pm22 an22 cd22 ct22,fun s v=>.of_eq rfl,fun base _ _=>?_⟩;exact vD (tY V (QO (st:=zW) bw bx bz)) fun vs H Q E q=>q _ ds
def uZ{l:W.OpenLaw}{n k:Nat}{q:ER}{L:EK Str}{XP:(Str->EO EL)->Heap->Prop}{YP:EU->Heap->Prop}{d:DefRec}{K:Params->EQ}{CX:EU->CXT}{sp:EU->Sp}{x:Str}
  (hn:l.most=some n) (Z:n≤sizeLine) (a0:d.params.defaults=[]) (hr:eW k callerA)
  (hY:∀(w:EU) (h:Heap),YP w h->(K w.params).In h)
  (F:∀(w:EU) (mg:Str->EO EL) (fa:EN) (h:Heap),(K w.params).In h->h.Ns mainGlobals mg->XP mg h->mg d.name=some (.ref fa) ->
   ∃fd:FuncData,(∀(s:EM) (u:EL),BindsTo s fd ⟨[u],[]⟩ [(x,u)]) ∧
    ∀base:Heap,(K w.params).In base->base.Ns mainGlobals mg->fM l.prog w (K w.params) mg base (CX w) k fa fd [x] (sp w))
  (a1:∀(w:EU) (H:Hp) (a:EN) (ns:EK Int),ns.length≤n->(∀k∈ns,Builtin.Int.intBits k≤2 ^ 20)->lf H->fm (K w.params) H a (ns.map V.int)->sp w [.ref a] H (fun v _=>v= .bl true) fun _ _ _=>False)
  (a2:∀(w:EU) (H:Hp) (s:EM) (e:EL) (s':EM),CX w [] H s (fun _ _ _=>False) e s'->False) :
  W.WalkO q L XP YP l.row.toRowW d [] (fun f vs=>PySem.call f vs):=by refine EF.attach_callB hn a0 fun w s₀ s₁ mg mb fa o pm cd Ey a vs ns G Y ho hd a4 a3 U R I M hg=>?_;have KX:=hY w _ Y;obtain⟨fd,hb,hF⟩:=F w mg fa _ KX G.T.g G.X a3;exact sK KX G.T.g G.T.b G.T.builtins G.T.nolimit hg U R (AW I Z) hr hF hb (fun H hO hS=>a1 w H a ns I M hO hS) fun H e s'=>a2 w H s₁ e s'
def W9{K:EQ}{H:Hp}{b:Bz}:∀ns:EK Int,ee K H b (ns.map PV.int) (ns.map V.int)|[]=>ee.nil|n::ns=>ee.cons Q0 (W9 ns)
def sT(Ek:∀(a:Ad) (ns:EK Int),e9 a->ns.length≤63->(∀k∈ns,Builtin.Int.intBits k≤2 ^ 20)->∃st,JJ a [.lst (ns.map PV.int)] []= .ok (.bl true) st){K:EQ}{H:Hp}{a:EN}{ns:EK Int}(hl:ns.length≤63)(hb:∀k∈ns,Builtin.Int.intBits k≤2 ^ 20)(U:fm K H a (ns.map V.int)):kF K [.ref a] H (fun v _=>v= .bl true) fun _ _ _=>False:=by
 intro ad hd;obtain⟨st,e⟩:=Ek ad ns hd hl hb;refine⟨rfl,⟨[],[]⟩,[.lst (ns.map PV.int)],[],⟨rfl,List.nodup_nil,fun i x h=>by simp at h,fun a F=>(Ae F).elim,fun a F=>(Ae F).elim⟩,ee.cons ?_ ee.nil,?_⟩;unfold RV;exact⟨a,_,rfl,U.imp (fun h=>⟨h,Ae,Ae⟩) id,W9 ns⟩;rw[e];intro v H' b' _ _ r;unfold RV at r;exact r
def walk31(Ek:∀(a:Ad) (ns:EK Int),e9 a->ns.length≤63->(∀k∈ns,Builtin.Int.intBits k≤2 ^ 20)->∃st,JJ a [.lst (ns.map PV.int)] []= .ok (.bl true) st){l:W.OpenLaw}{q:ER}{L:EK Str}{XP:(Str->EO EL)->Heap->Prop}{I:EU->Heap->Prop}{d:DefRec}{K:Params->EQ}(Y:l.most=some 63)(M:d.params.defaults=[])
  (R:∀(w:EU) (h:Heap),I w h->(K w.params).In h)
  (F:∀(w:EU) (mg:Str->EO EL) (fa:EN) (h:Heap),(K w.params).In h->h.Ns mainGlobals mg->XP mg h->mg d.name=some (.ref fa) ->
   ∃fd:FuncData,(∀(s:EM) (u:EL),BindsTo s fd ⟨[u],[]⟩ [("_law_script",u)])∧∀base:Heap,(K w.params).In base->base.Ns mainGlobals mg->fM l.prog w (K w.params) mg base (fu l.prog w) 12 fa fd ["_law_script"] (kF (K w.params))) :
  W.WalkO q L XP I l.row.toRowW d [] (fun f vs=>PySem.call f vs) :=
 uZ (n:=63) (k:=12) (x := "_law_script") (CX:=fun w=>fu l.prog w) (sp:=fun w=>kF (K w.params)) Y (by decide) M ⟨fun _=>rfl,by decide,by decide,rfl⟩ R F (fun _ _ a ns hl hb _ U=>sT Ek hl hb U) fun _ _ _ _ _ z=>by obtain⟨_,_,_,_,_,_,_,_,_,_,_,_,q⟩:=z;exact q
end K86
end
section
namespace PySem.W.Fast
def tw7939024070727792315:=0
def tw10193744050683672057:=0
def tw6521814250911568644:=0
def tw14736138067660172980:=0
def tw17972338257881222528:=0
def tw8213083516170592634:=0
def tw7938874576166205302:=0
def tw7308144844255658881:=0
def tw6158611186333995497:=0
def tw14455127663828013805:=0
def tw13690982425688266963:=0
def tw1063510244813408514:=0
def tw1752416228281809827:=0
def tw5212369323308328495:=0
def tw6832098875191484061:=0
def tw1986000337221364144:=0
def tw1516591017232025893:=0
def tw1013792071436025823:=0
def tw4658135577459130985:=0
def tw17260830577744052316:=0
def tw6579019082305457486:=0
def tw8020469493460893766:=0
def tw4974872386238433309:=0
def tw10967180773295962960:=0
def tw4646937348426110439:=0
def tw10678922698649194829:=0
def tw2576609704828993037:=0
def tw18340373910352468177:=0
def tw1965860432141409232:=0
def tw10565608337985741147:=0
def tw10718218062888359066:=0
def tw14485794684917234565:=0
def tw1590475089702176782:=0
def tw11183019593303550996:=0
def tw2144606768327015865:=0
def tw9777827779209860106:=0
def tw7979570217102523085:=0
def tw13317572500127795329:=0
def tw3120110338086097426:=0
def tw8178249981748605185:=0
def tw8591728265585686510:=0
def tw11695509223965119135:=0
def tw9254897977864736594:=0
def tw10780846432441937296:=0
def tw18161734113424939631:=0
def tw3192963194853221990:=0
end PySem.W.Fast
open PySem PySem.W PyProof.Rows
set_option maxRecDepth 100000 in
set_option maxHeartbeats 0 in
theorem PySem.Challenge.cw_barfloors_k86_lines_filled_holds : PySem.Challenge.rw_barfloors_k86_lines_filled.Holds := by
  w_on; o_law; k_head; (case hw => w_witness2)
  k_fill
  refine K86.walk31 K86.law_true (l := PySem.Challenge.rw_barfloors_k86_lines_filled) rfl rfl (fun w h Y => PySem.W.kIn_of Y) ?F
  case F =>
    intro w mg fa h KX G XX hmg
    refine' K86.all_mk KX G hmg ?zzA ?zzB ?zzC ?zzD ?zzE ?zzF ?zzG ?zzH ?zzI ?zzJ ?zzK ?zzL ?zzM ?zzN ?zzO ?zzP ?zzQ ?zzR ?zzS ?zzT ?zzU ?zzV ?zzW ?zzX ?zzY ?zzZ ?zza ?zzb ?zzc ?zzd ?zze ?zzf ?zzg ?zzh ?zzi ?zzj ?zzk ?zzl ?zzm ?zzn ?zzo ?zzp ?zzq ?zzr ?zzs ?zzt ?zzu ?zzv ?zzw ?zzx ?zzy ?zzz ?zyA ?zyB ?zyC ?zyD ?zyE ?zyF ?zyG ?zyH ?zyI ?zyJ ?zyK ?zyL ?zyM ?zyN ?zyO ?zyP ?zyQ ?zyR ?zyS ?zyT ?zyU ?zyV ?zyW ?zyX ?zyY ?zyZ ?zya ?zyb ?zyc ?zyd ?zye ?zyf ?zyg ?zyh ?zyi ?zyj ?zyk ?zyl ?zym ?zyn ?zyo ?zyp ?zyq ?zyr ?zys ?zyt ?zyu ?zyv ?zyw ?zyx ?zyy ?zyz ?zxA ?zxB ?zxC ?zxD ?zxE ?zxF ?zxG ?zxH ?zxI ?zxJ ?zxK ?zxL ?zxM ?zxN ?zxO ?zxP ?zxQ ?zxR ?zxS ?zxT ?zxU ?zxV ?zxW ?zxX ?zxY ?zxZ ?zxa ?zxb ?zxc ?zxd ?zxe ?zxf ?zxg ?zxh ?zxi ?zxj ?zxk ?zxl ?zxm ?zxn ?zxo ?zxp ?zxq ?zxr ?zxs ?zxt ?zxu ?zxv ?zxw ?zxx ?zxy ?zxz ?zwA ?zwB ?zwC ?zwD ?zwE ?zwF ?zwG ?zwH ?zwI ?zwJ ?zwK ?zwL ?zwM ?zwN ?zwO ?zwP ?zwQ ?zwR ?zwS ?zwT ?zwU ?zwV ?zwW ?zwX ?zwY ?zwZ
    (case zzA|zzB|zzC|zzD|zzE|zzF|zzG|zzH|zzI|zzJ|zzK|zzL|zzM|zzN|zzO|zzP|zzQ|zzR|zzS|zzT|zzU|zzV|zzW|zzX|zzY|zzZ|zza|zzb|zzc|zzd|zze|zzf|zzg|zzh|zzi|zzj|zzk|zzl|zzm|zzn|zzo|zzp|zzq|zzr|zzs|zzt|zzu|zzv|zzw|zzx|zzy|zzz|zyA|zyB|zyC|zyD|zyE|zyF|zyG|zyH|zyI|zyJ|zyK|zyL|zyM|zyN|zyO|zyP|zyQ|zyR|zyS|zyT|zyU|zyV|zyW|zyX|zyY|zyZ|zya|zyb|zyc|zyd|zye|zyf|zyg|zyh|zyi|zyj|zyk|zyl|zym|zyn|zyo|zyp|zyq|zyr|zys|zyt|zyu|zyv|zyw|zyx|zyy|zyz|zxA|zxB|zxC|zxD|zxE|zxF|zxG|zxH|zxI|zxJ|zxK|zxL|zxM|zxN|zxO|zxP|zxQ|zxR|zxS|zxT => k_is)
    (case zxU => rfl)
    (case zxV => k_is)
    (case zxW => rfl)
    (case zxX|zxY|zxZ => k_is)
    (case zxa|zxb|zxc|zxd => rfl)
    (case zxe => k_is)
    (case zxf => rfl)
    (case zxg|zxh => k_is)
    (case zxi|zxj|zxk|zxl|zxm|zxn|zxo|zxp|zxq|zxr|zxs|zxt => rfl)
    (case zxu|zxv => k_is)
    (case zxw => (intro od; rfl))
    (case zxx|zxy|zxz => k_is)
    (case zwA|zwB|zwC|zwD => rfl)
    (case zwE => k_is)
    (case zwF => rfl)
    (case zwG|zwH => k_is)
    (case zwI|zwJ|zwK|zwL|zwM|zwN|zwO|zwP|zwQ|zwR|zwS|zwT => rfl)
    (case zwU|zwV => k_is)
    (case zwW => (intro od; rfl))
    (case zwX|zwY => k_is)
    (case zwZ => decide)
end
