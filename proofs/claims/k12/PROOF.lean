import PyProof.Rows.All
import Wide.All
import OpenK.AllK
import Wide.FinOn
import PyProof.EqAt
import PyProof.EqKinds
import PyProof.TupleCall
import Lean
import PyProof.NeKinds
import PyProof.Rows.RuleDivmod
import PyProof.Rows.FactsN_divmod
import PyProof.DictItems
import KE.KPairComp
import PyProof.Draws
import PySem.Challenge.RW_barfloors_k12_sums_or_rests_apart
set_option Elab.async false
set_option linter.all false
set_option maxRecDepth 100000
set_option maxHeartbeats 0
section
namespace EX
open PySem PySem.Spec PyProof.Rows
theorem jW:entryFor table "proto.unchain" = some Builtin.«proto.unchain» := entryFor_of_fast (by kernel_rfl)
def Hnd (A:Around) (h:Heap):Prop := ∀ v,A.handled=some v -> ∃ ea oe vs,v=Value.ref ea∧h.get? ea=some oe∧oe.data = .fields vs∧vs[2]? = some .none
section
variable {prog:Program} {w:World} {A:Around} {E:Value->Shared->Prop} {s:Shared}
theorem JX {e v:Value} {ea:Addr} {oe:Obj} {vs:Array Value} {Q:Value->Shared->Prop} (ho:s.heap.get? ea=some oe) (hd:oe.data = .fields vs) (h2:vs[2]? = some .none) (hq:Q .none s) :
  wpAny (model prog w) A (runValue (.builtin "proto.unchain" ⟨[e,.ref ea,v,.bool false],[]⟩)) Q E s:=by
 refine wpAny_runValue (codeAny_builtin jW ?_)
 unfold Builtin.«proto.unchain»
 dsimp only
 refine wpAny_bind (wpAny_field ho hd h2 ?_)
 rw [if_pos (show (Value.none==Value.none)=true by rfl)]
 refine wpAny_bind (wpAny_pure (wpAny_pure ?_))
 exact hq
theorem Jp {α:Type} {e:Addr} {oe:Obj} {vs:Array Value} {Q:α->Shared->Prop} (hn:Hnd A s.heap) (he:s.heap.get? e=some oe) (hd:oe.data = .fields vs) (hsz:2 < vs.size) (hne:∀ ea,A.handled=some (.ref ea)->ea≠e)
  (h:∀ h' o',Heap.SameBut e s.heap h'->h'.get? e=some o'->o'.cls=oe.cls->E (.ref e) { s with heap:=h' }):wpAny (model prog w) A (raiseNew (.ref e):Sem α) Q E s:=by
 unfold raiseNew
 refine wpAny_bind (wpAny_handled ?_)
 cases hh:A.handled with
 |none=>exact wpAny_bind (wpAny_pure (wpAny_throw (h s.heap oe (.refl ..) he rfl)))
 |some v =>
  obtain ⟨ea,o,ws,rfl,ho,hdo,h2⟩:=hn v hh
  have hne':=hne ea hh
  have hb:(Value.ref ea != Value.ref e)=true:=by
   rw [bne_iff_ne];intro z;cases z;exact hne' rfl
  dsimp only
  rw [if_pos hb]
  refine wpAny_bind (wpAny_holding (JX ho hdo h2 ?_))
  refine wpAny_bind (wpAny_setField (x:=Value.ref ea) he hd hsz (wpAny_throw ?_))
  exact h _ _ (Heap.SameBut.update ..) (Heap.get?_update_self _ he (Obj.isFreed_of_fields (Obj.data_mapFields hd _))) (Obj.cls_mapFields ..)
theorem Wl {α:Type} {Q:α->Shared->Prop} (hn:Hnd A s.heap) (h:∀ h' e,(∀ b o,s.heap.get? b=some o->h'.get? b=some o)->(∃ o',h'.get? e=some o'∧o'.cls = .type "StopIteration")->E (.ref e) { s with heap:=h' }) :
  wpAny (model prog w) A (newExc (.type "StopIteration") [] >>= fun e=>(raiseNew e:Sem α)) Q E s:=by
 refine wpAny_bind ?_
 unfold newExc newTuple
 refine wpAny_bind (wpAny_newObj_type ?_ (by size_fits))
 refine wpAny_bind (m:=firstArgMember _ _) (wpAny_of_eq (a:=Value.none) (by first |rfl |(simp only [firstArgMember];rfl)) ?_)
 refine wpAny_newObj_type ?_ (by size_fits)
 have up:∀ {b o},s.heap.get? b=some o->((s.heap.push { cls := .type "tuple",data := .seq ([]:List Value).toArray }).push { cls := .type "StopIteration",data := .fields (#[.ref s.heap.objs.size,.none,.none,.none,.bool false,.none]++ownMembersOf (.type "StopIteration") []) }).get? b=some o:=fun q=>Heap.get?_push_of_some _ (Heap.get?_push_of_some _ q)
 refine Jp (oe:={ cls := .type "StopIteration",data := .fields (#[.ref s.heap.objs.size,.none,.none,.none,.bool false,.none]++ownMembersOf (.type "StopIteration") []) }) ?_ (Heap.get?_push_size _ rfl) rfl (by simp [ownMembersOf]) (fun ea hea => ?_) fun h' o' sb ho' hc=>h h' _ (fun b o q => ?_) ⟨o',ho',hc⟩
 ·intro v hv
  obtain ⟨ea,oe,vs,e1,e2,e3⟩:=hn v hv
  exact ⟨ea,oe,vs,e1,up e2,e3⟩
 ·obtain ⟨ea',oe,vs,e1,e2,e3⟩:=hn _ hea
  cases e1
  exact Nat.ne_of_lt (Nat.lt_trans (Heap.lt_size e2) (by simp))
 ·exact (sb.2 b (Nat.ne_of_lt (Nat.lt_trans (Heap.lt_size q) (by simp)))).trans (up q)
theorem list_end {it l:Addr} {i:Nat} {items} {Q:Option Value->Shared->Prop} (hn:Hnd A s.heap) (z1:s.heap.IsListIter it l i) (z2:s.heap.IsList l items) (z3:items[i]? = none) (z4:∀ v,A.handled=some v->v ≠ .ref it)
  (hQ:∀ h',(∀ b o,b≠it->s.heap.get? b=some o->h'.get? b=some o)->Q none { s with heap:=h' }):wpAny (model prog w) A (pyNext (.ref it)) Q E s:=by
 obtain ⟨ob,g1,g2,g3⟩:=id z1
 obtain ⟨ol,g4,_,nl,g5⟩:=z2
 unfold pyNext
 refine wpAny_bind (wpAny_attempt (wpAny_callSpecial?_slot (name:=Str.ofString "__next__") z1.typeIs slot_listiter_next (wpAny_call_entry slot_listiter_next z1.typeIs entry_listiter_next ?_ (args_listiter_next _))))
 change wpAny _ A.in1 (field (Value.ref it) 0 >>= _) _ _ s
 refine wpAny_bind (wpAny_field g1 g3 (x:=Value.ref l) rfl ?_)
 change wpAny _ A.in1 (if (Value.ref l==Value.none)=true then _ else _) _ _ s
 rw [if_neg (fun z:(Value.ref l==Value.none)=true=>Bool.false_ne_true z)]
 change wpAny _ A.in1 (field (Value.ref it) 1 >>= _) _ _ s
 refine wpAny_bind (wpAny_field g1 g3 (x:=Value.int i 0) rfl ?_)
 change wpAny _ A.in1 (seqItems? (Value.ref l) >>= _) _ _ s
 refine wpAny_bind (wpAny_seqItems g4 g5 ?_)
 simp only [Int.toNat_natCast,z3]
 refine wpAny_bind (wpAny_rule (wpAny_bind (wpAny_setField g1 g3 (by simp) ?_)))
 refine Wl (A:=A.in1) ?_ fun h' e k ht => ?_
 ·intro v hv
  obtain ⟨ea,oe,vs,e1,e2,e3⟩:=hn v hv
  refine ⟨ea,oe,vs,e1,?_,e3⟩
  have hne:ea≠it:=fun z=>z4 v hv (by rw [e1,z])
  exact (Heap.get?_update_other _ _ (Ne.symm hne)).trans e2
 ·refine wpAny_bind (wpAny_isInstance (T := "StopIteration") (b:=true) ht isSubtype_stop ?_)
  exact wpAny_pure (hQ _ fun b o' hb q=>k b o' ((Heap.get?_update_other _ _ (Ne.symm hb)).trans q))
theorem tuple_end {it l:Addr} {i:Nat} {items} {Q:Option Value->Shared->Prop} (hn:Hnd A s.heap) (z1:s.heap.IsTupleIter it l i) (z2:s.heap.IsTuple l items) (z3:items[i]? = none) (z4:∀ v,A.handled=some v->v ≠ .ref it)
  (hQ:∀ h',(∀ b o,b≠it->s.heap.get? b=some o->h'.get? b=some o)->Q none { s with heap:=h' }):wpAny (model prog w) A (pyNext (.ref it)) Q E s:=by
 obtain ⟨ob,g1,g2,g3⟩:=id z1
 obtain ⟨ol,g4,_,nl,g5⟩:=z2
 unfold pyNext
 refine wpAny_bind (wpAny_attempt (wpAny_callSpecial?_slot (name:=Str.ofString "__next__") z1.typeIs F.slot_tuple_iterator_next (wpAny_call_entry F.slot_tuple_iterator_next z1.typeIs F.entry_tuple_iterator_next ?_ (F.args_tuple_iterator_next_1 _))))
 change wpAny _ A.in1 (field (Value.ref it) 0 >>= _) _ _ s
 refine wpAny_bind (wpAny_field g1 g3 (x:=Value.ref l) rfl ?_)
 change wpAny _ A.in1 (if (Value.ref l==Value.none)=true then _ else _) _ _ s
 rw [if_neg (fun z:(Value.ref l==Value.none)=true=>Bool.false_ne_true z)]
 change wpAny _ A.in1 (field (Value.ref it) 1 >>= _) _ _ s
 refine wpAny_bind (wpAny_field g1 g3 (x:=Value.int i 0) rfl ?_)
 change wpAny _ A.in1 (seqItems? (Value.ref l) >>= _) _ _ s
 refine wpAny_bind (wpAny_seqItems g4 g5 ?_)
 simp only [Int.toNat_natCast,z3]
 refine wpAny_bind (wpAny_rule (wpAny_bind (wpAny_setField g1 g3 (by simp) ?_)))
 refine Wl (A:=A.in1) ?_ fun h' e k ht => ?_
 ·intro v hv
  obtain ⟨ea,oe,vs,e1,e2,e3⟩:=hn v hv
  refine ⟨ea,oe,vs,e1,?_,e3⟩
  have hne:ea≠it:=fun z=>z4 v hv (by rw [e1,z])
  exact (Heap.get?_update_other _ _ (Ne.symm hne)).trans e2
 ·refine wpAny_bind (wpAny_isInstance (T := "StopIteration") (b:=true) ht isSubtype_stop ?_)
  exact wpAny_pure (hQ _ fun b o' hb q=>k b o' ((Heap.get?_update_other _ _ (Ne.symm hb)).trans q))
theorem range_end {it:Addr} {x left step:Int} {Q:Option Value->Shared->Prop} (hn:Hnd A s.heap) (z1:IsRangeIter s.heap it x left step) (z2:left≤0)
  (hQ:∀ h',(∀ b o,s.heap.get? b=some o->h'.get? b=some o)->Q none { s with heap:=h' }):wpAny (model prog w) A (pyNext (.ref it)) Q E s:=by
 have z0:s.TypeIs (.ref it) "range_iterator" := ⟨_,z1,rfl⟩
 unfold pyNext
 refine wpAny_bind (wpAny_attempt (wpAny_callSpecial?_slot (name:=Str.ofString "__next__") z0 F.slot_range_iterator_next (wpAny_call_entry F.slot_range_iterator_next z0 F.entry_range_iterator_next ?_ (F.args_range_iterator_next_1 _))))
 change wpAny _ A.in1 (field (Value.ref it) 0 >>= _) _ _ s
 refine wpAny_bind (wpAny_field z1 rfl (x:=rawInt x) rfl ?_)
 change wpAny _ A.in1 (field (Value.ref it) 1 >>= _) _ _ s
 refine wpAny_bind (wpAny_field z1 rfl (x:=rawInt left) rfl ?_)
 change wpAny _ A.in1 (field (Value.ref it) 2 >>= _) _ _ s
 refine wpAny_bind (wpAny_field z1 rfl (x:=rawInt step) rfl ?_)
 change wpAny _ A.in1 (if left≤0 then _ else _) _ _ s
 rw [if_pos z2]
 refine wpAny_bind (wpAny_rule (wpAny_bind ?_))
 refine Wl (A:=A.in1) hn fun h' e k ht => ?_
 refine wpAny_bind (wpAny_isInstance (T := "StopIteration") (b:=true) ht isSubtype_stop ?_)
 exact wpAny_pure (hQ _ k)
end
end EX
end
section
namespace L2
open PySem PySem.Spec PyProof.Rows
abbrev Key:=Sum Int Str
def qE5:Key->Value->Bool
 | .inl k,v=>Value.isInt k v
 | .inr x,v=>Value.isStrOf x v
def qID (w:World):Key->Int
 | .inl k=>hashInt k
 | .inr x=>hashStr w x
theorem QS:∀ {k:Key} {v:Value},qE5 k v=true->(∃ i t,k=Sum.inl i∧v=Value.int i t)∨(∃ x t,k=Sum.inr x∧v=Value.str x t)
 | .inl i,v,h=>by
  obtain ⟨t,e⟩:=Value.isInt_shape (k:=i) (v:=v) h
  exact .inl ⟨i,t,rfl,e⟩
 | .inr x,v,h=>by
  obtain ⟨t,e⟩:=Value.isStrOf_shape (x:=x) (v:=v) h
  exact .inr ⟨x,t,rfl,e⟩
theorem qFX (a b:Int):decide ((Sum.inl a:Key)=Sum.inl b)=(a==b):=by
 by_cases e:a=b
 ·subst e;simp
 ·have h:¬ (Sum.inl a:Key)=Sum.inl b:=fun q=>e (Sum.inl.inj q)
  rw [decide_eq_false h]
  exact (beq_eq_false_iff_ne.mpr e).symm
theorem qGE (a b:Str):decide ((Sum.inr a:Key)=Sum.inr b)=decide (a=b):=by
 by_cases e:a=b
 ·subst e;simp
 ·have h:¬ (Sum.inr a:Key)=Sum.inr b:=fun q=>e (Sum.inr.inj q)
  rw [decide_eq_false h,decide_eq_false e]
theorem qGH (a:Int) (b:Str):decide ((Sum.inl a:Key)=Sum.inr b)=false:=decide_eq_false (fun q=>nomatch q)
theorem qFS (a:Str) (b:Int):decide ((Sum.inr a:Key)=Sum.inl b)=false:=decide_eq_false (fun q=>nomatch q)
def YU (prog:Program) (w:World):PySem.KeyKind prog w Key where
 is:=qE5
 hash:=qID w
 inj:=fun v a b ha hb=>by
  rcases QS ha with ⟨i,t,rfl,rfl⟩ |⟨x,t,rfl,rfl⟩
  ·rcases QS hb with ⟨j,u,rfl,e⟩ |⟨y,u,rfl,e⟩
   ·injection e with e1 _;rw [e1]
   ·exact nomatch e
  ·rcases QS hb with ⟨j,u,rfl,e⟩ |⟨y,u,rfl,e⟩
   ·exact nomatch e
   ·injection e with e1 _;rw [e1]
 byValue:=fun k v h=>by
  rcases QS h with ⟨i,t,rfl,rfl⟩ |⟨x,t,rfl,rfl⟩ <;> rfl
 pyHash:=fun hv h=>by
  rcases QS hv with ⟨i,t,rfl,rfl⟩ |⟨x,t,rfl,rfl⟩
  ·exact wpAny_pyHash_int h
  ·exact wpAny_pyHash_str h
 eqBool:=fun hu hv h=>by
  rcases QS hu with ⟨i,t,rfl,rfl⟩ |⟨x,t,rfl,rfl⟩
  ·rcases QS hv with ⟨j,u,rfl,rfl⟩ |⟨y,u,rfl,rfl⟩
   ·rw [qFX] at h;exact wpAny_eqBool_int h
   ·rw [qGH] at h;exact SeqAt.EqAt.int_str i t y u _ _ _ _ h
  ·rcases QS hv with ⟨j,u,rfl,rfl⟩ |⟨y,u,rfl,rfl⟩
   ·rw [qFS] at h;exact SeqAt.EqAt.str_int x t j u _ _ _ _ h
   ·rw [qGE] at h;exact wpAny_eqBool_str h
 «strs» := fun k x t v h=>by
  rcases QS h with ⟨i,u,rfl,e⟩ |⟨y,u,rfl,e⟩
  ·exact nomatch e
  ·injection e with e1 _
   subst e1
   cases v <;> rfl
end L2
namespace L2
open PySem PySem.Spec PyProof.Rows
inductive V where
 |non |bl (b:Bool) |int (i:Int) |str (x:Str) |byt (b:Array UInt8) |flt (b:UInt64) |ref (a:Addr) |ty (n:String)
 deriving DecidableEq
def RelV:V->Value->Prop
 | .non,u=>u=Value.none
 | .bl b,u=>u=Value.bool b
 | .int i,u => ∃ t,u=Value.int i t
 | .str x,u => ∃ t,u=Value.str x t
 | .byt b,u => ∃ t,u=Value.bytes b t
 | .flt b,u => ∃ t,u=Value.float b t
 | .ref a,u=>u=Value.ref a
 | .ty n,u=>u=Value.type n
abbrev Vals:List V->List Value->Prop:=Paired RelV
theorem Vals.length {xs:List V} {us:List Value} (r:Vals xs us):xs.length=us.length:=Paired.length r
theorem Vals.get:∀ {xs:List V} {us:List Value} {i:Nat} {x:V},Vals xs us->xs[i]? = some x -> ∃ u,us[i]? = some u∧RelV x u
 |_,_,_,_,.nil,e=>by simp at e
 |_,_,0,_,.cons r _,e=>by simp at e;subst e;exact ⟨_,rfl,r⟩
 |_,_,i + 1,x,.cons _ t,e=>by
  obtain ⟨u,h1,h2⟩:=Vals.get (i:=i) (x:=x) t (by simpa using e)
  exact ⟨u,by simpa using h1,h2⟩
theorem Vals.set {x:V} {u:Value} (r:RelV x u):∀ {xs:List V} {us:List Value} (i:Nat),Vals xs us->Vals (xs.set i x) (us.set i u)
 |_,_,_,.nil => .nil
 |_,_,0,.cons _ t => .cons r t
 |_,_,i + 1,.cons q t => .cons q (Vals.set r i t)
theorem Vals.append:∀ {xs ys:List V} {us ws:List Value},Vals xs us->Vals ys ws->Vals (xs++ys) (us++ws)
 |_,_,_,_,.nil,s=>s
 |_,_,_,_,.cons r t,s => .cons r (Vals.append t s)
theorem Vals.take:∀ {xs:List V} {us:List Value} (n:Nat),Vals xs us->Vals (xs.take n) (us.take n)
 |_,_,0,_ => .nil
 |_,_,_ + 1,.nil => .nil
 |_,_,n + 1,.cons r t => .cons r (Vals.take n t)
theorem Vals.drop:∀ {xs:List V} {us:List Value} (n:Nat),Vals xs us->Vals (xs.drop n) (us.drop n)
 |_,_,0,r=>r
 |_,_,_ + 1,.nil => .nil
 |_,_,n + 1,.cons _ t=>Vals.drop n t
def qGz:Option V->Option Value->Prop
 |some v,some u=>RelV v u
 |none,none=>True
 |_,_=>False
def KV {κ:Type}:List (κ×V)->List (κ×Value)->Prop:=Paired fun (p:κ×V) (q:κ×Value)=>p.1=q.1∧RelV p.2 q.2
def kV:Key->V
 | .inl i => .int i
 | .inr x => .str x
inductive HO where
 /-- a list -/
 |lst (xs:List V)
 /-- a tuple (never changes) -/
 |tup (xs:List V)
 /-- a dict whose keys are ints and texts;one whose keys are tuples of ints and texts (the empty one is both) -/
 |dK (kvs:List (Key×V)) |dT (kvs:List (List Key×V))
 /-- a set of ints: its members,its size -/
 |set (S:Int->Bool) (n:Nat)
 /-- an instance of the class at C,its dict at dx,its attributes -/
 |ins (C dx:Addr) (fs:List (Str×V))
 /-- the dict of the instance at x -/
 |own (x:Addr)
 /-- the dict of an exception -/
 |xd (fs:List (Str×V))
 /-- a bound method,f of x -/
 |met (f x:Addr)
 /-- a range object lo,lo + 1,.. below hi -/
 |rng (lo hi:Int)
 /-- a thing that is known to the object (the script;a dict while a loop walks it): read,never written while it is so -/
 |frz (o:Obj) (u:HO)
 /-- a code object's table -/
 |tbl (ps:Array Value)
 /-- any other thing,by what is true of its one object (a def of one's own: SetO a S n:=HO.ext fun h => ..) -/
 |ext (φ:Heap->Prop)
abbrev Hp:=Addr->Option HO
def upd (H:Hp) (a:Addr) (o:HO):Hp:=fun b=>if b=a then some o else H b
theorem QG {H:Hp} {a:Addr} {o:HO}:upd H a o a=some o:=by unfold upd;rw [if_pos rfl]
theorem qN {H:Hp} {a b:Addr} {o:HO} (h:b≠a):upd H a o b=H b:=by unfold upd;rw [if_neg h]
theorem qM {H:Hp} {a b:Addr} {o:HO} (h:H a=some o) (h':H b=none):a≠b:=by
 intro e;subst e;rw [h] at h';cases h'
section
variable (P:Program) (w:World)
def ObjOk (H:Hp) (h:Heap) (a:Addr):HO->Prop
 | .lst xs=>xs.length≤sizeLine ∧ ∃ (its:List Value) (n:Nat),Vals xs its∧h.get? a=some { cls := .type "list",data := .seq its.toArray n }
 | .tup xs=>xs.length≤sizeLine ∧ ∃ its:List Value,Vals xs its∧IsTup h a its.toArray
 | .dK kvs=>kvs.length≤sizeLine∧(a==sysModules)=false ∧ ∃ vs,KV kvs vs∧h.DictOf (YU P w) a vs
 | .dT kvs=>kvs.length≤sizeLine∧(a==sysModules)=false ∧ ∃ xs:List (List Key×Addr×Value),
   Paired (fun (p:List Key×V) (q:List Key×Addr×Value)=>p.1=q.1∧H q.2.1=some (.tup (p.1.map kV))∧RelV p.2 q.2.2) kvs xs ∧
   ∃ o es ep,h.get? a=some o∧o.ExactDict∧o.data = .dict es ep∧es.toList=xs.map (entryOfKey (tupleKind (YU P w)))∧(xs.map (·.1)).Nodup
 | .set S n=>h.SetOf (intKind P w) a S n
 | .ins C dx fs=>H dx=some (.own a)∧fs.length≤1000∧dx≠a∧h.get? a=some (PySem.W.instObj C dx) ∧
   ∃ mA,h.Ns1 dx mA∧(∀ f,qGz (fs.lookup f) (mA f))∧PySem.Within mA (fs.map (·.1))
 | .own _ => ∃ o,h.get? a=some o
 | .xd fs => ∃ mA,h.Ns1 a mA ∧ ∀ f,qGz (fs.lookup f) (mA f)
 | .rng lo hi => ∃ t u v,h.get? a=some { cls := .type "range",data := .fields #[.int lo t,.int hi u,.int 1 v] }
 | .frz o u=>h.get? a=some o∧ObjOk H h a u
 | .tbl ps=>h.get? a=some { cls := .none,data := .fields ps }
 | .met f x=>h.get? a=some (PySem.W.methodObj (.ref f) (.ref x))
 | .ext φ=>φ h∧(∃ o,h.get? a=some o) ∧ ∀ h1 h2:Heap,φ h1->(∀ o,h1.get? a=some o->h2.get? a=some o)->φ h2
def HOk (H:Hp) (h:Heap):Prop := ∀ a o,H a=some o->ObjOk P w H h a o
end
section
variable {P:Program} {w:World} {H H':Hp} {h h':Heap} {a:Addr} {o:HO}
theorem ObjOk.lt (x:ObjOk P w H h a o):a < h.objs.size:=by
 cases o with
 |lst xs=>obtain ⟨_,_,_,_,e⟩:=x;exact Heap.lt_size e
 |tup xs=>obtain ⟨_,_,_,p⟩:=x;exact p.lt
 |dK kvs=>obtain ⟨_,_,_,_,o,_,_,e,_⟩:=x;exact Heap.lt_size e
 |dT kvs=>obtain ⟨_,_,_,_,o,_,_,e,_⟩:=x;exact Heap.lt_size e
 |set S n=>obtain ⟨o,_,_,_,e,_⟩:=x;exact Heap.lt_size e
 |ins C dx fs=>obtain ⟨_,_,_,e,_⟩:=x;exact Heap.lt_size e
 |own y=>obtain ⟨_,e⟩:=x;exact Heap.lt_size e
 |xd fs=>obtain ⟨_,⟨_,_,_,e,_⟩,_⟩:=x;exact Heap.lt_size e
 |rng lo hi=>obtain ⟨_,_,_,e⟩:=x;exact Heap.lt_size e
 |frz ob u=>obtain ⟨e,_⟩:=x;exact Heap.lt_size e
 |tbl ps=>exact Heap.lt_size (show h.get? a=some _ from x)
 |met f y=>exact Heap.lt_size (show h.get? a=some _ from x)
 |ext φ=>obtain ⟨_,⟨_,e⟩,_⟩:=x;exact Heap.lt_size e
theorem Paired.mapP {α β:Type} {F G:α->β->Prop}:∀ {l₁:List α} {l₂:List β},Paired F l₁ l₂->(∀ a b,F a b->G a b)->Paired G l₁ l₂
 |_,_,.nil,_ => .nil
 |_,_,.cons r t,f => .cons (f _ _ r) (Paired.mapP t f)
theorem ObjOk.stay (x:ObjOk P w H h a o) (k:∀ b u,(b=a∨H b=some (.own a))->h.get? b=some u->h'.get? b=some u)
  (ho:∀ b,H b=some (.own a)->H' b=some (.own a)) (ht:∀ b xs,H b=some (.tup xs)->H' b=some (.tup xs)):ObjOk P w H' h' a o:=by
 induction o with
 |lst xs=>obtain ⟨z,its,n,r,e⟩:=x;exact ⟨z,its,n,r,k _ _ (.inl rfl) e⟩
 |tup xs=>obtain ⟨z,its,r,ob,e,c⟩:=x;exact ⟨z,its,r,ob,k _ _ (.inl rfl) e,c⟩
 |dK kvs=>obtain ⟨z,y,vs,r,ob,es,ep,e,c⟩:=x;exact ⟨z,y,vs,r,ob,es,ep,k _ _ (.inl rfl) e,c⟩
 |dT kvs =>
  obtain ⟨z,y,xs,r,ob,es,ep,e,c⟩:=x
  exact ⟨z,y,xs,Paired.mapP r fun p q z=>⟨z.1,ht _ _ z.2.1,z.2.2⟩,ob,es,ep,k _ _ (.inl rfl) e,c⟩
 |set S n=>obtain ⟨ob,es,ep,t,e,c⟩:=x;exact ⟨ob,es,ep,t,k _ _ (.inl rfl) e,c⟩
 |ins C dx fs =>
  obtain ⟨d,z,ne,e,mA,⟨od,es,ep,e2,c⟩,r⟩:=x
  exact ⟨ho _ d,z,ne,k _ _ (.inl rfl) e,mA,⟨od,es,ep,k _ _ (.inr d) e2,c⟩,r⟩
 |own y=>obtain ⟨ob,e⟩:=x;exact ⟨ob,k _ _ (.inl rfl) e⟩
 |xd fs=>obtain ⟨mA,⟨od,es,ep,e,c⟩,r⟩:=x;exact ⟨mA,⟨od,es,ep,k _ _ (.inl rfl) e,c⟩,r⟩
 |rng lo hi=>obtain ⟨t,u,v,e⟩:=x;exact ⟨t,u,v,k _ _ (.inl rfl) e⟩
 |frz ob u ih=>obtain ⟨e,q⟩:=x;exact ⟨k _ _ (.inl rfl) e,ih q⟩
 |tbl ps =>
  have e:h.get? a=some { cls := .none,data := .fields ps }:=x
  show h'.get? a=some { cls := .none,data := .fields ps }
  exact k a _ (.inl rfl) e
 |met f y =>
  have e:h.get? a=some (PySem.W.methodObj (.ref f) (.ref y)):=x
  show h'.get? a=some (PySem.W.methodObj (.ref f) (.ref y))
  exact k a _ (.inl rfl) e
 |ext φ=>obtain ⟨p,⟨o,e⟩,st⟩:=x;exact ⟨st _ _ p fun o q=>k _ _ (.inl rfl) q,⟨o,k _ _ (.inl rfl) e⟩,st⟩
theorem HOk.lt (x:HOk P w H h) (e:H a=some o):a < h.objs.size:=(x a o e).lt
theorem HOk.fresh (x:HOk P w H h) (e:h.objs.size≤a):H a=none:=by
 cases q:H a with
 |none=>rfl
 |some u=>exact absurd (Nat.lt_of_lt_of_le (x.lt q) e) (Nat.lt_irrefl _)
theorem HOk.kept (x:HOk P w H h) (k:∀ b u,h.get? b=some u->h'.get? b=some u):HOk P w H h':=fun a o e =>
 (x a o e).stay (fun b u _ q=>k b u q) (fun _ q=>q) fun _ _ q=>q
theorem HOk.laid (x:HOk P w H h) (k:∀ b u,h.get? b=some u->h'.get? b=some u) (hp:h.objs.size≤a) (new:ObjOk P w (upd H a o) h' a o):HOk P w (upd H a o) h':=fun b u e=>by
 have hn:=x.fresh hp
 by_cases hb:b=a
 ·subst hb;rw [QG] at e;cases e;exact new
 ·rw [qN hb] at e
  exact (x b u e).stay (fun c v _ q=>k c v q) (fun c q=>by rw [qN (qM q hn)];exact q) fun c xs q=>by rw [qN (qM q hn)];exact q
end
def Rd (H:Hp) (a:Addr) (u:HO):Prop:=H a=some u ∨ ∃ o,H a=some (.frz o u)
theorem Rd.ok {P:Program} {w:World} {H:Hp} {h:Heap} {a:Addr} {u:HO} (r:Rd H a u) (x:HOk P w H h):ObjOk P w H h a u:=by
 rcases r with r |⟨o,r⟩
 ·exact x a u r
 ·obtain ⟨_,q⟩:=x a _ r
  exact q
def Mut:Option HO->Prop
 |some (.lst _)=>True
 |some (.dK _)=>True
 |some (.dT _)=>True
 |some (.set _ _)=>True
 |some (.ins _ _ _)=>True
 |some (.ext _)=>True
 |_=>False
section
variable {P:Program} {w:World} {H:Hp} {h h':Heap} {x e:Addr} {o':HO}
theorem HOk.write (ok:HOk P w H h) (mu:Mut (H x)) (he:e=x∨H e=some (.own x)) (k:∀ b u,b≠e->h.get? b=some u->h'.get? b=some u) (heo:∃ u,h'.get? e=some u)
  (new:ObjOk P w (upd H x o') h' x o'):HOk P w (upd H x o') h':=fun b u q=>by
 have nown:∀ c y,H c=some (.own y)->c≠x:=fun c y r z=>by subst z;rw [r] at mu;exact mu
 have ntup:∀ c xs,H c=some (.tup xs)->c≠x:=fun c xs r z=>by subst z;rw [r] at mu;exact mu
 by_cases hb:b=x
 ·subst hb;rw [QG] at q;cases q;exact new
 ·rw [qN hb] at q
  by_cases hbe:b=e
  ·have q':H b=some (.own x):=by
    rcases he with z |z
    ·exact absurd (hbe.trans z) hb
    ·rw [hbe];exact z
   rw [q] at q';cases q'
   obtain ⟨v,hv⟩:=heo
   exact ⟨v,by rw [hbe];exact hv⟩
  ·refine (ok b u q).stay (fun c v hc r=>k c v ?_ r) (fun c r=>by rw [qN (nown c b r)];exact r) fun c xs r=>by rw [qN (ntup c xs r)];exact r
   rcases hc with rfl |hc
   ·exact hbe
   ·rintro rfl
    rcases he with z |z
    ·exact nown c b hc z
    ·rw [hc] at z;cases z;exact hb rfl
end
structure Un (fs ex:List Addr) (H H':Hp) (h h':Heap):Prop where
 keep:∀ b o,h.get? b=some o->H b=none->b ∉ fs->b ∉ ex->h'.get? b=some o
 slot:∀ b o,h.get? b=some o->H b=none->b∈fs->b ∉ ex -> ∃ sl,h'.get? b=some { o with slots:=sl }
 free:∀ b o,h.get? b=some o->H b=none->b ∉ ex->H' b=none
 there:∀ b o,h.get? b=some o->b ∉ ex -> ∃ o',h'.get? b=some o'
 tups:∀ b xs,H b=some (.tup xs)->H' b=some (.tup xs)
 frzs:∀ b o u,H b=some (.frz o u)->H' b=some (.frz o u)
 tbls:∀ b ps,H b=some (.tbl ps) -> ∃ more,H' b=some (.tbl (ps++more))
section
variable {fs fs' ex ex':List Addr} {H H1 H2:Hp} {h h1 h2 h':Heap} {a x e:Addr} {o:HO}
theorem Un.any (u:Un fs ex H H1 h h1) {b:Addr} {ob:Obj} (q:h.get? b=some ob) (n:H b=none) (hx:b ∉ ex):∃ sl,h1.get? b=some { ob with slots:=sl }:=by
 by_cases hb:b∈fs
 ·exact u.slot b ob q n hb hx
 ·exact ⟨ob.slots,u.keep b ob q n hb hx⟩
theorem Un.kept (k:∀ b u,h.get? b=some u->h'.get? b=some u):Un fs ex H H h h' :=
 ⟨fun b ob q _ _ _=>k b ob q,fun b ob q _ _ _=>⟨ob.slots,k b ob q⟩,fun _ _ _ n _=>n,fun b ob q _=>⟨ob,k b ob q⟩,fun _ _ q=>q,fun _ _ _ q=>q,fun _ ps q=>⟨#[],by rw [q];simp⟩⟩
theorem Un.refl:Un fs ex H H h h:=Un.kept fun _ _ q=>q
theorem Un.laid (k:∀ b u,h.get? b=some u->h'.get? b=some u) (hp:h.objs.size≤a) (hn:H a=none):Un fs ex H (upd H a o) h h' where
 keep:=fun b u q _ _ _=>k b u q
 slot:=fun b u q _ _ _=>⟨u.slots,k b u q⟩
 free:=fun b u q n _=>by rw [qN (Nat.ne_of_lt (Nat.lt_of_lt_of_le (Heap.lt_size q) hp))];exact n
 there:=fun b u q _=>⟨u,k b u q⟩
 tups:=fun b xs q=>by rw [qN (qM q hn)];exact q
 frzs:=fun b u xs q=>by rw [qN (qM q hn)];exact q
 tbls:=fun b ps q=>⟨#[],by rw [qN (qM q hn),q];simp⟩
theorem Un.write (mu:Mut (H x)) (he:e=x∨H e=some (.own x)) (k:∀ b u,b≠e->h.get? b=some u->h'.get? b=some u) (heo:∃ u,h'.get? e=some u):Un fs ex H (upd H x o) h h':=by
 have hx:∀ b,H b=none->b≠x:=fun b n z=>by subst z;rw [n] at mu;exact mu
 have hb:∀ b,H b=none->b≠e:=fun b n z=>by
  subst z
  rcases he with r |r
  ·exact hx b n r
  ·rw [n] at r;cases r
 have hm:∀ b u,H b=some u -> ¬ Mut (some u)->b≠x:=fun b u q nm z=>by subst z;rw [q] at mu;exact nm mu
 refine ⟨fun b u q n _ _=>k b u (hb b n) q,fun b u q n _ _=>⟨u.slots,k b u (hb b n) q⟩,fun b u q n _=>by rw [qN (hx b n)];exact n,fun b u q _ => ?_,
  fun b xs q=>by rw [qN (hm b _ q fun z=>z)];exact q,fun b u xs q=>by rw [qN (hm b _ q fun z=>z)];exact q,fun b ps q=>⟨#[],by rw [qN (hm b _ q fun z=>z),q];simp⟩⟩
 by_cases hbe:b=e
 ·subst hbe;exact heo
 ·exact ⟨u,k b u hbe q⟩
end
def trk (h:Heap) (H:Hp):List Addr:=(List.range h.objs.size).filter fun a=>(H a).isSome
def YQ (h:Heap) (H:Hp):Heap:=PySem.W.hideAll h (trk h H)
theorem qAs (h:Heap) (H:Hp):(YQ h H).objs.size=h.objs.size:=PySem.W.hideAll_size _ _
theorem qDL {h:Heap} {H:Hp} {b:Addr} {o:Obj} (e:h.get? b=some o) (n:H b=none):(YQ h H).get? b=some o :=
 PySem.W.hideAll_get _ e fun hm=>by
  have q:(H b).isSome=true:=(List.mem_filter.mp hm).2
  rw [n] at q;simp at q
theorem qEj {h:Heap} {H:Hp} {b:Addr} {o:Obj} (e:(YQ h H).get? b=some o):h.get? b=some o∧H b=none:=by
 have e':h.get? b=some o:=PySem.W.of_hideAll (trk h H) e
 refine ⟨e',?_⟩
 cases q:H b with
 |none=>rfl
 |some x =>
  have hm:b∈trk h H:=List.mem_filter.mpr ⟨List.mem_range.mpr (Heap.lt_size e'),by simp [q]⟩
  have z:(YQ h H).get? b=none:=PySem.W.hideAll_none (trk h H) hm
  rw [z] at e;cases e
end L2
namespace L2
open PySem PySem.Spec PyProof.Rows
structure Mod (K:W.Frag) (mg:Str->Option Value) (base:Heap):Prop where
 kin:K.In base
 glob:base.Ns mainGlobals mg
 blt:∃ mb,base.Ns builtinsNs mb ∧ ∀ x:Str,x ≠ "__name__" -> mb x=bootBuiltins x
 nolimit:base.NoLimit
structure Cx where
 prog:Program
 w:World
 K:W.Frag
 mg:Str->Option Value
 base:Heap
 A:Around
 N:List Str
 s₀:Shared
 H₀:Hp
 env:Env
 outer:List Env
 stack:List Env
 ex:List Addr
 fn:Str->Bool
 calm:Bool
 pn:List (Addr×Obj)
 xe:Value->Shared->Prop
def frs (l:List Env):List Addr:=l.filterMap (·.frame)
abbrev Cx.fs (X:Cx):List Addr:=frs X.outer
def Vis (sc:Scope) (x:Str):Prop:=sc.names.lookup x=some .local∨sc.names.lookup x=some .cell∨sc.names.lookup x=some .free
def Loc (sc:Scope) (x:Str):Prop:=sc.names.lookup x=some .local∨sc.names.lookup x=some .cell
def qG9 (env:Env) (h:Heap) (m:Str->Option Value) (x:Str) (u:Value):Prop :=
 (env.kindOf x=some .local∧m x=some u)∨((env.kindOf x=some .cell∨env.kindOf x=some .free) ∧ ∃ c,env.cells.lookup x=some c∧h.IsCell c (some u))
structure Cx.Ok (X:Cx):Prop where
 mod:Mod X.K X.mg X.base
 kind:X.env.scope.kind = .function
 glob:X.env.globals=mainGlobals
 blt:X.env.builtins=builtinsNs
 above:X.s₀.heap.objs.size≤X.env.locals
 inj:∀ x y c,X.env.cells.lookup x=some c->X.env.cells.lookup y=some c->x=y
 has:∀ x,(X.env.kindOf x=some .cell∨X.env.kindOf x=some .free) -> ∃ c,X.env.cells.lookup x=some c
 cab:∀ x c,X.fn x=true->X.env.cells.lookup x=some c->X.s₀.heap.objs.size≤c
 hd:X.calm=true->X.A.handled=none
 frames:X.A.frames=some X.stack
 stk:X.stack=X.outer∨(X.stack=X.env::X.outer∧X.env.frame=some X.env.locals)
 exf:∀ b∈X.ex,b≠X.env.locals ∧ ∀ x c,X.env.cells.lookup x=some c->c≠b
 bs:∀ b o,X.base.get? b=some o->X.s₀.heap.get? b=some o∧X.H₀ b=none
 bsz:X.base.objs.size≤X.s₀.heap.objs.size
 noex:∀ b o,X.base.get? b=some o->b ∉ X.ex
 exfs:∀ b∈X.ex,b ∉ X.fs
 funs:X.s₀.heap.FunFrames X.base X.outer
 frf:∀ b∈X.fs,X.H₀ b=none
def HndH (A:Around) (H:Hp):Prop := ∀ v,A.handled=some v -> ∃ ea oe u vs,v=Value.ref ea∧H ea=some (.frz oe u)∧oe.data = .fields vs∧vs[2]? = some .none
theorem HndH.none {A:Around} {H:Hp} (h:A.handled=none):HndH A H:=fun v e=>by rw [h] at e;cases e
structure Inv (X:Cx) (pins:List (Addr×Obj)) (σ:List (Option V)) (H:Hp) (s:Shared):Prop where
 ok:X.Ok
 os:s.os=X.s₀.os
 bare:AllBare s.gens
 base:Un X.fs X.ex X.H₀ H X.s₀.heap s.heap
 loc:∃ m,s.heap.Ns X.env.locals m ∧ ∀ (i:Nat) (x:Str) (v:V),X.N[i]? = some x->σ[i]? = some (some v)->Vis X.env.scope x -> ∃ u,RelV v u∧qG9 X.env s.heap m x u
 cell:∀ x c,X.env.cells.lookup x=some c -> ∃ v,s.heap.IsCell c v
 free:H X.env.locals=none
 freeC:∀ x c,X.env.cells.lookup x=some c->H c=none
 pin:∀ p∈X.pn++pins,s.heap.get? p.1=some p.2∧H p.1=none∧p.1≠X.env.locals∧p.1 ∉ X.fs ∧ ∀ v,p.2.data ≠ .cell v
 hok:HOk X.prog X.w H s.heap
 len:σ.length=X.N.length
 hnd:HndH X.A H
section
variable {X:Cx} {pins:List (Addr×Obj)} {σ:List (Option V)} {H H':Hp} {s:Shared} {h':Heap}
theorem Cx.Ok.nofr (ok:X.Ok) {b:Addr} {o:Obj} (e:X.base.get? b=some o):b ∉ X.fs:=fun hb=>by
 have:=(ok.funs.mem hb).1
 rw [e] at this;cases this
theorem Inv.bs (I:Inv X pins σ H s):∀ b o,X.base.get? b=some o->s.heap.get? b=some o∧H b=none:=fun b o e =>
 ⟨I.base.keep b o (I.ok.bs b o e).1 (I.ok.bs b o e).2 (I.ok.nofr e) (I.ok.noex b o e),I.base.free b o (I.ok.bs b o e).1 (I.ok.bs b o e).2 (I.ok.noex b o e)⟩
theorem Inv.bk (I:Inv X pins σ H s):∀ b o,X.base.get? b=some o->s.heap.get? b=some o:=fun b o e=>(I.bs b o e).1
theorem Inv.mod (I:Inv X pins σ H s):Mod X.K X.mg X.base:=I.ok.mod
theorem Inv.kIn (I:Inv X pins σ H s):X.K.In s.heap:=I.ok.mod.kin.keeps I.bk
theorem Inv.lt (I:Inv X pins σ H s):X.env.locals < s.heap.objs.size:=let ⟨_,hn,_⟩:=I.loc;hn.lt
theorem Inv.sz (I:Inv X pins σ H s):X.s₀.heap.objs.size≤s.heap.objs.size:=Nat.le_trans I.ok.above (Nat.le_of_lt I.lt)
theorem Inv.nofs (I:Inv X pins σ H s) {a:Addr} (h:s.heap.objs.size≤a):a ∉ X.fs:=fun hb=>by
 obtain ⟨_,o,ho,_⟩:=I.ok.funs.mem hb
 exact absurd (Nat.lt_of_lt_of_le (Heap.lt_size ho) (Nat.le_trans I.sz h)) (Nat.lt_irrefl _)
theorem Inv.cne (I:Inv X pins σ H s):∀ x c,X.env.cells.lookup x=some c->c≠X.env.locals:=fun x c e z=>by
 obtain ⟨v,o,ho,hd⟩:=I.cell x c e
 obtain ⟨m,⟨o',es,ep,ho',hd',_⟩,_⟩:=I.loc
 rw [z,ho'] at ho;cases ho;rw [hd'] at hd;cases hd
theorem Inv.funs (I:Inv X pins σ H s):s.heap.FunFrames X.base X.outer:=by
 have all:∀ (l:List Env),(∀ b∈frs l,b∈X.fs)->X.s₀.heap.FunFrames X.base l->s.heap.FunFrames X.base l:=by
  intro l
  induction l with
  |nil=>intro _ _;trivial
  |cons env r ih =>
   intro hs hl
   obtain ⟨hk,⟨L,o,hf,hn,ho,hd⟩,hr⟩:=hl
   have hL:L∈X.fs:=hs L (by unfold frs;rw [List.filterMap_cons,hf];exact List.mem_cons_self)
   obtain ⟨sl,e⟩:=I.base.slot L o ho (I.ok.frf L hL) hL fun z=>I.ok.exfs L z hL
   exact ⟨hk,⟨L,_,hf,hn,e,hd⟩,ih (fun b hb=>hs b (by unfold frs;rw [List.filterMap_cons,hf];exact List.mem_cons_of_mem _ hb)) hr⟩
 exact all X.outer (fun _ hb=>hb) I.ok.funs
theorem Inv.stack (I:Inv X pins σ H s):s.heap.FunFrames X.base X.stack:=by
 rcases I.ok.stk with e |⟨e,hf⟩
 ·rw [e];exact I.funs
 ·rw [e]
  obtain ⟨m,hn,_⟩:=I.loc
  refine .cons (by rw [I.ok.kind];decide) hf hn ?_ I.funs
  exact Heap.get?_none_of_le (Nat.le_trans I.ok.bsz I.ok.above)
theorem Inv.stkSub (I:Inv X pins σ H s):∀ b∈frs X.stack,b∈X.env.locals::X.fs:=fun b hb=>by
 rcases I.ok.stk with e |⟨e,hf⟩
 ·rw [e] at hb;exact List.mem_cons_of_mem _ hb
 ·rw [e] at hb
  unfold frs at hb
  rw [List.filterMap_cons,hf] at hb
  exact hb
theorem Inv.stkFree (I:Inv X pins σ H s):∀ b∈frs X.stack,H b=none:=fun b hb=>by
 rcases List.mem_cons.mp (I.stkSub b hb) with e |hb
 ·rw [e];exact I.free
 ·obtain ⟨_,o,ho,_⟩:=I.ok.funs.mem hb
  exact I.base.free b o ho (I.ok.frf b hb) fun z=>I.ok.exfs b z hb
theorem Inv.step {g':Array GenState} {t':Nat} {d':Drawn} {ch:List Addr} (I:Inv X pins σ H s)
  (hch:∀ b∈ch,(b∈X.ex∨X.s₀.heap.objs.size≤b)∧b≠X.env.locals∧(∀ x c,X.env.cells.lookup x=some c->c≠b) ∧ ∀ p∈X.pn++pins,p.1≠b)
  (keep:∀ b o,b≠X.env.locals->b ∉ X.fs->b ∉ ch->s.heap.get? b=some o->H b=none->h'.get? b=some o)
  (slot:∀ b o,b≠X.env.locals->b∈X.fs->b ∉ ch->s.heap.get? b=some o->H b=none -> ∃ sl,h'.get? b=some { o with slots:=sl }) (free:∀ b o,b ∉ ch->s.heap.get? b=some o->H b=none->H' b=none)
  (there:∀ b o,b ∉ ch->s.heap.get? b=some o -> ∃ o',h'.get? b=some o')
  (tups:∀ b xs,H b=some (.tup xs)->H' b=some (.tup xs)) (frzs:∀ b o u,H b=some (.frz o u)->H' b=some (.frz o u)) (tbls:∀ b ps,H b=some (.tbl ps) -> ∃ more,H' b=some (.tbl (ps++more)))
  (ns:∀ m,s.heap.Ns X.env.locals m->h'.Ns X.env.locals m) (hok:HOk X.prog X.w H' h') (hg:AllBare g') :
  Inv X pins σ H' { s with heap:=h',gens:=g',drawn:=d',toks:=t' }:=by
 have neL:∀ b o,X.s₀.heap.get? b=some o->b≠X.env.locals:=fun b o e=>Nat.ne_of_lt (Nat.lt_of_lt_of_le (Heap.lt_size e) I.ok.above)
 have neC:∀ b o,X.s₀.heap.get? b=some o->b ∉ X.ex->b ∉ ch:=fun b o e hx hb=>by
  rcases (hch b hb).1 with z |z
  ·exact hx z
  ·exact absurd (Nat.lt_of_lt_of_le (Heap.lt_size e) z) (Nat.lt_irrefl _)
 have cellK:∀ x c,X.env.cells.lookup x=some c -> ∀ v,s.heap.IsCell c v->h'.IsCell c v:=fun x c e v ⟨o,ho,hd⟩=>by
  have nch:c ∉ ch:=fun z=>(hch c z).2.2.1 x c e rfl
  by_cases hc:c∈X.fs
  ·obtain ⟨sl,q⟩:=slot c o (I.cne x c e) hc nch ho (I.freeC x c e)
   exact ⟨_,q,hd⟩
  ·exact ⟨o,keep c o (I.cne x c e) hc nch ho (I.freeC x c e),hd⟩
 refine ⟨I.ok,I.os,hg,⟨fun b o e n hb hx => ?_,fun b o e n hb hx => ?_,fun b o e n hx => ?_,fun b o e hx => ?_,fun b xs e=>tups b xs (I.base.tups b xs e),fun b o xs e=>frzs b o xs (I.base.frzs b o xs e),fun b ps e => ?_⟩,?_,fun x c e => ?_,?_,fun x c e => ?_,fun p hp => ?_,hok,I.len,fun v hv=>(let ⟨ea,oe,u,vs,e1,e2,e3⟩:=I.hnd v hv;⟨ea,oe,u,vs,e1,frzs _ _ _ e2,e3⟩)⟩
 ·exact keep b o (neL b o e) hb (neC b o e hx) (I.base.keep b o e n hb hx) (I.base.free b o e n hx)
 ·obtain ⟨sl,e1⟩:=I.base.slot b o e n hb hx
  obtain ⟨sl',e2⟩:=slot b _ (neL b o e) hb (neC b o e hx) e1 (I.base.free b o e n hx)
  exact ⟨sl',e2⟩
 ·obtain ⟨o',e1⟩:=I.base.there b o e hx
  exact free b o' (neC b o e hx) e1 (I.base.free b o e n hx)
 ·obtain ⟨o',e1⟩:=I.base.there b o e hx
  exact there b o' (neC b o e hx) e1
 ·obtain ⟨m1,e1⟩:=I.base.tbls b ps e
  obtain ⟨m2,e2⟩:=tbls b _ e1
  exact ⟨m1++m2,by rw [e2,Array.append_assoc]⟩
 ·obtain ⟨m,hn,hl⟩:=I.loc
  refine ⟨m,ns m hn,fun i x v e1 e2 e3 => ?_⟩
  obtain ⟨u,r,l⟩:=hl i x v e1 e2 e3
  refine ⟨u,r,?_⟩
  rcases l with l |⟨k,c,e,z⟩
  ·exact .inl l
  ·exact .inr ⟨k,c,e,cellK x c e _ z⟩
 ·obtain ⟨v,z⟩:=I.cell x c e
  exact ⟨v,cellK x c e v z⟩
 ·obtain ⟨m,⟨o,_,_,ho,_⟩,_⟩:=I.loc
  exact free _ o (fun z=>(hch _ z).2.1 rfl) ho I.free
 ·obtain ⟨v,o,ho,hd⟩:=I.cell x c e
  exact free c o (fun z=>(hch c z).2.2.1 x c e rfl) ho (I.freeC x c e)
 ·obtain ⟨e,n,ne,nf,d⟩:=I.pin p hp
  have nch:p.1 ∉ ch:=fun z=>(hch p.1 z).2.2.2 p hp rfl
  exact ⟨keep p.1 p.2 ne nf nch e n,free p.1 p.2 nch e n,ne,nf,d⟩
theorem Inv.un {t':Nat} (I:Inv X pins σ H s) (u:Un X.fs [] H H' s.heap h') (hok:HOk X.prog X.w H' h'):Inv X pins σ H' { s with heap:=h',toks:=t' }:=by
 obtain ⟨m,⟨o,es,ep,ho,r⟩,_⟩:=id I.loc
 obtain ⟨sl,hL⟩:=u.any ho I.free (by simp)
 exact I.step (g':=s.gens) (d':=s.drawn) (ch:=[]) (fun _ z=>nomatch z) (fun b o _ hb _ e n=>u.keep b o e n hb (by simp)) (fun b o _ hb _ e n=>u.slot b o e n hb (by simp)) (fun b o _ e n=>u.free b o e n (by simp)) (fun b o _ e=>u.there b o e (by simp)) u.tups u.frzs u.tbls (fun m' hm=>by
  obtain ⟨o',es',ep',ho',r'⟩:=hm
  rw [ho] at ho';cases ho'
  exact ⟨_,es',ep',hL,r'⟩) hok I.bare
theorem Inv.call {g':Array GenState} {t':Nat} {d':Drawn} {ch:List Addr} (I:Inv X pins σ H s) (u:Un (frs X.stack) ch H H' s.heap h') (hok:HOk X.prog X.w H' h') (hg:AllBare g')
  (hch:∀ b∈ch,(b∈X.ex∨X.s₀.heap.objs.size≤b)∧b≠X.env.locals∧(∀ x c,X.env.cells.lookup x=some c->c≠b) ∧ ∀ p∈X.pn++pins,p.1≠b) :
  Inv X pins σ H' { s with heap:=h',gens:=g',drawn:=d',toks:=t' }:=by
 obtain ⟨m,⟨o,es,ep,ho,r⟩,_⟩:=id I.loc
 obtain ⟨sl,hL⟩:=u.any ho I.free fun z=>(hch _ z).2.1 rfl
 exact I.step (ch:=ch) hch (fun b o hL hb hc e n=>u.keep b o e n (fun z=>(List.mem_cons.mp (I.stkSub b z)).elim hL hb) hc) (fun b o _ _ hc e n=>u.any e n hc) (fun b o hc e n=>u.free b o e n hc) (fun b o hc e=>u.there b o e hc) u.tups u.frzs u.tbls (fun m' hm=>by
  obtain ⟨o',es',ep',ho',r'⟩:=hm
  rw [ho] at ho';cases ho'
  exact ⟨_,es',ep',hL,r'⟩) hok hg
theorem Inv.turned {t':Nat} {it:Addr} (I:Inv X pins σ H s) (k:∀ b o,b≠it->s.heap.get? b=some o->h'.get? b=some o) (hn:H it=none) (hL:it≠X.env.locals)
  (h1:it∈X.ex∨X.s₀.heap.objs.size≤it) (h2:∀ x c,X.env.cells.lookup x=some c->c≠it) (h3:∀ p∈X.pn++pins,p.1≠it):Inv X pins σ H { s with heap:=h',toks:=t' }:=by
 have nit:∀ b u,H b=some u->b≠it:=fun b u e z=>by rw [z,hn] at e;cases e
 refine I.step (g':=s.gens) (d':=s.drawn) (ch:=[it]) (fun b hb => ?_) (fun b o _ _ hc e _=>k b o (fun z=>hc (by simp [z])) e) (fun b o _ _ hc e _=>⟨o.slots,k b o (fun z=>hc (by simp [z])) e⟩) (fun _ _ _ _ n=>n)
  (fun b o hc e=>⟨o,k b o (fun z=>hc (by simp [z])) e⟩) (fun _ _ e=>e) (fun _ _ _ e=>e) (fun b ps e=>⟨#[],by rw [e];simp⟩) (fun m hm => ?_) (fun b u e => ?_) I.bare
 ·have e:b=it:=by simpa using hb
  subst e
  exact ⟨h1,hL,h2,h3⟩
 ·obtain ⟨o,es,ep,ho,r⟩:=hm
  exact ⟨o,es,ep,k _ o (Ne.symm hL) ho,r⟩
 ·refine (I.hok b u e).stay (fun c v hc q=>k c v ?_ q) (fun _ q=>q) fun _ _ q=>q
  rcases hc with z |z
  ·rw [z];exact nit b u e
  ·exact nit c _ z
theorem Inv.tok (I:Inv X pins σ H s) (t:Nat):Inv X pins σ H { s with toks:=t }:=I.un (h':=s.heap) (t':=t) Un.refl I.hok
theorem Inv.kept {t':Nat} (I:Inv X pins σ H s) (k:∀ b u,s.heap.get? b=some u->h'.get? b=some u):Inv X pins σ H { s with heap:=h',toks:=t' }:=I.un (Un.kept k) (I.hok.kept k)
theorem Inv.laid {a:Addr} {o:HO} {t':Nat} (I:Inv X pins σ H s) (k:∀ b u,s.heap.get? b=some u->h'.get? b=some u) (hp:s.heap.objs.size≤a) (new:ObjOk X.prog X.w (upd H a o) h' a o) :
  Inv X pins σ (upd H a o) { s with heap:=h',toks:=t' }:=I.un (Un.laid k hp (I.hok.fresh hp)) (I.hok.laid k hp new)
theorem Inv.write {x e:Addr} {o:HO} {t':Nat} (I:Inv X pins σ H s) (mu:Mut (H x)) (he:e=x∨H e=some (.own x)) (k:∀ b u,b≠e->s.heap.get? b=some u->h'.get? b=some u) (heo:∃ u,h'.get? e=some u)
  (new:ObjOk X.prog X.w (upd H x o) h' x o):Inv X pins σ (upd H x o) { s with heap:=h',toks:=t' }:=I.un (Un.write mu he k heo) (I.hok.write mu he k heo new)
theorem Inv.pins_of {pins':List (Addr×Obj)} (I:Inv X pins σ H s) (h:∀ p∈pins',s.heap.get? p.1=some p.2∧H p.1=none∧p.1≠X.env.locals∧p.1 ∉ X.fs ∧ ∀ v,p.2.data ≠ .cell v):Inv X pins' σ H s :=
 ⟨I.ok,I.os,I.bare,I.base,I.loc,I.cell,I.free,I.freeC,fun p hp=>(List.mem_append.mp hp).elim (fun z=>I.pin p (List.mem_append_left _ z)) (h p),I.hok,I.len,I.hnd⟩
theorem Zv {N:List Str} (hN:N.Nodup) {i j:Nat} {x:Str} (a:N[i]? = some x) (b:N[j]? = some x):i=j:=by
 obtain ⟨h1,e1⟩:=List.getElem?_eq_some_iff.mp a
 obtain ⟨h2,e2⟩:=List.getElem?_eq_some_iff.mp b
 exact (List.getElem_inj hN).mp (e1.trans e2.symm)
theorem qAy {M:Model} {A:Around} {E:Value->Shared->Prop} {i:Nat} {x:Str} {v:V} {u:Value} {Q:Unit->Shared->Prop} (I:Inv X pins σ H s) (hN:X.N.Nodup) (hi:X.N[i]? = some x) (hx:Loc X.env.scope x) (r:RelV v u)
  (h:∀ s',Inv X pins (σ.set i (some v)) H s'->(∃ a,Heap.SameBut a s.heap s'.heap∧(a=X.env.locals∨X.env.cells.lookup x=some a))->Q () s') (hf:X.fn x=true∨X.env.scope.names.lookup x=some .local:=by first |exact .inl rfl |exact .inr rfl |assumption):wpAny M A (storeName X.env x u) Q E s:=by
 obtain ⟨m,hn,hl⟩:=id I.loc
 have hcls:(X.env.scope.kind == .class || (X.env.scope.kind == .module&&X.env.locals != X.env.globals))=false:=by rw [I.ok.kind];rfl
 have hiσ:i < σ.length:=by rw [I.len];exact (List.getElem?_eq_some_iff.mp hi).1
 have cne:=I.cne
 have tracked:∀ {a:Addr} {h':Heap},(∃ o,s.heap.get? a=some o∧H a=none)->Heap.SameBut a s.heap h'->HOk X.prog X.w H h':=fun {a h'} ha hs b ob e=>by
  obtain ⟨_,_,hfree⟩:=ha
  refine (I.hok b ob e).stay (fun c w' hc q=>(hs.2 c ?_).trans q) (fun _ q=>q) fun _ _ q=>q
  rintro rfl
  rcases hc with rfl |hc
  ·rw [hfree] at e;cases e
  ·rw [hfree] at hc;cases hc
 rcases hx with hk |hk
 ·refine wpAny_storeName_local hk hn (fun h' hn' hs => ?_) hcls
  obtain ⟨oL,_,_,hoL,_⟩:=id hn
  refine h _ ⟨I.ok,I.os,I.bare,⟨fun b o e n hb hx => ?_,fun b o e n hb hx => ?_,I.base.free,fun b o e hx => ?_,I.base.tups,I.base.frzs,I.base.tbls⟩,⟨_,hn',fun j y v' e1 e2 e3 => ?_⟩,fun y c e => ?_,I.free,I.freeC,fun p hp => ?_,tracked ⟨oL,hoL,I.free⟩ hs,by simpa using I.len,I.hnd⟩ ⟨_,hs,.inl rfl⟩
  ·exact (hs.2 b (Nat.ne_of_lt (Nat.lt_of_lt_of_le (Heap.lt_size e) I.ok.above))).trans (I.base.keep b o e n hb hx)
  ·obtain ⟨sl,e1⟩:=I.base.slot b o e n hb hx
   exact ⟨sl,(hs.2 b (Nat.ne_of_lt (Nat.lt_of_lt_of_le (Heap.lt_size e) I.ok.above))).trans e1⟩
  ·obtain ⟨o',e1⟩:=I.base.there b o e hx
   exact ⟨o',(hs.2 b (Nat.ne_of_lt (Nat.lt_of_lt_of_le (Heap.lt_size e) I.ok.above))).trans e1⟩
  ·by_cases hj:j=i
   ·subst hj
    rw [hi] at e1;cases e1
    rw [List.getElem?_set_self hiσ] at e2
    cases e2
    exact ⟨u,r,.inl ⟨hk,by simp⟩⟩
   ·rw [List.getElem?_set_ne (Ne.symm hj)] at e2
    obtain ⟨u',r',q⟩:=hl j y v' e1 e2 e3
    refine ⟨u',r',?_⟩
    rcases q with ⟨k,e⟩ |⟨k,c,e,z⟩
    ·refine .inl ⟨k,?_⟩
     have:y≠x:=fun e=>hj (Zv hN e1 (e ▸ hi))
     simp [this,e]
    ·exact .inr ⟨k,c,e,z.sameBut hs (cne y c e)⟩
  ·obtain ⟨w',z⟩:=I.cell y c e
   exact ⟨w',z.sameBut hs (cne y c e)⟩
  ·obtain ⟨e,n,ne,nf,d⟩:=I.pin p hp
   exact ⟨(hs.2 p.1 ne).trans e,n,ne,nf,d⟩
 ·have hfn:X.fn x=true:=by
   rcases hf with z |z
   ·exact z
   ·rw [z] at hk;cases hk
  obtain ⟨c,hc⟩:=I.ok.has x (.inl hk)
  obtain ⟨w',z⟩:=I.cell x c hc
  refine wpAny_storeName_cell I.ok.kind hk hc z (fun h' hc' hs => ?_)
  obtain ⟨oc,hoc,hocd⟩:=id z
  refine h { s with heap:=h' } ⟨I.ok,I.os,I.bare,⟨fun b o e n hb hx => ?_,fun b o e n hb hx => ?_,I.base.free,fun b o e hx => ?_,I.base.tups,I.base.frzs,I.base.tbls⟩,⟨m,hn.sameBut hs (Ne.symm (cne x c hc)),fun j y v' e1 e2 e3 => ?_⟩,fun y c' e => ?_,I.free,I.freeC,fun p hp => ?_,tracked ⟨oc,hoc,I.freeC x c hc⟩ hs,by simpa using I.len,I.hnd⟩ ⟨c,hs,.inr hc⟩
  ·exact (hs.2 b (Nat.ne_of_lt (Nat.lt_of_lt_of_le (Heap.lt_size e) (I.ok.cab x c hfn hc)))).trans (I.base.keep b o e n hb hx)
  ·obtain ⟨sl,e1⟩:=I.base.slot b o e n hb hx
   exact ⟨sl,(hs.2 b (Nat.ne_of_lt (Nat.lt_of_lt_of_le (Heap.lt_size e) (I.ok.cab x c hfn hc)))).trans e1⟩
  ·obtain ⟨o',e1⟩:=I.base.there b o e hx
   exact ⟨o',(hs.2 b (Nat.ne_of_lt (Nat.lt_of_lt_of_le (Heap.lt_size e) (I.ok.cab x c hfn hc)))).trans e1⟩
  ·by_cases hj:j=i
   ·subst hj
    rw [hi] at e1;cases e1
    rw [List.getElem?_set_self hiσ] at e2
    cases e2
    exact ⟨u,r,.inr ⟨.inl hk,c,hc,hc'⟩⟩
   ·rw [List.getElem?_set_ne (Ne.symm hj)] at e2
    obtain ⟨u',r',q⟩:=hl j y v' e1 e2 e3
    refine ⟨u',r',?_⟩
    rcases q with q |⟨k,c',e,z'⟩
    ·exact .inl q
    ·refine .inr ⟨k,c',e,z'.sameBut hs ?_⟩
     rintro rfl
     exact hj (Zv hN e1 (I.ok.inj _ _ _ e hc ▸ hi))
  ·by_cases hcc:c'=c
   ·subst hcc;exact ⟨_,hc'⟩
   ·obtain ⟨w2,z2⟩:=I.cell y c' e
    exact ⟨w2,z2.sameBut hs hcc⟩
  ·obtain ⟨e,n,ne,nf,d⟩:=I.pin p hp
   refine ⟨(hs.2 p.1 ?_).trans e,n,ne,nf,d⟩
   intro q
   rw [q,hoc] at e
   have q':oc=p.2:=Option.some.inj e
   exact d w' (by rw [← q'];exact hocd)
theorem WZ {M:Model} {A:Around} {E:Value->Shared->Prop} {i:Nat} {x:Str} {v:V} {u:Value} {Q:Unit->Shared->Prop} (I:Inv X pins σ H s) (hN:X.N.Nodup) (hi:X.N[i]? = some x) (hx:Loc X.env.scope x) (r:RelV v u)
  (h:∀ s',Inv X pins (σ.set i (some v)) H s'->Q () s') (hf:X.fn x=true∨X.env.scope.names.lookup x=some .local:=by first |exact .inl rfl |exact .inr rfl |assumption):wpAny M A (storeName X.env x u) Q E s :=
 qAy I hN hi hx r (fun s' I' _=>h s' I') hf
theorem Inv.call' {s':Shared} {ch:List Addr} (I:Inv X pins σ H s) (ho:s'.os=s.os) (u:Un (frs X.stack) ch H H' s.heap s'.heap) (hok:HOk X.prog X.w H' s'.heap) (hg:AllBare s'.gens)
  (hch:∀ b∈ch,(b∈X.ex∨X.s₀.heap.objs.size≤b)∧b≠X.env.locals∧(∀ x c,X.env.cells.lookup x=some c->c≠b) ∧ ∀ p∈X.pn++pins,p.1≠b):Inv X pins σ H' s':=by
 obtain ⟨h',g',d',t',o'⟩:=s'
 have e:o'=s.os:=ho
 subst e
 exact I.call (g':=g') (t':=t') (d':=d') u hok hg hch
end
abbrev XK:=Value->Option Addr->Hp->Prop
abbrev St:=List (Option V)
abbrev VK:=V->Hp->Prop
abbrev TE:=St->Hp->VK->Prop
abbrev TT:=St->Hp->(Bool->Hp->Prop)->Prop
abbrev TA:=St->Hp->(List V->Hp->Prop)->Prop
structure Ends where
 nx:St->Hp->Prop
 rt:VK
 bk:St->Hp->Prop:=fun _ _=>False
 ct:St->Hp->Prop:=fun _ _=>False
abbrev TS:=Ends->St->Hp->Prop
def EP (X:Cx) (pins:List (Addr×Obj)) (σ:St) (Q:VK) (u:Value) (s':Shared):Prop := ∃ v H',Inv X pins σ H' s'∧RelV v u∧Q v H'
def TP (X:Cx) (pins:List (Addr×Obj)) (σ:St) (Q:Bool->Hp->Prop) (b:Bool) (s':Shared):Prop := ∃ H',Inv X pins σ H' s'∧Q b H'
def AP (X:Cx) (pins:List (Addr×Obj)) (σ:St) (Q:List V->Hp->Prop) (us:List Value) (s':Shared):Prop := ∃ vs H',Inv X pins σ H' s'∧Vals vs us∧Q vs H'
def SP (X:Cx) (pins:List (Addr×Obj)) (D:Ends) (f:Flow) (s':Shared):Prop :=
 match f with
 | .next => ∃ σ' H',Inv X pins σ' H' s'∧D.nx σ' H'
 | .brk => ∃ σ' H',Inv X pins σ' H' s'∧D.bk σ' H'
 | .cont => ∃ σ' H',Inv X pins σ' H' s'∧D.ct σ' H'
 | .ret u => ∃ v σ' H',Inv X pins σ' H' s'∧RelV v u∧D.rt v H'
def PE (X:Cx) (e:Expr) (t:TE):Prop :=
 ∀ (pins:List (Addr×Obj)) (s:Shared) (σ:St) (H:Hp) (Q:VK),Inv X pins σ H s->t σ H Q->wpAny (model X.prog X.w) X.A (eval e X.env) (EP X pins σ Q) X.xe s
def PT (X:Cx) (e:Expr) (t:TT):Prop :=
 ∀ (pins:List (Addr×Obj)) (s:Shared) (σ:St) (H:Hp) (Q:Bool->Hp->Prop),Inv X pins σ H s->t σ H Q->wpAny (model X.prog X.w) X.A (isTrue e X.env (eval e X.env)) (TP X pins σ Q) X.xe s
def PW (X:Cx) (e:Expr) (t:TT):Prop :=
 ∀ (whole:Sem Value) (pins:List (Addr×Obj)) (s:Shared) (σ:St) (H:Hp) (Q:Bool->Hp->Prop),Inv X pins σ H s->t σ H Q->wpAny (model X.prog X.w) X.A (isTrue e X.env whole) (TP X pins σ Q) X.xe s
theorem PW.pt {X:Cx} {e:Expr} {t:TT} (h:PW X e t):PT X e t:=h _
def PA (X:Cx) (es:List Expr) (t:TA):Prop :=
 ∀ (pos:Pos) (pins:List (Addr×Obj)) (s:Shared) (σ:St) (H:Hp) (Q:List V->Hp->Prop),Inv X pins σ H s->t σ H Q->wpAny (model X.prog X.w) X.A (spliced (backTo pos (starEach es X.env))) (AP X pins σ Q) X.xe s
def PS (X:Cx) (st:Stmt) (t:TS):Prop :=
 ∀ (pins:List (Addr×Obj)) (s:Shared) (σ:St) (H:Hp) (D:Ends),Inv X pins σ H s->t D σ H->wpAny (model X.prog X.w) X.A (exec st X.env) (SP X pins D) X.xe s
def PSs (X:Cx) (st:List Stmt) (t:TS):Prop :=
 ∀ (pins:List (Addr×Obj)) (s:Shared) (σ:St) (H:Hp) (D:Ends),Inv X pins σ H s->t D σ H->wpAny (model X.prog X.w) X.A (execs st X.env) (SP X pins D) X.xe s
theorem thn {α:Type} {t:Sem α} {Q Q':α->Shared->Prop} {M:Model} {A:Around} {E:Value->Shared->Prop} {s:Shared} (h:wpAny M A t Q E s) (hQ:∀ a s,Q a s->Q' a s):wpAny M A t Q' E s:=wpAny_mono h hQ fun _ _ x=>x
end L2
namespace L2
open PySem PySem.Spec PyProof.Rows
section
variable {X:Cx}
def qGr (i:Nat):TE:=fun σ H Q => ∃ v,σ[i]? = some (some v)∧Q v H
def tC (v:V):TE:=fun _ H Q=>Q v H
theorem qFL {i:Nat} {x:Str} {pos:Pos} (hN:X.N[i]? = some x) (hv:Vis X.env.scope x) (hd:(x==("__debug__":Str))=false:=by decide) (hcd:(x==("__classdict__":Str))=false:=by decide):PE X (.Name x pos) (qGr i):=by
 intro pins s σ H Q I h
 obtain ⟨v,e,h⟩:=h
 obtain ⟨m,hn,hl⟩:=I.loc
 obtain ⟨u,r,l⟩:=hl i x v hN e hv
 have fin:EP X pins σ Q u s:=⟨v,H,I,r,h⟩
 rcases l with ⟨hk,hm⟩ |⟨hk,c,hc,hcell⟩
 ·exact wpAny_Name (wpAny_loadName_local I.ok.kind hk hn hm fin) hd
 ·rcases hk with hk |hk
  ·exact wpAny_Name (wpAny_loadName_cell I.ok.kind hk hc hcell fin) hd
  ·exact wpAny_Name (wpAny_loadName_free I.ok.kind hk hc hcell fin hcd) hd
theorem qGe {i j pos}:PE X (.Constant (.int i) j pos) (tC (.int i)):=fun _ _ _ H _ I h=>wpAny_Constant_int ⟨.int i,H,I.tok _,⟨_,rfl⟩,h⟩
theorem qH3 {b j pos}:PE X (.Constant (.bool b) j pos) (tC (.bl b)):=fun _ _ _ H _ I h=>Constant_bool ⟨.bl b,H,I,rfl,h⟩
theorem qGC {j pos}:PE X (.Constant .none j pos) (tC .non):=fun _ _ _ H _ I h=>Constant_none ⟨.non,H,I,rfl,h⟩
theorem qGi {x j pos}:PE X (.Constant (.str x) j pos) (tC (.str x)):=fun _ _ _ H _ I h=>Calls.Constant_str ⟨.str x,H,I.tok _,⟨_,rfl⟩,h⟩
def Gl (X:Cx) (x:Str):Prop:=X.env.kindOf x=some .globalImplicit
theorem Yc {E:Value->Shared->Prop} {pins:List (Addr×Obj)} {s:Shared} {σ:St} {H:Hp} {x:Str} {u:Value} {pos:Pos} {Q:Value->Shared->Prop} (I:Inv X pins σ H s) (hg:Gl X x) (hm:X.mg x=some u) (h:Q u s)
  (hd:(x==("__debug__":Str))=false:=by decide):wpAny (model X.prog X.w) X.A (eval (.Name x pos) X.env) Q E s :=
 Calls.Name_function_global I.ok.kind hg (Calls.loadGlobal_global (by rw [I.ok.glob];exact I.mod.glob.keeps I.bk) hm h) hd
theorem zP {E:Value->Shared->Prop} {pins:List (Addr×Obj)} {s:Shared} {σ:St} {H:Hp} {x:Str} {u:Value} {pos:Pos} {Q:Value->Shared->Prop} (I:Inv X pins σ H s) (hg:Gl X x) (hm:X.mg x=none) (hv:bootBuiltins x=some u) (h:Q u s)
  (hn:x ≠ "__name__" := by decide) (hd:(x==("__debug__":Str))=false:=by decide):wpAny (model X.prog X.w) X.A (eval (.Name x pos) X.env) Q E s:=by
 obtain ⟨mb,h1,h2⟩:=I.mod.blt
 exact Calls.Name_function_global I.ok.kind hg (Calls.loadGlobal_builtin (by rw [I.ok.glob];exact I.mod.glob.keeps I.bk) hm (by rw [I.ok.blt];exact h1.keeps I.bk) ((h2 x hn).trans hv) h) hd
theorem qAX {x:Str} {v:V} {u:Value} {pos:Pos} (hg:Gl X x) (hm:X.mg x=some u) (r:RelV v u) (hd:(x==("__debug__":Str))=false:=by decide):PE X (.Name x pos) (tC v) :=
 fun _ _ _ H _ I h=>Yc I hg hm ⟨v,H,I,r,h⟩ hd
theorem qDx {x:Str} {v:V} {u:Value} {pos:Pos} (hg:Gl X x) (hm:X.mg x=none) (hv:bootBuiltins x=some u) (r:RelV v u) (hn:x ≠ "__name__" := by decide) (hd:(x==("__debug__":Str))=false:=by decide):PE X (.Name x pos) (tC v) :=
 fun _ _ _ H _ I h=>zP I hg hm hv ⟨v,H,I,r,h⟩ hn hd
variable {a b:Expr} {ta tb:TE} {pos:Pos}
variable {tA tB':TT} {rest:List Expr}
def qIV (t u:TT):TT:=fun σ H Q=>t σ H fun c H1=>if c=true then u σ H1 Q else Q false H1
def tOr (t u:TT):TT:=fun σ H Q=>t σ H fun c H1=>if c=true then Q true H1 else u σ H1 Q
def qH7 (t:TT):TT:=fun σ H Q=>t σ H fun c H1=>Q (!c) H1
theorem qDd (ha:PT X a tA):PW X (.BoolOp .And [a] pos) tA:=by
 intro wh pins s σ H Q I h
 refine isTrue_and (thn (ha pins s σ H Q I h) fun c s1 e => ?_)
 cases c with
 |true=>exact isTrue_and_nil e
 |false=>exact e
theorem qGP (ha:PT X a tA):PW X (.BoolOp .Or [a] pos) tA:=by
 intro wh pins s σ H Q I h
 refine isTrue_or (thn (ha pins s σ H Q I h) fun c s1 e => ?_)
 cases c with
 |false=>exact isTrue_or_nil e
 |true=>exact e
theorem qGo (ha:PT X a tA) (hb:PW X (.BoolOp .And (b::rest) pos) tB'):PW X (.BoolOp .And (a::b::rest) pos) (qIV tA tB'):=by
 intro wh pins s σ H Q I h
 refine isTrue_and (thn (ha pins s σ H _ I h) fun c s1 ⟨H1,I1,q1⟩ => ?_)
 cases c with
 |true=>exact hb wh pins s1 σ H1 Q I1 q1
 |false=>exact ⟨H1,I1,q1⟩
theorem qHx (ha:PT X a tA) (hb:PW X (.BoolOp .Or (b::rest) pos) tB'):PW X (.BoolOp .Or (a::b::rest) pos) (tOr tA tB'):=by
 intro wh pins s σ H Q I h
 refine isTrue_or (thn (ha pins s σ H _ I h) fun c s1 ⟨H1,I1,q1⟩ => ?_)
 cases c with
 |true=>exact ⟨H1,I1,q1⟩
 |false=>exact hb wh pins s1 σ H1 Q I1 q1
theorem qFe (ha:PT X a tA):PT X (.UnaryOp .Not a pos) (qH7 tA):=by
 intro pins s σ H Q I h
 exact isTrue_not (ha pins s σ H (fun c H1=>Q (!c) H1) I h)
def qH0 (ta tb:TE):TE:=fun σ H Q=>ta σ H fun x H1 => ∃ c,x = .bl c∧if c=true then tb σ H1 Q else Q (.bl false) H1
def qHv (ta:TE):TE:=fun σ H Q=>ta σ H fun x H1 => ∃ c,x = .bl c∧Q (.bl (!c)) H1
theorem qFN {op} {t:TE} (h:PE X a t):PE X (.BoolOp op [a] pos) t:=fun pins s σ H Q I hw=>BoolOp_one (h pins s σ H Q I hw)
theorem qFm (ha:PE X a ta) (hb:PE X (.BoolOp .And (b::rest) pos) tb):PE X (.BoolOp .And (a::b::rest) pos) (qH0 ta tb):=by
 intro pins s σ H Q I h
 refine BoolOp_and (thn (ha pins s σ H _ I h) fun v s1 ⟨x,H1,I1,r1,q1⟩ => ?_)
 obtain ⟨c,rfl,q1⟩:=q1
 cases r1
 refine wpAny_truthy_bool ?_
 cases c with
 |true=>exact hb pins s1 σ H1 Q I1 q1
 |false=>exact ⟨.bl false,H1,I1,rfl,q1⟩
theorem qFI (ha:PE X a ta):PE X (.UnaryOp .Not a pos) (qHv ta):=by
 intro pins s σ H Q I h
 refine UnaryOp_ (thn (ha pins s σ H _ I h) fun v s1 ⟨x,H1,I1,r1,q1⟩ => ?_)
 obtain ⟨c,rfl,q1⟩:=q1
 cases r1
 exact not_of (wpAny_truthy_bool ⟨.bl (!c),H1,I1,rfl,q1⟩)
def tIf (t:TT) (ta tb:TE):TE:=fun σ H Q=>t σ H fun c H1=>if c=true then ta σ H1 Q else tb σ H1 Q
theorem qDM {c:Expr} (hc:PT X c tA) (ha:PE X a ta) (hb:PE X b tb):PE X (.IfExp c a b pos) (tIf tA ta tb):=by
 intro pins s σ H Q I h
 refine wpAny_IfExp (thn (hc pins s σ H _ I h) fun d s1 ⟨H1,I1,q1⟩ => ?_)
 cases d with
 |true=>exact ha pins s1 σ H1 Q I1 q1
 |false=>exact hb pins s1 σ H1 Q I1 q1
end
end L2
namespace L2
open PySem PySem.Spec PyProof.Rows
def SqL (K:W.Frag) (H:Hp) (a:Addr) (xs:List V):Prop :=
 Rd H a (.lst xs) ∨
  ∃ (o:Obj) (its:Array Value) (n:Nat),K.lookup a=some o∧o.cls = .type "list" ∧ o.dict=none∧o.data = .seq its n∧its.size≤sizeLine∧Vals xs its.toList
def SqT (K:W.Frag) (H:Hp) (a:Addr) (xs:List V):Prop :=
 Rd H a (.tup xs) ∨
  ∃ (o:Obj) (its:Array Value) (n:Nat),K.lookup a=some o∧o.cls = .type "tuple" ∧ o.data = .seq its n∧its.size≤sizeLine∧Vals xs its.toList
def qIK:Value->Option V
 | .none=>some .non
 | .bool b=>some (.bl b)
 | .int i _=>some (.int i)
 | .str x _=>some (.str x)
 | .bytes b _=>some (.byt b)
 | .float b _=>some (.flt b)
 | .ref a=>some (.ref a)
 | .type n=>some (.ty n)
 |_=>none
theorem RelV.abs {x:V} {u:Value} (r:RelV x u):qIK u=some x:=by
 cases x with
 |non=>cases r;rfl
 |bl _=>cases r;rfl
 |int _=>obtain ⟨t,rfl⟩:=r;rfl
 |str _=>obtain ⟨t,rfl⟩:=r;rfl
 |byt _=>obtain ⟨t,rfl⟩:=r;rfl
 |flt _=>obtain ⟨t,rfl⟩:=r;rfl
 |ref _=>cases r;rfl
 |ty _=>cases r;rfl
theorem RelV.inj {x y:V} {u:Value} (r:RelV x u) (q:RelV y u):x=y:=Option.some.inj (r.abs.symm.trans q.abs)
theorem Vals.inj:∀ {xs ys:List V} {us:List Value},Vals xs us->Vals ys us->xs=ys
 |_,_,_,.nil,.nil=>rfl
 |_,_,_,.cons r t,.cons r' t'=>by rw [r.inj r',Vals.inj t t']
section
variable {X:Cx} {pins:List (Addr×Obj)} {σ:St} {H:Hp} {s:Shared} {a:Addr} {xs ys:List V}
theorem SqL.of {K:W.Frag} (h:H a=some (.lst xs)):SqL K H a xs := .inl (.inl h)
theorem Inv.list (I:Inv X pins σ H s) (h:SqL X.K H a xs):∃ its:List Value,Vals xs its∧PlainL s.heap a its.toArray∧xs.length≤sizeLine:=by
 rcases h with h |⟨o,its,n,hk,hc,hd,hs,hz,r⟩
 ·obtain ⟨z,its,n,r,e⟩:=h.ok I.hok
  exact ⟨its,r,⟨_,n,e,rfl,rfl,rfl⟩,z⟩
 ·refine ⟨its.toList,r,⟨o,n,I.kIn a o hk,hc,hd,by simpa using hs⟩,?_⟩
  have e:=r.length
  simp only [Array.length_toList] at e
  omega
theorem Inv.tuple (I:Inv X pins σ H s) (h:SqT X.K H a xs):∃ its:List Value,Vals xs its∧IsTup s.heap a its.toArray∧xs.length≤sizeLine:=by
 rcases h with h |⟨o,its,n,hk,hc,hs,hz,r⟩
 ·obtain ⟨z,its,r,p⟩:=h.ok I.hok
  exact ⟨its,r,p,z⟩
 ·refine ⟨its.toList,r,⟨o,I.kIn a o hk,hc,n,by simpa using hs⟩,?_⟩
  have e:=r.length
  simp only [Array.length_toList] at e
  omega
theorem Inv.list_inj (I:Inv X pins σ H s) (h:SqL X.K H a xs) (h':SqL X.K H a ys):xs=ys:=by
 obtain ⟨its,r,⟨o,n,e,_,_,d⟩,_⟩:=I.list h
 obtain ⟨its',r',⟨o',n',e',_,_,d'⟩,_⟩:=I.list h'
 rw [e] at e';cases e'
 rw [d] at d'
 injection d' with d1 _
 have:its=its':=by simpa using congrArg Array.toList d1
 subst this
 exact r.inj r'
theorem Inv.tuple_inj (I:Inv X pins σ H s) (h:SqT X.K H a xs) (h':SqT X.K H a ys):xs=ys:=by
 obtain ⟨its,r,⟨o,e,_,n,d⟩,_⟩:=I.tuple h
 obtain ⟨its',r',⟨o',e',_,n',d'⟩,_⟩:=I.tuple h'
 rw [e] at e';cases e'
 rw [d] at d'
 injection d' with d1 _
 have:its=its':=by simpa using congrArg Array.toList d1
 subst this
 exact r.inj r'
end
abbrev Cx.wish (X:Cx) (E:Value->Shared->Prop):Cx:={ X with xe:=E }
abbrev Cx.nox (X:Cx):Cx:=X.wish fun _ _=>False
theorem Cx.Ok.wish {X:Cx} (ok:X.Ok) (E:Value->Shared->Prop):(X.wish E).Ok :=
 ⟨ok.mod,ok.kind,ok.glob,ok.blt,ok.above,ok.inj,ok.has,ok.cab,ok.hd,ok.frames,ok.stk,ok.exf,ok.bs,ok.bsz,ok.noex,ok.exfs,ok.funs,ok.frf⟩
theorem Cx.Ok.unwish {X:Cx} {E:Value->Shared->Prop} (ok:(X.wish E).Ok):X.Ok :=
 ⟨ok.mod,ok.kind,ok.glob,ok.blt,ok.above,ok.inj,ok.has,ok.cab,ok.hd,ok.frames,ok.stk,ok.exf,ok.bs,ok.bsz,ok.noex,ok.exfs,ok.funs,ok.frf⟩
section
variable {X:Cx} {pins:List (Addr×Obj)} {σ:St} {H:Hp} {s:Shared} {E:Value->Shared->Prop}
theorem Inv.wish (I:Inv X pins σ H s) (E:Value->Shared->Prop):Inv (X.wish E) pins σ H s:=⟨I.ok.wish E,I.os,I.bare,I.base,I.loc,I.cell,I.free,I.freeC,I.pin,I.hok,I.len,I.hnd⟩
theorem Inv.unwish (I:Inv (X.wish E) pins σ H s):Inv X pins σ H s:=⟨I.ok.unwish,I.os,I.bare,I.base,I.loc,I.cell,I.free,I.freeC,I.pin,I.hok,I.len,I.hnd⟩
theorem SP.unwish {D:Ends} {f:Flow} {s':Shared} (h:SP (X.wish E) pins D f s'):SP X pins D f s':=by
 cases f with
 |next=>obtain ⟨σ',H',I,q⟩:=h;exact ⟨σ',H',I.unwish,q⟩
 |brk=>obtain ⟨σ',H',I,q⟩:=h;exact ⟨σ',H',I.unwish,q⟩
 |cont=>obtain ⟨σ',H',I,q⟩:=h;exact ⟨σ',H',I.unwish,q⟩
 |ret u=>obtain ⟨v,σ',H',I,r,q⟩:=h;exact ⟨v,σ',H',I.unwish,r,q⟩
end
section
variable {X:Cx} {st:Stmt} {rest:List Stmt} {t u:TS} {e:Expr} {te:TE} {pos:Pos}
def qHs:TS:=fun D σ H=>D.nx σ H
def qIe (t u:TS):TS:=fun D σ H=>t { D with nx:=u D } σ H
theorem qET:PSs X [] qHs:=fun _ _ σ H _ I h=>wpAny_execs_nil ⟨σ,H,I,h⟩
theorem qCA (h1:PS X st t) (h2:PSs X rest u):PSs X (st::rest) (qIe t u):=by
 intro pins s σ H D I h
 refine wpAny_execs_cons (thn (h1 pins s σ H { D with nx:=u D } I h) fun f s1 q => ?_)
 cases f with
 |next =>
  obtain ⟨σ',H',I',q⟩:=q
  exact h2 pins s1 σ' H' D I' q
 |ret v=>exact q
 |brk=>exact q
 |cont=>exact q
theorem qDW (h1:PS X st t):PSs X [st] t:=by
 intro pins s σ H D I h
 refine wpAny_execs_cons (thn (h1 pins s σ H D I h) fun f s1 q => ?_)
 cases f with
 |next=>exact wpAny_execs_nil q
 |ret v=>exact q
 |brk=>exact q
 |cont=>exact q
theorem Inv.quiet {pins:List (Addr×Obj)} {σ:St} {H:Hp} {s:Shared} (I:Inv X pins σ H s):interactive X.env=false:=by simp [interactive,I.ok.kind]
def qG1 (te:TE):TS:=fun D σ H=>te σ H fun _ H1=>D.nx σ H1
theorem qAi (he:PE X e te) (hs:swapsWith e none pos.line X.env=pure false:=by rfl):PS X (.Expr e pos) (qG1 te):=by
 intro pins s σ H D I h
 exact wpAny_Expr_any (thn (he pins s σ H _ I h) fun v s1 ⟨x,H1,I1,r1,q1⟩=>⟨σ,H1,I1,q1⟩) I.quiet hs
def qII (te:TE):TS:=fun D σ H=>te σ H D.rt
theorem qCj (he:PE X e te):PS X (.Return (some e) pos) (qII te):=by
 intro pins s σ H D I h
 exact wpAny_Return_some (thn (he pins s σ H _ I h) fun v s1 ⟨x,H1,I1,r1,q1⟩=>⟨x,σ,H1,I1,r1,q1⟩)
def qIW (c:TT) (t u:TS):TS:=fun D σ H=>c σ H fun b H1=>if b=true then t D σ H1 else u D σ H1
theorem qHb {c:Expr} {a b:List Stmt} {tc:TT} (hc:PT X c tc) (ha:PSs X a t) (hb:PSs X b u):PS X (.If c a b pos) (qIW tc t u):=by
 intro pins s σ H D I h
 refine wpAny_If (thn (hc pins s σ H _ I h) fun d s1 ⟨H1,I1,q1⟩ => ?_)
 cases d with
 |true=>exact ha pins s1 σ H1 D I1 q1
 |false=>exact hb pins s1 σ H1 D I1 q1
end
abbrev TG:=V->St->Hp->(St->Hp->Prop)->Prop
abbrev TGs:=List V->St->Hp->(St->Hp->Prop)->Prop
def PG (X:Cx) (target:Expr) (t:TG):Prop :=
 ∀ (pins:List (Addr×Obj)) (s:Shared) (σ:St) (H:Hp) (v:V) (u:Value) (Q:St->Hp->Prop),Inv X pins σ H s->RelV v u->t v σ H Q ->
  wpAny (model X.prog X.w) X.A (assign target X.env u) (fun _ s' => ∃ σ' H',Inv X pins σ' H' s'∧Q σ' H') X.xe s
def PGs (X:Cx) (ts:List Expr) (t:TGs):Prop :=
 ∀ (pins:List (Addr×Obj)) (s:Shared) (σ:St) (H:Hp) (vs:List V) (us:List Value) (Q:St->Hp->Prop),Inv X pins σ H s->Vals vs us->t vs σ H Q ->
  wpAny (model X.prog X.w) X.A (assignInOrder ((assignEach ts X.env).map (·.2)) us) (fun _ s' => ∃ σ' H',Inv X pins σ' H' s'∧Q σ' H') X.xe s
abbrev qCy:=V->V->V->Hp->(Hp->Prop)->Prop
def qFY (X:Cx) (t:qCy):Prop :=
 ∀ (pins:List (Addr×Obj)) (s:Shared) (σ:St) (H:Hp) (o i v:V) (ov iv u:Value) (Q:Hp->Prop),Inv X pins σ H s->RelV o ov->RelV i iv->RelV v u->t o i v H Q ->
  wpAny (model X.prog X.w) X.A (setItem ov iv u) (fun _ s' => ∃ H',Inv X pins σ H' s'∧Q H') X.xe s
abbrev TIp:=V->V->Hp->VK->Prop
def PIp (X:Cx) (op:Operator) (t:TIp):Prop :=
 ∀ (pins:List (Addr×Obj)) (s:Shared) (σ:St) (H:Hp) (x y:V) (v u:Value) (Q:VK),Inv X pins σ H s->RelV x v->RelV y u->t x y H Q ->
  wpAny (model X.prog X.w) X.A (inplaceOp op v u) (EP X pins σ Q) X.xe s
section
variable {X:Cx} {pos:Pos}
def qCE (i:Nat):TG:=fun v σ H Q=>Q (σ.set i (some v)) H
theorem qEk {i:Nat} {x:Str} (hN:X.N.Nodup) (hi:X.N[i]? = some x) (hx:Loc X.env.scope x) (hf:X.fn x=true∨X.env.scope.names.lookup x=some .local:=by first |exact .inl rfl |exact .inr rfl |assumption):PG X (.Name x pos) (qCE i):=by
 intro pins s σ H v u Q I r h
 exact wpAny_assign_Name (WZ I hN hi hx r (fun s' I'=>⟨_,H,I',h⟩) hf)
def qIY:TGs:=fun vs σ H Q=>vs=[]∧Q σ H
def qHl (t:TG) (u:TGs):TGs:=fun vs σ H Q => ∃ v r,vs=v::r∧t v σ H fun σ' H'=>u r σ' H' Q
theorem qD3:PGs X [] qIY:=by
 intro pins s σ H vs us Q I r h
 obtain ⟨e,h⟩:=h
 subst e
 cases r
 exact assignInOrder_nil ⟨σ,H,I,h⟩
theorem qDS {e:Expr} {es:List Expr} {t:TG} {u:TGs} (h1:PG X e t) (h2:PGs X es u)
  (hs:(assignEach (e::es) X.env).map (·.2)=assign e X.env::(assignEach es X.env).map (·.2):=by rfl):PGs X (e::es) (qHl t u):=by
 intro pins s σ H vs us Q I r h
 obtain ⟨v,vr,e1,h⟩:=h
 subst e1
 cases r with
 |cons r rr =>
  rw [hs]
  refine assignInOrder_cons (thn (h1 pins s σ H _ _ _ I r h) fun _ s1 ⟨σ1,H1,I1,q1⟩ => ?_)
  exact h2 pins s1 σ1 H1 _ _ Q I1 rr q1
def qIc (K:W.Frag) (n:Nat) (t:TGs):TG:=fun v σ H Q => ∃ a xs,v = .ref a∧SqT K H a xs∧xs.length=n∧t xs σ H Q
theorem qGK {es:List Expr} {k:Nat} {t:TGs} {n:Nat} (hc:X.calm=true) (h:PGs X es t)
  (hn:(assignEach es X.env).length=n:=by rfl) (hst:(assignEach es X.env).findIdx? (·.1)=none:=by rfl):PG X (.Tuple es k pos) (qIc X.K n t):=by
 intro pins s σ H v u Q I r hw
 obtain ⟨a,xs,e1,hq,hl,hw⟩:=hw
 subst e1
 cases r
 obtain ⟨its,rv,ht,hz⟩:=I.tuple hq
 refine assign_Tuple_tuple (I.ok.hd hc) ht (by simp [hn,← hl,rv.length]) hst fun h' hx => ?_
 have I1:Inv X pins σ H { s with heap:=h' }:=I.kept (t':=s.toks) fun b o e=>hx b o (Nat.ne_of_lt (Heap.lt_size e)) e
 exact h pins _ σ H xs _ Q I1 (by simpa using rv) hw
def zW (to ti:TE) (t:qCy):TG:=fun v σ H Q=>to σ H fun o H1=>ti σ H1 fun i H2=>t o i v H2 fun H3=>Q σ H3
theorem qFa {o i:Expr} {to ti:TE} {t:qCy} (ho:PE X o to) (hi:PE X i ti) (hs:qFY X t)
  (ha:∀ v,assign (.Subscript o i pos) X.env v=(do
   let ov ← holding [v] (eval o X.env)
   let iv ← holding [v,ov] (eval i X.env)
   standAt pos
   holding [v,ov,iv] (setItem ov iv v)
   release [v,ov,iv] []):=by intro _;rfl):PG X (.Subscript o i pos) (zW to ti t):=by
 intro pins s σ H v u Q I r h
 rw [ha]
 refine wpAny_bind (wpAny_holding (thn (ho pins s σ H _ I h) fun ov s1 ⟨x,H1,I1,r1,q1⟩ => ?_))
 refine wpAny_bind (wpAny_holding (thn (hi pins s1 σ H1 _ I1 q1) fun iv s2 ⟨y,H2,I2,r2,q2⟩ => ?_))
 refine wpAny_bind (wpAny_standAt (wpAny_bind (wpAny_holding (thn (hs pins s2 σ H2 x y v ov iv u _ I2 r1 r2 r q2) fun _ s3 ⟨H3,I3,q3⟩ => ?_))))
 exact wpAny_release ⟨σ,H3,I3,q3⟩
def qGp (te:TE) (g:TG):TS:=fun D σ H=>te σ H fun x H1=>g x σ H1 D.nx
theorem qB2 {tg e:Expr} {te:TE} {g:TG} (he:PE X e te) (hg:PG X tg g) (hs:swapsWithSole [tg] e pos.line X.env=pure false:=by rfl) (hw:swappedStores [tg] e X.env=pure none:=by rfl)
  (h1:(assignEach [tg] X.env).map (·.2)=[assign tg X.env]:=by rfl):PS X (.Assign [tg] e pos) (qGp te g):=by
 intro pins s σ H D I h
 refine wpAny_Assign_stores (thn (he pins s σ H _ I h) fun v s1 ⟨x,H1,I1,r1,q1⟩ => ?_) hs hw
 rw [h1]
 exact thn (hg pins s1 σ H1 x v _ I1 r1 q1) fun _ s2 q=>q
theorem qCC {i:Nat} {x:Str} {e:Expr} {te:TE} {pos':Pos} (hN:X.N.Nodup) (hi:X.N[i]? = some x) (hx:Loc X.env.scope x) (he:PE X e te) (hs:swapsWith e (some (.Name x pos')) pos.line X.env=pure false:=by rfl) (hf:X.fn x=true∨X.env.scope.names.lookup x=some .local:=by first |exact .inl rfl |exact .inr rfl |assumption) :
  PS X (.Assign [.Name x pos'] e pos) (qGp te (qCE i)):=by
 intro pins s σ H D I h
 refine wpAny_Assign_Name (thn (he pins s σ H _ I h) fun v s1 ⟨y,H1,I1,r1,q1⟩ => ?_) hs
 exact WZ I1 hN hi hx r1 (fun s2 I2=>⟨_,H1,I2,q1⟩) hf
def qH9 (i j:Nat) (ta:TA):TS:=fun D σ H=>ta σ H fun vs H1 => ∃ v w,vs=[v,w]∧D.nx ((σ.set i (some v)).set j (some w)) H1
theorem qGZ {i j:Nat} {x y:Str} {a b:Expr} {ta:TA} {px py pt:Pos} {kt k2 pt2} (hc:X.calm=true) (hN:X.N.Nodup) (hi:X.N[i]? = some x) (hj:X.N[j]? = some y) (hij:i≠j)
  (hx:X.env.scope.names.lookup x=some .local) (hy:X.env.scope.names.lookup y=some .local) (ha:PA X [a,b] ta)
  (hw:swappedStores [.Tuple [.Name x px,.Name y py] kt pt] (.Tuple [a,b] k2 pt2) X.env=pure (some [x,y]))
  (hs:swapsWithSole [.Tuple [.Name x px,.Name y py] kt pt] (.Tuple [a,b] k2 pt2) pos.line X.env=pure false:=by rfl) :
  PS X (.Assign [.Tuple [.Name x px,.Name y py] kt pt] (.Tuple [a,b] k2 pt2) pos) (qH9 i j ta):=by
 intro pins s σ H D I h
 rw [exec_Assign_arm]
 refine wpAny_bind (wpAny_standAt ?_)
 rw [hs]
 refine wpAny_bind (wpAny_pure ?_)
 rw [if_neg (by decide)]
 refine wpAny_bind (Tuple_ (thn (ha _ pins s σ H _ I h) fun us s1 ⟨vs,H1,I1,r1,q1⟩ => ?_))
 obtain ⟨v,w,e1,q1⟩:=q1
 subst e1
 obtain ⟨u1,u2,rfl,rv,rw'⟩:∃ u1 u2,us=[u1,u2]∧RelV v u1∧RelV w u2:=by
  cases r1 with
  |cons p q =>
   cases q with
   |cons p' q' =>
    cases q'
    exact ⟨_,_,rfl,p,p'⟩
 refine wpAny_newObj_type ?_ (by show 2≤sizeLine;decide)
 have I2:Inv X pins σ H1 { s1 with heap:=s1.heap.push { cls := .type "tuple",data := .seq [u1,u2].toArray } }:=I1.kept (t':=s1.toks) fun b o e=>Heap.get?_push_of_some _ e
 rw [hw]
 refine wpAny_bind (wpAny_pure ?_)
 show wpAny (model X.prog X.w) X.A (do rule "assign.swapped-stores";let items ← unpackItems (.ref s1.heap.objs.size) 2 none;assignInOrder [fun v=>bindName X.env y v,fun v=>bindName X.env x v] items.reverse;pure Flow.next) _ _ _
 refine wpAny_bind (wpAny_rule (wpAny_bind (unpackItems_tuple (items := #[u1,u2]) (I.ok.hd hc) (IsTup.new s1.heap _) fun h' hx' => ?_)))
 have I3:=I2.kept (h':=h') (t':=s1.toks) fun b o e=>hx' b o (Nat.ne_of_lt (Heap.lt_size e)) e
 show wpAny _ _ (assignInOrder [fun v=>bindName X.env y v,fun v=>bindName X.env x v] [u2,u1] >>= fun _=>pure Flow.next) _ _ _
 refine wpAny_bind (assignInOrder_cons (wpAny_bindName (WZ I3 hN hj (.inl hy) rw' (fun s2 I4 => ?_) (.inr hy))))
 refine assignInOrder_cons (wpAny_bindName (WZ I4 hN hi (.inl hx) rv (fun s3 I5=>assignInOrder_nil (wpAny_pure ?_)) (.inr hx)))
 rw [List.set_comm _ _ (Ne.symm hij)] at I5
 exact ⟨_,H1,I5,q1⟩
def qG4 (to ti te:TE) (tget:V->V->Hp->VK->Prop) (tip:TIp) (tset:qCy):TS:=fun D σ H=>to σ H fun o H1=>ti σ H1 fun i H2=>tget o i H2 fun x H3=>te σ H3 fun y H4=>tip x y H4 fun z H5=>tset o i z H5 fun H6=>D.nx σ H6
def qHU (X:Cx) (t:V->V->Hp->VK->Prop):Prop :=
 ∀ (pins:List (Addr×Obj)) (s:Shared) (σ:St) (H:Hp) (o i:V) (ov iv:Value) (Q:VK),Inv X pins σ H s->RelV o ov->RelV i iv->t o i H Q ->
  wpAny (model X.prog X.w) X.A (getItem ov iv) (EP X pins σ Q) X.xe s
theorem qD7 {o i e:Expr} {to ti te:TE} {tget:V->V->Hp->VK->Prop} {tip:TIp} {tset:qCy} {op:Operator} {tpos:Pos} (ho:PE X o to) (hi:PE X i ti) (hg:qHU X tget) (he:PE X e te) (hp:PIp X op tip) (hs:qFY X tset)
  (ha:∀ ov iv new,augStore i ov iv new=(do holding [new,ov,iv] (setItem ov iv new);release [new,ov,iv] [];pure .next):=by intros;rfl):PS X (.AugAssign (.Subscript o i tpos) op e pos) (qG4 to ti te tget tip tset):=by
 intro pins s σ H D I h
 refine wpAny_AugAssign_SubscriptAny (thn (ho pins s σ H _ I h) fun ov s1 ⟨x1,H1,I1,r1,q1⟩ => ?_) ha
 refine thn (hi pins s1 σ H1 _ I1 q1) fun iv s2 ⟨x2,H2,I2,r2,q2⟩ => ?_
 refine thn (hg pins s2 σ H2 x1 x2 ov iv _ I2 r1 r2 q2) fun old s3 ⟨x3,H3,I3,r3,q3⟩ => ?_
 refine thn (he pins s3 σ H3 _ I3 q3) fun v s4 ⟨x4,H4,I4,r4,q4⟩ => ?_
 refine thn (hp pins s4 σ H4 x3 x4 old v _ I4 r3 r4 q4) fun new s5 ⟨x5,H5,I5,r5,q5⟩ => ?_
 exact thn (hs pins s5 σ H5 x1 x2 x5 ov iv new _ I5 r1 r2 r5 q5) fun _ s6 ⟨H6,I6,q6⟩=>⟨σ,H6,I6,q6⟩
def ipI (f:Int->Int->Int):TIp:=fun x y H Q => ∃ i j,x = .int i∧y = .int j∧Q (.int (f i j)) H
theorem qFG:PIp X .Add (ipI fun i j=>i + j):=by
 intro pins s σ H x y v u Q I r1 r2 h
 obtain ⟨i,j,e1,e2,q⟩:=h
 subst e1;subst e2
 obtain ⟨t,rfl⟩:=r1
 obtain ⟨t',rfl⟩:=r2
 exact iadd_int ⟨.int _,H,I.tok _,⟨_,rfl⟩,q⟩
end
structure It where
 go:Nat->Hp->Prop
 yld:Nat->Hp->V->Hp->Prop
 stop:Nat->Hp->Prop
def zX (X:Cx) (pins:List (Addr×Obj)) (H:Hp) (b:Addr):Prop :=
 H b=none∧b≠X.env.locals∧b ∉ X.fs∧(b∈X.ex∨X.s₀.heap.objs.size≤b)∧(∀ x c,X.env.cells.lookup x=some c->c≠b) ∧ ∀ p∈X.pn++pins,p.1≠b
theorem Inv.fpOk {X:Cx} {pins:List (Addr×Obj)} {σ:St} {H H':Hp} {s:Shared} {b:Addr} (I:Inv X pins σ H s) (hb:s.heap.objs.size≤b) (hn:H' b=none):zX X pins H' b:=by
 refine ⟨hn,Nat.ne_of_gt (Nat.lt_of_lt_of_le I.lt hb),I.nofs hb,.inr (Nat.le_trans I.sz hb),fun x c e z => ?_,fun p hp z => ?_⟩
 ·obtain ⟨v,q⟩:=I.cell x c e
  exact absurd (Nat.lt_of_lt_of_le q.lt (by rw [z];exact hb)) (Nat.lt_irrefl _)
 ·exact absurd (Nat.lt_of_lt_of_le (Heap.lt_size (I.pin p hp).1) (by rw [z];exact hb)) (Nat.lt_irrefl _)
theorem Inv.hndH {X:Cx} {pins:List (Addr×Obj)} {σ:St} {H:Hp} {s:Shared} (I:Inv X pins σ H s):EX.Hnd X.A s.heap:=fun v hv=>by
 obtain ⟨ea,oe,u,vs,e1,e2,e3⟩:=I.hnd v hv
 exact ⟨ea,oe,vs,e1,(I.hok _ _ e2).1,e3⟩
theorem Inv.hndNe {X:Cx} {pins:List (Addr×Obj)} {σ:St} {H:Hp} {s:Shared} (I:Inv X pins σ H s) {it:Addr} (hn:H it=none):∀ v,X.A.handled=some v->v ≠ .ref it:=fun v hv z=>by
 obtain ⟨ea,oe,u,vs,e1,e2,e3⟩:=I.hnd v hv
 rw [e1] at z;cases z;rw [hn] at e2;cases e2
structure Turn (P:Program) (w:World) (K:W.Frag) (A:Around) (tg:Expr) (J:It) (fp:List Addr) (it:Addr) (tn:Nat->Heap->Prop):Prop where
 mem:it∈fp
 obj:∀ i h,tn i h -> ∀ b∈fp,∃ o,h.get? b=some o ∧ ∀ v,o.data ≠ .cell v
 keep:∀ i h h',tn i h->(∀ b∈fp,∀ o,h.get? b=some o->h'.get? b=some o)->tn i h'
 item:∀ (X:Cx),X.prog=P->X.w=w->X.K=K->X.A=A -> ∀ (i:Nat) (pins:List (Addr×Obj)) (s:Shared) (σ:St) (H:Hp) (E:Value->Shared->Prop),Inv X pins σ H s->(∀ b∈fp,zX X pins H b)->tn i s.heap->J.go i H ->
  wpAny (model P w) X.A (pyNext (.ref it)) (fun r s1 => ∃ u,r=some u ∧
   wpAny (model P w) X.A (letOwnedTupleGo tg (.ref it) u) (fun _ s2 => ∃ x H',Inv X pins σ H' s2∧RelV x u∧J.yld i H x H'∧tn (i + 1) s2.heap ∧ ∀ b∈fp,H' b=none) E s1) E s
 done:∀ (X:Cx),X.prog=P->X.w=w->X.K=K->X.A=A -> ∀ (i:Nat) (pins:List (Addr×Obj)) (s:Shared) (σ:St) (H:Hp) (E:Value->Shared->Prop),Inv X pins σ H s->(∀ b∈fp,zX X pins H b)->tn i s.heap->J.stop i H ->
  wpAny (model P w) X.A (pyNext (.ref it)) (fun r s1=>r=none∧Inv X pins σ H s1) E s
 self:∀ (A:Around) (i:Nat) (s:Shared) (Q:Value->Shared->Prop) (E:Value->Shared->Prop),tn i s.heap->Q (.ref it) s->wpAny (model P w) A (pyIter (.ref it)) Q E s
abbrev TI:=St->Hp->(It->Hp->Prop)->Prop
def PIE (X:Cx) (pins:List (Addr×Obj)) (σ:St) (tg:Expr) (R:It->Hp->Prop) (itv:Value) (s2:Shared):Prop :=
 ∃ (it:Addr) (fp:List Addr) (tn:Nat->Heap->Prop) (J:It) (H':Hp),itv = .ref it∧Inv X pins σ H' s2∧Turn X.prog X.w X.K X.A tg J fp it tn∧tn 0 s2.heap∧(∀ b∈fp,zX X pins H' b)∧R J H'
def PI (X:Cx) (tg iter:Expr) (wi:TI):Prop :=
 ∀ (pins:List (Addr×Obj)) (s:Shared) (σ:St) (H:Hp) (R:It->Hp->Prop),Inv X pins σ H s->wi σ H R ->
  wpAny (model X.prog X.w) X.A (eval iter X.env) (fun v s1=>wpAny (model X.prog X.w) X.A (pyIter v) (PIE X pins σ tg R) X.xe s1) X.xe s
theorem qBr {M : Model} {A : Around} {E : Value->Shared->Prop} {s : Shared} {tg : Expr} {it : Addr} {u : Value} {o : Obj} {n : String} {vs : Array Value} {Q : Unit->Shared->Prop} (ho : s.heap.get? it=some o) (hc : o.cls = .type n) (hd : o.data = .fields vs)
    (hn : ["enumerate", "zip", "dict_itemiterator", "dict_reverseitemiterator", "odict_iterator", "itertools.zip_longest", "itertools.pairwise"].contains n=false) (hQ : Q () s) : wpAny M A (letOwnedTupleGo tg (.ref it) u) Q E s:=by
  unfold letOwnedTupleGo
  cases tg <;> first
    |exact wpAny_pure hQ
    |(cases u <;> first
        |exact wpAny_pure hQ
        | (refine wpAny_bind (wpAny_load ho ?_)
           rw [hc, hd]
           show wpAny M A (if (["enumerate", "zip", "dict_itemiterator", "dict_reverseitemiterator", "odict_iterator", "itertools.zip_longest", "itertools.pairwise"].contains n&&vs[0]? == some (rawInt _))=true then _ else _) Q E s
           rw [if_neg (by intro h; rw [hn, Bool.false_and] at h; cases h)]
           exact wpAny_pure hQ))
def Itl (K:W.Frag) (a:Addr):It :=
 ⟨fun i H => ∃ xs x,SqL K H a xs∧xs[i]? = some x,fun i H x H'=>H'=H ∧ ∀ xs,SqL K H a xs->xs[i]? = some x,fun i H => ∃ xs,SqL K H a xs∧xs.length≤i⟩
def Itt (K:W.Frag) (a:Addr):It :=
 ⟨fun i H => ∃ xs x,SqT K H a xs∧xs[i]? = some x,fun i H x H'=>H'=H ∧ ∀ xs,SqT K H a xs->xs[i]? = some x,fun i H => ∃ xs,SqT K H a xs∧xs.length≤i⟩
def Itr (lo:Int) (n:Nat):It:=⟨fun i _=>i < n,fun i H x H'=>H'=H∧x = .int (lo + i),fun i _=>n≤i⟩
theorem qBK {P:Program} {w:World} {K:W.Frag} {A:Around} {tg:Expr} (a it:Addr):Turn P w K A tg (Itl K a) [it] it (fun i h=>h.IsListIter it a i) where
 mem:=by simp
 obj:=fun i h st b hb=>by
  have e:b=it:=by simpa using hb
  subst e
  obtain ⟨o,e,c,d⟩:=st
  exact ⟨o,e,fun v z=>by rw [d] at z;cases z⟩
 keep:=fun i h h' st k=>st.at fun o e=>k it (by simp) o e
 item:=by
  intro X hP hw hK _ i pins s σ H E I hf st hg
  subst hP hw hK
  obtain ⟨xs,x,hq,hx⟩:=hg
  obtain ⟨its,rv,p,hz⟩:=I.list hq
  obtain ⟨u,hu,ru⟩:=rv.get hx
  obtain ⟨f0,f1,f2,f3,f4,f5⟩:=hf it (by simp)
  refine wpAny_pyNext_list_item st p.isList (x:=u) (by simpa using hu) fun h' st' sb => ?_
  have I1:Inv X pins σ H { s with heap:=h' }:=I.turned (t':=s.toks) (fun b o hb e=>(sb.2 b hb).trans e) f0 f1 f3 f4 f5
  obtain ⟨o,e,c,d⟩:=id st'
  exact ⟨u,rfl,qBr (s:={ s with heap:=h' }) e c d (by decide) ⟨x,H,I1,ru,⟨rfl,fun ys hy=>by rw [I.list_inj hy hq];exact hx⟩,st',fun b hb=>(hf b hb).1⟩⟩
 done:=by
  intro X hP hw hK _ i pins s σ H E I hf st hg
  subst hP hw hK
  obtain ⟨xs,hq,hx⟩:=hg
  obtain ⟨its,rv,p,hz⟩:=I.list hq
  obtain ⟨f0,f1,f2,f3,f4,f5⟩:=hf it (by simp)
  have hl:=rv.length
  exact EX.list_end I.hndH st p.isList (by simp;omega) (I.hndNe f0) fun h' eb=>⟨rfl,I.turned (t':=s.toks) (fun b o hb e=>eb b o hb e) f0 f1 f3 f4 f5⟩
 self:=fun _ _ _ _ _ st h=>wpAny_pyIter_listiter st h
theorem Jl {P:Program} {w:World} {K:W.Frag} {A:Around} {tg:Expr} (a it:Addr):Turn P w K A tg (Itt K a) [it] it (fun i h=>h.IsTupleIter it a i) where
 mem:=by simp
 obj:=fun i h st b hb=>by
  have e:b=it:=by simpa using hb
  subst e
  obtain ⟨o,e,c,d⟩:=st
  exact ⟨o,e,fun v z=>by rw [d] at z;cases z⟩
 keep:=fun i h h' st k=>st.at fun o e=>k it (by simp) o e
 item:=by
  intro X hP hw hK _ i pins s σ H E I hf st hg
  subst hP hw hK
  obtain ⟨xs,x,hq,hx⟩:=hg
  obtain ⟨its,rv,p,hz⟩:=I.tuple hq
  obtain ⟨u,hu,ru⟩:=rv.get hx
  obtain ⟨f0,f1,f2,f3,f4,f5⟩:=hf it (by simp)
  refine wpAny_pyNext_tuple_item st (show s.heap.IsTuple a its.toArray from p) (x:=u) (by simpa using hu) fun h' st' sb => ?_
  have I1:Inv X pins σ H { s with heap:=h' }:=I.turned (t':=s.toks) (fun b o hb e=>(sb.2 b hb).trans e) f0 f1 f3 f4 f5
  obtain ⟨o,e,c,d⟩:=id st'
  exact ⟨u,rfl,qBr (s:={ s with heap:=h' }) e c d (by decide) ⟨x,H,I1,ru,⟨rfl,fun ys hy=>by rw [I.tuple_inj hy hq];exact hx⟩,st',fun b hb=>(hf b hb).1⟩⟩
 done:=by
  intro X hP hw hK _ i pins s σ H E I hf st hg
  subst hP hw hK
  obtain ⟨xs,hq,hx⟩:=hg
  obtain ⟨its,rv,p,hz⟩:=I.tuple hq
  obtain ⟨f0,f1,f2,f3,f4,f5⟩:=hf it (by simp)
  have hl:=rv.length
  exact EX.tuple_end I.hndH st (show s.heap.IsTuple a its.toArray from p) (by simp;omega) (I.hndNe f0) fun h' eb=>⟨rfl,I.turned (t':=s.toks) (fun b o hb e=>eb b o hb e) f0 f1 f3 f4 f5⟩
 self:=fun _ _ _ _ _ st h=>wpAny_pyIter_tupleiter st h
theorem Je {P:Program} {w:World} {K:W.Frag} {A:Around} {tg:Expr} (it:Addr) (lo:Int) (n:Nat):Turn P w K A tg (Itr lo n) [it] it (fun i h=>IsRangeIter h it (lo + (i:Nat) * 1) ((n:Int) - (i:Nat)) 1) where
 mem:=by simp
 obj:=fun i h st b hb=>by
  have e:b=it:=by simpa using hb
  subst e
  exact ⟨_,st,fun v z=>by
   have z':Data.fields _=Data.cell v:=z
   cases z'⟩
 keep:=fun i h h' st k=>k it (by simp) _ st
 item:=by
  intro X hP hw hK _ i pins s σ H E I hf st hg
  subst hP hw hK
  obtain ⟨f0,f1,f2,f3,f4,f5⟩:=hf it (by simp)
  refine wpAny_pyNext_range_item st (by have:i < n:=hg;omega) fun h' st' sb => ?_
  have I1:Inv X pins σ H { s with heap:=h',toks:=s.toks + 1 }:=I.turned (fun b o hb e=>(sb.2 b hb).trans e) f0 f1 f3 f4 f5
  have st2:IsRangeIter h' it (lo + ((i + 1:Nat):Int) * 1) ((n:Int) - ((i + 1:Nat):Int)) 1:=by
   have q1:lo + (i:Int) * 1 + 1=lo + ((i + 1:Nat):Int) * 1:=by omega
   have q2:(n:Int) - (i:Int) - 1=(n:Int) - ((i + 1:Nat):Int):=by omega
   rw [← q1,← q2];exact st'
  refine ⟨_,rfl,qBr (s:={ s with heap:=h',toks:=s.toks + 1 }) (n := "range_iterator") st2 rfl rfl (by decide) ⟨.int (lo + i),H,I1,⟨s.toks,?_⟩,⟨rfl,rfl⟩,st2,fun b hb=>(hf b hb).1⟩⟩
  rw [Int.mul_one]
 done:=by
  intro X hP hw hK _ i pins s σ H E I hf st hg
  subst hP hw hK
  obtain ⟨f0,f1,f2,f3,f4,f5⟩:=hf it (by simp)
  exact EX.range_end I.hndH st (by have:n≤i:=hg;omega) fun h' eb=>⟨rfl,I.turned (t':=s.toks) (fun b o hb e=>eb b o e) f0 f1 f3 f4 f5⟩
 self:=fun _ _ _ _ _ st h=>wpAny_pyIter_rangeiter st h
end L2
namespace L2
open PySem PySem.Spec PyProof.Rows
section
variable {X:Cx} {tg:Expr}
theorem qCK {pins:List (Addr×Obj)} {σ:St} {H:Hp} {s:Shared} {R:It->Hp->Prop} {E:Value->Shared->Prop} {lo hi:Int} {t u v:Tok} {tk:Nat} (I:Inv X pins σ H s) (h1:-(2 ^ 62)≤lo) (h2:lo < 2 ^ 62) (h3:-(2 ^ 62)≤hi) (h4:hi < 2 ^ 62)
  (q:R (Itr lo (hi - lo).toNat) H):wpAny (model X.prog X.w) X.A (pyIter (.ref s.heap.objs.size)) (PIE X pins σ tg R) E { s with heap:=s.heap.push { cls := .type "range",data := .fields #[.int lo t,.int hi u,.int 1 v] },toks:=tk }:=by
 refine wpAny_pyIter_range (IsRange.new ..) (small_one h1 h2 h3 h4) ?_
 have I1:Inv X pins σ H { s with heap:=s.heap.push { cls := .type "range",data := .fields #[.int lo t,.int hi u,.int 1 v] },toks:=tk }:=I.kept fun b o e=>Heap.get?_push_of_some _ e
 refine ⟨(s.heap.push { cls := .type "range",data := .fields #[.int lo t,.int hi u,.int 1 v] }).objs.size,[(s.heap.push { cls := .type "range",data := .fields #[.int lo t,.int hi u,.int 1 v] }).objs.size],_,_,H,rfl,
  I1.kept (t':=tk) fun b o e=>Heap.get?_push_of_some _ e,Je _ lo (hi - lo).toNat,?_,fun b hb => ?_,q⟩
 ·have e1:lo + ((0:Nat):Int) * 1=lo:=by simp
  have e2:(((hi - lo).toNat:Nat):Int) - ((0:Nat):Int)=Builtin.Range.rangeSize lo hi 1:=by rw [rangeSize_one];split <;> omega
  show IsRangeIter _ _ (lo + ((0:Nat):Int) * 1) ((((hi - lo).toNat:Nat):Int) - ((0:Nat):Int)) 1
  rw [e1,e2]
  exact Heap.get?_push_size _ rfl
 ·have e:b=(s.heap.push { cls := .type "range",data := .fields #[.int lo t,.int hi u,.int 1 v] }).objs.size:=by simpa using hb
  subst e
  exact I1.fpOk (Nat.le_refl _) (I1.hok.fresh (Nat.le_refl _))
def qHP (ta:TA):TI:=fun σ H R=>ta σ H fun vs H1 => ∃ j:Int,vs=[.int j] ∧ -(2 ^ 62)≤j∧j < 2 ^ 62∧R (Itr 0 j.toNat) H1
theorem qBI {a:Expr} {ta:TA} {p pos:Pos} (hg:Gl X "range") (hm:X.mg "range" = none) (ha:PA X [a] ta) (hs:starEach [a] X.env=[(false,eval a X.env)]:=by rfl):PI X tg (.Call (.Name "range" p) [a] [] pos) (qHP ta):=by
 intro pins s σ H R I h
 refine Call_ (zP I hg hm boot_range (PyProof.Rows.callWith_type1 (thn (ha pos pins s σ H _ I h) fun us s1 ⟨vs,H1,I1,r1,q1⟩ => ?_) hs rfl))
 obtain ⟨j,e,q1,q2,q⟩:=q1
 subst e
 cases r1 with
 |cons r rr =>
  cases rr
  obtain ⟨t,rfl⟩:=r
  exact call_range_1 (qCK I1 (by omega) (by omega) q1 q2 (by simpa using q))
def qIP (wi:TI) (g:TG) (tb:TS):TS:=fun D σ H=>wi σ H fun J H1 => ∃ W:Nat->Nat->St->Hp->Prop,(∃ m,W 0 m σ H1) ∧ ∀ i m σ H,W i m σ H ->
 (J.stop i H∧D.nx σ H)∨(J.go i H ∧ ∃ N:St->Hp->Prop,(∀ σ' H',N σ' H' -> ∃ m',m' < m∧W (i + 1) m' σ' H') ∧ ∀ x H',J.yld i H x H'->g x σ H' fun σ2 H2=>tb { D with nx:=N,ct:=N,bk:=D.nx } σ2 H2)
def zM (fp:List Addr) (h:Heap):List (Addr×Obj):=fp.filterMap fun b=>(h.get? b).map fun o=>(b,o)
theorem Wm {fp:List Addr} {h:Heap} {b:Addr} {o:Obj} (hb:b∈fp) (e:h.get? b=some o):(b,o)∈zM fp h:=List.mem_filterMap.mpr ⟨b,hb,by rw [e];rfl⟩
theorem qBE {fp:List Addr} {h:Heap} {p:Addr×Obj} (hp:p∈zM fp h):p.1∈fp∧h.get? p.1=some p.2:=by
 obtain ⟨b,hb,e⟩:=List.mem_filterMap.mp hp
 cases q:h.get? b with
 |none=>rw [q] at e;cases e
 |some o =>
  rw [q] at e
  have e':(b,o)=p:=Option.some.inj e
  subst e'
  exact ⟨hb,q⟩
theorem Inv.pinned {pins:List (Addr×Obj)} {σ:St} {H:Hp} {s:Shared} {fp:List Addr} (I:Inv X pins σ H s) (hf:∀ b∈fp,zX X pins H b) (ho:∀ b∈fp,∃ o,s.heap.get? b=some o ∧ ∀ v,o.data ≠ .cell v):Inv X (pins++zM fp s.heap) σ H s :=
 I.pins_of fun p hp=>(List.mem_append.mp hp).elim (fun z=>I.pin p (List.mem_append_right _ z)) fun z=>by
  obtain ⟨hb,e⟩:=qBE z
  obtain ⟨f0,f1,f2,_⟩:=hf p.1 hb
  obtain ⟨o,e',d⟩:=ho p.1 hb
  rw [e] at e';cases e'
  exact ⟨e,f0,f1,f2,d⟩
theorem Inv.unpinned {pins pl:List (Addr×Obj)} {σ:St} {H:Hp} {s:Shared} (I:Inv X (pins++pl) σ H s):Inv X pins σ H s:=I.pins_of fun p hp=>I.pin p (List.mem_append_right _ (List.mem_append_left _ hp))
end
end L2
namespace L2
open PySem PySem.Spec PyProof.Rows
abbrev R2:=V->V->Hp->VK->Prop
def OpR (X:Cx) (f:Value->Value->Sem Value) (r:R2):Prop :=
 ∀ (pins:List (Addr×Obj)) (s:Shared) (σ:St) (H:Hp) (x y:V) (v u:Value) (Q:VK),Inv X pins σ H s->RelV x v->RelV y u->r x y H Q ->
  wpAny (model X.prog X.w) X.A (f v u) (EP X pins σ Q) X.xe s
def UnR (X:Cx) (f:Value->Sem Value) (r:V->Hp->VK->Prop):Prop :=
 ∀ (pins:List (Addr×Obj)) (s:Shared) (σ:St) (H:Hp) (x:V) (v:Value) (Q:VK),Inv X pins σ H s->RelV x v->r x H Q ->
  wpAny (model X.prog X.w) X.A (f v) (EP X pins σ Q) X.xe s
def Wq (X:Cx) (f:Value) (r:List V->Hp->VK->Prop):Prop :=
 ∀ (pins:List (Addr×Obj)) (s:Shared) (σ:St) (H:Hp) (xs:List V) (us:List Value) (Q:VK),Inv X pins σ H s->Vals xs us->r xs H Q ->
  wpAny (model X.prog X.w) X.A (call f us) (EP X pins σ Q) X.xe s
def qH4 (X:Cx) (r:V->Hp->(Bool->Hp->Prop)->Prop):Prop :=
 ∀ (pins:List (Addr×Obj)) (s:Shared) (σ:St) (H:Hp) (x:V) (v:Value) (Q:Bool->Hp->Prop),Inv X pins σ H s->RelV x v->r x H Q ->
  wpAny (model X.prog X.w) X.A (truthy v) (TP X pins σ Q) X.xe s
def tOp (r:R2) (ta tb:TE):TE:=fun σ H Q=>ta σ H fun x H1=>tb σ H1 fun y H2=>r x y H2 Q
def tUn (r:V->Hp->VK->Prop) (ta:TE):TE:=fun σ H Q=>ta σ H fun x H1=>r x H1 Q
def rI (C:Int->Int->Prop) (g:Int->Int->V):R2:=fun x y H Q => ∃ i j,x = .int i∧y = .int j∧C i j∧Q (g i j) H
def rI0 (g:Int->Int->V):R2:=fun x y H Q => ∃ i j,x = .int i∧y = .int j∧Q (g i j) H
def rU (g:Int->V):V->Hp->VK->Prop:=fun x H Q => ∃ i,x = .int i∧Q (g i) H
section
variable {X:Cx} {a b c:Expr} {ta tb tc:TE} {pos:Pos}
theorem qFD (ha:PE X a ta) (hb:PE X b tb) {pins:List (Addr×Obj)} {s:Shared} {σ:St} {H:Hp} {R:V->V->Hp->Prop} (I:Inv X pins σ H s)
  (h:ta σ H fun x H1=>tb σ H1 fun y H2=>R x y H2) {Q:Value->Shared->Prop} {f:Value->Value->Sem Value}
  (hf:∀ v u s2 x y H2,Inv X pins σ H2 s2->RelV x v->RelV y u->R x y H2->wpAny (model X.prog X.w) X.A (f v u) Q X.xe s2) :
  wpAny (model X.prog X.w) X.A (eval a X.env) (fun v s₁=>wpAny (model X.prog X.w) X.A (eval b X.env) (fun u s₂=>wpAny (model X.prog X.w) X.A (f v u) Q X.xe s₂) X.xe s₁) X.xe s:=by
 refine thn (ha pins s σ H _ I h) fun v s1 ⟨x,H1,I1,r1,q1⟩ => ?_
 refine thn (hb pins s1 σ H1 _ I1 q1) fun u s2 ⟨y,H2,I2,r2,q2⟩ => ?_
 exact hf v u s2 x y H2 I2 r1 r2 q2
theorem qC3 {op:Operator} {r:R2} (ho:OpR X (binaryOp op) r) (ha:PE X a ta) (hb:PE X b tb):PE X (.BinOp a op b pos) (tOp r ta tb):=by
 intro pins s σ H Q I h
 exact wpAny_BinOp (qFD ha hb I h fun v u s2 x y H2 I2 rx ry q=>ho pins s2 σ H2 x y v u Q I2 rx ry q)
theorem qG5 {op:UnaryOp} {r:V->Hp->VK->Prop} (ho:UnR X (unaryOp op) r) (ha:PE X a ta):PE X (.UnaryOp op a pos) (tUn r ta):=by
 intro pins s σ H Q I h
 exact UnaryOp_ (thn (ha pins s σ H _ I h) fun v s1 ⟨x,H1,I1,r1,q1⟩=>ho pins s1 σ H1 x v Q I1 r1 q1)
theorem opI {f:Value->Value->Sem Value} {C:Int->Int->Prop} {g:Int->Int->Int}
  (rule:∀ (i j:Int) (t u:Tok) (s:Shared) (Q:Value->Shared->Prop) (E:Value->Shared->Prop),C i j->Q (.int (g i j) s.toks) { s with toks:=s.toks + 1 }->wpAny (model X.prog X.w) X.A (f (.int i t) (.int j u)) Q E s) :
  OpR X f (rI C fun i j => .int (g i j)):=by
 intro pins s σ H x y v u Q I rx ry h
 obtain ⟨i,j,rfl,rfl,hc,q⟩:=h
 obtain ⟨t,rfl⟩:=rx
 obtain ⟨t',rfl⟩:=ry
 exact rule i j t t' s _ _ hc ⟨.int (g i j),H,I.tok _,⟨_,rfl⟩,q⟩
theorem qHk {f:Value->Value->Sem Value} {g:Int->Int->Int}
  (rule:∀ (i j:Int) (t u:Tok) (s:Shared) (Q:Value->Shared->Prop) (E:Value->Shared->Prop),Q (.int (g i j) s.toks) { s with toks:=s.toks + 1 }->wpAny (model X.prog X.w) X.A (f (.int i t) (.int j u)) Q E s) :
  OpR X f (rI0 fun i j => .int (g i j)):=by
 intro pins s σ H x y v u Q I rx ry h
 obtain ⟨i,j,rfl,rfl,q⟩:=h
 obtain ⟨t,rfl⟩:=rx
 obtain ⟨t',rfl⟩:=ry
 exact rule i j t t' s _ _ ⟨.int (g i j),H,I.tok _,⟨_,rfl⟩,q⟩
theorem qFH {f:Value->Value->Sem Value} {g:Int->Int->Bool}
  (rule:∀ (i j:Int) (t u:Tok) (s:Shared) (Q:Value->Shared->Prop) (E:Value->Shared->Prop),Q (.bool (g i j)) s->wpAny (model X.prog X.w) X.A (f (.int i t) (.int j u)) Q E s) :
  OpR X f (rI0 fun i j => .bl (g i j)):=by
 intro pins s σ H x y v u Q I rx ry h
 obtain ⟨i,j,rfl,rfl,q⟩:=h
 obtain ⟨t,rfl⟩:=rx
 obtain ⟨t',rfl⟩:=ry
 exact rule i j t t' s _ _ ⟨.bl (g i j),H,I,rfl,q⟩
def qIM (i j:Int):Prop:=0 < j∧j < 1073741824
def qIN (i j:Int):Prop:=0≤j∧j≤1000000∧i.natAbs < 2 ^ 64
def CMul (i j:Int):Prop:=(-(2 ^ 64) < i∧i < 2 ^ 64)∨(-(2 ^ 64) < j∧j < 2 ^ 64)
theorem CMul.ok {i j:Int} (h:CMul i j):IntMulOk i j:=by
 rcases h with ⟨h1,h2⟩ |⟨h1,h2⟩
 ·exact .of_left (intBits_le_64 h1 h2)
 ·exact .of_right (intBits_le_64 h1 h2)
theorem qGt:OpR X (binaryOp .Add) (rI0 fun i j => .int (i + j)):=qHk fun _ _ _ _ _ _ _ q=>add_int q
theorem qGm:OpR X (binaryOp .Sub) (rI0 fun i j => .int (i - j)):=qHk fun _ _ _ _ _ _ _ q=>sub_int q
theorem qFR:OpR X (binaryOp .Mult) (rI CMul fun i j => .int (i * j)):=opI fun _ _ _ _ _ _ _ hc q=>mul_int q hc.ok
theorem qEd:OpR X (binaryOp .FloorDiv) (rI qIM fun i j => .int (i / j)):=opI fun i j _ _ _ _ _ hc q=>by
 have h1:(0:Int) < j:=hc.1
 have h2:j < 1073741824:=hc.2
 exact floordiv_int (by omega) (by rw [Int.fdiv_eq_ediv_of_nonneg i (by omega)];exact q) (.inl (PyProof.noPylong_small (by omega)))
theorem qFV:OpR X (binaryOp .Mod) (rI (fun _ j=>0 < j) fun i j => .int (i % j)):=opI fun i j _ _ _ _ _ hc q=>by
 have h1:(0:Int) < j:=hc
 exact mod_int' (by omega) (by rw [Int.fmod_eq_emod_of_nonneg i (by omega)];exact q)
theorem qFl:OpR X (binaryOp .Pow) (rI qIN fun i j => .int (i ^ j.toNat)):=opI fun _ _ _ _ _ _ _ hc q=>pow_int_small hc.1 hc.2.1 hc.2.2 q
theorem unI {f:Value->Sem Value} {g:Int->Int}
  (rule:∀ (i:Int) (t:Tok) (s:Shared) (Q:Value->Shared->Prop) (E:Value->Shared->Prop),Q (.int (g i) s.toks) { s with toks:=s.toks + 1 }->wpAny (model X.prog X.w) X.A (f (.int i t)) Q E s) :
  UnR X f (rU fun i => .int (g i)):=by
 intro pins s σ H x v Q I rx h
 obtain ⟨i,rfl,q⟩:=h
 obtain ⟨t,rfl⟩:=rx
 exact rule i t s _ _ ⟨.int (g i),H,I.tok _,⟨_,rfl⟩,q⟩
theorem qFz:UnR X (unaryOp .USub) (rU fun i => .int (-i)):=unI fun _ _ _ _ _ q=>neg_int q
theorem qCT {pins:List (Addr×Obj)} {σ:St} {H:Hp} {s:Shared} {Q:VK} {k k':Bool} (I:Inv X pins σ H s) (q:Q (.bl k) H) (e:k=k'):EP X pins σ Q (.bool k') s:=by
 subst e
 exact ⟨.bl k,H,I,rfl,q⟩
theorem qFA:OpR X (compareOp .Lt) (rI0 fun i j => .bl (decide (i < j))):=qFH fun _ _ _ _ _ _ _ q=>lt_int q
theorem qDN:OpR X (compareOp .LtE) (rI0 fun i j => .bl (decide (i≤j))):=qFH fun _ _ _ _ _ _ _ q=>le_int q
theorem qHD:OpR X (compareOp .Gt) (rI0 fun i j => .bl (decide (j < i))):=qFH fun _ _ _ _ _ _ _ q=>gt_int q
theorem qGa:OpR X (compareOp .Is) (fun x y H Q=>y = .non∧Q (.bl (decide (x = .non))) H):=by
 intro pins s σ H x y v u Q I rx ry h
 obtain ⟨rfl,q⟩:=h
 cases ry
 refine is_none_gen (qCT I q ?_)
 cases x <;> first
  |(cases rx;rfl)
  |(obtain ⟨t,rfl⟩:=rx;rfl)
theorem J4:OpR X (compareOp .IsNot) (fun x y H Q=>y = .non∧Q (.bl (!decide (x = .non))) H):=by
 intro pins s σ H x y v u Q I rx ry h
 obtain ⟨rfl,q⟩:=h
 cases ry
 refine isnot_none_gen (qCT I q ?_)
 cases x <;> first
  |(cases rx;rfl)
  |(obtain ⟨t,rfl⟩:=rx;rfl)
theorem QI (b:Expr) {op:CmpOp} (h:op ≠ .In:=by decide) (h2:op ≠ .NotIn:=by decide):behindInMarks op b=false:=by
 have e1:(op==CmpOp.In)=false:=by cases op <;> first |rfl |exact absurd rfl h
 have e2:(op==CmpOp.NotIn)=false:=by cases op <;> first |rfl |exact absurd rfl h2
 cases b <;> simp [behindInMarks,e1,e2]
theorem qDh {op:CmpOp} {r:R2} (ho:OpR X (compareOp op) r) (ha:PE X a ta) (hb:PE X b tb) (hm:behindInMarks op b=false):PE X (.Compare a [op] [b] pos) (tOp r ta tb):=by
 intro pins s σ H Q I h
 exact wpAny_Compare1 (qFD ha hb I h fun v u s2 x y H2 I2 rx ry q=>ho pins s2 σ H2 x y v u Q I2 rx ry q) hm
def qG0 (t:TE):TT:=fun σ H Q=>t σ H fun x H' => ∃ k,x = .bl k∧Q k H'
theorem qD2 {op:CmpOp} {r:R2} (ho:OpR X (compareOp op) r) (ha:PE X a ta) (hb:PE X b tb) (hm:behindInMarks op b=false):PT X (.Compare a [op] [b] pos) (qG0 (tOp r ta tb)):=by
 intro pins s σ H Q I h
 refine wpAny_isTrue_Compare1 (thn (ha pins s σ H _ I h) fun v s1 ⟨x,H1,I1,r1,q1⟩=>thn (hb pins s1 σ H1 _ I1 q1) fun u s2 ⟨y,H2,I2,r2,q2⟩ =>
  thn (ho pins s2 σ H2 x y v u _ I2 r1 r2 q2) fun c s3 ⟨z,H3,I3,r3,k,e,q3⟩ => ?_) hm
 subst e
 cases r3
 exact wpAny_truthy_bool ⟨H3,I3,q3⟩
def qGg (r r':R2) (ta tb tc:TE):TE:=fun σ H Q=>ta σ H fun x H1=>tb σ H1 fun y H2=>r x y H2 fun z H3 => ∃ k,z = .bl k ∧
 (if k=true then tc σ H3 fun w' H4=>r' y w' H4 Q else Q (.bl false) H3)
theorem qDR {op op':CmpOp} {r r':R2} (ho:OpR X (compareOp op) r) (ho':OpR X (compareOp op') r') (ha:PE X a ta) (hb:PE X b tb) (hc:PE X c tc)
  (hm:lastMarks [op,op'] [b,c]=false:=by with_unfolding_all rfl):PE X (.Compare a [op,op'] [b,c] pos) (qGg r r' ta tb tc):=by
 intro pins s σ H Q I h
 refine Compare_chain (thn (ha pins s σ H _ I h) fun v s1 ⟨x,H1,I1,r1,q1⟩=>chain_link (thn (hb pins s1 σ H1 _ I1 q1) fun u s2 ⟨y,H2,I2,r2,q2⟩ =>
  thn (ho pins s2 σ H2 x y v u _ I2 r1 r2 q2) fun d s3 ⟨z,H3,I3,r3,k,e,q3⟩ => ?_)) hm
 subst e
 cases r3
 refine wpAny_truthy_bool ?_
 cases k with
 |false=>exact ite_ff ⟨.bl false,H3,I3,rfl,q3⟩
 |true=>exact ite_tt (chain_last (thn (hc pins s3 σ H3 _ I3 q3) fun w' s4 ⟨z',H4,I4,r4,q4⟩=>ho' pins s4 σ H4 y z' u w' Q I4 r2 r4 q4))
def qEp (K:W.Frag) (x:V) (H:Hp) (k:Bool):Prop :=
 match x with
 | .non=>k=false
 | .bl b=>k=b
 | .int i=>k=(i != 0)
 | .str y=>y.length≤sizeLine∧k=((y.length:Int) != 0)
 | .byt y=>y.size≤sizeLine∧k=((y.size:Int) != 0)
 | .ref p=>(∃ xs,SqL K H p xs∧k = !xs.isEmpty)∨(∃ xs,SqT K H p xs∧k = !xs.isEmpty) ∨ ∃ kvs,H p=some (.dK kvs)∧k = !kvs.isEmpty
 |_=>False
theorem Jn {κ:Type} {kvs:List (κ×V)} {vs:List (κ×Value)} (r:KV kvs vs):(!vs.isEmpty) = !kvs.isEmpty:=by
 cases r <;> rfl
theorem Zr {xs:List V} {its:List Value} (r:Vals xs its):(!its.toArray.isEmpty) = !xs.isEmpty:=by
 cases r <;> simp
theorem zN:(sizeLine:Nat) < 2 ^ 63:=by rw [sizeLine_eq];decide
theorem qGB:qH4 X (fun x H Q => ∃ k,qEp X.K x H k∧Q k H):=by
 intro pins s σ H x v Q I rx h
 obtain ⟨k,e,q⟩:=h
 have hl:=zN
 have hs:sizeLine=16777216:=sizeLine_eq
 cases x with
 |non =>
  cases rx
  have e':k=false:=e
  subst e'
  exact truthy_none ⟨H,I,q⟩
 |bl b =>
  cases rx
  have e':k=b:=e
  subst e'
  exact wpAny_truthy_bool ⟨H,I,q⟩
 |int i =>
  obtain ⟨t,rfl⟩:=rx
  have e':k=(i != 0):=e
  subst e'
  exact PySem.P.truthy_int ⟨H,I,q⟩
 |str y =>
  obtain ⟨t,rfl⟩:=rx
  obtain ⟨hy,e'⟩:y.length≤sizeLine∧k=((y.length:Int) != 0):=e
  subst e'
  exact PySem.P.truthy_str (by omega) ⟨H,I.tok _,q⟩
 |byt y =>
  obtain ⟨t,rfl⟩:=rx
  obtain ⟨hy,e'⟩:y.size≤sizeLine∧k=((y.size:Int) != 0):=e
  subst e'
  exact PySem.W.truthy_bytes (by omega) ⟨H,I.tok _,q⟩
 |ref p =>
  cases rx
  have e':(∃ xs,SqL X.K H p xs∧k = !xs.isEmpty)∨(∃ xs,SqT X.K H p xs∧k = !xs.isEmpty) ∨ ∃ kvs,H p=some (.dK kvs)∧k = !kvs.isEmpty:=e
  rcases e' with ⟨xs,hx,e'⟩ |⟨xs,hx,e'⟩ |⟨kvs,hx,e'⟩
  ·subst e'
   obtain ⟨its,r,pl,hz⟩:=I.list hx
   have hlen:=r.length
   exact wpAny_truthy_list pl.isList (by simp only [List.size_toArray];omega) ⟨H,I.tok _,by rw [Zr r];exact q⟩
  ·subst e'
   obtain ⟨its,r,pl,hz⟩:=I.tuple hx
   have hlen:=r.length
   exact truthy_tuple pl (by simp only [List.size_toArray];omega) ⟨H,I.tok _,by rw [Zr r];exact q⟩
  ·subst e'
   obtain ⟨hz,hS,vs,r,m⟩:kvs.length≤sizeLine∧(p==sysModules)=false ∧ ∃ vs,KV kvs vs∧s.heap.DictOf (YU X.prog X.w) p vs:=I.hok p _ hx
   have hlen:kvs.length=vs.length:=Paired.length r
   exact wpAny_truthy_dict hS m (by omega) ⟨H,I.tok _,by rw [Jn r];exact q⟩
 |_=>exact (show False from e).elim
theorem qBc (ha:PE X a ta) (he:∀ whole,isTrue a X.env whole=(do let v ← whole;standAt a.pos;holding [v] (truthy v))) :
  PT X a (fun σ H Q=>ta σ H fun x H' => ∃ k,qEp X.K x H' k∧Q k H'):=by
 intro pins s σ H Q I h
 exact isTrue_plain (thn (ha pins s σ H _ I h) fun v s1 ⟨x,H1,I1,r1,q1⟩=>qGB pins s1 σ H1 x v Q I1 r1 q1) (he _)
theorem JD:OpR X (binaryOp .Add) (fun x y H Q => ∃ i j,x = .str i∧y = .str j∧i.length + j.length≤sizeLine∧Q (.str (i++j)) H):=by
 intro pins s σ H x y v u Q I rx ry h
 obtain ⟨i,j,rfl,rfl,hz,q⟩:=h
 obtain ⟨t,rfl⟩:=rx
 obtain ⟨t',rfl⟩:=ry
 exact add_str (fun t' tk=>⟨.str (i++j),H,I.tok _,⟨_,rfl⟩,q⟩) hz
theorem yS {x:V} {us:List Value} (r:Vals [x] us):∃ u,us=[u]∧RelV x u:=by
 cases r with
 |cons r1 r2=>cases r2;exact ⟨_,rfl,r1⟩
theorem Jz {x y:V} {us:List Value} (r:Vals [x,y] us):∃ u w',us=[u,w']∧RelV x u∧RelV y w':=by
 cases r with
 |cons r1 r2 =>
  cases r2 with
  |cons r3 r4=>cases r4;exact ⟨_,_,rfl,r1,r3⟩
theorem qA2 (hc:X.calm=true):Wq X (.builtin "max") (fun xs H Q => ∃ i j,xs=[.int i,.int j]∧Q (.int (if j > i then j else i)) H):=by
 intro pins s σ H xs us Q I r h
 obtain ⟨i,j,rfl,q⟩:=h
 obtain ⟨u,w',rfl,⟨t,rfl⟩,⟨t',rfl⟩⟩:=Jz r
 refine max_two_ints (I.ok.hd hc) fun h' tk k=>⟨_,H,I.kept k,?_,q⟩
 by_cases hj:j > i
 ·rw [if_pos hj,if_pos hj];exact ⟨_,rfl⟩
 ·rw [if_neg hj,if_neg hj];exact ⟨_,rfl⟩
theorem qAn (hc:X.calm=true):Wq X (.builtin "min") (fun xs H Q => ∃ i j,xs=[.int i,.int j]∧Q (.int (if j < i then j else i)) H):=by
 intro pins s σ H xs us Q I r h
 obtain ⟨i,j,rfl,q⟩:=h
 obtain ⟨u,w',rfl,⟨t,rfl⟩,⟨t',rfl⟩⟩:=Jz r
 refine min_two_ints (I.ok.hd hc) fun h' tk k=>⟨_,H,I.kept k,?_,q⟩
 by_cases hj:j < i
 ·rw [if_pos hj,if_pos hj];exact ⟨_,rfl⟩
 ·rw [if_neg hj,if_neg hj];exact ⟨_,rfl⟩
theorem qBN:Wq X (.type "int") (fun xs H Q=>(∃ i,xs=[.int i]∧Q (.int i) H) ∨ ∃ k,xs=[.bl k]∧Q (.int (if k then 1 else 0)) H):=by
 intro pins s σ H xs us Q I r h
 rcases h with ⟨i,rfl,q⟩ |⟨k,rfl,q⟩
 ·obtain ⟨u,rfl,t,rfl⟩:=yS r
  exact call_int_int ⟨.int i,H,I,⟨_,rfl⟩,q⟩
 ·obtain ⟨u,rfl,r1⟩:=yS r
  cases r1
  exact call_int_bool ⟨.int (if k then 1 else 0),H,I.tok _,⟨_,rfl⟩,q⟩
end
end L2
namespace L2
open PySem PySem.Spec PyProof.Rows
end L2
namespace L2
open PySem PySem.Spec PyProof.Rows
structure Room (k:Nat) (A:Around):Prop where
 hd:1 < k->A.handled=none
 dp:A.depth + 3 * k + 5 < recursionLimit
 un:A.units + 16 * k + 200 < cLine
 gd:A.guards=some []
theorem Room.mono {j k:Nat} {A:Around} (r:Room k A) (h:j≤k):Room j A:=⟨fun z=>r.hd (by omega),by have:=r.dp;omega,by have:=r.un;omega,r.gd⟩
theorem Room.deeper {k:Nat} {A:Around} (r:Room (k + 1) A) (env:Env):Room k (A.deeper env) :=
 ⟨fun z=>r.hd (by omega),by have:=r.dp;show A.depth + 1 + 3 * k + 5 < _;omega,by have:=r.un;show A.units + 3 + 16 * k + 200 < _;omega,r.gd⟩
theorem Room.depth {k:Nat} {A:Around} (r:Room k A):A.depth < recursionLimit:=by have:=r.dp;omega
theorem Room.units {k:Nat} {A:Around} (r:Room k A):A.units + 64 < cLine:=by have:=r.un;omega
def qH5:TA:=fun _ H Q=>Q [] H
def qHg (ta:TE) (tr:TA):TA:=fun σ H Q=>ta σ H fun x H1=>tr σ H1 fun xs H2=>Q (x::xs) H2
section
variable {X:Cx} {e:Expr} {es:List Expr} {te:TE} {t:TA} {pos:Pos}
theorem YS:PA X [] qH5:=fun _ _ _ _ H Q I h=>Calls.spliced_nil ⟨[],H,I,.nil,h⟩
theorem ZX (ha:PE X e te) (hr:PA X es t) (hs:starEach (e::es) X.env=(false,eval e X.env)::starEach es X.env:=by rfl):PA X (e::es) (qHg te t):=by
 intro pos pins s σ H Q I h
 rw [hs]
 show wpAny _ _ (spliced ((false,eval e X.env)::backTo pos (starEach es X.env))) _ _ s
 refine Calls.spliced_cons (thn (ha pins s σ H _ I h) fun u s1 ⟨x,H1,I1,r1,q1⟩ => ?_)
 exact thn (hr pos pins s1 σ H1 _ I1 q1) fun us s2 ⟨xs,H2,I2,r2,q2⟩=>⟨x::xs,H2,I2,.cons r1 r2,q2⟩
def qIT (t:TA):TE:=fun σ H Q=>t σ H fun xs H1=>xs.length≤sizeLine ∧ ∀ p,H1 p=none->Q (.ref p) (upd H1 p (.tup xs))
def qIb (t:TA):TE:=fun σ H Q=>t σ H fun xs H1=>xs.length≤sizeLine ∧ ∀ p,H1 p=none->Q (.ref p) (upd H1 p (.lst xs))
theorem qFh {x1} (h:PA X es t):PE X (.Tuple es x1 pos) (qIT t):=by
 intro pins s σ H Q I hq
 refine wpAny_Tuple_spliced (thn (h pos pins s σ H _ I hq) fun us s1 ⟨xs,H1,I1,r,z,q⟩=>⟨by rw [← r.length];exact z,?_⟩)
 have hf:H1 s1.heap.objs.size=none:=I1.hok.fresh (Nat.le_refl _)
 refine ⟨.ref s1.heap.objs.size,upd H1 s1.heap.objs.size (.tup xs),I1.laid (t':=s1.toks) (fun b u e=>Heap.get?_push_of_some _ e) (Nat.le_refl _) ?_,rfl,q _ hf⟩
 exact ⟨z,us,r,⟨_,Heap.get?_push_size _ rfl,rfl,_,rfl⟩⟩
theorem qFr (h:PA X es t):PE X (.List es pos) (qIb t):=by
 intro pins s σ H Q I hq
 refine wpAny_List_spliced (thn (h pos pins s σ H _ I hq) fun us s1 ⟨xs,H1,I1,r,z,q⟩=>⟨by rw [← r.length];exact z,?_⟩)
 have hf:H1 s1.heap.objs.size=none:=I1.hok.fresh (Nat.le_refl _)
 refine ⟨.ref s1.heap.objs.size,upd H1 s1.heap.objs.size (.lst xs),I1.laid (t':=s1.toks) (fun b u e=>Heap.get?_push_of_some _ e) (Nat.le_refl _) ?_,rfl,q _ hf⟩
 exact ⟨z,us,0,r,Heap.get?_push_size _ rfl⟩
end
abbrev Sp:=List V->Hp->VK->XK->Prop
abbrev CXT:=List Env->Hp->Shared->XK->Value->Shared->Prop
structure Env0 (P:Program) (w:World) (K:W.Frag) (mg:Str->Option Value) (base:Heap) (A:Around) (outer:List Env) (s:Shared) (H:Hp):Prop where
 frames:A.frames=some outer
 mod:Mod K mg base
 bs:∀ b o,base.get? b=some o->s.heap.get? b=some o∧H b=none
 bsz:base.objs.size≤s.heap.objs.size
 funs:s.heap.FunFrames base outer
 frf:∀ b∈frs outer,H b=none
 hok:HOk P w H s.heap
 bare:AllBare s.gens
 hnd:HndH A H
def CE (outer:List Env) (P:Program) (w:World) (H:Hp) (s:Shared) (Q:VK) (u:Value) (s':Shared):Prop :=
 ∃ v H',s'.os=s.os∧AllBare s'.gens∧Un (frs outer) [] H H' s.heap s'.heap∧HOk P w H' s'.heap∧RelV v u∧Q v H'
def CR (CX:CXT) (outer:List Env) (P:Program) (w:World) (H:Hp) (s:Shared) (Q:VK) (E:XK) (r:Result) (s':Shared):Prop :=
 match r with
 | .ok (.ret u)=>CE outer P w H s Q u s'
 | .ok _=>False
 | .error e=>CX outer H s E e s'
structure FnOk (P:Program) (w:World) (K:W.Frag) (mg:Str->Option Value) (base:Heap) (CX:CXT) (k:Nat) (f:Addr) (fd:FuncData) (ps:List Str) (sp:Sp):Prop where
 len:∀ vs H Q E,sp vs H Q E->vs.length=ps.length
 run:∀ (A:Around) (outer:List Env) (s:Shared) (H:Hp) (args:Args) (us:List Value) (vs:List V) (Q:VK) (E:XK),Room k A->Env0 P w K mg base A outer s H->BindsTo s fd args (ps.zip us)->Vals vs us->sp vs H Q E ->
  codeAny (model P w) A (.call (.ref f) args) (CR CX outer P w H s Q E) s
section
variable {X:Cx} {pins:List (Addr×Obj)} {σ:St} {H:Hp} {s s':Shared}
theorem Inv.env0 (I:Inv X pins σ H s):Env0 X.prog X.w X.K X.mg X.base X.A X.stack s H :=
 ⟨I.ok.frames,I.ok.mod,I.bs,Nat.le_trans I.ok.bsz I.sz,I.stack,I.stkFree,I.hok,I.bare,I.hnd⟩
theorem Inv.after {Q:VK} {u:Value} (I:Inv X pins σ H s) (h:CE X.stack X.prog X.w H s Q u s'):EP X pins σ Q u s':=by
 obtain ⟨v,H',os,bare,un,hok,r,q⟩:=h
 obtain ⟨hh,g,d,t,os'⟩:=s'
 obtain rfl:os'=s.os:=os
 exact ⟨v,H',I.call (h':=hh) (g':=g) (d':=d) (t':=t) (ch:=[]) un hok bare (fun b z=>absurd z (by simp)),r,q⟩
end
def qHh (sp:Sp) (dvs:List V) (E:XK) (t:TA):TE:=fun σ H Q=>t σ H fun vs H1=>sp (vs++dvs) H1 Q E
def Binds (K:W.Frag) (fd:FuncData) (ps:List Str) (ds:List Value):Prop :=
 ∀ (s:Shared) (us:List Value),K.In s.heap->(us++ds).length=ps.length->BindsTo s fd ⟨us,[]⟩ (ps.zip (us++ds))
theorem Binds.all {K:W.Frag} {fd:FuncData} {ps:List Str} (h:∀ us:List Value,us.length=ps.length->bindArgs fd ⟨us,[]⟩=pure (ps.zip us)):Binds K fd ps []:=fun s us _ hl=>by
 rw [List.append_nil] at hl ⊢
 exact .of_eq (h us hl)
def WT (CX:CXT) (X:Cx) (E:XK):Prop := ∀ (pins:List (Addr×Obj)) (σ:St) (H:Hp) (s:Shared) (e:Value) (s':Shared),Inv X pins σ H s->CX X.stack H s E e s'->X.xe e s'
section
variable {X:Cx} {CX:CXT} {k:Nat} {f C:Addr} {fd:FuncData} {ps:List Str} {sp:Sp} {dvs:List V} {ds:List Value} {E:XK} {x m:Str} {p pos apos:Pos} {e o:Expr} {es:List Expr} {ta:TE} {t:TA}
theorem qBh {pins:List (Addr×Obj)} {σ:St} {H:Hp} {s:Shared} {Q:VK} {us:List Value} {vs:List V} (F:FnOk X.prog X.w X.K X.mg X.base CX k f fd ps sp) (hr:Room k X.A) (hb:Binds X.K fd ps ds) (hd:Vals dvs ds) (hx:WT CX X E)
  (I:Inv X pins σ H s) (r:Vals vs us) (h:sp (vs++dvs) H Q E):wpAny (model X.prog X.w) X.A (call (.ref f) us) (EP X pins σ Q) X.xe s:=by
 have r2:Vals (vs++dvs) (us++ds):=r.append hd
 have hl:(us++ds).length=ps.length:=by rw [← r2.length];exact F.len _ _ _ _ h
 refine wpAny_call (codeAny_mono (F.run X.A X.stack s H ⟨us,[]⟩ (us++ds) (vs++dvs) Q E hr I.env0 (hb s us I.kIn hl) r2 h) fun r s' hq => ?_)
 cases r with
 |error e=>exact hx pins σ H s e s' I hq
 |ok fl =>
  cases fl with
  |ret u=>exact I.after hq
  |next=>exact False.elim hq
  |brk=>exact False.elim hq
  |cont=>exact False.elim hq
theorem qED (F:FnOk X.prog X.w X.K X.mg X.base CX k f fd ps sp) (hr:Room k X.A) (hg:Gl X x) (hm:X.mg x=some (.ref f)) (hk:PySem.W.keepIn X.K (.ref f)=true) (hb:Binds X.K fd ps ds) (hd:Vals dvs ds) (hx:WT CX X E)
  (ha:PA X (e::es) t) (hdb:(x==("__debug__":Str))=false:=by decide) (he:starEach (e::es) X.env=(false,eval e X.env)::starEach es X.env:=by rfl) (hpl:(backTo pos (starEach es X.env)).any (·.1)=false:=by rfl) :
  PE X (.Call (.Name x p) (e::es) [] pos) (qHh sp dvs E t):=by
 intro pins s σ H Q I h
 refine wpAny_Call_Name_kw (Yc I hg hm ?_ hdb)
 refine PySem.W.callWith_K (h₀:=X.base) I.ok.mod.kin hk (thn (ha pos pins s σ H _ I h) fun us s1 ⟨vs,H1,I1,r,q⟩=>⟨I1.kIn,?_⟩) he hpl
 exact qBh F hr hb hd hx I1 r q
end
structure FnScope (N P:List Str) (sc:Scope):Prop where
 kind:sc.kind = .function
 co:sc.isCoroutine=false
 gen:sc.isGenerator=false
 nd:N.Nodup
 pre:N.take P.length=P
 par:∀ x∈P,sc.names.lookup x=some .local∨sc.names.lookup x=some .cell
 nofree:∀ y∈sc.names,y.2 ≠ .free
theorem yW {kindOf:Str->Option NameKind} {x:Str}:∀ {binds:List (Str×Value)} {m:Str->Option Value},(∀ v,(x,v) ∉ binds)->bindL kindOf binds m x=m x
 |[],_,_=>rfl
 |(n,v)::r,m,h=>by
  unfold bindL
  rw [yW fun w hw=>h w (List.mem_cons_of_mem _ hw)]
  split
  ·have:x≠n:=by rintro rfl;exact h v List.mem_cons_self
   simp [this]
  ·rfl
theorem yp {kindOf:Str->Option NameKind} {x:Str}:∀ {binds:List (Str×Value)} {m:Str->Option Value},(∀ v,(x,v) ∉ binds)->bindC kindOf binds m x=m x
 |[],_,_=>rfl
 |(n,v)::r,m,h=>by
  unfold bindC
  rw [yp fun w hw=>h w (List.mem_cons_of_mem _ hw)]
  split
  ·rfl
  ·have:x≠n:=by rintro rfl;exact h v List.mem_cons_self
   simp [this]
theorem yb {kindOf:Str->Option NameKind} {x:Str} {v:Value}:∀ {P:List Str} {vs:List Value} {i:Nat} {m:Str->Option Value},P.Nodup->P[i]? = some x->vs[i]? = some v->kindOf x=some .local ->
  bindL kindOf (P.zip vs) m x=some v
 |[],_,_,_,_,h,_,_=>by simp at h
 |_::_,[],_,_,_,_,h,_=>by simp at h
 |p::P,w::vs,0,m,nd,h1,h2,hk=>by
  simp at h1 h2;subst h1;subst h2
  show bindL kindOf ((p,w)::P.zip vs) m p=_
  unfold bindL
  rw [yW fun v hv=>(List.nodup_cons.mp nd).1 (List.of_mem_zip hv).1,if_pos hk]
  simp
 |p::P,w::vs,i + 1,m,nd,h1,h2,hk=>by
  show bindL kindOf ((p,w)::P.zip vs) m x=_
  unfold bindL
  exact yb (i:=i) (List.nodup_cons.mp nd).2 (by simpa using h1) (by simpa using h2) hk
theorem yv {kindOf:Str->Option NameKind} {x:Str} {v:Value}:∀ {P:List Str} {vs:List Value} {i:Nat} {m:Str->Option Value},P.Nodup->P[i]? = some x->vs[i]? = some v->kindOf x≠some .local ->
  bindC kindOf (P.zip vs) m x=some v
 |[],_,_,_,_,h,_,_=>by simp at h
 |_::_,[],_,_,_,_,h,_=>by simp at h
 |p::P,w::vs,0,m,nd,h1,h2,hk=>by
  simp at h1 h2;subst h1;subst h2
  show bindC kindOf ((p,w)::P.zip vs) m p=_
  unfold bindC
  rw [yp fun v hv=>(List.nodup_cons.mp nd).1 (List.of_mem_zip hv).1,if_neg hk]
  simp
 |p::P,w::vs,i + 1,m,nd,h1,h2,hk=>by
  show bindC kindOf ((p,w)::P.zip vs) m x=_
  unfold bindC
  exact yv (i:=i) (List.nodup_cons.mp nd).2 (by simpa using h1) (by simpa using h2) hk
def start (N:List Str) (vs:List V):St:=vs.map some++List.replicate (N.length - vs.length) none
def wR (CX:CXT) (P:Program) (w:World) (K:W.Frag) (mg:Str->Option Value) (base:Heap) (N:List Str) (qual:Str) (scope:Scope) (f:Addr) (cd:Value) (A:Around) (outer:List Env) (s:Shared) (H:Hp) (E:XK):Cx where
 prog:=P
 w:=w
 K:=K
 mg:=mg
 base:=base
 A:=A.deeper (envOfC qual scope s.heap.objs.size f cd)
 N:=N
 s₀:=s
 H₀:=H
 env:=envOfC qual scope s.heap.objs.size f cd
 outer:=outer
 stack:=envOfC qual scope s.heap.objs.size f cd::outer
 ex:=[]
 calm:=A.handled.isNone
 fn:=fun _=>true
 pn:=[]
 xe:=fun e s'=>wpAny (model P w) (A.deeper (envOfC qual scope s.heap.objs.size f cd)) (leaving (envOfC qual scope s.heap.objs.size f cd) e) (fun _ s''=>CX outer H s E e s'') (fun e' s''=>CX outer H s E e' s'') s'
theorem Ys {sc:Scope} {n:Nat} {x:Str} (h:sc.names.lookup x=some .cell):∃ c,(cellsFrom n sc.names []).lookup x=some c:=by
 have q:=PySem.W.cellsFrom_some sc.names n [] (.inl h)
 exact Option.isSome_iff_exists.mp q
theorem qAo {CX:CXT} {P:Program} {w:World} {K:W.Frag} {mg:Str->Option Value} {base:Heap} {N ps:List Str} {qual:Str} {scope:Scope} {f:Addr} {cd:Value} {A:Around} {outer:List Env} {s s1:Shared} {H:Hp} {E:XK} {us:List Value} {vs:List V}
  (S:FnScope N ps scope) (e0:Env0 P w K mg base A outer s H) (hl:vs.length=ps.length) (r:Vals vs us)
  (x:InCallC s s.heap.objs.size (bindL (envOfC qual scope s.heap.objs.size f cd).kindOf (ps.zip us) fun _=>none) (cellsFrom (s.heap.objs.size + 1) scope.names []) (bindC (envOfC qual scope s.heap.objs.size f cd).kindOf (ps.zip us) fun _=>none) s1) :
  Inv (wR CX P w K mg base N qual scope f cd A outer s H E) [] (start N vs) H s1:=by
 have hpl:ps.length≤N.length:=by have:=congrArg List.length S.pre;rw [List.length_take] at this;omega
 obtain ⟨h1,tk,rfl,hk⟩:=x.done
 have noA:∀ b:Addr,b ∉ (wR CX P w K mg base N qual scope f cd A outer s H E).ex:=fun b z=>absurd (show b∈([]:List Addr) from z) (by simp)
 refine ⟨⟨e0.mod,S.kind,rfl,rfl,Nat.le_refl _,fun y z c h1 h2 => ?_,fun y hy => ?_,fun y c _ h => ?_,fun z=>Option.isNone_iff_eq_none.mp z,Around.frames_deeper e0.frames,.inr ⟨rfl,rfl⟩,fun b z=>absurd z (noA b),e0.bs,e0.bsz,fun b _ _=>noA b,fun b z=>absurd z (noA b),e0.funs,e0.frf⟩,
  rfl,e0.bare,Un.kept hk,⟨_,x.toInCall.ns,fun i y v h1 h2 h3 => ?_⟩,fun y c h=>⟨_,x.cell y c h⟩,e0.hok.fresh (Nat.le_refl _),fun y c h => ?_,fun p hp=>absurd (show p∈([]:List (Addr×Obj)) from hp) (by simp),e0.hok.kept hk,?_,e0.hnd⟩
 ·exact name_of_addr x.apart (PySem.mem_of_lookup h1) (PySem.mem_of_lookup h2)
 ·have hy:scope.names.lookup y=some .cell∨scope.names.lookup y=some .free:=hy
  rcases hy with hy |hy
  ·exact Ys hy
  ·exact absurd rfl (S.nofree _ (PySem.mem_of_lookup hy))
 ·exact Nat.le_of_lt (x.above y c (PySem.mem_of_lookup h))
 ·have hi:i < vs.length:=by
   unfold start at h2
   by_cases hi:i < vs.length
   ·exact hi
   ·rw [List.getElem?_append_right (by simpa using hi)] at h2
    rw [List.getElem?_replicate] at h2
    split at h2 <;> cases h2
  have ha:vs[i]? = some v:=by
   unfold start at h2
   rw [List.getElem?_append_left (by simpa using hi),List.getElem?_map] at h2
   cases e:vs[i]? with
   |none=>rw [e] at h2;cases h2
   |some a=>rw [e] at h2;cases h2;rfl
  obtain ⟨u,hu,rv⟩:=r.get ha
  have hp:ps[i]? = some y:=by
   rw [← S.pre,List.getElem?_take_of_lt (by omega)];exact h1
  have ndP:ps.Nodup:=by rw [← S.pre];exact S.nd.sublist (List.take_sublist _ _)
  refine ⟨u,rv,?_⟩
  rcases S.par y (List.mem_of_getElem? hp) with k |k
  ·exact .inl ⟨k,yb ndP hp hu k⟩
  ·obtain ⟨c,e⟩:=Ys (n:=s.heap.objs.size + 1) k
   refine .inr ⟨.inl k,c,e,?_⟩
   have q:=x.cell y c e
   rw [yv ndP hp hu (by show scope.names.lookup y≠_;rw [k];decide)] at q
   exact q
 ·exact e0.hok.fresh (Nat.le_of_lt (x.above y c (PySem.mem_of_lookup h)))
 ·unfold start
  show _=N.length
  rw [List.length_append,List.length_map,List.length_replicate]
  omega
theorem qHE {CX:CXT} {P:Program} {w:World} {K:W.Frag} {mg:Str->Option Value} {base:Heap} {k:Nat} {f:Addr} {name qual:Str} {params:Arguments} {body:List Stmt} {scope:Scope} {dV kV doc pm cdv ct oc:Value} {an od:Option Addr}
  {osl:Array (Option Value)} {N ps:List Str} {sp:Sp} (lk:K.lookup f=some ⟨oc,od,.func (PySem.W.fnOf name qual params body scope dV kV doc pm an cdv ct),osl⟩) (hcd:PySem.W.codeIn K cdv qual=true) (S:FnScope N ps scope)
  (len:∀ vs H Q E,sp vs H Q E->vs.length=ps.length)
  (hbody:∀ (A:Around) (outer:List Env) (s:Shared) (H:Hp) (vs:List V) (Q:VK) (E:XK),Room k (A.deeper (envOfC qual scope s.heap.objs.size f cdv))->(0 < k->A.handled=none)->sp vs H Q E ->
   ∃ t,PSs (wR CX P w K mg base N qual scope f cdv A outer s H E) body t∧t { nx:=fun _ H'=>Q .non H',rt:=Q } (start N vs) H) :
  FnOk P w K mg base CX (k + 1) f (PySem.W.fnOf name qual params body scope dV kV doc pm an cdv ct) ps sp:=by
 refine ⟨len,fun A outer s H args us vs Q E hr e0 hb r hsp => ?_⟩
 have hl:=len _ _ _ _ hsp
 have KX:K.In s.heap:=e0.mod.kin.keeps fun b o e=>(e0.bs b o e).1
 have lim:s.heap.NoLimit:=e0.mod.nolimit.keeps fun b o e=>(e0.bs b o e).1
 have hkind:∀ y∈ps.zip us,scope.names.lookup y.1=some .local∨(scope.names.lookup y.1=some .cell∧((cellsFrom (s.heap.objs.size + 1) scope.names []).lookup y.1).isSome=true):=fun ⟨n,v⟩ hy=>by
  rcases S.par n (List.of_mem_zip hy).1 with q |q
  ·exact .inl q
  ·exact .inr ⟨q,PySem.W.cellsFrom_some _ _ _ (.inl q)⟩
 refine codeAny_call_function hr.depth (KX _ _ lk) rfl S.co S.gen rfl (PySem.W.codeRec_of KX hcd) (hb _ _ _ _ ?_)
 refine wpAny_newFunctionEnv_cells S.kind hkind fun env he s1 x => ?_
 subst he
 refine ⟨lim.keeps x.toInCall.keep,codeAny_func ?_⟩
 obtain ⟨t,ht,hq⟩:=hbody A outer s H vs Q E (hr.deeper _) (fun z=>hr.hd (by omega)) hsp
 have I:Inv (wR CX P w K mg base N qual scope f cdv A outer s H E) [] (start N vs) H s1:=qAo S e0 hl r x
 refine wpAny_mono (ht [] s1 (start N vs) H _ I hq) (fun fl s' hs => ?_) fun e s' hs=>hs
 have fin:∀ {σ':St} {H':Hp} {v:V} {u:Value},Inv (wR CX P w K mg base N qual scope f cdv A outer s H E) [] σ' H' s'->RelV v u->Q v H'->CE outer P w H s Q u s' :=
  fun {σ' H' v u} J rv q=>⟨v,H',J.os,J.bare,J.base,J.hok,rv,q⟩
 cases fl with
 |ret u =>
  obtain ⟨v,σ',H',J,rv,q⟩:=hs
  exact fin J rv q
 |next =>
  obtain ⟨σ',H',J,q⟩:=hs
  exact fin (v:=V.non) (u:=Value.none) J rfl q
 |brk =>
  obtain ⟨_,_,_,q⟩:=hs
  exact False.elim q
 |cont =>
  obtain ⟨_,_,_,q⟩:=hs
  exact False.elim q
end L2
namespace L2
open PySem PySem.Spec PyProof.Rows
section
variable {X:Cx} {x:Str} {p pos:Pos} {e:Expr} {es:List Expr} {t:TA} {id T:String} {r:List V->Hp->VK->Prop}
def tCB (r:List V->Hp->VK->Prop) (t:TA):TE:=fun σ H Q=>t σ H fun vs H1=>r vs H1 Q
theorem qDG (hc:Wq X (.builtin id) r) (hg:Gl X x) (hm:X.mg x=none) (hv:bootBuiltins x=some (.builtin id)) (ha:PA X (e::es) t) (hn:x ≠ "__name__" := by decide) (hdb:(x==("__debug__":Str))=false:=by decide)
  (he:starEach (e::es) X.env=(false,eval e X.env)::starEach es X.env:=by rfl) (hpl:(backTo pos (starEach es X.env)).any (·.1)=false:=by rfl):PE X (.Call (.Name x p) (e::es) [] pos) (tCB r t):=by
 intro pins s σ H Q I h
 refine wpAny_Call_Name_kw (zP I hg hm hv ?_ hn hdb)
 exact PyProof.Rows.callWith_builtin1 (thn (ha pos pins s σ H _ I h) fun us s1 ⟨vs,H1,I1,r1,q1⟩=>hc pins s1 σ H1 vs us Q I1 r1 q1) he hpl
theorem qBR (hc:Wq X (.type T) r) (hg:Gl X x) (hm:X.mg x=none) (hv:bootBuiltins x=some (.type T)) (ha:PA X (e::es) t) (hn:x ≠ "__name__" := by decide) (hdb:(x==("__debug__":Str))=false:=by decide)
  (he:starEach (e::es) X.env=(false,eval e X.env)::starEach es X.env:=by rfl) (hpl:(backTo pos (starEach es X.env)).any (·.1)=false:=by rfl):PE X (.Call (.Name x p) (e::es) [] pos) (tCB r t):=by
 intro pins s σ H Q I h
 refine wpAny_Call_Name_kw (zP I hg hm hv ?_ hn hdb)
 exact PyProof.Rows.callWith_type1 (thn (ha pos pins s σ H _ I h) fun us s1 ⟨vs,H1,I1,r1,q1⟩=>hc pins s1 σ H1 vs us Q I1 r1 q1) he hpl
end
end L2
namespace HT
open PySem PyProof.Rows
section
variable {prog:Program} {w:World} {A:Around} {E:Value->Shared->Prop} {s:Shared}
def sIx (n d:Nat):Option Int->Nat
 |none=>d
 |some v=>if v < 0 then (v + (n:Int)).toNat else min v.toNat n
theorem sIx_nat (n d k:Nat):sIx n d (some (k:Int))=min k n:=by
 show (if (k:Int) < 0 then ((k:Int) + (n:Int)).toNat else min (k:Int).toNat n)=min k n
 rw [if_neg (by omega),Int.toNat_natCast]
end
end HT
namespace L2
open PySem PySem.Spec PyProof.Rows
abbrev TO:=St->Hp->(Option Int->Hp->Prop)->Prop
def PO (X:Cx) (e:Option Expr) (t:TO):Prop :=
 ∀ (pins:List (Addr×Obj)) (s:Shared) (σ:St) (H:Hp) (Q:Option Int->Hp->Prop),Inv X pins σ H s->t σ H Q ->
  wpAny (model X.prog X.w) X.A (evalPart e X.env) (fun u s' => ∃ o H',Inv X pins σ H' s'∧IsPart u o∧Q o H') X.xe s
def qDY:TO:=fun _ H Q=>Q none H
def qHG (t:TE):TO:=fun σ H Q=>t σ H fun x H1 => ∃ i,x = .int i∧Q (some i) H1
section
variable {X:Cx} {e:Expr} {te:TE} {lo hi:Option Expr} {tl th:TO} {pos p2:Pos}
theorem qDf:PO X none qDY:=by
 intro pins s σ H Q I h
 rw [evalPart_none]
 exact wpAny_pure ⟨none,H,I,.none,h⟩
theorem qDr (h:PE X e te):PO X (some e) (qHG te):=by
 intro pins s σ H Q I hw
 rw [evalPart_some]
 refine thn (h pins s σ H _ I hw) fun u s1 ⟨x,H1,I1,r1,q1⟩ => ?_
 obtain ⟨i,rfl,q⟩:=q1
 obtain ⟨t,rfl⟩:=r1
 exact ⟨some i,H1,I1,.int i t,q⟩
def SlR (X:Cx) (r:V->Option Int->Option Int->Hp->VK->Prop):Prop :=
 ∀ (pins:List (Addr×Obj)) (s:Shared) (σ:St) (H:Hp) (x:V) (v vl vu:Value) (lo hi:Option Int) (sl:Addr) (Q:VK),Inv X pins σ H s->RelV x v->s.heap.IsSliceOf sl vl vu .none->IsPart vl lo->IsPart vu hi->r x lo hi H Q ->
  ∃ T id,typeLookup (.type T) "__getitem__" = pure (some (.builtin id))∧s.TypeIs v T∧wpAny (model X.prog X.w) X.A (getItem v (.ref sl)) (EP X pins σ Q) X.xe s
def tSl (r:V->Option Int->Option Int->Hp->VK->Prop) (te:TE) (tl th:TO):TE:=fun σ H Q=>te σ H fun x H1=>tl σ H1 fun l H2=>th σ H2 fun u H3=>r x l u H3 Q
theorem qBj {r:V->Option Int->Option Int->Hp->VK->Prop} (hr:SlR X r) (he:PE X e te) (hl:PO X lo tl) (hu:PO X hi th):PE X (.Subscript e (.Slice lo hi none p2) pos) (tSl r te tl th):=by
 intro pins s σ H Q I h
 refine Subscript_ (thn (he pins s σ H _ I h) fun v s1 ⟨x,H1,I1,r1,q1⟩ => ?_)
 refine wpAny_Slice (thn (hl pins s1 σ H1 _ I1 q1) fun vl s2 ⟨l,H2,I2,pl,q2⟩=>thn (hu pins s2 σ H2 _ I2 q2) fun vu s3 ⟨u,H3,I3,pu,q3⟩ => ?_)
 rw [evalPart_none]
 refine wpAny_pure ?_
 have I4:Inv X pins σ H3 { s3 with heap:=s3.heap.push { cls := .type "slice",data := .fields #[vl,vu,.none] } }:=I3.kept (t':=s3.toks) fun b ob q=>Heap.get?_push_of_some _ q
 obtain ⟨T,id,hT,ht,hg⟩:=hr pins { s3 with heap:=s3.heap.push { cls := .type "slice",data := .fields #[vl,vu,.none] } } σ H3 x v vl vu l u s3.heap.objs.size Q I4 r1 (Heap.IsSliceOf.new ..) pl pu q3
 show wpAny (model X.prog X.w) X.A (subscriptTail e (.Slice lo hi none p2) v (.ref s3.heap.objs.size)) (EP X pins σ Q) X.xe { s3 with heap:=s3.heap.push { cls := .type "slice",data := .fields #[vl,vu,.none] } }
 exact tail_any (ops:=[.ref s3.heap.objs.size,v]) ht hT hg (by with_unfolding_all rfl)
def qBS (xs:List V) (lo hi:Option Int):List V:=(xs.drop (HT.sIx xs.length 0 lo)).take (HT.sIx xs.length xs.length hi - HT.sIx xs.length 0 lo)
theorem jX (xs:List V) (lo hi:Option Int):(qBS xs lo hi).length≤xs.length:=by
 unfold qBS
 rw [List.length_take,List.length_drop]
 omega
end
end L2
namespace L2
open PySem PySem.Spec PyProof.Rows
def ixN (n:Nat) (i:Int):Option Nat:=if 0≤i then (if i < n then some i.toNat else none) else if -(n:Int)≤i then some (i + n).toNat else none
def atI {α:Type} (xs:List α) (i:Int):Option α:=(ixN xs.length i).bind fun j=>xs[j]?
theorem J8 {n:Nat} {i:Int} {j:Nat} (h:ixN n i=some j):seqIndex? i n=some j∧j < n ∧ -(n:Int)≤i∧i < n:=by
 unfold ixN at h
 by_cases h0:0≤i
 ·rw [if_pos h0] at h
  by_cases h1:i < n
  ·rw [if_pos h1] at h
   have e:i.toNat=j:=Option.some.inj h
   exact ⟨by rw [seqIndex_of h0 h1,e],by omega,by omega,h1⟩
  ·rw [if_neg h1] at h;cases h
 ·rw [if_neg h0] at h
  by_cases h1:-(n:Int)≤i
  ·rw [if_pos h1] at h
   have e:(i + n).toNat=j:=Option.some.inj h
   exact ⟨by rw [seqIndex_neg (by omega) h1,e],by omega,h1,by omega⟩
  ·rw [if_neg h1] at h;cases h
theorem YB {α:Type} {xs:List α} {i:Int} {v:α} (h:atI xs i=some v):∃ j,seqIndex? i xs.length=some j∧xs[j]? = some v∧j < xs.length ∧ -(xs.length:Int)≤i∧i < xs.length:=by
 unfold atI at h
 cases e:ixN xs.length i with
 |none=>rw [e] at h;cases h
 |some j =>
  rw [e] at h
  obtain ⟨h1,h2,h3,h4⟩:=J8 e
  exact ⟨j,h1,h,h2,h3,h4⟩
def qAl (b:Expr):Prop := ∀ o i,subscripted b false o i=operate [o,i] (getItem o i)
def IxR (X:Cx) (r:R2):Prop :=
 ∀ (value slice:Expr) (pins:List (Addr×Obj)) (s:Shared) (σ:St) (H:Hp) (x y:V) (v u:Value) (Q:VK),Inv X pins σ H s->RelV x v->RelV y u->r x y H Q ->
  subscripted slice false v u=operate [v,u] (getItem v u)->wpAny (model X.prog X.w) X.A (subscriptTail value slice v u) (EP X pins σ Q) X.xe s
def MtR (X:Cx) (id:String) (r:V->List V->Hp->VK->Prop):Prop :=
 ∀ (pins:List (Addr×Obj)) (s:Shared) (σ:St) (H:Hp) (x:V) (xs:List V) (v:Value) (us:List Value) (Q:VK),Inv X pins σ H s->RelV x v->Vals xs us->r x xs H Q ->
  wpAny (model X.prog X.w) X.A (call (.builtin id) (v::us)) (EP X pins σ Q) X.xe s
section
variable {X:Cx} {a b:Expr} {ta tb:TE} {pos:Pos}
theorem IxR.or {r r':R2} (h:IxR X r) (h':IxR X r'):IxR X (fun x y H Q=>r x y H Q∨r' x y H Q):=by
 intro value slice pins s σ H x y v u Q I rx ry q hs
 rcases q with q |q
 ·exact h value slice pins s σ H x y v u Q I rx ry q hs
 ·exact h' value slice pins s σ H x y v u Q I rx ry q hs
theorem qHL {r:R2} (hr:IxR X r) (ha:PE X a ta) (hb:PE X b tb) (hs:qAl b):PE X (.Subscript a b pos) (tOp r ta tb):=by
 intro pins s σ H Q I h
 exact Subscript_ (qFD ha hb I h fun v u s2 x y H2 I2 rx ry q=>hr a b pins s2 σ H2 x y v u Q I2 rx ry q (hs _ _))
def qHa (K:W.Frag):R2:=fun x y H Q => ∃ p xs i v,x = .ref p∧y = .int i∧SqL K H p xs∧atI xs i=some v∧Q v H
def qHc (K:W.Frag):R2:=fun x y H Q => ∃ p xs i v,x = .ref p∧y = .int i∧SqT K H p xs∧atI xs i=some v∧Q v H
def qHA:R2:=fun x y H Q => ∃ z i c,x = .str z∧y = .int i∧z.length≤sizeLine∧atI z.cps.toList i=some c∧Q (.str ⟨#[c]⟩) H
theorem ix_list:IxR X (qHa X.K):=by
 intro value slice pins s σ H x y v u Q I rx ry h hs
 obtain ⟨p,xs,i,z,rfl,rfl,hq,he,q⟩:=h
 cases rx
 obtain ⟨t,rfl⟩:=ry
 obtain ⟨its,r,pl,hz⟩:=I.list hq
 obtain ⟨j,h1,h2,h3,h4,h5⟩:=YB he
 obtain ⟨w,ew,rw'⟩:=r.get h2
 have hl:=r.length
 have hn:=zN
 have fin:EP X pins σ Q w s:=⟨z,H,I,rw',q⟩
 by_cases h0:0≤i
 ·have hj:i.toNat=j:=by
   rw [seqIndex_of h0 h5] at h1
   exact Option.some.inj h1
  exact item_listR pl.isList h0 (by omega) (by rw [hj];simpa using ew) fin hs
 ·have hj:(i + (its.toArray.size:Int)).toNat=j:=by
   rw [seqIndex_neg (by omega) h4] at h1
   rw [List.size_toArray,← hl]
   exact Option.some.inj h1
  exact subscriptTail_builtinR (x:=w) pl.isList.typeIs slot_list_getitem.lookup
   (wpAny_getItem_list_neg (Q:=fun r s'=>r=w∧EP X pins σ Q r s') pl.isList (by omega) (by rw [List.size_toArray] <;> omega) (by omega) (by rw [hj];simpa using ew) ⟨rfl,fin⟩) hs
theorem ix_tup:IxR X (qHc X.K):=by
 intro value slice pins s σ H x y v u Q I rx ry h hs
 obtain ⟨p,xs,i,z,rfl,rfl,hq,he,q⟩:=h
 cases rx
 obtain ⟨t,rfl⟩:=ry
 obtain ⟨its,r,pl,hz⟩:=I.tuple hq
 obtain ⟨j,h1,h2,h3,h4,h5⟩:=YB he
 obtain ⟨w,ew,rw'⟩:=r.get h2
 have hl:=r.length
 have hn:=zN
 have fin:EP X pins σ Q w s:=⟨z,H,I,rw',q⟩
 exact subscriptTail_builtinR (x:=w) pl.typeIs slot_tuple_getitem.lookup
  (getItem_tuple (j:=j) (Q:=fun r s'=>r=w∧EP X pins σ Q r s') pl (by omega) (by omega) (by rw [List.size_toArray,← hl];exact h1) (by simpa using ew) ⟨rfl,fin⟩) hs
theorem qFu:IxR X qHA:=by
 intro value slice pins s σ H x y v u Q I rx ry h hs
 obtain ⟨z,i,c,rfl,rfl,hz,he,q⟩:=h
 obtain ⟨t,rfl⟩:=rx
 obtain ⟨t',rfl⟩:=ry
 obtain ⟨j,h1,h2,h3,h4,h5⟩:=YB he
 have hl:z.cps.toList.length=z.length:=by simp [Str.length]
 rw [hl] at h1 h4 h5
 have hn:=zN
 exact tail_any (typeIs_str s z t) slot_str_getitem.lookup (getItem_str (c:=c) (by
  have e1:decide (i < -(2 ^ 63:Int))=false:=decide_eq_false (by omega)
  have e2:decide (i ≥ 2 ^ 63)=false:=decide_eq_false (by omega)
  rw [e1,e2,Bool.or_false]) (by rw [h1];simpa using h2) ⟨.str ⟨#[c]⟩,H,I.tok _,⟨_,rfl⟩,q⟩) hs
def rIx (K:W.Frag):R2:=fun x y H Q=>qHa K x y H Q∨qHc K x y H Q∨qHA x y H Q
theorem qGV:IxR X (rIx X.K):=ix_list.or (ix_tup.or qFu)
theorem JI (its:List Value) (n j:Nat) (u:Value):Obj.mapSeq (·.setIfInBounds j u) { cls := .type "list",data := .seq its.toArray n }={ cls := .type "list",data := .seq (its.set j u).toArray n }:=by
 simp [Obj.mapSeq]
theorem Inv.lst {pins:List (Addr×Obj)} {σ:St} {H:Hp} {s:Shared} {p:Addr} {xs:List V} (I:Inv X pins σ H s) (h:H p=some (.lst xs)) :
  ∃ (its:List Value) (n:Nat),Vals xs its∧s.heap.get? p=some { cls := .type "list",data := .seq its.toArray n }∧xs.length≤sizeLine:=by
 obtain ⟨z,its,n,r,e⟩:=I.hok p _ h
 exact ⟨its,n,r,e,z⟩
theorem Inv.lstUpd {pins:List (Addr×Obj)} {σ:St} {H:Hp} {s:Shared} {p:Addr} {xs ys:List V} {its its':List Value} {n n':Nat} {f:Obj->Obj} (I:Inv X pins σ H s) (h:H p=some (.lst xs))
  (ho:s.heap.get? p=some { cls := .type "list",data := .seq its.toArray n }) (hf:f { cls := .type "list",data := .seq its.toArray n }={ cls := .type "list",data := .seq its'.toArray n' }) (r:Vals ys its') (hz:ys.length≤sizeLine) (t:Nat) :
  Inv X pins σ (upd H p (.lst ys)) { s with heap:=s.heap.update p f,toks:=t }:=by
 have e:(s.heap.update p f).get? p=some { cls := .type "list",data := .seq its'.toArray n' }:=by
  rw [Heap.get?_update_self f ho (by rw [hf] <;> rfl),hf]
 refine I.write (x:=p) (e:=p) (by rw [h];trivial) (.inl rfl) (fun b u hb q=>(Heap.get?_update_other _ _ (Ne.symm hb)).trans q) ⟨_,e⟩ ?_
 exact ⟨hz,its',n',r,e⟩
def qE9:V->V->V->Hp->(Hp->Prop)->Prop:=fun o i v H Q => ∃ p xs k j,o = .ref p∧i = .int k∧H p=some (.lst xs)∧ixN xs.length k=some j∧Q (upd H p (.lst (xs.set j v)))
theorem Yv:qFY X qE9:=by
 intro pins s σ H o i v ov iv u Q I ro ri rv h
 obtain ⟨p,xs,k,j,rfl,rfl,hp,hj,q⟩:=h
 cases ro
 obtain ⟨t,rfl⟩:=ri
 obtain ⟨its,n,r,ho,hz⟩:=I.lst hp
 obtain ⟨h1,h2,h3,h4⟩:=J8 hj
 have hl:=r.length
 have hn:=zN
 have I':Inv X pins σ (upd H p (.lst (xs.set j v))) { s with heap:=s.heap.update p (Obj.mapSeq (·.setIfInBounds j u)) } :=
  I.lstUpd hp ho (JI its n j u) (r.set rv j) (by rw [List.length_set];exact hz) s.toks
 by_cases h0:0≤k
 ·have hk:k.toNat=j:=by
   rw [seqIndex_of h0 h4] at h1
   exact Option.some.inj h1
  exact PySem.W.ki_setAt ho h0 (by omega) (by rw [List.size_toArray,← hl];exact h4) (by rw [hk];exact ⟨_,I',q⟩)
 ·have hk:(k + (its.toArray.size:Int)).toNat=j:=by
   rw [seqIndex_neg (by omega) h3] at h1
   rw [List.size_toArray,← hl]
   exact Option.some.inj h1
  exact PySem.W.ki_setBack ho (by omega) (by rw [List.size_toArray,← hl];exact h3) (by omega) (by rw [hk];exact ⟨_,I',q⟩)
theorem YL (lo hi:Option Int) (n:Nat):(sliceBounds lo hi none n).1=((HT.sIx n 0 lo:Nat):Int)∧(sliceBounds lo hi none n).2.1=((HT.sIx n n hi:Nat):Int)∧(sliceBounds lo hi none n).2.2=1:=by
 refine ⟨?_,?_,rfl⟩
 ·cases lo with
  |none=>simp [sliceBounds,HT.sIx]
  |some i =>
   simp only [sliceBounds,HT.sIx,Option.getD_none,show (1:Int) > 0 by decide,if_true]
   by_cases h:i < 0
   ·simp only [h,if_true] <;> omega
   ·simp only [h,if_false] <;> omega
 ·cases hi with
  |none=>simp [sliceBounds,HT.sIx]
  |some i =>
   simp only [sliceBounds,HT.sIx,Option.getD_none,show (1:Int) > 0 by decide,if_true]
   by_cases h:i < 0
   ·simp only [h,if_true] <;> omega
   ·simp only [h,if_false] <;> omega
theorem yJ (its:List Value) (lo hi:Option Int):slicePick its.toArray lo hi none=((its.drop (HT.sIx its.length 0 lo)).take (HT.sIx its.length its.length hi - HT.sIx its.length 0 lo)).toArray:=by
 obtain ⟨h1,h2,h3⟩:=YL lo hi its.toArray.size
 unfold slicePick
 rw [h1,h2,h3]
 simp only [sliceRange_one,pick_run,List.size_toArray] <;> rfl
def qH6 (K:W.Frag):V->Option Int->Option Int->Hp->VK->Prop:=fun x lo hi H Q => ∃ a xs,x = .ref a∧SqL K H a xs ∧ ∀ p,H p=none->Q (.ref p) (upd H p (.lst (qBS xs lo hi)))
theorem qEm:SlR X (qH6 X.K):=by
 intro pins s σ H x v vl vu lo hi sl Q I rx hs pl pu h
 obtain ⟨a,xs,rfl,hx,q⟩:=h
 cases rx
 obtain ⟨its,r,ht,hz⟩:=I.list hx
 have hlen:=r.length
 refine ⟨"list",_,slot_list_getitem.lookup,ht.isList.typeIs,?_⟩
 refine wpAny_getItem_list_slice ht.isList hs pl pu .none (by simp) ?_ (by rw [List.size_toArray] <;> omega)
 rw [yJ,← hlen]
 refine ⟨.ref s.heap.objs.size,_,I.laid (t':=s.toks) (o := .lst (qBS xs lo hi)) (fun b ob q=>Heap.get?_push_of_some _ q) (Nat.le_refl _) ?_,rfl,q _ (I.hok.fresh (Nat.le_refl _))⟩
 exact ⟨Nat.le_trans (jX xs lo hi) hz,_,0,(r.drop (HT.sIx xs.length 0 lo)).take (HT.sIx xs.length xs.length hi - HT.sIx xs.length 0 lo),Heap.get?_push_size _ rfl⟩
theorem Yp:Wq X (.builtin "len") (fun xs H Q => ∃ p ys,xs=[.ref p]∧(SqL X.K H p ys∨SqT X.K H p ys)∧Q (.int ys.length) H):=by
 intro pins s σ H xs us Q I r h
 obtain ⟨p,ys,rfl,hq,q⟩:=h
 obtain ⟨u,rfl,rx⟩:=yS r
 cases rx
 have hn:=zN
 rcases hq with hq |hq
 ·obtain ⟨its,r',pl,hz⟩:=I.list hq
  have hlen:=r'.length
  exact Calls.call_len_list pl.isList (by simp only [List.size_toArray] <;> omega) ⟨.int ys.length,H,I.tok _,⟨s.toks + 1,by rw [List.size_toArray,hlen]⟩,q⟩
 ·obtain ⟨its,r',pl,hz⟩:=I.tuple hq
  have hlen:=r'.length
  exact len_tuple pl (by simp only [List.size_toArray] <;> omega) ⟨.int ys.length,H,I.tok _,⟨s.toks + 1,by rw [List.size_toArray,hlen]⟩,q⟩
theorem yN:Wq X (.type "tuple") (fun xs H Q => ∃ p ys,xs=[.ref p]∧((SqL X.K H p ys ∧ ∀ l,H l=none->Q (.ref l) (upd H l (.tup ys)))∨(SqT X.K H p ys∧Q (.ref p) H))):=by
 intro pins s σ H xs us Q I r h
 obtain ⟨p,ys,rfl,h⟩:=h
 obtain ⟨u,rfl,rx⟩:=yS r
 cases rx
 rcases h with ⟨hq,q⟩ |⟨hq,q⟩
 ·obtain ⟨its,r',pl,hz⟩:=I.list hq
  have hlen:=r'.length
  refine call_tuple_list pl.isList (fun h' kp => ?_) (by simp only [List.size_toArray] <;> omega)
  have I1:Inv X pins σ H { s with heap:=h' }:=I.kept (t':=s.toks) kp
  have I2:Inv X pins σ (upd H h'.objs.size (.tup ys)) { s with heap:=h'.push { cls := .type "tuple",data := .seq its.toArray } } :=
   I1.laid (t':=s.toks) (fun b o e=>Heap.get?_push_of_some _ e) (Nat.le_refl _) (show ObjOk X.prog X.w _ _ _ (.tup ys) from ⟨hz,its,r',IsTup.new _ _⟩)
  exact ⟨.ref h'.objs.size,_,I2,rfl,q _ (I1.hok.fresh (Nat.le_refl _))⟩
 ·obtain ⟨its,r',pl,hz⟩:=I.tuple hq
  exact call_tuple_same pl ⟨.ref p,H,I,rfl,q⟩
def tyV (K:W.Frag) (T:String) (x:V) (H:Hp):Prop:=match x with
 | .str _=>T = "str"
 | .int _=>T = "int"
 | .ref p=>(T = "list" ∧ ∃ xs,SqL K H p xs)∨(T = "tuple" ∧ ∃ o,K.lookup p=some o∧o.cls = .type "tuple" ∧ o.dict=none) ∨
   (T = "dict" ∧ ((∃ kvs,H p=some (.dK kvs)) ∨ ∃ kvs,H p=some (.dT kvs)))∨(T = "set" ∧ ∃ S n,H p=some (.set S n))
 |_=>False
theorem qGS {pins:List (Addr×Obj)} {σ:St} {H:Hp} {s:Shared} {T:String} {x:V} {v:Value} (I:Inv X pins σ H s) (r:RelV x v) (ty:tyV X.K T x H) :
  s.TypeIs v T ∧ ∀ a,v = .ref a -> ∃ ob,s.heap.get? a=some ob∧ob.dict=none:=by
 cases x with
 |str z =>
  obtain ⟨t,rfl⟩:=r
  cases (show T = "str" from ty)
  exact ⟨typeIs_str s z t,fun _ e=>nomatch e⟩
 |int i =>
  obtain ⟨t,rfl⟩:=r
  cases (show T = "int" from ty)
  exact ⟨typeIs_int s i t,fun _ e=>nomatch e⟩
 |ref p =>
  cases r
  rcases ty with ⟨rfl,xs,hq⟩ |⟨rfl,o,hk,hc,hd⟩ |⟨rfl,hk⟩ |⟨rfl,S,n,hk⟩
  ·obtain ⟨its,_,pl,_⟩:=I.list hq
   refine ⟨pl.isList.typeIs,fun a e => ?_⟩
   cases e
   obtain ⟨o,n,e,c,hd,_⟩:=pl
   exact ⟨o,e,hd⟩
  ·refine ⟨⟨o,I.kIn p o hk,hc⟩,fun a e => ?_⟩
   cases e
   exact ⟨o,I.kIn _ o hk,hd⟩
  ·have z:∃ o,s.heap.get? p=some o∧o.ExactDict:=by
    rcases hk with ⟨kvs,hk⟩ |⟨kvs,hk⟩
    ·obtain ⟨_,_,_,_,o,_,_,e,ex,_⟩:=I.hok p _ hk
     exact ⟨o,e,ex⟩
    ·obtain ⟨_,_,_,_,o,_,_,e,ex,_⟩:=I.hok p _ hk
     exact ⟨o,e,ex⟩
   obtain ⟨o,e,ex⟩:=z
   refine ⟨⟨o,e,ex.1⟩,fun a e2 => ?_⟩
   cases e2
   exact ⟨o,e,ex.2.1⟩
  ·obtain ⟨o,_,_,_,e,ex,_⟩:=I.hok p _ hk
   refine ⟨⟨o,e,ex.1⟩,fun a e2 => ?_⟩
   cases e2
   exact ⟨o,e,ex.2.1⟩
 |_=>exact False.elim ty
def tBM (K:W.Frag) (T:String) (r:V->List V->Hp->VK->Prop) (to:TE) (t:TA):TE:=fun σ H Q=>to σ H fun x H1=>tyV K T x H1∧t σ H1 fun xs H2=>r x xs H2 Q
variable {o e:Expr} {es:List Expr} {to:TE} {t:TA} {name:Str} {apos cpos:Pos} {T id:String} {r:V->List V->Hp->VK->Prop}
theorem qDB (pa:PlainAttrs T) (slot:Slot T name id) (hty:typeOf (.builtin id)=pure (.type "method_descriptor")) (hm:MtR X id r) (ho:PE X o to) (ha:PA X (e::es) t)
  (hbase:attributeBase o name X.env (eval o X.env)=eval o X.env:=by rfl)
  (hfew:((backTo cpos (starEach (e::es) X.env)).all (fun x => !x.1)&&(backToKw cpos (keywordEach [] X.env)).all (fun x=>x.1.isSome)
   && decide ((e::es).length + ([]:List Keyword).length + (if ([]:List Keyword).isEmpty then 0 else 1) < 30))=true:=by rfl)
  (hline:(apos.endLine==cpos.line)=true:=by rfl) (hs:starEach (e::es) X.env=(false,eval e X.env)::starEach es X.env:=by rfl) (hplain:(backTo cpos (starEach es X.env)).any (·.1)=false:=by rfl) :
  PE X (.Call (.Attribute o name apos) (e::es) [] cpos) (tBM X.K T r to t):=by
 intro pins s σ H Q I h
 refine wpAny_Call_method_late hbase hfew hline rfl (thn (ho pins s σ H _ I h) fun v s1 ⟨x,H1,I1,r1,ty,q1⟩ => ?_)
 obtain ⟨h1,h2⟩:=qGS I1 r1 ty
 refine ⟨T,id,pa,slot,hty,h1,h2,?_⟩
 have hA:=ha cpos pins s1 σ H1 _ I1 q1
 rw [hs] at hA ⊢
 refine Calls.callWith_builtin (by show (false || (backTo cpos (starEach es X.env)).any (·.1))=false;rw [hplain] <;> rfl) (Calls.evalArgs_plain ?_)
 exact thn hA fun us s2 ⟨vs,H2,I2,r2,q2⟩=>hm pins s2 σ H2 x vs v us Q I2 r1 r2 q2
end
end L2
namespace L2
open PySem PySem.Spec PyProof.Rows
def MtM (X:Cx) (id:String) (r:V->List V->Hp->VK->Prop):Prop :=
 ∀ (pins:List (Addr×Obj)) (s:Shared) (σ:St) (H:Hp) (x:V) (xs:List V) (v:Value) (us:List Value) (Q:VK),Inv X pins σ H s->RelV x v->Vals xs us->r x xs H Q ->
  wpAny (model X.prog X.w) X.A (call (.builtin id) (v::us)) (EP X pins σ Q) X.xe s
theorem Vals.one:∀ {x:V} {us:List Value},Vals [x] us -> ∃ u,us=[u]∧RelV x u
 |_,_,.cons r .nil=>⟨_,rfl,r⟩
theorem Vals.eraseIdx:∀ {xs:List V} {us:List Value} (i:Nat),Vals xs us->Vals (xs.eraseIdx i) (us.eraseIdx i)
 |_,_,_,.nil => .nil
 |_,_,0,.cons _ t=>t
 |_,_,i + 1,.cons r t => .cons r (Vals.eraseIdx i t)
theorem Vals.rep {xs:List V} {us:List Value} (h:Vals xs us):∀ k:Nat,Vals (List.replicate k xs).flatten (List.replicate k us).flatten
 |0 => .nil
 |k + 1=>by
  rw [List.replicate_succ,List.replicate_succ,List.flatten_cons,List.flatten_cons]
  exact Vals.append h (Vals.rep h k)
theorem yV {α:Type}:∀ (l:List α) (i:Nat),(l.eraseIdx i).length≤l.length
 |[],_=>Nat.le_refl _
 |_::_,0=>Nat.le_succ _
 |_::r,i + 1=>Nat.succ_le_succ (yV r i)
theorem yg (its:List Value):∀ (k:Nat) (acc:List Value),
  List.foldl (fun x1 x2=>x1++x2) acc.toArray (List.replicate k its.toArray)=(acc++(List.replicate k its).flatten).toArray
 |0,acc=>by simp
 |k + 1,acc=>by
  have e:acc.toArray++its.toArray=(acc++its).toArray:=by simp
  have e2:(acc++its)++(List.replicate k its).flatten=acc++(List.replicate (k + 1) its).flatten:=by
   rw [List.replicate_succ,List.flatten_cons,List.append_assoc]
  rw [← e2,← yg its k (acc++its),← e,List.replicate_succ,List.foldl_cons]
section
variable {X:Cx} {pins:List (Addr×Obj)} {σ:St} {H:Hp} {s:Shared} {l b:Addr} {xs ys zs:List V}
theorem Inv.lset {its its':List Value} {n:Nat} {f:Array Value->Array Value} {t':Nat} (I:Inv X pins σ H s) (hH:H l=some (.lst xs))
  (e:s.heap.get? l=some { cls := .type "list",data := .seq its.toArray n }) (hf:f its.toArray=its'.toArray) (hv:Vals ys its') (hz:ys.length≤sizeLine) :
  Inv X pins σ (upd H l (.lst ys)) { s with heap:=s.heap.update l (Obj.mapSeq f),toks:=t' }:=by
 have q:=PySem.IsL.update e f
 rw [hf] at q
 refine I.write (x:=l) (e:=l) (by rw [hH];exact trivial) (.inl rfl) (fun b' u hb hu=>(Heap.get?_update_other s.heap (Obj.mapSeq f) (Ne.symm hb)).trans hu) ⟨_,q⟩ ?_
 exact ⟨hz,its',_,hv,q⟩
theorem Inv.lnew {its:List Value} {t':Nat} (I:Inv X pins σ H s) (hv:Vals ys its) (hz:ys.length≤sizeLine) :
  Inv X pins σ (upd H s.heap.objs.size (.lst ys)) { s with heap:=s.heap.push { cls := .type "list",data := .seq its.toArray },toks:=t' } :=
 I.laid (fun _ _ q=>Heap.get?_push_of_some _ q) (Nat.le_refl _) ⟨hz,its,0,hv,Heap.get?_push_size _ rfl⟩
theorem Inv.fresh (I:Inv X pins σ H s):H s.heap.objs.size=none:=I.hok.fresh (Nat.le_refl _)
theorem Inv.lstM (I:Inv X pins σ H s) (hH:H l=some (.lst xs)):xs.length≤sizeLine ∧ ∃ (its:List Value) (n:Nat),Vals xs its∧xs.length=its.length∧s.heap.get? l=some { cls := .type "list",data := .seq its.toArray n }:=by
 obtain ⟨z,its,n,r,e⟩:=I.hok l _ hH
 exact ⟨z,its,n,r,r.length,e⟩
theorem qCM {n:Nat} (h:n≤sizeLine):Builtin.List.listTooLong n=false:=by
 unfold Builtin.List.listTooLong
 exact decide_eq_false (by omega)
end
section
variable {X:Cx}
def qD8:V->List V->Hp->VK->Prop:=fun x vs H Q => ∃ l xs y,x = .ref l∧vs=[y]∧H l=some (.lst xs)∧xs.length < sizeLine∧Q .non (upd H l (.lst (xs++[y])))
theorem yk:MtM X "list.append" qD8:=by
 intro pins s σ H x vs v us Q I rx rv h
 obtain ⟨l,xs,y,rfl,rfl,hH,hz,q⟩:=h
 cases rx
 obtain ⟨u,rfl,ru⟩:=rv.one
 obtain ⟨z,its,n,r,hl,e⟩:=I.lstM hH
 refine call_meets F.slot_list_append ⟨_,e,rfl⟩ F.entry_list_append (F.args_list_append_2 _ _) (PySem.list_append l its.toArray n u (by rw [List.size_toArray];omega)) ⟨e,?_⟩
 refine ⟨.non,_,I.lset (its':=its++[u]) hH e (by simp) (r.append (.cons ru .nil)) ?_,rfl,q⟩
 rw [List.length_append,List.length_singleton]
 omega
def qF2:V->List V->Hp->VK->Prop:=fun x vs H Q => ∃ l xs i k y,x = .ref l∧vs=[.int i]∧H l=some (.lst xs) ∧ -(2 ^ 63)≤i∧i < 2 ^ 63∧seqIndex? i xs.length=some k∧xs[k]? = some y∧Q y (upd H l (.lst (xs.eraseIdx k)))
theorem qBy:MtM X "list.pop" qF2:=by
 intro pins s σ H x vs v us Q I rx rv h
 obtain ⟨l,xs,i,k,y,rfl,rfl,hH,h1,h2,hk,hy,q⟩:=h
 cases rx
 obtain ⟨u,rfl,ru⟩:=rv.one
 obtain ⟨t,rfl⟩:=ru
 obtain ⟨z,its,n,r,hl,e⟩:=I.lstM hH
 obtain ⟨w,hw,rw'⟩:=r.get hy
 refine call_meets F.slot_list_pop ⟨_,e,rfl⟩ F.entry_list_pop (F.args_list_pop_2 _ _)
  (MeetsSeq.list_pop_at l its.toArray n i t k w (fitsIndex_both h1 h2) (by rw [List.size_toArray,← hl];exact hk) (by rw [← Array.getElem?_toList];exact hw) (by rw [List.size_toArray];omega)) ⟨e,?_⟩
 refine ⟨y,_,I.lset (its':=its.eraseIdx k) hH e ?_ (r.eraseIdx k) ?_,rw',q⟩
 ·show its.toArray.eraseIdxIfInBounds k=(its.eraseIdx k).toArray
  rw [List.eraseIdxIfInBounds_toArray]
 ·have:=yV xs k
  omega
def qIF:R2:=fun x y H Q => ∃ l k xs,x = .ref l∧y = .int k∧H l=some (.lst xs) ∧ -(2 ^ 63)≤k∧k < 2 ^ 63∧xs.length * k.toNat≤sizeLine ∧
 ∀ p,H p=none->Q (.ref p) (upd H p (.lst (List.replicate k.toNat xs).flatten))
theorem qEP {α:Type} (xs:List α) (k:Nat):(List.replicate k xs).flatten.length=k * xs.length:=by
 induction k with
 |zero=>simp
 |succ k ih=>rw [List.replicate_succ,List.flatten_cons,List.length_append,ih,Nat.succ_mul,Nat.add_comm]
theorem qFK:OpR X (binaryOp .Mult) qIF:=by
 intro pins s σ H x y v u Q I rx ry h
 obtain ⟨l,k,xs,rfl,rfl,hH,h1,h2,hz,q⟩:=h
 cases rx
 obtain ⟨t,rfl⟩:=ry
 obtain ⟨z,its,n,r,hl,e⟩:=I.lstM hH
 have hlen:its.toArray.size * k.toNat≤sizeLine:=by rw [List.size_toArray,← hl];exact hz
 have hcap:¬ its.toArray.size * k.toNat > (2 ^ 63 - 1) / 8:=by
  have:(sizeLine:Nat)≤(2 ^ 63 - 1) / 8:=by decide
  omega
 have hfit:¬ (!Builtin.List.listFitsIndex k)=true:=by
  rw [fitsIndex_both h1 h2]
  exact Bool.false_ne_true
 have hlong:¬ Builtin.List.listTooLong (its.toArray.size * k.toNat)=true:=by
  rw [qCM hlen]
  exact Bool.false_ne_true
 have hnew:List.foldl (fun x1 x2=>x1++x2) #[] (List.replicate (if its.toArray.isEmpty=true then 0 else k.toNat) its.toArray)=(List.replicate k.toNat its).flatten.toArray:=by
  have f0:∀ m:Nat,List.foldl (fun x1 x2=>x1++x2) #[] (List.replicate m its.toArray)=(List.replicate m its).flatten.toArray:=fun m=>by
   have:=yg its m []
   rw [List.nil_append] at this
   exact this
  rw [f0]
  cases its with
  |nil=>simp
  |cons a r'=>rw [if_neg (by simp)]
 refine wpAny_binaryOp_repeat_ref (T := "list") (U := "int") (by decide) ⟨_,e,rfl⟩ (fun s'=>typeIs_int s' k t) noFill_list_mul F.fills_int_mul F.slot_int_rmul repeat_list F.slot_int_index.lookup
  (call_meets F.slot_int_rmul (typeIs_int s k t) F.entry_int_rmul (F.args_int_rmul_2 _ _) (int___rmul___int_list k t l its.toArray n)
   ⟨e,rfl,⟨_,e,rfl⟩,call_meets F.slot_list_mul ⟨_,e,rfl⟩ F.entry_list_mul (F.args_list_mul_2 _ _) (AutoListH.list___mul___list_int_3 l its.toArray n k t hfit hcap hlong) ⟨e,?_⟩⟩)
 rw [hnew]
 exact ⟨.ref _,_,I.lnew (t':=s.toks) (r.rep k.toNat) (by rw [qEP,Nat.mul_comm];exact hz),rfl,q _ I.fresh⟩
end
end L2
namespace Att
open PySem PySem.W PySem.Calls PyProof.Rows
theorem ZR {P:Params} {h:Heap}:∀ (ns:List Int) (vs:List Value),WellAll P h vs (ns.map WData.int)->IntsAre vs ns:=by
 intro ns
 induction ns with
 |nil =>
  intro vs w
  rw [List.map_nil] at w
  cases w
  exact .nil
 |cons n ns ih =>
  intro vs w
  rw [List.map_cons] at w
  cases w with
  |cons a b =>
   cases a
   exact .cons _ _ (ih _ b)
theorem qA5 {l:OpenLaw} {n:Nat} (hn:l.most=some n) {P:Params} {h:Heap} {args:List WData} {vals:List Value}
  (hpre:l.row.toRowW.claim.pre args=true) (hwl:WellAll P h vals args) :
  ∃ a vs ns,vals=[Value.ref a]∧args=[WData.list (ns.map WData.int)]∧h.get? a=some { cls := .type "list",data := .seq vs.toArray }∧IntsAre vs ns∧ns.length≤n:=by
 have hsh:WShape.hasAll [] args [.list .int]=true:=(pre_splitW hpre).1
 have hc:l.pre.holds [] { args:=args }=true:=(pre_splitW hpre).2
 obtain ⟨d,r,rfl,h1,h2⟩:=hasAllW_cons hsh
 obtain rfl:=hasAllW_nil h2
 obtain ⟨xs,rfl,h3⟩:=hasW_list h1
 obtain ⟨ns,rfl⟩:=items_int h3
 have hlen:ns.length≤n:=by
  unfold OpenLaw.pre at hc
  have h4:(WTm.not (.lt (.lit (.int (n:Int))) (.len (.arg 0)))).holds [] { args:=[.list (ns.map .int)] }=true:=by
   have h4:=(holds_andW hc).1
   rw [hn] at h4
   exact h4
  have h5:=condW_of h4 (w_not (w_lt w_lit (w_len_list (w_arg rfl))))
  rw [List.length_map] at h5
  refine Nat.le_of_not_lt fun q => ?_
  have q':(n:Int) < ((ns.length:Nat):Int):=by omega
  first
   |(rw [decide_eq_true q'] at h5;exact absurd h5 (by decide))
   |(simp at h5;omega)
 cases hwl with
 |cons w1 w2 =>
  cases w2
  cases w1 with
  |list ho hall=>exact ⟨_,_,ns,rfl,rfl,ho,ZR ns _ hall,hlen⟩
theorem qBT (l:OpenLaw) (args:List WData):l.row.toRowW.claim.post args (.bool true) args=true :=
 postW_of (r:=l.row.toRowW) (X:=(true==true))
  (show WShape.has [] (.bool true) .bool=true by first |rfl |decide |simp [WShape.has,WShape.arms,WShape.armsAll])
  (show (WTm.eq .res (.lit (.bool true))).value [] { args:=args,res:=some (.bool true),after:=args }=some (.bool (true==true)) from w_eq_bool (w_res rfl) w_lit) rfl
end Att
namespace L2
open PySem PySem.Spec PyProof.Rows
theorem yw:∀ {vs:List Value} {ns:List Int},IntsAre vs ns->Vals (ns.map V.int) vs
 |_,_,.nil => .nil
 |_,_,.cons n t h => .cons ⟨t,rfl⟩ (yw h)
def qGM (H:Hp):Prop := ∀ b,H b=none ∨ ∃ o xs,H b=some (.frz o (.lst xs))
theorem qCq {P:Program} {w:World} {K:W.Frag} {mg mb:Str->Option Value} {CX:CXT} {k:Nat} {fa a:Addr} {fd:FuncData} {x:Str} {sp:Sp} {s₁:Shared} {vs:List Value} {ns:List Int}
  (KX:K.In s₁.heap) (hns:s₁.heap.Ns mainGlobals mg) (hb:s₁.heap.Ns builtinsNs mb) (hbb:∀ x:Str,x ≠ "__name__" -> mb x=bootBuiltins x) (hlim:s₁.heap.NoLimit) (hg:s₁.gens = #[])
  (ha:s₁.heap.get? a=some { cls := .type "list",data := .seq vs.toArray }) (hi:IntsAre vs ns) (hl:ns.length≤sizeLine) (hr:Room k callerA)
  (F:∀ base:Heap,K.In base->base.Ns mainGlobals mg->FnOk P w K mg base CX k fa fd [x] sp) (hbind:∀ (s:Shared) (u:Value),BindsTo s fd ⟨[u],[]⟩ [(x,u)])
  (hsp:∀ H:Hp,qGM H->SqL K H a (ns.map V.int)->sp [.ref a] H (fun v _=>v = .bl true) fun _ _ _=>False)
  (hCX:∀ H e s',CX [] H s₁ (fun _ _ _=>False) e s'->False) :
  codeAny (model P w) callerA (.call (.ref fa) ⟨[.ref a],[]⟩) (fun r s'=>r = .ok (.ret (.bool true))∧OldK s₁.heap s'.heap∧s'.os=s₁.os∧AllBare s'.gens) s₁:=by
 have rv:=yw hi
 have lenV:=hi.length
 -- from an abstract heap in which nothing but the script may be tracked
 have core:∀ H:Hp,qGM H->SqL K H a (ns.map V.int)->HOk P w H s₁.heap->(∀ b,H b≠none->b=a)->(H a≠none->K.lookup a=none) ->
   codeAny (model P w) callerA (.call (.ref fa) ⟨[.ref a],[]⟩) (fun r s'=>r = .ok (.ret (.bool true))∧OldK s₁.heap s'.heap∧s'.os=s₁.os∧AllBare s'.gens) s₁:=by
  intro H hO hS hok hA hK
  have base_of:∀ {b:Addr} {o:Obj},s₁.heap.get? b=some o->H b=none->(YQ s₁.heap H).get? b=some o:=fun e n=>qDL e n
  have noA:∀ {b:Addr} {o:Obj} {es:Array DictEntry} {ep:Nat},s₁.heap.get? b=some o->o.data = .dict es ep->H b=none:=fun {b o es ep} e d=>by
   cases q:H b with
   |none=>rfl
   |some u =>
    have e':b=a:=hA b (by rw [q];simp)
    subst e'
    rw [ha] at e;cases e
    have d':Data.seq vs.toArray _=Data.dict es ep:=d
    cases d'
  have nsK:∀ {b:Addr} {m:Str->Option Value},s₁.heap.Ns b m->(YQ s₁.heap H).Ns b m:=fun {b m} ⟨o,es,ep,e,d,r⟩=>⟨o,es,ep,base_of e (noA e d),d,r⟩
  have hKb:K.In (YQ s₁.heap H):=fun b o e=>base_of (KX b o e) (by
   cases q:H b with
   |none=>rfl
   |some u =>
    have e':b=a:=hA b (by rw [q];simp)
    subst e'
    rw [hK (by rw [q];simp)] at e;cases e)
  have hM:Mod K mg (YQ s₁.heap H):=⟨hKb,nsK hns,⟨mb,nsK hb,hbb⟩,let ⟨mc,h1,h2⟩:=hlim;⟨mc,nsK h1,h2⟩⟩
  have e0:Env0 P w K mg (YQ s₁.heap H) callerA [] s₁ H:=⟨rfl,hM,fun b o e=>qEj e,Nat.le_of_eq (qAs _ _),trivial,fun b hb=>absurd (show b∈([]:List Addr) from hb) (by simp),hok,.of_eq hg,HndH.none rfl⟩
  refine codeAny_mono ((F _ hKb (nsK hns)).run callerA [] s₁ H ⟨[.ref a],[]⟩ [.ref a] [.ref a] _ _ hr e0 (hbind s₁ (.ref a)) (.cons rfl .nil) (hsp H hO hS)) fun r s' h => ?_
  cases r with
  |error e=>exact (hCX H e s' h).elim
  |ok fl =>
   cases fl with
   |next=>exact False.elim h
   |brk=>exact False.elim h
   |cont=>exact False.elim h
   |ret u =>
    obtain ⟨v,H',os,bare,un,hok',r',q⟩:=h
    have q':v = .bl true:=q
    subst q'
    obtain rfl:u=Value.bool true:=r'
    refine ⟨rfl,OldK.of_keep fun b o e => ?_,os,bare⟩
    cases q:H b with
    |none=>exact un.keep b o e q (by intro z;exact absurd (show b∈([]:List Addr) from z) (by simp)) (by simp)
    |some u =>
     rcases hO b with z |⟨ob,xs,z⟩
     ·rw [q] at z;cases z
     ·have z2:=un.frzs b ob _ z
      obtain ⟨e1,_⟩:=hok b _ z
      obtain ⟨e2,_⟩:=hok' b _ z2
      rw [e] at e1;cases e1
      exact e2
 cases hk:K.lookup a with
 |some o =>
  -- the script is one of the module's own objects
  have e:=KX a o hk
  rw [ha] at e
  cases e
  refine core (fun _=>none) (fun _ => .inl rfl) (.inr ⟨_,vs.toArray,_,hk,rfl,rfl,rfl,by rw [List.size_toArray,lenV];exact hl,by simpa using rv⟩) (fun b u z=>by have z':(none:Option HO)=some u:=z;cases z') (fun b z=>absurd rfl z) fun z=>absurd rfl z
 |none =>
  refine core (fun b=>if b=a then some (.frz { cls := .type "list",data := .seq vs.toArray } (.lst (ns.map V.int))) else none) (fun b => ?_) (.inl (.inr ⟨{ cls := .type "list",data := .seq vs.toArray },if_pos rfl⟩)) (fun b u z => ?_) (fun b z => ?_) fun _=>hk
  ·by_cases hb:b=a
   ·exact .inr ⟨_,_,if_pos hb⟩
   ·exact .inl (if_neg hb)
  ·by_cases hb:b=a
   ·have z':=(if_pos hb).symm.trans z
    cases z'
    subst hb
    exact ⟨ha,by rw [List.length_map];exact hl,vs,_,rv,ha⟩
   ·have z':=(if_neg hb).symm.trans z
    cases z'
  ·by_cases hb:b=a
   ·exact hb
   ·exact absurd (if_neg hb) z
end L2
namespace L2
open PySem PySem.Spec PyProof.Rows
end L2
namespace L2
open PySem PySem.Spec PyProof.Rows
def qf (s:Stmt):Arguments:=match s with
 | .FunctionDef _ a _ _ _ _ _ _ _ _=>a
 |_=>{ posonlyargs:=[],args:=[],vararg:=none,kwonlyargs:=[],kw_defaults:=[],kwarg:=none,defaults:=[] }
def qe (s:Stmt):List Stmt:=match s with
 | .FunctionDef _ _ b _ _ _ _ _ _ _=>b
 |_=>[]
def qJ (s:Stmt):Scope:=match s with
 | .FunctionDef _ _ _ _ _ _ sc _ _ _=>sc
 |_=>{ kind := .function,names:=[],isGenerator:=false,isCoroutine:=false }
abbrev E0:XK:=fun _ _ _=>False
structure Fun (K:W.Frag) (x qual:Str) (st:Stmt) (f:Addr) (fd:FuncData):Prop where
 ex:∃ (oc:Value) (od:Option Addr) (kV doc pm:Value) (an:Option Addr) (cdv ct:Value) (osl:Array (Option Value)),
  fd=PySem.W.fnOf x qual (qf st) (qe st) (qJ st) .none kV doc pm an cdv ct∧K.lookup f=some ⟨oc,od,.func fd,osl⟩∧PySem.W.codeIn K cdv qual=true
 kp:PySem.W.keepIn K (.ref f)=true
section
variable {P:Program} {w:World} {K:W.Frag} {mg:Str->Option Value} {base:Heap}
theorem Fun.binds {x qual:Str} {st:Stmt} {f:Addr} {fd:FuncData} {ps:List Str} (F:Fun K x qual st f fd)
  (h:∀ (kV doc pm:Value) (an:Option Addr) (cdv ct:Value) (us:List Value),us.length=ps.length->bindArgs (PySem.W.fnOf x qual (qf st) (qe st) (qJ st) .none kV doc pm an cdv ct) ⟨us,[]⟩=pure (ps.zip us)):Binds K fd ps []:=by
 obtain ⟨oc,od,kV,doc,pm,an,cdv,ct,osl,rfl,lk,hcd⟩:=F.ex
 exact .all (h kV doc pm an cdv ct)
theorem QW {x qual:Str} {st:Stmt} {f:Addr} {oc:Value} {od an:Option Addr} {osl:Array (Option Value)} {kV doc pm cdv ct:Value} (l:K.lookup f=some ⟨oc,od,.func (PySem.W.fnOf x qual (qf st) (qe st) (qJ st) .none kV doc pm an cdv ct),osl⟩)
  (c:PySem.W.codeIn K cdv qual=true) (k:PySem.W.keepIn K (.ref f)=true):Fun K x qual st f (PySem.W.fnOf x qual (qf st) (qe st) (qJ st) .none kV doc pm an cdv ct):=⟨⟨oc,od,kV,doc,pm,an,cdv,ct,osl,rfl,l,c⟩,k⟩
end
section
variable {X:Cx}
theorem pv (i:Nat) {x:Str} {pos:Pos} (hN:X.N[i]? = some x:=by rfl) (hv:Vis X.env.scope x:=by first |exact Or.inl rfl |exact Or.inr (Or.inl rfl) |exact Or.inr (Or.inr rfl)) (hd:(x==("__debug__":Str))=false:=by decide)
  (hcd:(x==("__classdict__":Str))=false:=by decide):PE X (.Name x pos) (qGr i):=qFL hN hv hd hcd
end
theorem qAz {A B:Prop} (h:B):if false=true then A else B:=by
 rw [if_neg Bool.false_ne_true]
 exact h
theorem qBM {A B:Prop} (h:A):if true=true then A else B:=by
 rw [if_pos rfl]
 exact h
def Same (H H':Hp):Prop := ∀ b o,H b=some o->H' b=some o
theorem Same.refl (H:Hp):Same H H:=fun _ _ h=>h
end L2
end
section
namespace L2
open PySem PySem.Spec PyProof.Rows
end L2
namespace L2
open PySem PySem.Spec PyProof.Rows
end L2
end
section
namespace EX
open PySem PySem.Spec PyProof.Rows
def Trc (h B:Heap) (e:Addr) (cls:Value) (dd:Option Addr) (fl:Value):Prop :=
 ∃ oe vs T oT ts,h.get? e=some oe∧oe.cls=cls∧oe.dict=dd∧oe.data = .fields vs∧vs[1]? = some (Value.ref T)∧vs[2]? = some Value.none∧B.get? T=none∧T≠e∧h.get? T=some oT∧oT.data = .fields ts∧ts[3]? = some fl
def Fly (B:Heap) (l:List Env) (e:Addr) (cls:Value) (dd:Option Addr) (fl:Value) (h:Heap):Prop:=B.StaysIn h∧B.get? e=none∧h.FunFrames B l∧Trc h B e cls dd fl
theorem Fly.tail {B h:Heap} {env:Env} {l:List Env} {e:Addr} {cls fl:Value} {dd:Option Addr} (x:Fly B (env::l) e cls dd fl h):Fly B l e cls dd fl h:=⟨x.1,x.2.1,x.2.2.1.2.2,x.2.2.2⟩
section
variable {M:Model} {A:Around} {E:Value->Shared->Prop} {s:Shared} {B:Heap} {env:Env} {outer:List Env} {L e:Addr} {cls:Value} {dd:Option Addr} {Q:Unit->Shared->Prop}
theorem jP {oe:Obj} {vs:Array Value} {head:Value} {nx:Bool} (f1:A.frames=some (env::outer)) (f2:s.heap.FunFrames B (env::outer)) (f3:env.frame=some L) (k1:B.StaysIn s.heap) (k2:B.get? e=none)
  (g1:s.heap.get? e=some oe) (g2:oe.data = .fields vs) (g3:1 < vs.size) (g4:vs[2]? = some Value.none) (h:∀ h',Fly B (env::outer) e oe.cls oe.dict (rawInt L) h'->s.heap.UpToSlots h'->Q () { s with heap:=h' }) :
  wpAny M A (do let a ← frameOf env;let pl ← entryPlaceOf L nx;let b ← EntryCells.newEntry head a .none (rawInt L) .none pl;setField (.ref e) 1 b) Q E s:=by
 have nfr:e ∉ (env::outer).filterMap (·.frame):=fun hm=>by
  obtain ⟨_,o,ho,hnf⟩:=f2.mem hm
  rw [g1] at ho;cases ho;exact hnf vs g2
 refine wpAny_bind (wpAny_frameOf_fun f1 f2 f3 fun h1 so=>wpAny_bind (wpAny_entryPlaceOf fun pl hpl => ?_))
 unfold EntryCells.newEntry newFields
 refine wpAny_bind (wpAny_newObj_type ?_ (hpl.sizeOk5 _ _ _ _ _))
 generalize hts:([head,Value.ref L,.none,rawInt L,.none]++(if pl.isEmpty then List.replicate 6 Value.none else pl)).toArray=ts
 have ht3:ts[3]? = some (rawInt L):=by rw [← hts];first |(simp;done) |(rcases hpl with rfl |⟨_,_,_,_,_,_,_,rfl⟩ <;> simp)
 have a1:h1.get? e=some oe:=(so.2.1 e nfr).trans g1
 have kb:B.StaysIn h1:=fun b o q=>(so.2.1 b fun hm=>by rw [(f2.mem hm).1] at q;cases q).trans (k1 b o q)
 have a2:=Heap.get?_push_of_some (h:=h1) { cls := .type "traceback",dict:=none,data := .fields ts } a1
 refine wpAny_setField a2 g2 g3 (h _ ?_ ?_)
 ·have ne1:h1.objs.size≠e:=Nat.ne_of_gt (Heap.lt_size a1)
  have d3:=Obj.data_mapFields g2 (·.setIfInBounds 1 (Value.ref h1.objs.size))
  have a3:=Heap.get?_update_self (Obj.mapFields (·.setIfInBounds 1 (Value.ref h1.objs.size))) a2 (Obj.isFreed_of_fields d3)
  have a4:=(Heap.get?_update_other (h1.push { cls := .type "traceback",dict:=none,data := .fields ts }) (Obj.mapFields (·.setIfInBounds 1 (Value.ref h1.objs.size))) (Ne.symm ne1)).trans (Heap.get?_push_size h1 rfl)
  have kp:∀ b o,b≠e->h1.get? b=some o->((h1.push { cls := .type "traceback",dict:=none,data := .fields ts }).update e (Obj.mapFields (·.setIfInBounds 1 (Value.ref h1.objs.size)))).get? b=some o:=fun b o hb q =>
   (Heap.get?_update_other _ _ (Ne.symm hb)).trans (Heap.get?_push_of_some _ q)
  refine ⟨fun b o q=>kp b o (fun z=>by rw [z,k2] at q;cases q) (kb b o q),k2,f2.of_keeps fun b o q nf => ?_,_,_,h1.objs.size,_,ts,a3,Obj.cls_mapFields _ _,?_,d3,?_,?_,kb.fresh,ne1,a4,rfl,ht3⟩
  ·obtain ⟨sl,q2⟩:=so.2.2 b o q
   exact ⟨_,kp b _ (fun z=>by rw [z,g1] at q;cases q;exact nf vs g2) q2,rfl⟩
  ·obtain ⟨c,d,dt,sl⟩:=oe
   have g2:dt = .fields vs:=g2
   subst g2;rfl
  ·simp [g3]
  ·rw [Array.getElem?_setIfInBounds_ne (by decide)];exact g4
 ·intro b o q nf
  have hb:b≠e:=fun z=>by rw [z,g1] at q;cases q;exact nf vs g2
  obtain ⟨sl,q2⟩:=so.2.2 b o q
  exact ⟨sl,(Heap.get?_update_other _ _ (Ne.symm hb)).trans (Heap.get?_push_of_some _ q2)⟩
theorem JW {oe:Obj} {vs:Array Value} (f1:A.frames=some (env::outer)) (f2:s.heap.FunFrames B (env::outer)) (f3:env.frame=some L) (k1:B.StaysIn s.heap) (k2:B.get? e=none)
  (g1:s.heap.get? e=some oe) (g2:oe.data = .fields vs) (g3:vs[1]? = some Value.none) (g4:vs[2]? = some Value.none) (h:∀ h',Fly B (env::outer) e oe.cls oe.dict (rawInt L) h'->s.heap.UpToSlots h'->Q () { s with heap:=h' }) :
  wpAny M A (noteFrame (.ref e) env) Q E s:=by
 unfold noteFrame
 simp only [f3]
 refine wpAny_bind (wpAny_field g1 g2 g3 ?_)
 rw [if_neg (show ¬ ((Value.none != Value.none)=true) by decide)]
 exact jP f1 f2 f3 k1 k2 g1 g2 (Array.getElem?_eq_some_iff.mp g3).1 g4 h
theorem YA (f1:A.frames=some (env::outer)) (f3:env.frame=some L) (x:Fly B (env::outer) e cls dd .none s.heap) (h:∀ h',Fly B (env::outer) e cls dd (rawInt L) h'->s.heap.UpToSlots h'->Q () { s with heap:=h' }) :
  wpAny M A (noteFrame (.ref e) env) Q E s:=by
 obtain ⟨k1,k2,f2,oe,vs,T,oT,ts,g1,rfl,rfl,g2,g3,g4,t1,t2,t3,t4,t5⟩:=x
 unfold noteFrame
 simp only [f3]
 refine wpAny_bind (wpAny_field g1 g2 g3 ?_)
 rw [if_pos (show (Value.ref T != Value.none)=true by simp)]
 refine wpAny_bind (wpAny_field t3 t4 t5 ?_)
 rw [if_neg (show ¬ ((Value.none==rawInt L)=true) by simp [rawInt])]
 refine wpAny_bind (wpAny_setField t3 t4 (Array.getElem?_eq_some_iff.mp t5).1 ?_)
 have ot:∀ b,b≠T->(s.heap.update T (Obj.mapFields (·.setIfInBounds 3 Value.none))).get? b=s.heap.get? b:=fun b hb=>Heap.get?_update_other _ _ (Ne.symm hb)
 have nr:∀ b o,s.heap.get? b=some o->(∀ us,o.data ≠ .fields us)->b≠T:=fun b o q nf z=>by rw [z,t3] at q;cases q;exact nf ts t4
 refine jP f1 (f2.of_keeps fun b o q nf=>⟨o,(ot b (nr b o q nf)).trans q,rfl⟩) f3 (fun b o q=>(ot b fun z=>by rw [z,t1] at q;cases q).trans (k1 b o q)) k2 ((ot e (Ne.symm t2)).trans g1) g2 (Array.getElem?_eq_some_iff.mp g3).1 g4 fun h' x u=>h h' x fun b o q nf => ?_
 exact u b o ((ot b (nr b o q nf)).trans q) nf
theorem qAC {l:List Env} {fl:Value} (x:Fly B l e cls dd fl s.heap) (h:∀ h',Fly B l e cls dd .none h'->s.heap.UpToSlots h'->Q () { s with heap:=h' }):wpAny M A (setFlight (.ref e) none) Q E s:=by
 obtain ⟨k1,k2,f2,oe,vs,T,oT,ts,g1,g0,g00,g2,g3,g4,t1,t2,t3,t4,t5⟩:=x
 have t6:3 < ts.size:=(Array.getElem?_eq_some_iff.mp t5).1
 have ot:∀ b,b≠T->(s.heap.update T (Obj.mapFields (·.setIfInBounds 3 ((none:Option Addr).elim Value.none fun f=>rawInt f)))).get? b=s.heap.get? b:=fun b hb=>Heap.get?_update_other _ _ (Ne.symm hb)
 have nr:∀ b o,s.heap.get? b=some o->(∀ us,o.data ≠ .fields us)->b≠T:=fun b o q nf z=>by rw [z,t3] at q;cases q;exact nf ts t4
 unfold setFlight
 refine wpAny_bind (wpAny_field g1 g2 g3 ?_)
 rw [if_pos (show (Value.ref T != Value.none)=true by simp)]
 refine wpAny_setField t3 t4 t6 (h _ ⟨fun b o q=>(ot b fun z=>by rw [z,t1] at q;cases q).trans (k1 b o q),k2,f2.of_keeps fun b o q nf=>⟨o,(ot b (nr b o q nf)).trans q,rfl⟩,?_⟩ fun b o q nf=>⟨o.slots,(ot b (nr b o q nf)).trans q⟩)
 exact ⟨oe,vs,T,_,_,(ot e (Ne.symm t2)).trans g1,g0,g00,g2,g3,g4,t1,t2,Heap.get?_update_self _ t3 (Obj.isFreed_of_fields (Obj.data_mapFields t4 _)),Obj.data_mapFields t4 _,by simp [t6]⟩
theorem Yf {oe:Obj} {vs:Array Value} (f1:A.frames=some (env::outer)) (f2:s.heap.FunFrames B (env::outer)) (f3:env.frame=some L) (k1:B.StaysIn s.heap) (k2:B.get? e=none)
  (g1:s.heap.get? e=some oe) (g2:oe.data = .fields vs) (g3:vs[1]? = some Value.none) (g4:vs[2]? = some Value.none) (h:∀ h',Fly B outer e oe.cls oe.dict .none h'->s.heap.UpToSlots h'->Q () { s with heap:=h' }) :
  wpAny M A (leaving env (.ref e)) Q E s:=by
 unfold leaving
 exact wpAny_bind (JW f1 f2 f3 k1 k2 g1 g2 g3 g4 fun h1 x1 u1=>qAC x1 fun h2 x2 u2=>h h2 x2.tail (u1.trans u2))
theorem jn (f1:A.frames=some (env::outer)) (f3:env.frame=some L) (x:Fly B (env::outer) e cls dd .none s.heap) (h:∀ h',Fly B outer e cls dd .none h'->s.heap.UpToSlots h'->Q () { s with heap:=h' }) :
  wpAny M A (leaving env (.ref e)) Q E s:=by
 unfold leaving
 exact wpAny_bind (YA f1 f3 x fun h1 x1 u1=>qAC x1 fun h2 x2 u2=>h h2 x2.tail (u1.trans u2))
end
end EX
end
section
namespace EX
open PySem PySem.Spec PyProof.Rows L2
structure UnB (fs:List Addr) (H H1:Hp) (h B:Heap):Prop where
 keep:∀ b o,h.get? b=some o->H b=none->b ∉ fs->B.get? b=some o
 free:∀ b o,h.get? b=some o->H b=none->H1 b=none
 there:∀ b o,h.get? b=some o->b ∉ fs -> ∃ o',B.get? b=some o'
 tups:∀ b xs,H b=some (.tup xs)->H1 b=some (.tup xs)
 frzs:∀ b o u,H b=some (.frz o u)->H1 b=some (.frz o u)
 tbls:∀ b ps,H b=some (.tbl ps) -> ∃ more,H1 b=some (.tbl (ps++more))
def CXF (P:Program) (w:World):CXT:=fun outer H s E e s' =>
 ∃ ea cls dd B H1,e=Value.ref ea∧Fly B outer ea cls dd .none s'.heap∧HOk P w H1 B∧s'.os=s.os∧AllBare s'.gens∧UnB (frs outer) H H1 s.heap B ∧
  (∀ b∈frs outer,∀ o,s.heap.get? b=some o -> ∃ sl,s'.heap.get? b=some { o with slots:=sl })∧E cls dd H1
theorem jI {env:Env} {outer:List Env} {L:Addr} (h:env.frame=some L):frs (env::outer)=L::frs outer:=by
 unfold frs;rw [List.filterMap_cons,h]
theorem CXF.un {P:Program} {w:World} {outer:List Env} {H H1:Hp} {s s':Shared} {B:Heap} (hs:B.StaysIn s'.heap) (un:UnB (frs outer) H H1 s.heap B) (sl:∀ b∈frs outer,∀ o,s.heap.get? b=some o -> ∃ sl,s'.heap.get? b=some { o with slots:=sl }) :
  Un (frs outer) [] H H1 s.heap s'.heap where
 keep:=fun b o e n hb _=>hs b o (un.keep b o e n hb)
 slot:=fun b o e n hb _=>sl b hb o e
 free:=fun b o e n _=>un.free b o e n
 there:=fun b o e _=>by
  by_cases hb:b∈frs outer
  ·obtain ⟨x,q⟩:=sl b hb o e;exact ⟨_,q⟩
  ·obtain ⟨o',q⟩:=un.there b o e hb;exact ⟨o',hs b o' q⟩
 tups:=un.tups
 frzs:=un.frzs
 tbls:=un.tbls
section
variable {P:Program} {w:World} {K:W.Frag} {mg:Str->Option Value} {base:Heap} {N:List Str} {qual:Str} {scope:Scope} {f:Addr} {cd:Value} {A:Around} {outer:List Env} {s₀:Shared} {H₀:Hp} {E:XK}
theorem ql:WT (CXF P w) (wR (CXF P w) P w K mg base N qual scope f cd A outer s₀ H₀ E) E:=by
 intro pins σ H s e s' I c
 obtain ⟨ea,cls,dd,B,H1,rfl,fl,hok,os,bare,un,sl,q⟩:=c
 have hfr:(envOfC qual scope s₀.heap.objs.size f cd).frame=some s₀.heap.objs.size:=rfl
 have ef:frs (wR (CXF P w) P w K mg base N qual scope f cd A outer s₀ H₀ E).stack=s₀.heap.objs.size::frs outer:=jI hfr
 have Ib:Un (frs outer) [] H₀ H s₀.heap s.heap:=I.base
 have ne:∀ b o,s₀.heap.get? b=some o->b≠s₀.heap.objs.size:=fun b o e=>Nat.ne_of_lt (Heap.lt_size e)
 refine jn I.ok.frames hfr fl fun h' x u=>⟨ea,cls,dd,B,H1,rfl,x,hok,os.trans I.os,bare,?_,fun b hb o e => ?_,q⟩
 ·refine ⟨fun b o e n hb => ?_,fun b o e n => ?_,fun b o e hb => ?_,fun b xs e=>un.tups b xs (Ib.tups b xs e),fun b o u e=>un.frzs b o u (Ib.frzs b o u e),fun b ps e => ?_⟩
  ·exact un.keep b o (Ib.keep b o e n hb (by simp)) (Ib.free b o e n (by simp)) (by rw [ef];intro z;exact (List.mem_cons.mp z).elim (ne b o e) hb)
  ·obtain ⟨o',e'⟩:=Ib.there b o e (by simp)
   exact un.free b o' e' (Ib.free b o e n (by simp))
  ·obtain ⟨o',e'⟩:=Ib.there b o e (by simp)
   exact un.there b o' e' (by rw [ef];intro z;exact (List.mem_cons.mp z).elim (ne b o e) hb)
  ·obtain ⟨m1,e1⟩:=Ib.tbls b ps e
   obtain ⟨m2,e2⟩:=un.tbls b _ e1
   exact ⟨m1++m2,by rw [e2,Array.append_assoc]⟩
 ·obtain ⟨sl1,e1⟩:=Ib.slot b o e (I.ok.frf b hb) hb (by simp)
  obtain ⟨sl2,e2⟩:=sl b (by rw [ef];exact List.mem_cons_of_mem _ hb) _ e1
  have nf:∀ vs,o.data ≠ .fields vs:=by
   obtain ⟨_,o2,ho2,nf⟩:=I.ok.funs.mem hb
   have e:(wR (CXF P w) P w K mg base N qual scope f cd A outer s₀ H₀ E).s₀.heap.get? b=some o:=e
   rw [e] at ho2;cases ho2;exact nf
  obtain ⟨sl3,e3⟩:=u b _ e2 nf
  exact ⟨sl3,e3⟩
theorem qA3 {pins:List (Addr×Obj)} {σ:L2.St} {H:Hp} {s:Shared} {h':Heap} {e:Addr} {oe:Obj} {vs:Array Value} {H1:Hp} {B0:Heap} (I:L2.Inv (wR (CXF P w) P w K mg base N qual scope f cd A outer s₀ H₀ E) pins σ H s) (k:∀ b o,s.heap.get? b=some o->h'.get? b=some o) (hn:s.heap.get? e=none)
  (g1:h'.get? e=some oe) (g2:oe.data = .fields vs) (g3:vs[1]? = some Value.none) (g4:vs[2]? = some Value.none) (q:E oe.cls oe.dict H):(wR (CXF P w) P w K mg base N qual scope f cd A outer s₀ H₀ E).xe (.ref e) { s with heap:=h' }:=by
 have hfr:(envOfC qual scope s₀.heap.objs.size f cd).frame=some s₀.heap.objs.size:=rfl
 have ef:frs (wR (CXF P w) P w K mg base N qual scope f cd A outer s₀ H₀ E).stack=s₀.heap.objs.size::frs outer:=jI hfr
 have Ib:Un (frs outer) [] H₀ H s₀.heap s.heap:=I.base
 have ne:∀ b o,s₀.heap.get? b=some o->b≠s₀.heap.objs.size:=fun b o e=>Nat.ne_of_lt (Heap.lt_size e)
 generalize hB:PySem.W.hideAll s.heap (frs (wR (CXF P w) P w K mg base N qual scope f cd A outer s₀ H₀ E).stack)=B
 have toB:∀ b o,s.heap.get? b=some o->b ∉ frs (wR (CXF P w) P w K mg base N qual scope f cd A outer s₀ H₀ E).stack->B.get? b=some o:=fun b o e hb=>by rw [← hB];exact PySem.W.hideAll_get _ e hb
 have ofB:∀ b o,B.get? b=some o->s.heap.get? b=some o:=fun b o e=>by rw [← hB] at e;exact PySem.W.of_hideAll _ e
 have trk:∀ b u,H b=some u->b ∉ frs (wR (CXF P w) P w K mg base N qual scope f cd A outer s₀ H₀ E).stack:=fun b u e z=>by rw [I.stkFree b z] at e;cases e
 have fun1:h'.FunFrames B (wR (CXF P w) P w K mg base N qual scope f cd A outer s₀ H₀ E).stack:=by
  have:=PySem.W.funFrames_hide (as:=frs (wR (CXF P w) P w K mg base N qual scope f cd A outer s₀ H₀ E).stack) I.stack fun env he a ha=>List.mem_filterMap.mpr ⟨env,he,ha⟩
  rw [hB] at this
  exact this.of_keeps fun b o e _=>⟨o,k b o e,rfl⟩
 have eB:B.get? e=none:=by
  cases z:B.get? e with
  |none=>rfl
  |some o=>have:=ofB e o z;rw [hn] at this;cases this
 refine Yf (s:={ s with heap:=h' }) I.ok.frames fun1 hfr (fun b o z=>k b o (ofB b o z)) eB g1 g2 g3 g4 fun h2 x u=>⟨e,oe.cls,oe.dict,B,H,rfl,x,?_,I.os,I.bare,?_,fun b hb o e1 => ?_,q⟩
 ·exact fun b u e1=>(I.hok b u e1).stay (fun c v hc z=>toB c v z (hc.elim (fun z=>by rw [z];exact trk b u e1) fun z=>trk c _ z)) (fun _ z=>z) fun _ _ z=>z
 ·refine ⟨fun b o e n hb => ?_,fun b o e n=>Ib.free b o e n (by simp),fun b o e hb => ?_,fun b xs e=>Ib.tups b xs e,fun b o u e=>Ib.frzs b o u e,fun b ps e=>Ib.tbls b ps e⟩
  ·exact toB b o (Ib.keep b o e n hb (by simp)) (by rw [ef];intro z;exact (List.mem_cons.mp z).elim (ne b o e) hb)
  ·obtain ⟨o',e'⟩:=Ib.there b o e (by simp)
   exact ⟨o',toB b o' e' (by rw [ef];intro z;exact (List.mem_cons.mp z).elim (ne b o e) hb)⟩
 ·obtain ⟨sl1,e2⟩:=Ib.slot b o e1 (I.ok.frf b hb) hb (by simp)
  have nf:∀ vs,o.data ≠ .fields vs:=by
   obtain ⟨_,o2,ho2,nf⟩:=I.ok.funs.mem hb
   have e1:(wR (CXF P w) P w K mg base N qual scope f cd A outer s₀ H₀ E).s₀.heap.get? b=some o:=e1
   rw [e1] at ho2;cases ho2;exact nf
  obtain ⟨sl3,e3⟩:=u b _ (k b _ e2) nf
  exact ⟨sl3,e3⟩
end
section
variable {prog:Program} {w:World} {A:Around} {E:Value->Shared->Prop} {s:Shared} {K:W.Frag} {x D:Addr} {ox:Obj} {od:Option Obj}
structure ExcK (K:W.Frag) (D:Addr):Prop where
 ga:PySem.W.findIn K (.ref D) "__getattribute__" = some (some (.builtin "BaseException.__getattribute__"))
 gn:PySem.W.findIn K (.ref D) "__getattr__" = some none
 fo:∀ od,PySem.W.findObj K D od "__class__" = some (.bind (.builtin "getset_descriptor.__get__") (.builtin "object.__class__"))
 mo:PySem.W.mroIn K D (.type "object")=some true
 mb:PySem.W.mroIn K D (.type "BaseException")=some true
theorem qA8 {Q:Option Value->Shared->Prop} (C:ExcK K D) (X:K.In s.heap) (I:PySem.W.InstAt s.heap x ox D od) (h:Q (some (.ref D)) { s with toks:=s.toks + 1 }):wpAny (model prog w) A (getAttr? (.ref x) "__class__") Q E s:=by
 obtain ⟨hh,g,d,t,os⟩:=s
 have L0:=I.type (M:=model prog w)
 have L1:=PySem.W.looks_findIn (M:=model prog w) X C.ga
 have L2:=PySem.W.looks_findIn (M:=model prog w) X C.gn
 have L3:=PySem.W.looks_find (M:=model prog w) X I (C.fo od)
 have L4:=PySem.W.looks_mroIn (M:=model prog w) X C.mb
 have LI:PySem.W.Looks (model prog w) hh (isInstance (.ref x) (.type "BaseException")) true:=L0.andThen L4
 have f3:=F.attr_ValueError.ga.bind (.ref x)
 unfold getAttr? getAttrBy? getAttrBy
 refine wpAny_bind (wpAny_mkText (wpAny_bind (wpAny_attempt (wpAny_holding (wpAny_bind (L0.at (wpAny_bind (L1.at ?_))))))))
 show wpAny _ _ (getAttrByItsOwn _ _ _ _ _ _) _ _ _
 unfold getAttrByItsOwn
 refine wpAny_bind (L2.at (wpAny_bind (wpAny_attempt (wpAny_holding ?_))))
 show wpAny _ _ (boundAndCalled _ _ _) _ _ _
 unfold boundAndCalled
 refine wpAny_bind (wpAny_of_eq f3 ?_)
 refine wpAny_call (codeAny_call_builtin F.attr_ValueError.ga.plain F.entry_bexc_ga ?_)
 have hk:builtinKind "BaseException.__getattribute__" = some .slot:=by decide +kernel
 have hsp:splitId "BaseException.__getattribute__" = some ("BaseException","__getattribute__"):=by decide +kernel
 have ha:=F.args_bexc_ga (.ref x) (.str "__class__" t)
 simp only [checkBuiltinCall,hk,hsp]
 refine wpAny_bind (LI.at ?_)
 rw [if_neg (show ¬ ((!true)=true) by decide)]
 refine wpAny_of_eq (a:=()) ha ?_
 show wpAny _ A.in1 (Builtin.«object.__getattribute__» ⟨[.ref x,.str "__class__" t],[]⟩) _ _ _
 unfold Builtin.«object.__getattribute__»
 refine wpAny_bind (wpAny_pure ?_)
 refine wpAny_bind (wpAny_pure ?_)
 refine wpAny_bind (L0.at (wpAny_bind (L3.at ?_)))
 show wpAny _ A.in1 (holding [Value.builtin "object.__class__"] (call (.builtin "getset_descriptor.__get__") [.builtin "object.__class__",.ref x,.ref D]) >>= ret) _ _ _
 refine wpAny_bind (wpAny_holding (wpAny_call (PySem.W.class_get X I C.mo ?_)))
 exact wpAny_pure (wpAny_pure (wpAny_pure h))
end
theorem qDo {K:W.Frag} {h:Heap} {C:Addr} {bmB:List Value} {newId:String} (X:K.In h) (q:PySem.W.excIn K C bmB newId=true) :
  ∃ bm N nm qn bs hd sn sb ab co dd k0 k1 k2 k3 k5 mN,h.get? C=some (excClassObj nm qn C N bs bm hd sn sb ab co dd k0 k1 k2 k3 k5 newId)∧h.Ns N mN∧mN "__init__" = none∧OwnTail h bmB bm:=by
 unfold PySem.W.excIn at q
 split at q
 ·rename_i dd cd sl ho
  split at q
  ·rename_i C' bm k0 k1 k2 k3 n k5 hm hs
   simp only [Bool.and_eq_true,beq_iff_eq,Bool.not_eq_true'] at q
   obtain ⟨⟨⟨⟨⟨e1,e2⟩,e3⟩,e4⟩,e5⟩,e6⟩:=q
   subst e1;subst e2
   cases cd with
   |mk nm bs mro ns qn hd sn sb ab co del =>
    have hm:mro=_:=hm
    have e3:del=false:=e3
    subst hm;subst e3
    have hsl:sl = #[k0,k1,k2,k3,some (.builtin n),k5]:=by cases sl with |mk l=>rw [show l=_ from hs]
    subst hsl
    exact ⟨bm,ns,nm,qn,bs,hd,sn,sb,ab,co,dd,k0,k1,k2,k3,k5,_,X _ _ ho,.of_isNs (PySem.W.isNs_of_in X e5),PySem.W.nsMap_none_of_in X e5 e6,PySem.W.tail_of_in X e4⟩
  ·cases q
 ·cases q
def Rz (X:Cx) (E:XK):Prop := ∀ (pins:List (Addr×Obj)) (σ:L2.St) (H:Hp) (s:Shared) (h':Heap) (e:Addr) (oe:Obj) (vs:Array Value),L2.Inv X pins σ H s->(∀ b o,s.heap.get? b=some o->h'.get? b=some o)->s.heap.get? e=none ->
 h'.get? e=some oe->oe.data = .fields vs->vs[1]? = some Value.none->vs[2]? = some Value.none->E oe.cls oe.dict H->X.xe (.ref e) { s with heap:=h' }
theorem qHm {P:Program} {w:World} {K:W.Frag} {mg:Str->Option Value} {base:Heap} {N:List Str} {qual:Str} {scope:Scope} {f:Addr} {cd:Value} {A:Around} {outer:List Env} {s₀:Shared} {H₀:Hp} {E:XK} :
  Rz (wR (CXF P w) P w K mg base N qual scope f cd A outer s₀ H₀ E) E:=fun _ _ _ _ _ _ _ _ I k hn g1 g2 g3 g4 q=>qA3 (H1:=H₀) (B0:=base) I k hn g1 g2 g3 g4 q
abbrev bmV:List Value:=[.type "ValueError",.type "Exception",.type "BaseException",.type "object"]
section
variable {X:Cx} {E:XK} {x:Str} {C:Addr} {e:Expr} {es:List Expr} {t:TA} {np cpos pos:Pos}
theorem qCV (hz:Rz X E) (hc:X.calm=true) (hg:Gl X x) (hm:X.mg x=some (.ref C)) (q:PySem.W.excIn X.K C bmV "ValueError.__new__" = true) (ha:PA X (e::es) t) (hdb:(x==("__debug__":Str))=false:=by decide)
  (he:starEach (e::es) X.env=(false,eval e X.env)::starEach es X.env:=by rfl) (hpl:(backTo cpos (starEach es X.env)).any (·.1)=false:=by rfl) :
  PS X (.Raise (some (.Call (.Name x np) (e::es) [] cpos)) none pos) (fun D σ H=>t σ H fun vs H1=>vs.length≤sizeLine∧E (.ref C) none H1):=by
 intro pins s σ H D I h
 obtain ⟨bm,N,nm,qn,bs,hd,sn,sb,ab,co,dd,k0,k1,k2,k3,k5,mN,o1,o2,o3,o4⟩:=qDo I.ok.mod.kin q
 refine wpAny_Raise_call_subU (C:=C) (nm:=nm) (q:=qn) (N:=N) (bs:=bs) (bm:=bm) (hdct:=hd) (sn:=sn) (sub:=sb) (ab:=ab) (col:=co) (dd:=dd) (k0:=k0) (k1:=k1) (k2:=k2) (k3:=k3) (k5:=k5) (mN:=mN)
  F.excBase_ValueError F.excBase_ValueError.hasB F.excBase_ValueError (o4.hasType F.excBase_ValueError.hasBase) (I.ok.hd hc) (by rw [he];show (false || (backTo cpos (starEach es X.env)).any (·.1))=false;rw [hpl];rfl) o3 (Yc I hg hm ⟨rfl,?_⟩ hdb)
 have ha':=ha cpos pins s σ H _ I h
 rw [he] at ha' ⊢
 refine Calls.evalArgs_plain (thn ha' fun us s1 ⟨vs,H1,I1,r1,q1,q2⟩=>⟨rfl,by rw [← r1.length];exact q1,I1.bk _ _ o1,o2.keeps I1.bk,o4.keeps I1.bk,fun h' ea hx => ?_⟩)
 obtain ⟨tt,h1,_,_⟩:=hx.there
 exact hz pins σ H1 s1 h' ea _ _ I1 hx.keeps hx.new h1 rfl rfl rfl q2
end
section
variable {M:Model} {A:Around} {E:Value->Shared->Prop} {K:W.Frag} {h:Heap} {g:Array GenState} {d:Drawn} {t:Nat} {os:OsState} {e Bx C:Addr} {oe:Obj} {dd:Option Addr} {cd:ClassData} {sl:Array (Option Value)} {Q:Bool->Shared->Prop}
theorem jv (X:K.In h) (o1:K.lookup Bx=some ⟨.type "type",dd,.cls cd,sl⟩) (m1:PySem.W.mroIn K Bx (.type "BaseException")=some true) (he:h.get? e=some oe) (hc:oe.cls = .ref C) (m2:PySem.W.mroIn K C (.ref Bx)=some true)
  (hq:Q true ⟨h,g,d,t,os⟩):wpAny M A (excMatches (.ref e) (.ref Bx)) Q E ⟨h,g,d,t,os⟩:=by
 have hB:=X _ _ o1
 have L4:=PySem.W.looks_mroIn (M:=M) X m1
 have L5:=PySem.W.looks_mroIn (M:=M) X m2
 have f:=tc_notTuple
 unfold excMatches
 repeat (first |(with_reducible refine wpAny_loadPart_at he ?_;rw [hc]) |with_reducible refine wpAny_loadPart_at hB ?_ |with_reducible refine L4.at ?_ |with_reducible refine L5.at ?_ |wp_step)
 exact hq
end
def jy (X:Cx) (pins:List (Addr×Obj)) (xe:Value->Shared->Prop):Cx:={ X with xe:=xe,pn:=X.pn++pins }
def suX (X:Cx) (ea:Addr):Cx:={ X with A:=X.A.mark (some (.ref ea)),calm:=false,xe:=fun _ _=>False }
abbrev qCW:HO := .ext fun _=>True
section
variable {X:Cx} {pins:List (Addr×Obj)} {σ:L2.St} {H:Hp} {s:Shared} {xe:Value->Shared->Prop}
theorem qEn (I:L2.Inv X pins σ H s):L2.Inv (jy X pins xe) [] σ H s :=
 ⟨⟨I.ok.mod,I.ok.kind,I.ok.glob,I.ok.blt,I.ok.above,I.ok.inj,I.ok.has,I.ok.cab,I.ok.hd,I.ok.frames,I.ok.stk,I.ok.exf,I.ok.bs,I.ok.bsz,I.ok.noex,I.ok.exfs,I.ok.funs,I.ok.frf⟩,I.os,I.bare,I.base,I.loc,I.cell,I.free,I.freeC,
  fun p hp=>I.pin p (by simpa [jy] using hp),I.hok,I.len,I.hnd⟩
theorem Wb {pins':List (Addr×Obj)} (I:L2.Inv (jy X pins xe) pins' σ H s):L2.Inv X pins σ H s :=
 ⟨⟨I.ok.mod,I.ok.kind,I.ok.glob,I.ok.blt,I.ok.above,I.ok.inj,I.ok.has,I.ok.cab,I.ok.hd,I.ok.frames,I.ok.stk,I.ok.exf,I.ok.bs,I.ok.bsz,I.ok.noex,I.ok.exfs,I.ok.funs,I.ok.frf⟩,I.os,I.bare,I.base,I.loc,I.cell,I.free,I.freeC,
  fun p hp=>I.pin p (List.mem_append_left _ hp),I.hok,I.len,I.hnd⟩
theorem qBo {D:Ends} {f:Flow} (q:SP (jy X pins xe) [] D f s):SP X pins D f s:=by
 cases f with
 |next=>obtain ⟨a,b,c,d⟩:=q;exact ⟨a,b,Wb c,d⟩
 |brk=>obtain ⟨a,b,c,d⟩:=q;exact ⟨a,b,Wb c,d⟩
 |cont=>obtain ⟨a,b,c,d⟩:=q;exact ⟨a,b,Wb c,d⟩
 |ret u=>obtain ⟨v,a,b,c,d⟩:=q;exact ⟨v,a,b,Wb c,d⟩
theorem qA7 (I:L2.Inv X pins σ H s) {ea:Addr} {oe:Obj} (hn:H ea=none) (ho:s.heap.get? ea=some oe) (h0:X.s₀.heap.get? ea=none) (hL:ea≠X.env.locals) (hC:∀ x c,X.env.cells.lookup x=some c->c≠ea) (hP:∀ p∈X.pn++pins,p.1≠ea) :
  L2.Inv X pins σ (upd H ea (.frz oe qCW)) s:=by
 have ne:∀ b u,H b=some u->b≠ea:=fun b u e z=>by rw [z,hn] at e;cases e
 have nb:∀ b o,X.s₀.heap.get? b=some o->b≠ea:=fun b o e z=>by rw [z,h0] at e;cases e
 refine ⟨I.ok,I.os,I.bare,⟨I.base.keep,I.base.slot,fun b o e n hx => ?_,I.base.there,fun b xs e => ?_,fun b o u e => ?_,fun b ps e => ?_⟩,I.loc,I.cell,?_,fun x c e => ?_,fun p hp => ?_,fun b u e => ?_,I.len,fun v hv => ?_⟩
 ·rw [qN (nb b o e)];exact I.base.free b o e n hx
 ·have:=I.base.tups b xs e;rw [qN (ne b _ this)];exact this
 ·have:=I.base.frzs b o u e;rw [qN (ne b _ this)];exact this
 ·obtain ⟨m,this⟩:=I.base.tbls b ps e;exact ⟨m,by rw [qN (ne b _ this)];exact this⟩
 ·rw [qN (Ne.symm hL)];exact I.free
 ·rw [qN (hC x c e)];exact I.freeC x c e
 ·obtain ⟨a,b,c,d⟩:=I.pin p hp
  exact ⟨a,by rw [qN (hP p hp)];exact b,c,d⟩
 ·by_cases hb:b=ea
  ·subst hb
   rw [QG] at e;cases e
   exact ⟨ho,trivial,⟨oe,ho⟩,fun _ _ z _=>z⟩
  ·rw [qN hb] at e
   exact (I.hok b u e).stay (fun _ _ _ z=>z) (fun c z=>by rw [qN (ne c _ z)];exact z) fun c xs z=>by rw [qN (ne c _ z)];exact z
 ·obtain ⟨a,o,u,vs,e1,e2,e3⟩:=I.hnd v hv
  exact ⟨a,o,u,vs,e1,by rw [qN (ne a _ e2)];exact e2,e3⟩
theorem qA0 (I:L2.Inv X pins σ H s) {ea:Addr} {oe:Obj} {u:HO} {vs:Array Value} (h1:H ea=some (.frz oe u)) (h2:oe.data = .fields vs) (h3:vs[2]? = some Value.none):L2.Inv (suX X ea) pins σ H s :=
 ⟨⟨I.ok.mod,I.ok.kind,I.ok.glob,I.ok.blt,I.ok.above,I.ok.inj,I.ok.has,I.ok.cab,(fun z=>absurd (show false=true from z) Bool.false_ne_true),I.ok.frames,I.ok.stk,I.ok.exf,I.ok.bs,I.ok.bsz,I.ok.noex,I.ok.exfs,I.ok.funs,I.ok.frf⟩,I.os,I.bare,I.base,I.loc,I.cell,I.free,I.freeC,
  I.pin,I.hok,I.len,fun v hv=>by
   have hv:some (Value.ref ea)=some v:=hv
   cases hv
   exact ⟨ea,oe,u,vs,rfl,h1,h2,h3⟩⟩
theorem jf {ea:Addr} (ok:X.Ok) (hc:X.calm=true) (I:L2.Inv (suX X ea) pins σ H s):L2.Inv X pins σ H s :=
 ⟨ok,I.os,I.bare,I.base,I.loc,I.cell,I.free,I.freeC,I.pin,I.hok,I.len,HndH.none (ok.hd hc)⟩
theorem qC1 (I:L2.Inv X pins σ H s) (hN:X.N.Nodup) {i:Nat} {n:Str} (hi:X.N[i]? = some n) {m:Str->Option Value} {v:Option Value} {h':Heap} {tk:Nat} (hm:∀ (j:Nat) (x:Str) (w:V),X.N[j]? = some x->σ[j]? = some (some w)->Vis X.env.scope x -> ∃ u,RelV w u∧qG9 X.env s.heap m x u)
  (hn:h'.Ns X.env.locals (fun x=>if x=n then v else m x)) (hs:Heap.SameBut X.env.locals s.heap h'):L2.Inv X pins (σ.set i none) H { s with heap:=h',toks:=tk }:=by
 have cne:=I.cne
 refine ⟨I.ok,I.os,I.bare,⟨fun b o e n hb hx => ?_,fun b o e n hb hx => ?_,I.base.free,fun b o e hx => ?_,I.base.tups,I.base.frzs,I.base.tbls⟩,⟨_,hn,fun j y w e1 e2 e3 => ?_⟩,fun y c e => ?_,I.free,I.freeC,fun p hp => ?_,fun b ob e => ?_,by simpa using I.len,I.hnd⟩
 ·exact (hs.2 b (Nat.ne_of_lt (Nat.lt_of_lt_of_le (Heap.lt_size e) I.ok.above))).trans (I.base.keep b o e n hb hx)
 ·obtain ⟨sl,e1⟩:=I.base.slot b o e n hb hx
  exact ⟨sl,(hs.2 b (Nat.ne_of_lt (Nat.lt_of_lt_of_le (Heap.lt_size e) I.ok.above))).trans e1⟩
 ·obtain ⟨o',e1⟩:=I.base.there b o e hx
  exact ⟨o',(hs.2 b (Nat.ne_of_lt (Nat.lt_of_lt_of_le (Heap.lt_size e) I.ok.above))).trans e1⟩
 ·have hj:j≠i:=fun z=>by
   subst z
   by_cases hl:j < σ.length
   ·rw [List.getElem?_set_self hl] at e2;cases e2
   ·rw [List.getElem?_eq_none (by simpa using hl)] at e2;cases e2
  rw [List.getElem?_set_ne (Ne.symm hj)] at e2
  obtain ⟨u,r,l⟩:=hm j y w e1 e2 e3
  refine ⟨u,r,?_⟩
  rcases l with ⟨k,l⟩ |⟨k,c,e,z⟩
  ·refine .inl ⟨k,?_⟩
   have:y≠n:=fun e=>hj (Zv hN e1 (e ▸ hi))
   simp [this,l]
  ·exact .inr ⟨k,c,e,z.sameBut hs (cne y c e)⟩
 ·obtain ⟨w',z⟩:=I.cell y c e
  exact ⟨w',z.sameBut hs (cne y c e)⟩
 ·obtain ⟨e,n,ne,nf,d⟩:=I.pin p hp
  exact ⟨(hs.2 p.1 ne).trans e,n,ne,nf,d⟩
 ·refine (I.hok b ob e).stay (fun c w' hc q=>(hs.2 c ?_).trans q) (fun _ q=>q) fun _ _ q=>q
  rintro rfl
  rcases hc with rfl |hc
  ·rw [I.free] at e;cases e
  ·rw [I.free] at hc;cases hc
def qH8 (i k:Nat) (ok:Value->Prop) (tb:XK->TS) (th:TS):TS:=fun D σ H=>tb (fun cls dd H1=>ok cls ∧ ∀ (σ':L2.St) (ea:Addr) (oe:Obj),σ'.length=k->H1 ea=none->oe.cls=cls->oe.dict=dd->(∃ vs,oe.data = .fields vs) ->
 th { nx:=fun σ2 H2=>D.nx (σ2.set i none) H2,rt:=D.rt,bk:=fun σ2 H2=>D.bk (σ2.set i none) H2,ct:=fun σ2 H2=>D.ct (σ2.set i none) H2 } (σ'.set i (some (.ref ea))) (upd H1 ea (.frz oe qCW))) D σ H
structure FrameX (X:Cx):Prop where
 stk:X.stack=X.env::X.outer
 fr:X.env.frame=some X.env.locals
 ex:X.ex=[]
theorem got {P:Program} {w:World} {H:Hp} {h:Heap} {a:Addr} {o:HO} (x:ObjOk P w H h a o):∃ u,h.get? a=some u:=by
 cases o with
 |lst xs=>obtain ⟨_,_,_,_,e⟩:=x;exact ⟨_,e⟩
 |tup xs=>obtain ⟨_,_,_,o,e,_⟩:=x;exact ⟨_,e⟩
 |dK kvs=>obtain ⟨_,_,_,_,o,_,_,e,_⟩:=x;exact ⟨_,e⟩
 |dT kvs=>obtain ⟨_,_,_,_,o,_,_,e,_⟩:=x;exact ⟨_,e⟩
 |set S n=>obtain ⟨o,_,_,_,e,_⟩:=x;exact ⟨_,e⟩
 |ins C dx fs=>obtain ⟨_,_,_,e,_⟩:=x;exact ⟨_,e⟩
 |own y=>exact x
 |xd fs=>obtain ⟨_,⟨_,_,_,e,_⟩,_⟩:=x;exact ⟨_,e⟩
 |rng lo hi=>obtain ⟨_,_,_,e⟩:=x;exact ⟨_,e⟩
 |frz ob u=>obtain ⟨e,_⟩:=x;exact ⟨_,e⟩
 |tbl ps=>exact ⟨_,x⟩
 |met f y=>exact ⟨_,x⟩
 |ext φ=>obtain ⟨_,e,_⟩:=x;exact e
theorem qFk {X:Cx} {x n:Str} {i:Nat} {Bx:Addr} {dd:Option Addr} {cd:ClassData} {sl:Array (Option Value)} {body:List Stmt} {b0:Stmt} {suite:List Stmt} {np hpos pos:Pos} {ok:Value->Prop} {tb:XK->TS} {th:TS} (FX:FrameX X) (hc:X.calm=true) (hN:X.N.Nodup) (hi:X.N[i]? = some n) (hl:X.env.scope.names.lookup n=some .local)
  (hg:Gl X x) (hm:X.mg x=some (.ref Bx)) (o1:X.K.lookup Bx=some ⟨.type "type",dd,.cls cd,sl⟩) (m1:PySem.W.mroIn X.K Bx (.type "BaseException")=some true) (hok:∀ v,ok v -> ∃ C,v = .ref C∧PySem.W.mroIn X.K C (.ref Bx)=some true)
  (hb:∀ (pins:List (Addr×Obj)) (xe:Value->Shared->Prop) (E':XK),WT (CXF X.prog X.w) (jy X pins xe) E'->PSs (jy X pins xe) body (tb E')) (hh:∀ ea,PSs (suX X ea) (b0::suite) th) (hdb:(x==("__debug__":Str))=false:=by decide) :
  PS X (.Try body [.ExceptHandler (some (.Name x np)) (some n) (b0::suite) hpos] [] [] pos) (qH8 i X.N.length ok tb th):=by
 intro pins s σ H D I h
 refine wpAny_Try_except ?_
 generalize hE:(fun (cls:Value) (dd:Option Addr) (H1:Hp)=>ok cls ∧ ∀ (σ':L2.St) (ea:Addr) (oe:Obj),σ'.length=X.N.length->H1 ea=none->oe.cls=cls->oe.dict=dd->(∃ vs,oe.data = .fields vs) ->
  th { nx:=fun σ2 H2=>D.nx (σ2.set i none) H2,rt:=D.rt,bk:=fun σ2 H2=>D.bk (σ2.set i none) H2,ct:=fun σ2 H2=>D.ct (σ2.set i none) H2 } (σ'.set i (some (.ref ea))) (upd H1 ea (.frz oe qCW)))=E'
 have h:tb E' D σ H:=by rw [← hE];exact h
 refine wpAny_mono (hb pins _ E' ?_ [] s σ H D (qEn I) h) (fun f s1 q => ?_) fun e s1 q=>q
 rotate_left
 ·have q:=qBo q
  cases f with
  |next=>exact wpAny_execs_nil q
  |brk=>exact q
  |cont=>exact q
  |ret u=>exact q
 ·intro pins' σ' H' s1 e s2 J c
  obtain ⟨ea,cls,d2,B,H1,rfl,fl,hok1,os,bare,un,sl1,qE⟩:=c
  have J':=Wb J
  rw [← hE] at qE
  obtain ⟨q1,q2⟩:=qE
  obtain ⟨C,rfl,m2⟩:=hok cls q1
  have fr':X.A.frames=some (X.env::X.outer):=by rw [← FX.stk];exact I.ok.frames
  have fl':Fly B (X.env::X.outer) ea (.ref C) d2 .none s2.heap:=by rw [← FX.stk];exact fl
  have un:UnB (frs X.stack) H' H1 s1.heap B:=un
  have sl1:∀ b∈frs X.stack,∀ o,s1.heap.get? b=some o -> ∃ sl,s2.heap.get? b=some { o with slots:=sl }:=sl1
  have stk1:s1.heap.FunFrames X.base X.stack:=J'.stack
  have baseB:∀ b o,X.base.get? b=some o->B.get? b=some o:=fun b o z=>un.keep b o (J'.bs b o z).1 (J'.bs b o z).2 fun hm=>by rw [(stk1.mem hm).1] at z;cases z
  refine YA (A:=X.A) fr' FX.fr fl' fun h4 x4 u4=>qAC x4 fun h5 x5 u5 => ?_
  have ns5:h5.Ns X.env.globals X.mg:=by rw [I.ok.glob];exact I.mod.glob.keeps fun b o z=>x5.1 b o (baseB b o z)
  have k5:X.K.In h5:=I.ok.mod.kin.keeps fun b o z=>x5.1 b o (baseB b o z)
  obtain ⟨_,_,_,oe5,_,_,_,_,he5,hc5,_⟩:=id x5
  refine wpAny_handleBy_cons (codeAny_handlers_test (Calls.Name_function_global I.ok.kind hg (Calls.loadGlobal_global ns5 hm ?_) hdb)) (by intro q;cases q)
  refine jv k5 o1 m1 he5 hc5 m2 (codeAny_handlers_suite_as (qAC x5 fun h6 x6 u6 => ?_))
  have u26:s2.heap.UpToSlots h6:=(u4.trans u5).trans u6
  obtain ⟨k1,k2,k3,oe,vs,T,oT,ts,g1,g2,g3,g4,g5,g6,g7⟩:=x6
  have nf:∀ b∈frs X.stack,∀ o,s1.heap.get? b=some o -> ∀ vs,o.data ≠ .fields vs:=fun b hb o z=>by
   obtain ⟨_,o2,ho2,nf⟩:=stk1.mem hb
   rw [z] at ho2;cases ho2;exact nf
  have slN:∀ b∈frs X.stack,∀ o,s1.heap.get? b=some o -> ∃ sl,h6.get? b=some { o with slots:=sl }:=fun b hb o z=>by
   obtain ⟨sl2,z2⟩:=sl1 b hb o z
   obtain ⟨sl3,z3⟩:=u26 b _ z2 (nf b hb o z)
   exact ⟨sl3,z3⟩
  have I6:L2.Inv X pins σ' H1 { s2 with heap:=h6 }:=J'.call' (s':={ s2 with heap:=h6 }) (ch:=[]) os (CXF.un (P:=X.prog) (w:=X.w) (s:=s1) (s':={ s2 with heap:=h6 }) k1 un slN) (hok1.kept k1) bare fun b z=>by cases z
  have neW:∀ b o,s1.heap.get? b=some o->b≠ea:=fun b o z hz=>by
   subst hz
   by_cases hb:b∈frs X.stack
   ·obtain ⟨sl2,z2⟩:=slN b hb o z
    rw [g1] at z2;cases z2
    exact nf b hb o z vs g4
   ·obtain ⟨o',z'⟩:=un.there b o z hb
    rw [k2] at z';cases z'
  have hn1:H1 ea=none:=by
   cases z:H1 ea with
   |none=>rfl
   |some u=>obtain ⟨o',z'⟩:=got (hok1 ea u z);rw [k2] at z';cases z'
  have I7:L2.Inv X pins σ' (upd H1 ea (.frz oe qCW)) { s2 with heap:=h6 }:=by
   refine qA7 I6 hn1 g1 ?_ ?_ (fun x c z => ?_) fun p hp => ?_
   ·cases z:X.s₀.heap.get? ea with
    |none=>rfl
    |some o=>obtain ⟨o',z'⟩:=J'.base.there ea o z (by rw [FX.ex];simp);exact (neW ea o' z' rfl).elim
   ·obtain ⟨m,⟨o,_,_,z,_⟩,_⟩:=J'.loc
    exact Ne.symm (neW _ o z)
   ·obtain ⟨v,o,z',_⟩:=J'.cell x c z
    exact neW c o z'
   ·exact neW p.1 p.2 (J'.pin p hp).1
  have I8:=qA0 I7 QG g4 g6
  refine WZ (X:=suX X ea) (v := .ref ea) I8 hN hi (.inl hl) (show RelV (.ref ea) (.ref ea) from rfl) (fun s7 I9 => ?_) (.inr hl)
  have hlen:σ'.length=X.N.length:=J'.len
  refine wpAny_noRaise (thn (hh ea pins s7 _ _ _ I9 (q2 σ' ea oe hlen hn1 g2 g3 ⟨vs,g4⟩)) fun f s8 q => ?_)
  have hp:(X.env.scope.kind == .class || (X.env.scope.kind == .module&&X.env.locals != X.env.globals))=false:=by rw [I.ok.kind];rfl
  have goes:∀ {σ8:L2.St} {H8:Hp} {Q:Shared->Prop},L2.Inv (suX X ea) pins σ8 H8 s8->(∀ s9,L2.Inv X pins (σ8.set i none) H8 s9->Q s9)->wpAny (model X.prog X.w) X.A (do bindName X.env n .none;unbindBehindTheSuite X.env n hpos) (fun _ s9=>Q s9) X.xe s8:=fun {σ8 H8 Q} I8 hQ=>by
   have I9:=jf I.ok hc I8
   obtain ⟨m,hn,hl'⟩:=id I9.loc
   exact wpAny_nameGoes_keeps hl hn hp fun h9 v hn9 hs9=>hQ _ (qC1 I9 hN hi hl' hn9 hs9)
  cases f with
  |next=>obtain ⟨σ8,H8,I8,q8⟩:=q;exact goes I8 fun s9 I9=>⟨_,H8,I9,q8⟩
  |brk=>obtain ⟨σ8,H8,I8,q8⟩:=q;exact goes I8 fun s9 I9=>⟨_,H8,I9,q8⟩
  |cont=>obtain ⟨σ8,H8,I8,q8⟩:=q;exact goes I8 fun s9 I9=>⟨_,H8,I9,q8⟩
  |ret u=>obtain ⟨v,σ8,H8,I8,r8,q8⟩:=q;exact goes I8 fun s9 I9=>⟨v,_,H8,I9,r8,q8⟩
end
def Zf (A:Around):List Addr:=match A.handled with
 |some (.ref ea)=>[ea]
 |_=>[]
theorem Hnd.frame {A:Around} {h h':Heap} (x:Hnd A h) (k:∀ b∈Zf A,∀ o,h.get? b=some o->h'.get? b=some o):Hnd A h':=fun v hv=>by
 obtain ⟨ea,oe,vs,e1,e2,e3⟩:=x v hv
 subst e1
 exact ⟨ea,oe,vs,rfl,k ea (by unfold Zf;rw [hv];simp) oe e2,e3⟩
theorem qHo {A:Around} {I:Addr} (hI:∀ ea∈Zf A,ea≠I):∀ v,A.handled=some v->v ≠ .ref I:=fun v hv z=>by
 subst z
 exact hI I (by unfold Zf;rw [hv];simp) rfl
theorem Jf {prog:Program} {w:World} {A:Around} (I ax:Addr) (hne:ax≠I) (items:Array Value) (hI:∀ ea∈Zf A,ea≠I) :
  Walks prog w A I (I::ax::Zf A) [I] items.size (fun i v=>items[i]? = some v) (fun i h=>(h.IsListIter I ax i∧h.IsList ax items)∧Hnd A h) where
 sub:=fun b hb=>by simp at hb;simp [hb]
 frame:=fun _ _ _ st hk=>⟨⟨st.1.1.at fun o e=>hk I (by simp) o e,st.1.2.at fun o e=>hk ax (by simp) o e⟩,st.2.frame fun b hb o e=>hk b (by simp [hb]) o e⟩
 item:=fun i s Q E hi st hQ=>wpAny_pyNext_list_item st.1.1 st.1.2 (x:=items[i]) (by simp [hi]) fun h' z1 z2 =>
  hQ _ h' s.toks (by simp [hi]) ⟨⟨z1,st.1.2.extBut z2.extBut hne⟩,st.2.frame fun b hb o e=>(z2.2 b (hI b hb)).trans e⟩ fun b o hb e=>z2.extBut b o (fun h=>hb (by simp [h])) e
 done:=fun s Q E st hQ=>list_end st.2 st.1.1 st.1.2 (by simp) (qHo hI) fun h' z=>hQ h' s.toks fun b o hb e=>z b o (fun h=>hb (by simp [h])) e
 self:=fun _ _ _ _ st hQ=>wpAny_pyIter_listiter st.1.1 hQ
section
variable {X:Cx} {pins:List (Addr×Obj)} {σ:L2.St} {H:Hp} {s:Shared}
theorem qHp (I:L2.Inv X pins σ H s):∀ ea∈Zf X.A,ea≠s.heap.objs.size:=fun ea hea=>by
 have hd:X.A.handled=some (.ref ea):=by
  unfold Zf at hea
  split at hea
  ·rename_i a ha;rw [List.mem_singleton.mp hea];exact ha
  ·cases hea
 obtain ⟨a,oe,vs,e1,e2,_⟩:=I.hndH _ hd
 cases e1
 exact Nat.ne_of_lt (Heap.lt_size e2)
theorem yr (I:L2.Inv X pins σ H s) {p:Addr} {its:List Value} (pl:PlainL s.heap p its.toArray) {E:Value->Shared->Prop} {Q:Value->Shared->Prop}
  (h:Walks X.prog X.w X.A.in1 s.heap.objs.size (s.heap.objs.size::p::Zf X.A) [s.heap.objs.size] its.toArray.size (fun i v=>its.toArray[i]? = some v) (fun i h=>(h.IsListIter s.heap.objs.size p i∧h.IsList p its.toArray)∧Hnd X.A.in1 h) ->
   ((s.heap.push { cls := .type "list_iterator",data := .fields #[.ref p,.int 0 0] }).IsListIter s.heap.objs.size p 0∧(s.heap.push { cls := .type "list_iterator",data := .fields #[.ref p,.int 0 0] }).IsList p its.toArray)∧Hnd X.A.in1 (s.heap.push { cls := .type "list_iterator",data := .fields #[.ref p,.int 0 0] }) ->
   (∀ b∈s.heap.objs.size::p::Zf X.A,b < (s.heap.push { cls := .type "list_iterator",data := .fields #[.ref p,.int 0 0] }).objs.size) ->
   (∀ h':Heap,(∀ b o,b ∉ [s.heap.objs.size]->(s.heap.push { cls := .type "list_iterator",data := .fields #[.ref p,.int 0 0] }).get? b=some o->h'.get? b=some o) -> ∀ b o,s.heap.get? b=some o->h'.get? b=some o) ->
   Q (.ref s.heap.objs.size) { s with heap:=s.heap.push { cls := .type "list_iterator",data := .fields #[.ref p,.int 0 0] } }) :
  wpAny (model X.prog X.w) X.A.in1 (pyIter (.ref p)) Q E s:=by
 obtain ⟨ob,po,_⟩:=id pl.isList
 have hlt:p < s.heap.objs.size:=Heap.lt_size po
 refine wpAny_pyIter_list pl.isList (h (Jf _ p (Nat.ne_of_lt hlt) _ (qHp I)) ⟨⟨⟨_,Heap.get?_push_size _ rfl,rfl,rfl⟩,pl.isList.at fun o e=>Heap.get?_push_of_some _ e⟩,?_⟩ (fun b hb => ?_) fun h' k b o e => ?_)
 ·exact Hnd.frame (show Hnd X.A.in1 s.heap from I.hndH) fun b _ o e=>Heap.get?_push_of_some _ e
 ·rw [Heap.size_push]
  rcases List.mem_cons.mp hb with rfl |hb
  ·exact Nat.lt_succ_self _
  ·rcases List.mem_cons.mp hb with rfl |hb
   ·exact Nat.lt_succ_of_lt hlt
   ·have hd:X.A.handled=some (.ref b):=by
     unfold Zf at hb
     split at hb
     ·rename_i a ha;rw [List.mem_singleton.mp hb];exact ha
     ·cases hb
    obtain ⟨a,oe,vs,e1,e2,_⟩:=I.hndH _ hd
    cases e1
    exact Nat.lt_succ_of_lt (Heap.lt_size e2)
 ·exact k b o (by simp;exact Nat.ne_of_lt (Heap.lt_size e)) (Heap.get?_push_of_some _ e)
theorem Jx:∀ {bs:List Bool} {us:List Value},Vals (bs.map V.bl) us->us=bs.map Value.bool
 |[],_,.nil=>rfl
 |b::bs,_,.cons r t=>by rw [show _=Value.bool b from r,Jx t];rfl
theorem jt:∀ {ns:List Int} {us:List Value} {i:Nat} {v:Value},Vals (ns.map V.int) us->us[i]? = some v -> ∃ t,v=Value.int (ns.getD i 0) t
 |[],_,_,_,.nil,e=>by simp at e
 |n::ns,_,0,_,.cons r t,e=>by simp at e;subst e;exact r
 |n::ns,_,i + 1,v,.cons r t,e=>by simpa using jt (i:=i) t (by simpa using e)
theorem qCz {prog:Program} {w:World} {A:Around} {bs:List Bool}:TruthOf prog w A (fun i v=>(bs.map Value.bool).toArray[i]? = some v) (fun i=>bs.getD i false):=fun i v s Q E hP hQ=>by
 have hP:(bs.map Value.bool).toArray[i]? = some v:=hP
 rw [List.getElem?_toArray,List.getElem?_map] at hP
 cases e:bs[i]? with
 |none=>rw [e] at hP;cases hP
 |some b =>
  rw [e] at hP;cases hP
  have hQ:Q (bs.getD i false) s:=hQ
  rw [List.getD_eq_getElem?_getD,e] at hQ
  exact wpAny_pure hQ
theorem qAr (bs:List Bool):(List.range bs.length).all (fun i=>bs.getD i false)=bs.all id:=by
 induction bs with
 |nil=>rfl
 |cons b bs ih =>
  rw [List.length_cons,List.range_succ_eq_map,List.all_cons,List.all_map,List.all_cons]
  have:(((fun i=>(b::bs).getD i false) ∘ Nat.succ))=fun i=>bs.getD i false:=by funext i;simp
  rw [this,ih];simp
theorem qBX:Wq X (.builtin "all") (fun xs H Q => ∃ (p:Addr) (bs:List Bool),xs=[.ref p]∧SqL X.K H p (bs.map V.bl)∧Q (.bl (bs.all id)) H):=by
 intro pins s σ H xs us Q I r h
 obtain ⟨p,bs,rfl,hq,q⟩:=h
 obtain ⟨u,rfl,rx⟩:=yS r
 cases rx
 obtain ⟨its,r',pl,hz⟩:=I.list hq
 have e:=Jx r'
 subst e
 refine call_all_walk (yr I pl fun W st fp k=>⟨_,_,_,_,_,_,_,rfl,W,st,qCz,fun h' tk hk => ?_⟩)
 rw [show (bs.map Value.bool).toArray.size=bs.length by simp,qAr]
 exact ⟨.bl _,H,I.kept (k h' hk),rfl,q⟩
theorem ZK (ns:List Int):∀ k,k≤ns.length->preSum (fun i=>ns.getD i 0) k=(ns.take k).sum
 |0,_=>by simp [preSum]
 |k + 1,h=>by
  have hk:k < ns.length:=h
  rw [preSum,ZK ns k (Nat.le_of_lt hk),List.take_succ_eq_append_getElem hk,List.sum_append]
  simp [List.getD_eq_getElem?_getD,hk]
theorem qA4:Wq X (.builtin "sum") (fun xs H Q => ∃ (p:Addr) (ns:List Int),xs=[.ref p]∧SqL X.K H p (ns.map V.int)∧Q (.int ns.sum) H):=by
 intro pins s σ H xs us Q I r h
 obtain ⟨p,ns,rfl,hq,q⟩:=h
 obtain ⟨u,rfl,rx⟩:=yS r
 cases rx
 obtain ⟨its,r',pl,hz⟩:=I.list hq
 have hl:=r'.length
 refine call_sum_walkAnyS (yr I pl fun W st fp k=>⟨_,_,_,_,_,_,_,fun i=>ns.getD i 0,rfl,W.toS,st,fp,fun i v hv=>jt r' (by simpa using hv),fun s' t' m => ?_⟩)
 have hsz:its.toArray.size=ns.length:=by rw [List.size_toArray,← hl,List.length_map]
 rw [hsz,ZK ns _ (Nat.le_refl _),List.take_length]
 obtain ⟨hh,g,d,t,o⟩:=s'
 have g1:g=s.gens:=m.gens
 have d1:d=s.drawn:=m.drawn
 have o1:o=s.os:=m.os
 subst g1;subst d1;subst o1
 exact ⟨.int _,H,I.kept (k hh fun b o hb e=>m.heap b o hb e),⟨t',rfl⟩,q⟩
end
theorem qB4 {K:W.Frag} {x D:Addr} (C:ExcK K D):PySem.W.KitX K (.ref x) (.ref D) (fun h => ∃ ox od,PySem.W.InstAt h x ox D od):=by
 obtain ⟨cd,hcd,_⟩:=Option.bind_eq_some_iff.mp (C.fo none)
 unfold PySem.W.clsIn at hcd
 split at hcd
 ·rename_i c' d' cd' sl' ho
  refine ⟨fun _ _ _ ⟨ox,od,I⟩=>I.type,fun M h X p => ?_,fun h tp dd its n sl X htp => ?_,fun {prog w A E Q s} X ⟨ox,od,I⟩ k=>qA8 C X I k⟩
  ·intro A' Q' E' s' k q
   unfold isType loadHead
   exact wpAny_bind (wpAny_loadPart (k _ _ (X _ _ ho)) (wpAny_pure q))
  ·refine Bool.eq_false_iff.mpr fun q => ?_
   have e:D=tp:=Value.ref.inj (beq_iff_eq.mp q)
   subst e
   have z:=(X _ _ ho).symm.trans htp
   cases z
 ·cases hcd
end EX
end
section
namespace EV
open PySem PySem.Spec PyProof.Rows L2
inductive PV where
 |non |bl (b:Bool) |int (i:Int) |str (x:Str) |tup (l:List PV) |lst (l:List PV) |ref (i:Nat) |dct |ty (n:String) |fn (a:Addr) |exc (c:Addr) (fs:List (Str×Int))
inductive SO where
 |l (xs:List PV)
 |d (kvs:List (List L2.Key×PV))
 |z (kvs:List (List L2.Key×PV))
abbrev qC:=List SO
structure Exc where
 cls:Addr
 fs:List (Str×Int)
inductive Rs (α:Type) where
 |ok (a:α) (st:qC) |ex (x:Exc) (st:qC) |no
def Rs.bind {α β:Type} (r:Rs α) (k:α->qC->Rs β):Rs β:=match r with
 | .ok a st=>k a st
 | .ex x st => .ex x st
 | .no => .no
abbrev qu:=List (Option PV)
abbrev FE:=qu->qC->Rs PV
abbrev FA:=qu->qC->Rs (List PV)
abbrev FT:=qu->qC->Rs Bool
inductive RS where
 |nx (e:qu) (st:qC) |rt (v:PV) (st:qC) |bk (e:qu) (st:qC) |ct (e:qu) (st:qC) |ex (x:Exc) (st:qC) |no
abbrev FS:=qu->qC->RS
structure Bz where
 b:List Addr
 z:List Addr
def Bz.out (b:Bz) (a:Addr):Prop:=a ∉ b.b∧a ∉ b.z
def KL (K:W.Frag) (a:Addr) (xs:List V):Prop :=
 ∃ (o:Obj) (its:Array Value) (n:Nat),K.lookup a=some o∧o.cls = .type "list" ∧ o.dict=none∧o.data = .seq its n∧its.size≤sizeLine∧Vals xs its.toList
def KT (K:W.Frag) (a:Addr) (xs:List V):Prop :=
 ∃ (o:Obj) (its:Array Value) (n:Nat),K.lookup a=some o∧o.cls = .type "tuple" ∧ o.data = .seq its n∧its.size≤sizeLine∧Vals xs its.toList
def LA (K:W.Frag) (H:Hp) (b:Bz) (a:Addr) (xs:List V):Prop:=(Rd H a (.lst xs)∧b.out a)∨KL K a xs
def TA' (K:W.Frag) (H:Hp) (b:Bz) (a:Addr) (xs:List V):Prop:=(H a=some (.tup xs)∧b.out a)∨KT K a xs
mutual
def RV (K:W.Frag) (H:Hp) (b:Bz):PV->V->Prop
 | .non,v=>v = .non
 | .bl x,v=>v = .bl x
 | .int i,v=>v = .int i
 | .str x,v=>v = .str x
 | .tup l,v => ∃ a xs,v = .ref a∧TA' K H b a xs∧RVs K H b l xs
 | .lst l,v => ∃ a xs,v = .ref a∧LA K H b a xs∧RVs K H b l xs
 | .ref i,v => ∃ a,v = .ref a∧b.b[i]? = some a
 | .dct,v => ∃ a,v = .ref a∧H a=some (.dK [])∧b.out a
 | .ty n,v=>v = .ty n
 | .fn a,v=>v = .ref a
 | .exc c fs,v => ∃ a o u,v = .ref a∧H a=some (.frz o u)∧b.out a∧o.cls = .ref c∧(∃ vs,o.data = .fields vs)∧((fs=[]∧o.dict=none) ∨ ∃ d,o.dict=some d∧H d=some (.xd (fs.map fun p=>(p.1,V.int p.2)))∧b.out d)
def RVs (K:W.Frag) (H:Hp) (b:Bz):List PV->List V->Prop
 |[],xs=>xs=[]
 |p::ps,xs => ∃ x r,xs=x::r∧RV K H b p x∧RVs K H b ps r
end
def SOk (K:W.Frag) (H:Hp) (b:Bz):SO->HO->Prop
 | .l xs,o => ∃ vs,o = .lst vs∧RVs K H b xs vs
 | .d kvs,o => ∃ vs,o = .dT vs∧kvs.map (·.1)=vs.map (·.1)∧RVs K H b (kvs.map (·.2)) (vs.map (·.2))
 | .z kvs,o => ∃ od vs,o = .frz od (.dT vs)∧kvs.map (·.1)=vs.map (·.1)∧RVs K H b (kvs.map (·.2)) (vs.map (·.2))
structure SR (K:W.Frag) (H:Hp) (b:Bz) (st:qC):Prop where
 len:b.b.length=st.length
 nd:b.b.Nodup
 at_:∀ (i:Nat) (x:SO),st[i]? = some x -> ∃ a o,b.b[i]? = some a∧H a=some o∧SOk K H b x o
 zo:∀ a∈b.z,∃ xs,H a=some (.lst xs)
 zb:∀ a∈b.z,a ∉ b.b
structure WE (H:Hp) (b:Bz) (H':Hp) (b':Bz):Prop where
 more:∃ n,b'.b=b.b++n ∧ ∀ a∈n,H a=none
 zm:∃ y,b'.z=y++b.z ∧ ∀ a∈y,H a=none
 keep:∀ a o,H a=some o->b.out a->H' a=some o
 dom:∀ a o,H a=some o -> ∃ o',H' a=some o'
theorem WE.refl (H:Hp) (b:Bz):WE H b H b:=⟨⟨[],by simp,by simp⟩,⟨[],rfl,by simp⟩,fun _ _ h _=>h,fun _ o h=>⟨o,h⟩⟩
theorem WE.none_of {H H':Hp} {b b':Bz} (e:WE H b H' b') {a:Addr} (h:H' a=none):H a=none:=by
 cases q:H a with
 |none=>rfl
 |some o=>obtain ⟨o',e'⟩:=e.dom a o q;rw [h] at e';cases e'
theorem WE.not_in {H H':Hp} {b b':Bz} (e:WE H b H' b') {a:Addr} {o:HO} (h:H a=some o) (hn:b.out a):b'.out a:=by
 obtain ⟨n,hb,hh⟩:=e.more
 obtain ⟨y,hz,hy⟩:=e.zm
 refine ⟨fun hm => ?_,fun hm => ?_⟩
 ·rw [hb] at hm
  rcases List.mem_append.mp hm with hm |hm
  ·exact hn.1 hm
  ·rw [hh a hm] at h;cases h
 ·rw [hz] at hm
  rcases List.mem_append.mp hm with hm |hm
  ·rw [hy a hm] at h;cases h
  ·exact hn.2 hm
theorem WE.trans {H H1 H2:Hp} {b b1 b2:Bz} (e:WE H b H1 b1) (f:WE H1 b1 H2 b2):WE H b H2 b2:=by
 obtain ⟨n,hn,hh⟩:=e.more
 obtain ⟨m,hm,hk⟩:=f.more
 obtain ⟨y,hz,hy⟩:=e.zm
 obtain ⟨x,hx,hw⟩:=f.zm
 refine ⟨⟨n++m,by rw [hm,hn,List.append_assoc],fun a ha => ?_⟩,⟨x++y,by rw [hx,hz,List.append_assoc],fun a ha => ?_⟩,fun a o h hb=>f.keep a o (e.keep a o h hb) (e.not_in h hb),fun a o h => ?_⟩
 ·rcases List.mem_append.mp ha with ha |ha
  ·exact hh a ha
  ·exact e.none_of (hk a ha)
 ·rcases List.mem_append.mp ha with ha |ha
  ·exact e.none_of (hw a ha)
  ·exact hy a ha
 ·obtain ⟨o',h'⟩:=e.dom a o h
  exact f.dom a o' h'
theorem WE.ix {H H':Hp} {b b':Bz} (e:WE H b H' b') {i:Nat} {a:Addr} (h:b.b[i]? = some a):b'.b[i]? = some a:=by
 obtain ⟨n,hb,_⟩:=e.more
 have hi:i < b.b.length:=(List.getElem?_eq_some_iff.mp h).1
 rw [hb,List.getElem?_append_left hi];exact h
theorem WE.new {H:Hp} {b:Bz} {p:Addr} {o:HO} (h:H p=none):WE H b (upd H p o) b :=
 ⟨⟨[],by simp,by simp⟩,⟨[],rfl,by simp⟩,fun a u e _=>by rw [qN (qM e h)];exact e,fun a u e=>⟨u,by rw [qN (qM e h)];exact e⟩⟩
theorem WE.hide {H:Hp} {b:Bz} {p:Addr} {o:HO} (h:H p=none):WE H b (upd H p o) ⟨b.b,p::b.z⟩ :=
 ⟨⟨[],by simp,by simp⟩,⟨[p],rfl,fun a ha=>by rw [List.mem_singleton.mp ha];exact h⟩,fun a u e _=>by rw [qN (qM e h)];exact e,fun a u e=>⟨u,by rw [qN (qM e h)];exact e⟩⟩
theorem WE.wr {H:Hp} {b:Bz} {p:Addr} {o:HO} (h:p∈b.b∨p∈b.z):WE H b (upd H p o) b :=
 ⟨⟨[],by simp,by simp⟩,⟨[],rfl,by simp⟩,fun a u e hb=>by rw [qN (fun z=>h.elim (fun q=>hb.1 (by rw [z];exact q)) fun q=>hb.2 (by rw [z];exact q))];exact e,fun a u e=>by
  by_cases hz:a=p
  ·exact ⟨o,by rw [hz];exact QG⟩
  ·exact ⟨u,by rw [qN hz];exact e⟩⟩
theorem Rd.some_of {H:Hp} {a:Addr} {u:HO} (h:Rd H a u):∃ o,H a=some o:=h.elim (fun h=>⟨_,h⟩) fun ⟨_,h⟩=>⟨_,h⟩
theorem Rd.wext {H H':Hp} {b b':Bz} {a:Addr} {u:HO} (e:WE H b H' b') (h:Rd H a u∧b.out a):Rd H' a u∧b'.out a:=by
 obtain ⟨o,ho⟩:=Rd.some_of h.1
 refine ⟨?_,e.not_in ho h.2⟩
 rcases h.1 with q |⟨o',q⟩
 ·exact .inl (e.keep _ _ q h.2)
 ·exact .inr ⟨o',e.keep _ _ q h.2⟩
theorem LA.wext {K:W.Frag} {H H':Hp} {b b':Bz} {a:Addr} {xs:List V} (e:WE H b H' b') (h:LA K H b a xs):LA K H' b' a xs:=h.elim (fun h => .inl (Rd.wext e h)) .inr
theorem TA'.wext {K:W.Frag} {H H':Hp} {b b':Bz} {a:Addr} {xs:List V} (e:WE H b H' b') (h:TA' K H b a xs):TA' K H' b' a xs:=h.elim (fun h => .inl ⟨e.keep _ _ h.1 h.2,e.not_in h.1 h.2⟩) .inr
theorem LA.sq {K:W.Frag} {H:Hp} {b:Bz} {a:Addr} {xs:List V} (h:LA K H b a xs):SqL K H a xs:=h.elim (fun h => .inl h.1) .inr
theorem TA'.sq {K:W.Frag} {H:Hp} {b:Bz} {a:Addr} {xs:List V} (h:TA' K H b a xs):SqT K H a xs:=h.elim (fun h => .inl (.inl h.1)) .inr
mutual
theorem RV.wext {K:W.Frag} {H H':Hp} {b b':Bz} (e:WE H b H' b'):∀ (p:PV) {v:V},RV K H b p v->RV K H' b' p v
 | .non,_,h=>by unfold RV at h ⊢;exact h
 | .bl _,_,h=>by unfold RV at h ⊢;exact h
 | .int _,_,h=>by unfold RV at h ⊢;exact h
 | .str _,_,h=>by unfold RV at h ⊢;exact h
 | .tup l,_,h=>by
  unfold RV at h ⊢
  obtain ⟨a,xs,h1,h2,h3⟩:=h
  exact ⟨a,xs,h1,h2.wext e,RVs.wext e l h3⟩
 | .lst l,_,h=>by
  unfold RV at h ⊢
  obtain ⟨a,xs,h1,h2,h3⟩:=h
  exact ⟨a,xs,h1,h2.wext e,RVs.wext e l h3⟩
 | .ref i,_,h=>by
  unfold RV at h ⊢
  obtain ⟨a,h1,h2⟩:=h
  exact ⟨a,h1,e.ix h2⟩
 | .ty _,_,h=>by unfold RV at h ⊢;exact h
 | .fn _,_,h=>by unfold RV at h ⊢;exact h
 | .exc _ _,_,h=>by
  unfold RV at h ⊢
  obtain ⟨a,o,u,h1,h2,h3,h4,h6,h5⟩:=h
  exact ⟨a,o,u,h1,e.keep _ _ h2 h3,e.not_in h2 h3,h4,h6,h5.imp id fun ⟨d,q1,q2,q3⟩=>⟨d,q1,e.keep _ _ q2 q3,e.not_in q2 q3⟩⟩
 | .dct,_,h=>by
  unfold RV at h ⊢
  obtain ⟨a,h1,h2,h3⟩:=h
  exact ⟨a,h1,e.keep _ _ h2 h3,e.not_in h2 h3⟩
theorem RVs.wext {K:W.Frag} {H H':Hp} {b b':Bz} (e:WE H b H' b'):∀ (l:List PV) {xs:List V},RVs K H b l xs->RVs K H' b' l xs
 |[],_,h=>by unfold RVs at h ⊢;exact h
 |p::ps,_,h=>by
  unfold RVs at h ⊢
  obtain ⟨x,r,h1,h2,h3⟩:=h
  exact ⟨x,r,h1,RV.wext e p h2,RVs.wext e ps h3⟩
end
structure Ext (H:Hp) (b:Bz) (H':Hp) (b':Bz):Prop extends WE H b H' b' where
 same:b'.z=b.z
 hid:∀ a o,a∈b.z->H a=some o->H' a=some o
 fz:∀ a o u,H a=some (.frz o u)->H' a=some (.frz o u)
theorem Ext.refl (H:Hp) (b:Bz):Ext H b H b:=⟨WE.refl H b,rfl,fun _ _ _ h=>h,fun _ _ _ h=>h⟩
theorem Ext.none_of {H H':Hp} {b b':Bz} (e:Ext H b H' b') {a:Addr} (h:H' a=none):H a=none:=e.toWE.none_of h
theorem Ext.not_in {H H':Hp} {b b':Bz} (e:Ext H b H' b') {a:Addr} {o:HO} (h:H a=some o) (hn:b.out a):b'.out a:=e.toWE.not_in h hn
theorem Ext.trans {H H1 H2:Hp} {b b1 b2:Bz} (e:Ext H b H1 b1) (f:Ext H1 b1 H2 b2):Ext H b H2 b2:=⟨e.toWE.trans f.toWE,f.same.trans e.same,fun a o ha h=>f.hid a o (by rw [e.same];exact ha) (e.hid a o ha h),fun a o u h=>f.fz a o u (e.fz a o u h)⟩
theorem Ext.ix {H H':Hp} {b b':Bz} (e:Ext H b H' b') {i:Nat} {a:Addr} (h:b.b[i]? = some a):b'.b[i]? = some a:=e.toWE.ix h
theorem Ext.new {H:Hp} {b:Bz} {p:Addr} {o:HO} (h:H p=none):Ext H b (upd H p o) b:=⟨WE.new h,rfl,fun a u _ e=>by rw [qN (qM e h)];exact e,fun a u _ e=>by rw [qN (qM e h)];exact e⟩
theorem Ext.wr {H:Hp} {b:Bz} {p:Addr} {o:HO} (h:p∈b.b) (hz:∀ a∈b.z,a ∉ b.b) (hf:∀ o u,H p≠some (.frz o u)):Ext H b (upd H p o) b:=⟨WE.wr (.inl h),rfl,fun a u ha e=>by rw [qN (fun z=>hz a ha (by rw [z];exact h))];exact e,fun a u v e=>by rw [qN (fun z=>hf u v (by rw [← z];exact e))];exact e⟩
theorem nfz {H:Hp} {p:Addr} {u:HO} (h:H p=some u) (hu:∀ o v,u ≠ .frz o v):∀ o v,H p≠some (.frz o v):=fun o v z=>by rw [h] at z;cases z;exact hu _ _ rfl
theorem qDg {H:Hp} {p:Addr} {xs:List V} (h:H p=some (.lst xs)):∀ o v,H p≠some (.frz o v):=nfz h fun _ _ z=>nomatch z
theorem Ext.of_same {H H':Hp} {b:Bz} (h:Same H H'):Ext H b H' b:=⟨⟨⟨[],by simp,by simp⟩,⟨[],rfl,by simp⟩,fun a o e _=>h a o e,fun a o e=>⟨o,h a o e⟩⟩,rfl,fun a o _ e=>h a o e,fun a o u e=>h a _ e⟩
theorem RV.ext {K:W.Frag} {H H':Hp} {b b':Bz} (e:Ext H b H' b') (p:PV) {v:V} (h:RV K H b p v):RV K H' b' p v:=RV.wext e.toWE p h
theorem RVs.ext {K:W.Frag} {H H':Hp} {b b':Bz} (e:Ext H b H' b') (l:List PV) {xs:List V} (h:RVs K H b l xs):RVs K H' b' l xs:=RVs.wext e.toWE l h
theorem RVs.length {K:W.Frag} {H:Hp} {b:Bz}:∀ {l:List PV} {xs:List V},RVs K H b l xs->l.length=xs.length
 |[],_,h=>by unfold RVs at h;rw [h];rfl
 |p::ps,_,h=>by
  unfold RVs at h
  obtain ⟨x,r,rfl,_,h3⟩:=h
  rw [List.length_cons,List.length_cons,RVs.length h3]
theorem RVs.nil {K:W.Frag} {H:Hp} {b:Bz}:RVs K H b [] []:=by unfold RVs;rfl
theorem RVs.cons {K:W.Frag} {H:Hp} {b:Bz} {p:PV} {ps:List PV} {x:V} {r:List V} (h:RV K H b p x) (t:RVs K H b ps r):RVs K H b (p::ps) (x::r):=by
 unfold RVs;exact ⟨x,r,rfl,h,t⟩
theorem RVs.get {K:W.Frag} {H:Hp} {b:Bz}:∀ {l:List PV} {xs:List V} {i:Nat} {p:PV},RVs K H b l xs->l[i]? = some p -> ∃ x,xs[i]? = some x∧RV K H b p x
 |[],_,_,_,_,h=>by simp at h
 |q::ps,_,0,p,r,h=>by
  unfold RVs at r
  obtain ⟨x,t,rfl,h2,h3⟩:=r
  simp at h;subst h
  exact ⟨x,rfl,h2⟩
 |q::ps,_,i + 1,p,r,h=>by
  unfold RVs at r
  obtain ⟨x,t,rfl,h2,h3⟩:=r
  obtain ⟨y,e,hy⟩:=RVs.get (i:=i) h3 (by simpa using h)
  exact ⟨y,by simpa using e,hy⟩
theorem RVs.append {K:W.Frag} {H:Hp} {b:Bz}:∀ {l m:List PV} {xs ys:List V},RVs K H b l xs->RVs K H b m ys->RVs K H b (l++m) (xs++ys)
 |[],_,_,_,h,g=>by unfold RVs at h;subst h;exact g
 |p::ps,_,_,_,h,g=>by
  unfold RVs at h
  obtain ⟨x,r,rfl,h2,h3⟩:=h
  exact RVs.cons h2 (RVs.append h3 g)
theorem RVs.take {K:W.Frag} {H:Hp} {b:Bz}:∀ {l:List PV} {xs:List V} (n:Nat),RVs K H b l xs->RVs K H b (l.take n) (xs.take n)
 |_,_,0,_=>RVs.nil
 |[],_,_ + 1,h=>by unfold RVs at h;subst h;exact RVs.nil
 |p::ps,_,n + 1,h=>by
  unfold RVs at h
  obtain ⟨x,r,rfl,h2,h3⟩:=h
  exact RVs.cons h2 (RVs.take n h3)
theorem RVs.drop {K:W.Frag} {H:Hp} {b:Bz}:∀ {l:List PV} {xs:List V} (n:Nat),RVs K H b l xs->RVs K H b (l.drop n) (xs.drop n)
 |_,_,0,h=>h
 |[],_,_ + 1,h=>by unfold RVs at h;subst h;exact RVs.nil
 |p::ps,_,n + 1,h=>by
  unfold RVs at h
  obtain ⟨x,r,rfl,h2,h3⟩:=h
  exact RVs.drop n h3
theorem RVs.set {K:W.Frag} {H:Hp} {b:Bz} {p:PV} {x:V} (hp:RV K H b p x):∀ {l:List PV} {xs:List V} (n:Nat),RVs K H b l xs->RVs K H b (l.set n p) (xs.set n x)
 |[],_,_,h=>by unfold RVs at h;subst h;exact RVs.nil
 |q::ps,_,0,h=>by
  unfold RVs at h
  obtain ⟨y,r,rfl,h2,h3⟩:=h
  exact RVs.cons hp h3
 |q::ps,_,n + 1,h=>by
  unfold RVs at h
  obtain ⟨y,r,rfl,h2,h3⟩:=h
  exact RVs.cons h2 (RVs.set hp n h3)
theorem RVs.erase {K:W.Frag} {H:Hp} {b:Bz}:∀ {l:List PV} {xs:List V} (n:Nat),RVs K H b l xs->RVs K H b (l.eraseIdx n) (xs.eraseIdx n)
 |[],_,_,h=>by unfold RVs at h;subst h;exact RVs.nil
 |q::ps,_,0,h=>by
  unfold RVs at h
  obtain ⟨y,r,rfl,h2,h3⟩:=h
  exact h3
 |q::ps,_,n + 1,h=>by
  unfold RVs at h
  obtain ⟨y,r,rfl,h2,h3⟩:=h
  exact RVs.cons h2 (RVs.erase n h3)
theorem SOk.wext {K:W.Frag} {H H':Hp} {b b':Bz} (e:WE H b H' b'):∀ {x:SO} {o:HO},SOk K H b x o->SOk K H' b' x o
 | .l xs,_,⟨vs,h,r⟩=>⟨vs,h,RVs.wext e xs r⟩
 | .d kvs,_,⟨vs,h,q,r⟩=>⟨vs,h,q,RVs.wext e _ r⟩
 | .z kvs,_,⟨od,vs,h,q,r⟩=>⟨od,vs,h,q,RVs.wext e _ r⟩
theorem SOk.ext {K:W.Frag} {H H':Hp} {b b':Bz} (e:Ext H b H' b') {x:SO} {o:HO} (h:SOk K H b x o):SOk K H' b' x o:=h.wext e.toWE
theorem SR.mem {K:W.Frag} {H:Hp} {b:Bz} {st:qC} (S:SR K H b st) {a:Addr} (h:a∈b.b):∃ o,H a=some o:=by
 obtain ⟨i,hi⟩:=List.getElem?_of_mem h
 have hl:i < b.b.length:=(List.getElem?_eq_some_iff.mp hi).1
 have hs:st[i]? = some (st[i]'(by rw [← S.len];exact hl)):=List.getElem?_eq_getElem _
 obtain ⟨a',o,h1,h2,_⟩:=S.at_ i _ hs
 rw [hi] at h1;cases h1
 exact ⟨o,h2⟩
theorem SR.new_notin {K:W.Frag} {H:Hp} {b:Bz} {st:qC} (S:SR K H b st) {p:Addr} (h:H p=none):b.out p :=
 ⟨fun hm=>(by obtain ⟨o,e⟩:=S.mem hm;rw [h] at e;cases e),fun hm=>(by obtain ⟨o,e⟩:=S.zo p hm;rw [h] at e;cases e)⟩
theorem SR.new {K:W.Frag} {H:Hp} {b:Bz} {st:qC} (S:SR K H b st) {p:Addr} {o:HO} (h:H p=none):SR K (upd H p o) b st :=
 ⟨S.len,S.nd,fun i x hx=>by
  obtain ⟨a,u,h1,h2,h3⟩:=S.at_ i x hx
  exact ⟨a,u,h1,by rw [qN (qM h2 h)];exact h2,h3.ext (Ext.new h)⟩,fun a ha=>by
  obtain ⟨u,e⟩:=S.zo a ha
  exact ⟨u,by rw [qN (qM e h)];exact e⟩,S.zb⟩
theorem qG8 {b:List Addr} (nd:b.Nodup) {i j:Nat} {x:Addr} (h1:b[i]? = some x) (h2:b[j]? = some x):i=j:=by
 obtain ⟨hi,e1⟩:=List.getElem?_eq_some_iff.mp h1
 obtain ⟨hj,e2⟩:=List.getElem?_eq_some_iff.mp h2
 exact (List.getElem_inj nd).mp (e1.trans e2.symm)
theorem SR.wr {K:W.Frag} {H:Hp} {b:Bz} {st:qC} (S:SR K H b st) {i:Nat} {p:Addr} {x:SO} {o:HO} (hp:b.b[i]? = some p) (hx:SOk K (upd H p o) b x o):SR K (upd H p o) b (st.set i x):=by
 have hm:p∈b.b:=List.mem_of_getElem? hp
 refine ⟨by simp [S.len],S.nd,fun j y hy => ?_,fun a ha => ?_,S.zb⟩
 ·have hl:i < b.b.length:=(List.getElem?_eq_some_iff.mp hp).1
  by_cases hj:j=i
  ·subst hj
   rw [List.getElem?_set_self (by rw [← S.len];exact hl)] at hy
   cases hy
   exact ⟨p,o,hp,QG,hx⟩
  ·rw [List.getElem?_set_ne (Ne.symm hj)] at hy
   obtain ⟨a,u,h1,h2,h3⟩:=S.at_ j y hy
   have hne:a≠p:=fun z=>hj (by subst z;exact qG8 S.nd h1 hp)
   exact ⟨a,u,h1,by rw [qN hne];exact h2,h3.wext (WE.wr (.inl hm))⟩
 ·obtain ⟨u,e⟩:=S.zo a ha
  have hz:a≠p:=fun z=>S.zb a ha (by rw [z];exact hm)
  exact ⟨u,by rw [qN hz];exact e⟩
theorem SR.wrz {K:W.Frag} {H:Hp} {b:Bz} {st:qC} (S:SR K H b st) {p:Addr} {ys:List V} (hp:p∈b.z):SR K (upd H p (.lst ys)) b st:=by
 refine ⟨S.len,S.nd,fun j y hy => ?_,fun a ha => ?_,S.zb⟩
 ·obtain ⟨a,u,h1,h2,h3⟩:=S.at_ j y hy
  have hne:a≠p:=fun z=>by subst z;exact S.zb a hp (List.mem_of_getElem? h1)
  exact ⟨a,u,h1,by rw [qN hne];exact h2,h3.wext (WE.wr (.inr hp))⟩
 ·obtain ⟨u,e⟩:=S.zo a ha
  by_cases hz:a=p
  ·exact ⟨ys,by rw [hz];exact QG⟩
  ·exact ⟨u,by rw [qN hz];exact e⟩
structure Sh (b b':Bz):Prop where
 ix:∀ (i:Nat) (a:Addr),b.b[i]? = some a->b'.b[i]? = some a
 out:∀ a,b.out a->b'.out a
mutual
theorem RV.sh {K:W.Frag} {H:Hp} {b b':Bz} (e:Sh b b'):∀ (p:PV) {v:V},RV K H b p v->RV K H b' p v
 | .non,_,h=>by unfold RV at h ⊢;exact h
 | .bl _,_,h=>by unfold RV at h ⊢;exact h
 | .int _,_,h=>by unfold RV at h ⊢;exact h
 | .str _,_,h=>by unfold RV at h ⊢;exact h
 | .tup l,_,h=>by
  unfold RV at h ⊢
  obtain ⟨a,xs,h1,h2,h3⟩:=h
  exact ⟨a,xs,h1,h2.elim (fun q => .inl ⟨q.1,e.out a q.2⟩) .inr,RVs.sh e l h3⟩
 | .lst l,_,h=>by
  unfold RV at h ⊢
  obtain ⟨a,xs,h1,h2,h3⟩:=h
  exact ⟨a,xs,h1,h2.elim (fun q => .inl ⟨q.1,e.out a q.2⟩) .inr,RVs.sh e l h3⟩
 | .ref i,_,h=>by
  unfold RV at h ⊢
  obtain ⟨a,h1,h2⟩:=h
  exact ⟨a,h1,e.ix i a h2⟩
 | .ty _,_,h=>by unfold RV at h ⊢;exact h
 | .fn _,_,h=>by unfold RV at h ⊢;exact h
 | .exc _ _,_,h=>by
  unfold RV at h ⊢
  obtain ⟨a,o,u,h1,h2,h3,h4,h6,h5⟩:=h
  exact ⟨a,o,u,h1,h2,e.out a h3,h4,h6,h5.imp id fun ⟨d,q1,q2,q3⟩=>⟨d,q1,q2,e.out d q3⟩⟩
 | .dct,_,h=>by
  unfold RV at h ⊢
  obtain ⟨a,h1,h2,h3⟩:=h
  exact ⟨a,h1,h2,e.out a h3⟩
theorem RVs.sh {K:W.Frag} {H:Hp} {b b':Bz} (e:Sh b b'):∀ (l:List PV) {xs:List V},RVs K H b l xs->RVs K H b' l xs
 |[],_,h=>by unfold RVs at h ⊢;exact h
 |p::ps,_,h=>by
  unfold RVs at h ⊢
  obtain ⟨x,r,h1,h2,h3⟩:=h
  exact ⟨x,r,h1,RV.sh e p h2,RVs.sh e ps h3⟩
end
theorem SOk.sh {K:W.Frag} {H:Hp} {b b':Bz} (e:Sh b b'):∀ {x:SO} {o:HO},SOk K H b x o->SOk K H b' x o
 | .l xs,_,⟨vs,h,r⟩=>⟨vs,h,RVs.sh e xs r⟩
 | .d kvs,_,⟨vs,h,q,r⟩=>⟨vs,h,q,RVs.sh e _ r⟩
 | .z kvs,_,⟨od,vs,h,q,r⟩=>⟨od,vs,h,q,RVs.sh e _ r⟩
theorem Sh.bare {b:List Addr} {p:Addr} {z:List Addr}:Sh ⟨b,p::z⟩ ⟨b,z⟩:=⟨fun _ _ h=>h,fun a h=>⟨h.1,fun q=>h.2 (List.mem_cons_of_mem _ q)⟩⟩
theorem Sh.slot {b:List Addr} {p:Addr} {z:List Addr}:Sh ⟨b,p::z⟩ ⟨b++[p],z⟩:=⟨fun i a h=>by
  rw [List.getElem?_append_left (List.getElem?_eq_some_iff.mp h).1];exact h,fun a h=>⟨fun q=>(List.mem_append.mp q).elim h.1 fun q=>h.2 (by rw [List.mem_singleton.mp q];exact List.mem_cons_self),fun q=>h.2 (List.mem_cons_of_mem _ q)⟩⟩
theorem RV.hide {K:W.Frag} {H:Hp} {b z:List Addr} {p:Addr} {o:HO} (hp:H p=none) (q:PV) {v:V} (h:RV K H ⟨b,z⟩ q v):RV K (upd H p o) ⟨b,p::z⟩ q v:=hd q h
where
 outp {a:Addr} {u:HO} (e:H a=some u) (h:Bz.out ⟨b,z⟩ a):Bz.out ⟨b,p::z⟩ a:=⟨h.1,fun q=>(List.mem_cons.mp q).elim (fun q=>by subst q;rw [hp] at e;cases e) h.2⟩
 rdd {a:Addr} {u:HO} (h:Rd H a u∧Bz.out ⟨b,z⟩ a):Rd (upd H p o) a u∧Bz.out ⟨b,p::z⟩ a:=by
  obtain ⟨w,hw⟩:=Rd.some_of h.1
  refine ⟨?_,outp hw h.2⟩
  rcases h.1 with q |⟨o',q⟩
  ·exact .inl (by rw [qN (qM q hp)];exact q)
  ·exact .inr ⟨o',by rw [qN (qM q hp)];exact q⟩
 hd:∀ (q:PV) {v:V},RV K H ⟨b,z⟩ q v->RV K (upd H p o) ⟨b,p::z⟩ q v
 | .non,_,h=>by unfold RV at h ⊢;exact h
 | .bl _,_,h=>by unfold RV at h ⊢;exact h
 | .int _,_,h=>by unfold RV at h ⊢;exact h
 | .str _,_,h=>by unfold RV at h ⊢;exact h
 | .tup l,_,h=>by
  unfold RV at h ⊢
  obtain ⟨a,xs,h1,h2,h3⟩:=h
  exact ⟨a,xs,h1,h2.elim (fun q => .inl ⟨by rw [qN (qM q.1 hp)];exact q.1,outp q.1 q.2⟩) .inr,hds l h3⟩
 | .lst l,_,h=>by
  unfold RV at h ⊢
  obtain ⟨a,xs,h1,h2,h3⟩:=h
  exact ⟨a,xs,h1,h2.elim (fun q => .inl (rdd q)) .inr,hds l h3⟩
 | .ref i,_,h=>by
  unfold RV at h ⊢
  exact h
 | .ty _,_,h=>by unfold RV at h ⊢;exact h
 | .fn _,_,h=>by unfold RV at h ⊢;exact h
 | .exc _ _,_,h=>by
  unfold RV at h ⊢
  obtain ⟨a,o',u,h1,h2,h3,h4,h6,h5⟩:=h
  exact ⟨a,o',u,h1,by rw [qN (qM h2 hp)];exact h2,outp h2 h3,h4,h6,h5.imp id fun ⟨d,q1,q2,q3⟩=>⟨d,q1,by rw [qN (qM q2 hp)];exact q2,outp q2 q3⟩⟩
 | .dct,_,h=>by
  unfold RV at h ⊢
  obtain ⟨a,h1,h2,h3⟩:=h
  exact ⟨a,h1,by rw [qN (qM h2 hp)];exact h2,outp h2 h3⟩
 hds:∀ (l:List PV) {xs:List V},RVs K H ⟨b,z⟩ l xs->RVs K (upd H p o) ⟨b,p::z⟩ l xs
 |[],_,h=>by unfold RVs at h ⊢;exact h
 |q::ps,_,h=>by
  unfold RVs at h ⊢
  obtain ⟨x,r,h1,h2,h3⟩:=h
  exact ⟨x,r,h1,hd q h2,hds ps h3⟩
theorem SR.hide {K:W.Frag} {H:Hp} {b z:List Addr} {st:qC} (S:SR K H ⟨b,z⟩ st) {p:Addr} {ys:List V} (hp:H p=none):SR K (upd H p (.lst ys)) ⟨b,p::z⟩ st:=by
 have hn:=S.new_notin hp
 refine ⟨S.len,S.nd,fun i x hx => ?_,fun a ha => ?_,fun a ha => ?_⟩
 ·obtain ⟨a,u,h1,h2,h3⟩:=S.at_ i x hx
  refine ⟨a,u,h1,by rw [qN (qM h2 hp)];exact h2,?_⟩
  cases x with
  |l xs =>
   obtain ⟨vs,e1,e2⟩:=h3
   exact ⟨vs,e1,RV.hide.hds hp xs e2⟩
  |d kvs =>
   obtain ⟨vs,e1,e2,e3⟩:=h3
   exact ⟨vs,e1,e2,RV.hide.hds hp _ e3⟩
  |z kvs =>
   obtain ⟨od,vs,e1,e2,e3⟩:=h3
   exact ⟨od,vs,e1,e2,RV.hide.hds hp _ e3⟩
 ·rcases List.mem_cons.mp ha with rfl |ha
  ·exact ⟨ys,QG⟩
  ·obtain ⟨u,e⟩:=S.zo a ha
   exact ⟨u,by rw [qN (qM e hp)];exact e⟩
 ·rcases List.mem_cons.mp ha with rfl |ha
  ·exact hn.1
  ·exact S.zb a ha
theorem SR.bare {K:W.Frag} {H:Hp} {b z:List Addr} {st:qC} {p:Addr} (S:SR K H ⟨b,p::z⟩ st):SR K H ⟨b,z⟩ st :=
 ⟨S.len,S.nd,fun i x hx=>by
  obtain ⟨a,u,h1,h2,h3⟩:=S.at_ i x hx
  exact ⟨a,u,h1,h2,h3.sh Sh.bare⟩,fun a ha=>S.zo a (List.mem_cons_of_mem _ ha),fun a ha=>S.zb a (List.mem_cons_of_mem _ ha)⟩
theorem SR.slot {K:W.Frag} {H:Hp} {b z:List Addr} {st:qC} {p:Addr} {x:SO} {o:HO} (S:SR K H ⟨b,p::z⟩ st) (hz:p ∉ z) (ho:H p=some o) (hx:SOk K H ⟨b,p::z⟩ x o):SR K H ⟨b++[p],z⟩ (st++[x]):=by
 have hp:p ∉ b:=S.zb p List.mem_cons_self
 refine ⟨by simp [show b.length=st.length from S.len],?_,fun i y hy => ?_,fun a ha=>S.zo a (List.mem_cons_of_mem _ ha),fun a ha hm => ?_⟩
 ·exact List.nodup_append.mpr ⟨S.nd,by simp,fun a ha c hc=>by rw [List.mem_singleton.mp hc];intro z;subst z;exact hp ha⟩
 ·by_cases hi:i < st.length
  ·rw [List.getElem?_append_left hi] at hy
   obtain ⟨a,u,h1,h2,h3⟩:=S.at_ i y hy
   exact ⟨a,u,Sh.slot.ix i a h1,h2,h3.sh Sh.slot⟩
  ·have hi':i=st.length:=by
    have:=(List.getElem?_eq_some_iff.mp hy).1
    rw [List.length_append,List.length_singleton] at this;omega
   subst hi'
   have e1:(st++[x])[st.length]? = some x:=by simp
   rw [e1] at hy;cases hy
   have hl:b.length=st.length:=S.len
   exact ⟨p,o,by show (b++[p])[st.length]? = some p;rw [← hl];simp,ho,hx.sh Sh.slot⟩
 ·rcases List.mem_append.mp hm with q |q
  ·exact S.zb a (List.mem_cons_of_mem _ ha) q
  ·rw [List.mem_singleton.mp q] at ha;exact hz ha
def REnv (K:W.Frag) (H:Hp) (b:Bz) (r:qu) (s:L2.St):Prop:=r.length=s.length ∧ ∀ (i:Nat) (p:PV),r[i]? = some (some p) -> ∃ v,s[i]? = some (some v)∧RV K H b p v
theorem REnv.wext {K:W.Frag} {H H':Hp} {b b':Bz} {r:qu} {s:L2.St} (h:REnv K H b r s) (e:WE H b H' b'):REnv K H' b' r s:=⟨h.1,fun i p q=>by
 obtain ⟨v,h1,h2⟩:=h.2 i p q
 exact ⟨v,h1,RV.wext e p h2⟩⟩
theorem REnv.ext {K:W.Frag} {H H':Hp} {b b':Bz} {r:qu} {s:L2.St} (h:REnv K H b r s) (e:Ext H b H' b'):REnv K H' b' r s:=⟨h.1,fun i p q=>by
 obtain ⟨v,h1,h2⟩:=h.2 i p q
 exact ⟨v,h1,RV.ext e p h2⟩⟩
theorem REnv.set {K:W.Frag} {H:Hp} {b:Bz} {r:qu} {s:L2.St} {p:PV} {v:V} (h:REnv K H b r s) (hv:RV K H b p v) (i:Nat):REnv K H b (r.set i (some p)) (s.set i (some v)):=by
 refine ⟨by simp [h.1],fun j q hq => ?_⟩
 by_cases hj:i=j
 ·subst hj
  have hl:i < r.length:=by
   have:=(List.getElem?_eq_some_iff.mp hq).1
   simpa using this
  rw [List.getElem?_set_self hl] at hq
  cases hq
  exact ⟨v,by rw [List.getElem?_set_self (by rw [← h.1];exact hl)],hv⟩
 ·rw [List.getElem?_set_ne hj] at hq
  obtain ⟨w,h1,h2⟩:=h.2 j q hq
  exact ⟨w,by rw [List.getElem?_set_ne hj];exact h1,h2⟩
def RX (K:W.Frag) (H:Hp) (b:Bz) (x:Exc) (c:Value) (d:Option Addr):Prop :=
 c = .ref x.cls∧((x.fs=[]∧d=none) ∨ ∃ a,d=some a∧H a=some (.xd (x.fs.map fun p=>(p.1,V.int p.2)))∧b.out a)
def XP (K:W.Frag) (E:XK) (H:Hp) (b:Bz) (x:Exc) (st:qC):Prop := ∀ c d H' b',Ext H b H' b'->SR K H' b' st->RX K H' b' x c d->E c d H'
theorem XP.ext {K:W.Frag} {E:XK} {H H1:Hp} {b b1:Bz} {x:Exc} {st:qC} (h:XP K E H b x st) (e:Ext H b H1 b1):XP K E H1 b1 x st:=fun c d H' b' e' S r=>h c d H' b' (e.trans e') S r
def PostE (K:W.Frag) (E:XK) (H:Hp) (b:Bz) (r:Rs PV) (Q:VK):Prop:=match r with
 | .ok p st => ∀ v H' b',Ext H b H' b'->SR K H' b' st->RV K H' b' p v->Q v H'
 | .ex x st=>XP K E H b x st
 | .no=>False
def PostA (K:W.Frag) (E:XK) (H:Hp) (b:Bz) (r:Rs (List PV)) (Q:List V->Hp->Prop):Prop:=match r with
 | .ok ps st => ∀ vs H' b',Ext H b H' b'->SR K H' b' st->RVs K H' b' ps vs->Q vs H'
 | .ex x st=>XP K E H b x st
 | .no=>False
def PostT (K:W.Frag) (E:XK) (H:Hp) (b:Bz) (r:Rs Bool) (Q:Bool->Hp->Prop):Prop:=match r with
 | .ok k st => ∀ H' b',Ext H b H' b'->SR K H' b' st->Q k H'
 | .ex x st=>XP K E H b x st
 | .no=>False
def PostS (K:W.Frag) (E:XK) (H:Hp) (b:Bz) (r:RS) (D:Ends):Prop:=match r with
 | .nx e st => ∀ s H' b',Ext H b H' b'->SR K H' b' st->REnv K H' b' e s->D.nx s H'
 | .bk e st => ∀ s H' b',Ext H b H' b'->SR K H' b' st->REnv K H' b' e s->D.bk s H'
 | .ct e st => ∀ s H' b',Ext H b H' b'->SR K H' b' st->REnv K H' b' e s->D.ct s H'
 | .rt p st => ∀ v H' b',Ext H b H' b'->SR K H' b' st->RV K H' b' p v->D.rt v H'
 | .ex x st=>XP K E H b x st
 | .no=>False
theorem PostE.ext {K:W.Frag} {E:XK} {H H1:Hp} {b b1:Bz} {r:Rs PV} {Q:VK} (h:PostE K E H b r Q) (e:Ext H b H1 b1):PostE K E H1 b1 r Q:=by
 cases r with
 |ok p st=>exact fun v H' b' e'=>h v H' b' (e.trans e')
 |ex x st=>exact XP.ext h e
 |no=>exact h
theorem PostA.ext {K:W.Frag} {E:XK} {H H1:Hp} {b b1:Bz} {r:Rs (List PV)} {Q:List V->Hp->Prop} (h:PostA K E H b r Q) (e:Ext H b H1 b1):PostA K E H1 b1 r Q:=by
 cases r with
 |ok p st=>exact fun v H' b' e'=>h v H' b' (e.trans e')
 |ex x st=>exact XP.ext h e
 |no=>exact h
theorem PostT.ext {K:W.Frag} {E:XK} {H H1:Hp} {b b1:Bz} {r:Rs Bool} {Q:Bool->Hp->Prop} (h:PostT K E H b r Q) (e:Ext H b H1 b1):PostT K E H1 b1 r Q:=by
 cases r with
 |ok p st=>exact fun H' b' e'=>h H' b' (e.trans e')
 |ex x st=>exact XP.ext h e
 |no=>exact h
theorem PostS.ext {K:W.Frag} {E:XK} {H H1:Hp} {b b1:Bz} {r:RS} {D:Ends} (h:PostS K E H b r D) (e:Ext H b H1 b1):PostS K E H1 b1 r D:=by
 cases r with
 |nx p st=>exact fun v H' b' e'=>h v H' b' (e.trans e')
 |bk p st=>exact fun v H' b' e'=>h v H' b' (e.trans e')
 |ct p st=>exact fun v H' b' e'=>h v H' b' (e.trans e')
 |rt p st=>exact fun v H' b' e'=>h v H' b' (e.trans e')
 |ex x st=>exact XP.ext h e
 |no=>exact h
def rd (K:W.Frag) (E:XK) (f:FE):TE:=fun s H Q => ∃ b r st,SR K H b st∧REnv K H b r s∧PostE K E H b (f r st) Q
def rdA (K:W.Frag) (E:XK) (f:FA):L2.TA:=fun s H Q => ∃ b r st,SR K H b st∧REnv K H b r s∧PostA K E H b (f r st) Q
def rdT (K:W.Frag) (E:XK) (f:FT):TT:=fun s H Q => ∃ b r st,SR K H b st∧REnv K H b r s∧PostT K E H b (f r st) Q
def rdS (K:W.Frag) (E:XK) (f:FS):TS:=fun D s H => ∃ b r st,SR K H b st∧REnv K H b r s∧PostS K E H b (f r st) D
abbrev VE (X:Cx) (E:XK) (e:Expr) (f:FE):Prop:=PE X e (rd X.K E f)
abbrev VA (X:Cx) (E:XK) (e:List Expr) (f:FA):Prop:=PA X e (rdA X.K E f)
abbrev VT (X:Cx) (E:XK) (e:Expr) (f:FT):Prop:=PT X e (rdT X.K E f)
abbrev VS (X:Cx) (E:XK) (e:Stmt) (f:FS):Prop:=PS X e (rdS X.K E f)
abbrev VSs (X:Cx) (E:XK) (e:List Stmt) (f:FS):Prop:=PSs X e (rdS X.K E f)
theorem PE.imp {X:Cx} {e:Expr} {t t':TE} (h:PE X e t) (i:∀ s H Q,t' s H Q->t s H Q):PE X e t':=fun pins s σ H Q I q=>h pins s σ H Q I (i _ _ _ q)
theorem PT.imp {X:Cx} {e:Expr} {t t':TT} (h:PT X e t) (i:∀ s H Q,t' s H Q->t s H Q):PT X e t':=fun pins s σ H Q I q=>h pins s σ H Q I (i _ _ _ q)
theorem PA.imp {X:Cx} {e:List Expr} {t t':L2.TA} (h:PA X e t) (i:∀ s H Q,t' s H Q->t s H Q):PA X e t':=fun pos pins s σ H Q I q=>h pos pins s σ H Q I (i _ _ _ q)
theorem PS.imp {X:Cx} {e:Stmt} {t t':TS} (h:PS X e t) (i:∀ D s H,t' D s H->t D s H):PS X e t':=fun pins s σ H D I q=>h pins s σ H D I (i _ _ _ q)
theorem PSs.imp {X:Cx} {e:List Stmt} {t t':TS} (h:PSs X e t) (i:∀ D s H,t' D s H->t D s H):PSs X e t':=fun pins s σ H D I q=>h pins s σ H D I (i _ _ _ q)
theorem PostE.bind {K:W.Frag} {E:XK} {H:Hp} {b:Bz} {r:Rs PV} {k:PV->qC->Rs PV} {Q R:VK} (P:PostE K E H b (r.bind k) Q)
  (h:∀ p st v H1 b1,Ext H b H1 b1->SR K H1 b1 st->RV K H1 b1 p v->PostE K E H1 b1 (k p st) Q->R v H1):PostE K E H b r R:=by
 cases r with
 |ok p st=>exact fun v H1 b1 e S r=>h p st v H1 b1 e S r (PostE.ext (show PostE K E H b (k p st) Q from P) e)
 |ex x st=>exact P
 |no=>exact P
theorem PostE.bindT {K:W.Frag} {E:XK} {H:Hp} {b:Bz} {r:Rs PV} {k:PV->qC->Rs Bool} {Q:Bool->Hp->Prop} {R:VK} (P:PostT K E H b (r.bind k) Q)
  (h:∀ p st v H1 b1,Ext H b H1 b1->SR K H1 b1 st->RV K H1 b1 p v->PostT K E H1 b1 (k p st) Q->R v H1):PostE K E H b r R:=by
 cases r with
 |ok p st=>exact fun v H1 b1 e S r=>h p st v H1 b1 e S r (PostT.ext (show PostT K E H b (k p st) Q from P) e)
 |ex x st=>exact P
 |no=>exact P
theorem PostT.bind {K:W.Frag} {E:XK} {H:Hp} {b:Bz} {r:Rs Bool} {k:Bool->qC->Rs PV} {Q:VK} {R:Bool->Hp->Prop} (P:PostE K E H b (r.bind k) Q)
  (h:∀ p st H1 b1,Ext H b H1 b1->SR K H1 b1 st->PostE K E H1 b1 (k p st) Q->R p H1):PostT K E H b r R:=by
 cases r with
 |ok p st=>exact fun H1 b1 e S=>h p st H1 b1 e S (PostE.ext (show PostE K E H b (k p st) Q from P) e)
 |ex x st=>exact P
 |no=>exact P
theorem PostT.bindT {K:W.Frag} {E:XK} {H:Hp} {b:Bz} {r:Rs Bool} {k:Bool->qC->Rs Bool} {Q R:Bool->Hp->Prop} (P:PostT K E H b (r.bind k) Q)
  (h:∀ p st H1 b1,Ext H b H1 b1->SR K H1 b1 st->PostT K E H1 b1 (k p st) Q->R p H1):PostT K E H b r R:=by
 cases r with
 |ok p st=>exact fun H1 b1 e S=>h p st H1 b1 e S (PostT.ext (show PostT K E H b (k p st) Q from P) e)
 |ex x st=>exact P
 |no=>exact P
theorem PostA.bind {K:W.Frag} {E:XK} {H:Hp} {b:Bz} {r:Rs (List PV)} {k:List PV->qC->Rs PV} {Q:VK} {R:List V->Hp->Prop} (P:PostE K E H b (r.bind k) Q)
  (h:∀ p st v H1 b1,Ext H b H1 b1->SR K H1 b1 st->RVs K H1 b1 p v->PostE K E H1 b1 (k p st) Q->R v H1):PostA K E H b r R:=by
 cases r with
 |ok p st=>exact fun v H1 b1 e S r=>h p st v H1 b1 e S r (PostE.ext (show PostE K E H b (k p st) Q from P) e)
 |ex x st=>exact P
 |no=>exact P
theorem PostE.bindA {K:W.Frag} {E:XK} {H:Hp} {b:Bz} {r:Rs PV} {k:PV->qC->Rs (List PV)} {Q:List V->Hp->Prop} {R:VK} (P:PostA K E H b (r.bind k) Q)
  (h:∀ p st v H1 b1,Ext H b H1 b1->SR K H1 b1 st->RV K H1 b1 p v->PostA K E H1 b1 (k p st) Q->R v H1):PostE K E H b r R:=by
 cases r with
 |ok p st=>exact fun v H1 b1 e S r=>h p st v H1 b1 e S r (PostA.ext (show PostA K E H b (k p st) Q from P) e)
 |ex x st=>exact P
 |no=>exact P
theorem PostA.bindA {K:W.Frag} {E:XK} {H:Hp} {b:Bz} {r:Rs (List PV)} {k:List PV->qC->Rs (List PV)} {Q R:List V->Hp->Prop} (P:PostA K E H b (r.bind k) Q)
  (h:∀ p st v H1 b1,Ext H b H1 b1->SR K H1 b1 st->RVs K H1 b1 p v->PostA K E H1 b1 (k p st) Q->R v H1):PostA K E H b r R:=by
 cases r with
 |ok p st=>exact fun v H1 b1 e S r=>h p st v H1 b1 e S r (PostA.ext (show PostA K E H b (k p st) Q from P) e)
 |ex x st=>exact P
 |no=>exact P
def Rs.bindS {α:Type} (r:Rs α) (k:α->qC->RS):RS:=match r with
 | .ok a st=>k a st
 | .ex x st => .ex x st
 | .no => .no
theorem PostE.bindS {K:W.Frag} {E:XK} {H:Hp} {b:Bz} {r:Rs PV} {k:PV->qC->RS} {D:Ends} {R:VK} (P:PostS K E H b (r.bindS k) D)
  (h:∀ p st v H1 b1,Ext H b H1 b1->SR K H1 b1 st->RV K H1 b1 p v->PostS K E H1 b1 (k p st) D->R v H1):PostE K E H b r R:=by
 cases r with
 |ok p st=>exact fun v H1 b1 e S r=>h p st v H1 b1 e S r (PostS.ext (show PostS K E H b (k p st) D from P) e)
 |ex x st=>exact P
 |no=>exact P
theorem PostT.bindS {K:W.Frag} {E:XK} {H:Hp} {b:Bz} {r:Rs Bool} {k:Bool->qC->RS} {D:Ends} {R:Bool->Hp->Prop} (P:PostS K E H b (r.bindS k) D)
  (h:∀ p st H1 b1,Ext H b H1 b1->SR K H1 b1 st->PostS K E H1 b1 (k p st) D->R p H1):PostT K E H b r R:=by
 cases r with
 |ok p st=>exact fun H1 b1 e S=>h p st H1 b1 e S (PostS.ext (show PostS K E H b (k p st) D from P) e)
 |ex x st=>exact P
 |no=>exact P
theorem PostA.bindS {K:W.Frag} {E:XK} {H:Hp} {b:Bz} {r:Rs (List PV)} {k:List PV->qC->RS} {D:Ends} {R:List V->Hp->Prop} (P:PostS K E H b (r.bindS k) D)
  (h:∀ p st v H1 b1,Ext H b H1 b1->SR K H1 b1 st->RVs K H1 b1 p v->PostS K E H1 b1 (k p st) D->R v H1):PostA K E H b r R:=by
 cases r with
 |ok p st=>exact fun v H1 b1 e S r=>h p st v H1 b1 e S r (PostS.ext (show PostS K E H b (k p st) D from P) e)
 |ex x st=>exact P
 |no=>exact P
def asL (st:qC):PV->Option (List PV)
 | .lst l=>some l
 | .ref i=>match st[i]? with
  |some (.l xs)=>some xs
  |_=>none
 |_=>none
def asT:PV->Option (List PV)
 | .tup l=>some l
 |_=>none
def wY (st:qC) (p:PV):Option (List PV):=match p with
 | .tup l=>some l
 |p=>asL st p
section
variable {K:W.Frag} {H:Hp} {b:Bz} {st:qC} {p:PV} {v:V} {l:List PV}
theorem wA (S:SR K H b st) (r:RV K H b p v) (h:asL st p=some l):∃ a xs,v = .ref a∧SqL K H a xs∧RVs K H b l xs:=by
 cases p with
 |lst m =>
  unfold RV at r
  obtain ⟨a,xs,h1,h2,h3⟩:=r
  have e:m=l:=Option.some.inj h
  subst e
  exact ⟨a,xs,h1,h2.sq,h3⟩
 |ref i =>
  unfold RV at r
  obtain ⟨a,h1,h2⟩:=r
  unfold asL at h
  dsimp only at h
  cases q:st[i]? with
  |none=>rw [q] at h;cases h
  |some o =>
   cases o with
   |l ys =>
    rw [q] at h
    have e:ys=l:=Option.some.inj h
    subst e
    obtain ⟨a',o,e1,e2,vs,e3,e4⟩:=S.at_ i _ q
    rw [h2] at e1;cases e1
    subst e3
    exact ⟨a,vs,h1,SqL.of e2,e4⟩
   |d ys=>rw [q] at h;cases h
   |z ys=>rw [q] at h;cases h
 |_=>cases h
theorem ZU (S:SR K H b st) (r:RV K H b p v) (h:wY st p=some l):∃ a xs,v = .ref a∧(SqL K H a xs∨SqT K H a xs)∧RVs K H b l xs:=by
 cases p with
 |tup m =>
  unfold RV at r
  obtain ⟨a,xs,h1,h2,h3⟩:=r
  have e:m=l:=Option.some.inj h
  subst e
  exact ⟨a,xs,h1,.inr h2.sq,h3⟩
 |lst m =>
  obtain ⟨a,xs,h1,h2,h3⟩:=wA S r h
  exact ⟨a,xs,h1,.inl h2,h3⟩
 |ref i =>
  obtain ⟨a,xs,h1,h2,h3⟩:=wA S r h
  exact ⟨a,xs,h1,.inl h2,h3⟩
 |_=>cases h
end
abbrev FL:=qu->qC->Rs (List PV)
def PostN (K:W.Frag) (E:XK) (H:Hp) (b:Bz) (r:Rs (List PV)) (Q:VK):Prop:=match r with
 | .ok l st => ∀ p xs H' b',Ext H b H' b'->H p=none->H' p=some (.lst xs)->p ∉ b'.z->SR K H' ⟨b'.b,p::b'.z⟩ st->RVs K H' ⟨b'.b,p::b'.z⟩ l xs->Q (.ref p) H'
 | .ex x st=>XP K E H b x st
 | .no=>False
def rdN (K:W.Frag) (E:XK) (f:FL):TE:=fun s H Q => ∃ b r st,SR K H b st∧REnv K H b r s∧PostN K E H b (f r st) Q
abbrev VN (X:Cx) (E:XK) (e:Expr) (f:FL):Prop:=PE X e (rdN X.K E f)
def vFz (f:FL):FE:=fun r st=>(f r st).bind fun l s => .ok (.lst l) s
theorem PostN.of {K:W.Frag} {E:XK} {H:Hp} {b:Bz} {r:Rs (List PV)} {Q:VK} (P:PostE K E H b (r.bind fun l s => .ok (.lst l) s) Q):PostN K E H b r Q:=by
 cases r with
 |ok l st=>exact fun p xs H' b' e hn hp hz S r=>P _ H' b' e S.bare (by unfold RV;exact ⟨p,xs,rfl,.inl ⟨.inl hp,S.zb p List.mem_cons_self,hz⟩,RVs.sh Sh.bare l r⟩)
 |ex x st=>exact P
 |no=>exact P
theorem PostN.ext {K:W.Frag} {E:XK} {H H1:Hp} {b b1:Bz} {r:Rs (List PV)} {Q:VK} (h:PostN K E H b r Q) (e:Ext H b H1 b1):PostN K E H1 b1 r Q:=by
 cases r with
 |ok p st=>exact fun p xs H' b' e' hn=>h p xs H' b' (e.trans e') (e.none_of hn)
 |ex x st=>exact XP.ext h e
 |no=>exact h
theorem PostN.lay {K:W.Frag} {E:XK} {H:Hp} {b:Bz} {st:qC} {l:List PV} {xs:List V} {Q:VK} (P:PostN K E H b (.ok l st) Q) (S:SR K H b st) (r:RVs K H b l xs) {p:Addr} (h:H p=none):Q (.ref p) (upd H p (.lst xs)) :=
 P p xs _ b (Ext.new h) h QG (S.new_notin h).2 (SR.hide S h) (RV.hide.hds h l r)
theorem PostE.layT {K:W.Frag} {E:XK} {H:Hp} {b:Bz} {st:qC} {l:List PV} {xs:List V} {Q:VK} (P:PostE K E H b (.ok (.tup l) st) Q) (S:SR K H b st) (r:RVs K H b l xs) {p:Addr} (h:H p=none):Q (.ref p) (upd H p (.tup xs)) :=
 P _ _ b (Ext.new h) (S.new h) (by unfold RV;exact ⟨p,xs,rfl,.inl ⟨QG,S.new_notin h⟩,RVs.ext (Ext.new h) l r⟩)
theorem PostE.here {K:W.Frag} {E:XK} {H:Hp} {b:Bz} {st:qC} {p:PV} {v:V} {Q:VK} (P:PostE K E H b (.ok p st) Q) (S:SR K H b st) (r:RV K H b p v):Q v H:=P v H b (Ext.refl H b) S r
section
variable {X:Cx} {E:XK} {e a c d:Expr} {es:List Expr} {f fa fb fc:FE} {pos:Pos}
theorem Qb {f:FL} (h:VN X E e f):VE X E e (vFz f):=PE.imp h fun s H Q ⟨b,r,st,S,R,P⟩=>⟨b,r,st,S,R,PostN.of P⟩
def vC (p:PV):FE:=fun _ st => .ok p st
def qB (i:Nat):FE:=fun r st=>match r[i]? with
 |some (some p) => .ok p st
 |_ => .no
theorem JR {p:PV} {v:V} (h:PE X e (tC v)) (hv:∀ H b,RV X.K H b p v):VE X E e (vC p):=PE.imp h fun s H Q ⟨b,r,st,S,R,P⟩=>PostE.here P S (hv H b)
theorem qL {i:Int} {j pos}:VE X E (.Constant (.int i) j pos) (vC (.int i)):=JR qGe fun _ _=>by unfold RV;rfl
theorem yi {i:Bool} {j pos}:VE X E (.Constant (.bool i) j pos) (vC (.bl i)):=JR qH3 fun _ _=>by unfold RV;rfl
theorem zA {j pos}:VE X E (.Constant .none j pos) (vC .non):=JR qGC fun _ _=>by unfold RV;rfl
theorem Qu {x:Str} {j pos}:VE X E (.Constant (.str x) j pos) (vC (.str x)):=JR qGi fun _ _=>by unfold RV;rfl
theorem Za {x:Str} {i:Int} {t:Tok} {pos:Pos} (hg:Gl X x) (hm:X.mg x=some (.int i t)) (hd:(x==("__debug__":Str))=false:=by decide):VE X E (.Name x pos) (vC (.int i)) :=
 JR (qAX (v := .int i) hg hm ⟨t,rfl⟩ hd) fun _ _=>by unfold RV;rfl
theorem qHF {i:Nat} (h:PE X e (qGr i)):VE X E e (qB i):=PE.imp h fun s H Q ⟨b,r,st,S,R,P⟩=>by
 unfold qB at P
 cases q:r[i]? with
 |none=>rw [q] at P;exact False.elim P
 |some o =>
  cases o with
  |none=>rw [q] at P;exact False.elim P
  |some p =>
   rw [q] at P
   obtain ⟨v,h1,h2⟩:=R.2 i p q
   exact ⟨v,h1,PostE.here P S h2⟩
def qG (g:PV->PV->qC->Rs PV) (fa fb:FE):FE:=fun r st=>(fa r st).bind fun p s1=>(fb r s1).bind fun q s2=>g p q s2
def OpG (X:Cx) (E:XK) (t:R2) (g:PV->PV->qC->Rs PV):Prop :=
 ∀ (H:Hp) (b:Bz) (st:qC) (p q:PV) (u v:V) (Q:VK),SR X.K H b st->RV X.K H b p u->RV X.K H b q v->PostE X.K E H b (g p q st) Q->t u v H Q
theorem YT {t:R2} {g:PV->PV->qC->Rs PV} (hg:OpG X E t g):∀ s H Q,rd X.K E (qG g fa fb) s H Q->tOp t (rd X.K E fa) (rd X.K E fb) s H Q:=fun s H Q ⟨b,r,st,S,R,P⟩ =>
 ⟨b,r,st,S,R,PostE.bind P fun p s1 u H1 b1 e1 S1 r1 P1=>⟨b1,r,s1,S1,R.ext e1,PostE.bind P1 fun q s2 v H2 b2 e2 S2 r2 P2=>hg H2 b2 s2 p q u v Q S2 (RV.ext e2 p r1) r2 P2⟩⟩
theorem ZL {op:Operator} {t:R2} {g:PV->PV->qC->Rs PV} (ho:OpR X (binaryOp op) t) (hg:OpG X E t g) (ha:VE X E a fa) (hb:VE X E c fb):VE X E (.BinOp a op c pos) (qG g fa fb):=PE.imp (qC3 ho ha hb) (YT hg)
theorem qGR {op:CmpOp} {t:R2} {g:PV->PV->qC->Rs PV} (ho:OpR X (compareOp op) t) (hg:OpG X E t g) (ha:VE X E a fa) (hb:VE X E c fb) (hm:behindInMarks op c=false:=by first |exact QI _ |with_unfolding_all rfl):VE X E (.Compare a [op] [c] pos) (qG g fa fb):=PE.imp (qDh ho ha hb hm) (YT hg)
def gI (g:Int->Int->Option PV):PV->PV->qC->Rs PV:=fun p q st=>match p,q with
 | .int i,.int j=>match g i j with
  |some z => .ok z st
  |none => .no
 |_,_ => .no
theorem qCL {C:Int->Int->Prop} {h:Int->Int->V} {g:Int->Int->Option PV} (hg:∀ i j z,g i j=some z->C i j ∧ ∀ H b,RV X.K H b z (h i j)):OpG X E (rI C h) (gI g):=by
 intro H b st p q u v Q S rp rq P
 unfold gI at P
 split at P
 ·rename_i i j
  unfold RV at rp rq
  split at P
  ·rename_i z e
   obtain ⟨c,r⟩:=hg i j z e
   exact ⟨i,j,rp,rq,c,PostE.here P S (r H b)⟩
  ·exact P.elim
 ·exact P.elim
theorem Yw {h:Int->Int->V} {g:Int->Int->PV} (hg:∀ i j H b,RV X.K H b (g i j) (h i j)):OpG X E (rI0 h) (gI fun i j=>some (g i j)):=by
 intro H b st p q u v Q S rp rq P
 unfold gI at P
 split at P
 ·rename_i i j
  unfold RV at rp rq
  exact ⟨i,j,rp,rq,PostE.here P S (hg i j H b)⟩
 ·exact P.elim
theorem Qj {K:W.Frag} {H:Hp} {b:Bz} {i:Int}:RV K H b (.int i) (.int i):=by unfold RV;rfl
theorem Wa {K:W.Frag} {H:Hp} {b:Bz} {i:Bool}:RV K H b (.bl i) (.bl i):=by unfold RV;rfl
def zW:=gI fun i j=>some (.int (i - j))
def Wz:=gI fun i j=>if (-(2 ^ 64) < i∧i < 2 ^ 64)∨(-(2 ^ 64) < j∧j < 2 ^ 64) then some (.int (i * j)) else none
def qEA:=gI fun i j=>if 0 < j∧j < 1073741824 then some (.int (i / j)) else none
def WG:=gI fun i j=>if 0 < j then some (.int (i % j)) else none
def qHO:=gI fun i j=>if 0≤j∧j≤1000000∧i.natAbs < 2 ^ 64 then some (.int (i ^ j.toNat)) else none
theorem YE (ha:VE X E a fa) (hb:VE X E c fb):VE X E (.BinOp a .Sub c pos) (qG zW fa fb):=ZL qGm (Yw fun _ _ _ _=>Qj) ha hb
theorem zn (ha:VE X E a fa) (hb:VE X E c fb):VE X E (.BinOp a .Mult c pos) (qG Wz fa fb):=ZL qFR (qCL fun i j z e=>by
 split at e
 ·rename_i h;cases e;exact ⟨h,fun _ _=>Qj⟩
 ·cases e) ha hb
theorem qGf (ha:VE X E a fa) (hb:VE X E c fb):VE X E (.BinOp a .FloorDiv c pos) (qG qEA fa fb):=ZL qEd (qCL fun i j z e=>by
 split at e
 ·rename_i h;cases e;exact ⟨h,fun _ _=>Qj⟩
 ·cases e) ha hb
theorem Wt (ha:VE X E a fa) (hb:VE X E c fb):VE X E (.BinOp a .Mod c pos) (qG WG fa fb):=ZL qFV (qCL fun i j z e=>by
 split at e
 ·rename_i h;cases e;exact ⟨h,fun _ _=>Qj⟩
 ·cases e) ha hb
theorem qFc (ha:VE X E a fa) (hb:VE X E c fb):VE X E (.BinOp a .Pow c pos) (qG qHO fa fb):=ZL qFl (qCL fun i j z e=>by
 split at e
 ·rename_i h;cases e;exact ⟨h,fun _ _=>Qj⟩
 ·cases e) ha hb
def qz:=gI fun i j=>some (.int (i + j))
theorem Qc (ha:VE X E a fa) (hb:VE X E c fb):VE X E (.BinOp a .Add c pos) (qG qz fa fb):=ZL qGt (Yw fun _ _ _ _=>Qj) ha hb
def qF0:PV->PV->qC->Rs PV:=fun p q st=>match p,q with
 | .str x,.str y=>if x.length + y.length≤sizeLine then .ok (.str (x++y)) st else .no
 |_,_ => .no
theorem qEB (ha:VE X E a fa) (hb:VE X E c fb):VE X E (.BinOp a .Add c pos) (qG qF0 fa fb):=ZL JD (fun H b st p q u v Q S rp rq P=>by
 unfold qF0 at P
 split at P
 ·rename_i x y
  unfold RV at rp rq
  split at P
  ·rename_i h;exact ⟨x,y,rp,rq,h,PostE.here P S (by unfold RV;rfl)⟩
  ·exact P.elim
 ·exact P.elim) ha hb
def gLt:=gI fun i j=>some (.bl (decide (i < j)))
def gLe:=gI fun i j=>some (.bl (decide (i≤j)))
def gGt:=gI fun i j=>some (.bl (decide (j < i)))
theorem qE6:OpG X E (rI0 fun i j => .bl (decide (i < j))) gLt:=Yw fun _ _ _ _=>Wa
theorem qCc:OpG X E (rI0 fun i j => .bl (decide (i≤j))) gLe:=Yw fun _ _ _ _=>Wa
theorem qHw:OpG X E (rI0 fun i j => .bl (decide (j < i))) gGt:=Yw fun _ _ _ _=>Wa
def qDA (g g':PV->PV->qC->Rs PV) (fa fb fc:FE):FE:=fun r st=>(fa r st).bind fun p s1=>(fb r s1).bind fun q s2=>(g p q s2).bind fun z s3=>match z with
 | .bl true=>(fc r s3).bind fun w s4=>g' q w s4
 | .bl false => .ok (.bl false) s3
 |_ => .no
theorem qDU {op op':CmpOp} {t t':R2} {g g':PV->PV->qC->Rs PV} (ho:OpR X (compareOp op) t) (ho':OpR X (compareOp op') t') (hg:OpG X E t g) (hg':OpG X E t' g') (ha:VE X E a fa) (hb:VE X E c fb) (hc:VE X E d fc)
  (hm:lastMarks [op,op'] [c,d]=false:=by with_unfolding_all rfl):VE X E (.Compare a [op,op'] [c,d] pos) (qDA g g' fa fb fc):=by
 refine PE.imp (qDR ho ho' ha hb hc hm) fun s H Q ⟨b,r,st,S,R,P⟩ => ?_
 refine ⟨b,r,st,S,R,PostE.bind P fun p s1 u H1 b1 e1 S1 r1 P1=>⟨b1,r,s1,S1,R.ext e1,PostE.bind P1 fun q s2 v H2 b2 e2 S2 r2 P2 => ?_⟩⟩
 refine hg H2 b2 s2 p q u v _ S2 (RV.ext e2 p r1) r2 (PostE.bind P2 fun z s3 zv H3 b3 e3 S3 r3 P3 => ?_)
 split at P3
 ·unfold RV at r3
  refine ⟨true,r3,qBM ⟨b3,r,s3,S3,((R.ext e1).ext e2).ext e3,PostE.bind P3 fun w s4 wv H4 b4 e4 S4 r4 P4 => ?_⟩⟩
  exact hg' H4 b4 s4 q w v wv Q S4 (RV.ext e4 q (RV.ext e3 q r2)) r4 P4
 ·unfold RV at r3
  exact ⟨false,r3,qAz (PostE.here P3 S3 Wa)⟩
 ·exact P3.elim
def qBk (st:qC):PV->Option Bool
 | .non=>some false
 | .bl x=>some x
 | .int i=>some (i != 0)
 | .tup l=>some (!l.isEmpty)
 | .lst l=>some (!l.isEmpty)
 | .ref i=>(asL st (.ref i)).map fun l => !l.isEmpty
 |_=>none
theorem qC7 {K:W.Frag} {H:Hp} {b:Bz} {st:qC} {p:PV} {v:V} {k:Bool} (S:SR K H b st) (r:RV K H b p v) (h:qBk st p=some k):qEp K v H k:=by
 have emp:∀ {l:List PV} {xs:List V},RVs K H b l xs->(!l.isEmpty) = !xs.isEmpty:=fun {l xs} q=>by
  have:=q.length
  cases l <;> cases xs <;> first |rfl |(simp at this)
 cases p with
 |non=>unfold RV at r;subst r;exact (Option.some.inj h).symm
 |bl x=>unfold RV at r;subst r;exact (Option.some.inj h).symm
 |int x=>unfold RV at r;subst r;exact (Option.some.inj h).symm
 |tup l =>
  unfold RV at r
  obtain ⟨a,xs,rfl,h2,h3⟩:=r
  exact .inr (.inl ⟨xs,h2.sq,by rw [← emp h3];exact (Option.some.inj h).symm⟩)
 |lst l =>
  obtain ⟨a,xs,rfl,h2,h3⟩:=wA S r rfl
  exact .inl ⟨xs,h2,by rw [← emp h3];exact (Option.some.inj h).symm⟩
 |ref i =>
  unfold qBk at h
  dsimp only at h
  cases q:asL st (.ref i) with
  |none=>rw [q] at h;cases h
  |some l =>
   rw [q] at h
   obtain ⟨a,xs,rfl,h2,h3⟩:=wA S r q
   exact .inl ⟨xs,h2,by rw [← emp h3];exact (Option.some.inj h).symm⟩
 |_=>cases h
def wW (f:FE):FT:=fun r st=>(f r st).bind fun p s=>match qBk s p with
 |some k => .ok k s
 |none => .no
theorem qBq {R:Bool->Hp->Prop} {s:L2.St} {H:Hp} (h:rdT X.K E (wW f) s H R):rd X.K E f s H fun x H' => ∃ k,qEp X.K x H' k∧R k H':=by
 obtain ⟨b,r,st,S,RE,P⟩:=h
 refine ⟨b,r,st,S,RE,PostE.bindT P fun p s1 u H1 b1 e1 S1 r1 P1 => ?_⟩
 split at P1
 ·rename_i k e;exact ⟨k,qC7 S1 r1 e,P1 H1 b1 (Ext.refl _ _) S1⟩
 ·exact P1.elim
theorem Z0 (h:VE X E e f) (he:∀ whole,isTrue e X.env whole=(do let v ← whole;standAt e.pos;holding [v] (truthy v)):=by intro _;rfl):VT X E e (wW f):=PT.imp (qBc h he) fun s H Q q=>qBq q
def vTB (f:FE):FT:=fun r st=>(f r st).bind fun p s=>match p with
 | .bl k => .ok k s
 |_ => .no
theorem qG2 {R:Bool->Hp->Prop} {s:L2.St} {H:Hp} (h:rdT X.K E (vTB f) s H R):rd X.K E f s H fun x H' => ∃ k,x = .bl k∧R k H':=by
 obtain ⟨b,r,st,S,RE,P⟩:=h
 refine ⟨b,r,st,S,RE,PostE.bindT P fun p s1 u H1 b1 e1 S1 r1 P1 => ?_⟩
 split at P1
 ·rename_i k;unfold RV at r1;exact ⟨k,r1,P1 H1 b1 (Ext.refl _ _) S1⟩
 ·exact P1.elim
theorem QO {op:CmpOp} {t:R2} {g:PV->PV->qC->Rs PV} (ho:OpR X (compareOp op) t) (hg:OpG X E t g) (ha:VE X E a fa) (hb:VE X E c fb) (hm:behindInMarks op c=false:=by first |exact QI _ |with_unfolding_all rfl):VT X E (.Compare a [op] [c] pos) (vTB (qG g fa fb)) :=
 PT.imp (qD2 ho ha hb hm) fun s H Q q=>YT hg s H _ (qG2 q)
def Wv (f:FT):FT:=fun r st=>(f r st).bind fun k s => .ok (!k) s
theorem YM {f:FT} (h:VT X E a f):VT X E (.UnaryOp .Not a pos) (Wv f):=PT.imp (qFe h) fun s H Q ⟨b,r,st,S,R,P⟩=>⟨b,r,st,S,R,PostT.bindT P fun k s1 H1 b1 e1 S1 P1=>P1 H1 b1 (Ext.refl _ _) S1⟩
abbrev VW (X:Cx) (E:XK) (e:Expr) (f:FT):Prop:=PW X e (rdT X.K E f)
theorem PW.imp {X:Cx} {e:Expr} {t t':TT} (h:PW X e t) (i:∀ s H Q,t' s H Q->t s H Q):PW X e t':=fun w pins s σ H Q I q=>h w pins s σ H Q I (i _ _ _ q)
def Ws (f g:FT):FT:=fun r st=>(f r st).bind fun k s=>if k=true then g r s else .ok false s
def ZA (f g:FT):FT:=fun r st=>(f r st).bind fun k s=>if k=true then .ok true s else g r s
theorem qAb {f:FT} (h:VT X E a f):VW X E (.BoolOp .And [a] pos) f:=qDd h
theorem YD {f:FT} (h:VT X E a f):VW X E (.BoolOp .Or [a] pos) f:=qGP h
theorem qC8 {f g:FT} {rest:List Expr} (h:VT X E a f) (h2:VW X E (.BoolOp .And (c::rest) pos) g):VW X E (.BoolOp .And (a::c::rest) pos) (Ws f g):=PW.imp (qGo h h2) fun s H Q ⟨b,r,st,S,R,P⟩ =>
 ⟨b,r,st,S,R,PostT.bindT P fun k s1 H1 b1 e1 S1 P1=>by
  cases k with
  |true=>exact qBM ⟨b1,r,s1,S1,R.ext e1,P1⟩
  |false=>exact qAz (P1 H1 b1 (Ext.refl _ _) S1)⟩
theorem qAg {f g:FT} {rest:List Expr} (h:VT X E a f) (h2:VW X E (.BoolOp .Or (c::rest) pos) g):VW X E (.BoolOp .Or (a::c::rest) pos) (ZA f g):=PW.imp (qHx h h2) fun s H Q ⟨b,r,st,S,R,P⟩ =>
 ⟨b,r,st,S,R,PostT.bindT P fun k s1 H1 b1 e1 S1 P1=>by
  cases k with
  |true=>exact qBM (P1 H1 b1 (Ext.refl _ _) S1)
  |false=>exact qAz ⟨b1,r,s1,S1,R.ext e1,P1⟩⟩
theorem qBH {f:FT} (h:VW X E e f):VT X E e f:=h.pt
def qHJ (f:FE):FE:=fun r st=>(f r st).bind fun p s=>match p with
 | .bl k => .ok (.bl (!k)) s
 |_ => .no
theorem qGA (h:VE X E a fa):VE X E (.UnaryOp .Not a pos) (qHJ fa):=PE.imp (qFI h) fun s H Q ⟨b,r,st,S,R,P⟩ =>
 ⟨b,r,st,S,R,PostE.bind P fun p s1 u H1 b1 e1 S1 r1 P1=>by
  split at P1
  ·rename_i k;unfold RV at r1;exact ⟨k,r1,PostE.here P1 S1 Wa⟩
  ·exact P1.elim⟩
def Ym (f g:FE):FE:=fun r st=>(f r st).bind fun p s=>match p with
 | .bl true=>g r s
 | .bl false => .ok (.bl false) s
 |_ => .no
theorem Ye {op} (h:VE X E a fa):VE X E (.BoolOp op [a] pos) fa:=qFN h
theorem Yq {rest:List Expr} (h:VE X E a fa) (h2:VE X E (.BoolOp .And (c::rest) pos) fb):VE X E (.BoolOp .And (a::c::rest) pos) (Ym fa fb):=PE.imp (qFm h h2) fun s H Q ⟨b,r,st,S,R,P⟩ =>
 ⟨b,r,st,S,R,PostE.bind P fun p s1 u H1 b1 e1 S1 r1 P1=>by
  split at P1
  ·unfold RV at r1;exact ⟨true,r1,qBM ⟨b1,r,s1,S1,R.ext e1,P1⟩⟩
  ·unfold RV at r1;exact ⟨false,r1,qAz (PostE.here P1 S1 Wa)⟩
  ·exact P1.elim⟩
def vIf (t:FT) (f g:FE):FE:=fun r st=>(t r st).bind fun k s=>if k=true then f r s else g r s
theorem qHW {t:FT} (hc:VT X E e t) (ha:VE X E a fa) (hb:VE X E c fb):VE X E (.IfExp e a c pos) (vIf t fa fb):=PE.imp (qDM hc ha hb) fun s H Q ⟨b,r,st,S,R,P⟩ =>
 ⟨b,r,st,S,R,PostT.bind P fun k s1 H1 b1 e1 S1 P1=>by
  cases k with
  |true=>exact qBM ⟨b1,r,s1,S1,R.ext e1,P1⟩
  |false=>exact qAz ⟨b1,r,s1,S1,R.ext e1,P1⟩⟩
def qD:FA:=fun _ st => .ok [] st
def qA (f:FE) (g:FA):FA:=fun r st=>(f r st).bind fun p s=>(g r s).bind fun ps s' => .ok (p::ps) s'
theorem qF:VA X E [] qD:=PA.imp YS fun s H Q ⟨b,r,st,S,R,P⟩=>P [] H b (Ext.refl _ _) S RVs.nil
theorem Ql {f:FE} {g:FA} (h:VE X E e f) (h2:VA X E es g) (hs:starEach (e::es) X.env=(false,eval e X.env)::starEach es X.env:=by rfl):VA X E (e::es) (qA f g):=PA.imp (ZX h h2 hs) fun s H Q ⟨b,r,st,S,R,P⟩ =>
 ⟨b,r,st,S,R,PostE.bindA P fun p s1 u H1 b1 e1 S1 r1 P1=>⟨b1,r,s1,S1,R.ext e1,PostA.bindA P1 fun ps s2 us H2 b2 e2 S2 r2 P2=>P2 (u::us) H2 b2 (Ext.refl _ _) S2 (RVs.cons (RV.ext e2 p r1) r2)⟩⟩
def WC (g:FA):FE:=fun r st=>(g r st).bind fun ps s=>if ps.length≤sizeLine then .ok (.tup ps) s else .no
theorem WD {g:FA} {x1} (h:VA X E es g):VE X E (.Tuple es x1 pos) (WC g):=PE.imp (qFh h) fun s H Q ⟨b,r,st,S,R,P⟩ =>
 ⟨b,r,st,S,R,PostA.bind P fun ps s1 us H1 b1 e1 S1 r1 P1=>by
  split at P1
  ·rename_i hl;exact ⟨by rw [← r1.length];exact hl,fun p hp=>PostE.layT P1 S1 r1 hp⟩
  ·exact P1.elim⟩
def Qn (g:FA):FL:=fun r st=>(g r st).bind fun ps s=>if ps.length≤sizeLine then .ok ps s else .no
theorem PostA.bindN {K:W.Frag} {E:XK} {H:Hp} {b:Bz} {r:Rs (List PV)} {k:List PV->qC->Rs (List PV)} {Q:VK} {R:List V->Hp->Prop} (P:PostN K E H b (r.bind k) Q)
  (h:∀ p st v H1 b1,Ext H b H1 b1->SR K H1 b1 st->RVs K H1 b1 p v->PostN K E H1 b1 (k p st) Q->R v H1):PostA K E H b r R:=by
 cases r with
 |ok p st=>exact fun v H1 b1 e S r=>h p st v H1 b1 e S r (PostN.ext (show PostN K E H b (k p st) Q from P) e)
 |ex x st=>exact P
 |no=>exact P
theorem PostE.bindN {K:W.Frag} {E:XK} {H:Hp} {b:Bz} {r:Rs PV} {k:PV->qC->Rs (List PV)} {Q:VK} {R:VK} (P:PostN K E H b (r.bind k) Q)
  (h:∀ p st v H1 b1,Ext H b H1 b1->SR K H1 b1 st->RV K H1 b1 p v->PostN K E H1 b1 (k p st) Q->R v H1):PostE K E H b r R:=by
 cases r with
 |ok p st=>exact fun v H1 b1 e S r=>h p st v H1 b1 e S r (PostN.ext (show PostN K E H b (k p st) Q from P) e)
 |ex x st=>exact P
 |no=>exact P
theorem Qm {g:FA} (h:VA X E es g):VN X E (.List es pos) (Qn g):=PE.imp (qFr h) fun s H Q ⟨b,r,st,S,R,P⟩ =>
 ⟨b,r,st,S,R,PostA.bindN P fun ps s1 us H1 b1 e1 S1 r1 P1=>by
  split at P1
  ·rename_i hl;exact ⟨by rw [← r1.length];exact hl,fun p hp=>PostN.lay P1 S1 r1 hp⟩
  ·exact P1.elim⟩
theorem qDe {K:W.Frag} {H:Hp} {b:Bz} {l:List PV} {xs:List V} {i:Int} {p:PV} (r:RVs K H b l xs) (h:atI l i=some p):∃ x,atI xs i=some x∧RV K H b p x:=by
 unfold atI at h ⊢
 rw [← r.length]
 cases q:ixN l.length i with
 |none=>rw [q] at h;cases h
 |some j=>rw [q] at h;exact r.get h
def gIx:PV->PV->qC->Rs PV:=fun p q st=>match q with
 | .int i=>match wY st p with
  |some l=>match atI l i with
   |some z => .ok z st
   |none => .no
  |none => .no
 |_ => .no
theorem qv (ha:VE X E a fa) (hb:VE X E c fb) (hs:qAl c:=by exact fun _ _=>rfl):VE X E (.Subscript a c pos) (qG gIx fa fb):=PE.imp (qHL qGV ha hb hs) (YT fun H b st p q u v Q S rp rq P=>by
 unfold gIx at P
 split at P
 ·rename_i i
  unfold RV at rq
  split at P
  ·rename_i l e
   split at P
   ·rename_i z ez
    obtain ⟨x1,xs,h1,h2,h3⟩:=ZU S rp e
    obtain ⟨x,h4,h5⟩:=qDe h3 ez
    rcases h2 with h2 |h2
    ·exact .inl ⟨x1,xs,i,x,h1,rq,h2,h4,PostE.here P S h5⟩
    ·exact .inr (.inl ⟨x1,xs,i,x,h1,rq,h2,h4,PostE.here P S h5⟩)
   ·exact P.elim
  ·exact P.elim
 ·exact P.elim)
def qI (g:List PV->qC->Rs PV) (t:FA):FE:=fun r st=>(t r st).bind fun ps s=>g ps s
def spG (K:W.Frag) (n:Nat) (g:List PV->qC->Rs PV):Sp:=fun vs H Q E=>vs.length=n ∧ ∃ b ps st,SR K H b st∧RVs K H b ps vs∧PostE K E H b (g ps st) Q
def qFP (X:Cx) (E:XK) (x:Str) (g:List PV->qC->Rs PV):Prop := ∀ (p pos:Pos) (e:Expr) (es:List Expr) (t:FA),VA X E (e::es) t->starEach (e::es) X.env=(false,eval e X.env)::starEach es X.env->(backTo pos (starEach es X.env)).any (·.1)=false->VE X E (.Call (.Name x p) (e::es) [] pos) (qI g t)
theorem qU {x:Str} {g:List PV->qC->Rs PV} {t:FA} {p:Pos} (hc:qFP X E x g) (ha:VA X E (e::es) t) (he:starEach (e::es) X.env=(false,eval e X.env)::starEach es X.env:=by rfl) (hpl:(backTo pos (starEach es X.env)).any (·.1)=false:=by rfl):VE X E (.Call (.Name x p) (e::es) [] pos) (qI g t):=hc p pos e es t ha he hpl
theorem qIX {CX:CXT} {k n:Nat} {fa:Addr} {fd:FuncData} {ps:List Str} {x:Str} {g:List PV->qC->Rs PV} (F:FnOk X.prog X.w X.K X.mg X.base CX k fa fd ps (spG X.K ps.length g)) (hr:Room k X.A) (hg:Gl X x) (hm:X.mg x=some (.ref fa)) (hk:PySem.W.keepIn X.K (.ref fa)=true)
  (hb:Binds X.K fd ps []) (hx:WT CX X E) (hlen:∀ l st,g l st ≠ .no->l.length=ps.length) (hdb:(x==("__debug__":Str))=false:=by decide):qFP X E x g:=fun p pos e es t ha he hpl =>
 PE.imp (qED F hr hg hm hk hb .nil hx ha hdb he hpl) fun s H Q ⟨b,r,st,S,R,P⟩=>⟨b,r,st,S,R,PostA.bind P fun l s1 us H1 b1 e1 S1 r1 P1=>by
  have hne:g l s1 ≠ .no:=fun z=>by rw [z] at P1;exact P1
  rw [List.append_nil]
  exact ⟨by rw [← r1.length];exact hlen l s1 hne,b1,l,s1,S1,r1,P1⟩⟩
def zk (X:Cx) (E:XK) (t:List V->Hp->VK->Prop) (g:List PV->qC->Rs PV):Prop :=
 ∀ (H:Hp) (b:Bz) (st:qC) (ps:List PV) (vs:List V) (Q:VK),SR X.K H b st->RVs X.K H b ps vs->PostE X.K E H b (g ps st) Q->t vs H Q
theorem WW {x:Str} {id:String} {t:List V->Hp->VK->Prop} {g:List PV->qC->Rs PV} {ta:FA} {p:Pos} (hc:Wq X (.builtin id) t) (hG:zk X E t g) (hg:Gl X x) (hm:X.mg x=none) (hv:bootBuiltins x=some (.builtin id)) (ha:VA X E (e::es) ta) (hn:x ≠ "__name__" := by decide) (hdb:(x==("__debug__":Str))=false:=by decide)
  (he:starEach (e::es) X.env=(false,eval e X.env)::starEach es X.env:=by rfl) (hpl:(backTo pos (starEach es X.env)).any (·.1)=false:=by rfl):VE X E (.Call (.Name x p) (e::es) [] pos) (qI g ta) :=
 PE.imp (qDG hc hg hm hv ha hn hdb he hpl) fun s H Q ⟨b,r,st,S,R,P⟩=>⟨b,r,st,S,R,PostA.bind P fun l s1 us H1 b1 e1 S1 r1 P1=>hG H1 b1 s1 l us Q S1 r1 P1⟩
theorem yj {x:Str} {T:String} {t:List V->Hp->VK->Prop} {g:List PV->qC->Rs PV} {ta:FA} {p:Pos} (hc:Wq X (.type T) t) (hG:zk X E t g) (hg:Gl X x) (hm:X.mg x=none) (hv:bootBuiltins x=some (.type T)) (ha:VA X E (e::es) ta) (hn:x ≠ "__name__" := by decide) (hdb:(x==("__debug__":Str))=false:=by decide)
  (he:starEach (e::es) X.env=(false,eval e X.env)::starEach es X.env:=by rfl) (hpl:(backTo pos (starEach es X.env)).any (·.1)=false:=by rfl):VE X E (.Call (.Name x p) (e::es) [] pos) (qI g ta) :=
 PE.imp (qBR hc hg hm hv ha hn hdb he hpl) fun s H Q ⟨b,r,st,S,R,P⟩=>⟨b,r,st,S,R,PostA.bind P fun l s1 us H1 b1 e1 S1 r1 P1=>hG H1 b1 s1 l us Q S1 r1 P1⟩
theorem RVs.one {K:W.Frag} {H:Hp} {b:Bz} {p:PV} {vs:List V} (h:RVs K H b [p] vs):∃ v,vs=[v]∧RV K H b p v:=by
 unfold RVs at h
 obtain ⟨x,r,rfl,h2,h3⟩:=h
 unfold RVs at h3;subst h3
 exact ⟨x,rfl,h2⟩
theorem RVs.two {K:W.Frag} {H:Hp} {b:Bz} {p q:PV} {vs:List V} (h:RVs K H b [p,q] vs):∃ v w,vs=[v,w]∧RV K H b p v∧RV K H b q w:=by
 unfold RVs at h
 obtain ⟨x,r,rfl,h2,h3⟩:=h
 obtain ⟨y,rfl,h4⟩:=RVs.one h3
 exact ⟨x,y,rfl,h2,h4⟩
def WJ:List PV->qC->Rs PV:=fun ps st=>match ps with
 |[p]=>match wY st p with
  |some l => .ok (.int l.length) st
  |none => .no
 |_ => .no
theorem qF5:zk X E (fun xs H Q => ∃ p ys,xs=[.ref p]∧(SqL X.K H p ys∨SqT X.K H p ys)∧Q (.int ys.length) H) WJ:=by
 intro H b st ps vs Q S r P
 unfold WJ at P
 split at P
 ·rename_i p
  obtain ⟨v,rfl,r1⟩:=RVs.one r
  split at P
  ·rename_i l e
   obtain ⟨a,xs,rfl,h2,h3⟩:=ZU S r1 e
   refine ⟨a,xs,rfl,h2,?_⟩
   rw [← h3.length]
   exact PostE.here P S Qj
  ·exact P.elim
 ·exact P.elim
def zO:List PV->qC->Rs PV:=fun ps st=>match ps with
 |[p]=>match wY st p with
  |some l => .ok (.tup l) st
  |none => .no
 |_ => .no
theorem qBm:zk X E (fun xs H Q => ∃ p ys,xs=[.ref p]∧((SqL X.K H p ys ∧ ∀ l,H l=none->Q (.ref l) (upd H l (.tup ys)))∨(SqT X.K H p ys∧Q (.ref p) H))) zO:=by
 intro H b st ps vs Q S r P
 unfold zO at P
 split at P
 ·rename_i p
  obtain ⟨v,rfl,r1⟩:=RVs.one r
  split at P
  ·rename_i l e
   cases p with
   |tup m =>
    have e':m=l:=Option.some.inj e
    subst e'
    have r0:=r1
    unfold RV at r1
    obtain ⟨a,xs,rfl,h2,h3⟩:=r1
    exact ⟨a,xs,rfl,.inr ⟨h2.sq,PostE.here P S r0⟩⟩
   |lst m =>
    obtain ⟨a,xs,rfl,h2,h3⟩:=wA S r1 e
    exact ⟨a,xs,rfl,.inl ⟨h2,fun p hp=>PostE.layT P S h3 hp⟩⟩
   |ref i =>
    obtain ⟨a,xs,rfl,h2,h3⟩:=wA S r1 e
    exact ⟨a,xs,rfl,.inl ⟨h2,fun p hp=>PostE.layT P S h3 hp⟩⟩
   |_=>cases e
  ·exact P.elim
 ·exact P.elim
def qCF:List PV->qC->Rs PV:=fun ps st=>match ps with
 |[.int i] => .ok (.int i) st
 |[.bl k] => .ok (.int (if k then 1 else 0)) st
 |_ => .no
theorem qGO:zk X E (fun xs H Q=>(∃ i,xs=[.int i]∧Q (.int i) H) ∨ ∃ k,xs=[.bl k]∧Q (.int (if k then 1 else 0)) H) qCF:=by
 intro H b st ps vs Q S r P
 unfold qCF at P
 split at P
 ·obtain ⟨v,rfl,r1⟩:=RVs.one r
  unfold RV at r1;subst r1
  exact .inl ⟨_,rfl,PostE.here P S Qj⟩
 ·obtain ⟨v,rfl,r1⟩:=RVs.one r
  unfold RV at r1;subst r1
  exact .inr ⟨_,rfl,PostE.here P S Qj⟩
 ·exact P.elim
def qCn:List PV->qC->Rs PV:=fun ps st=>match ps with
 |[.int i,.int j] => .ok (.int (if j > i then j else i)) st
 |_ => .no
def qCx:List PV->qC->Rs PV:=fun ps st=>match ps with
 |[.int i,.int j] => .ok (.int (if j < i then j else i)) st
 |_ => .no
theorem qFj:zk X E (fun xs H Q => ∃ i j,xs=[.int i,.int j]∧Q (.int (if j > i then j else i)) H) qCn:=by
 intro H b st ps vs Q S r P
 unfold qCn at P
 split at P
 ·obtain ⟨v,w,rfl,r1,r2⟩:=RVs.two r
  unfold RV at r1 r2;subst r1;subst r2
  exact ⟨_,_,rfl,PostE.here P S Qj⟩
 ·exact P.elim
theorem qF7:zk X E (fun xs H Q => ∃ i j,xs=[.int i,.int j]∧Q (.int (if j < i then j else i)) H) qCx:=by
 intro H b st ps vs Q S r P
 unfold qCx at P
 split at P
 ·obtain ⟨v,w,rfl,r1,r2⟩:=RVs.two r
  unfold RV at r1 r2;subst r1;subst r2
  exact ⟨_,_,rfl,PostE.here P S Qj⟩
 ·exact P.elim
end
def Qg:FS:=fun r st => .nx r st
def qP (F G:FS):FS:=fun r st=>match F r st with
 | .nx r' st'=>G r' st'
 |o=>o
section
variable {X:Cx} {E:XK} {e a c d:Expr} {es:List Expr} {f fa fb fc:FE} {pos:Pos} {F G:FS} {s1:Stmt} {ss:List Stmt}
theorem QQ:VSs X E [] Qg:=PSs.imp qET fun D s H ⟨b,r,st,S,R,P⟩=>P s H b (Ext.refl _ _) S R
theorem PostS.seq {K:W.Frag} {E:XK} {H:Hp} {b:Bz} {o:RS} {G:FS} {D:Ends} (P:PostS K E H b (match o with | .nx r' st'=>G r' st' |o=>o) D):PostS K E H b o { D with nx:=rdS K E G D }:=by
 cases o with
 |nx r st=>exact fun s H' b' e S R=>⟨b',r,st,S,R,PostS.ext (show PostS K E H b (G r st) D from P) e⟩
 |rt p st=>exact P
 |bk p st=>exact P
 |ct p st=>exact P
 |ex x st=>exact P
 |no=>exact P
theorem qK (h1:VS X E s1 F) (h2:VSs X E ss G):VSs X E (s1::ss) (qP F G):=PSs.imp (qCA h1 h2) fun D s H ⟨b,r,st,S,R,P⟩=>⟨b,r,st,S,R,PostS.seq P⟩
theorem qS (h1:VS X E s1 F):VSs X E [s1] F:=qDW h1
def Wh (f:FE):FS:=fun r st=>(f r st).bindS fun _ s => .nx r s
theorem qAf (h:VE X E e f) (hs:swapsWith e none pos.line X.env=pure false:=by rfl):VS X E (.Expr e pos) (Wh f):=PS.imp (qAi h hs) fun D s H ⟨b,r,st,S,R,P⟩ =>
 ⟨b,r,st,S,R,PostE.bindS P fun p s1 u H1 b1 e1 S1 r1 P1=>P1 s H1 b1 (Ext.refl _ _) S1 (R.ext e1)⟩
def qq (f:FE):FS:=fun r st=>(f r st).bindS fun p s => .rt p s
theorem qo (h:VE X E e f):VS X E (.Return (some e) pos) (qq f):=PS.imp (qCj h) fun D s H ⟨b,r,st,S,R,P⟩ =>
 ⟨b,r,st,S,R,PostE.bindS P fun p s1 u H1 b1 e1 S1 r1 P1=>P1 u H1 b1 (Ext.refl _ _) S1 r1⟩
def Zm (f:FL):FS:=fun r st=>(f r st).bindS fun l s => .rt (.ref s.length) (s++[.l l])
def Qz (t:FT) (F G:FS):FS:=fun r st=>(t r st).bindS fun k s=>if k=true then F r s else G r s
theorem wj {t:FT} {bs cs:List Stmt} (hc:VT X E e t) (ha:VSs X E bs F) (hb:VSs X E cs G):VS X E (.If e bs cs pos) (Qz t F G):=PS.imp (qHb hc ha hb) fun D s H ⟨b,r,st,S,R,P⟩ =>
 ⟨b,r,st,S,R,PostT.bindS P fun k s1 H1 b1 e1 S1 P1=>by
  cases k with
  |true=>exact qBM ⟨b1,r,s1,S1,R.ext e1,P1⟩
  |false=>exact qAz ⟨b1,r,s1,S1,R.ext e1,P1⟩⟩
def qX (i:Nat) (f:FE):FS:=fun r st=>(f r st).bindS fun p s => .nx (r.set i (some p)) s
theorem qm (i:Nat) {x:Str} {p':Pos} (hN:X.N.Nodup) (h:VE X E e f) (hi:X.N[i]? = some x:=by rfl) (hx:Loc X.env.scope x:=by first |exact Or.inl rfl |exact Or.inr rfl) (hs:swapsWith e (some (.Name x p')) pos.line X.env=pure false:=by rfl) (hf:X.fn x=true∨X.env.scope.names.lookup x=some .local:=by first |exact .inl rfl |exact .inr rfl |assumption) :
  VS X E (.Assign [.Name x p'] e pos) (qX i f):=PS.imp (qCC hN hi hx h hs hf) fun D s H ⟨b,r,st,S,R,P⟩ =>
 ⟨b,r,st,S,R,PostE.bindS P fun p s1 u H1 b1 e1 S1 r1 P1=>P1 _ H1 b1 (Ext.refl _ _) S1 ((R.ext e1).set r1 i)⟩
def wa (i:Nat) (f:FL):FS:=fun r st=>(f r st).bindS fun l s => .nx (r.set i (some (.ref s.length))) (s++[.l l])
theorem Ext.adopt {H H':Hp} {b b':Bz} {p:Addr} (e:Ext H b H' b') (hn:H p=none):Ext H b H' ⟨b'.b++[p],b'.z⟩:=by
 obtain ⟨n,hb,hh⟩:=e.more
 refine ⟨⟨⟨n++[p],by rw [hb,List.append_assoc],fun a ha => ?_⟩,e.zm,e.keep,e.dom⟩,e.same,e.hid,e.fz⟩
 rcases List.mem_append.mp ha with ha |ha
 ·exact hh a ha
 ·rw [List.mem_singleton.mp ha];exact hn
theorem PostN.bindS {K:W.Frag} {E:XK} {H:Hp} {b:Bz} {r:Rs (List PV)} {k:PV->qC->RS} {D:Ends} {R:VK} (P:PostS K E H b (r.bindS fun l s=>k (.ref s.length) (s++[.l l])) D)
  (h:∀ q st v H1 b1,Ext H b H1 b1->SR K H1 b1 st->RV K H1 b1 q v->PostS K E H1 b1 (k q st) D->R v H1):PostN K E H b r R:=by
 cases r with
 |ok l st =>
  intro p xs H' b' e hn hp hz S rs
  have e':=e.adopt hn
  have hl:b'.b.length=st.length:=S.len
  refine h (.ref st.length) (st++[.l l]) (.ref p) H' ⟨b'.b++[p],b'.z⟩ e' (S.slot (x := .l l) hz hp ⟨xs,rfl,rs⟩) ?_ (PostS.ext (show PostS K E H b (k (.ref st.length) (st++[.l l])) D from P) e')
  unfold RV
  exact ⟨p,rfl,by show (b'.b++[p])[st.length]? = some p;rw [← hl];simp⟩
 |ex x st=>exact P
 |no=>exact P
theorem ZT (i:Nat) {f:FL} {x:Str} {p':Pos} (hN:X.N.Nodup) (h:VN X E e f) (hi:X.N[i]? = some x:=by rfl) (hx:Loc X.env.scope x:=by first |exact Or.inl rfl |exact Or.inr rfl) (hs:swapsWith e (some (.Name x p')) pos.line X.env=pure false:=by rfl) (hf:X.fn x=true∨X.env.scope.names.lookup x=some .local:=by first |exact .inl rfl |exact .inr rfl |assumption) :
  VS X E (.Assign [.Name x p'] e pos) (wa i f):=PS.imp (qCC hN hi hx h hs hf) fun D s H ⟨b,r,st,S,R,P⟩ =>
 ⟨b,r,st,S,R,PostN.bindS (k:=fun q s => .nx (r.set i (some q)) s) P fun p s1 u H1 b1 e1 S1 r1 P1=>P1 _ H1 b1 (Ext.refl _ _) S1 ((R.ext e1).set r1 i)⟩
theorem Jv {f:FL} (h:VN X E e f):VS X E (.Return (some e) pos) (Zm f):=PS.imp (qCj h) fun D s H ⟨b,r,st,S,R,P⟩ =>
 ⟨b,r,st,S,R,PostN.bindS (k:=fun q s => .rt q s) P fun p s1 u H1 b1 e1 S1 r1 P1=>P1 u H1 b1 (Ext.refl _ _) S1 r1⟩
abbrev FG:=PV->qu->Option qu
abbrev FGs:=List PV->qu->Option qu
def rdG (K:W.Frag) (g:FG):TG:=fun v s H Q => ∃ b r p st,SR K H b st∧REnv K H b r s∧RV K H b p v ∧ ∃ r',g p r=some r' ∧ ∀ s',REnv K H b r' s'->Q s' H
def qIQ (K:W.Frag) (g:FGs):TGs:=fun v s H Q => ∃ b r p st,SR K H b st∧REnv K H b r s∧RVs K H b p v ∧ ∃ r',g p r=some r' ∧ ∀ s',REnv K H b r' s'->Q s' H
abbrev VG (X:Cx) (e:Expr) (g:FG):Prop:=PG X e (rdG X.K g)
abbrev VGs (X:Cx) (e:List Expr) (g:FGs):Prop:=PGs X e (qIQ X.K g)
theorem PG.imp {X:Cx} {e:Expr} {t t':TG} (h:PG X e t) (i:∀ v s H Q,t' v s H Q->t v s H Q):PG X e t':=fun pins s σ H v u Q I r q=>h pins s σ H v u Q I r (i _ _ _ _ q)
theorem PGs.imp {X:Cx} {e:List Expr} {t t':TGs} (h:PGs X e t) (i:∀ v s H Q,t' v s H Q->t v s H Q):PGs X e t':=fun pins s σ H v u Q I r q=>h pins s σ H v u Q I r (i _ _ _ _ q)
def QD (i:Nat):FG:=fun p r=>some (r.set i (some p))
theorem QT (i:Nat) {x:Str} (hN:X.N.Nodup) (hi:X.N[i]? = some x:=by rfl) (hx:Loc X.env.scope x:=by first |exact Or.inl rfl |exact Or.inr rfl) (hf:X.fn x=true∨X.env.scope.names.lookup x=some .local:=by first |exact .inl rfl |exact .inr rfl |assumption):VG X (.Name x pos) (QD i) :=
 PG.imp (qEk hN hi hx hf) fun v s H Q ⟨b,r,p,st,S,R,rv,r',e,q⟩=>q _ (by cases e;exact R.set rv i)
def JQ:FGs:=fun l r=>match l with
 |[]=>some r
 |_=>none
def Wc (g:FG) (gs:FGs):FGs:=fun l r=>match l with
 |p::ps=>match g p r with
  |some r'=>gs ps r'
  |none=>none
 |[]=>none
theorem Yo:VGs X [] JQ:=PGs.imp qD3 fun v s H Q ⟨b,r,p,st,S,R,rv,r',e,q⟩=>by
 cases p with
 |nil=>unfold RVs at rv;subst rv;cases e;exact ⟨rfl,q s R⟩
 |cons _ _=>cases e
theorem WH {g:FG} {gs:FGs} (h1:VG X e g) (h2:VGs X es gs) (hs:(assignEach (e::es) X.env).map (·.2)=assign e X.env::(assignEach es X.env).map (·.2):=by rfl):VGs X (e::es) (Wc g gs) :=
 PGs.imp (qDS h1 h2 hs) fun v s H Q ⟨b,r,p,st,S,R,rv,r',e,q⟩=>by
  cases p with
  |nil=>cases e
  |cons p ps =>
   unfold RVs at rv
   obtain ⟨x,xr,rfl,h3,h4⟩:=rv
   unfold Wc at e
   dsimp only at e
   cases e2:g p r with
   |none=>rw [e2] at e;cases e
   |some r2 =>
    rw [e2] at e
    exact ⟨x,xr,rfl,b,r,p,st,S,R,h3,r2,e2,fun s' R'=>⟨b,r2,ps,st,S,R',h4,r',e,q⟩⟩
def jw (n:Nat) (gs:FGs):FG:=fun p r=>match p with
 | .tup l=>if l.length=n then gs l r else none
 |_=>none
theorem JO {k:Nat} {n:Nat} {gs:FGs} (hc:X.calm=true) (h:VGs X es gs) (hn:(assignEach es X.env).length=n:=by rfl) (hst:(assignEach es X.env).findIdx? (·.1)=none:=by rfl):VG X (.Tuple es k pos) (jw n gs) :=
 PG.imp (qGK hc h hn hst) fun v s H Q ⟨b,r,p,st,S,R,rv,r',e,q⟩=>by
  unfold jw at e
  split at e
  ·rename_i l
   split at e
   ·rename_i hl
    unfold RV at rv
    obtain ⟨a,xs,rfl,h2,h3⟩:=rv
    exact ⟨a,xs,rfl,h2.sq,by rw [← h3.length];exact hl,b,r,l,st,S,R,h3,r',e,q⟩
   ·cases e
  ·cases e
def qAD (f:FE) (g:FG):FS:=fun r st=>(f r st).bindS fun p s=>match g p r with
 |some r' => .nx r' s
 |none => .no
theorem qFw {g:FG} (h:VE X E e f) (hg:VG X d g) (hs:swapsWithSole [d] e pos.line X.env=pure false:=by rfl) (hw:swappedStores [d] e X.env=pure none:=by rfl)
  (h1:(assignEach [d] X.env).map (·.2)=[assign d X.env]:=by rfl):VS X E (.Assign [d] e pos) (qAD f g):=PS.imp (qB2 h hg hs hw h1) fun D s H ⟨b,r,st,S,R,P⟩ =>
 ⟨b,r,st,S,R,PostE.bindS P fun p s1 u H1 b1 e1 S1 r1 P1=>by
  cases e2:g p r with
  |none=>rw [e2] at P1;exact P1.elim
  |some r'=>rw [e2] at P1;exact ⟨b1,r,p,s1,S1,R.ext e1,r1,r',e2,fun s' R'=>P1 s' H1 b1 (Ext.refl _ _) S1 R'⟩⟩
def Z7 (i j:Nat) (t:FA):FS:=fun r st=>(t r st).bindS fun l s=>match l with
 |[p,q] => .nx ((r.set i (some p)).set j (some q)) s
 |_ => .no
theorem qDK (i j:Nat) {x y:Str} {t:FA} {px py pt:Pos} {kt k2 pt2} (hc:X.calm=true) (hN:X.N.Nodup) (ha:VA X E [a,c] t) (hw:swappedStores [.Tuple [.Name x px,.Name y py] kt pt] (.Tuple [a,c] k2 pt2) X.env=pure (some [x,y]):=by rfl)
  (hi:X.N[i]? = some x:=by rfl) (hj:X.N[j]? = some y:=by rfl) (hij:i≠j:=by decide) (hx:X.env.scope.names.lookup x=some .local:=by rfl) (hy:X.env.scope.names.lookup y=some .local:=by rfl)
  (hs:swapsWithSole [.Tuple [.Name x px,.Name y py] kt pt] (.Tuple [a,c] k2 pt2) pos.line X.env=pure false:=by rfl):VS X E (.Assign [.Tuple [.Name x px,.Name y py] kt pt] (.Tuple [a,c] k2 pt2) pos) (Z7 i j t) :=
 PS.imp (qGZ hc hN hi hj hij hx hy ha hw hs) fun D s H ⟨b,r,st,S,R,P⟩=>⟨b,r,st,S,R,PostA.bindS P fun l s1 us H1 b1 e1 S1 r1 P1=>by
  split at P1
  ·obtain ⟨u,v,rfl,h1,h2⟩:=RVs.two r1
   exact ⟨u,v,rfl,P1 _ H1 b1 (Ext.refl _ _) S1 (((R.ext e1).set h1 i).set h2 j)⟩
  ·exact P1.elim⟩
def Wr (st:qC) (o i v:PV):Option qC:=match o,i with
 | .ref n,.int k=>match st[n]? with
  |some (.l xs)=>match ixN xs.length k with
   |some j=>some (st.set n (.l (xs.set j v)))
   |none=>none
  |_=>none
 |_,_=>none
def Z1 (fo fi f:FE):FS:=fun r st=>(f r st).bindS fun p s1=>(fo r s1).bindS fun o s2=>(fi r s2).bindS fun i s3=>match Wr s3 o i p with
 |some s4 => .nx r s4
 |none => .no
theorem jQ {K:W.Frag} {H:Hp} {b:Bz} {st st':qC} {o i p:PV} {ov iv v:V} {Q:Hp->Prop} (S:SR K H b st) (ro:RV K H b o ov) (ri:RV K H b i iv) (rp:RV K H b p v) (e:Wr st o i p=some st')
  (q:∀ H' b',Ext H b H' b'->SR K H' b' st'->Q H'):qE9 ov iv v H Q:=by
 unfold Wr at e
 split at e
 ·rename_i n k
  split at e
  ·rename_i xs e1
   split at e
   ·rename_i j e2
    cases e
    unfold RV at ro ri
    obtain ⟨a,rfl,ha⟩:=ro
    obtain ⟨a',o',h1,h2,vs,rfl,h4⟩:=S.at_ n _ e1
    rw [ha] at h1;cases h1
    have hm:a∈b.b:=List.mem_of_getElem? ha
    refine ⟨a,vs,k,j,rfl,ri,h2,by rw [← h4.length];exact e2,q _ b (Ext.wr hm S.zb (qDg h2)) (S.wr (x := .l (xs.set j p)) ha ⟨_,rfl,?_⟩)⟩
    have ew:Ext H b (upd H a (.lst (vs.set j v))) b:=Ext.wr hm S.zb (qDg h2)
    exact RVs.set (RV.ext ew p rp) j (RVs.ext ew xs h4)
   ·cases e
  ·cases e
 ·cases e
theorem qCZ {fo fi:FE} {o i:Expr} {tpos:Pos} (ho:VE X E o fo) (hi:VE X E i fi) (h:VE X E e f)
  (hs:swapsWithSole [.Subscript o i tpos] e pos.line X.env=pure false:=by rfl) (hw:swappedStores [.Subscript o i tpos] e X.env=pure none:=by rfl) (h1:(assignEach [.Subscript o i tpos] X.env).map (·.2)=[assign (.Subscript o i tpos) X.env]:=by rfl)
  (ha:∀ v,assign (.Subscript o i tpos) X.env v=(do
   let ov ← holding [v] (eval o X.env)
   let iv ← holding [v,ov] (eval i X.env)
   standAt tpos
   holding [v,ov,iv] (setItem ov iv v)
   release [v,ov,iv] []):=by intro _;rfl):VS X E (.Assign [.Subscript o i tpos] e pos) (Z1 fo fi f) :=
 PS.imp (qB2 h (qFa ho hi Yv ha) hs hw h1) fun D s H ⟨b,r,st,S,R,P⟩=>⟨b,r,st,S,R,PostE.bindS P fun p s1 u H1 b1 e1 S1 r1 P1 =>
  ⟨b1,r,s1,S1,R.ext e1,PostE.bindS P1 fun o s2 ou H2 b2 e2 S2 r2 P2=>⟨b2,r,s2,S2,(R.ext e1).ext e2,PostE.bindS P2 fun i s3 iu H3 b3 e3 S3 r3 P3=>by
   split at P3
   ·rename_i s4 e4
    exact jQ S3 (RV.ext e3 o r2) r3 (RV.ext e3 p (RV.ext e2 p r1)) e4 fun H' b' e' S'=>P3 s H' b' e' S' ((((R.ext e1).ext e2).ext e3).ext e')
   ·exact P3.elim⟩⟩⟩
structure ItP where
 l:List PV
 G:qC->Prop
def ZQ (K:W.Frag) (H0:Hp) (b0:Bz) (J:It) (w:ItP):Prop := ∀ H1 b1 st1,WE H0 b0 H1 b1->SR K H1 b1 st1->w.G st1 ->
 (∀ (i:Nat) (p:PV),w.l[i]? = some p->J.go i H1 ∧ ∀ x H2,J.yld i H1 x H2->Same H1 H2∧SR K H2 b1 st1∧RV K H2 b1 p x) ∧ ∀ i,w.l.length≤i->J.stop i H1
def PostI (K:W.Frag) (E:XK) (H:Hp) (b:Bz) (r:Rs ItP) (R:It->Hp->Prop):Prop:=match r with
 | .ok w st => ∀ J H' b',Ext H b H' b'->SR K H' b' st->ZQ K H' b' J w->R J H'
 | .ex x st=>XP K E H b x st
 | .no=>False
abbrev FI:=qu->qC->Rs ItP
def rdI (K:W.Frag) (E:XK) (f:FI):TI:=fun s H R => ∃ b r st,SR K H b st∧REnv K H b r s∧PostI K E H b (f r st) R
abbrev VI (X:Cx) (E:XK) (tg e:Expr) (f:FI):Prop:=PI X tg e (rdI X.K E f)
theorem PostI.ext {K:W.Frag} {E:XK} {H H1:Hp} {b b1:Bz} {r:Rs ItP} {R:It->Hp->Prop} (h:PostI K E H b r R) (e:Ext H b H1 b1):PostI K E H1 b1 r R:=by
 cases r with
 |ok p st=>exact fun J H' b' e'=>h J H' b' (e.trans e')
 |ex x st=>exact XP.ext h e
 |no=>exact h
theorem PostE.bindI {K:W.Frag} {E:XK} {H:Hp} {b:Bz} {r:Rs PV} {k:PV->qC->Rs ItP} {Q:It->Hp->Prop} {R:VK} (P:PostI K E H b (r.bind k) Q)
  (h:∀ p st v H1 b1,Ext H b H1 b1->SR K H1 b1 st->RV K H1 b1 p v->PostI K E H1 b1 (k p st) Q->R v H1):PostE K E H b r R:=by
 cases r with
 |ok p st=>exact fun v H1 b1 e S r=>h p st v H1 b1 e S r (PostI.ext (show PostI K E H b (k p st) Q from P) e)
 |ex x st=>exact P
 |no=>exact P
theorem PostA.bindI {K:W.Frag} {E:XK} {H:Hp} {b:Bz} {r:Rs (List PV)} {k:List PV->qC->Rs ItP} {Q:It->Hp->Prop} {R:List V->Hp->Prop} (P:PostI K E H b (r.bind k) Q)
  (h:∀ p st v H1 b1,Ext H b H1 b1->SR K H1 b1 st->RVs K H1 b1 p v->PostI K E H1 b1 (k p st) Q->R v H1):PostA K E H b r R:=by
 cases r with
 |ok p st=>exact fun v H1 b1 e S r=>h p st v H1 b1 e S r (PostI.ext (show PostI K E H b (k p st) Q from P) e)
 |ex x st=>exact P
 |no=>exact P
def qEV (p:PV) (st:qC):Rs ItP:=match p with
 | .ref i=>match asL st (.ref i) with
  |some l => .ok ⟨l,fun s=>s[i]? = some (.l l)⟩ st
  |none => .no
 |p=>match wY st p with
  |some l => .ok ⟨l,fun _=>True⟩ st
  |none => .no
def QR (f:FE):FI:=fun r st=>(f r st).bind qEV
theorem qFU {l tg:Expr} {tl:TE} (hl:PE X l tl):PI X tg l (fun σ H R=>tl σ H fun x H1 => ∃ a,x = .ref a∧(((∃ xs,SqL X.K H1 a xs)∧R (Itl X.K a) H1)∨((∃ xs,SqT X.K H1 a xs)∧R (Itt X.K a) H1))):=by
 intro pins s σ H R I h
 refine thn (hl pins s σ H _ I h) fun v s1 ⟨x,H1,I1,r1,q1⟩ => ?_
 obtain ⟨a,e,q⟩:=q1
 subst e
 cases r1
 rcases q with ⟨⟨xs,hq⟩,q⟩ |⟨⟨xs,hq⟩,q⟩
 ·obtain ⟨its,rv,p,hz⟩:=I1.list hq
  refine wpAny_pyIter_list p.isList ?_
  refine ⟨s1.heap.objs.size,[s1.heap.objs.size],_,_,H1,rfl,I1.kept (t':=s1.toks) fun b o e=>Heap.get?_push_of_some _ e,qBK a _,⟨_,Heap.get?_push_size _ rfl,rfl,rfl⟩,fun b hb => ?_,q⟩
  have e:b=s1.heap.objs.size:=by simpa using hb
  subst e
  exact I1.fpOk (Nat.le_refl _) (I1.hok.fresh (Nat.le_refl _))
 ·obtain ⟨its,rv,p,hz⟩:=I1.tuple hq
  refine wpAny_pyIter_tuple (show s1.heap.IsTuple a its.toArray from p) ?_
  refine ⟨s1.heap.objs.size,[s1.heap.objs.size],_,_,H1,rfl,I1.kept (t':=s1.toks) fun b o e=>Heap.get?_push_of_some _ e,Jl a _,⟨_,Heap.get?_push_size _ rfl,rfl,rfl⟩,fun b hb => ?_,q⟩
  have e:b=s1.heap.objs.size:=by simpa using hb
  subst e
  exact I1.fpOk (Nat.le_refl _) (I1.hok.fresh (Nat.le_refl _))
theorem yy {K:W.Frag} {H0:Hp} {b0:Bz} {a:Addr} {l:List PV} {G:qC->Prop}
  (h:∀ H1 b1 st1,WE H0 b0 H1 b1->SR K H1 b1 st1->G st1 -> ∃ xs,SqL K H1 a xs∧RVs K H1 b1 l xs):ZQ K H0 b0 (Itl K a) ⟨l,G⟩:=by
 intro H1 b1 st1 e S g
 obtain ⟨xs,hq,r⟩:=h H1 b1 st1 e S g
 refine ⟨fun i p hp => ?_,fun i hi=>⟨xs,hq,by rw [← r.length];exact hi⟩⟩
 obtain ⟨x,hx,rx⟩:=r.get hp
 exact ⟨⟨xs,x,hq,hx⟩,fun y H2 ⟨e2,hy⟩=>by
  subst e2
  have:=hy xs hq
  rw [hx] at this;cases this
  exact ⟨Same.refl _,S,rx⟩⟩
theorem qCk {K:W.Frag} {H0:Hp} {b0:Bz} {a:Addr} {l:List PV} {G:qC->Prop}
  (h:∀ H1 b1 st1,WE H0 b0 H1 b1->SR K H1 b1 st1->G st1 -> ∃ xs,SqT K H1 a xs∧RVs K H1 b1 l xs):ZQ K H0 b0 (Itt K a) ⟨l,G⟩:=by
 intro H1 b1 st1 e S g
 obtain ⟨xs,hq,r⟩:=h H1 b1 st1 e S g
 refine ⟨fun i p hp => ?_,fun i hi=>⟨xs,hq,by rw [← r.length];exact hi⟩⟩
 obtain ⟨x,hx,rx⟩:=r.get hp
 exact ⟨⟨xs,x,hq,hx⟩,fun y H2 ⟨e2,hy⟩=>by
  subst e2
  have:=hy xs hq
  rw [hx] at this;cases this
  exact ⟨Same.refl _,S,rx⟩⟩
theorem W7 {tg:Expr} (h:VE X E e f):VI X E tg e (QR f):=fun pins s σ H R I q=>qFU h pins s σ H R I (by
 obtain ⟨b,r,st,S,RE,P⟩:=q
 refine ⟨b,r,st,S,RE,PostE.bindI P fun p s1 u H1 b1 e1 S1 r1 P1 => ?_⟩
 unfold qEV at P1
 split at P1
 ·rename_i i
  split at P1
  ·rename_i l el
   have r0:=r1
   unfold RV at r1
   obtain ⟨a,rfl,ha⟩:=r1
   obtain ⟨a',xs,e2,hq,hr⟩:=wA S1 r0 el
   cases e2
   refine ⟨a,rfl,.inl ⟨⟨xs,hq⟩,P1 _ H1 b1 (Ext.refl _ _) S1 (yy fun H2 b2 st2 e2 S2 g2 => ?_)⟩⟩
   obtain ⟨a'',o,k1,k2,vs,rfl,k4⟩:=S2.at_ i _ g2
   rw [e2.ix ha] at k1;cases k1
   exact ⟨vs,SqL.of k2,k4⟩
  ·exact P1.elim
 ·split at P1
  ·rename_i l el
   cases p with
   |tup m =>
    have em:m=l:=Option.some.inj el
    subst em
    unfold RV at r1
    obtain ⟨a,xs,rfl,h2,h3⟩:=r1
    exact ⟨a,rfl,.inr ⟨⟨xs,h2.sq⟩,P1 _ H1 b1 (Ext.refl _ _) S1 (qCk fun H2 b2 st2 e2 S2 _=>⟨xs,(h2.wext e2).sq,RVs.wext e2 m h3⟩)⟩⟩
   |lst m =>
    have em:m=l:=Option.some.inj el
    subst em
    unfold RV at r1
    obtain ⟨a,xs,rfl,h2,h3⟩:=r1
    exact ⟨a,rfl,.inl ⟨⟨xs,h2.sq⟩,P1 _ H1 b1 (Ext.refl _ _) S1 (yy fun H2 b2 st2 e2 S2 _=>⟨xs,(h2.wext e2).sq,RVs.wext e2 m h3⟩)⟩⟩
   |ref i=>rename_i hx;exact (hx i rfl).elim
   |_=>cases el
  ·exact P1.elim)
def jq (lo hi:Int):List PV:=(List.range (hi - lo).toNat).map fun (i:Nat)=>PV.int (lo + (i:Int))
def Ya (l:List PV) (st:qC):Rs ItP:=match l with
 |[.int j]=>if -(2 ^ 62)≤j∧j < 2 ^ 62 then .ok ⟨jq 0 j,fun _=>True⟩ st else .no
 |_ => .no
theorem qCS {K:W.Frag} {H0:Hp} {b0:Bz} {lo hi:Int}:ZQ K H0 b0 (Itr lo (hi - lo).toNat) ⟨jq lo hi,fun _=>True⟩:=by
 intro H1 b1 st1 e S g
 have hl:(jq lo hi).length=(hi - lo).toNat:=by simp [jq]
 refine ⟨fun i p hp => ?_,fun i hi'=>by rw [show (ItP.mk (jq lo hi) fun _=>True).l.length=(hi - lo).toNat from hl] at hi';exact hi'⟩
 have hi':i < (hi - lo).toNat:=by
  have:=(List.getElem?_eq_some_iff.mp hp).1
  rw [← hl];exact this
 unfold jq at hp
 dsimp only at hp
 rw [List.getElem?_map,List.getElem?_range hi'] at hp
 cases hp
 exact ⟨hi',fun x H2 ⟨e1,e2⟩=>by subst e1;subst e2;exact ⟨Same.refl _,S,Qj⟩⟩
def QH (t:FA):FI:=fun r st=>(t r st).bind Ya
theorem qk {tg:Expr} {t:FA} {p:Pos} (hg:Gl X "range") (hm:X.mg "range" = none) (ha:VA X E [a] t) (hs:starEach [a] X.env=[(false,eval a X.env)]:=by rfl):VI X E tg (.Call (.Name "range" p) [a] [] pos) (QH t):=fun pins s σ H R I q=>qBI hg hm ha hs pins s σ H R I (by
 obtain ⟨b,r,st,S,RE,P⟩:=q
 refine ⟨b,r,st,S,RE,PostA.bindI P fun l s1 us H1 b1 e1 S1 r1 P1 => ?_⟩
 unfold Ya at P1
 split at P1
 ·obtain ⟨u,rfl,h1⟩:=RVs.one r1
  unfold RV at h1;subst h1
  split at P1
  ·rename_i j hj
   refine ⟨j,rfl,hj.1,hj.2,?_⟩
   have:=P1 (Itr 0 (j - 0).toNat) H1 b1 (Ext.refl _ _) S1 qCS
   rw [Int.sub_zero] at this
   exact this
  ·exact P1.elim
 ·exact P1.elim)
theorem PSs.unbare {X:Cx} {st:List Stmt} {t:TS} (h:PSs X.nox st t) {pins:List (Addr×Obj)} {s:Shared} {σ:L2.St} {H:Hp} {D:Ends} {E:Value->Shared->Prop} (I:L2.Inv X pins σ H s) (q:t D σ H):wpAny (model X.prog X.w) X.A (execs st X.env) (SP X pins D) E s :=
 wpAny_noRaise (thn (h pins s σ H D (I.wish _) q) fun f s' hs=>hs.unwish)
theorem PG.unbare {X:Cx} {tg:Expr} {t:TG} (h:PG X.nox tg t) {pins:List (Addr×Obj)} {s:Shared} {σ:L2.St} {H:Hp} {v:V} {u:Value} {Q:L2.St->Hp->Prop} {E:Value->Shared->Prop} (I:L2.Inv X pins σ H s) (r:RelV v u) (q:t v σ H Q):wpAny (model X.prog X.w) X.A (assign tg X.env u) (fun _ s' => ∃ σ' H',L2.Inv X pins σ' H' s'∧Q σ' H') E s :=
 wpAny_noRaise (thn (h pins s σ H v u Q (I.wish _) r q) fun f s' ⟨σ',H',I',q'⟩=>⟨σ',H',I'.unwish,q'⟩)
theorem qEG {tg iter:Expr} {body:List Stmt} {wi:TI} {g:TG} {tb:TS} {pos:Pos} (hi:PI X tg iter wi) (hg:PG X.nox tg g) (hb:PSs X.nox body tb)
  (hs:∀ x,foldedSetIterable iter X.env x=pure x:=by intro _;rfl):PS X (.For tg iter body [] pos) (qIP wi g tb):=by
 intro pins s σ H D I h
 refine wpAny_For (thn (hi pins s σ H _ I h) fun v s1 h1=>thn h1 fun itv s2 h2 => ?_) hs
 obtain ⟨it,fp,tn,J,H2,e,I2,T,st2,f2,W,⟨m0,w0⟩,turn⟩:=h2
 subst e
 have stat:∀ {H':Hp},(∀ b∈fp,H' b=none) -> ∀ b∈fp,zX X pins H' b:=fun hn b hb=>⟨hn b hb,(f2 b hb).2⟩
 refine codeAny_forLoop_any (fun n s' => ∃ i σ' H',L2.Inv X pins σ' H' s'∧tn i s'.heap∧(∀ b∈fp,H' b=none)∧W i n σ' H') ?_ m0 ⟨0,σ,H2,I2,st2,fun b hb=>(f2 b hb).1,w0⟩
 rintro n s3 ⟨i,σ3,H3,I3,st3,fr3,w3⟩
 rcases turn i n σ3 H3 w3 with ⟨stop,qn⟩ |⟨go,N,hN,step⟩
 ·refine thn (T.done X rfl rfl rfl rfl i pins s3 σ3 H3 _ I3 (stat fr3) st3 stop) fun r s4 ⟨hr,I4⟩ => ?_
  subst hr
  exact wpAny_execs_nil ⟨σ3,H3,I4,qn⟩
 ·refine thn (T.item X rfl rfl rfl rfl i pins s3 σ3 H3 _ I3 (stat fr3) st3 go) fun r s4 ⟨u,hr,h4⟩ => ?_
  subst hr
  refine thn h4 fun _ s5 ⟨x,H5,I5,r5,y5,st5,fr5⟩ => ?_
  have I5':=I5.pinned (stat fr5) (T.obj _ _ st5)
  refine thn (PG.unbare hg I5' r5 (step x H5 y5)) fun _ s6 ⟨σ6,H6,I6,q6⟩ => ?_
  refine thn (PSs.unbare hb I6 q6) fun f s7 q7 => ?_
  have again:∀ {σ7:L2.St} {H7:Hp},L2.Inv X (pins++zM fp s5.heap) σ7 H7 s7->N σ7 H7 -> ∃ m,m < n ∧ ∃ i σ' H',L2.Inv X pins σ' H' s7∧tn i s7.heap∧(∀ b∈fp,H' b=none)∧W i m σ' H':=fun {σ7 H7} I7 n7=>by
   obtain ⟨m',hm,w7⟩:=hN σ7 H7 n7
   refine ⟨m',hm,i + 1,σ7,H7,I7.unpinned,T.keep _ _ _ st5 fun b hb o e=>(I7.pin (b,o) (List.mem_append_right _ (List.mem_append_right _ (Wm hb e)))).1,fun b hb => ?_,w7⟩
   obtain ⟨o,e,d⟩:=T.obj _ _ st5 b hb
   exact (I7.pin (b,o) (List.mem_append_right _ (List.mem_append_right _ (Wm hb e)))).2.1
  cases f with
  |next=>obtain ⟨σ7,H7,I7,n7⟩:=q7;exact again I7 n7
  |cont=>obtain ⟨σ7,H7,I7,n7⟩:=q7;exact again I7 n7
  |brk=>obtain ⟨σ7,H7,I7,q7⟩:=q7;exact ⟨σ7,H7,I7.unpinned,q7⟩
  |ret v=>obtain ⟨x7,σ7,H7,I7,r7,q7⟩:=q7;exact ⟨x7,σ7,H7,I7.unpinned,r7,q7⟩
open Classical in
noncomputable def QM (G:qC->Prop) (g:FG) (F:FS):List PV->qu->qC->RS
 |[],r,st=>if G st then .nx r st else .no
 |p::ps,r,st=>if G st then
   match g p r with
   |none => .no
   |some r1=>match F r1 st with
    | .nx r2 s2=>QM G g F ps r2 s2
    | .ct r2 s2=>QM G g F ps r2 s2
    | .bk r2 s2 => .nx r2 s2
    | .rt v s2 => .rt v s2
    | .ex _ _ => .no
    | .no => .no
  else .no
noncomputable def wG (fi:FI) (g:FG) (F:FS):FS:=fun r st=>(fi r st).bindS fun w s=>QM w.G g F w.l r s
theorem PostI.bindS {K:W.Frag} {E:XK} {H:Hp} {b:Bz} {r:Rs ItP} {k:ItP->qC->RS} {D:Ends} {R:It->Hp->Prop} (P:PostS K E H b (r.bindS k) D)
  (h:∀ w st J H1 b1,Ext H b H1 b1->SR K H1 b1 st->ZQ K H1 b1 J w->PostS K E H1 b1 (k w st) D->R J H1):PostI K E H b r R:=by
 cases r with
 |ok p st=>exact fun J H1 b1 e S r=>h p st J H1 b1 e S r (PostS.ext (show PostS K E H b (k p st) D from P) e)
 |ex x st=>exact P
 |no=>exact P
theorem wm {tg iter:Expr} {body:List Stmt} {fi:FI} {g:FG} (hi:VI X E tg iter fi) (hg:VG X.nox tg g) (hb:VSs X.nox E0 body F) (hs:∀ x,foldedSetIterable iter X.env x=pure x:=by intro _;rfl):VS X E (.For tg iter body [] pos) (wG fi g F):=by
 refine PS.imp (qEG hi hg hb hs) fun D s H ⟨b,r,st,S,R,P⟩ => ?_
 refine ⟨b,r,st,S,R,PostI.bindS P fun w st1 J H1 b1 e1 S1 it P1 => ?_⟩
 refine ⟨fun i m σ' H' => ∃ b2 r2 st2,Ext H1 b1 H' b2∧SR X.K H' b2 st2∧REnv X.K H' b2 r2 σ'∧m=w.l.length + 1 - i∧i≤w.l.length∧PostS X.K E H' b2 (QM w.G g F (w.l.drop i) r2 st2) D,⟨w.l.length + 1,b1,r,st1,Ext.refl _ _,S1,R.ext e1,by omega,Nat.zero_le _,by simpa using P1⟩,?_⟩
 rintro i m σ' H' ⟨b2,r2,st2,e2,S2,R2,hm,hi',P2⟩
 by_cases hlt:i < w.l.length
 ·have hd:w.l.drop i=w.l[i]::w.l.drop (i + 1):=List.drop_eq_getElem_cons hlt
  rw [hd] at P2
  unfold QM at P2
  by_cases hG:w.G st2
  ·rw [if_pos hG] at P2
   obtain ⟨h1,h2⟩:=it H' b2 st2 e2.toWE S2 hG
   obtain ⟨go,yl⟩:=h1 i w.l[i] (List.getElem?_eq_getElem hlt)
   refine .inr ⟨go,fun σ3 H3 => ∃ b3 r3 st3,Ext H1 b1 H3 b3∧SR X.K H3 b3 st3∧REnv X.K H3 b3 r3 σ3∧PostS X.K E H3 b3 (QM w.G g F (w.l.drop (i + 1)) r3 st3) D,?_,?_⟩
   ·rintro σ3 H3 ⟨b3,r3,st3,k1,k2,k3,k4⟩
    exact ⟨w.l.length + 1 - (i + 1),by omega,b3,r3,st3,k1,k2,k3,rfl,hlt,k4⟩
   ·intro x H3 hx
    obtain ⟨e3',S3,r3⟩:=yl x H3 hx
    have e3:Ext H' b2 H3 b2:=Ext.of_same e3'
    cases eg:g w.l[i] r2 with
    |none=>rw [eg] at P2;exact P2.elim
    |some r4 =>
     rw [eg] at P2
     refine ⟨b2,r2,w.l[i],st2,S3,R2.ext e3,r3,r4,eg,fun s4 R4=>⟨b2,r4,st2,S3,R4,?_⟩⟩
     have P3:=PostS.ext P2 e3
     dsimp only at P3
     have e13:=e2.trans e3
     cases eF:F r4 st2 with
     |nx r5 s5=>rw [eF] at P3;exact fun s6 H6 b6 e6 S6 R6=>⟨b6,r5,s5,e13.trans e6,S6,R6,PostS.ext P3 e6⟩
     |ct r5 s5=>rw [eF] at P3;exact fun s6 H6 b6 e6 S6 R6=>⟨b6,r5,s5,e13.trans e6,S6,R6,PostS.ext P3 e6⟩
     |bk r5 s5=>rw [eF] at P3;exact P3
     |rt v s5=>rw [eF] at P3;exact P3
     |ex x s5=>rw [eF] at P3;exact P3.elim
     |no=>rw [eF] at P3;exact P3.elim
  ·rw [if_neg hG] at P2;exact P2.elim
 ·have hl:i=w.l.length:=by omega
  subst hl
  rw [List.drop_length] at P2
  unfold QM at P2
  by_cases hG:w.G st2
  ·rw [if_pos hG] at P2
   obtain ⟨h1,h2⟩:=it H' b2 st2 e2.toWE S2 hG
   exact .inl ⟨h2 _ (Nat.le_refl _),P2 σ' H' b2 (Ext.refl _ _) S2 R2⟩
  ·rw [if_neg hG] at P2;exact P2.elim
end
theorem QC {x n:Str} {a c:Addr} {r:List (Str×Addr)} (h:List.lookup x ((n,a)::r)=some c):(x=n∧a=c)∨(x≠n∧List.lookup x r=some c):=by
 rw [List.lookup_cons] at h
 cases hb:x==n with
 |true=>rw [hb] at h;exact .inl ⟨beq_iff_eq.mp hb,Option.some.inj h⟩
 |false=>rw [hb] at h;exact .inr ⟨fun z=>(by rw [beq_iff_eq.mpr z] at hb;cases hb),h⟩
theorem Qo {x:Str} {c:Addr}:∀ {names:List (Str×NameKind)} {n:Nat} {acc:List (Str×Addr)},(cellsFrom n names acc).lookup x=some c->(n≤c∧(x,NameKind.cell)∈names)∨acc.lookup x=some c
 |[],_,_,h => .inr h
 |(nm,k)::r,n,acc,h=>by
  unfold cellsFrom at h
  split at h
  ·rename_i hk
   have hk':k = .cell:=by simpa using hk
   rcases Qo h with ⟨h1,h2⟩ |h1
   ·exact .inl ⟨Nat.le_of_succ_le h1,List.mem_cons_of_mem _ h2⟩
   ·rcases QC h1 with ⟨e1,e2⟩ |⟨_,e2⟩
    ·exact .inl ⟨Nat.le_of_eq e2,by rw [e1,hk'];exact List.mem_cons_self⟩
    ·exact .inr e2
  ·rcases Qo h with ⟨h1,h2⟩ |h1
   ·exact .inl ⟨h1,List.mem_cons_of_mem _ h2⟩
   ·exact .inr h1
theorem WV {x:Str} {c:Addr} {n0:Nat}:∀ {names:List (Str×NameKind)} {n:Nat} {acc:List (Str×Addr)},n0≤n->((∃ a,acc.lookup x=some a∧n0≤a)∨(x,NameKind.cell)∈names)->(cellsFrom n names acc).lookup x=some c->n0≤c
 |[],_,acc,_,h,e=>by
  rcases h with ⟨a,h1,h2⟩ |h
  ·have:acc.lookup x=some c:=e
   rw [h1] at this;cases this;exact h2
  ·exact absurd h (by simp)
 |(nm,k)::r,n,acc,hn,h,e=>by
  unfold cellsFrom at e
  split at e
  ·rename_i hk
   refine WV (n:=n + 1) (Nat.le_succ_of_le hn) ?_ e
   by_cases hx:x=nm
   ·exact .inl ⟨n,by rw [List.lookup_cons,hx,beq_self_eq_true],hn⟩
   ·rcases h with ⟨a,h1,h2⟩ |h
    ·exact .inl ⟨a,by rw [List.lookup_cons,beq_false_of_ne hx];exact h1,h2⟩
    ·rcases List.mem_cons.mp h with q |q
     ·exact absurd (Prod.mk.inj q).1 hx
     ·exact .inr q
  ·rename_i hk
   refine WV hn ?_ e
   rcases h with h |h
   ·exact .inl h
   ·rcases List.mem_cons.mp h with q |q
    ·exact absurd (by rw [← (Prod.mk.inj q).2];rfl) hk
    ·exact .inr q
theorem WU {x y:Str} {c:Addr}:∀ {names:List (Str×NameKind)} {n:Nat} {acc:List (Str×Addr)},(∀ z a,acc.lookup z=some a->a < n)->(cellsFrom n names acc).lookup x=some c->(cellsFrom n names acc).lookup y=some c ->
  x=y∨(acc.lookup x=some c∧acc.lookup y=some c)
 |[],_,_,_,h1,h2 => .inr ⟨h1,h2⟩
 |(nm,k)::r,n,acc,hb,h1,h2=>by
  unfold cellsFrom at h1 h2
  split at h1
  ·rename_i hk
   rw [if_pos hk] at h2
   have hb':∀ z a,List.lookup z ((nm,n)::acc)=some a->a < n + 1:=fun z a h=>by
    rcases QC h with ⟨_,e⟩ |⟨_,e⟩
    ·rw [← e];exact Nat.lt_succ_self _
    ·exact Nat.lt_succ_of_lt (hb z a e)
   rcases WU hb' h1 h2 with e |⟨e1,e2⟩
   ·exact .inl e
   ·rcases QC e1 with ⟨p1,p2⟩ |⟨p1,p2⟩ <;> rcases QC e2 with ⟨q1,q2⟩ |⟨q1,q2⟩
    ·exact .inl (p1.trans q1.symm)
    ·exact absurd (hb y c q2) (by rw [← p2];exact Nat.lt_irrefl _)
    ·exact absurd (hb x c p2) (by rw [← q2];exact Nat.lt_irrefl _)
    ·exact .inr ⟨p2,q2⟩
  ·rename_i hk
   rw [if_neg hk] at h2
   exact WU hb h1 h2
theorem wc {x:Str}:∀ {names:List (Str×NameKind)} {n:Nat} {acc:List (Str×Addr)},((∃ a,acc.lookup x=some a)∨(x,NameKind.cell)∈names) -> ∃ c,(cellsFrom n names acc).lookup x=some c
 |[],_,_,h=>h.elim (fun h=>h) fun h=>absurd h (by simp)
 |(nm,k)::r,n,acc,h=>by
  unfold cellsFrom
  split
  ·rename_i hk
   refine wc ?_
   by_cases hx:x=nm
   ·exact .inl ⟨n,by rw [List.lookup_cons,hx,beq_self_eq_true]⟩
   ·rcases h with ⟨a,h1⟩ |h
    ·exact .inl ⟨a,by rw [List.lookup_cons,beq_false_of_ne hx];exact h1⟩
    ·rcases List.mem_cons.mp h with q |q
     ·exact absurd (Prod.mk.inj q).1 hx
     ·exact .inr q
  ·rename_i hk
   refine wc ?_
   rcases h with h |h
   ·exact .inl h
   ·rcases List.mem_cons.mp h with q |q
    ·exact absurd (by rw [← (Prod.mk.inj q).2];rfl) hk
    ·exact .inr q
theorem w9 {x:Str} {c:Addr}:∀ {names:List (Str×NameKind)} {h:Heap} {acc:List (Str×Addr)},(cellsFrom h.objs.size names acc).lookup x=some c->(∃ o,acc.lookup x=some c∧o=())∨(pushCells h names).IsCell c none
 |[],_,_,e => .inl ⟨(),e,rfl⟩
 |(nm,k)::r,h,acc,e=>by
  unfold cellsFrom at e
  unfold pushCells
  split at e
  ·rename_i hk
   rw [if_pos hk]
   have e':(cellsFrom (h.push { cls := .type "cell",data := .cell none }).objs.size r ((nm,h.objs.size)::acc)).lookup x=some c:=by rw [Heap.size_push];exact e
   rcases w9 e' with ⟨_,q,_⟩ |q
   ·rcases QC q with ⟨_,e2⟩ |⟨_,e2⟩
    ·subst e2
     exact .inr ⟨_,pushCells_keeps _ _ _ _ (Heap.get?_push_size _ rfl),rfl⟩
    ·exact .inl ⟨(),e2,rfl⟩
   ·exact .inr q
  ·rename_i hk
   rw [if_neg hk]
   exact w9 e
def clF (env:Env):List (Str×NameKind)->List (Str×Addr)->List (Str×Addr)
 |[],acc=>acc
 |(n,k)::r,acc=>if k == .free then clF env r ((n,(env.cells.lookup n).getD 0)::acc) else clF env r acc
theorem qCa {env:Env} (f:Str×NameKind->List (Str×Addr)->Sem (ForInStep (List (Str×Addr))))
  (hf:∀ n k acc,f (n,k) acc=if k == .free then (do let a ← cellOf env n;pure (.yield ((n,a)::acc))) else pure (.yield acc)) :
  ∀ (names:List (Str×NameKind)) (acc:List (Str×Addr)),(∀ x∈names,x.2 = .free -> ∃ c,env.cells.lookup x.1=some c)->forIn names acc f=(pure (clF env names acc):Sem _)
 |[],acc,_=>by rw [List.forIn_nil];rfl
 |(n,k)::r,acc,h=>by
  rw [List.forIn_cons,hf]
  unfold clF
  have ih:=fun a=>qCa f hf r a fun x hx=>h x (List.mem_cons_of_mem _ hx)
  split
  ·rename_i hk
   have hk':k = .free:=by simpa using hk
   obtain ⟨c,e⟩:=h (n,k) List.mem_cons_self hk'
   have ec:cellOf env n=pure c:=by unfold cellOf;rw [show env.cells.lookup n=some c from e]
   rw [ec]
   simp only [pure_bind]
   rw [ih,show env.cells.lookup n=some c from e];rfl
  ·simp only [pure_bind]
   exact ih acc
theorem Zu {scope:Scope} {env:Env} (h:∀ x∈scope.names,x.2 = .free -> ∃ c,env.cells.lookup x.1=some c):closureFor scope env=pure (clF env scope.names []):=by
 unfold closureFor
 dsimp only
 rw [qCa _ (fun n k acc=>by cases hk:k==NameKind.free <;> simp [hk]) _ _ h]
 rfl
theorem yG {env:Env} {x:Str} {c:Addr}:∀ {names:List (Str×NameKind)} {acc:List (Str×Addr)},(∀ y∈names,y.2 = .free -> ∃ c,env.cells.lookup y.1=some c)->(clF env names acc).lookup x=some c->env.cells.lookup x=some c∨acc.lookup x=some c
 |[],_,_,e => .inr e
 |(n,k)::r,acc,h,e=>by
  unfold clF at e
  have h':=fun y hy=>h y (List.mem_cons_of_mem _ hy)
  split at e
  ·rename_i hk
   have hk':k = .free:=by simpa using hk
   obtain ⟨a,ea⟩:=h (n,k) List.mem_cons_self hk'
   rcases yG h' e with q |q
   ·exact .inl q
   ·rcases QC q with ⟨e1,e2⟩ |⟨_,e2⟩
    ·rw [show env.cells.lookup n=some a from ea] at e2
     exact .inl (by rw [e1,show env.cells.lookup n=some a from ea];exact congrArg some e2)
    ·exact .inr e2
  ·exact yG h' e
theorem ZS {env:Env} {x:Str}:∀ {names:List (Str×NameKind)} {acc:List (Str×Addr)},((x,NameKind.free)∈names ∨ ∃ a,acc.lookup x=some a) -> ∃ c,(clF env names acc).lookup x=some c
 |[],_,h=>h.elim (fun h=>absurd h (by simp)) fun h=>h
 |(n,k)::r,acc,h=>by
  unfold clF
  split
  ·refine ZS ?_
   by_cases hx:x=n
   ·exact .inr ⟨_,by rw [List.lookup_cons,hx,beq_self_eq_true]⟩
   ·rcases h with h |⟨a,h⟩
    ·rcases List.mem_cons.mp h with q |q
     ·exact absurd (Prod.mk.inj q).1 hx
     ·exact .inl q
    ·exact .inr ⟨a,by rw [List.lookup_cons,beq_false_of_ne hx];exact h⟩
  ·rename_i hk
   refine ZS ?_
   rcases h with h |h
   ·rcases List.mem_cons.mp h with q |q
    ·exact absurd (by rw [← (Prod.mk.inj q).2];rfl) hk
    ·exact .inl q
   ·exact .inr h
def qIO (X:Cx) (scope:Scope) (C:Addr):Env :=
 { scope:=relabel scope X.env,locals:=C,globals:=X.env.globals,cells:=cellsFrom (C + 1) scope.names (clF X.env scope.names []),qual:=X.env.qual,func:=none,code:=X.env.code,frame:=X.env.frame,builtins:=X.env.builtins }
def cCx (X:Cx) (scope:Scope) (N:List Str) (s:Shared) (H:Hp) (fp:List Addr) (pn:List (Addr×Obj)):Cx where
 prog:=X.prog
 w:=X.w
 K:=X.K
 mg:=X.mg
 base:=X.base
 A:=X.A
 N:=N
 s₀:=s
 H₀:=H
 env:=qIO X scope s.heap.objs.size
 outer:=X.stack
 stack:=X.stack
 ex:=fp
 fn:=fun x=>scope.names.lookup x==some .cell
 calm:=X.calm
 pn:=pn
 xe:=fun _ _=>False
structure CSc (X:Cx) (scope:Scope) (capN locN:List Str) (caps:List Nat):Prop where
 kind:scope.kind = .function
 nd:(scope.names.map (·.1)).Nodup
 fr:∀ x∈scope.names,x.2 = .free->(X.env.kindOf x.1=some .cell∨X.env.kindOf x.1=some .free)
 len:capN.length=caps.length
 cap:∀ (i:Nat) (x:Str) (j:Nat),capN[i]? = some x->caps[i]? = some j->X.N[j]? = some x∧(x,NameKind.free)∈scope.names
theorem w8 {x:Str} {k:NameKind}:∀ {names:List (Str×NameKind)},(names.map (·.1)).Nodup->(x,k)∈names->names.lookup x=some k
 |(n,k')::r,nd,h=>by
  rw [List.map_cons,List.nodup_cons] at nd
  rw [List.lookup_cons]
  rcases List.mem_cons.mp h with q |q
  ·obtain ⟨rfl,rfl⟩:=Prod.mk.inj q
   rw [beq_self_eq_true]
  ·have hne:x≠n:=fun z=>nd.1 (by rw [← z];exact List.mem_map.mpr ⟨(x,k),q,rfl⟩)
   rw [beq_false_of_ne hne]
   exact w8 nd.2 q
theorem wP {env:Env} {x:Str}:∀ {names:List (Str×NameKind)},
  (names.map fun (n,k)=>if (k==NameKind.free&&env.scope.kind == .function&&env.kindOf n==some .cell) then (n,NameKind.cell) else (n,k)).lookup x=(names.lookup x).map fun k=>if (k==NameKind.free&&env.scope.kind == .function&&env.kindOf x==some .cell) then NameKind.cell else k
 |[]=>rfl
 |(n,k)::r=>by
  rw [List.map_cons,List.lookup_cons]
  show List.lookup x ((if (k==NameKind.free&&env.scope.kind == .function&&env.kindOf n==some .cell)=true then (n,NameKind.cell) else (n,k))::_)=_
  cases hx:x==n with
  |true =>
   have hx':x=n:=beq_iff_eq.mp hx
   subst hx'
   by_cases hc:(k==NameKind.free&&env.scope.kind == .function&&env.kindOf x==some .cell)=true
   ·rw [if_pos hc]
    simp only [List.lookup_cons,beq_self_eq_true,Option.map_some]
    rw [if_pos hc]
   ·rw [if_neg hc]
    simp only [List.lookup_cons,beq_self_eq_true,Option.map_some]
    rw [if_neg hc]
  |false =>
   by_cases hc:(k==NameKind.free&&env.scope.kind == .function&&env.kindOf n==some .cell)=true
   ·rw [if_pos hc]
    simp only [List.lookup_cons,hx]
    exact wP
   ·rw [if_neg hc]
    simp only [List.lookup_cons,hx]
    exact wP
theorem yH {X:Cx} {scope:Scope} {capN locN:List Str} {caps:List Nat} (cs:CSc X scope capN locN caps) {pins:List (Addr×Obj)} {σ:L2.St} {H:Hp} {s s4:Shared} {fp:List Addr} (I:L2.Inv X pins σ H s) (hf:∀ b∈fp,zX X pins H b) (hlt:∀ b∈fp,b < s.heap.objs.size)
  (h4:s4={ s with heap:=pushCells (s.heap.push { cls := .type "dict",data := .dict #[] }) scope.names }) :
  L2.Inv (cCx X scope (capN++locN) s H fp (X.pn++pins)) [] ((caps.map fun j=>(σ[j]?).join)++List.replicate locN.length none) H s4:=by
 have hfree:∀ x∈scope.names,x.2 = .free -> ∃ c,X.env.cells.lookup x.1=some c:=fun x hx hk=>I.ok.has x.1 (cs.fr x hx hk)
 have keep:∀ b o,s.heap.get? b=some o->s4.heap.get? b=some o:=fun b o e=>by subst h4;exact pushCells_keeps _ _ _ _ (Heap.get?_push_of_some _ e)
 have clook:∀ x c,(clF X.env scope.names []).lookup x=some c->X.env.cells.lookup x=some c:=fun x c e=>(yG hfree e).elim (fun q=>q) fun q=>by cases q
 have clt:∀ x c,(clF X.env scope.names []).lookup x=some c->c < s.heap.objs.size:=fun x c e=>by
  obtain ⟨v,q⟩:=I.cell x c (clook x c e)
  exact q.lt
 have cases':∀ x c,(cellsFrom (s.heap.objs.size + 1) scope.names (clF X.env scope.names [])).lookup x=some c->(s.heap.objs.size + 1≤c)∨(c < s.heap.objs.size∧X.env.cells.lookup x=some c):=fun x c e=>by
  rcases Qo e with ⟨q,_⟩ |q
  ·exact .inl q
  ·exact .inr ⟨clt x c q,clook x c q⟩
 have isfree:∀ x,(X.env.kindOf x=some .cell∨X.env.kindOf x=some .free)->True:=fun _ _=>trivial
 refine ⟨⟨I.ok.mod,cs.kind,I.ok.glob,I.ok.blt,Nat.le_refl _,fun x y c h1 h2 => ?_,fun x hx => ?_,fun x c hx e => ?_,I.ok.hd,I.ok.frames,.inl rfl,fun b hb=>⟨Nat.ne_of_lt (hlt b hb),fun x c e => ?_⟩,fun b o e=>I.bs b o e,Nat.le_trans I.ok.bsz I.sz,fun b o e hb => ?_,fun b hb hm => ?_,I.stack,I.stkFree⟩,
  by subst h4;rfl,by subst h4;exact I.bare,Un.kept keep,?_,fun x c e => ?_,I.hok.fresh (Nat.le_refl _),fun x c e => ?_,fun p hp => ?_,I.hok.kept keep,?_,I.hnd⟩
 ·rcases WU (fun z a e=>Nat.lt_succ_of_lt (clt z a e)) h1 h2 with e |⟨e1,e2⟩
  ·exact e
  ·exact I.ok.inj x y c (clook x c e1) (clook y c e2)
 ·refine wc ?_
  have hx':(relabel scope X.env).names.lookup x=some .cell∨(relabel scope X.env).names.lookup x=some .free:=hx
  have e:(relabel scope X.env).names.lookup x=(scope.names.lookup x).map fun k=>if (k==NameKind.free&&X.env.scope.kind == .function&&X.env.kindOf x==some .cell) then NameKind.cell else k:=wP
  rw [e] at hx'
  cases q:scope.names.lookup x with
  |none=>rw [q] at hx';rcases hx' with z |z <;> cases z
  |some k =>
   rw [q] at hx'
   have hm:=PySem.mem_of_lookup q
   by_cases hk:k = .free
   ·subst hk
    exact .inl (ZS (.inl hm))
   ·have hkf:(k==NameKind.free)=false:=by simpa using hk
    simp only [Option.map_some,hkf,Bool.false_and,Bool.false_eq_true,if_false] at hx'
    rcases hx' with z |z
    ·cases z;exact .inr hm
    ·cases z;exact absurd rfl hk
 ·have hx':scope.names.lookup x=some .cell:=by simpa [cCx] using hx
  exact Nat.le_of_succ_le (WV (n0:=s.heap.objs.size + 1) (Nat.le_refl _) (.inr (PySem.mem_of_lookup hx')) e)
 ·rcases cases' x c e with q |⟨q,q'⟩
  ·exact fun z=>by rw [z] at q;exact absurd (hlt b hb) (Nat.not_lt.mpr (Nat.le_of_succ_le q))
  ·exact (hf b hb).2.2.2.2.1 x c q'
 ·obtain ⟨_,_,_,h3,_⟩:=hf b hb
  rcases h3 with q |q
  ·exact I.ok.noex b o e q
  ·exact absurd (Heap.lt_size e) (Nat.not_lt.mpr (Nat.le_trans I.ok.bsz q))
 ·obtain ⟨_,h1,h2,_⟩:=hf b hb
  exact (List.mem_cons.mp (I.stkSub b hm)).elim h1 h2
 ·refine ⟨fun _=>none,?_,fun i x v e1 e2 e3 => ?_⟩
  ·subst h4
   exact (Heap.Ns.new s.heap (.type "dict")).keeps (pushCells_keeps _ _)
  ·have hi:i < caps.length:=by
    by_cases hi:i < caps.length
    ·exact hi
    ·rw [List.getElem?_append_right (by simpa using hi),List.getElem?_replicate] at e2
     split at e2 <;> cases e2
   rw [List.getElem?_append_left (by simpa using hi),List.getElem?_map] at e2
   have e1':(capN++locN)[i]? = some x:=e1
   rw [List.getElem?_append_left (by rw [cs.len];exact hi)] at e1'
   cases ej:caps[i]? with
   |none=>rw [ej] at e2;cases e2
   |some j =>
    rw [ej] at e2
    obtain ⟨k1,k2⟩:=cs.cap i x j e1' ej
    have e2':σ[j]? = some (some v):=by
     have e2'':(σ[j]?).join=some v:=Option.some.inj e2
     cases q:σ[j]? with
     |none=>rw [q] at e2'';cases e2''
     |some o=>rw [q] at e2'';exact congrArg some e2''
    have hk:=cs.fr _ k2 rfl
    obtain ⟨m,hn,hl⟩:=I.loc
    obtain ⟨u,ru,lu⟩:=hl j x v k1 e2' (hk.elim (fun z => .inr (.inl z)) fun z => .inr (.inr z))
    refine ⟨u,ru,.inr ?_⟩
    have hc:∃ c,X.env.cells.lookup x=some c∧s.heap.IsCell c (some u):=by
     rcases lu with ⟨z,_⟩ |⟨_,z⟩
     ·rcases hk with y |y <;> · rw [z] at y;cases y
     ·exact z
    obtain ⟨c,c1,c2⟩:=hc
    obtain ⟨c',e'⟩:=ZS (env:=X.env) (acc:=[]) (.inl k2)
    have e2:=clook x c' e'
    rw [c1] at e2;cases e2
    have hlk:scope.names.lookup x=some .free:=w8 cs.nd k2
    refine ⟨?_,c,?_,c2.keeps keep⟩
    ·show (relabel scope X.env).names.lookup x=some .cell∨(relabel scope X.env).names.lookup x=some .free
     have e:(relabel scope X.env).names.lookup x=(scope.names.lookup x).map fun k=>if (k==NameKind.free&&X.env.scope.kind == .function&&X.env.kindOf x==some .cell) then NameKind.cell else k:=wP
     rw [e,hlk]
     simp only [Option.map_some]
     split
     ·exact .inl rfl
     ·exact .inr rfl
    ·obtain ⟨d,hd⟩:=wc (names:=scope.names) (n:=s.heap.objs.size + 1) (acc:=clF X.env scope.names []) (x:=x) (.inl ⟨c,e'⟩)
     rcases Qo hd with ⟨q,q'⟩ |q
     ·have:=w8 cs.nd q'
      rw [hlk] at this;cases this
     ·rw [e'] at q;cases q;exact hd
 ·rcases Qo e with ⟨q,_⟩ |q
  ·have e':(cellsFrom (s.heap.push { cls := .type "dict",data := .dict #[] }).objs.size scope.names (clF X.env scope.names [])).lookup x=some c:=by rw [Heap.size_push];exact e
   rcases w9 e' with ⟨_,z,_⟩ |z
   ·obtain ⟨v,y⟩:=I.cell x c (clook x c z)
    exact ⟨v,y.keeps keep⟩
   ·subst h4;exact ⟨none,z⟩
  ·obtain ⟨v,y⟩:=I.cell x c (clook x c q)
   exact ⟨v,y.keeps keep⟩
 ·rcases cases' x c e with q |⟨q,q'⟩
  ·exact I.hok.fresh (Nat.le_of_succ_le q)
  ·exact I.freeC x c q'
 ·have hp':p∈X.pn++pins:=by simpa [cCx] using hp
  obtain ⟨k1,k2,k3,k4,k5⟩:=I.pin p hp'
  exact ⟨keep _ _ k1,k2,Nat.ne_of_lt (Heap.lt_size k1),fun z=>(List.mem_cons.mp (I.stkSub p.1 z)).elim k3 k4,k5⟩
 ·show ((caps.map fun j=>(σ[j]?).join)++List.replicate locN.length none).length=(capN++locN).length
  rw [List.length_append,List.length_map,List.length_replicate,List.length_append,cs.len]
theorem Y5 {X:Cx} {scope:Scope} {N:List Str} {pins:List (Addr×Obj)} {σ σ':L2.St} {H H':Hp} {s s':Shared} {h'':Heap} {fp:List Addr} (I:L2.Inv X pins σ H s) (hf:∀ b∈fp,zX X pins H b)
  (J:L2.Inv (cCx X scope N s H fp (X.pn++pins)) [] σ' H' s') (sb:Heap.SameBut s.heap.objs.size s'.heap h''):L2.Inv X pins σ H' { s' with heap:=h'' }:=by
 have hos:s'.os=s.os:=J.os
 have hC:∀ b o,s.heap.get? b=some o->b≠s.heap.objs.size:=fun b o e=>Nat.ne_of_lt (Heap.lt_size e)
 have u:Un (frs X.stack) fp H H' s.heap h'':=by
  have u0:=J.base
  exact ⟨fun b o e n h1 h2=>sb.extBut b o (hC b o e) (u0.keep b o e n h1 h2),fun b o e n h1 h2=>(u0.slot b o e n h1 h2).elim fun sl q=>⟨sl,sb.extBut b _ (hC b o e) q⟩,u0.free,fun b o e h2=>(u0.there b o e h2).elim fun o' q=>⟨o',sb.extBut b o' (hC b o e) q⟩,u0.tups,u0.frzs,u0.tbls⟩
 have hok:HOk X.prog X.w H' h'':=fun a o e=>by
  refine (J.hok a o e).stay (fun b v hb q=>sb.extBut b v ?_ q) (fun _ q=>q) fun _ _ q=>q
  have hn:H' s.heap.objs.size=none:=J.free
  rcases hb with z |z
  ·rw [z];exact qM e hn
  ·exact qM z hn
 obtain ⟨hh,g,d,t,os'⟩:=s'
 obtain rfl:os'=s.os:=hos
 have fin:=L2.Inv.call (s:=s) (h':=h'') (g':=g) (d':=d) (t':=t) (ch:=fp) I u hok J.bare fun b hb=>by
  obtain ⟨k0,k1,k2,k3,k4,k5⟩:=hf b hb
  exact ⟨k3,k1,k4,k5⟩
 exact fin
theorem yO {elt:Expr} {gens:List Comprehension} {scope:Scope} {pos:Pos} {d:Nat} {it acc:Value} {env:Env} {g:Comprehension} (hg:gens[d]? = some g) (ha:g.is_async=0) (hn:gens[d + 1]? = none) :
  compTurn (.ListComp elt gens scope pos) d it acc env=(standAt g.iter.pos >>= fun _=>pyNext it >>= fun r=>match r with
   |none=>pure (.done .next)
   |some v=>letOwnedTupleGo g.target it v >>= fun _=>assign g.target env v >>= fun _ =>
    (forIn g.ifs true fun c r=>if r=true then do let ok ← isTrue c env (eval c env);pure (ForInStep.yield ok) else pure (ForInStep.yield r)) >>= fun ok =>
    if ok=true then (eval elt env >>= fun x=>call (.builtin "list.append") [acc,x] >>= fun _=>pure ()) >>= fun _=>again (.compLoop (.ListComp elt gens scope pos) d it acc env)
    else again (.compLoop (.ListComp elt gens scope pos) d it acc env)):=by
 unfold compTurn
 dsimp only
 rw [hg]
 dsimp only
 rw [hn,ha]
 rfl
theorem yL {elt:Expr} {gens:List Comprehension} {scope:Scope} {pos:Pos} {d:Nat} {it acc:Value} {env:Env} {g g':Comprehension} (hg:gens[d]? = some g) (ha:g.is_async=0) (hn:gens[d + 1]? = some g') (ha':g'.is_async=0) :
  compTurn (.ListComp elt gens scope pos) d it acc env=(standAt g.iter.pos >>= fun _=>pyNext it >>= fun r=>match r with
   |none=>pure (.done .next)
   |some v=>letOwnedTupleGo g.target it v >>= fun _=>assign g.target env v >>= fun _ =>
    (forIn g.ifs true fun c r=>if r=true then do let ok ← isTrue c env (eval c env);pure (ForInStep.yield ok) else pure (ForInStep.yield r)) >>= fun ok =>
    if ok=true then (eval g'.iter env >>= fun x=>standAt g'.iter.pos >>= fun _=>foldedSetIterable g'.iter env x >>= fun x=>holding [x] (pyIter x) >>= fun it'=>runOwn (.compStart (.ListComp elt gens scope pos) (d + 1) it' acc env) env >>= fun _=>again (.compLoop (.ListComp elt gens scope pos) d it acc env))
    else again (.compLoop (.ListComp elt gens scope pos) d it acc env)):=by
 unfold compTurn
 dsimp only
 rw [hg]
 dsimp only
 rw [hn,ha]
 dsimp only
 rw [ha']
 rfl
theorem Wk {prog:Program} {w:World} {A:Around} {R:Result->Shared->Prop} {s:Shared} {elt:Expr} {gens:List Comprehension} {scope:Scope} {pos:Pos} {d:Nat} {it acc:Value} {env:Env} {g:Comprehension} (hg:gens[d]? = some g) (ha:g.is_async=0)
  (h0:codeAny (model prog w) A (.compLoop (.ListComp elt gens scope pos) d it acc env) R s)
  (h:wpAny (model prog w) A (pyIter it) (fun it' s'=>codeAny (model prog w) A (.compLoop (.ListComp elt gens scope pos) d it' acc env) R s') (notedBy (model prog w) A env fun x s'=>R (.error x) s') s) :
  codeAny (model prog w) A (.compStart (.ListComp elt gens scope pos) d it acc env) R s:=by
 refine codeAny_of_tree ?_
 show wpAny _ _ ((compStart (.ListComp elt gens scope pos) d it acc env).onRaise (fun x=>do noteFrame x env;standAt theWindowsPlace)) _ _ s
 refine wpAny_notedAt ?_
 unfold compStart
 have e1:(clausesOf (.ListComp elt gens scope pos))[d]? = some g:=hg
 rw [e1]
 simp only [Option.elim_some,ha]
 refine wpAny_bind (wpAny_askSetting (wpAny_ite ?_))
 split
 ·exact wpAny_bind (wpAny_pure (wpAny_pure (And.intro rfl h0)))
 ·exact wpAny_bind (wpAny_rule (wpAny_bind (wpAny_standAt (wpAny_bind (wpAny_mono h (fun it' s' h'=>wpAny_pure (And.intro rfl h')) fun _ _ x=>x)))))
structure GenF where
 fi:FI
 g:FG
 ts:List FT
def Q7:List FT->FT
 |[],_,st => .ok true st
 |t::ts,r,st=>(t r st).bind fun k s=>if k=true then Q7 ts r s else .ok false s
open Classical in
noncomputable def qc (G:qC->Prop) (k:PV->qC->Rs (List PV)):List PV->qC->Rs (List PV)
 |[],st=>if G st then .ok [] st else .no
 |p::ps,st=>if G st then (k p st).bind fun l s=>(qc G k ps s).bind fun m s' => .ok (l++m) s' else .no
def QJ (g:GenF) (rest:FL) (r:qu) (p:PV) (s:qC):Rs (List PV):=match g.g p r with
 |none => .no
 |some r'=>(Q7 g.ts r' s).bind fun k s1=>if k=true then rest r' s1 else .ok [] s1
noncomputable def QZ:List GenF->FE->FL
 |[],f=>fun r st=>(f r st).bind fun p s => .ok [p] s
 |g::gs,f=>fun r st=>(g.fi r st).bind fun w s=>qc w.G (QJ g (QZ gs f) r) w.l s
def Le (r r':qu):Prop:=r.length=r'.length ∧ ∀ (i:Nat) (p:PV),r[i]? = some (some p)->r'[i]? = some (some p)
theorem REnv.le {K:W.Frag} {H:Hp} {b:Bz} {r r':qu} {s:L2.St} (h:REnv K H b r' s) (l:Le r r'):REnv K H b r s:=⟨l.1.trans h.1,fun i p e=>h.2 i p (l.2 i p e)⟩
def J7 (g:FG):Prop := ∀ p r r',g p r=some r'->Le r r'
inductive TsOk (X:Cx):List Expr->List FT->Prop where
 |nil:TsOk X [] []
 |cons {e:Expr} {t:FT} {es:List Expr} {ts:List FT} (h:VT X E0 e t) (r:TsOk X es ts):TsOk X (e::es) (t::ts)
theorem j0 {X:Cx} (hx:∀ e s,X.xe e s->False):∀ {es:List Expr} {ts:List FT},TsOk X es ts -> ∀ {pins:List (Addr×Obj)} {s:Shared} {σ:L2.St} {H:Hp} {b:Bz} {r:qu} {st st':qC} {k:Bool} {Q:Bool->Shared->Prop} {E:Value->Shared->Prop},L2.Inv X pins σ H s->SR X.K H b st->REnv X.K H b r σ->Q7 ts r st = .ok k st' ->
  (∀ s' H' b',L2.Inv X pins σ H' s'->Ext H b H' b'->SR X.K H' b' st'->Q k s') ->
  wpAny (model X.prog X.w) X.A (forIn es true fun c r=>if r=true then do let ok ← isTrue c X.env (eval c X.env);pure (ForInStep.yield ok) else pure (ForInStep.yield r)) Q E s
 |_,_,.nil,pins,s,σ,H,b,r,st,st',k,Q,E,I,S,R,e,q=>by
  cases e
  exact wpAny_tests_nil (q s H b I (Ext.refl _ _) S)
 |_,_,@TsOk.cons _ c t es ts h hr,pins,s,σ,H,b,r,st,st',k,Q,E,I,S,R,e,q=>by
  rw [List.forIn_cons]
  simp only [if_true]
  unfold Q7 at e
  cases et:t r st with
  |no=>rw [et] at e;cases e
  |ex x s1=>rw [et] at e;cases e
  |ok k1 s1 =>
   rw [et] at e
   have e:(if k1=true then Q7 ts r s1 else .ok false s1) = .ok k st':=e
   refine wpAny_bind (wpAny_bind (wpAny_mono (h pins s σ H (fun k' H'=>k'=k1 ∧ ∃ b',Ext H b H' b'∧SR X.K H' b' s1) I ⟨b,r,st,S,R,by rw [et];exact fun H' b' e' S'=>⟨rfl,b',e',S'⟩⟩) (fun k' s2 hq => ?_) fun e' s' z=>(hx e' s' z).elim))
   obtain ⟨H2,I2,rfl,b2,e2,S2⟩:=hq
   refine wpAny_pure ?_
   dsimp only
   cases k' with
   |true =>
    rw [if_pos rfl] at e
    exact j0 hx hr I2 S2 (R.ext e2) e fun s' H' b' I' e' S'=>q s' H' b' I' (e2.trans e') S'
   |false =>
    rw [if_neg Bool.false_ne_true] at e
    cases e
    have skip:∀ (es:List Expr),wpAny (model X.prog X.w) X.A (forIn es false fun c r=>if r=true then do let ok ← isTrue c X.env (eval c X.env);pure (ForInStep.yield ok) else pure (ForInStep.yield r)) Q E s2:=by
     intro es
     induction es with
     |nil=>rw [List.forIn_nil];exact wpAny_pure (q s2 H2 b2 I2 e2 S2)
     |cons c es ih =>
      rw [List.forIn_cons]
      simp only [Bool.false_eq_true,if_false]
      exact wpAny_bind (wpAny_pure ih)
    exact skip es
structure GOk (X:Cx) (c:Comprehension) (g:GenF):Prop where
 tg:VG X c.target g.g
 fr:J7 g.g
 ts:TsOk X c.ifs g.ts
 asy:c.is_async=0
structure GOk' (X:Cx) (c:Comprehension) (g:GenF):Prop extends GOk X c g where
 it:VI X E0 c.target c.iter g.fi
 fold:∀ x,foldedSetIterable c.iter X.env x=pure x
inductive GsOk (X:Cx):List Comprehension->List GenF->Prop where
 |nil:GsOk X [] []
 |cons {c:Comprehension} {g:GenF} {cs:List Comprehension} {gs:List GenF} (h:GOk' X c g) (r:GsOk X cs gs):GsOk X (c::cs) (g::gs)
theorem qBP {X:Cx} (hx:∀ e s,X.xe e s->False) {pins:List (Addr×Obj)} {s:Shared} {σ:L2.St} {H:Hp} {D:Addr} {xs:List V} {y:V} {u:Value} {Q:Value->Shared->Prop} {E:Value->Shared->Prop} (I:L2.Inv X pins σ H s) (hD:H D=some (.lst xs)) (hl:xs.length < sizeLine) (ry:RelV y u)
  (q:∀ v s',L2.Inv X pins σ (upd H D (.lst (xs++[y]))) s'->Q v s'):wpAny (model X.prog X.w) X.A (call (.builtin "list.append") [.ref D,u]) Q E s :=
 wpAny_mono (yk pins s σ H (.ref D) [y] (.ref D) [u] (fun v H'=>H'=upd H D (.lst (xs++[y]))) I rfl (.cons ry .nil) ⟨D,xs,y,rfl,rfl,hD,hl,rfl⟩) (fun v s' ⟨x,H',I',r',e⟩=>by subst e;exact q v s' I') fun e' s' z=>(hx e' s' z).elim
structure DE (D:Addr) (H:Hp) (b:Bz) (H':Hp) (b':Bz):Prop extends WE H b H' b' where
 same:b'.z=b.z
 hid:∀ a o,a∈b.z->a≠D->H a=some o->H' a=some o
 fz:∀ a o u,a≠D->H a=some (.frz o u)->H' a=some (.frz o u)
theorem DE.of {D:Addr} {H H':Hp} {b b':Bz} (e:Ext H b H' b'):DE D H b H' b':=⟨e.toWE,e.same,fun a o ha _ h=>e.hid a o ha h,fun a o u _ h=>e.fz a o u h⟩
theorem DE.trans {D:Addr} {H H1 H2:Hp} {b b1 b2:Bz} (e:DE D H b H1 b1) (f:DE D H1 b1 H2 b2):DE D H b H2 b2:=⟨e.toWE.trans f.toWE,f.same.trans e.same,fun a o ha hn h=>f.hid a o (by rw [e.same];exact ha) hn (e.hid a o ha hn h),fun a o u n h=>f.fz a o u n (e.fz a o u n h)⟩
theorem DE.wr {D:Addr} {H:Hp} {b:Bz} {o:HO} (h:D∈b.z):DE D H b (upd H D o) b:=⟨WE.wr (.inr h),rfl,fun a u ha hn e=>by rw [qN hn];exact e,fun a u v hn e=>by rw [qN hn];exact e⟩
def qIU (X:Cx) (D:Addr) (c:Code) (inner:Sem Fin) (rest:FL):Prop :=
 ∀ (pins:List (Addr×Obj)) (s:Shared) (σ:L2.St) (H:Hp) (b:Bz) (r:qu) (st st':qC) (l:List PV) (accV:List V) (QF:Fin->Shared->Prop) (E:Value->Shared->Prop),L2.Inv X pins σ H s->SR X.K H b st->REnv X.K H b r σ->D∈b.z->H D=some (.lst accV) ->
  rest r st = .ok l st'->accV.length + l.length≤sizeLine ->
  (∀ s' σ' H' b' lV,L2.Inv X pins σ' H' s'->DE D H b H' b'->SR X.K H' b' st'->REnv X.K H' b' r σ'->H' D=some (.lst (accV++lV))->RVs X.K H' b' l lV->QF (.again c) s')->wpAny (model X.prog X.w) X.A inner QF E s
theorem Yt {X:Cx} (hx:∀ e s,X.xe e s->False) {elt:Expr} {gens:List Comprehension} {scope:Scope} {pos:Pos} {d:Nat} {it D:Addr} {c:Comprehension} {g:GenF} (hg:GOk X c g) {inner:Sem Fin} {rest:FL} (hin:qIU X D (.compLoop (.ListComp elt gens scope pos) d (.ref it) (.ref D) X.env) inner rest)
  (hturn:compTurn (.ListComp elt gens scope pos) d (.ref it) (.ref D) X.env=(standAt c.iter.pos >>= fun _=>pyNext (.ref it) >>= fun r=>match r with
   |none=>pure (.done .next)
   |some v=>letOwnedTupleGo c.target (.ref it) v >>= fun _=>assign c.target X.env v >>= fun _ =>
    (forIn c.ifs true fun c r=>if r=true then do let ok ← isTrue c X.env (eval c X.env);pure (ForInStep.yield ok) else pure (ForInStep.yield r)) >>= fun ok =>
    if ok=true then inner else again (.compLoop (.ListComp elt gens scope pos) d (.ref it) (.ref D) X.env)))
  {pins:List (Addr×Obj)} {s:Shared} {σ:L2.St} {H:Hp} {b:Bz} {r:qu} {st st':qC} {fp:List Addr} {tn:Nat->Heap->Prop} {J:It} {w:ItP} {accV:List V} {l:List PV} {R:Result->Shared->Prop}
  (I:L2.Inv X pins σ H s) (S:SR X.K H b st) (RE:REnv X.K H b r σ) (hDz:D∈b.z) (hD:H D=some (.lst accV)) (T:Turn X.prog X.w X.K X.A c.target J fp it tn) (t0:tn 0 s.heap) (hf:∀ a∈fp,zX X pins H a)
  (hit:ZQ X.K H b J w)
  (hv:qc w.G (QJ g rest r) w.l st = .ok l st') (hsz:accV.length + l.length≤sizeLine)
  (hR:∀ s' σ' H' b' lV,L2.Inv X pins σ' H' s'->DE D H b H' b'->SR X.K H' b' st'->REnv X.K H' b' r σ'->H' D=some (.lst (accV++lV))->RVs X.K H' b' l lV->R (.ok .next) s') :
  codeAny (model X.prog X.w) X.A (.compLoop (.ListComp elt gens scope pos) d (.ref it) (.ref D) X.env) R s:=by
 have stat:∀ {H':Hp},(∀ a∈fp,H' a=none) -> ∀ a∈fp,zX X pins H' a:=fun hn a ha=>⟨hn a ha,(hf a ha).2⟩
 refine codeAny_loop rfl (fun n s1 => ∃ i σ1 H1 b1 st1 done doneV m,n=w.l.length + 1 - i∧i≤w.l.length∧L2.Inv X pins σ1 H1 s1∧DE D H b H1 b1∧SR X.K H1 b1 st1∧REnv X.K H1 b1 r σ1∧H1 D=some (.lst (accV++doneV))∧RVs X.K H1 b1 done doneV∧tn i s1.heap∧(∀ a∈fp,H1 a=none) ∧
  qc w.G (QJ g rest r) (w.l.drop i) st1 = .ok m st'∧done++m=l) ?_ (w.l.length + 1)
  ⟨0,σ,H,b,st,[],[],l,by omega,Nat.zero_le _,I,DE.of (Ext.refl _ _),S,RE,by simpa using hD,RVs.nil,t0,fun a ha=>(hf a ha).1,by simpa using hv,rfl⟩
 rintro n s1 ⟨i,σ1,H1,b1,st1,done,doneV,m,hn,hi,I1,e1,S1,R1,hD1,rd1,t1,fr1,hv1,hm⟩
 show wpAny _ X.A ((compTurn (.ListComp elt gens scope pos) d (.ref it) (.ref D) X.env).onRaise (fun x=>do noteFrame x X.env;theTreesLotGoes x)) _ _ s1
 refine wpAny_noted ?_
 rw [hturn]
 refine wpAny_bind (wpAny_standAt (wpAny_bind ?_))
 have hz1:D∈b1.z:=by rw [e1.same];exact hDz
 by_cases hlt:i < w.l.length
 ·have hd:w.l.drop i=w.l[i]::w.l.drop (i + 1):=List.drop_eq_getElem_cons hlt
  rw [hd] at hv1
  unfold qc at hv1
  by_cases hG:w.G st1
  ·rw [if_pos hG] at hv1
   obtain ⟨h1,h2⟩:=hit H1 b1 st1 e1.toWE S1 hG
   obtain ⟨go,yl⟩:=h1 i w.l[i] (List.getElem?_eq_getElem hlt)
   cases ek:QJ g rest r w.l[i] st1 with
   |no=>rw [ek] at hv1;cases hv1
   |ex x s5=>rw [ek] at hv1;cases hv1
   |ok l1 s5 =>
    rw [ek] at hv1
    have hv1:(qc w.G (QJ g rest r) (w.l.drop (i + 1)) s5).bind (fun m s' => .ok (l1++m) s') = .ok m st':=hv1
    cases ek2:qc w.G (QJ g rest r) (w.l.drop (i + 1)) s5 with
    |no=>rw [ek2] at hv1;cases hv1
    |ex x s6=>rw [ek2] at hv1;cases hv1
    |ok m2 s6 =>
     rw [ek2] at hv1
     have hv1:Rs.ok (l1++m2) s6 = .ok m st':=hv1
     injection hv1 with hv1a hv1b
     subst hv1a;subst hv1b
     refine thn (T.item X rfl rfl rfl rfl i pins s1 σ1 H1 _ I1 (stat fr1) t1 go) fun rr s2 ⟨u,hr,h4⟩ => ?_
     subst hr
     refine wpAny_bind (thn h4 fun _ s3 ⟨x,H3,I3,r3,y3,t3,fr3⟩ => ?_)
     obtain ⟨sm3,S3,rx3⟩:=yl x H3 y3
     have e3:Ext H1 b1 H3 b1:=Ext.of_same sm3
     have hD3:=sm3 _ _ hD1
     unfold QJ at ek
     cases eg:g.g w.l[i] r with
     |none=>rw [eg] at ek;cases ek
     |some r' =>
      rw [eg] at ek
      have ek:(Q7 g.ts r' st1).bind (fun k s1=>if k=true then rest r' s1 else .ok [] s1) = .ok l1 s5:=ek
      cases et:Q7 g.ts r' st1 with
      |no=>rw [et] at ek;cases ek
      |ex x s7=>rw [et] at ek;cases ek
      |ok k s7 =>
       rw [et] at ek
       have ek:(if k=true then rest r' s7 else .ok [] s7) = .ok l1 s5:=ek
       have I3':=I3.pinned (stat fr3) (T.obj _ _ t3)
       refine wpAny_bind (wpAny_mono (hg.tg _ s3 σ1 H3 x u (fun σ' H'=>H'=H3∧REnv X.K H3 b1 r' σ') I3' r3 ⟨b1,r,w.l[i],st1,S3,R1.ext e3,rx3,r',eg,fun s' R'=>⟨rfl,R'⟩⟩) (fun _ s4 hq => ?_) fun e' s' z=>(hx e' s' z).elim)
       obtain ⟨σ4,H4,I4,rfl,R4⟩:=hq
       refine wpAny_bind (j0 hx hg.ts I4 S3 R4 et fun s5' H5 b5 I5 e5 S5 => ?_)
       have hz5:D∈b5.z:=by rw [e5.same];exact hz1
       have hD5:=e5.hid _ _ hz1 hD3
       have e15:DE D H b H5 b5:=(e1.trans (DE.of e3)).trans (DE.of e5)
       have back:∀ {s7':Shared} {σ7:L2.St} {H7:Hp} {b7:Bz} {l1V:List V},L2.Inv X (pins++zM fp s3.heap) σ7 H7 s7'->DE D H5 b5 H7 b7->SR X.K H7 b7 s5->REnv X.K H7 b7 r' σ7->H7 D=some (.lst (accV++doneV++l1V))->RVs X.K H7 b7 l1 l1V ->
         ∃ m,m < n ∧ ∃ i σ1 H1 b1 st1 done doneV mm,m=w.l.length + 1 - i∧i≤w.l.length∧L2.Inv X pins σ1 H1 s7'∧DE D H b H1 b1∧SR X.K H1 b1 st1∧REnv X.K H1 b1 r σ1∧H1 D=some (.lst (accV++doneV))∧RVs X.K H1 b1 done doneV∧tn i s7'.heap∧(∀ a∈fp,H1 a=none) ∧
         qc w.G (QJ g rest r) (w.l.drop i) st1 = .ok mm s6∧done++mm=l:=fun {s7' σ7 H7 b7 l1V} I7 e7 S7 R7 hD7 rl7=>by
        refine ⟨w.l.length + 1 - (i + 1),by omega,i + 1,σ7,H7,b7,s5,done++l1,doneV++l1V,m2,rfl,hlt,I7.unpinned,e15.trans e7,S7,R7.le (hg.fr _ _ _ eg),by rw [hD7,List.append_assoc],?_,T.keep _ _ _ t3 fun a ha o e=>(I7.pin (a,o) (List.mem_append_right _ (List.mem_append_right _ (Wm ha e)))).1,fun a ha => ?_,ek2,by rw [List.append_assoc];exact hm⟩
        ·exact RVs.append (RVs.wext e7.toWE done (RVs.ext e5 done (RVs.ext e3 done rd1))) rl7
        ·obtain ⟨o,e,_⟩:=T.obj _ _ t3 a ha
         exact (I7.pin (a,o) (List.mem_append_right _ (List.mem_append_right _ (Wm ha e)))).2.1
       cases k with
       |false =>
        rw [if_neg Bool.false_ne_true] at ek ⊢
        injection ek with ek1 ek2'
        subst ek1;subst ek2'
        refine wpAny_pure ⟨rfl,back I5 (DE.of (Ext.refl _ _)) S5 (R4.ext e5) (by rw [List.append_nil];exact hD5) RVs.nil⟩
       |true =>
        rw [if_pos rfl] at ek ⊢
        refine hin _ s5' σ4 H5 b5 r' s7 s5 l1 (accV++doneV) _ _ I5 S5 (R4.ext e5) hz5 hD5 ek ?_ fun s8 σ8 H8 b8 lV I8 e8 S8 R8 hD8 r8=>⟨rfl,back I8 e8 S8 R8 hD8 r8⟩
        have h1:=rd1.length
        have h2:l.length=done.length + (l1.length + m2.length):=by rw [← hm,List.length_append,List.length_append]
        rw [List.length_append];omega
  ·rw [if_neg hG] at hv1;cases hv1
 ·have hl:i=w.l.length:=by omega
  subst hl
  rw [List.drop_length] at hv1
  unfold qc at hv1
  by_cases hG:w.G st1
  ·rw [if_pos hG] at hv1
   injection hv1 with k1 k2
   subst k1;subst k2
   obtain ⟨h1,h2⟩:=hit H1 b1 st1 e1.toWE S1 hG
   refine thn (T.done X rfl rfl rfl rfl _ pins s1 σ1 H1 _ I1 (stat fr1) t1 (h2 _ (Nat.le_refl _))) fun r2 s2 ⟨hr,I2⟩ => ?_
   subst hr
   rw [List.append_nil] at hm
   subst hm
   exact wpAny_pure (hR s2 σ1 H1 b1 doneV I2 e1 S1 R1 hD1 rd1)
  ·rw [if_neg hG] at hv1;cases hv1
theorem yT {X:Cx} (hx:∀ e s,X.xe e s->False) {elt:Expr} {gens:List Comprehension} {scope:Scope} {pos:Pos} {f:FE} {D:Addr} (he:VE X E0 elt f) :
  ∀ (gs:List GenF) (cs:List Comprehension) (d:Nat) (c:Comprehension) (g:GenF),gens.drop d=c::cs->GOk X c g->GsOk X cs gs ->
  ∀ (pins:List (Addr×Obj)) (s:Shared) (σ:L2.St) (H:Hp) (b:Bz) (r:qu) (st st':qC) (it:Addr) (fp:List Addr) (tn:Nat->Heap->Prop) (J:It) (w:ItP) (accV:List V) (l:List PV) (R:Result->Shared->Prop),
  L2.Inv X pins σ H s->SR X.K H b st->REnv X.K H b r σ->D∈b.z->H D=some (.lst accV)->Turn X.prog X.w X.K X.A c.target J fp it tn->tn 0 s.heap->(∀ a∈fp,zX X pins H a)->ZQ X.K H b J w ->
  qc w.G (QJ g (QZ gs f) r) w.l st = .ok l st'->accV.length + l.length≤sizeLine ->
  (∀ s' σ' H' b' lV,L2.Inv X pins σ' H' s'->DE D H b H' b'->SR X.K H' b' st'->REnv X.K H' b' r σ'->H' D=some (.lst (accV++lV))->RVs X.K H' b' l lV->R (.ok .next) s') ->
  codeAny (model X.prog X.w) X.A (.compLoop (.ListComp elt gens scope pos) d (.ref it) (.ref D) X.env) R s:=by
 intro gs
 induction gs with
 |nil =>
  intro cs d c g hdr hg hgs pins s σ H b r st st' it fp tn J w accV l R I S RE hDz hD T t0 hf hit hv hsz hR
  cases hgs
  have hgd:gens[d]? = some c:=by
   have:(gens.drop d)[0]? = some c:=by rw [hdr];rfl
   simpa using this
  have hgn:gens[d + 1]? = none:=by
   have:(gens.drop d)[1]? = none:=by rw [hdr];rfl
   simpa using this
  refine Yt hx hg ?_ (yO hgd hg.asy hgn) I S RE hDz hD T t0 hf hit hv hsz hR
  intro pins s σ H b r st st' l accV QF E I S RE hDz hD hv hsz q
  have hv:(f r st).bind (fun p s => .ok [p] s) = .ok l st':=hv
  cases ef:f r st with
  |no=>rw [ef] at hv;cases hv
  |ex x s1=>rw [ef] at hv;cases hv
  |ok p s1 =>
   rw [ef] at hv
   have hv:Rs.ok [p] s1 = .ok l st':=hv
   injection hv with h1 h2
   subst h1;subst h2
   refine wpAny_bind (wpAny_bind (wpAny_mono (he pins s σ H (fun v H' => ∃ b',Ext H b H' b'∧SR X.K H' b' s1∧RV X.K H' b' p v) I ⟨b,r,st,S,RE,by rw [ef];exact fun v H' b' e' S' r'=>⟨b',e',S',r'⟩⟩) (fun u s2 hq => ?_) fun e' s' z=>(hx e' s' z).elim))
   obtain ⟨v,H2,I2,rv,b2,e2,S2,r2⟩:=hq
   have hz2:D∈b2.z:=by rw [e2.same];exact hDz
   refine wpAny_bind (qBP hx I2 (e2.hid _ _ hDz hD) (by rw [List.length_singleton] at hsz;omega) rv fun _ s3 I3=>wpAny_pure (wpAny_pure ?_))
   have dw:DE D H2 b2 (upd H2 D (.lst (accV++[v]))) b2:=DE.wr hz2
   exact q s3 σ _ b2 [v] I3 ((DE.of e2).trans dw) (SR.wrz S2 hz2) ((RE.ext e2).wext dw.toWE) QG (RVs.cons (RV.wext dw.toWE p r2) RVs.nil)
 |cons g2 gs ih =>
  intro cs d c g hdr hg hgs pins s σ H b r st st' it fp tn J w accV l R I S RE hDz hD T t0 hf hit hv hsz hR
  cases hgs with
  | @cons c2 _ cs _ h2 hr2 =>
   have hgd:gens[d]? = some c:=by
    have:(gens.drop d)[0]? = some c:=by rw [hdr];rfl
    simpa using this
   have hgn:gens[d + 1]? = some c2:=by
    have:(gens.drop d)[1]? = some c2:=by rw [hdr];rfl
    simpa using this
   have hdr2:gens.drop (d + 1)=c2::cs:=by
    have:(gens.drop d).drop 1=c2::cs:=by rw [hdr];rfl
    rwa [List.drop_drop] at this
   refine Yt hx hg ?_ (yL hgd hg.asy hgn h2.asy) I S RE hDz hD T t0 hf hit hv hsz hR
   intro pins s σ H b r st st' l accV QF E I S RE hDz hD hv hsz q
   have hv:(g2.fi r st).bind (fun w s=>qc w.G (QJ g2 (QZ gs f) r) w.l s) = .ok l st':=hv
   cases ef:g2.fi r st with
   |no=>rw [ef] at hv;cases hv
   |ex x s1=>rw [ef] at hv;cases hv
   |ok w2 s1 =>
    rw [ef] at hv
    have hv:qc w2.G (QJ g2 (QZ gs f) r) w2.l s1 = .ok l st':=hv
    have hi:=h2.it pins s σ H (fun J H' => ∃ b',Ext H b H' b'∧SR X.K H' b' s1∧ZQ X.K H' b' J w2) I ⟨b,r,st,S,RE,by rw [ef];exact fun J H' b' e' S' i'=>⟨b',e',S',i'⟩⟩
    refine wpAny_bind (wpAny_mono hi (fun u s2 hq => ?_) fun e' s' z=>(hx e' s' z).elim)
    refine wpAny_bind (wpAny_standAt (wpAny_bind (wpAny_of_eq (h2.fold u) (wpAny_bind (wpAny_holding (wpAny_mono hq (fun itv s3 hq3 => ?_) fun e' s' z=>(hx e' s' z).elim))))))
    obtain ⟨it2,fp2,tn2,J2,H3,rfl,I3,T2,t2,f2,b3,e3,S3,i3⟩:=hq3
    have hz3:D∈b3.z:=by rw [e3.same];exact hDz
    have hD3:=e3.hid _ _ hDz hD
    refine wpAny_bind (wpAny_runOwn ?_)
    have loop:=ih cs (d + 1) c2 g2 hdr2 h2.toGOk hr2 pins s3 σ H3 b3 r s1 st' it2 fp2 tn2 J2 w2 accV l (fun r s'=>match r with
     | .ok f=>wpAny (model X.prog X.w) X.A (again (.compLoop (.ListComp elt gens scope pos) d (.ref it) (.ref D) X.env)) QF E s'
     | .error e=>cameBackBy (model X.prog X.w) X.A X.env E e s') I3 S3 (RE.ext e3) hz3 hD3 T2 t2 f2 i3 hv hsz
     fun s' σ' H' b' lV I' e' S' R' hD' r'=>wpAny_pure (q s' σ' H' b' lV I' ((DE.of e3).trans e') S' R' hD' r')
    exact Wk hgn h2.asy loop (T2.self X.A 0 s3 _ _ t2 loop)
theorem jg {M:Model} {A:Around} {E:Value->Shared->Prop} {s:Shared} {scope:Scope} {env:Env} {cl:List (Str×Addr)} {Q:Env->Shared->Prop}
  (h:Q { scope:=scope,locals:=s.heap.objs.size,globals:=env.globals,cells:=cellsFrom (s.heap.objs.size + 1) scope.names cl,qual:=env.qual,func:=none,code:=env.code,frame:=env.frame,builtins:=env.builtins } { s with heap:=pushCells (s.heap.push { cls := .type "dict",data := .dict #[] }) scope.names }) :
  wpAny M A (newFunctionEnv scope env.globals cl [] env.qual none .none (some env)) Q E s:=by
 simp only [newFunctionEnv,Option.isSome_some,if_true]
 refine wpAny_bind (wpAny_alloc ?_)
 refine wpAny_bind (wpAny_layCells _ (fun name kind cells=>by cases hkc:kind==NameKind.cell <;> simp [hkc]) _ _ _ _ ?_)
 rw [show ({ s with heap:=s.heap.push { cls := .type "dict",data := .dict #[] } }:Shared).heap.objs.size=s.heap.objs.size + 1 from Heap.size_push ..]
 exact wpAny_bind (wpAny_pure (wpAny_pure h))
def Wf (caps:List Nat) (n:Nat) (r:qu):qu:=(caps.map fun j=>(r[j]?).join)++List.replicate n none
noncomputable def qg (caps:List Nat) (n:Nat) (fi:FI) (g:FG) (ts:List FT) (gs:List GenF) (f:FE):FL:=fun r st=>(fi r st).bind fun w s=>match qc w.G (QJ ⟨fi,g,ts⟩ (QZ gs f) (Wf caps n r)) w.l s with
 | .ok l s'=>if l.length≤sizeLine then .ok l s' else .no
 |_ => .no
theorem ju {K:W.Frag} {H:Hp} {b:Bz} {r:qu} {σ:L2.St} {caps:List Nat} {n:Nat} (R:REnv K H b r σ):REnv K H b (Wf caps n r) ((caps.map fun j=>(σ[j]?).join)++List.replicate n none):=by
 refine ⟨by simp [Wf],fun i p e => ?_⟩
 unfold Wf at e
 by_cases hi:i < caps.length
 ·rw [List.getElem?_append_left (by simpa using hi),List.getElem?_map] at e
  rw [List.getElem?_append_left (by simpa using hi),List.getElem?_map]
  cases ej:caps[i]? with
  |none=>rw [ej] at e;cases e
  |some j =>
   rw [ej] at e
   have e':(r[j]?).join=some p:=Option.some.inj e
   have e2:r[j]? = some (some p):=by
    cases q:r[j]? with
    |none=>rw [q] at e';cases e'
    |some o=>rw [q] at e';exact congrArg some e'
   obtain ⟨v,h1,h2⟩:=R.2 j p e2
   refine ⟨v,?_,h2⟩
   show some (σ[j]?).join=some (some v)
   rw [h1];rfl
 ·rw [List.getElem?_append_right (by simpa using hi),List.getElem?_replicate] at e
  split at e <;> cases e
theorem yX {K:W.Frag} {H:Hp} {b:Bz} {J:It} {w:ItP} {D:Addr} {o:HO} (h:ZQ K H b J w) (hD:H D=none):ZQ K (upd H D o) ⟨b.b,D::b.z⟩ J w:=fun H1 b1 st1 e S g=>h H1 b1 st1 ((WE.hide hD).trans e) S g
theorem Q4 {X:Cx} {E:XK} {elt:Expr} {c:Comprehension} {cs:List Comprehension} {scope:Scope} {pos:Pos} {capN locN:List Str} {caps:List Nat} {fi:FI} {g:FG} {ts:List FT} {gs:List GenF} {f:FE} (hcs:CSc X scope capN locN caps)
  (hi:VI X E c.target c.iter fi) (sub:∀ s H fp pn,VE (cCx X scope (capN++locN) s H fp pn) E0 elt f∧GOk (cCx X scope (capN++locN) s H fp pn) c ⟨fi,g,ts⟩∧GsOk (cCx X scope (capN++locN) s H fp pn) cs gs)
  (hs:∀ x,foldedSetIterable c.iter X.env x=pure x:=by intro _;rfl):VN X E (.ListComp elt (c::cs) scope pos) (qg caps locN.length fi g ts gs f):=by
 intro pins s σ H Q I hq
 obtain ⟨b,r,st,S,RE,P⟩:=hq
 have hfree:∀ x∈scope.names,x.2 = .free -> ∃ c,X.env.cells.lookup x.1=some c:=fun x hx hk=>I.ok.has x.1 (hcs.fr x hx hk)
 obtain ⟨c1,c2,c3,c4⟩:=c
 have hasy:c4=0:=(sub s H [] []).2.1.asy
 subst hasy
 rw [eval_ListComp]
 refine wpAny_comprehension_free (use:=none) rfl hs (Zu hfree) hcs.kind (fun x hx hl=>w8 hcs.nd (by rw [← hl];exact hx)) ?_
 show wpAny _ _ (eval c2 X.env) _ _ s
 unfold qg at P
 cases ef:fi r st with
 |no=>rw [ef] at P;exact P.elim
 |ex x s1 =>
  rw [ef] at P
  refine thn (hi pins s σ H (fun _ _=>False) I ⟨b,r,st,S,RE,by rw [ef];exact P⟩) fun v s2 h2=>thn h2 fun itv s3 h3 => ?_
  obtain ⟨_,_,_,_,_,_,_,_,_,_,z⟩:=h3
  exact z.elim
 |ok w s1 =>
  rw [ef] at P
  refine thn (hi pins s σ H (fun J H' => ∃ b',Ext H b H' b'∧SR X.K H' b' s1∧ZQ X.K H' b' J w) I ⟨b,r,st,S,RE,by rw [ef];exact fun J H' b' e' S' i'=>⟨b',e',S',i'⟩⟩) fun v s2 h2=>thn h2 fun itv s3 h3 => ?_
  obtain ⟨it,fp,tn,J,H2,rfl,I2,T,t2,f2,b2,e2,S2,i2⟩:=h3
  have P:PostN X.K E H b (match qc w.G (QJ ⟨fi,g,ts⟩ (QZ gs f) (Wf caps locN.length r)) w.l s1 with | .ok l s'=>if l.length≤sizeLine then .ok l s' else .no |_ => .no) Q:=P
  cases ev:qc w.G (QJ ⟨fi,g,ts⟩ (QZ gs f) (Wf caps locN.length r)) w.l s1 with
  |no=>rw [ev] at P;exact P.elim
  |ex x s4=>rw [ev] at P;exact P.elim
  |ok l st' =>
   rw [ev] at P
   have P:PostN X.K E H b (if l.length≤sizeLine then .ok l st' else .no) Q:=P
   by_cases hl:l.length≤sizeLine
   ·rw [if_pos hl] at P
    have hfr:H2 s3.heap.objs.size=none:=I2.hok.fresh (Nat.le_refl _)
    refine wpAny_newList ?_
    generalize hs3:({ s3 with heap:=s3.heap.push { cls := .type "list",data := .seq ([]:List Value).toArray } }:Shared)=s3'
    have I3:L2.Inv X pins σ (upd H2 s3.heap.objs.size (.lst [])) s3':=by
     rw [← hs3]
     exact I2.laid (t':=s3.toks) (fun a u e=>Heap.get?_push_of_some _ e) (Nat.le_refl _) (show ObjOk X.prog X.w _ _ _ (.lst []) from ⟨Nat.zero_le _,[],0,.nil,Heap.get?_push_size _ rfl⟩)
    have k3:∀ a o,s3.heap.get? a=some o->s3'.heap.get? a=some o:=fun a o e=>by rw [← hs3];exact Heap.get?_push_of_some _ e
    have hlt:∀ a∈fp,a < s3.heap.objs.size:=fun a ha=>by
     obtain ⟨o,e,_⟩:=T.obj _ _ t2 a ha
     exact Heap.lt_size e
    have f3:∀ a∈fp,zX X pins (upd H2 s3.heap.objs.size (.lst [])) a:=fun a ha=>⟨by rw [qN (Nat.ne_of_lt (hlt a ha))];exact (f2 a ha).1,(f2 a ha).2⟩
    have hlt3:∀ a∈fp,a < s3'.heap.objs.size:=fun a ha=>by
     obtain ⟨o,e,_⟩:=T.obj _ _ t2 a ha
     exact Heap.lt_size (k3 a o e)
    generalize hD:s3.heap.objs.size=D at I3 f3 hfr
    refine jg ?_
    have J0:=yH hcs I3 f3 hlt3 rfl
    obtain ⟨he,hg,hgs⟩:=sub s3' (upd H2 D (.lst [])) fp (X.pn++pins)
    have k4:∀ a o,s3'.heap.get? a=some o->(pushCells (s3'.heap.push { cls := .type "dict",data := .dict #[] }) scope.names).get? a=some o:=fun a o e=>pushCells_keeps _ _ _ _ (Heap.get?_push_of_some _ e)
    have hDz:D ∉ b2.z:=(S2.new_notin hfr).2
    have loop:=yT (X:=cCx X scope (capN++locN) s3' (upd H2 D (.lst [])) fp (X.pn++pins)) (fun _ _ z=>z) (gens:=⟨c1,c2,c3,0⟩::cs) (scope:=scope) (pos:=pos) (D:=D) he gs cs 0 ⟨c1,c2,c3,0⟩ ⟨fi,g,ts⟩ rfl hg hgs [] _ _ _ ⟨b2.b,D::b2.z⟩ (Wf caps locN.length r) s1 st' it fp tn J w [] l
     (compPost (model X.prog X.w) X.A X.xe none (EP X pins σ Q) (.ref D) s3'.heap.objs.size) J0 (SR.hide S2 hfr) (ju ((RE.ext e2).wext (WE.hide hfr))) List.mem_cons_self QG T (T.keep _ _ _ t2 fun a ha o e=>k4 a o (k3 a o e))
     (fun a ha=>⟨(f3 a ha).1,(J0.ok.exf a ha).1,J0.ok.exfs a ha,.inl ha,(J0.ok.exf a ha).2,fun p hp=>(f3 a ha).2.2.2.2.2 p (by simpa [cCx] using hp)⟩) (yX i2 hfr) ev (by simpa using hl)
     (fun s' σ' H' b' lV I' e' S' R' hD' r'=>by
      obtain ⟨m,hn,_⟩:=I'.loc
      refine ⟨m,hn,fun h'' sb => ?_⟩
      have fin:=Y5 I3 f3 I' sb
      have hz':b'.z=D::b2.z:=e'.same
      refine ⟨.ref D,H',fin,rfl,?_⟩
      have ex:Ext H2 b2 H' ⟨b'.b,b2.z⟩:=by
       refine ⟨⟨?_,⟨[],rfl,by simp⟩,fun a o ha ho => ?_,fun a o ha => ?_⟩,rfl,fun a o hz ha => ?_,fun a o u ha=>e'.fz a o u (qM ha hfr) (by rw [qN (qM ha hfr)];exact ha)⟩
       ·obtain ⟨n,hb,hh⟩:=e'.more
        exact ⟨n,hb,fun a ha=>by
         have:=hh a ha
         by_cases q:a=D
         ·rw [q];exact hfr
         ·rwa [qN q] at this⟩
       ·have hne:a≠D:=qM ha hfr
        exact e'.keep a o (by rw [qN hne];exact ha) ⟨ho.1,fun z=>(List.mem_cons.mp z).elim hne ho.2⟩
       ·have hne:a≠D:=qM ha hfr
        exact e'.dom a o (by rw [qN hne];exact ha)
       ·have hne:a≠D:=qM ha hfr
        exact e'.hid a o (List.mem_cons_of_mem _ hz) hne (by rw [qN hne];exact ha)
      have hb':(⟨b'.b,D::b2.z⟩:Bz)=b':=by rw [← hz']
      refine P D lV H' ⟨b'.b,b2.z⟩ (e2.trans ex) (e2.none_of hfr) (by simpa using hD') hDz ?_ ?_
      ·show SR X.K H' ⟨b'.b,D::b2.z⟩ st'
       rw [hb'];exact S'
      ·show RVs X.K H' ⟨b'.b,D::b2.z⟩ l lV
       rw [hb'];exact r')
    exact Wk rfl rfl loop (T.self X.A 0 _ _ _ (T.keep _ _ _ t2 fun a ha o e=>k4 a o (k3 a o e)) loop)
   ·rw [if_neg hl] at P;exact P.elim
def Qh (n:Nat) (l:List PV):qu:=l.map some++List.replicate (n - l.length) none
def qD1:RS->Rs PV
 | .nx _ st => .ok .non st
 | .rt v st => .ok v st
 | .ex x st => .ex x st
 |_ => .no
def Refn (n:Nat) (r r':Rs PV):Prop := ∀ (K:W.Frag) (E:XK) (H:Hp) (b:Bz) (Q:VK),b.b.length=n->PostE K E H b r' Q->PostE K E H b r Q
theorem Refn.refl {n:Nat} {r:Rs PV}:Refn n r r:=fun _ _ _ _ _ _ h=>h
theorem REnv.init {K:W.Frag} {H:Hp} {b:Bz} {N:List Str} {l:List PV} {vs:List V} (h:RVs K H b l vs):REnv K H b (Qh N.length l) (start N vs):=by
 have hl:=h.length
 refine ⟨by simp [Qh,L2.start,hl],fun i p e => ?_⟩
 unfold Qh at e
 unfold L2.start
 by_cases hi:i < l.length
 ·rw [List.getElem?_append_left (by simpa using hi),List.getElem?_map] at e
  rw [List.getElem?_append_left (by simpa [← hl] using hi),List.getElem?_map]
  cases q:l[i]? with
  |none=>rw [q] at e;cases e
  |some p' =>
   rw [q] at e
   cases e
   obtain ⟨v,h1,h2⟩:=h.get q
   exact ⟨v,by rw [h1];rfl,h2⟩
 ·rw [List.getElem?_append_right (by simpa using hi),List.getElem?_replicate] at e
  split at e <;> cases e
section
variable {P:Program} {w:World} {K:W.Frag} {mg:Str->Option Value} {base:Heap}
theorem okV {CX:CXT} {x qual:Str} {st:Stmt} {f:Addr} {fd:FuncData} {N ps:List Str} {k:Nat} {g:List PV->qC->Rs PV} (F:Fun K x qual st f fd) (S:FnScope N ps (qJ st))
  (body:∀ (cdv:Value) (A:Around) (outer:List Env) (s:Shared) (H:Hp) (E:XK),Room k (A.deeper (envOfC qual (qJ st) s.heap.objs.size f cdv))->(0 < k->A.handled=none) ->
   ∃ B:FS,VSs (wR CX P w K mg base N qual (qJ st) f cdv A outer s H E) E (qe st) B ∧ ∀ l s0,l.length=ps.length->g l s0 ≠ .no->Refn s0.length (qD1 (B (Qh N.length l) s0)) (g l s0)):FnOk P w K mg base CX (k + 1) f fd ps (spG K ps.length g):=by
 obtain ⟨oc,od,kV,doc,pm,an,cdv,ct,osl,rfl,lk,hcd⟩:=F.ex
 refine qHE lk hcd S (fun vs H Q E h=>h.1) fun A outer s H vs Q E hr hcm hsp => ?_
 obtain ⟨B,hB,hg⟩:=body cdv A outer s H E hr hcm
 obtain ⟨hl,b,l,st0,S0,r0,P0⟩:=hsp
 refine ⟨_,hB,b,Qh N.length l,st0,S0,REnv.init r0,?_⟩
 have hne:g l st0 ≠ .no:=fun z=>by rw [z] at P0;exact P0
 have P1:=hg l st0 (by rw [r0.length];exact hl) hne K E H b Q S0.len P0
 cases e:B (Qh N.length l) st0 with
 |nx r st=>rw [e] at P1;exact fun s H' b' e' S' R'=>P1 .non H' b' e' S' (by unfold RV;rfl)
 |rt v st=>rw [e] at P1;exact P1
 |bk r st=>rw [e] at P1;exact P1.elim
 |ct r st=>rw [e] at P1;exact P1.elim
 |ex x st=>rw [e] at P1;exact P1
 |no=>rw [e] at P1;exact P1.elim
end
mutual
def peq:PV->PV->Bool
 | .non,.non=>true
 | .bl a,.bl c=>a==c
 | .int a,.int c=>a==c
 | .bl a,.int c=>(if a then 1 else 0)==c
 | .int a,.bl c=>a==(if c then 1 else 0)
 | .str a,.str c=>a==c
 | .tup l,.tup m=>peqs l m
 | .lst l,.lst m=>peqs l m
 |_,_=>false
def peqs:List PV->List PV->Bool
 |[],[]=>true
 |p::ps,q::qs=>peq p q&&peqs ps qs
 |_,_=>false
end
mutual
def nr:PV->Bool
 | .tup l=>nrs l
 | .lst l=>nrs l
 | .ref _=>false
 | .dct=>false
 | .ty _=>false
 | .fn _=>false
 | .exc _ _=>false
 |_=>true
def nrs:List PV->Bool
 |[]=>true
 |p::ps=>nr p&&nrs ps
end
mutual
def dep:PV->Nat
 | .tup l=>deps l + 1
 | .lst l=>deps l + 1
 |_=>0
def deps:List PV->Nat
 |[]=>0
 |p::ps=>max (dep p) (deps ps)
end
mutual
def RW (K:W.Frag) (H:Hp):PV->V->Prop
 | .non,v=>v = .non
 | .bl x,v=>v = .bl x
 | .int i,v=>v = .int i
 | .str x,v=>v = .str x
 | .tup l,v => ∃ a xs,v = .ref a∧SqT K H a xs∧RWs K H l xs
 | .lst l,v => ∃ a xs,v = .ref a∧SqL K H a xs∧RWs K H l xs
 |_,_=>False
def RWs (K:W.Frag) (H:Hp):List PV->List V->Prop
 |[],xs=>xs=[]
 |p::ps,xs => ∃ x r,xs=x::r∧RW K H p x∧RWs K H ps r
end
mutual
theorem RV.rw {K:W.Frag} {H:Hp} {b:Bz}:∀ (p:PV) {v:V},nr p=true->RV K H b p v->RW K H p v
 | .non,_,_,h=>by unfold RV at h;unfold RW;exact h
 | .bl _,_,_,h=>by unfold RV at h;unfold RW;exact h
 | .int _,_,_,h=>by unfold RV at h;unfold RW;exact h
 | .str _,_,_,h=>by unfold RV at h;unfold RW;exact h
 | .tup l,_,n,h=>by
  unfold RV at h;unfold RW;unfold nr at n
  obtain ⟨a,xs,h1,h2,h3⟩:=h
  exact ⟨a,xs,h1,h2.sq,RVs.rws l n h3⟩
 | .lst l,_,n,h=>by
  unfold RV at h;unfold RW;unfold nr at n
  obtain ⟨a,xs,h1,h2,h3⟩:=h
  exact ⟨a,xs,h1,h2.sq,RVs.rws l n h3⟩
 | .ref _,_,n,_=>by unfold nr at n;cases n
 | .dct,_,n,_=>by unfold nr at n;cases n
 | .ty _,_,n,_=>by unfold nr at n;cases n
 | .fn _,_,n,_=>by unfold nr at n;cases n
 | .exc _ _,_,n,_=>by unfold nr at n;cases n
theorem RVs.rws {K:W.Frag} {H:Hp} {b:Bz}:∀ (l:List PV) {xs:List V},nrs l=true->RVs K H b l xs->RWs K H l xs
 |[],_,_,h=>by unfold RVs at h;unfold RWs;exact h
 |p::ps,_,n,h=>by
  unfold RVs at h;unfold RWs;unfold nrs at n
  rw [Bool.and_eq_true] at n
  obtain ⟨x,r,h1,h2,h3⟩:=h
  exact ⟨x,r,h1,RV.rw p n.1 h2,RVs.rws ps n.2 h3⟩
end
theorem RWs.length {K:W.Frag} {H:Hp}:∀ {l:List PV} {xs:List V},RWs K H l xs->l.length=xs.length
 |[],_,h=>by unfold RWs at h;rw [h];rfl
 |p::ps,_,h=>by
  unfold RWs at h
  obtain ⟨x,r,rfl,_,h3⟩:=h
  rw [List.length_cons,List.length_cons,RWs.length h3]
section
variable {X:Cx} {pins:List (Addr×Obj)} {σ:L2.St} {H:Hp} {s:Shared}
theorem za (I:L2.Inv X pins σ H s) {a:Addr} {xs ys:List V} (h1:SqL X.K H a xs) (h2:SqT X.K H a ys):False:=by
 obtain ⟨its,_,p,_⟩:=I.list h1
 obtain ⟨its',_,q,_⟩:=I.tuple h2
 obtain ⟨o,ho,hc,n,hd⟩:=p.isList
 obtain ⟨o',ho',hc',_⟩:=q
 rw [ho] at ho';cases ho'
 rw [hc] at hc'
 injection hc' with z
 exact absurd z (by decide)
mutual
theorem RW.same (I:L2.Inv X pins σ H s):∀ (p q:PV) {v:V},RW X.K H p v->RW X.K H q v->peq p q=true
 | .non,q,v,h,g=>by
  unfold RW at h;subst h
  cases q <;> unfold RW at g <;> first |rfl |exact (g:False).elim |(obtain ⟨_,_,e,_⟩:=g;cases e) |cases g
 | .bl x,q,v,h,g=>by
  unfold RW at h;subst h
  cases q <;> unfold RW at g <;> first |(obtain ⟨_,_,e,_⟩:=g;cases e) |(cases g;simp [peq];done) |exact (g:False).elim |cases g
 | .int x,q,v,h,g=>by
  unfold RW at h;subst h
  cases q <;> unfold RW at g <;> first |(obtain ⟨_,_,e,_⟩:=g;cases e) |(cases g;simp [peq];done) |exact (g:False).elim |cases g
 | .str x,q,v,h,g=>by
  unfold RW at h;subst h
  cases q <;> unfold RW at g <;> first |(obtain ⟨_,_,e,_⟩:=g;cases e) |(cases g;simp [peq];done) |exact (g:False).elim |cases g
 | .tup l,q,v,h,g=>by
  unfold RW at h
  obtain ⟨a,xs,rfl,h2,h3⟩:=h
  cases q with
  |tup m =>
   unfold RW at g
   obtain ⟨a',ys,e,g2,g3⟩:=g
   cases e
   have:=I.tuple_inj h2 g2
   subst this
   unfold peq
   exact RWs.same I l m h3 g3
  |lst m =>
   unfold RW at g
   obtain ⟨a',ys,e,g2,g3⟩:=g
   cases e
   exact (za I g2 h2).elim
  |ref _=>unfold RW at g;exact g.elim
  |dct=>unfold RW at g;exact g.elim
  |ty _=>unfold RW at g;exact g.elim
  |fn _=>unfold RW at g;exact g.elim
  |exc _ _=>unfold RW at g;exact g.elim
  |non=>unfold RW at g;cases g
  |bl _=>unfold RW at g;cases g
  |int _=>unfold RW at g;cases g
  |str _=>unfold RW at g;cases g
 | .lst l,q,v,h,g=>by
  unfold RW at h
  obtain ⟨a,xs,rfl,h2,h3⟩:=h
  cases q with
  |lst m =>
   unfold RW at g
   obtain ⟨a',ys,e,g2,g3⟩:=g
   cases e
   have:=I.list_inj h2 g2
   subst this
   unfold peq
   exact RWs.same I l m h3 g3
  |tup m =>
   unfold RW at g
   obtain ⟨a',ys,e,g2,g3⟩:=g
   cases e
   exact (za I h2 g2).elim
  |ref _=>unfold RW at g;exact g.elim
  |dct=>unfold RW at g;exact g.elim
  |ty _=>unfold RW at g;exact g.elim
  |fn _=>unfold RW at g;exact g.elim
  |exc _ _=>unfold RW at g;exact g.elim
  |non=>unfold RW at g;cases g
  |bl _=>unfold RW at g;cases g
  |int _=>unfold RW at g;cases g
  |str _=>unfold RW at g;cases g
 | .ref _,_,_,h,_=>by unfold RW at h;exact h.elim
 | .dct,_,_,h,_=>by unfold RW at h;exact h.elim
 | .ty _,_,_,h,_=>by unfold RW at h;exact h.elim
 | .fn _,_,_,h,_=>by unfold RW at h;exact h.elim
 | .exc _ _,_,_,h,_=>by unfold RW at h;exact h.elim
theorem RWs.same (I:L2.Inv X pins σ H s):∀ (l m:List PV) {xs:List V},RWs X.K H l xs->RWs X.K H m xs->peqs l m=true
 |[],m,xs,h,g=>by
  unfold RWs at h;subst h
  cases m with
  |nil=>rfl
  |cons _ _=>unfold RWs at g;obtain ⟨_,_,e,_⟩:=g;cases e
 |p::ps,m,xs,h,g=>by
  unfold RWs at h
  obtain ⟨x,r,rfl,h2,h3⟩:=h
  cases m with
  |nil=>unfold RWs at g;cases g
  |cons q qs =>
   unfold RWs at g
   obtain ⟨y,t,e,g2,g3⟩:=g
   cases e
   unfold peqs
   rw [RW.same I p q h2 g2,RWs.same I ps qs h3 g3];rfl
end
def eqN (l m:List PV) (j:Nat):Bool:=match l[j]?,m[j]? with
 |some p,some q=>peq p q
 |_,_=>false
theorem Wi:∀ (l m:List PV),l.length=m.length->(List.range l.length).all (eqN l m)=peqs l m
 |[],[],_=>rfl
 |p::ps,q::qs,h=>by
  have ih:=Wi ps qs (by simpa using h)
  rw [List.length_cons,List.range_succ_eq_map,List.all_cons,List.all_map]
  unfold peqs
  have e0:eqN (p::ps) (q::qs) 0=peq p q:=rfl
  have e1:(eqN (p::ps) (q::qs) ∘ Nat.succ)=eqN ps qs:=by funext j;rfl
  rw [e0,e1,ih]
 |[],_::_,h=>by simp at h
 |_::_,[],h=>by simp at h
theorem WF:∀ (l m:List PV),l.length≠m.length->peqs l m=false
 |[],[],h=>absurd rfl h
 |[],_::_,_=>rfl
 |_::_,[],_=>rfl
 |p::ps,q::qs,h=>by
  unfold peqs
  rw [WF ps qs (by intro z;apply h;rw [List.length_cons,List.length_cons,z]),Bool.and_false]
theorem RWs.get' {K:W.Frag} {H:Hp}:∀ {l:List PV} {xs:List V} {i:Nat} {x:V},RWs K H l xs->xs[i]? = some x -> ∃ p,l[i]? = some p∧RW K H p x
 |[],_,_,_,h,e=>by unfold RWs at h;subst h;simp at e
 |p::ps,_,0,x,h,e=>by
  unfold RWs at h
  obtain ⟨y,r,rfl,h2,h3⟩:=h
  simp at e;subst e
  exact ⟨p,rfl,h2⟩
 |p::ps,_,i + 1,x,h,e=>by
  unfold RWs at h
  obtain ⟨y,r,rfl,h2,h3⟩:=h
  obtain ⟨q,e1,e2⟩:=RWs.get' (i:=i) h3 (by simpa using e)
  exact ⟨q,by simpa using e1,e2⟩
theorem Vals.get2:∀ {xs:List V} {us:List Value} {i:Nat} {u:Value},Vals xs us->us[i]? = some u -> ∃ x,xs[i]? = some x∧RelV x u
 |_,_,_,_,.nil,e=>by simp at e
 |_,_,0,_,.cons r _,e=>by simp at e;subst e;exact ⟨_,rfl,r⟩
 |_,_,i + 1,u,.cons _ t,e=>by
  obtain ⟨x,h1,h2⟩:=Vals.get2 (i:=i) (u:=u) t (by simpa using e)
  exact ⟨x,by simpa using h1,h2⟩
theorem Qs (I:L2.Inv X pins σ H s) (p q:PV) {v u:V} {uv uu:Value} {A:Around} (hd:dep p=0) (hu':A.units < cLine) (hp:RW X.K H p v) (hq:RW X.K H q u) (rv:RelV v uv) (ru:RelV u uu):SeqAt.EqAt A s uv uu (peq p q):=by
 cases p with
 |tup l=>unfold dep at hd;omega
 |lst l=>unfold dep at hd;omega
 |ref _=>unfold RW at hp;exact hp.elim
 |dct=>unfold RW at hp;exact hp.elim
 |ty _=>unfold RW at hp;exact hp.elim
 |fn _=>unfold RW at hp;exact hp.elim
 |exc _ _=>unfold RW at hp;exact hp.elim
 |non =>
  unfold RW at hp;subst hp;cases rv
  cases q with
  |non=>unfold RW at hq;subst hq;cases ru;exact SeqAt.EqAt.same _
  |bl _=>unfold RW at hq;subst hq;cases ru;exact SeqAt.EqAt.none_bool _
  |int _=>unfold RW at hq;subst hq;obtain ⟨t,rfl⟩:=ru;exact SeqAt.EqAt.none_int _ _
  |str _=>unfold RW at hq;subst hq;obtain ⟨t,rfl⟩:=ru;exact SeqAt.EqAt.none_str _ _
  |tup _=>unfold RW at hq;obtain ⟨a,xs,rfl,h2,_⟩:=hq;cases ru;obtain ⟨its,_,t,_⟩:=I.tuple h2;exact SeqAt.EqAt.none_tuple t hu'
  |lst _=>unfold RW at hq;obtain ⟨a,xs,rfl,h2,_⟩:=hq;cases ru;obtain ⟨its,_,t,_⟩:=I.list h2;exact SeqAt.EqAt.none_list t.isList hu'
  |ref _=>unfold RW at hq;exact hq.elim
  |dct=>unfold RW at hq;exact hq.elim
  |ty _=>unfold RW at hq;exact hq.elim
  |fn _=>unfold RW at hq;exact hq.elim
  |exc _ _=>unfold RW at hq;exact hq.elim
 |bl x =>
  unfold RW at hp;subst hp;cases rv
  cases q with
  |non=>unfold RW at hq;subst hq;cases ru;exact SeqAt.EqAt.bool_none _
  |bl _=>unfold RW at hq;subst hq;cases ru;exact SeqAt.EqAt.bool_bool _ _
  |int _=>unfold RW at hq;subst hq;obtain ⟨t,rfl⟩:=ru;exact SeqAt.EqAt.bool_int _ _ _
  |str _=>unfold RW at hq;subst hq;obtain ⟨t,rfl⟩:=ru;exact SeqAt.EqAt.bool_str _ _ _
  |tup _=>unfold RW at hq;obtain ⟨a,xs,rfl,h2,_⟩:=hq;cases ru;obtain ⟨its,_,t,_⟩:=I.tuple h2;exact SeqAt.EqAt.bool_tuple _ t hu'
  |lst _=>unfold RW at hq;obtain ⟨a,xs,rfl,h2,_⟩:=hq;cases ru;obtain ⟨its,_,t,_⟩:=I.list h2;exact SeqAt.EqAt.bool_list _ t.isList hu'
  |ref _=>unfold RW at hq;exact hq.elim
  |dct=>unfold RW at hq;exact hq.elim
  |ty _=>unfold RW at hq;exact hq.elim
  |fn _=>unfold RW at hq;exact hq.elim
  |exc _ _=>unfold RW at hq;exact hq.elim
 |int x =>
  unfold RW at hp;subst hp;obtain ⟨t0,rfl⟩:=rv
  cases q with
  |non=>unfold RW at hq;subst hq;cases ru;exact SeqAt.EqAt.int_none _ _
  |bl _=>unfold RW at hq;subst hq;cases ru;exact SeqAt.EqAt.int_bool _ _ _
  |int _=>unfold RW at hq;subst hq;obtain ⟨t,rfl⟩:=ru;exact SeqAt.EqAt.int_int _ _ _ _
  |str _=>unfold RW at hq;subst hq;obtain ⟨t,rfl⟩:=ru;exact SeqAt.EqAt.int_str _ _ _ _
  |tup _=>unfold RW at hq;obtain ⟨a,xs,rfl,h2,_⟩:=hq;cases ru;obtain ⟨its,_,t,_⟩:=I.tuple h2;exact SeqAt.EqAt.int_tuple _ _ t hu'
  |lst _=>unfold RW at hq;obtain ⟨a,xs,rfl,h2,_⟩:=hq;cases ru;obtain ⟨its,_,t,_⟩:=I.list h2;exact SeqAt.EqAt.int_list _ _ t.isList hu'
  |ref _=>unfold RW at hq;exact hq.elim
  |dct=>unfold RW at hq;exact hq.elim
  |ty _=>unfold RW at hq;exact hq.elim
  |fn _=>unfold RW at hq;exact hq.elim
  |exc _ _=>unfold RW at hq;exact hq.elim
 |str x =>
  unfold RW at hp;subst hp;obtain ⟨t0,rfl⟩:=rv
  cases q with
  |non=>unfold RW at hq;subst hq;cases ru;exact SeqAt.EqAt.str_none _ _
  |bl _=>unfold RW at hq;subst hq;cases ru;exact SeqAt.EqAt.str_bool _ _ _
  |int _=>unfold RW at hq;subst hq;obtain ⟨t,rfl⟩:=ru;exact SeqAt.EqAt.str_int _ _ _ _
  |str _=>unfold RW at hq;subst hq;obtain ⟨t,rfl⟩:=ru;exact SeqAt.EqAt.str_str _ _ _ _
  |tup _=>unfold RW at hq;obtain ⟨a,xs,rfl,h2,_⟩:=hq;cases ru;obtain ⟨its,_,t,_⟩:=I.tuple h2;exact SeqAt.EqAt.str_tuple _ _ t hu'
  |lst _=>unfold RW at hq;obtain ⟨a,xs,rfl,h2,_⟩:=hq;cases ru;obtain ⟨its,_,t,_⟩:=I.list h2;exact SeqAt.EqAt.str_list _ _ t.isList hu'
  |ref _=>unfold RW at hq;exact hq.elim
  |dct=>unfold RW at hq;exact hq.elim
  |ty _=>unfold RW at hq;exact hq.elim
  |fn _=>unfold RW at hq;exact hq.elim
  |exc _ _=>unfold RW at hq;exact hq.elim
theorem We:∀ {l:List PV} {i:Nat} {p:PV},l[i]? = some p->dep p≤deps l
 |[],_,_,h=>by simp at h
 |q::qs,0,p,h=>by simp at h;subst h;unfold deps;exact Nat.le_max_left _ _
 |q::qs,i + 1,p,h=>by unfold deps;exact Nat.le_trans (We (l:=qs) (i:=i) (by simpa using h)) (Nat.le_max_right _ _)
theorem Jq (I:L2.Inv X pins σ H s):∀ (n:Nat) (p q:PV) (v u:V) (uv uu:Value) (A:Around),dep p≤n->A.units + n < cLine->RW X.K H p v->RW X.K H q u->RelV v uv->RelV u uu->SeqAt.EqAt A s uv uu (peq p q):=by
 intro n
 induction n with
 |zero=>intro p q v u uv uu A hd hu hp hq rv ru;exact Qs I p q (Nat.le_zero.mp hd) hu hp hq rv ru
 |succ n ih =>
  intro p q v u uv uu A hd hu hp hq rv ru
  have hu':A.units < cLine:=Nat.lt_of_le_of_lt (Nat.le_add_right _ _) hu
  have hin:A.in1.units + n < cLine:=by show A.units + 1 + n < cLine;omega
  have elt:∀ {l m:List PV} {xs ys:List V} {its its2:List Value},deps l≤n->RWs X.K H l xs->RWs X.K H m ys->Vals xs its->Vals ys its2 -> ∀ j (h1:j < its.toArray.size) (h2:j < its2.toArray.size),SeqAt.EqAt A.in1 s its.toArray[j] its2.toArray[j] (eqN l m j):=fun {l m xs ys its its2} hdl hl hm vl vm j h1 h2=>by
   have e1:its[j]? = some its.toArray[j]:=by simp
   have e2:its2[j]? = some its2.toArray[j]:=by simp
   obtain ⟨x,hx,rx⟩:=Vals.get2 vl e1
   obtain ⟨y,hy,ry⟩:=Vals.get2 vm e2
   obtain ⟨p',hp',rp'⟩:=RWs.get' hl hx
   obtain ⟨q',hq',rq'⟩:=RWs.get' hm hy
   have:eqN l m j=peq p' q':=by unfold eqN;rw [hp',hq']
   rw [this]
   exact ih p' q' x y _ _ A.in1 (Nat.le_trans (We hp') hdl) hin rp' rq' rx ry
  cases p with
  |tup l =>
   have hp0:=hp
   unfold RW at hp
   unfold dep at hd
   obtain ⟨a,xs,rfl,h2,h3⟩:=hp
   cases rv
   obtain ⟨its,vl,tl,_⟩:=I.tuple h2
   cases q with
   |non=>unfold RW at hq;subst hq;cases ru;exact SeqAt.EqAt.tuple_none tl hu'
   |bl _=>unfold RW at hq;subst hq;cases ru;exact SeqAt.EqAt.tuple_bool _ tl hu'
   |int _=>unfold RW at hq;subst hq;obtain ⟨t,rfl⟩:=ru;exact SeqAt.EqAt.tuple_int _ _ tl hu'
   |str _=>unfold RW at hq;subst hq;obtain ⟨t,rfl⟩:=ru;exact SeqAt.EqAt.tuple_str _ _ tl hu'
   |lst _=>unfold RW at hq;obtain ⟨a,xs,rfl,h2,_⟩:=hq;cases ru;obtain ⟨its,_,t,_⟩:=I.list h2;exact SeqAt.EqAt.tuple_list tl t.isList hu'
   |ref _=>unfold RW at hq;exact hq.elim
   |dct=>unfold RW at hq;exact hq.elim
   |ty _=>unfold RW at hq;exact hq.elim
   |fn _=>unfold RW at hq;exact hq.elim
   |exc _ _=>unfold RW at hq;exact hq.elim
   |tup m =>
    have hq0:=hq
    unfold RW at hq
    obtain ⟨a2,ys,rfl,g2,g3⟩:=hq
    cases ru
    obtain ⟨its2,vm,tm,_⟩:=I.tuple g2
    by_cases ha:a=a2
    ·subst ha
     rw [RW.same I _ _ hp0 hq0]
     exact SeqAt.EqAt.same _
    ·refine SeqAt.EqAt.of_refs ha ?_
     have rc:=SeqAt.RcAt.tuples (e:=eqN l m) tl tm hu' (elt (by omega) h3 g3 vl vm)
     have hl1:its.toArray.size=l.length:=by rw [List.size_toArray,← vl.length,h3.length]
     have hl2:its2.toArray.size=m.length:=by rw [List.size_toArray,← vm.length,g3.length]
     rw [hl1,hl2] at rc
     have e:((List.range (min l.length m.length)).all (eqN l m)&&l.length==m.length)=peq (.tup l) (.tup m):=by
      unfold peq
      by_cases hlm:l.length=m.length
      ·rw [← hlm,Nat.min_self,Wi l m hlm,beq_self_eq_true,Bool.and_true]
      ·rw [WF l m hlm,beq_false_of_ne hlm,Bool.and_false]
     rw [e] at rc
     exact rc
  |lst l =>
   have hp0:=hp
   unfold RW at hp
   unfold dep at hd
   obtain ⟨a,xs,rfl,h2,h3⟩:=hp
   cases rv
   obtain ⟨its,vl,tl',_⟩:=I.list h2
   have tl:=tl'.isList
   cases q with
   |non=>unfold RW at hq;subst hq;cases ru;exact SeqAt.EqAt.list_none tl hu'
   |bl _=>unfold RW at hq;subst hq;cases ru;exact SeqAt.EqAt.list_bool _ tl hu'
   |int _=>unfold RW at hq;subst hq;obtain ⟨t,rfl⟩:=ru;exact SeqAt.EqAt.list_int _ _ tl hu'
   |str _=>unfold RW at hq;subst hq;obtain ⟨t,rfl⟩:=ru;exact SeqAt.EqAt.list_str _ _ tl hu'
   |tup _=>unfold RW at hq;obtain ⟨a,xs,rfl,h2,_⟩:=hq;cases ru;obtain ⟨its,_,t,_⟩:=I.tuple h2;exact SeqAt.EqAt.list_tuple tl t hu'
   |ref _=>unfold RW at hq;exact hq.elim
   |dct=>unfold RW at hq;exact hq.elim
   |ty _=>unfold RW at hq;exact hq.elim
   |fn _=>unfold RW at hq;exact hq.elim
   |exc _ _=>unfold RW at hq;exact hq.elim
   |lst m =>
    have hq0:=hq
    unfold RW at hq
    obtain ⟨a2,ys,rfl,g2,g3⟩:=hq
    cases ru
    obtain ⟨its2,vm,tm',_⟩:=I.list g2
    have tm:=tm'.isList
    by_cases ha:a=a2
    ·subst ha
     rw [RW.same I _ _ hp0 hq0]
     exact SeqAt.EqAt.same _
    ·refine SeqAt.EqAt.of_refs ha ?_
     have hl1:its.toArray.size=l.length:=by rw [List.size_toArray,← vl.length,h3.length]
     have hl2:its2.toArray.size=m.length:=by rw [List.size_toArray,← vm.length,g3.length]
     unfold peq
     by_cases hlm:l.length=m.length
     ·have rc:=SeqAt.RcAt.lists (e:=eqN l m) tl tm (by rw [hl1,hl2,hlm]) hu' (elt (by omega) h3 g3 vl vm)
      rw [hl1,Wi l m hlm] at rc
      exact rc
     ·rw [WF l m hlm]
      exact SeqAt.RcAt.lists_lengths tl tm (by rw [hl1,hl2];exact bne_iff_ne.mpr hlm) hu'
  |non=>exact Qs I _ q rfl hu' hp hq rv ru
  |bl _=>exact Qs I _ q rfl hu' hp hq rv ru
  |int _=>exact Qs I _ q rfl hu' hp hq rv ru
  |str _=>exact Qs I _ q rfl hu' hp hq rv ru
  |ref _=>exact Qs I _ q rfl hu' hp hq rv ru
  |dct=>exact Qs I _ q rfl hu' hp hq rv ru
  |ty _=>exact Qs I _ q rfl hu' hp hq rv ru
  |fn _=>exact Qs I _ q rfl hu' hp hq rv ru
  |exc _ _=>exact Qs I _ q rfl hu' hp hq rv ru
end
section
variable {X:Cx} {pins:List (Addr×Obj)} {σ:L2.St} {H:Hp} {s:Shared}
mutual
theorem RW.det (I:L2.Inv X pins σ H s):∀ (p q:PV) {v:V},RW X.K H p v->RW X.K H q v->p=q
 | .non,q,v,h,g=>by
  unfold RW at h;subst h
  cases q <;> unfold RW at g <;> first |rfl |exact (g:False).elim |(obtain ⟨_,_,e,_⟩:=g;cases e) |cases g
 | .bl x,q,v,h,g=>by
  unfold RW at h;subst h
  cases q <;> unfold RW at g <;> first |(obtain ⟨_,_,e,_⟩:=g;cases e) |(cases g;rfl) |exact (g:False).elim |cases g
 | .int x,q,v,h,g=>by
  unfold RW at h;subst h
  cases q <;> unfold RW at g <;> first |(obtain ⟨_,_,e,_⟩:=g;cases e) |(cases g;rfl) |exact (g:False).elim |cases g
 | .str x,q,v,h,g=>by
  unfold RW at h;subst h
  cases q <;> unfold RW at g <;> first |(obtain ⟨_,_,e,_⟩:=g;cases e) |(cases g;rfl) |exact (g:False).elim |cases g
 | .tup l,q,v,h,g=>by
  unfold RW at h
  obtain ⟨a,xs,rfl,h2,h3⟩:=h
  cases q with
  |tup m =>
   unfold RW at g
   obtain ⟨a',ys,e,g2,g3⟩:=g
   cases e
   have:=I.tuple_inj h2 g2
   subst this
   rw [RWs.det I l m h3 g3]
  |lst m =>
   unfold RW at g
   obtain ⟨a',ys,e,g2,g3⟩:=g
   cases e
   exact (za I g2 h2).elim
  |ref _=>unfold RW at g;exact g.elim
  |dct=>unfold RW at g;exact g.elim
  |ty _=>unfold RW at g;exact g.elim
  |fn _=>unfold RW at g;exact g.elim
  |exc _ _=>unfold RW at g;exact g.elim
  |non=>unfold RW at g;cases g
  |bl _=>unfold RW at g;cases g
  |int _=>unfold RW at g;cases g
  |str _=>unfold RW at g;cases g
 | .lst l,q,v,h,g=>by
  unfold RW at h
  obtain ⟨a,xs,rfl,h2,h3⟩:=h
  cases q with
  |lst m =>
   unfold RW at g
   obtain ⟨a',ys,e,g2,g3⟩:=g
   cases e
   have:=I.list_inj h2 g2
   subst this
   rw [RWs.det I l m h3 g3]
  |tup m =>
   unfold RW at g
   obtain ⟨a',ys,e,g2,g3⟩:=g
   cases e
   exact (za I h2 g2).elim
  |ref _=>unfold RW at g;exact g.elim
  |dct=>unfold RW at g;exact g.elim
  |ty _=>unfold RW at g;exact g.elim
  |fn _=>unfold RW at g;exact g.elim
  |exc _ _=>unfold RW at g;exact g.elim
  |non=>unfold RW at g;cases g
  |bl _=>unfold RW at g;cases g
  |int _=>unfold RW at g;cases g
  |str _=>unfold RW at g;cases g
 | .ref _,_,_,h,_=>by unfold RW at h;exact h.elim
 | .dct,_,_,h,_=>by unfold RW at h;exact h.elim
 | .ty _,_,_,h,_=>by unfold RW at h;exact h.elim
 | .fn _,_,_,h,_=>by unfold RW at h;exact h.elim
 | .exc _ _,_,_,h,_=>by unfold RW at h;exact h.elim
theorem RWs.det (I:L2.Inv X pins σ H s):∀ (l m:List PV) {xs:List V},RWs X.K H l xs->RWs X.K H m xs->l=m
 |[],m,xs,h,g=>by
  unfold RWs at h;subst h
  cases m with
  |nil=>rfl
  |cons _ _=>unfold RWs at g;obtain ⟨_,_,e,_⟩:=g;cases e
 |p::ps,m,xs,h,g=>by
  unfold RWs at h
  obtain ⟨x,r,rfl,h2,h3⟩:=h
  cases m with
  |nil=>unfold RWs at g;cases g
  |cons q qs =>
   unfold RWs at g
   obtain ⟨y,t,e,g2,g3⟩:=g
   cases e
   rw [RW.det I p q h2 g2,RWs.det I ps qs h3 g3]
end
theorem Q5 (I:L2.Inv X pins σ H s) (p q:PV) {v u:V} {uv uu:Value} {A:Around} (hd:dep p=0) (hu':A.units < cLine) (hp:RW X.K H p v) (hq:RW X.K H q u) (rv:RelV v uv) (ru:RelV u uu):SeqAt.RcAt A s uv uu (peq p q):=by
 cases p with
 |tup l=>unfold dep at hd;omega
 |lst l=>unfold dep at hd;omega
 |ref _=>unfold RW at hp;exact hp.elim
 |dct=>unfold RW at hp;exact hp.elim
 |ty _=>unfold RW at hp;exact hp.elim
 |fn _=>unfold RW at hp;exact hp.elim
 |exc _ _=>unfold RW at hp;exact hp.elim
 |non =>
  unfold RW at hp;subst hp;cases rv
  cases q with
  |non=>unfold RW at hq;subst hq;cases ru;exact SeqAt.RcAt.none_none
  |bl _=>unfold RW at hq;subst hq;cases ru;exact SeqAt.RcAt.none_bool _
  |int _=>unfold RW at hq;subst hq;obtain ⟨t,rfl⟩:=ru;exact SeqAt.RcAt.none_int _ _
  |str _=>unfold RW at hq;subst hq;obtain ⟨t,rfl⟩:=ru;exact SeqAt.RcAt.none_str _ _
  |tup _=>unfold RW at hq;obtain ⟨a,xs,rfl,h2,_⟩:=hq;cases ru;obtain ⟨its,_,t,_⟩:=I.tuple h2;exact SeqAt.RcAt.none_tuple t hu'
  |lst _=>unfold RW at hq;obtain ⟨a,xs,rfl,h2,_⟩:=hq;cases ru;obtain ⟨its,_,t,_⟩:=I.list h2;exact SeqAt.RcAt.none_list t.isList hu'
  |ref _=>unfold RW at hq;exact hq.elim
  |dct=>unfold RW at hq;exact hq.elim
  |ty _=>unfold RW at hq;exact hq.elim
  |fn _=>unfold RW at hq;exact hq.elim
  |exc _ _=>unfold RW at hq;exact hq.elim
 |bl x =>
  unfold RW at hp;subst hp;cases rv
  cases q with
  |non=>unfold RW at hq;subst hq;cases ru;exact SeqAt.RcAt.bool_none _
  |bl _=>unfold RW at hq;subst hq;cases ru;exact SeqAt.RcAt.bool_bool _ _
  |int _=>unfold RW at hq;subst hq;obtain ⟨t,rfl⟩:=ru;exact SeqAt.RcAt.bool_int _ _ _
  |str _=>unfold RW at hq;subst hq;obtain ⟨t,rfl⟩:=ru;exact SeqAt.RcAt.bool_str _ _ _
  |tup _=>unfold RW at hq;obtain ⟨a,xs,rfl,h2,_⟩:=hq;cases ru;obtain ⟨its,_,t,_⟩:=I.tuple h2;exact SeqAt.RcAt.bool_tuple _ t hu'
  |lst _=>unfold RW at hq;obtain ⟨a,xs,rfl,h2,_⟩:=hq;cases ru;obtain ⟨its,_,t,_⟩:=I.list h2;exact SeqAt.RcAt.bool_list _ t.isList hu'
  |ref _=>unfold RW at hq;exact hq.elim
  |dct=>unfold RW at hq;exact hq.elim
  |ty _=>unfold RW at hq;exact hq.elim
  |fn _=>unfold RW at hq;exact hq.elim
  |exc _ _=>unfold RW at hq;exact hq.elim
 |int x =>
  unfold RW at hp;subst hp;obtain ⟨t0,rfl⟩:=rv
  cases q with
  |non=>unfold RW at hq;subst hq;cases ru;exact SeqAt.RcAt.int_none _ _
  |bl _=>unfold RW at hq;subst hq;cases ru;exact SeqAt.RcAt.int_bool _ _ _
  |int _=>unfold RW at hq;subst hq;obtain ⟨t,rfl⟩:=ru;exact SeqAt.RcAt.int_int _ _ _ _
  |str _=>unfold RW at hq;subst hq;obtain ⟨t,rfl⟩:=ru;exact SeqAt.RcAt.int_str _ _ _ _
  |tup _=>unfold RW at hq;obtain ⟨a,xs,rfl,h2,_⟩:=hq;cases ru;obtain ⟨its,_,t,_⟩:=I.tuple h2;exact SeqAt.RcAt.int_tuple _ _ t hu'
  |lst _=>unfold RW at hq;obtain ⟨a,xs,rfl,h2,_⟩:=hq;cases ru;obtain ⟨its,_,t,_⟩:=I.list h2;exact SeqAt.RcAt.int_list _ _ t.isList hu'
  |ref _=>unfold RW at hq;exact hq.elim
  |dct=>unfold RW at hq;exact hq.elim
  |ty _=>unfold RW at hq;exact hq.elim
  |fn _=>unfold RW at hq;exact hq.elim
  |exc _ _=>unfold RW at hq;exact hq.elim
 |str x =>
  unfold RW at hp;subst hp;obtain ⟨t0,rfl⟩:=rv
  cases q with
  |non=>unfold RW at hq;subst hq;cases ru;exact SeqAt.RcAt.str_none _ _
  |bl _=>unfold RW at hq;subst hq;cases ru;exact SeqAt.RcAt.str_bool _ _ _
  |int _=>unfold RW at hq;subst hq;obtain ⟨t,rfl⟩:=ru;exact SeqAt.RcAt.str_int _ _ _ _
  |str _=>unfold RW at hq;subst hq;obtain ⟨t,rfl⟩:=ru;exact SeqAt.RcAt.str_str _ _ _ _
  |tup _=>unfold RW at hq;obtain ⟨a,xs,rfl,h2,_⟩:=hq;cases ru;obtain ⟨its,_,t,_⟩:=I.tuple h2;exact SeqAt.RcAt.str_tuple _ _ t hu'
  |lst _=>unfold RW at hq;obtain ⟨a,xs,rfl,h2,_⟩:=hq;cases ru;obtain ⟨its,_,t,_⟩:=I.list h2;exact SeqAt.RcAt.str_list _ _ t.isList hu'
  |ref _=>unfold RW at hq;exact hq.elim
  |dct=>unfold RW at hq;exact hq.elim
  |ty _=>unfold RW at hq;exact hq.elim
  |fn _=>unfold RW at hq;exact hq.elim
  |exc _ _=>unfold RW at hq;exact hq.elim
theorem Q6 (I:L2.Inv X pins σ H s) (p q:PV) {v u:V} {uv uu:Value} {A:Around} (hd:dep p=0) (hu':A.units < cLine) (hp:RW X.K H p v) (hq:RW X.K H q u) (rv:RelV v uv) (ru:RelV u uu):SeqAt.RcNeAt A s uv uu (!peq p q):=by
 cases p with
 |tup l=>unfold dep at hd;omega
 |lst l=>unfold dep at hd;omega
 |ref _=>unfold RW at hp;exact hp.elim
 |dct=>unfold RW at hp;exact hp.elim
 |ty _=>unfold RW at hp;exact hp.elim
 |fn _=>unfold RW at hp;exact hp.elim
 |exc _ _=>unfold RW at hp;exact hp.elim
 |non =>
  unfold RW at hp;subst hp;cases rv
  cases q with
  |non=>unfold RW at hq;subst hq;cases ru;exact SeqAt.RcNeAt.none_none
  |bl _=>unfold RW at hq;subst hq;cases ru;exact SeqAt.RcNeAt.none_bool _
  |int _=>unfold RW at hq;subst hq;obtain ⟨t,rfl⟩:=ru;exact SeqAt.RcNeAt.none_int _ _
  |str _=>unfold RW at hq;subst hq;obtain ⟨t,rfl⟩:=ru;exact SeqAt.RcNeAt.none_str _ _
  |tup _=>unfold RW at hq;obtain ⟨a,xs,rfl,h2,_⟩:=hq;cases ru;obtain ⟨its,_,t,_⟩:=I.tuple h2;exact SeqAt.RcNeAt.none_tuple t hu'
  |lst _=>unfold RW at hq;obtain ⟨a,xs,rfl,h2,_⟩:=hq;cases ru;obtain ⟨its,_,t,_⟩:=I.list h2;exact SeqAt.RcNeAt.none_list t.isList hu'
  |ref _=>unfold RW at hq;exact hq.elim
  |dct=>unfold RW at hq;exact hq.elim
  |ty _=>unfold RW at hq;exact hq.elim
  |fn _=>unfold RW at hq;exact hq.elim
  |exc _ _=>unfold RW at hq;exact hq.elim
 |bl x =>
  unfold RW at hp;subst hp;cases rv
  cases q with
  |non=>unfold RW at hq;subst hq;cases ru;exact SeqAt.RcNeAt.bool_none _
  |bl _=>unfold RW at hq;subst hq;cases ru;exact SeqAt.RcNeAt.bool_bool _ _
  |int _=>unfold RW at hq;subst hq;obtain ⟨t,rfl⟩:=ru;exact SeqAt.RcNeAt.bool_int _ _ _
  |str _=>unfold RW at hq;subst hq;obtain ⟨t,rfl⟩:=ru;exact SeqAt.RcNeAt.bool_str _ _ _
  |tup _=>unfold RW at hq;obtain ⟨a,xs,rfl,h2,_⟩:=hq;cases ru;obtain ⟨its,_,t,_⟩:=I.tuple h2;exact SeqAt.RcNeAt.bool_tuple _ t hu'
  |lst _=>unfold RW at hq;obtain ⟨a,xs,rfl,h2,_⟩:=hq;cases ru;obtain ⟨its,_,t,_⟩:=I.list h2;exact SeqAt.RcNeAt.bool_list _ t.isList hu'
  |ref _=>unfold RW at hq;exact hq.elim
  |dct=>unfold RW at hq;exact hq.elim
  |ty _=>unfold RW at hq;exact hq.elim
  |fn _=>unfold RW at hq;exact hq.elim
  |exc _ _=>unfold RW at hq;exact hq.elim
 |int x =>
  unfold RW at hp;subst hp;obtain ⟨t0,rfl⟩:=rv
  cases q with
  |non=>unfold RW at hq;subst hq;cases ru;exact SeqAt.RcNeAt.int_none _ _
  |bl _=>unfold RW at hq;subst hq;cases ru;exact SeqAt.RcNeAt.int_bool _ _ _
  |int _=>unfold RW at hq;subst hq;obtain ⟨t,rfl⟩:=ru;exact SeqAt.RcNeAt.int_int _ _ _ _
  |str _=>unfold RW at hq;subst hq;obtain ⟨t,rfl⟩:=ru;exact SeqAt.RcNeAt.int_str _ _ _ _
  |tup _=>unfold RW at hq;obtain ⟨a,xs,rfl,h2,_⟩:=hq;cases ru;obtain ⟨its,_,t,_⟩:=I.tuple h2;exact SeqAt.RcNeAt.int_tuple _ _ t hu'
  |lst _=>unfold RW at hq;obtain ⟨a,xs,rfl,h2,_⟩:=hq;cases ru;obtain ⟨its,_,t,_⟩:=I.list h2;exact SeqAt.RcNeAt.int_list _ _ t.isList hu'
  |ref _=>unfold RW at hq;exact hq.elim
  |dct=>unfold RW at hq;exact hq.elim
  |ty _=>unfold RW at hq;exact hq.elim
  |fn _=>unfold RW at hq;exact hq.elim
  |exc _ _=>unfold RW at hq;exact hq.elim
 |str x =>
  unfold RW at hp;subst hp;obtain ⟨t0,rfl⟩:=rv
  cases q with
  |non=>unfold RW at hq;subst hq;cases ru;exact SeqAt.RcNeAt.str_none _ _
  |bl _=>unfold RW at hq;subst hq;cases ru;exact SeqAt.RcNeAt.str_bool _ _ _
  |int _=>unfold RW at hq;subst hq;obtain ⟨t,rfl⟩:=ru;exact SeqAt.RcNeAt.str_int _ _ _ _
  |str _=>unfold RW at hq;subst hq;obtain ⟨t,rfl⟩:=ru;exact SeqAt.RcNeAt.str_str _ _ _ _
  |tup _=>unfold RW at hq;obtain ⟨a,xs,rfl,h2,_⟩:=hq;cases ru;obtain ⟨its,_,t,_⟩:=I.tuple h2;exact SeqAt.RcNeAt.str_tuple _ _ t hu'
  |lst _=>unfold RW at hq;obtain ⟨a,xs,rfl,h2,_⟩:=hq;cases ru;obtain ⟨its,_,t,_⟩:=I.list h2;exact SeqAt.RcNeAt.str_list _ _ t.isList hu'
  |ref _=>unfold RW at hq;exact hq.elim
  |dct=>unfold RW at hq;exact hq.elim
  |ty _=>unfold RW at hq;exact hq.elim
  |fn _=>unfold RW at hq;exact hq.elim
  |exc _ _=>unfold RW at hq;exact hq.elim
theorem qHT (I:L2.Inv X pins σ H s) (p q:PV) {v u:V} {uv uu:Value} {A:Around} (hu:A.units + (dep p + 1) < cLine) (hp:RW X.K H p v) (hq:RW X.K H q u) (rv:RelV v uv) (ru:RelV u uu):SeqAt.RcAt A s uv uu (peq p q):=by
 have hu':A.units < cLine:=Nat.lt_of_le_of_lt (Nat.le_add_right _ _) hu
 have elt:∀ {n:Nat} {l m:List PV} {xs ys:List V} {its its2:List Value},A.in1.units + n < cLine->deps l≤n->RWs X.K H l xs->RWs X.K H m ys->Vals xs its->Vals ys its2 -> ∀ j (h1:j < its.toArray.size) (h2:j < its2.toArray.size),SeqAt.EqAt A.in1 s its.toArray[j] its2.toArray[j] (eqN l m j):=fun {n l m xs ys its its2} hin hdl hl hm vl vm j h1 h2=>by
  have e1:its[j]? = some its.toArray[j]:=by simp
  have e2:its2[j]? = some its2.toArray[j]:=by simp
  obtain ⟨x,hx,rx⟩:=Vals.get2 vl e1
  obtain ⟨y,hy,ry⟩:=Vals.get2 vm e2
  obtain ⟨p',hp',rp'⟩:=RWs.get' hl hx
  obtain ⟨q',hq',rq'⟩:=RWs.get' hm hy
  have:eqN l m j=peq p' q':=by unfold eqN;rw [hp',hq']
  rw [this]
  exact Jq I n p' q' x y _ _ A.in1 (Nat.le_trans (We hp') hdl) hin rp' rq' rx ry
 cases p with
 |tup l =>
  have hp0:=hp
  unfold RW at hp
  obtain ⟨a,xs,rfl,h2,h3⟩:=hp
  cases rv
  obtain ⟨its,vl,tl,_⟩:=I.tuple h2
  unfold dep at hu
  cases q with
  |non=>unfold RW at hq;subst hq;cases ru;exact SeqAt.RcAt.tuple_none tl hu'
  |bl _=>unfold RW at hq;subst hq;cases ru;exact SeqAt.RcAt.tuple_bool _ tl hu'
  |int _=>unfold RW at hq;subst hq;obtain ⟨t,rfl⟩:=ru;exact SeqAt.RcAt.tuple_int _ _ tl hu'
  |str _=>unfold RW at hq;subst hq;obtain ⟨t,rfl⟩:=ru;exact SeqAt.RcAt.tuple_str _ _ tl hu'
  |lst _=>unfold RW at hq;obtain ⟨a,xs,rfl,h2,_⟩:=hq;cases ru;obtain ⟨its,_,t,_⟩:=I.list h2;exact SeqAt.RcAt.tuple_list tl t.isList hu'
  |ref _=>unfold RW at hq;exact hq.elim
  |dct=>unfold RW at hq;exact hq.elim
  |ty _=>unfold RW at hq;exact hq.elim
  |fn _=>unfold RW at hq;exact hq.elim
  |exc _ _=>unfold RW at hq;exact hq.elim
  |tup m =>
   unfold RW at hq
   obtain ⟨a2,ys,rfl,g2,g3⟩:=hq
   cases ru
   obtain ⟨its2,vm,tm,_⟩:=I.tuple g2
   have rc:=SeqAt.RcAt.tuples (e:=eqN l m) tl tm hu' (elt (n:=deps l) (by show A.units + 1 + deps l < cLine;omega) (Nat.le_refl _) h3 g3 vl vm)
   have hl1:its.toArray.size=l.length:=by rw [List.size_toArray,← vl.length,h3.length]
   have hl2:its2.toArray.size=m.length:=by rw [List.size_toArray,← vm.length,g3.length]
   rw [hl1,hl2] at rc
   have e:((List.range (min l.length m.length)).all (eqN l m)&&l.length==m.length)=peq (.tup l) (.tup m):=by
    unfold peq
    by_cases hlm:l.length=m.length
    ·rw [← hlm,Nat.min_self,Wi l m hlm,beq_self_eq_true,Bool.and_true]
    ·rw [WF l m hlm,beq_false_of_ne hlm,Bool.and_false]
   rw [e] at rc
   exact rc
 |lst l =>
  have hp0:=hp
  unfold RW at hp
  obtain ⟨a,xs,rfl,h2,h3⟩:=hp
  cases rv
  obtain ⟨its,vl,tl',_⟩:=I.list h2
  have tl:=tl'.isList
  unfold dep at hu
  cases q with
  |non=>unfold RW at hq;subst hq;cases ru;exact SeqAt.RcAt.list_none tl hu'
  |bl _=>unfold RW at hq;subst hq;cases ru;exact SeqAt.RcAt.list_bool _ tl hu'
  |int _=>unfold RW at hq;subst hq;obtain ⟨t,rfl⟩:=ru;exact SeqAt.RcAt.list_int _ _ tl hu'
  |str _=>unfold RW at hq;subst hq;obtain ⟨t,rfl⟩:=ru;exact SeqAt.RcAt.list_str _ _ tl hu'
  |tup _=>unfold RW at hq;obtain ⟨a,xs,rfl,h2,_⟩:=hq;cases ru;obtain ⟨its,_,t,_⟩:=I.tuple h2;exact SeqAt.RcAt.list_tuple tl t hu'
  |ref _=>unfold RW at hq;exact hq.elim
  |dct=>unfold RW at hq;exact hq.elim
  |ty _=>unfold RW at hq;exact hq.elim
  |fn _=>unfold RW at hq;exact hq.elim
  |exc _ _=>unfold RW at hq;exact hq.elim
  |lst m =>
   unfold RW at hq
   obtain ⟨a2,ys,rfl,g2,g3⟩:=hq
   cases ru
   obtain ⟨its2,vm,tm',_⟩:=I.list g2
   have tm:=tm'.isList
   have hl1:its.toArray.size=l.length:=by rw [List.size_toArray,← vl.length,h3.length]
   have hl2:its2.toArray.size=m.length:=by rw [List.size_toArray,← vm.length,g3.length]
   unfold peq
   by_cases hlm:l.length=m.length
   ·have rc:=SeqAt.RcAt.lists (e:=eqN l m) tl tm (by rw [hl1,hl2,hlm]) hu' (elt (n:=deps l) (by show A.units + 1 + deps l < cLine;omega) (Nat.le_refl _) h3 g3 vl vm)
    rw [hl1,Wi l m hlm] at rc
    exact rc
   ·rw [WF l m hlm]
    exact SeqAt.RcAt.lists_lengths tl tm (by rw [hl1,hl2];exact bne_iff_ne.mpr hlm) hu'
 |non=>exact Q5 I _ q rfl hu' hp hq rv ru
 |bl _=>exact Q5 I _ q rfl hu' hp hq rv ru
 |int _=>exact Q5 I _ q rfl hu' hp hq rv ru
 |str _=>exact Q5 I _ q rfl hu' hp hq rv ru
 |ref _=>exact Q5 I _ q rfl hu' hp hq rv ru
 |dct=>exact Q5 I _ q rfl hu' hp hq rv ru
 |ty _=>exact Q5 I _ q rfl hu' hp hq rv ru
 |fn _=>exact Q5 I _ q rfl hu' hp hq rv ru
 |exc _ _=>exact Q5 I _ q rfl hu' hp hq rv ru
theorem qHB (I:L2.Inv X pins σ H s) (p q:PV) {v u:V} {uv uu:Value} {A:Around} (hu:A.units + (dep p + 1) < cLine) (hp:RW X.K H p v) (hq:RW X.K H q u) (rv:RelV v uv) (ru:RelV u uu):SeqAt.RcNeAt A s uv uu (!peq p q):=by
 have hu':A.units < cLine:=Nat.lt_of_le_of_lt (Nat.le_add_right _ _) hu
 have elt:∀ {n:Nat} {l m:List PV} {xs ys:List V} {its its2:List Value},A.in1.units + n < cLine->deps l≤n->RWs X.K H l xs->RWs X.K H m ys->Vals xs its->Vals ys its2 -> ∀ j (h1:j < its.toArray.size) (h2:j < its2.toArray.size),SeqAt.EqAt A.in1 s its.toArray[j] its2.toArray[j] (eqN l m j):=fun {n l m xs ys its its2} hin hdl hl hm vl vm j h1 h2=>by
  have e1:its[j]? = some its.toArray[j]:=by simp
  have e2:its2[j]? = some its2.toArray[j]:=by simp
  obtain ⟨x,hx,rx⟩:=Vals.get2 vl e1
  obtain ⟨y,hy,ry⟩:=Vals.get2 vm e2
  obtain ⟨p',hp',rp'⟩:=RWs.get' hl hx
  obtain ⟨q',hq',rq'⟩:=RWs.get' hm hy
  have:eqN l m j=peq p' q':=by unfold eqN;rw [hp',hq']
  rw [this]
  exact Jq I n p' q' x y _ _ A.in1 (Nat.le_trans (We hp') hdl) hin rp' rq' rx ry
 cases p with
 |tup l =>
  have hp0:=hp
  unfold RW at hp
  obtain ⟨a,xs,rfl,h2,h3⟩:=hp
  cases rv
  obtain ⟨its,vl,tl,_⟩:=I.tuple h2
  unfold dep at hu
  cases q with
  |non=>unfold RW at hq;subst hq;cases ru;exact SeqAt.RcNeAt.tuple_none tl hu'
  |bl _=>unfold RW at hq;subst hq;cases ru;exact SeqAt.RcNeAt.tuple_bool _ tl hu'
  |int _=>unfold RW at hq;subst hq;obtain ⟨t,rfl⟩:=ru;exact SeqAt.RcNeAt.tuple_int _ _ tl hu'
  |str _=>unfold RW at hq;subst hq;obtain ⟨t,rfl⟩:=ru;exact SeqAt.RcNeAt.tuple_str _ _ tl hu'
  |lst _=>unfold RW at hq;obtain ⟨a,xs,rfl,h2,_⟩:=hq;cases ru;obtain ⟨its,_,t,_⟩:=I.list h2;exact SeqAt.RcNeAt.tuple_list tl t.isList hu'
  |ref _=>unfold RW at hq;exact hq.elim
  |dct=>unfold RW at hq;exact hq.elim
  |ty _=>unfold RW at hq;exact hq.elim
  |fn _=>unfold RW at hq;exact hq.elim
  |exc _ _=>unfold RW at hq;exact hq.elim
  |tup m =>
   unfold RW at hq
   obtain ⟨a2,ys,rfl,g2,g3⟩:=hq
   cases ru
   obtain ⟨its2,vm,tm,_⟩:=I.tuple g2
   have rc:=SeqAt.RcNeAt.tuples (e:=eqN l m) tl tm hu' (elt (n:=deps l) (by show A.units + 1 + deps l < cLine;omega) (Nat.le_refl _) h3 g3 vl vm)
   have hl1:its.toArray.size=l.length:=by rw [List.size_toArray,← vl.length,h3.length]
   have hl2:its2.toArray.size=m.length:=by rw [List.size_toArray,← vm.length,g3.length]
   rw [hl1,hl2] at rc
   have e:((List.range (min l.length m.length)).all (eqN l m)&&l.length==m.length)=peq (.tup l) (.tup m):=by
    unfold peq
    by_cases hlm:l.length=m.length
    ·rw [← hlm,Nat.min_self,Wi l m hlm,beq_self_eq_true,Bool.and_true]
    ·rw [WF l m hlm,beq_false_of_ne hlm,Bool.and_false]
   rw [e] at rc
   exact rc
 |lst l =>
  have hp0:=hp
  unfold RW at hp
  obtain ⟨a,xs,rfl,h2,h3⟩:=hp
  cases rv
  obtain ⟨its,vl,tl',_⟩:=I.list h2
  have tl:=tl'.isList
  unfold dep at hu
  cases q with
  |non=>unfold RW at hq;subst hq;cases ru;exact SeqAt.RcNeAt.list_none tl hu'
  |bl _=>unfold RW at hq;subst hq;cases ru;exact SeqAt.RcNeAt.list_bool _ tl hu'
  |int _=>unfold RW at hq;subst hq;obtain ⟨t,rfl⟩:=ru;exact SeqAt.RcNeAt.list_int _ _ tl hu'
  |str _=>unfold RW at hq;subst hq;obtain ⟨t,rfl⟩:=ru;exact SeqAt.RcNeAt.list_str _ _ tl hu'
  |tup _=>unfold RW at hq;obtain ⟨a,xs,rfl,h2,_⟩:=hq;cases ru;obtain ⟨its,_,t,_⟩:=I.tuple h2;exact SeqAt.RcNeAt.list_tuple tl t hu'
  |ref _=>unfold RW at hq;exact hq.elim
  |dct=>unfold RW at hq;exact hq.elim
  |ty _=>unfold RW at hq;exact hq.elim
  |fn _=>unfold RW at hq;exact hq.elim
  |exc _ _=>unfold RW at hq;exact hq.elim
  |lst m =>
   unfold RW at hq
   obtain ⟨a2,ys,rfl,g2,g3⟩:=hq
   cases ru
   obtain ⟨its2,vm,tm',_⟩:=I.list g2
   have tm:=tm'.isList
   have hl1:its.toArray.size=l.length:=by rw [List.size_toArray,← vl.length,h3.length]
   have hl2:its2.toArray.size=m.length:=by rw [List.size_toArray,← vm.length,g3.length]
   unfold peq
   by_cases hlm:l.length=m.length
   ·have rc:=SeqAt.RcNeAt.lists (e:=eqN l m) tl tm (by rw [hl1,hl2,hlm]) hu' (elt (n:=deps l) (by show A.units + 1 + deps l < cLine;omega) (Nat.le_refl _) h3 g3 vl vm)
    rw [hl1,Wi l m hlm] at rc
    exact rc
   ·rw [WF l m hlm]
    exact SeqAt.RcNeAt.lists_lengths tl tm (by rw [hl1,hl2];exact bne_iff_ne.mpr hlm) hu'
 |non=>exact Q6 I _ q rfl hu' hp hq rv ru
 |bl _=>exact Q6 I _ q rfl hu' hp hq rv ru
 |int _=>exact Q6 I _ q rfl hu' hp hq rv ru
 |str _=>exact Q6 I _ q rfl hu' hp hq rv ru
 |ref _=>exact Q6 I _ q rfl hu' hp hq rv ru
 |dct=>exact Q6 I _ q rfl hu' hp hq rv ru
 |ty _=>exact Q6 I _ q rfl hu' hp hq rv ru
 |fn _=>exact Q6 I _ q rfl hu' hp hq rv ru
 |exc _ _=>exact Q6 I _ q rfl hu' hp hq rv ru
end
def res (st:qC) (p:PV):PV:=match asL st p with
 |some l => .lst l
 |none=>p
theorem Zg {K:W.Frag} {H:Hp} {b:Bz} {st:qC} {p:PV} {v:V} (S:SR K H b st) (r:RV K H b p v) (h:nr (res st p)=true):RW K H (res st p) v:=by
 unfold res at h ⊢
 cases e:asL st p with
 |none=>rw [e] at h;exact RV.rw p h r
 |some l =>
  rw [e] at h
  obtain ⟨a,xs,rfl,h2,h3⟩:=wA S r e
  dsimp only at h ⊢
  unfold nr at h
  unfold RW
  exact ⟨a,xs,rfl,h2,RVs.rws l h h3⟩
abbrev yR:Nat:=60
def qBV (p q:PV):Bool:=nr p&&nr q&&decide (dep p≤yR)
def gEq:PV->PV->qC->Rs PV:=fun p q st=>if qBV (res st p) (res st q)=true then .ok (.bl (peq (res st p) (res st q))) st else .no
def gNe:PV->PV->qC->Rs PV:=fun p q st=>if qBV (res st p) (res st q)=true then .ok (.bl (!peq (res st p) (res st q))) st else .no
section
variable {X:Cx} {E:XK} {e a c d:Expr} {es:List Expr} {f fa fb fc:FE} {pos:Pos}
def qDi (K:W.Frag) (neg:Bool):R2:=fun u v H Q => ∃ p q,RW K H p u∧RW K H q v∧dep p≤yR∧Q (.bl (if neg then !peq p q else peq p q)) H
theorem zB (hr:X.A.units + 64 < cLine):OpR X (compareOp .Eq) (qDi X.K false):=by
 intro pins s σ H x y v u Q I rx ry h
 obtain ⟨p,q,hp,hq,hd,h⟩:=h
 exact qHT I p q (by have:dep p≤60:=hd;omega) hp hq rx ry _ _ _ _ ⟨.bl _,H,I,rfl,h⟩
theorem zS (hr:X.A.units + 64 < cLine):OpR X (compareOp .NotEq) (qDi X.K true):=by
 intro pins s σ H x y v u Q I rx ry h
 obtain ⟨p,q,hp,hq,hd,h⟩:=h
 exact qHB I p q (by have:dep p≤60:=hd;omega) hp hq rx ry _ _ _ _ ⟨.bl _,H,I,rfl,h⟩
theorem Y1 {p q:PV} (h:qBV p q=true):nr p=true∧nr q=true∧dep p≤yR:=by
 unfold qBV at h
 rw [Bool.and_eq_true,Bool.and_eq_true] at h
 exact ⟨h.1.1,h.1.2,of_decide_eq_true h.2⟩
theorem ZI:OpG X E (qDi X.K false) gEq:=by
 intro H b st p q u v Q S rp rq P
 unfold gEq at P
 split at P
 ·rename_i h
  obtain ⟨h1,h2,h3⟩:=Y1 h
  exact ⟨_,_,Zg S rp h1,Zg S rq h2,h3,PostE.here P S Wa⟩
 ·exact P.elim
theorem Z3:OpG X E (qDi X.K true) gNe:=by
 intro H b st p q u v Q S rp rq P
 unfold gNe at P
 split at P
 ·rename_i h
  obtain ⟨h1,h2,h3⟩:=Y1 h
  exact ⟨_,_,Zg S rp h1,Zg S rq h2,h3,PostE.here P S Wa⟩
 ·exact P.elim
theorem qBe (hr:X.A.units + 64 < cLine) (ha:VE X E a fa) (hb:VE X E c fb):VE X E (.Compare a [.Eq] [c] pos) (qG gEq fa fb):=qGR (zB hr) ZI ha hb
def pin (x:PV):List PV->Bool
 |[]=>false
 |y::ys=>peq y x || pin x ys
def gIn (neg:Bool):PV->PV->qC->Rs PV:=fun p q st=>match wY st q with
 |some l=>if nrs l=true∧nr (res st p)=true∧deps l≤yR then .ok (.bl (if neg then !pin (res st p) l else pin (res st p) l)) st else .no
 |none => .no
def qHi (K:W.Frag) (neg:Bool):R2:=fun u v H Q => ∃ p l a xs,v = .ref a∧(SqL K H a xs∨SqT K H a xs)∧RW K H p u∧RWs K H l xs∧deps l≤yR∧Q (.bl (if neg then !pin p l else pin p l)) H
theorem qAR {X:Cx} {pins:List (Addr×Obj)} {σ:L2.St} {H:Hp} {s:Shared} (I:L2.Inv X pins σ H s) {A:Around} {p:PV} {u:V} {uu:Value} (hp:RW X.K H p u) (ru:RelV u uu) (hA:A.units + 60 < cLine)
  {l:List PV} {xs:List V} {its:List Value} (hl:RWs X.K H l xs) (vl:Vals xs its) (hd:deps l≤yR):∃ g:Value->Bool,(∀ y∈its,SeqAt.EqAt A s y uu (g y))∧its.any g=pin p l:=by
 classical
 have key:∀ (q:PV) (x:V) (y:Value),RW X.K H q x->RelV x y->decide (∃ q x,RW X.K H q x∧RelV x y∧peq q p=true)=peq q p:=fun q x y h1 h2=>by
  by_cases hb:peq q p=true
  ·rw [hb];exact decide_eq_true ⟨q,x,h1,h2,hb⟩
  ·rw [show peq q p=false by simpa using hb]
   refine decide_eq_false fun ⟨q',x',k1,k2,k3⟩=>hb ?_
   have ex:x'=x:=k2.inj h2
   subst ex
   rw [RW.det I q q' h1 k1];exact k3
 refine ⟨fun y=>decide (∃ q x,RW X.K H q x∧RelV x y∧peq q p=true),fun y hy => ?_,?_⟩
 ·obtain ⟨i,hi⟩:=List.getElem?_of_mem hy
  obtain ⟨x,hx,rx⟩:=Vals.get2 vl hi
  obtain ⟨q,hq,rq⟩:=RWs.get' hl hx
  dsimp only
  rw [key q x y rq rx]
  exact Jq I 60 q p x u y uu A (Nat.le_trans (We hq) hd) hA rq hp rx ru
 ·have go:∀ (l:List PV) (xs:List V) (its:List Value),RWs X.K H l xs->Vals xs its->its.any (fun y=>decide (∃ q x,RW X.K H q x∧RelV x y∧peq q p=true))=pin p l:=by
   intro l
   induction l with
   |nil=>intro xs its h v;unfold RWs at h;subst h;cases v;rfl
   |cons q qs ih =>
    intro xs its h v
    unfold RWs at h
    obtain ⟨x,r,rfl,h2,h3⟩:=h
    cases v with
    |cons rv vr =>
     rw [List.any_cons,key q x _ h2 rv,ih _ _ h3 vr]
     rfl
  exact go l xs its hl vl
theorem qF3 (hr:X.A.units + 64 < cLine):OpR X (compareOp .In) (qHi X.K false):=by
 intro pins s σ H x y v u Q I rx ry h
 obtain ⟨p,l,a,xs,rfl,hs,hp,hl,hd,h⟩:=h
 cases ry
 have hA:X.A.in1.units + 60 < cLine:=by show X.A.units + 1 + 60 < cLine;omega
 rcases hs with hs |hs
 ·obtain ⟨its,vl,t,_⟩:=I.list hs
  obtain ⟨g,h1,h2⟩:=qAR I hp rx hA hl vl hd
  exact SeqAt.in_listAt g t.isList (fun y hy=>h1 y (by simpa using hy)) ⟨.bl _,H,I,by show _=_;rw [List.any_toArray,h2];rfl,h⟩
 ·obtain ⟨its,vl,t,_⟩:=I.tuple hs
  obtain ⟨g,h1,h2⟩:=qAR I hp rx hA hl vl hd
  exact SeqAt.in_tupleAt g t (fun y hy=>h1 y (by simpa using hy)) ⟨.bl _,H,I,by show _=_;rw [List.any_toArray,h2];rfl,h⟩
theorem qHK {neg:Bool}:OpG X E (qHi X.K neg) (gIn neg):=by
 intro H b st p q u v Q S rp rq P
 unfold gIn at P
 split at P
 ·rename_i l el
  split at P
  ·rename_i hh
   obtain ⟨h1,h2,h3⟩:=hh
   obtain ⟨a,xs,rfl,k2,k3⟩:=ZU S rq el
   exact ⟨_,l,a,xs,rfl,k2,Zg S rp h2,RVs.rws l h1 k3,h3,PostE.here P S Wa⟩
  ·exact P.elim
 ·exact P.elim
end
end EV
end
section
namespace EV
open PySem PySem.Spec PyProof.Rows L2 EX
section
variable {X:Cx} {E:XK} {e a c d:Expr} {es:List Expr} {f fa fb fc:FE} {pos:Pos} {F G:FS}
def YO (C:Addr) (t:FA):FS:=fun r st=>match t r st with
 | .ok ps s=>if ps.length≤sizeLine then .ex ⟨C,[]⟩ s else .no
 | .ex x s => .ex x s
 | .no => .no
theorem qB5 {x:Str} {C:Addr} {t:FA} {np cpos:Pos} (hz:Rz X E) (hc:X.calm=true) (hg:Gl X x) (hm:X.mg x=some (.ref C)) (q:PySem.W.excIn X.K C bmV "ValueError.__new__" = true) (ha:VA X E (e::es) t) (hdb:(x==("__debug__":Str))=false:=by decide)
  (he:starEach (e::es) X.env=(false,eval e X.env)::starEach es X.env:=by rfl) (hpl:(backTo cpos (starEach es X.env)).any (·.1)=false:=by rfl):VS X E (.Raise (some (.Call (.Name x np) (e::es) [] cpos)) none pos) (YO C t) :=
 PS.imp (qCV hz hc hg hm q ha hdb he hpl) fun D s H ⟨b,r,st,S,R,P⟩=>⟨b,r,st,S,R,by
  unfold YO at P
  cases ef:t r st with
  |no=>rw [ef] at P;exact P.elim
  |ex x s1=>rw [ef] at P;exact P
  |ok ps s1 =>
   rw [ef] at P
   dsimp only at P
   by_cases hl:ps.length≤sizeLine
   ·rw [if_pos hl] at P
    exact fun vs H' b' e' S' r'=>⟨by rw [← r'.length];exact hl,P (.ref C) none H' b' e' S' ⟨rfl,.inl ⟨rfl,rfl⟩⟩⟩
   ·rw [if_neg hl] at P;exact P.elim⟩
theorem REnv.lose {K:W.Frag} {H:Hp} {b:Bz} {r:qu} {s:L2.St} (h:REnv K H b r s) (i:Nat):REnv K H b (r.set i none) (s.set i none):=by
 refine ⟨by simp [h.1],fun j q hq => ?_⟩
 by_cases hj:i=j
 ·subst hj
  by_cases hl:i < r.length
  ·rw [List.getElem?_set_self hl] at hq;cases hq
  ·rw [List.getElem?_eq_none (by simpa using hl)] at hq;cases hq
 ·rw [List.getElem?_set_ne hj] at hq ⊢
  exact h.2 j q hq
def jD (i n:Nat) (cs:List Addr) (Fb Fh:FS):FS:=fun r st=>match Fb r st with
 | .ex x s=>if x.cls∈cs then (match Fh ((List.replicate n none).set i (some (.exc x.cls x.fs))) s with
  | .nx r' s' => .nx (r'.set i none) s'
  | .bk r' s' => .bk (r'.set i none) s'
  | .ct r' s' => .ct (r'.set i none) s'
  | .rt v s' => .rt v s'
  | .ex _ _ => .no
  | .no => .no) else .no
 |o=>o
theorem qGU {x n:Str} {Bx:Addr} {dd:Option Addr} {cd:ClassData} {sl:Array (Option Value)} {body:List Stmt} {b0:Stmt} {suite:List Stmt} {np hpos:Pos} {cs:List Addr} {Fb Fh:FS} (i:Nat) (FX:FrameX X) (hc:X.calm=true) (hN:X.N.Nodup)
  (hg:Gl X x) (hm:X.mg x=some (.ref Bx)) (o1:X.K.lookup Bx=some ⟨.type "type",dd,.cls cd,sl⟩) (m1:PySem.W.mroIn X.K Bx (.type "BaseException")=some true) (hcs:∀ C∈cs,PySem.W.mroIn X.K C (.ref Bx)=some true)
  (hb:∀ (pins:List (Addr×Obj)) (xe:Value->Shared->Prop) (E':XK),WT (CXF X.prog X.w) (jy X pins xe) E'->VSs (jy X pins xe) E' body Fb) (hh:∀ ea,VSs (suX X ea) E0 (b0::suite) Fh)
  (hi:X.N[i]? = some n:=by rfl) (hl:X.env.scope.names.lookup n=some .local:=by rfl) (hdb:(x==("__debug__":Str))=false:=by decide) :
  VS X E (.Try body [.ExceptHandler (some (.Name x np)) (some n) (b0::suite) hpos] [] [] pos) (jD i X.N.length cs Fb Fh):=by
 refine PS.imp (qFk (ok:=fun v => ∃ C∈cs,v = .ref C) (tb:=fun E'=>rdS X.K E' Fb) (th:=rdS X.K E0 Fh) FX hc hN hi hl hg hm o1 m1 (fun v ⟨C,hC,e⟩=>⟨C,e,hcs C hC⟩) hb hh hdb) fun D σ H ⟨b,r,st,S,R,P⟩=>⟨b,r,st,S,R,?_⟩
 unfold jD at P
 cases eb:Fb r st with
 |nx r' s'=>rw [eb] at P;exact P
 |rt r' s'=>rw [eb] at P;exact P
 |bk r' s'=>rw [eb] at P;exact P
 |ct r' s'=>rw [eb] at P;exact P
 |no=>rw [eb] at P;exact P
 |ex x s1 =>
  rw [eb] at P
  dsimp only at P
  by_cases hx:x.cls∈cs
  ·rw [if_pos hx] at P
   intro c d H' b' e' S' rx
   obtain ⟨rc,rf⟩:=rx
   refine ⟨⟨x.cls,hx,rc⟩,fun σ' ea oe hlen hn hcls hdict hdata=>⟨b',(List.replicate X.N.length none).set i (some (.exc x.cls x.fs)),s1,S'.new hn,⟨by simp [hlen],fun j p hp => ?_⟩,?_⟩⟩
   ·by_cases hj:i=j
    ·subst hj
     have hl':i < X.N.length:=(List.getElem?_eq_some_iff.mp hi).1
     rw [List.getElem?_set_self (by simpa using hl')] at hp
     cases hp
     refine ⟨.ref ea,by rw [List.getElem?_set_self (by rw [hlen];exact hl')],?_⟩
     unfold RV
     refine ⟨ea,oe,_,rfl,QG,S'.new_notin hn,hcls.trans rc,hdata,rf.imp (fun q=>⟨q.1,hdict.trans q.2⟩) fun ⟨a,q1,q2,q3⟩=>⟨a,hdict.trans q1,by rw [qN (qM q2 hn)];exact q2,q3⟩⟩
    ·rw [List.getElem?_set_ne hj,List.getElem?_replicate] at hp
     split at hp <;> cases hp
   ·have P2:=PostS.ext P (e'.trans (Ext.new (o := .frz oe qCW) hn))
    cases eh:Fh ((List.replicate X.N.length none).set i (some (.exc x.cls x.fs))) s1 with
    |nx r' s'=>rw [eh] at P2;exact fun s2 H2 b2 e2 S2 R2=>P2 _ H2 b2 e2 S2 (R2.lose i)
    |bk r' s'=>rw [eh] at P2;exact fun s2 H2 b2 e2 S2 R2=>P2 _ H2 b2 e2 S2 (R2.lose i)
    |ct r' s'=>rw [eh] at P2;exact fun s2 H2 b2 e2 S2 R2=>P2 _ H2 b2 e2 S2 (R2.lose i)
    |rt v s'=>rw [eh] at P2;exact P2
    |ex y s'=>rw [eh] at P2;exact P2.elim
    |no=>rw [eh] at P2;exact P2.elim
  ·rw [if_neg hx] at P;exact P.elim
def tyP:PV->Option Value
 | .non=>some (.type "NoneType")
 | .bl _=>some (.type "bool")
 | .int _=>some (.type "int")
 | .str _=>some (.type "str")
 | .tup _=>some (.type "tuple")
 | .lst _=>some (.type "list")
 | .ref _=>some (.type "list")
 | .dct=>some (.type "dict")
 | .exc c _=>some (.ref c)
 |_=>none
def clP:PV->Option Value
 | .ty n=>some (.type n)
 | .fn a=>some (.ref a)
 |_=>none
def qBL (kit:Value->Value->Option Bool) (p c:PV):Option Bool:=match tyP p,clP c with
 |some t,some c=>kit t c
 |_,_=>none
def jR (kit:Value->Value->Option Bool) (p:PV):List PV->Option Bool
 |[]=>some false
 |c::r=>match qBL kit p c with
  |some true=>some true
  |some false=>jR kit p r
  |none=>none
def qHN (kit:Value->Value->Option Bool) (p:PV):PV->Option Bool
 | .tup cs=>if (tyP p).isSome then jR kit p cs else none
 |c=>qBL kit p c
structure KitOk (K:W.Frag) (kit:Value->Value->Option Bool):Prop where
 one:∀ t c b,kit t c=some b->PySem.W.kitOne K t c=some b
 exc:∀ a c b,kit (.ref a) c=some b->ExcK K a
end
end EV
end
section
namespace EX
open PySem PySem.Spec PyProof.Rows L2
theorem qEE {X:Cx} {pins:List (Addr×Obj)} {σ:L2.St} {H:Hp} {s:Shared} (I:L2.Inv X pins σ H s) {fp:List Addr} (hf:∀ b∈fp,zX X pins H b) {h':Heap} {t':Nat} {x y:V} {u v:Value} (rx:RelV x u) (ry:RelV y v)
  (k:∀ b o,b ∉ fp->s.heap.get? b=some o->h'.get? b=some o) (kf:∀ b∈fp,∃ o,h'.get? b=some o) (hT:IsPair h' s.heap.objs.size u v):L2.Inv X pins σ (upd H s.heap.objs.size (.tup [x,y])) { s with heap:=h',toks:=t' }:=by
 have hn:H s.heap.objs.size=none:=I.hok.fresh (Nat.le_refl _)
 have nt:∀ b o,s.heap.get? b=some o->b≠s.heap.objs.size:=fun b o e=>Nat.ne_of_lt (Heap.lt_size e)
 have nf:∀ b u,H b=some u->b ∉ fp:=fun b u e z=>by rw [(hf b z).1] at e;cases e
 have un:Un (frs X.stack) fp H (upd H s.heap.objs.size (.tup [x,y])) s.heap h' :=
  ⟨fun b o e _ _ hb=>k b o hb e,fun b o e _ _ hb=>⟨o.slots,k b o hb e⟩,fun b o e n _=>by rw [qN (nt b o e)];exact n,fun b o e hb=>⟨o,k b o hb e⟩,fun b xs e=>by rw [qN (qM e hn)];exact e,fun b o u e=>by rw [qN (qM e hn)];exact e,fun b ps e=>⟨#[],by rw [qN (qM e hn),e];simp⟩⟩
 refine I.call (g':=s.gens) (d':=s.drawn) (t':=t') (ch:=fp) un (fun b u' e => ?_) I.bare fun b hb=>⟨(hf b hb).2.2.2.1,(hf b hb).2.1,(hf b hb).2.2.2.2.1,(hf b hb).2.2.2.2.2⟩
 by_cases hb:b=s.heap.objs.size
 ·subst hb
  rw [QG] at e;cases e
  exact ⟨by show 2≤sizeLine;decide,[u,v],.cons rx (.cons ry .nil),_,hT,rfl,0,rfl⟩
 ·rw [qN hb] at e
  refine (I.hok b u' e).stay (fun c w hc q=>k c w ?_ q) (fun c q=>by rw [qN (qM q hn)];exact q) fun c xs q=>by rw [qN (qM q hn)];exact q
  rcases hc with rfl |hc
  ·exact nf _ _ e
  ·exact nf _ _ hc
section
variable {X:Cx}
def qHu (K:W.Frag):R2:=fun x y H Q => ∃ l b xs zs,x = .ref l∧y = .ref b∧SqL K H l xs∧SqL K H b zs∧xs.length + zs.length≤sizeLine ∧ ∀ p,H p=none->Q (.ref p) (upd H p (.lst (xs++zs)))
theorem qDw:OpR X (binaryOp .Add) (qHu X.K):=by
 intro pins s σ H x y v u Q I rx ry h
 obtain ⟨l,b,xs,zs,rfl,rfl,h1,h2,hz,q⟩:=h
 cases rx
 cases ry
 obtain ⟨us,r1,p1,_⟩:=I.list h1
 obtain ⟨ws,r2,p2,_⟩:=I.list h2
 obtain ⟨⟨c1,d1,a1,s1⟩,o1,e1,m1,f1⟩:=id p1.isList
 obtain ⟨⟨c2,d2,a2,s2⟩,o2,e2,m2,f2⟩:=id p2.isList
 have e1:c1=_:=e1
 have e2:c2=_:=e2
 have f1:a1=_:=f1
 have f2:a2=_:=f2
 subst e1;subst e2;subst f1;subst f2
 have z:us.length + ws.length≤sizeLine:=by rw [← r1.length,← r2.length];exact hz
 refine concat_meets ⟨_,o1,rfl⟩ ⟨_,o2,rfl⟩ noFill_list_add seq_list_add F.slot_list_add F.entry_list_add (F.args_list_add_2 _ _) (list_addW l b us.toArray ws.toArray m1 m2 d1 d2 s1 s2 (by simpa using z)) ⟨o1,o2,?_⟩
 rw [show us.toArray++ws.toArray=(us++ws).toArray by simp]
 exact ⟨.ref _,_,I.lnew (t':=s.toks) (r1.append r2) (by rw [List.length_append];exact hz),rfl,q _ I.fresh⟩
def PJ (X:Cx) (es:List Expr) (t:Str->L2.St->Hp->(Str->Hp->Prop)->Prop):Prop := ∀ (out:Str) (pins:List (Addr×Obj)) (s:Shared) (σ:L2.St) (H:Hp) (Q:Str->Hp->Prop),L2.Inv X pins σ H s->t out σ H Q ->
 wpAny (model X.prog X.w) X.A (joinParts out (evalEach es X.env)) (fun u s' => ∃ x H',L2.Inv X pins σ H' s'∧(∃ t,u = .str x t)∧Q x H') X.xe s
theorem qGF:PJ X [] (fun out _ H Q=>out.length≤sizeLine∧Q out H):=fun out pins s σ H Q I h=>joinParts_nil ⟨out,H,I.tok _,⟨_,rfl⟩,h.2⟩ h.1
theorem qD4 {e:Expr} {es:List Expr} {te:TE} {t:Str->L2.St->Hp->(Str->Hp->Prop)->Prop} (h1:PE X e te) (h2:PJ X es t):PJ X (e::es) (fun out σ H Q=>te σ H fun v H1 => ∃ y,v = .str y∧(out++y).length≤sizeLine∧t (out++y) σ H1 Q) :=
 fun out pins s σ H Q I h=>joinParts_cons (thn (h1 pins s σ H _ I h) fun u s1 ⟨v,H1,I1,r1,y,e,z,q⟩=>by
  subst e
  obtain ⟨t',rfl⟩:=r1
  exact ⟨z,h2 (out++y) pins s1 σ H1 Q I1 q⟩)
theorem qFO {e:Expr} {te:TE} {pos:Pos} (h:PE X e te):PE X (.FormattedValue e (-1) none pos) (fun σ H Q=>te σ H fun v H1 => ∃ i,v = .int i∧i.natAbs.log2 < 1920∧Q (.str (toString i)) H1) :=
 fun pins s σ H Q I q=>FormattedValue_plain (thn (h pins s σ H _ I q) fun u s1 ⟨v,H1,I1,r1,i,e,z,q⟩=>by
  subst e
  obtain ⟨t',rfl⟩:=r1
  exact wpAny_formatField_int z ⟨.str _,H1,I1.tok _,⟨_,rfl⟩,q⟩)
theorem qEO {e1 e2:Expr} {es:List Expr} {t:Str->L2.St->Hp->(Str->Hp->Prop)->Prop} {pos:Pos} (h:PJ X (e1::e2::es) t):PE X (.JoinedStr (e1::e2::es) pos) (fun σ H Q=>t Str.empty σ H fun x H1=>Q (.str x) H1) :=
 fun pins s σ H Q I q=>JoinedStr_many (thn (h Str.empty pins s σ H _ I q) fun u s1 ⟨x,H1,I1,r1,q1⟩=>⟨.str x,H1,I1,r1,q1⟩)
theorem qCG {CX:CXT} {E:XK} {f:Expr} {tf:TE} {e:Expr} {es:List Expr} {t:TA} {pos:Pos} {fs:List (Addr×Sp)} (hx:WT CX X E) (hF:∀ p∈fs,∃ k fd ps,FnOk X.prog X.w X.K X.mg X.base CX k p.1 fd ps p.2∧Room k X.A∧PySem.W.keepIn X.K (.ref p.1)=true∧Binds X.K fd ps [])
  (hf:PE X f tf) (ha:PA X (e::es) t) (hc:eval (.Call f (e::es) [] pos) X.env=(do callWith pos (← eval f X.env) [] (backTo pos (starEach (e::es) X.env)) (backToKw pos (keywordEach [] X.env))):=by rfl) (he:starEach (e::es) X.env=(false,eval e X.env)::starEach es X.env:=by rfl) (hpl:(backTo pos (starEach es X.env)).any (·.1)=false:=by rfl) :
  PE X (.Call f (e::es) [] pos) (fun σ H Q=>tf σ H fun v H1 => ∃ a sp,v = .ref a∧(a,sp)∈fs∧t σ H1 fun vs H2=>sp vs H2 Q E):=by
 intro pins s σ H Q I h
 refine Call_ (thn (hf pins s σ H _ I h) fun u s1 ⟨v,H1,I1,r1,a,sp,e1,hm,q⟩ => ?_) hc
 subst e1
 cases r1
 obtain ⟨k,fd,ps,Fk,hr,hk,hb⟩:=hF (a,sp) hm
 refine PySem.W.callWith_K (h₀:=X.base) I1.ok.mod.kin hk (thn (ha pos pins s1 σ H1 _ I1 q) fun us s2 ⟨vs,H2,I2,r2,q2⟩=>⟨I2.kIn,?_⟩) he hpl
 exact qBh Fk hr hb .nil hx I2 r2 (by rw [List.append_nil];exact q2)
end
end EX
end
section
namespace EV
open PySem PySem.Spec PyProof.Rows L2 EX
section
variable {X:Cx} {E:XK} {e a c d:Expr} {es:List Expr} {f fa fb fc:FE} {pos:Pos} {F G:FS}
theorem W5 {x:Str} {n:String} {pos:Pos} (hg:Gl X x) (hm:X.mg x=none) (hv:bootBuiltins x=some (.type n)) (hn:x ≠ "__name__" := by decide) (hd:(x==("__debug__":Str))=false:=by decide):VE X E (.Name x pos) (vC (.ty n)) :=
 JR (qDx (v := .ty n) hg hm hv rfl hn hd) fun _ _=>by unfold RV;rfl
theorem Wg {x:Str} {a:Addr} {pos:Pos} (hg:Gl X x) (hm:X.mg x=some (.ref a)) (hd:(x==("__debug__":Str))=false:=by decide):VE X E (.Name x pos) (vC (.fn a)) :=
 JR (qAX (v := .ref a) hg hm rfl hd) fun _ _=>by unfold RV;rfl
def lk (st:qC):PV->Bool
 | .ref i=>match st[i]? with
  |some (.l _)=>true
  |_=>false
 |_=>true
theorem qBw {kit:Value->Value->Option Bool} (hk:KitOk X.K kit) {pins:List (Addr×Obj)} {σ:L2.St} {H:Hp} {s:Shared} (I:L2.Inv X pins σ H s) {b:Bz} {st:qC} (S:SR X.K H b st) {p:PV} {v:V} {u t:Value} (r:RV X.K H b p v) (ru:RelV v u) (ht:tyP p=some t) (hlk:lk st p=true) (hx:∀ a,t = .ref a->ExcK X.K a) :
  ∃ Hh,PySem.W.KitX X.K u t Hh∧Hh s.heap∧u ≠ .builtin "__main__.__loader__#opaque" := by
 cases p with
 |non=>unfold RV at r;subst r;cases ht;cases (show u=Value.none from ru);exact ⟨_,PySem.W.kitx_none,trivial,fun z=>nomatch z⟩
 |bl x=>unfold RV at r;subst r;cases ht;cases (show u=Value.bool x from ru);exact ⟨_,PySem.W.kitx_bool,trivial,fun z=>nomatch z⟩
 |int x=>unfold RV at r;subst r;cases ht;obtain ⟨t,rfl⟩:=(show ∃ t,u=Value.int x t from ru);exact ⟨_,PySem.W.kitx_int,trivial,fun z=>nomatch z⟩
 |str x=>unfold RV at r;subst r;cases ht;obtain ⟨t,rfl⟩:=(show ∃ t,u=Value.str x t from ru);exact ⟨_,PySem.W.kitx_str,trivial,fun z=>nomatch z⟩
 |tup l =>
  unfold RV at r
  obtain ⟨a,xs,rfl,h2,h3⟩:=r
  cases ht
  cases (show u=Value.ref a from ru)
  obtain ⟨its,_,⟨o,h4,h5,_⟩,_⟩:=I.tuple h2.sq
  exact ⟨_,PySem.W.kitx_tuple,⟨o,h4,h5⟩,fun z=>nomatch z⟩
 |lst l =>
  unfold RV at r
  obtain ⟨a,xs,rfl,h2,h3⟩:=r
  cases ht
  cases (show u=Value.ref a from ru)
  obtain ⟨its,_,⟨o,n,h4,h5,_⟩,_⟩:=I.list h2.sq
  exact ⟨_,PySem.W.kitx_list,⟨o,h4,h5⟩,fun z=>nomatch z⟩
 |ref i =>
  unfold RV at r
  obtain ⟨a,rfl,h2⟩:=r
  cases ht
  cases (show u=Value.ref a from ru)
  have hl:i < st.length:=by rw [← S.len];exact (List.getElem?_eq_some_iff.mp h2).1
  obtain ⟨a',o,h3,h4,h5⟩:=S.at_ i _ (List.getElem?_eq_getElem hl)
  rw [h2] at h3;cases h3
  have hq:∃ vs,o = .lst vs:=by
   cases hx:st[i] with
   |l xs=>rw [hx] at h5;obtain ⟨vs,e,_⟩:=h5;exact ⟨vs,e⟩
   |z xs=>unfold lk at hlk;dsimp only at hlk;rw [List.getElem?_eq_getElem hl,hx] at hlk;cases hlk
   |d xs=>unfold lk at hlk;dsimp only at hlk;rw [List.getElem?_eq_getElem hl,hx] at hlk;cases hlk
  obtain ⟨vs,rfl⟩:=hq
  obtain ⟨its,_,⟨o,n,h6,h7,_⟩,_⟩:=I.list (SqL.of h4)
  exact ⟨_,PySem.W.kitx_list,⟨o,h6,h7⟩,fun z=>nomatch z⟩
 |dct =>
  unfold RV at r
  obtain ⟨a,rfl,h2,h3⟩:=r
  cases ht
  cases (show u=Value.ref a from ru)
  obtain ⟨_,_,vs,_,o,_,_,h4,h5,_⟩:=(show ObjOk X.prog X.w H s.heap a (.dK []) from I.hok a _ h2)
  exact ⟨_,PySem.W.kitx_dict,⟨o,h4,h5.1⟩,fun z=>nomatch z⟩
 |exc c fs =>
  unfold RV at r
  obtain ⟨a,o,w,rfl,h2,h3,h4,⟨vs,h6⟩,h5⟩:=r
  cases ht
  cases (show u=Value.ref a from ru)
  have ho:s.heap.get? a=some o:=(I.hok a _ h2).1
  have hn:PySem.W.notCls o=true:=by
   obtain ⟨c',d',dt,sl⟩:=o
   have h6:dt=_:=h6
   subst h6;rfl
  refine ⟨_,qB4 (hx c rfl),?_,fun z=>nomatch z⟩
  rcases h5 with ⟨_,h5⟩ |⟨d,h5,h7,h8⟩
  ·exact ⟨o,none,ho,h4,hn,by rw [h5];trivial⟩
  ·obtain ⟨od,h9⟩:=got (I.hok d _ h7)
   exact ⟨o,some od,ho,h4,hn,by rw [h5];exact h9⟩
 |ty n=>cases ht
 |fn n=>cases ht
theorem qEt {K:W.Frag} {H:Hp} {b:Bz} {c:PV} {v:V} {u t:Value} (r:RV K H b c v) (ru:RelV v u) (ht:clP c=some t):u=t:=by
 cases c with
 |ty n=>unfold RV at r;subst r;cases ht;exact ru
 |fn a=>unfold RV at r;subst r;cases ht;exact ru
 |_=>cases ht
theorem jJ {kit:Value->Value->Option Bool} (hk:KitOk X.K kit) {H:Hp} {b:Bz} {p:PV} {t:Value} (ht:tyP p=some t):∀ {cs:List PV} {xs:List V} {us:List Value} {k:Bool},RVs X.K H b cs xs->Vals xs us->jR kit p cs=some k->PySem.W.kitAny X.K t us=some k
 |[],_,_,k,h,r,e=>by
  unfold RVs at h;subst h;cases r;exact e
 |c::cs,_,_,k,h,r,e=>by
  unfold RVs at h
  obtain ⟨x,xs,rfl,h1,h2⟩:=h
  cases r with
  | @cons _ u _ us r1 r2 =>
   unfold jR qBL at e
   rw [ht] at e
   cases hc:clP c with
   |none=>rw [hc] at e;cases e
   |some c' =>
    rw [hc] at e
    have eu:=qEt h1 r1 hc
    subst eu
    dsimp only at e
    unfold PySem.W.kitAny
    cases q:kit t u with
    |none=>rw [q] at e;cases e
    |some bb =>
     rw [q] at e
     rw [hk.one _ _ _ q]
     cases bb with
     |true=>exact e
     |false=>exact jJ hk ht h2 r2 e
theorem qC9 {kit:Value->Value->Option Bool} (hk:KitOk X.K kit) {p:PV} {t:Value} (ht:tyP p=some t):∀ {cs:List PV} {k:Bool},cs≠[]->jR kit p cs=some k -> ∀ a,t = .ref a->ExcK X.K a
 |[],_,h,_,_,_=>absurd rfl h
 |c::cs,k,_,e,a,ha=>by
  unfold jR qBL at e
  rw [ht] at e
  cases hc:clP c with
  |none=>rw [hc] at e;cases e
  |some c' =>
   rw [hc] at e
   dsimp only at e
   cases q:kit t c' with
   |none=>rw [q] at e;cases e
   |some bb=>subst ha;exact hk.exc _ _ _ q
theorem qDO {kit:Value->Value->Option Bool} (hk:KitOk X.K kit):Wq X (.builtin "isinstance") (fun vs H Q => ∃ b st p c k,SR X.K H b st∧RVs X.K H b [p,c] vs∧(∀ cs,c = .tup cs->cs≠[])∧lk st p=true∧qHN kit p c=some k∧Q (.bl k) H):=by
 intro pins s σ H xs us Q I r h
 obtain ⟨b,st,p,c,k,S,rs,hne,hlk,e,q⟩:=h
 obtain ⟨x,y,rfl,r1,r2⟩:=RVs.two rs
 obtain ⟨u,v,rfl,ru,rv⟩:=Jz r
 by_cases hc:∃ cs,c = .tup cs
 ·obtain ⟨cs,rfl⟩:=hc
  have e:(if (tyP p).isSome then jR kit p cs else none)=some k:=e
  cases ht:tyP p with
  |none=>rw [ht] at e;cases e
  |some t =>
   rw [ht] at e
   have e:jR kit p cs=some k:=e
   obtain ⟨Hh,Z,hh,hx⟩:=qBw hk I S r1 ru ht hlk (qC9 hk ht (hne cs rfl) e)
   unfold RV at r2
   obtain ⟨a,ys,rfl,h2,h3⟩:=r2
   cases (show v=Value.ref a from rv)
   obtain ⟨its,r',⟨o,h4,h5,n,h6⟩,_⟩:=I.tuple h2.sq
   obtain ⟨c1,d1,dt,sl⟩:=o
   have h5:c1=_:=h5
   have h6:dt=_:=h6
   subst h5;subst h6
   exact PySem.W.kia_tup Z I.kIn hh h4 (jJ hk ht h3 r' e) hx fun tk=>⟨.bl k,H,I.tok _,rfl,q⟩
 ·have e:qBL kit p c=some k:=by
   cases c <;> first |exact e |exact (hc ⟨_,rfl⟩).elim
  unfold qBL at e
  cases ht:tyP p with
  |none=>rw [ht] at e;cases e
  |some t =>
   cases hc2:clP c with
   |none=>rw [ht,hc2] at e;cases e
   |some c' =>
    rw [ht,hc2] at e
    have eu:=qEt r2 rv hc2
    subst eu
    obtain ⟨Hh,Z,hh,hx⟩:=qBw hk I S r1 ru ht hlk (fun a ha=>by subst ha;exact hk.exc _ _ _ e)
    exact PySem.W.kia_one Z I.kIn hh (hk.one _ _ _ e) hx fun tk=>⟨.bl k,H,I.tok _,rfl,q⟩
def Qa (kit:Value->Value->Option Bool):List PV->qC->Rs PV:=fun ps st=>match ps with
 |[p,c]=>match c with
  | .tup [] => .no
  |c=>match qHN kit p c with
   |some b=>if lk st p=true then .ok (.bl b) st else .no
   |none => .no
 |_ => .no
theorem QX {kit:Value->Value->Option Bool} {ta:FA} {p:Pos} (hk:KitOk X.K kit) (hm:X.mg "isinstance" = none) (ha:VA X E (e::es) ta) (hg:Gl X "isinstance" := by rfl)
  (he:starEach (e::es) X.env=(false,eval e X.env)::starEach es X.env:=by rfl) (hpl:(backTo pos (starEach es X.env)).any (·.1)=false:=by rfl):VE X E (.Call (.Name "isinstance" p) (e::es) [] pos) (qI (Qa kit) ta) :=
 WW (qDO hk) (fun H b st ps vs Q S r P=>by
  unfold Qa at P
  split at P
  ·rename_i p c
   split at P
   ·exact P.elim
   ·rename_i hc
    split at P
    ·rename_i k hk'
     split at P
     ·rename_i hlk
      exact ⟨b,st,p,c,k,S,r,fun cs e z=>by subst e;subst z;exact hc rfl,hlk,hk',PostE.here P S Wa⟩
     ·exact P.elim
    ·exact P.elim
  ·exact P.elim) hg hm PyProof.Rows.boot_isinstance ha (he:=he) (hpl:=hpl)
end
def pbl:PV->Option Bool
 | .bl b=>some b
 |_=>none
def qD6:PV->Option Int
 | .int i=>some i
 |_=>none
def wk {α:Type} (f:PV->Option α):List PV->Option (List α)
 |[]=>some []
 |p::ps=>match f p with
  |some a=>match wk f ps with
   |some r=>some (a::r)
   |none=>none
  |none=>none
section
variable {X:Cx} {E:XK} {e a c d:Expr} {es:List Expr} {f fa fb fc:FE} {pos:Pos} {F G:FS}
theorem qB0 {K:W.Frag} {H:Hp} {b:Bz}:∀ {l:List PV} {xs:List V} {bs:List Bool},RVs K H b l xs->wk pbl l=some bs->xs=bs.map V.bl
 |[],_,_,h,e=>by unfold RVs at h;subst h;cases e;rfl
 |p::ps,_,bs,h,e=>by
  unfold RVs at h
  obtain ⟨x,r,rfl,h1,h2⟩:=h
  unfold wk at e
  cases p with
  |bl k =>
   unfold RV at h1;subst h1
   cases q:wk pbl ps with
   |none=>rw [q] at e;cases e
   |some r'=>rw [q] at e;cases e;rw [qB0 h2 q];rfl
  |_=>cases e
theorem YF {K:W.Frag} {H:Hp} {b:Bz}:∀ {l:List PV} {xs:List V} {bs:List Int},RVs K H b l xs->wk qD6 l=some bs->xs=bs.map V.int
 |[],_,_,h,e=>by unfold RVs at h;subst h;cases e;rfl
 |p::ps,_,bs,h,e=>by
  unfold RVs at h
  obtain ⟨x,r,rfl,h1,h2⟩:=h
  unfold wk at e
  cases p with
  |int k =>
   unfold RV at h1;subst h1
   cases q:wk qD6 ps with
   |none=>rw [q] at e;cases e
   |some r'=>rw [q] at e;cases e;rw [YF h2 q];rfl
  |_=>cases e
def Yy {α:Type} (k:PV->Option α) (g:List α->PV):List PV->qC->Rs PV:=fun ps st=>match ps with
 |[p]=>match asL st p with
  |some l=>match wk k l with
   |some r => .ok (g r) st
   |none => .no
  |none => .no
 |_ => .no
def jk:=Yy pbl fun bs => .bl (bs.all id)
def qDs:=Yy qD6 fun ns => .int ns.sum
theorem qFM:zk X E (fun xs H Q => ∃ (p:Addr) (bs:List Bool),xs=[.ref p]∧SqL X.K H p (bs.map V.bl)∧Q (.bl (bs.all id)) H) jk:=by
 intro H b st ps vs Q S r P
 unfold jk Yy at P
 split at P
 ·obtain ⟨v,rfl,r1⟩:=RVs.one r
  split at P
  ·rename_i l e
   split at P
   ·rename_i bs eb
    obtain ⟨a,xs,rfl,h2,h3⟩:=wA S r1 e
    rw [qB0 h3 eb] at h2
    exact ⟨a,bs,rfl,h2,PostE.here P S Wa⟩
   ·exact P.elim
  ·exact P.elim
 ·exact P.elim
theorem qGL:zk X E (fun xs H Q => ∃ (p:Addr) (ns:List Int),xs=[.ref p]∧SqL X.K H p (ns.map V.int)∧Q (.int ns.sum) H) qDs:=by
 intro H b st ps vs Q S r P
 unfold qDs Yy at P
 split at P
 ·obtain ⟨v,rfl,r1⟩:=RVs.one r
  split at P
  ·rename_i l e
   split at P
   ·rename_i bs eb
    obtain ⟨a,xs,rfl,h2,h3⟩:=wA S r1 e
    rw [YF h3 eb] at h2
    exact ⟨a,bs,rfl,h2,PostE.here P S Qj⟩
   ·exact P.elim
  ·exact P.elim
 ·exact P.elim
section
variable {ta:FA} {p:Pos} (ha:VA X E (e::es) ta)
include ha
theorem qGT (hm:X.mg "all" = none) (hg:Gl X "all" := by rfl) (he:starEach (e::es) X.env=(false,eval e X.env)::starEach es X.env:=by rfl) (hpl:(backTo pos (starEach es X.env)).any (·.1)=false:=by rfl):VE X E (.Call (.Name "all" p) (e::es) [] pos) (qI jk ta) :=
 WW qBX qFM hg hm Boot.«all» ha (he:=he) (hpl:=hpl)
theorem qFn (hm:X.mg "sum" = none) (hg:Gl X "sum" := by rfl) (he:starEach (e::es) X.env=(false,eval e X.env)::starEach es X.env:=by rfl) (hpl:(backTo pos (starEach es X.env)).any (·.1)=false:=by rfl):VE X E (.Call (.Name "sum" p) (e::es) [] pos) (qI qDs ta) :=
 WW qA4 qGL hg hm Boot.«sum» ha (he:=he) (hpl:=hpl)
theorem wu (hm:X.mg "len" = none) (hg:Gl X "len" := by rfl) (he:starEach (e::es) X.env=(false,eval e X.env)::starEach es X.env:=by rfl) (hpl:(backTo pos (starEach es X.env)).any (·.1)=false:=by rfl):VE X E (.Call (.Name "len" p) (e::es) [] pos) (qI WJ ta) :=
 WW Yp qF5 hg hm Boot.«len» ha (he:=he) (hpl:=hpl)
theorem qDc (hc:X.calm=true) (hm:X.mg "max" = none) (hg:Gl X "max" := by rfl) (he:starEach (e::es) X.env=(false,eval e X.env)::starEach es X.env:=by rfl) (hpl:(backTo pos (starEach es X.env)).any (·.1)=false:=by rfl):VE X E (.Call (.Name "max" p) (e::es) [] pos) (qI qCn ta) :=
 WW (qA2 hc) qFj hg hm Boot.«max» ha (he:=he) (hpl:=hpl)
theorem qEK (hc:X.calm=true) (hm:X.mg "min" = none) (hg:Gl X "min" := by rfl) (he:starEach (e::es) X.env=(false,eval e X.env)::starEach es X.env:=by rfl) (hpl:(backTo pos (starEach es X.env)).any (·.1)=false:=by rfl):VE X E (.Call (.Name "min" p) (e::es) [] pos) (qI qCx ta) :=
 WW (qAn hc) qF7 hg hm Boot.«min» ha (he:=he) (hpl:=hpl)
theorem yn (hm:X.mg "tuple" = none) (hg:Gl X "tuple" := by rfl) (he:starEach (e::es) X.env=(false,eval e X.env)::starEach es X.env:=by rfl) (hpl:(backTo pos (starEach es X.env)).any (·.1)=false:=by rfl):VE X E (.Call (.Name "tuple" p) (e::es) [] pos) (qI zO ta) :=
 yj yN qBm hg hm Boot.«tuple» ha (he:=he) (hpl:=hpl)
theorem qEr (hm:X.mg "int" = none) (hg:Gl X "int" := by rfl) (he:starEach (e::es) X.env=(false,eval e X.env)::starEach es X.env:=by rfl) (hpl:(backTo pos (starEach es X.env)).any (·.1)=false:=by rfl):VE X E (.Call (.Name "int" p) (e::es) [] pos) (qI qCF ta) :=
 yj qBN qGO hg hm Boot.«int» ha (he:=he) (hpl:=hpl)
end
def zR (fa fb:FE):FL:=fun r st=>(fa r st).bind fun p s1=>(fb r s1).bind fun q s2=>match asL s2 p with
 |some l=>match asL s2 q with
  |some m=>if l.length + m.length≤sizeLine then .ok (l++m) s2 else .no
  |none => .no
 |none => .no
theorem Z6 (ha:VE X E a fa) (hb:VE X E c fb):VN X E (.BinOp a .Add c pos) (zR fa fb):=PE.imp (qC3 qDw ha hb) fun s H Q ⟨b,r,st,S,R,P⟩ =>
 ⟨b,r,st,S,R,PostE.bindN P fun p s1 u H1 b1 e1 S1 r1 P1=>⟨b1,r,s1,S1,R.ext e1,PostE.bindN P1 fun q s2 v H2 b2 e2 S2 r2 P2=>by
  split at P2
  ·rename_i l el
   split at P2
   ·rename_i m em
    split at P2
    ·rename_i hl
     obtain ⟨x,xs,rfl,h2,h3⟩:=wA S2 (RV.ext e2 p r1) el
     obtain ⟨y,ys,rfl,h4,h5⟩:=wA S2 r2 em
     exact ⟨x,y,xs,ys,rfl,rfl,h2,h4,by rw [← h3.length,← h5.length];exact hl,fun z hz=>PostN.lay P2 S2 (h3.append h5) hz⟩
    ·exact P2.elim
   ·exact P2.elim
  ·exact P2.elim⟩⟩
theorem RVs.rep {K:W.Frag} {H:Hp} {b:Bz} {l:List PV} {xs:List V} (h:RVs K H b l xs):∀ n,RVs K H b (List.replicate n l).flatten (List.replicate n xs).flatten
 |0=>RVs.nil
 |n + 1=>by rw [List.replicate_succ,List.replicate_succ,List.flatten_cons,List.flatten_cons];exact h.append (RVs.rep h n)
def Y0 (fa:FL) (fb:FE):FL:=fun r st=>(fa r st).bind fun l s1=>(fb r s1).bind fun q s2=>match q with
 | .int k=>if -(2 ^ 63)≤k∧k < 2 ^ 63∧l.length * k.toNat≤sizeLine then .ok (List.replicate k.toNat l).flatten s2 else .no
 |_ => .no
end
theorem WE.hid1 {H H':Hp} {b b':Bz} {p:Addr} (e:Ext H b H' b') (hn:H p=none):WE H b H' ⟨b'.b,p::b'.z⟩ :=
 ⟨e.more,⟨[p],by rw [e.same];rfl,fun a ha=>by rw [List.mem_singleton.mp ha];exact hn⟩,e.keep,e.dom⟩
theorem Ext.unhide {H H' H2:Hp} {b b' b4:Bz} {p:Addr} (e:Ext H b H' b') (hn:H p=none) (e4:Ext H' ⟨b'.b,p::b'.z⟩ H2 b4):Ext H b H2 ⟨b4.b,b'.z⟩:=by
 obtain ⟨n,hb,hh⟩:=e.more
 obtain ⟨n4,hb4,hh4⟩:=e4.more
 refine ⟨⟨⟨n++n4,?_,fun a ha => ?_⟩,⟨[],by rw [e.same];rfl,by simp⟩,fun a o ha ho => ?_,fun a o ha => ?_⟩,e.same,fun a o ha ho => ?_,fun a o u ha=>e4.fz a o u (e.fz a o u ha)⟩
 ·show b4.b=b.b++(n++n4)
  rw [hb4];show b'.b++n4=_;rw [hb,List.append_assoc]
 ·rcases List.mem_append.mp ha with ha |ha
  ·exact hh a ha
  ·exact e.none_of (hh4 a ha)
 ·have o2:=e.not_in ha ho
  exact e4.keep a o (e.keep a o ha ho) ⟨o2.1,fun z=>(List.mem_cons.mp z).elim (qM ha hn) o2.2⟩
 ·obtain ⟨o',h'⟩:=e.dom a o ha
  exact e4.dom a o' h'
 ·exact e4.hid a o (List.mem_cons_of_mem _ (by rw [e.same];exact ha)) (e.hid a o ha ho)
theorem qE4 {b4:Bz} {z:List Addr} (h:b4.z=z):b4=⟨b4.b,z⟩:=by cases b4;cases h;rfl
section
variable {X:Cx} {E:XK} {e a c d:Expr} {es:List Expr} {f fa fb fc:FE} {fl:FL} {pos:Pos} {F G:FS}
theorem qFg (ha:VN X E a fl) (hb:VE X E c fb):VN X E (.BinOp a .Mult c pos) (Y0 fl fb):=PE.imp (qC3 qFK ha hb) fun s H Q ⟨b,r,st,S,R,P⟩=>⟨b,r,st,S,R,by
 unfold Y0 at P
 cases ef:fl r st with
 |no=>rw [ef] at P;exact P.elim
 |ex x s1=>rw [ef] at P;exact P
 |ok l s1 =>
  rw [ef] at P
  have P:PostN X.K E H b ((fb r s1).bind fun q s2=>match q with | .int k=>if -(2 ^ 63)≤k∧k < 2 ^ 63∧l.length * k.toNat≤sizeLine then .ok (List.replicate k.toNat l).flatten s2 else .no |_ => .no) Q:=P
  intro p xs H' b' e1 hn hp hz S1 r1
  refine ⟨⟨b'.b,p::b'.z⟩,r,s1,S1,R.wext (WE.hid1 e1 hn),?_⟩
  cases eb:fb r s1 with
  |no=>rw [eb] at P;exact P.elim
  |ex x s2 =>
   rw [eb] at P
   intro cc dd H2 b2 e2 S2 rx
   have e3:=Ext.unhide e1 hn e2
   have hb2:b2=⟨b2.b,p::b'.z⟩:=qE4 e2.same
   refine P cc dd H2 ⟨b2.b,b'.z⟩ e3 (by rw [hb2] at S2;exact S2.bare) ⟨rx.1,rx.2.imp id fun ⟨a,q1,q2,q3⟩=>⟨a,q1,q2,by rw [hb2] at q3;exact ⟨q3.1,fun z=>q3.2 (List.mem_cons_of_mem _ z)⟩⟩⟩
  |ok q s2 =>
   rw [eb] at P
   intro v H2 b2 e2 S2 rv
   have e3:=Ext.unhide e1 hn e2
   have hb2:b2=⟨b2.b,p::b'.z⟩:=qE4 e2.same
   dsimp only [Rs.bind] at P
   split at P
   ·rename_i k
    split at P
    ·rename_i hk
     unfold RV at rv
     have hH2:H2 p=some (.lst xs):=e2.hid p _ List.mem_cons_self hp
     have S3:SR X.K H2 ⟨b2.b,b'.z⟩ s2:=by rw [hb2] at S2;exact S2.bare
     have r3:RVs X.K H2 ⟨b2.b,b'.z⟩ l xs:=RVs.sh Sh.bare l (by have:=RVs.ext e2 l r1;rw [hb2] at this;exact this)
     refine ⟨p,k,xs,rfl,rv,hH2,hk.1,hk.2.1,by rw [← r1.length];exact hk.2.2,fun z hz' => ?_⟩
     exact PostN.lay (PostN.ext (show PostN X.K E H b (.ok (List.replicate k.toNat l).flatten s2) Q from P) e3) S3 (RVs.rep r3 k.toNat) hz'
    ·exact P.elim
   ·exact P.elim⟩
abbrev FO:=qu->qC->Rs (Option Int)
def PostO (K:W.Frag) (E:XK) (H:Hp) (b:Bz) (r:Rs (Option Int)) (Q:Option Int->Hp->Prop):Prop:=match r with
 | .ok k st => ∀ H' b',Ext H b H' b'->SR K H' b' st->Q k H'
 | .ex x st=>XP K E H b x st
 | .no=>False
def rdO (K:W.Frag) (E:XK) (f:FO):TO:=fun s H Q => ∃ b r st,SR K H b st∧REnv K H b r s∧PostO K E H b (f r st) Q
abbrev VO (X:Cx) (E:XK) (e:Option Expr) (f:FO):Prop:=PO X e (rdO X.K E f)
def Zk:FO:=fun _ st => .ok none st
def Ww (f:FE):FO:=fun r st=>(f r st).bind fun p s=>match p with
 | .int i => .ok (some i) s
 |_ => .no
theorem J6:VO X E none Zk:=fun pins s σ H Q I ⟨b,r,st,S,R,P⟩=>qDf pins s σ H Q I (P H b (Ext.refl _ _) S)
theorem J1 (h:VE X E e f):VO X E (some e) (Ww f):=fun pins s σ H Q I ⟨b,r,st,S,R,P⟩=>qDr h pins s σ H Q I ⟨b,r,st,S,R,by
 unfold Ww at P
 cases ef:f r st with
 |no=>rw [ef] at P;exact P.elim
 |ex x s1=>rw [ef] at P;exact P
 |ok p s1 =>
  rw [ef] at P
  intro v H1 b1 e1 S1 r1
  dsimp only [Rs.bind] at P
  split at P
  ·rename_i i
   unfold RV at r1
   exact ⟨i,r1,P H1 b1 e1 S1⟩
  ·exact P.elim⟩
def JG (l:List PV) (lo hi:Option Int):List PV:=(l.drop (HT.sIx l.length 0 lo)).take (HT.sIx l.length l.length hi - HT.sIx l.length 0 lo)
theorem PostO.bind {K:W.Frag} {E:XK} {H:Hp} {b:Bz} {r:Rs (Option Int)} {k:Option Int->qC->Rs PV} {Q:VK} {R:Option Int->Hp->Prop} (P:PostE K E H b (r.bind k) Q)
  (h:∀ p st H1 b1,Ext H b H1 b1->SR K H1 b1 st->PostE K E H1 b1 (k p st) Q->R p H1):PostO K E H b r R:=by
 cases r with
 |ok p st=>exact fun H1 b1 e S=>h p st H1 b1 e S (PostE.ext (show PostE K E H b (k p st) Q from P) e)
 |ex x st=>exact P
 |no=>exact P
def wQ (fo f:FE):FS:=fun r st=>(fo r st).bindS fun o s1=>match o with
 | .ref n=>if lk s1 (.ref n)=true then (f r s1).bindS fun p s2=>match s2[n]? with
  |some (.l xs)=>if xs.length < sizeLine then .nx r (s2.set n (.l (xs++[p]))) else .no
  |_ => .no else .no
 |_ => .no
theorem ZC {fo:FE} {o:Expr} {apos cpos:Pos} (ho:VE X E o fo) (h:VE X E e f) (hs:swapsWith (.Call (.Attribute o "append" apos) [e] [] cpos) none pos.line X.env=pure false:=by rfl)
  (hbase:attributeBase o "append" X.env (eval o X.env)=eval o X.env:=by rfl)
  (hfew:((backTo cpos (starEach [e] X.env)).all (fun x => !x.1)&&(backToKw cpos (keywordEach [] X.env)).all (fun x=>x.1.isSome)&&decide ([e].length + ([]:List Keyword).length + (if ([]:List Keyword).isEmpty then 0 else 1) < 30))=true:=by rfl)
  (hline:(apos.endLine==cpos.line)=true:=by rfl) (h1:starEach [e] X.env=(false,eval e X.env)::starEach [] X.env:=by rfl) (hplain:(backTo cpos (starEach [] X.env)).any (·.1)=false:=by rfl) :
  VS X E (.Expr (.Call (.Attribute o "append" apos) [e] [] cpos) pos) (wQ fo f) :=
 PS.imp (qAi (qDB PySem.F.plainAttrs_list PySem.F.slot_list_append PySem.F.type_list_append yk ho (ZX h YS h1) hbase hfew hline h1 hplain) hs) fun D s H ⟨b,r,st,S,R,P⟩=>⟨b,r,st,S,R,PostE.bindS P fun o s1 u H1 b1 e1 S1 r1 P1=>by
  have key:∀ {n:Nat},o = .ref n->lk s1 (.ref n)=true->tyV X.K "list" u H1:=fun {n} ho hlk=>by
   subst ho
   unfold RV at r1
   obtain ⟨x,rfl,hx⟩:=r1
   have hl:n < s1.length:=by rw [← S1.len];exact (List.getElem?_eq_some_iff.mp hx).1
   obtain ⟨a',o',h3,h4,h5⟩:=S1.at_ n _ (List.getElem?_eq_getElem hl)
   rw [hx] at h3;cases h3
   cases hq:s1[n] with
   |l xs=>rw [hq] at h5;obtain ⟨vs,e,_⟩:=h5;subst e;exact .inl ⟨rfl,vs,SqL.of h4⟩
   |z xs=>unfold lk at hlk;dsimp only at hlk;rw [List.getElem?_eq_getElem hl,hq] at hlk;cases hlk
   |d xs=>unfold lk at hlk;dsimp only at hlk;rw [List.getElem?_eq_getElem hl,hq] at hlk;cases hlk
  cases o with
  |ref n =>
   have P1:PostS X.K E H1 b1 (if lk s1 (.ref n)=true then ((f r s1).bindS fun p s2=>match s2[n]? with |some (.l xs)=>if xs.length < sizeLine then .nx r (s2.set n (.l (xs++[p]))) else .no |_ => .no) else .no) D:=P1
   by_cases hlk:lk s1 (.ref n)=true
   rotate_left
   ·rw [if_neg hlk] at P1;exact P1.elim
   rw [if_pos hlk] at P1
   refine ⟨key rfl hlk,b1,r,s1,S1,R.ext e1,?_⟩
   cases eb:f r s1 with
   |no=>rw [eb] at P1;exact P1.elim
   |ex x s2=>rw [eb] at P1;exact P1
   |ok p s2 =>
    rw [eb] at P1
    intro v H2 b2 e2 S2 r2
    have P2:PostS X.K E H1 b1 (match s2[n]? with |some (.l xs)=>if xs.length < sizeLine then .nx r (s2.set n (.l (xs++[p]))) else .no |_ => .no) D:=P1
    split at P2
    ·rename_i xs ex
     split at P2
     ·rename_i hl
      have r1':=RV.ext e2 _ r1
      unfold RV at r1'
      obtain ⟨x,rfl,hx⟩:=r1'
      obtain ⟨x',o',h1,h2,vs,rfl,h4⟩:=S2.at_ n _ ex
      rw [hx] at h1;cases h1
      refine ⟨x,vs,v,rfl,rfl,h2,by rw [← h4.length];exact hl,?_⟩
      have hm:x∈b2.b:=List.mem_of_getElem? hx
      have ew:Ext H2 b2 (upd H2 x (.lst (vs++[v]))) b2:=Ext.wr hm S2.zb (qDg h2)
      exact P2 s _ b2 (e2.trans ew) (S2.wr (x := .l (xs++[p])) hx ⟨_,rfl,(RVs.ext ew xs h4).append (RVs.cons (RV.ext ew p r2) RVs.nil)⟩) (((R.ext e1).ext e2).ext ew)
     ·exact P2.elim
    ·exact P2.elim
  |_=>exact P1.elim⟩
def qA9 (p:PV):List PV->Option Nat
 |[]=>none
 |q::qs=>if peq q p=true then some 0 else (qA9 p qs).map (· + 1)
theorem y0 (p:PV):∀ {l:List PV} {j:Nat},qA9 p l=some j->(∃ q,l[j]? = some q∧peq q p=true) ∧ ∀ m,m < j -> ∃ q,l[m]? = some q∧peq q p=false
 |[],_,h=>by cases h
 |q::qs,j,h=>by
  unfold qA9 at h
  split at h
  ·rename_i hq;cases h;exact ⟨⟨q,rfl,hq⟩,fun m hm=>by omega⟩
  ·rename_i hq
   cases e:qA9 p qs with
   |none=>rw [e] at h;cases h
   |some k =>
    rw [e] at h;cases h
    obtain ⟨⟨q',h1,h2⟩,h3⟩:=y0 p e
    refine ⟨⟨q',by simpa using h1,h2⟩,fun m hm => ?_⟩
    cases m with
    |zero=>exact ⟨q,rfl,by simpa using hq⟩
    |succ m=>obtain ⟨q2,h4,h5⟩:=h3 m (by have hm:m + 1 < k + 1:=hm;omega);exact ⟨q2,by simpa using h4,h5⟩
theorem qFi {pins:List (Addr×Obj)} {σ:L2.St} {H:Hp} {s:Shared} (I:L2.Inv X pins σ H s) {A:Around} {p:PV} {u:V} {uu:Value} (hp:RW X.K H p u) (ru:RelV u uu) (hA:A.units + 60 < cLine)
  {l:List PV} {xs:List V} {its:List Value} (hl:RWs X.K H l xs) (vl:Vals xs its) (hd:deps l≤yR):∃ g:Value->Bool,(∀ y∈its,SeqAt.EqAt A s y uu (g y)) ∧ ∀ (i:Nat) (q:PV) (y:Value),l[i]? = some q->its[i]? = some y->g y=peq q p:=by
 classical
 have key:∀ (q:PV) (x:V) (y:Value),RW X.K H q x->RelV x y->decide (∃ q x,RW X.K H q x∧RelV x y∧peq q p=true)=peq q p:=fun q x y h1 h2=>by
  by_cases hb:peq q p=true
  ·rw [hb];exact decide_eq_true ⟨q,x,h1,h2,hb⟩
  ·rw [show peq q p=false by simpa using hb]
   refine decide_eq_false fun ⟨q',x',k1,k2,k3⟩=>hb ?_
   have ex:x'=x:=k2.inj h2
   subst ex
   rw [RW.det I q q' h1 k1];exact k3
 refine ⟨fun y=>decide (∃ q x,RW X.K H q x∧RelV x y∧peq q p=true),fun y hy => ?_,fun i q y hq hy => ?_⟩
 ·obtain ⟨i,hi⟩:=List.getElem?_of_mem hy
  obtain ⟨x,hx,rx⟩:=Vals.get2 vl hi
  obtain ⟨q,hq,rq⟩:=RWs.get' hl hx
  dsimp only
  rw [key q x y rq rx]
  exact Jq I 60 q p x u y uu A (Nat.le_trans (We hq) hd) hA rq hp rx ru
 ·obtain ⟨x,hx,rx⟩:=Vals.get2 vl hy
  obtain ⟨q',hq',rq⟩:=RWs.get' hl hx
  rw [hq] at hq';cases hq'
  exact key q x y rq rx
theorem qCD (hr:X.A.units + 64 < cLine):MtM X "list.index" (fun x vs H Q => ∃ l xs a p v j,x = .ref a∧vs=[v]∧SqL X.K H a xs∧RWs X.K H l xs∧RW X.K H p v∧deps l≤yR∧qA9 p l=some j∧Q (.int j) H):=by
 intro pins s σ H x vs v us Q I rx rv h
 obtain ⟨l,xs,ad,p,y,j,rfl,rfl,hs,hl,hp,hd,hj,q⟩:=h
 cases rx
 obtain ⟨u,rfl,ru⟩:=rv.one
 obtain ⟨its,r',pl,hz⟩:=I.list hs
 obtain ⟨⟨c1,d1,a1,s1⟩,o1,e1,m1,f1⟩:=id pl.isList
 have e1:c1=_:=e1
 have f1:a1=_:=f1
 subst e1;subst f1
 have hA:X.A.in1.units + 60 < cLine:=by show X.A.units + 1 + 60 < cLine;omega
 obtain ⟨g,g1,g2⟩:=qFi I hp ru hA hl r' hd
 obtain ⟨⟨q1,k1,k2⟩,k3⟩:=y0 p hj
 have n1:l.length=its.length:=by rw [hl.length,r'.length]
 have jl:j < l.length:=(List.getElem?_eq_some_iff.mp k1).1
 have ji:j < its.length:=by rw [← n1];exact jl
 refine call_meets F.slot_list_index ⟨_,o1,rfl⟩ F.entry_list_index (F.args_list_index_2 _ _) (SeqAt.list_indexAt ad its.toArray m1 d1 s1 u g j (by simpa using ji) ?_ ?_ fun m hm hlt => ?_) ⟨o1,fun y hy=>g1 y (by simpa using hy),⟨.int j,H,I.tok _,⟨_,rfl⟩,q⟩⟩
 ·have:its.length≤sizeLine:=by rw [← r'.length];exact hz
  have h2:(sizeLine:Nat) < 2 ^ 62:=by decide
  omega
 ·rw [show its.toArray[j]=its[j] by simp,g2 j q1 _ k1 (List.getElem?_eq_getElem ji)];exact k2
 ·obtain ⟨q2,k4,k5⟩:=k3 m hlt
  have mi:m < its.length:=by simpa using hm
  rw [show its.toArray[m]=its[m] by simp,g2 m q2 _ k4 (List.getElem?_eq_getElem mi)];exact k5
def qHf (fo f:FE):FE:=fun r st=>(fo r st).bind fun o s1=>match asL s1 o with
 |some _=>(f r s1).bind fun p s2=>match asL s2 o with
  |some l=>if nrs l=true∧nr p=true∧deps l≤yR then (match qA9 p l with |some j => .ok (.int j) s2 |none => .no) else .no
  |none => .no
 |none => .no
theorem qBn {fo:FE} {o:Expr} {apos cpos:Pos} (hr:X.A.units + 64 < cLine) (ho:VE X E o fo) (h:VE X E e f) (hbase:attributeBase o "index" X.env (eval o X.env)=eval o X.env:=by rfl)
  (hfew:((backTo cpos (starEach [e] X.env)).all (fun x => !x.1)&&(backToKw cpos (keywordEach [] X.env)).all (fun x=>x.1.isSome)&&decide ([e].length + ([]:List Keyword).length + (if ([]:List Keyword).isEmpty then 0 else 1) < 30))=true:=by rfl)
  (hline:(apos.endLine==cpos.line)=true:=by rfl) (h1:starEach [e] X.env=(false,eval e X.env)::starEach [] X.env:=by rfl) (hplain:(backTo cpos (starEach [] X.env)).any (·.1)=false:=by rfl) :
  VE X E (.Call (.Attribute o "index" apos) [e] [] cpos) (qHf fo f) :=
 PE.imp (qDB PySem.F.plainAttrs_list PySem.F.slot_list_index PySem.F.type_list_index (qCD hr) ho (ZX h YS h1) hbase hfew hline h1 hplain) fun s H Q ⟨b,r,st,S,R,P⟩=>⟨b,r,st,S,R,PostE.bind P fun o s1 u H1 b1 e1 S1 r1 P1=>by
  split at P1
  ·rename_i l1 el1
   obtain ⟨x,xs,rfl,h2,h3⟩:=wA S1 r1 el1
   refine ⟨.inl ⟨rfl,xs,h2⟩,b1,r,s1,S1,R.ext e1,PostE.bind P1 fun p s2 v H2 b2 e2 S2 r2 P2 => ?_⟩
   split at P2
   ·rename_i l el
    split at P2
    ·rename_i hc
     split at P2
     ·rename_i j hj
      obtain ⟨x',ys,ex,h4,h5⟩:=wA S2 (RV.ext e2 o r1) el
      cases ex
      exact ⟨l,ys,x,p,v,j,rfl,rfl,h4,RVs.rws l hc.1 h5,RV.rw p hc.2.1 r2,hc.2.2,hj,PostE.here P2 S2 Qj⟩
     ·exact P2.elim
    ·exact P2.elim
   ·exact P2.elim
  ·exact P1.elim⟩
def WA:List PV->List PV->List PV
 |x::l,y::m => .tup [x,y]::WA l m
 |_,_=>[]
theorem jz:∀ {l m:List PV} {i:Nat} {p:PV},(WA l m)[i]? = some p -> ∃ x y,l[i]? = some x∧m[i]? = some y∧p = .tup [x,y]
 |[],_,_,_,h=>by simp [WA] at h
 |_::_,[],_,_,h=>by simp [WA] at h
 |x::l,y::m,0,p,h=>⟨x,y,rfl,rfl,by simpa [WA] using h.symm⟩
 |x::l,y::m,i + 1,p,h=>by
  obtain ⟨u,v,h1,h2,h3⟩:=jz (l:=l) (m:=m) (i:=i) (p:=p) (by simpa [WA] using h)
  exact ⟨u,v,by simpa using h1,by simpa using h2,h3⟩
theorem jm:∀ (l m:List PV),(WA l m).length=min l.length m.length
 |[],m=>by simp [WA]
 |_::_,[]=>by simp [WA]
 |x::l,y::m=>by simp [WA,jm l m]
def qIJ (i:Int):Str:=toString i
def qGb (f:FE):FE:=fun r st=>(f r st).bind fun p s=>match p with
 | .int i=>if i.natAbs.log2 < 1920 then .ok (.str (qIJ i)) s else .no
 |_ => .no
theorem qCb (h:VE X E e f):VE X E (.FormattedValue e (-1) none pos) (qGb f):=PE.imp (qFO h) fun s H Q ⟨b,r,st,S,R,P⟩=>⟨b,r,st,S,R,PostE.bind P fun p s1 u H1 b1 e1 S1 r1 P1=>by
 split at P1
 ·rename_i i
  split at P1
  ·rename_i hi
   unfold RV at r1
   exact ⟨i,r1,hi,PostE.here P1 S1 (by unfold RV;rfl)⟩
  ·exact P1.elim
 ·exact P1.elim⟩
def vJ:List FE->Str->qu->qC->Rs PV
 |[],out,_,st=>if out.length≤sizeLine then .ok (.str out) st else .no
 |f::fs,out,r,st=>(f r st).bind fun p s=>match p with
  | .str y=>if (out++y).length≤sizeLine then vJ fs (out++y) r s else .no
  |_ => .no
def VJ (X:Cx) (E:XK) (es:List Expr) (fs:List FE):Prop:=PJ X es (fun out σ H Q => ∃ b r st,SR X.K H b st∧REnv X.K H b r σ∧PostE X.K E H b (vJ fs out r st) (fun v H' => ∃ x,v = .str x∧Q x H'))
theorem qGD:VJ X E [] []:=fun out pins s σ H Q I ⟨b,r,st,S,R,P⟩=>qGF out pins s σ H Q I (by
 unfold vJ at P
 split at P
 ·rename_i h
  obtain ⟨x,e,q⟩:=PostE.here P S (by unfold RV;rfl)
  cases e
  exact ⟨h,q⟩
 ·exact P.elim)
theorem ZZ {fs:List FE} (h1:VE X E e f) (h2:VJ X E es fs):VJ X E (e::es) (f::fs):=fun out pins s σ H Q I ⟨b,r,st,S,R,P⟩=>qD4 h1 h2 out pins s σ H Q I (by
 unfold vJ at P
 refine ⟨b,r,st,S,R,PostE.bind P fun p s1 u H1 b1 e1 S1 r1 P1 => ?_⟩
 split at P1
 ·rename_i y
  split at P1
  ·rename_i h
   unfold RV at r1
   exact ⟨y,r1,h,b1,r,s1,S1,R.ext e1,P1⟩
  ·exact P1.elim
 ·exact P1.elim)
theorem qEZ {e1 e2:Expr} {fs:List FE} (h:VJ X E (e1::e2::es) fs):VE X E (.JoinedStr (e1::e2::es) pos) (vJ fs Str.empty):=fun pins s σ H Q I ⟨b,r,st,S,R,P⟩=>qEO h pins s σ H Q I ⟨b,r,st,S,R,by
 cases e:vJ fs Str.empty r st with
 |ex x s1=>rw [e] at P;exact P
 |no=>rw [e] at P;exact P
 |ok p s1 =>
  rw [e] at P
  intro v H' b' e' S' r'
  have q:=P v H' b' e' S' r'
  have hp:∃ y,p = .str y:=by
   have key:∀ (fs:List FE) (out:Str) (st:qC) (p:PV) (s1:qC),vJ fs out r st = .ok p s1 -> ∃ y,p = .str y:=by
    intro fs
    induction fs with
    |nil=>intro out st p s1 h;unfold vJ at h;split at h;(cases h;exact ⟨_,rfl⟩);cases h
    |cons g gs ih =>
     intro out st p s1 h
     unfold vJ at h
     cases eg:g r st with
     |no=>rw [eg] at h;cases h
     |ex x s2=>rw [eg] at h;cases h
     |ok p2 s2 =>
      rw [eg] at h
      dsimp only [Rs.bind] at h
      split at h
      ·split at h
       ·exact ih _ _ _ _ h
       ·cases h
      ·cases h
   exact key _ _ _ _ _ e
  obtain ⟨y,rfl⟩:=hp
  unfold RV at r'
  exact ⟨y,r',by rw [r'] at q;exact q⟩⟩
theorem QA {P:Program} {w:World} (X:Cx):WT (CXF P w) X E0:=fun pins σ H s e s' I h=>by
 obtain ⟨_,_,_,_,_,_,_,_,_,_,_,_,q⟩:=h
 exact q.elim
def Qe (i:Nat):FG:=fun p r=>match r[i]? with
 |some none=>some (r.set i (some p))
 |_=>none
theorem qAJ {i:Nat} {p:PV} {r r':qu} (h:Qe i p r=some r'):r[i]? = some none∧r'=r.set i (some p):=by
 unfold Qe at h
 split at h
 ·rename_i e;cases h;exact ⟨e,rfl⟩
 ·cases h
theorem wD (i:Nat) {x:Str} (hN:X.N.Nodup) (hi:X.N[i]? = some x:=by rfl) (hx:Loc X.env.scope x:=by first |exact Or.inl rfl |exact Or.inr rfl) (hf:X.fn x=true∨X.env.scope.names.lookup x=some .local:=by first |exact .inl rfl |exact .inr rfl |assumption):VG X (.Name x pos) (Qe i) :=
 PG.imp (QT i hN hi hx hf) fun v s H Q ⟨b,r,p,st,S,R,rv,r',e,q⟩=>⟨b,r,p,st,S,R,rv,r',by rw [(qAJ e).2];rfl,q⟩
theorem Le.refl (r:qu):Le r r:=⟨rfl,fun _ _ h=>h⟩
theorem Le.trans {r r1 r2:qu} (h:Le r r1) (g:Le r1 r2):Le r r2:=⟨h.1.trans g.1,fun i p e=>g.2 i p (h.2 i p e)⟩
theorem qx (i:Nat):J7 (Qe i):=fun p r r' h=>by
 obtain ⟨h1,rfl⟩:=qAJ h
 refine ⟨by simp,fun j q e => ?_⟩
 by_cases hj:i=j
 ·subst hj;rw [h1] at e;cases e
 ·rw [List.getElem?_set_ne hj];exact e
def YI (g:FGs):Prop := ∀ p r r',g p r=some r'->Le r r'
theorem qBO:YI JQ:=fun p r r' h=>by
 unfold JQ at h
 split at h
 ·cases h;exact Le.refl _
 ·cases h
theorem yI {g:FG} {gs:FGs} (h1:J7 g) (h2:YI gs):YI (Wc g gs):=fun p r r' h=>by
 unfold Wc at h
 split at h
 ·split at h
  ·rename_i r1 e;exact (h1 _ _ _ e).trans (h2 _ _ _ h)
  ·cases h
 ·cases h
theorem qAt {n:Nat} {gs:FGs} (h1:YI gs):J7 (jw n gs):=fun p r r' h=>by
 unfold jw at h
 split at h
 ·split at h
  ·exact h1 _ _ _ h
  ·cases h
 ·cases h
end
structure DefG (P:Program) (w:World) (K:W.Frag) (mg:Str->Option Value) (base:Heap) (k:Nat) (x:Str) (fa:Addr) (n:Nat) (g:List PV->qC->Rs PV):Prop where
 ok:∃ fd ps,ps.length=n∧FnOk P w K mg base (CXF P w) k fa fd ps (spG K ps.length g)∧L2.Binds K fd ps [] ∧ ∀ l st,g l st ≠ .no->l.length=ps.length
 mg:mg x=some (.ref fa)
 kp:PySem.W.keepIn K (.ref fa)=true
section
variable {X:Cx} {E:XK} {e a c d:Expr} {es:List Expr} {f fa fb fc:FE} {fl:FL} {pos:Pos} {F G:FS}
theorem DefG.call {k n:Nat} {x:Str} {fa:Addr} {g:List PV->qC->Rs PV} (D:DefG X.prog X.w X.K X.mg X.base k x fa n g) (hr:Room k X.A) (hx:WT (CXF X.prog X.w) X E) (hg:Gl X x:=by rfl) (hdb:(x==("__debug__":Str))=false:=by decide):qFP X E x g:=by
 obtain ⟨fd,ps,_,F,B,hl⟩:=D.ok
 exact qIX (n:=n) F hr hg D.mg D.kp B hx hl hdb
def Zz (tbl:List (Addr×(List PV->qC->Rs PV))) (ff:FE) (t:FA):FE:=fun r st=>(ff r st).bind fun p s=>match p with
 | .fn a=>match tbl.lookup a with
  |some g=>(t r s).bind g
  |none => .no
 |_ => .no
theorem ZN {α:Type} {a:Addr} {g:α}:∀ {l:List (Addr×α)},l.lookup a=some g->(a,g)∈l
 |[],h=>by cases h
 |(b,k)::l,h=>by
  rw [List.lookup_cons] at h
  split at h
  ·rename_i e;cases h;rw [eq_of_beq e];exact List.mem_cons_self
  ·exact List.mem_cons_of_mem _ (ZN h)
theorem qCo {n:Nat} {tbl:List (Addr×(List PV->qC->Rs PV))} {t:FA} {fe:Expr} (hx:WT (CXF X.prog X.w) X E) (hF:∀ q∈tbl,∃ k x,DefG X.prog X.w X.K X.mg X.base k x q.1 n q.2∧Room k X.A)
  (hf:VE X E fe f) (ha:VA X E (e::es) t) (hc:eval (.Call fe (e::es) [] pos) X.env=(do callWith pos (← eval fe X.env) [] (backTo pos (starEach (e::es) X.env)) (backToKw pos (keywordEach [] X.env))):=by rfl) (he:starEach (e::es) X.env=(false,eval e X.env)::starEach es X.env:=by rfl) (hpl:(backTo pos (starEach es X.env)).any (·.1)=false:=by rfl) :
  VE X E (.Call fe (e::es) [] pos) (Zz tbl f t) :=
 PE.imp (qCG (fs:=tbl.map fun q=>(q.1,spG X.K n q.2)) hx (fun p hp=>by
  obtain ⟨q,hq,rfl⟩:=List.mem_map.mp hp
  obtain ⟨k,x,D,hr⟩:=hF q hq
  obtain ⟨fd,ps,hn,F,B,hl⟩:=D.ok
  exact ⟨k,fd,ps,by rw [hn] at F;exact F,hr,D.kp,B⟩) hf ha hc he hpl) fun s H Q ⟨b,r,st,S,R,P⟩=>⟨b,r,st,S,R,PostE.bind P fun p s1 u H1 b1 e1 S1 r1 P1=>by
  split at P1
  ·rename_i a
   split at P1
   ·rename_i g eg
    unfold RV at r1
    have hm:=ZN eg
    obtain ⟨k,x,D,hr⟩:=hF _ hm
    obtain ⟨fd,ps,hn,F,B,hl⟩:=D.ok
    refine ⟨a,spG X.K n g,r1,List.mem_map.mpr ⟨_,hm,rfl⟩,b1,r,s1,S1,R.ext e1,PostA.bind P1 fun l s2 us H2 b2 e2 S2 r2 P2 => ?_⟩
    have hne:g l s2 ≠ .no:=fun z=>by rw [z] at P2;exact P2
    exact ⟨by rw [← r2.length,← hn];exact hl l s2 hne,b2,l,s2,S2,r2,P2⟩
   ·exact P1.elim
  ·exact P1.elim⟩
end
def QL (n N:Nat) (B:FS):List PV->qC->Rs PV:=fun l st=>if l.length=n then qD1 (B (Qh N l) st) else .no
theorem qd {n N:Nat} {B:FS} {l:List PV} {st:qC} (h:QL n N B l st ≠ .no):l.length=n:=by
 unfold QL at h
 split at h
 ·assumption
 ·exact absurd rfl h
section
variable {X:Cx} {E:XK} {e a c d:Expr} {f fa fb fc:FE} {pos:Pos}
def qHH (f:FE):FE:=fun r st=>(f r st).bind fun p s=>match p with
 | .int i => .ok (.int (-i)) s
 |_ => .no
theorem qGX (h:VE X E e f):VE X E (.UnaryOp .USub e pos) (qHH f):=PE.imp (qG5 qFz h) fun s H Q ⟨b,r,st,S,R,P⟩=>⟨b,r,st,S,R,PostE.bind P fun p s1 u H1 b1 e1 S1 r1 P1=>by
 split at P1
 ·rename_i i
  unfold RV at r1
  exact ⟨i,r1,PostE.here P1 S1 Qj⟩
 ·exact P1.elim⟩
end
theorem qEe {k:Nat} {A:Around} {v:Option Value} (h:Room k A) (hk:1≤k:=by omega):Room 1 (A.mark v) :=
 ⟨fun z=>absurd z (by decide),by have:=h.dp;show A.depth + 3 * 1 + 5 < recursionLimit;omega,by have:=h.un;show A.units + 16 * 1 + 200 < cLine;omega,h.gd⟩
theorem qa {n N m:Nat} {B:FS} {l:List PV} {s0:qC} (hl:l.length=n):Refn m (qD1 (B (Qh N l) s0)) (QL n N B l s0):=by
 unfold QL;rw [if_pos hl];exact Refn.refl
section
variable {P:Program} {w:World} {K:W.Frag} {mg:Str->Option Value} {base:Heap}
theorem wM {x:Str} {st:Stmt} {fa:Addr} {fd:FuncData} {N ps:List Str} {k:Nat} {B:FS} {g:List PV->qC->Rs PV} (F:Fun K x x st fa fd) (S:FnScope N ps (qJ st)) (b:L2.Binds K fd ps []) (m:mg x=some (.ref fa)) (hlen:∀ l s,g l s ≠ .no->l.length=ps.length)
  (body:∀ (cdv:Value) (A:Around) (outer:List Env) (s:Shared) (H:Hp) (E:XK),Room k (A.deeper (envOfC x (qJ st) s.heap.objs.size fa cdv))->(0 < k->A.handled=none)->VSs (wR (CXF P w) P w K mg base N x (qJ st) fa cdv A outer s H E) E (qe st) B)
  (hg:∀ l s0,l.length=ps.length->g l s0 ≠ .no->Refn s0.length (qD1 (B (Qh N.length l) s0)) (g l s0)):DefG P w K mg base (k + 1) x fa ps.length g :=
 ⟨⟨fd,ps,rfl,okV F S fun cdv A outer s H E hr hc=>⟨B,body cdv A outer s H E hr hc,hg⟩,b,hlen⟩,m,F.kp⟩
theorem qFE {x:Str} {st:Stmt} {fa:Addr} {fd:FuncData} {ps:List Str} {k:Nat} {g:List PV->qC->Rs PV} (F:Fun K x x st fa fd) (b:L2.Binds K fd ps []) (m:mg x=some (.ref fa)) (hg:∀ l s,g l s = .no):DefG P w K mg base k x fa ps.length g:=by
 have no:∀ vs H Q E,¬ spG K ps.length g vs H Q E:=fun vs H Q E ⟨_,b,l,st,_,_,h⟩=>by rw [hg] at h;exact h
 exact ⟨⟨fd,ps,rfl,⟨fun vs H Q E h=>absurd h (no vs H Q E),fun A outer s H args us vs Q E _ _ _ _ h=>absurd h (no vs H Q E)⟩,b,fun l s h=>absurd (hg l s) h⟩,m,F.kp⟩
end
section
variable {X:Cx} {E:XK} {es:List Expr} {f:FE} {g:FA} {pos:Pos}
theorem QN {c:Const} {j:Nat} (h:VE X E (.Constant c j pos) f) (h2:VA X E es g):VA X E (.Constant c j pos::es) (qA f g):=Ql h h2 rfl
theorem qR {x:Str} (h:VE X E (.Name x pos) f) (h2:VA X E es g):VA X E (.Name x pos::es) (qA f g):=Ql h h2 rfl
theorem wq {a b c} (h:VE X E (.Call a b c pos) f) (h2:VA X E es g):VA X E (.Call a b c pos::es) (qA f g):=Ql h h2 rfl
theorem YK {a b c} (h:VE X E (.BinOp a b c pos) f) (h2:VA X E es g):VA X E (.BinOp a b c pos::es) (qA f g):=Ql h h2 rfl
theorem qGJ {a b} (h:VE X E (.Tuple a b pos) f) (h2:VA X E es g):VA X E (.Tuple a b pos::es) (qA f g):=Ql h h2 rfl
theorem qId {a} (h:VE X E (.List a pos) f) (h2:VA X E es g):VA X E (.List a pos::es) (qA f g):=Ql h h2 rfl
theorem qIH {a b} (h:VE X E (.Subscript a b pos) f) (h2:VA X E es g):VA X E (.Subscript a b pos::es) (qA f g):=Ql h h2 rfl
theorem qIB {a b} (h:VE X E (.UnaryOp a b pos) f) (h2:VA X E es g):VA X E (.UnaryOp a b pos::es) (qA f g):=Ql h h2 rfl
theorem qIh {a b c} (h:VE X E (.Compare a b c pos) f) (h2:VA X E es g):VA X E (.Compare a b c pos::es) (qA f g):=Ql h h2 rfl
theorem Jh {a b c} (h:VE X E (.ListComp a b c pos) f) (h2:VA X E es g):VA X E (.ListComp a b c pos::es) (qA f g):=Ql h h2 rfl
theorem qIE {a} (h:VE X E (.JoinedStr a pos) f) (h2:VA X E es g):VA X E (.JoinedStr a pos::es) (qA f g):=Ql h h2 rfl
theorem qIa {a b c} (h:VE X E (.IfExp a b c pos) f) (h2:VA X E es g):VA X E (.IfExp a b c pos::es) (qA f g):=Ql h h2 rfl
theorem qIi {a b} (h:VE X E (.BoolOp a b pos) f) (h2:VA X E es g):VA X E (.BoolOp a b pos::es) (qA f g):=Ql h h2 rfl
end
section
variable {X:Cx} {E:XK} {e a c d:Expr} {es:List Expr} {f fa fb fc:FE} {pos:Pos}
def qB9:PV->Bool
 | .non=>true
 |_=>false
theorem jB {K:W.Frag} {H:Hp} {b:Bz} {p:PV} {u:V} (r:RV K H b p u):decide (u = .non)=qB9 p:=by
 cases p with
 |non=>unfold RV at r;subst r;rfl
 |bl x=>unfold RV at r;subst r;rfl
 |int x=>unfold RV at r;subst r;rfl
 |str x=>unfold RV at r;subst r;rfl
 |tup l=>unfold RV at r;obtain ⟨a,xs,rfl,_⟩:=r;rfl
 |lst l=>unfold RV at r;obtain ⟨a,xs,rfl,_⟩:=r;rfl
 |ref i=>unfold RV at r;obtain ⟨a,rfl,_⟩:=r;rfl
 |dct=>unfold RV at r;obtain ⟨a,rfl,_⟩:=r;rfl
 |ty n=>unfold RV at r;subst r;rfl
 |fn n=>unfold RV at r;subst r;rfl
 |exc x y=>unfold RV at r;obtain ⟨a,o,u,rfl,_⟩:=r;rfl
def yM (neg:Bool):PV->PV->qC->Rs PV:=fun p q st=>match q with
 | .non => .ok (.bl (if neg then !qB9 p else qB9 p)) st
 |_ => .no
theorem qHy:OpG X E (fun x y H Q=>y = .non∧Q (.bl (decide (x = .non))) H) (yM false):=by
 intro H b st p q u v Q S rp rq P
 unfold yM at P
 split at P
 ·unfold RV at rq
  refine ⟨rq,?_⟩
  rw [jB rp]
  exact PostE.here P S Wa
 ·exact P.elim
theorem jT:OpG X E (fun x y H Q=>y = .non∧Q (.bl (!decide (x = .non))) H) (yM true):=by
 intro H b st p q u v Q S rp rq P
 unfold yM at P
 split at P
 ·unfold RV at rq
  refine ⟨rq,?_⟩
  rw [jB rp]
  exact PostE.here P S Wa
 ·exact P.elim
end
section
variable {X:Cx} {E:XK} {es:List Expr} {f:FE} {g:FA} {pos:Pos}
theorem qIg {a b} (h:VE X E (.Dict a b pos) f) (h2:VA X E es g):VA X E (.Dict a b pos::es) (qA f g):=Ql h h2 rfl
end
end EV
end
section
namespace Att
open PySem PySem.W PySem.Calls PyProof.Rows
theorem Zd:∀ {ns:List Int} {n:Int},n∈ns->WData.weight (.int n)≤WData.weightAll (ns.map WData.int)
 |m::ns,n,h=>by
  show _≤WData.weight (.int m) + 1 + WData.weightAll (ns.map WData.int)
  rcases List.mem_cons.mp h with rfl |h
  ·omega
  ·have:=Zd h;omega
theorem jj {ns:List Int} (h:WData.layableAll [WData.list (ns.map WData.int)]=true):∀ n∈ns,Builtin.Int.intBits n≤2 ^ 20:=by
 intro n hn
 unfold WData.layableAll at h
 have h1:WData.layable (WData.list (ns.map WData.int))=true:=by simpa using h
 unfold WData.layable at h1
 rw [Bool.and_eq_true] at h1
 have h2:WData.weight (WData.list (ns.map WData.int))≤2 ^ 20:=of_decide_eq_true h1.2
 have h3:WData.weightAll (ns.map WData.int)≤2 ^ 20:=h2
 exact Nat.le_trans (Zd hn) h3
theorem attach_callB {l:OpenLaw} {n:Nat} {q:Program} {loose:List Str} {XP:(Str->Option Value)->Heap->Prop} {YP:World->Heap->Prop} {d:DefRec}
  (hn:l.most=some n) (hdf:d.params.defaults=[])
  (call:∀ (w:World) (s₀ s₁:Shared) (mg mb:Str->Option Value) (fa:Addr) (o:Obj) (pm cd doc:Value) (a:Addr) (vs:List Value) (ns:List Int),
   Ground q loose [] XP w s₀ mg mb s₁.heap->YP w s₁.heap ->
   s₁.heap.get? fa=some o->o.data = .func (docDef d.name d.params d.body d.scope pm cd doc)->s₁.heap.CodeRec cd d.name->mg d.name=some (.ref fa) ->
   s₁.heap.get? a=some { cls := .type "list",data := .seq vs.toArray }->IntsAre vs ns->ns.length≤n->(∀ k∈ns,Builtin.Int.intBits k≤2 ^ 20)->s₁.gens = #[] ->
   codeAny (model l.prog w) callerA (.call (.ref fa) ⟨[.ref a],[]⟩) (fun r s'=>r = .ok (.ret (.bool true))∧OldK s₁.heap s'.heap∧s'.os=s₁.os∧AllBare s'.gens) s₁) :
  WalkO q loose XP YP l.row.toRowW d [] (fun f vs=>PySem.call f vs):=by
 intro w s₀ s₁ mg mb G Y fa o pm cd doc dV kV ho hd hcd hD hmg hg args vals as hpre hlay hrd hwl hlo
 obtain rfl:dV = .none:=Dflts.none hD hdf
 obtain rfl:kV = .none:=Dflts.noKw hD
 obtain ⟨a,vs,ns,rfl,rfl,hobj,hints,hlen⟩:=qA5 hn hpre hwl
 refine enter_call (codeAny_mono (call w s₀ s₁ mg mb fa o pm cd doc a vs ns G Y ho (fd_plain hd) hcd hmg hobj hints hlen (jj hlay) hg) fun r s' hq => ?_)
 obtain ⟨rfl,h2,h3,h4⟩:=hq
 exact ⟨.inl ⟨.bool true,.bool true,[],rfl,fun _=>rfl,.bool true,qBT l _,fun _=>⟨List.Pairwise.nil,fun _ hm=>(nomatch hm)⟩⟩,h2,h3,h4⟩
end Att
end
section
namespace EX
open PySem PySem.Spec PyProof.Rows L2
end EX
namespace EV
open PySem PySem.Spec PyProof.Rows L2 EX
end EV
end
section
namespace HT
open PySem PySem.Spec PyProof.Rows L2
end HT
namespace L2
open PySem PySem.Spec PyProof.Rows
end L2
end
section
namespace EV
open PySem PySem.Spec PyProof.Rows L2
theorem qEQ {X:Cx} {E:XK} (i:Nat) {x:Str} {p' pos2:Pos} {elt:Expr} {c:Comprehension} {cs:List Comprehension} {scope:Scope} {pos:Pos} {capN locN:List Str} {caps:List Nat} {fi:FI} {g:FG} {ts:List FT} {gs:List GenF} {f:FE} (hN:X.N.Nodup) (hi':X.N[i]? = some x) (hx:Loc X.env.scope x) (hf:X.fn x=true∨X.env.scope.names.lookup x=some .local) (hsw:swapsWith (.ListComp elt (c::cs) scope pos) (some (.Name x p')) pos2.line X.env=pure true) (hcs:CSc X scope capN locN caps)
  (hi:VI X E c.target c.iter fi) (sub:∀ s H fp pn,VE (cCx X scope (capN++locN) s H fp pn) E0 elt f∧GOk (cCx X scope (capN++locN) s H fp pn) c ⟨fi,g,ts⟩∧GsOk (cCx X scope (capN++locN) s H fp pn) cs gs)
  (hs:∀ x,foldedSetIterable c.iter X.env x=pure x):PS X (.Assign [.Name x p'] (.ListComp elt (c::cs) scope pos) pos2) (qGp (rdN X.K E (qg caps locN.length fi g ts gs f)) (qCE i)):=by
 intro pins s σ H D0 I hq
 obtain ⟨b,r,st,S,RE,P⟩:=hq
 have hfree:∀ x∈scope.names,x.2 = .free -> ∃ c,X.env.cells.lookup x.1=some c:=fun x hx hk=>I.ok.has x.1 (hcs.fr x hx hk)
 obtain ⟨c1,c2,c3,c4⟩:=c
 have hasy:c4=0:=(sub s H [] []).2.1.asy
 subst hasy
 rw [exec_Assign_Name_used x p' _ pos2 hsw]
 refine wpAny_bind (wpAny_standAt ?_)
 refine wpAny_bind (wpAny_mono (Q:=fun _ s' => ∃ v H',L2.Inv X pins (σ.set i (some v)) H' s'∧D0.nx (σ.set i (some v)) H') ?_ (fun _ s' ⟨v,H',I',q'⟩=>wpAny_pure ⟨_,H',I',q'⟩) fun _ _ z=>z)
 rw [arm_evalThenUse_ListComp]
 refine wpAny_bind (wpAny_mono (Q:=fun _ s' => ∃ v H',L2.Inv X pins (σ.set i (some v)) H' s'∧D0.nx (σ.set i (some v)) H') ?_ (fun _ s' q'=>wpAny_pure q') fun _ _ z=>z)
 refine wpAny_comprehension_free (e := .ListComp elt (⟨c1,c2,c3,0⟩::cs) scope pos) (use:=some (assign (.Name x p') X.env)) rfl hs (Zu hfree) hcs.kind (fun x hx hl=>w8 hcs.nd (by rw [← hl];exact hx)) ?_
 show wpAny _ _ (eval c2 X.env) _ _ s
 unfold qg at P
 cases ef:fi r st with
 |no=>rw [ef] at P;exact P.elim
 |ex xx s1 =>
  rw [ef] at P
  refine thn (hi pins s σ H (fun _ _=>False) I ⟨b,r,st,S,RE,by rw [ef];exact P⟩) fun v s2 h2=>thn h2 fun itv s3 h3 => ?_
  obtain ⟨_,_,_,_,_,_,_,_,_,_,z⟩:=h3
  exact z.elim
 |ok w s1 =>
  rw [ef] at P
  refine thn (hi pins s σ H (fun J H' => ∃ b',Ext H b H' b'∧SR X.K H' b' s1∧ZQ X.K H' b' J w) I ⟨b,r,st,S,RE,by rw [ef];exact fun J H' b' e' S' i'=>⟨b',e',S',i'⟩⟩) fun v s2 h2=>thn h2 fun itv s3 h3 => ?_
  obtain ⟨it,fp,tn,J,H2,rfl,I2,T,t2,f2,b2,e2,S2,i2⟩:=h3
  have P:PostN X.K E H b (match qc w.G (QJ ⟨fi,g,ts⟩ (QZ gs f) (Wf caps locN.length r)) w.l s1 with | .ok l s'=>if l.length≤sizeLine then .ok l s' else .no |_ => .no) (fun v H'=>D0.nx (σ.set i (some v)) H'):=P
  cases ev:qc w.G (QJ ⟨fi,g,ts⟩ (QZ gs f) (Wf caps locN.length r)) w.l s1 with
  |no=>rw [ev] at P;exact P.elim
  |ex xx s4=>rw [ev] at P;exact P.elim
  |ok l st' =>
   rw [ev] at P
   have P:PostN X.K E H b (if l.length≤sizeLine then .ok l st' else .no) (fun v H'=>D0.nx (σ.set i (some v)) H'):=P
   by_cases hl:l.length≤sizeLine
   ·rw [if_pos hl] at P
    have hfr:H2 s3.heap.objs.size=none:=I2.hok.fresh (Nat.le_refl _)
    refine wpAny_newList ?_
    generalize hs3:({ s3 with heap:=s3.heap.push { cls := .type "list",data := .seq ([]:List Value).toArray } }:Shared)=s3'
    have I3:L2.Inv X pins σ (upd H2 s3.heap.objs.size (.lst [])) s3':=by
     rw [← hs3]
     exact I2.laid (t':=s3.toks) (fun a u e=>Heap.get?_push_of_some _ e) (Nat.le_refl _) (show ObjOk X.prog X.w _ _ _ (.lst []) from ⟨Nat.zero_le _,[],0,.nil,Heap.get?_push_size _ rfl⟩)
    have k3:∀ a o,s3.heap.get? a=some o->s3'.heap.get? a=some o:=fun a o e=>by rw [← hs3];exact Heap.get?_push_of_some _ e
    have hlt:∀ a∈fp,a < s3.heap.objs.size:=fun a ha=>by
     obtain ⟨o,e,_⟩:=T.obj _ _ t2 a ha
     exact Heap.lt_size e
    have f3:∀ a∈fp,zX X pins (upd H2 s3.heap.objs.size (.lst [])) a:=fun a ha=>⟨by rw [qN (Nat.ne_of_lt (hlt a ha))];exact (f2 a ha).1,(f2 a ha).2⟩
    have hlt3:∀ a∈fp,a < s3'.heap.objs.size:=fun a ha=>by
     obtain ⟨o,e,_⟩:=T.obj _ _ t2 a ha
     exact Heap.lt_size (k3 a o e)
    generalize hD:s3.heap.objs.size=D at I3 f3 hfr
    refine jg ?_
    have J0:=yH hcs I3 f3 hlt3 rfl
    obtain ⟨he,hg,hgs⟩:=sub s3' (upd H2 D (.lst [])) fp (X.pn++pins)
    have k4:∀ a o,s3'.heap.get? a=some o->(pushCells (s3'.heap.push { cls := .type "dict",data := .dict #[] }) scope.names).get? a=some o:=fun a o e=>pushCells_keeps _ _ _ _ (Heap.get?_push_of_some _ e)
    have hDz:D ∉ b2.z:=(S2.new_notin hfr).2
    have loop:=yT (X:=cCx X scope (capN++locN) s3' (upd H2 D (.lst [])) fp (X.pn++pins)) (fun _ _ z=>z) (gens:=⟨c1,c2,c3,0⟩::cs) (scope:=scope) (pos:=pos) (D:=D) he gs cs 0 ⟨c1,c2,c3,0⟩ ⟨fi,g,ts⟩ rfl hg hgs [] _ _ _ ⟨b2.b,D::b2.z⟩ (Wf caps locN.length r) s1 st' it fp tn J w [] l
     (compPost (model X.prog X.w) X.A X.xe (some (assign (.Name x p') X.env)) (fun _ s' => ∃ v H',L2.Inv X pins (σ.set i (some v)) H' s'∧D0.nx (σ.set i (some v)) H') (.ref D) s3'.heap.objs.size) J0 (SR.hide S2 hfr) (ju ((RE.ext e2).wext (WE.hide hfr))) List.mem_cons_self QG T (T.keep _ _ _ t2 fun a ha o e=>k4 a o (k3 a o e))
     (fun a ha=>⟨(f3 a ha).1,(J0.ok.exf a ha).1,J0.ok.exfs a ha,.inl ha,(J0.ok.exf a ha).2,fun p hp=>(f3 a ha).2.2.2.2.2 p (by simpa [cCx] using hp)⟩) (yX i2 hfr) ev (by simpa using hl)
     (fun s' σ' H' b' lV I' e' S' R' hD' r'=>by
      obtain ⟨m,hn,_⟩:=I'.loc
      have hn:s'.heap.Ns s3'.heap.objs.size m:=hn
      have fin:L2.Inv X pins σ H' s':=Y5 I3 f3 I' ⟨rfl,fun _ _=>rfl⟩
      have hC:H' s3'.heap.objs.size=none:=I'.free
      have fpC:zX X pins H' s3'.heap.objs.size:=I3.fpOk (Nat.le_refl _) hC
      obtain ⟨oC,esC,epC,hoC,hdC,hkC⟩:=id hn
      have finp:=fin.pinned (fp:=[s3'.heap.objs.size]) (fun b hb=>by rw [List.mem_singleton.mp hb];exact fpC) (fun b hb=>by rw [List.mem_singleton.mp hb];exact ⟨oC,hoC,fun v z=>by rw [hdC] at z;cases z⟩)
      have hz':b'.z=D::b2.z:=e'.same
      show wpAny (model X.prog X.w) X.A (assign (.Name x p') X.env (.ref D)) _ _ s'
      refine wpAny_assign_Name ?_
      refine WZ finp hN hi' hx (v := .ref D) rfl (fun s'' I'' => ?_) hf
      have hpin:s''.heap.get? s3'.heap.objs.size=some oC:=by
       have hm:(s3'.heap.objs.size,oC)∈X.pn++(pins++zM [s3'.heap.objs.size] s'.heap):=by
        unfold zM
        simp [hoC]
       exact (I''.pin _ hm).1
      refine ⟨m,⟨oC,esC,epC,hpin,hdC,hkC⟩,fun h'' sb=>⟨.ref D,H',(I''.unpinned).turned (t':=s''.toks) (fun b o hb e=>sb.extBut b o hb e) fpC.1 fpC.2.1 fpC.2.2.2.1 fpC.2.2.2.2.1 (fun p hp=>fpC.2.2.2.2.2 p hp),?_⟩⟩
      have ex:Ext H2 b2 H' ⟨b'.b,b2.z⟩:=by
       refine ⟨⟨?_,⟨[],rfl,by simp⟩,fun a o ha ho => ?_,fun a o ha => ?_⟩,rfl,fun a o hz ha => ?_,fun a o u ha=>e'.fz a o u (qM ha hfr) (by rw [qN (qM ha hfr)];exact ha)⟩
       ·obtain ⟨n,hb,hh⟩:=e'.more
        exact ⟨n,hb,fun a ha=>by
         have:=hh a ha
         by_cases q:a=D
         ·rw [q];exact hfr
         ·rwa [qN q] at this⟩
       ·have hne:a≠D:=qM ha hfr
        exact e'.keep a o (by rw [qN hne];exact ha) ⟨ho.1,fun z=>(List.mem_cons.mp z).elim hne ho.2⟩
       ·have hne:a≠D:=qM ha hfr
        exact e'.dom a o (by rw [qN hne];exact ha)
       ·have hne:a≠D:=qM ha hfr
        exact e'.hid a o (List.mem_cons_of_mem _ hz) hne (by rw [qN hne];exact ha)
      have hb':(⟨b'.b,D::b2.z⟩:Bz)=b':=by rw [← hz']
      refine P D lV H' ⟨b'.b,b2.z⟩ (e2.trans ex) (e2.none_of hfr) (by simpa using hD') hDz ?_ ?_
      ·show SR X.K H' ⟨b'.b,D::b2.z⟩ st'
       rw [hb'];exact S'
      ·show RVs X.K H' ⟨b'.b,D::b2.z⟩ l lV
       rw [hb'];exact r')
    exact Wk rfl rfl loop (T.self X.A 0 _ _ _ (T.keep _ _ _ t2 fun a ha o e=>k4 a o (k3 a o e)) loop)
   ·rw [if_neg hl] at P;exact P.elim
end EV
namespace EV
open PySem PySem.Spec PyProof.Rows L2
section
variable {X:Cx} {E:XK} {x:Str} {p' pos2:Pos} {elt:Expr} {c:Comprehension} {cs:List Comprehension} {scope:Scope} {pos:Pos} {capN locN:List Str} {caps:List Nat} {fi:FI} {g:FG} {ts:List FT} {gs:List GenF} {f:FE}
theorem qBu (i:Nat) (hN:X.N.Nodup) (hcs:CSc X scope capN locN caps)
  (hi:VI X E c.target c.iter fi) (sub:∀ s H fp pn,VE (cCx X scope (capN++locN) s H fp pn) E0 elt f∧GOk (cCx X scope (capN++locN) s H fp pn) c ⟨fi,g,ts⟩∧GsOk (cCx X scope (capN++locN) s H fp pn) cs gs)
  (hi':X.N[i]? = some x:=by rfl) (hx:Loc X.env.scope x:=by first |exact Or.inl rfl |exact Or.inr rfl) (hf:X.fn x=true∨X.env.scope.names.lookup x=some .local:=by first |exact .inl rfl |exact .inr rfl |assumption)
  (hsw:swapsWith (.ListComp elt (c::cs) scope pos) (some (.Name x p')) pos2.line X.env=pure true:=by rfl) (hs:∀ x,foldedSetIterable c.iter X.env x=pure x:=by intro _;rfl) :
  VS X E (.Assign [.Name x p'] (.ListComp elt (c::cs) scope pos) pos2) (wa i (qg caps locN.length fi g ts gs f)) :=
 PS.imp (qEQ i hN hi' hx hf hsw hcs hi sub hs) fun D s H ⟨b,r,st,S,R,P⟩ =>
  ⟨b,r,st,S,R,PostN.bindS (k:=fun q s => .nx (r.set i (some q)) s) P fun p s1 u H1 b1 e1 S1 r1 P1=>P1 _ H1 b1 (Ext.refl _ _) S1 ((R.ext e1).set r1 i)⟩
end
end EV
end
section
namespace EX
open PySem PySem.Spec PyProof.Rows L2
def Src (b:Bool) (i l:Addr) (xs:Array Value) (k:Nat) (h:Heap):Prop:=match b with
 |true=>h.IsTupleIter i l k∧h.IsTuple l xs
 |false=>h.IsListIter i l k∧h.IsList l xs
theorem Src.keep {b:Bool} {i l:Addr} {xs:Array Value} {k:Nat} {h h':Heap} (S:Src b i l xs k h) (e1:∀ o,h.get? i=some o->h'.get? i=some o) (e2:∀ o,h.get? l=some o->h'.get? l=some o):Src b i l xs k h':=by
 cases b
 ·exact ⟨S.1.at e1,S.2.at e2⟩
 ·exact ⟨S.1.at e1,S.2.at e2⟩
theorem Src.but {b:Bool} {i l c:Addr} {xs:Array Value} {k:Nat} {h h':Heap} (S:Src b i l xs k h) (e:Heap.ExtBut c h h') (n1:i≠c) (n2:l≠c):Src b i l xs k h':=S.keep (fun o q=>e _ o n1 q) fun o q=>e _ o n2 q
section
variable {prog:Program} {w:World} {A:Around} {E:Value->Shared->Prop} {s:Shared}
theorem Src.item {b:Bool} {i l:Addr} {xs:Array Value} {k:Nat} {x:Value} {Q:Value->Shared->Prop} (S:Src b i l xs k s.heap) (hne:l≠i) (hx:xs[k]? = some x)
  (hQ:∀ h',Src b i l xs (k + 1) h'->Heap.SameBut i s.heap h'->Q x { s with heap:=h' }):wpAny (model prog w) A (Builtin.SmallTypes.nextOf (.ref i)) Q E s:=by
 cases b
 ·exact wpAny_nextOf_list_item S.1 S.2 hx fun h' a1 a2=>hQ h' ⟨a1,S.2.extBut a2.extBut hne⟩ a2
 ·obtain ⟨hit,ht⟩:=S
  obtain ⟨o,ho,hc,hd⟩:=id hit
  obtain ⟨ol,hol,_,nl,hdl⟩:=id ht
  unfold Builtin.SmallTypes.nextOf
  refine wpAny_bind (wpAny_callSpecial?_slot (name:=Str.ofString "__next__") hit.typeIs F.slot_tuple_iterator_next
   (wpAny_call_entry F.slot_tuple_iterator_next hit.typeIs F.entry_tuple_iterator_next ?_ (F.args_tuple_iterator_next_1 _)))
  show wpAny _ _ (field (.ref i) 0 >>= _) _ _ s
  refine wpAny_bind (wpAny_field ho hd (x := .ref l) rfl ?_)
  show wpAny _ _ (if (Value.ref l==Value.none)=true then _ else _) _ _ s
  rw [if_neg (show ¬ ((Value.ref l==Value.none)=true) from Bool.false_ne_true)]
  show wpAny _ _ (field (.ref i) 1 >>= _) _ _ s
  refine wpAny_bind (wpAny_field ho hd (x := .int k 0) rfl ?_)
  show wpAny _ _ (seqItems? (.ref l) >>= _) _ _ s
  refine wpAny_bind (wpAny_seqItems hol hdl ?_)
  simp only [Int.toNat_natCast,hx]
  refine wpAny_bind (wpAny_setField ho hd (by simp) (wpAny_pure ⟨x,rfl,wpAny_pure (hQ _ ⟨?_,ht.extBut (Heap.SameBut.update ..).extBut hne⟩ (Heap.SameBut.update ..))⟩))
  exact ⟨_,Heap.get?_update_self _ ho (Obj.isFreed_of_fields (Obj.data_mapFields hd _)),(Obj.cls_mapFields ..).trans hc,by
   rw [Obj.data_mapFields hd];simp [rawInt]⟩
theorem Src.over {b:Bool} {i l:Addr} {xs:Array Value} {k:Nat} {Q:Value->Shared->Prop} (hh:A.handled=none) (S:Src b i l xs k s.heap) (hx:xs[k]? = none)
  (hE:∀ h' e,Heap.ExtBut i s.heap h'->(∃ o,h'.get? e=some o∧o.cls = .type "StopIteration")->E (.ref e) { s with heap:=h' }):wpAny (model prog w) A (Builtin.SmallTypes.nextOf (.ref i)) Q E s:=by
 cases b
 ·exact wpAny_nextOf_list_end hh S.1 S.2 hx hE
 ·obtain ⟨hit,ht⟩:=S
  obtain ⟨o,ho,hc,hd⟩:=id hit
  obtain ⟨ol,hol,_,nl,hdl⟩:=ht
  unfold Builtin.SmallTypes.nextOf
  refine wpAny_bind (wpAny_callSpecial?_slot (name:=Str.ofString "__next__") hit.typeIs F.slot_tuple_iterator_next
   (wpAny_call_entry F.slot_tuple_iterator_next hit.typeIs F.entry_tuple_iterator_next ?_ (F.args_tuple_iterator_next_1 _)))
  show wpAny _ _ (field (.ref i) 0 >>= _) _ _ s
  refine wpAny_bind (wpAny_field ho hd (x := .ref l) rfl ?_)
  show wpAny _ _ (if (Value.ref l==Value.none)=true then _ else _) _ _ s
  rw [if_neg (show ¬ ((Value.ref l==Value.none)=true) from Bool.false_ne_true)]
  show wpAny _ _ (field (.ref i) 1 >>= _) _ _ s
  refine wpAny_bind (wpAny_field ho hd (x := .int k 0) rfl ?_)
  show wpAny _ _ (seqItems? (.ref l) >>= _) _ _ s
  refine wpAny_bind (wpAny_seqItems hol hdl ?_)
  simp only [Int.toNat_natCast,hx]
  refine wpAny_bind (wpAny_rule (wpAny_bind (wpAny_setField ho hd (by simp) ?_)))
  show wpAny _ _ (newExc (.type "StopIteration") [] >>= _) _ _ _
  refine wpAny_bind ?_
  simp only [newExc,newTuple]
  refine wpAny_bind (wpAny_newObj_type ?_ (by size_fits))
  refine wpAny_bind (m:=firstArgMember _ _) (wpAny_of_eq (a:=Value.none) (by first |rfl |(simp only [firstArgMember];rfl)) ?_)
  refine wpAny_newObj_type ?_ (by size_fits)
  simp only [raiseNew]
  refine wpAny_bind (wpAny_handled ?_)
  first |rw [show A.in1.handled=none from hh] |rw [hh]
  refine wpAny_bind (wpAny_pure (wpAny_throw ?_))
  exact hE _ _ (((Heap.SameBut.update ..).extBut.push _).push _) ⟨_,Heap.get?_push_size _ rfl,rfl⟩
theorem qAw {b1 b2:Bool} {z TI TO i1 i2 l1 l2:Addr} {k:Nat} {xs ys:Array Value} {x y a b:Value} {Q:Option Value->Shared->Prop} (D:ZipApart z TI TO i1 i2 l1 l2)
  (hz:IsZip s.heap z TI TO .none) (hTI:IsPair s.heap TI (.ref i1) (.ref i2)) (hTO:IsPair s.heap TO a b) (h1:Src b1 i1 l1 xs k s.heap) (h2:Src b2 i2 l2 ys k s.heap) (hx:xs[k]? = some x) (hy:ys[k]? = some y)
  (hQ:∀ h',IsZip h' z TI TO (rawInt s.heap.objs.size)->IsPair h' TO x y->Src b1 i1 l1 xs (k + 1) h'->Src b2 i2 l2 ys (k + 1) h'->IsPair h' s.heap.objs.size x y ->
   (∀ c o,c≠z->c≠TO->c≠i1->c≠i2->s.heap.get? c=some o->h'.get? c=some o)->Q (some (.ref s.heap.objs.size)) { s with heap:=h' }) :
  wpAny (model prog w) A (pyNext (.ref z)) Q E s:=by
 have hT:s.TypeIs (.ref z) "zip" := ⟨_,hz,rfl⟩
 unfold pyNext
 refine wpAny_bind (wpAny_attempt (wpAny_callSpecial?_slot (name:=Str.ofString "__next__") hT F.slot_zip_next (wpAny_call_entry F.slot_zip_next hT F.entry_zip_next ?_ (F.args_zip_next_1 _))))
 show wpAny _ _ (field (.ref z) 2 >>= _) _ _ _
 refine wpAny_bind (wpAny_field hz rfl (x := .bool false) rfl ?_)
 show wpAny _ _ (field (.ref z) 3 >>= _) _ _ _
 refine wpAny_bind (wpAny_field hz rfl (x := .ref TI) rfl ?_)
 refine wpAny_bind (wpAny_seqItems hTI rfl ?_)
 show wpAny _ _ (Builtin.SmallTypes.ownedTupleIsFree (.ref z) >>= _) _ _ _
 refine wpAny_bind ?_
 unfold Builtin.SmallTypes.ownedTupleIsFree
 refine wpAny_bind (wpAny_field hz rfl (x := .none) rfl (wpAny_pure ?_))
 simp only [if_true]
 refine wpAny_bind (wpAny_rule ?_)
 refine wpAny_bind (wpAny_field hz rfl (x := .ref TO) rfl ?_)
 refine wpAny_bind (wpAny_setField_rec hz (by simp) fun g1 hz1 s1 => ?_)
 replace hz1:IsZip g1 z TI TO .ellipsis:=hz1
 refine wpAny_bind ?_
 simp only [List.zipIdx_cons,List.zipIdx_nil,List.forIn_cons,List.forIn_nil]
 refine wpAny_bind (wpAny_bind (wpAny_onRaise ?_))
 show wpAny _ _ (Builtin.SmallTypes.nextOf (.ref i1) >>= _) _ _ _
 refine wpAny_bind ((h1.but s1.extBut D.i1z D.l1z).item D.l1i1 hx fun g2 q1 s2=>wpAny_pure ?_)
 have t2:IsPair g2 TO a b:=s2.extBut _ _ D.TOi1 (s1.extBut _ _ D.TOz hTO)
 refine wpAny_bind (wpAny_seqItems t2 rfl ?_)
 refine wpAny_bind (wpAny_updateSeq_pair t2 fun g3 t3 s3 => ?_)
 replace t3:IsPair g3 TO x b:=t3
 refine wpAny_bind (wpAny_letGo (wpAny_pure ?_))
 refine wpAny_bind (wpAny_bind (wpAny_onRaise ?_))
 show wpAny _ _ (Builtin.SmallTypes.nextOf (.ref i2) >>= _) _ _ _
 refine wpAny_bind ((((h2.but s1.extBut D.i2z D.l2z).but s2.extBut D.i12.symm D.l2i1).but s3.extBut D.TOi2.symm D.l2TO).item D.l2i2 hy fun g4 q2 s4=>wpAny_pure ?_)
 have t4:IsPair g4 TO x b:=s4.extBut _ _ D.TOi2 t3
 refine wpAny_bind (wpAny_seqItems t4 rfl ?_)
 refine wpAny_bind (wpAny_updateSeq_pair t4 fun g5 t5 s5 => ?_)
 replace t5:IsPair g5 TO x y:=t5
 refine wpAny_bind (wpAny_letGo (wpAny_pure (wpAny_pure ?_)))
 refine wpAny_bind (wpAny_seqItems t5 rfl ?_)
 refine wpAny_bind (wpAny_newTuple ?_)
 have hsz:g5.objs.size=s.heap.objs.size:=by rw [s5.1,s4.1,s3.1,s2.1,s1.1]
 have hz5:IsZip g5 z TI TO .ellipsis:=s5.extBut _ _ D.TOz.symm (s4.extBut _ _ D.i2z.symm (s3.extBut _ _ D.TOz.symm (s2.extBut _ _ D.i1z.symm hz1)))
 have k5:∀ c o,c≠z->c≠TO->c≠i1->c≠i2->s.heap.get? c=some o->g5.get? c=some o:=fun c o c1 c2 c3 c4 e =>
  s5.extBut _ _ c2 (s4.extBut _ _ c4 (s3.extBut _ _ c2 (s2.extBut _ _ c3 (s1.extBut _ _ c1 e))))
 have p1:Src b1 i1 l1 xs (k + 1) g5:=((q1.but s3.extBut D.TOi1.symm D.l1TO).but s4.extBut D.i12 D.l1i2).but s5.extBut D.TOi1.symm D.l1TO
 have p2:Src b2 i2 l2 ys (k + 1) g5:=q2.but s5.extBut D.TOi2.symm D.l2TO
 have hzlt:z < g5.objs.size:=Heap.lt_size hz5
 show wpAny _ _ (Builtin.SmallTypes.ownedTupleHandOut (.ref z) (.ref g5.objs.size) >>= _) _ _ _
 refine wpAny_bind ?_
 unfold Builtin.SmallTypes.ownedTupleHandOut
 have hz6:IsZip (g5.push { cls := .type "tuple",data := .seq #[x,y] }) z TI TO .ellipsis:=Heap.get?_push_of_some _ hz5
 refine wpAny_bind (wpAny_setField_rec hz6 (by simp) fun g7 hz7 s7 => ?_)
 replace hz7:IsZip g7 z TI TO (rawInt g5.objs.size):=hz7
 refine wpAny_setField_rec hz7 (by simp) fun g8 hz8 s8 => ?_
 replace hz8:IsZip g8 z TI TO (rawInt g5.objs.size):=hz8
 have up:∀ c o,c≠z->g5.get? c=some o->g8.get? c=some o:=fun c o c1 e=>s8.extBut _ _ c1 (s7.extBut _ _ c1 (Heap.get?_push_of_some _ e))
 have t8:IsPair g8 g5.objs.size x y:=s8.extBut _ _ (Nat.ne_of_gt hzlt) (s7.extBut _ _ (Nat.ne_of_gt hzlt) (Heap.get?_push_size _ rfl))
 rw [hsz] at hz8 t8
 refine wpAny_pure ⟨_,rfl,wpAny_pure ?_⟩
 show Q (some (.ref g5.objs.size)) _
 rw [hsz]
 exact hQ g8 hz8 (up _ _ D.TOz t5) (p1.keep (fun o e=>up _ o D.i1z e) fun o e=>up _ o D.l1z e) (p2.keep (fun o e=>up _ o D.i2z e) fun o e=>up _ o D.l2z e) t8 fun c o c1 c2 c3 c4 e=>up c o c1 (k5 c o c1 c2 c3 c4 e)
theorem qBD {b1 b2:Bool} {z TI TO i1 i2 l1 l2:Addr} {k:Nat} {xs ys:Array Value} {a b:Value} {Q:Fin->Shared->Prop} (hh:A.handled=none) (D:ZipApart z TI TO i1 i2 l1 l2)
  (hz:IsZip s.heap z TI TO .none) (hTI:IsPair s.heap TI (.ref i1) (.ref i2)) (hTO:IsPair s.heap TO a b) (h1:Src b1 i1 l1 xs k s.heap) (h2:Src b2 i2 l2 ys k s.heap) (hend:xs[k]? = none∨ys[k]? = none)
  (stop:∀ h' e,(∀ c o,c≠z->c≠TO->c≠i1->c≠i2->s.heap.get? c=some o->h'.get? c=some o)->(∃ o,h'.get? e=some o∧o.cls = .type "StopIteration")->E (.ref e) { s with heap:=h' }) :
  wpAny (model prog w) A (Builtin.«zip.__next__» ⟨[.ref z],[]⟩) Q E s:=by
 show wpAny _ _ (field (.ref z) 2 >>= _) _ _ _
 refine wpAny_bind (wpAny_field hz rfl (x := .bool false) rfl ?_)
 show wpAny _ _ (field (.ref z) 3 >>= _) _ _ _
 refine wpAny_bind (wpAny_field hz rfl (x := .ref TI) rfl ?_)
 refine wpAny_bind (wpAny_seqItems hTI rfl ?_)
 show wpAny _ _ (Builtin.SmallTypes.ownedTupleIsFree (.ref z) >>= _) _ _ _
 refine wpAny_bind ?_
 unfold Builtin.SmallTypes.ownedTupleIsFree
 refine wpAny_bind (wpAny_field hz rfl (x := .none) rfl (wpAny_pure ?_))
 simp only [if_true]
 refine wpAny_bind (wpAny_rule ?_)
 refine wpAny_bind (wpAny_field hz rfl (x := .ref TO) rfl ?_)
 refine wpAny_bind (wpAny_setField_rec hz (by simp) fun g1 hz1 s1 => ?_)
 replace hz1:IsZip g1 z TI TO .ellipsis:=hz1
 refine wpAny_bind ?_
 simp only [List.zipIdx_cons,List.zipIdx_nil,List.forIn_cons,List.forIn_nil]
 refine wpAny_bind (wpAny_bind (wpAny_onRaise ?_))
 show wpAny _ _ (Builtin.SmallTypes.nextOf (.ref i1) >>= _) _ _ _
 cases hx:xs[k]? with
 |none =>
  refine wpAny_bind ((h1.but s1.extBut D.i1z D.l1z).over hh hx fun g2 e s2 he => ?_)
  obtain ⟨oe,hoe,hce⟩:=he
  have hz2:IsZip g2 z TI TO .ellipsis:=s2 _ _ D.i1z.symm hz1
  have hez:e≠z:=fun x=>by subst x;rw [hz2] at hoe;cases hoe;simp at hce
  exact wpAny_setField_rec hz2 (by simp) fun g3 _ s3=>stop g3 e (fun c o c1 _ c3 _ x=>s3.extBut _ _ c1 (s2 _ _ c3 (s1.extBut _ _ c1 x))) ⟨oe,s3.extBut _ _ hez hoe,hce⟩
 |some x =>
  have hy:ys[k]? = none:=by rcases hend with h |h;rw [hx] at h;cases h;exact h
  refine wpAny_bind ((h1.but s1.extBut D.i1z D.l1z).item D.l1i1 hx fun g2 q1 s2=>wpAny_pure ?_)
  have t2:IsPair g2 TO a b:=s2.extBut _ _ D.TOi1 (s1.extBut _ _ D.TOz hTO)
  refine wpAny_bind (wpAny_seqItems t2 rfl ?_)
  refine wpAny_bind (wpAny_updateSeq_pair t2 fun g3 t3 s3 => ?_)
  refine wpAny_bind (wpAny_letGo (wpAny_pure ?_))
  refine wpAny_bind (wpAny_bind (wpAny_onRaise ?_))
  show wpAny _ _ (Builtin.SmallTypes.nextOf (.ref i2) >>= _) _ _ _
  refine wpAny_bind ((((h2.but s1.extBut D.i2z D.l2z).but s2.extBut D.i12.symm D.l2i1).but s3.extBut D.TOi2.symm D.l2TO).over hh hy fun g4 e s4 he => ?_)
  obtain ⟨oe,hoe,hce⟩:=he
  have hz4:IsZip g4 z TI TO .ellipsis:=s4 _ _ D.i2z.symm (s3.extBut _ _ D.TOz.symm (s2.extBut _ _ D.i1z.symm hz1))
  have hez:e≠z:=fun x=>by subst x;rw [hz4] at hoe;cases hoe;simp at hce
  exact wpAny_setField_rec hz4 (by simp) fun g5 _ s5=>stop g5 e (fun c o c1 c2 c3 c4 x=>s5.extBut _ _ c1 (s4 _ _ c4 (s3.extBut _ _ c2 (s2.extBut _ _ c3 (s1.extBut _ _ c1 x))))) ⟨oe,s5.extBut _ _ hez hoe,hce⟩
theorem qCh {b1 b2:Bool} {z TI TO i1 i2 l1 l2:Addr} {k:Nat} {xs ys:Array Value} {a b:Value} {Q:Option Value->Shared->Prop} (hh:A.handled=none) (D:ZipApart z TI TO i1 i2 l1 l2)
  (hz:IsZip s.heap z TI TO .none) (hTI:IsPair s.heap TI (.ref i1) (.ref i2)) (hTO:IsPair s.heap TO a b) (h1:Src b1 i1 l1 xs k s.heap) (h2:Src b2 i2 l2 ys k s.heap) (hend:xs[k]? = none∨ys[k]? = none)
  (hQ:∀ h',(∀ c o,c≠z->c≠TO->c≠i1->c≠i2->s.heap.get? c=some o->h'.get? c=some o)->Q none { s with heap:=h' }):wpAny (model prog w) A (pyNext (.ref z)) Q E s:=by
 have hT:s.TypeIs (.ref z) "zip" := ⟨_,hz,rfl⟩
 unfold pyNext
 refine wpAny_bind (wpAny_attempt (wpAny_callSpecial?_slot (name:=Str.ofString "__next__") hT F.slot_zip_next (wpAny_call_entry F.slot_zip_next hT F.entry_zip_next (qBD hh D hz hTI hTO h1 h2 hend fun h' e hk he => ?_) (F.args_zip_next_1 _))))
 obtain ⟨o,ho,hc⟩:=he
 refine wpAny_bind (wpAny_isInstance (T := "StopIteration") (b:=true) ⟨o,ho,hc⟩ isSubtype_stop ?_)
 exact wpAny_pure (hQ _ hk)
def w5 (b:Bool) (l:Addr):Obj:={ cls := .type (cond b "tuple_iterator" "list_iterator"),data := .fields #[.ref l,.int 0 0] }
def SqAt (b:Bool) (l:Addr) (xs:Array Value) (h:Heap):Prop:=match b with
 |true=>h.IsTuple l xs
 |false=>h.IsList l xs
theorem SqAt.push {b:Bool} {l:Addr} {xs:Array Value} {h:Heap} (S:SqAt b l xs h) (o:Obj):SqAt b l xs (h.push o):=by
 cases b
 ·exact Heap.IsList.push S o
 ·exact Heap.IsTuple.push S o
theorem SqAt.here {b:Bool} {l:Addr} {xs:Array Value} {h:Heap} (S:SqAt b l xs h):∃ o,h.get? l=some o:=by
 cases b
 ·obtain ⟨o,e,_⟩:=S;exact ⟨o,e⟩
 ·obtain ⟨o,e,_⟩:=S;exact ⟨o,e⟩
theorem SqAt.at {b:Bool} {l:Addr} {xs:Array Value} {h h':Heap} (S:SqAt b l xs h) (e:∀ o,h.get? l=some o->h'.get? l=some o):SqAt b l xs h':=by
 cases b
 ·exact Heap.IsList.at S e
 ·obtain ⟨o,q,r⟩:=S;exact ⟨o,e o q,r⟩
theorem SqAt.iter {b:Bool} {l:Addr} {xs:Array Value} {Q:Value->Shared->Prop} (S:SqAt b l xs s.heap) (hQ:Q (.ref s.heap.objs.size) { s with heap:=s.heap.push (w5 b l) }):wpAny (model prog w) A (pyIter (.ref l)) Q E s:=by
 cases b
 ·exact wpAny_pyIter_list S hQ
 ·exact wpAny_pyIter_tuple S hQ
theorem SqAt.src {b:Bool} {i l:Addr} {xs:Array Value} {h:Heap} (S:SqAt b l xs h) (e:h.get? i=some (w5 b l)):Src b i l xs 0 h:=by
 cases b
 ·exact ⟨⟨_,e,rfl,rfl⟩,S⟩
 ·exact ⟨⟨_,e,rfl,rfl⟩,S⟩
def zH2 (b1 b2:Bool) (h:Heap) (l1 l2:Addr):Heap:=(h.push (w5 b1 l1)).push (w5 b2 l2)
def zH5 (b1 b2:Bool) (h:Heap) (l1 l2:Addr):Heap:=(((zH2 b1 b2 h l1 l2).push { cls := .type "tuple",data := .seq #[.ref h.objs.size,.ref (h.objs.size + 1)] }).push { cls := .type "tuple",data := .seq #[.none,.none] }).push { cls := .type "zip",data := .fields #[.none,.bool false,.bool false,.ref (h.objs.size + 2),.ref (h.objs.size + 3)] }
theorem JJ (b1 b2:Bool) (l1 l2:Addr) (xs ys:Array Value) :
  Meets (Builtin.«zip.__new__» ⟨[.type "zip",.ref l1,.ref l2],[]⟩) (fun _ R s=>SqAt b1 l1 xs s.heap∧SqAt b2 l2 ys s.heap ∧
   R (.ok (.ret (.ref (s.heap.objs.size + 4)))) { s with heap:=zH5 b1 b2 s.heap l1 l2 }) :=
 .of_wp fun prog w A R s h=>by
  obtain ⟨hp,g,d,tk,os⟩:=s;obtain ⟨hl1,hl2,h⟩:=h
  have hsub:=sub_zip
  have hL1:SqAt b1 l1 xs (Shared.heap ⟨hp,g,d,tk,os⟩):=hl1
  have hL2:SqAt b2 l2 ys (Shared.heap ⟨hp.push (w5 b1 l1),g,d,tk,os⟩):=hl2.push _
  wp_walk using SqAt.iter hL1,SqAt.iter hL2
  refine ⟨_,rfl,?_⟩
  have z1:(hp.push (w5 b1 l1)).objs.size=hp.objs.size + 1:=Heap.size_push ..
  unfold zH5 zH2 at h
  simp only [Heap.size_push]
  exact h
theorem qAu {b1 b2:Bool} {l1 l2:Addr} {xs ys:Array Value} {Q:Value->Shared->Prop} (hl1:SqAt b1 l1 xs s.heap) (hl2:SqAt b2 l2 ys s.heap)
  (h:∀ h',IsZip h' (s.heap.objs.size + 4) (s.heap.objs.size + 2) (s.heap.objs.size + 3) .none->IsPair h' (s.heap.objs.size + 2) (.ref s.heap.objs.size) (.ref (s.heap.objs.size + 1)) ->
   IsPair h' (s.heap.objs.size + 3) .none .none->Src b1 s.heap.objs.size l1 xs 0 h'->Src b2 (s.heap.objs.size + 1) l2 ys 0 h' ->
   (∀ c o,s.heap.get? c=some o->h'.get? c=some o)->Q (.ref (s.heap.objs.size + 4)) { s with heap:=h' }) :
  wpAny (model prog w) A (call (.type "zip") [.ref l1,.ref l2]) Q E s:=by
 refine callType_new F.called_zip (by decide) (F.typeCall_zip_2 _ _) (F.newCall_zip_2 _ _) (fun obj=>F.args_object_init_3 obj _ _) F.entry_zip_new
  (JJ b1 b2 l1 l2 xs ys) ⟨hl1,hl2,?_⟩
 have z1:(s.heap.push (w5 b1 l1)).objs.size=s.heap.objs.size + 1:=Heap.size_push ..
 have z2:(zH2 b1 b2 s.heap l1 l2).objs.size=s.heap.objs.size + 2:=by unfold zH2;rw [Heap.size_push,z1]
 have g5:(zH5 b1 b2 s.heap l1 l2).get? (s.heap.objs.size + 4)=some { cls := .type "zip",data := .fields #[.none,.bool false,.bool false,.ref (s.heap.objs.size + 2),.ref (s.heap.objs.size + 3)] }:=by
  have:=Heap.get?_push_size (((zH2 b1 b2 s.heap l1 l2).push { cls := .type "tuple",data := .seq #[.ref s.heap.objs.size,.ref (s.heap.objs.size + 1)] }).push { cls := .type "tuple",data := .seq #[.none,.none] }) (o:={ cls := .type "zip",data := .fields #[.none,.bool false,.bool false,.ref (s.heap.objs.size + 2),.ref (s.heap.objs.size + 3)] }) rfl
  simp only [Heap.size_push,z2] at this
  exact this
 have g4:(zH5 b1 b2 s.heap l1 l2).get? (s.heap.objs.size + 3)=some { cls := .type "tuple",data := .seq #[.none,.none] }:=by
  have:=Heap.get?_push_size ((zH2 b1 b2 s.heap l1 l2).push { cls := .type "tuple",data := .seq #[.ref s.heap.objs.size,.ref (s.heap.objs.size + 1)] }) (o:={ cls := .type "tuple",data := .seq #[.none,.none] }) rfl
  simp only [Heap.size_push,z2] at this
  exact Heap.get?_push_of_some _ this
 have g3:(zH5 b1 b2 s.heap l1 l2).get? (s.heap.objs.size + 2)=some { cls := .type "tuple",data := .seq #[.ref s.heap.objs.size,.ref (s.heap.objs.size + 1)] }:=by
  have:=Heap.get?_push_size (zH2 b1 b2 s.heap l1 l2) (o:={ cls := .type "tuple",data := .seq #[.ref s.heap.objs.size,.ref (s.heap.objs.size + 1)] }) rfl
  rw [z2] at this
  exact Heap.get?_push_of_some _ (Heap.get?_push_of_some _ this)
 have up:∀ c o,(zH2 b1 b2 s.heap l1 l2).get? c=some o->(zH5 b1 b2 s.heap l1 l2).get? c=some o:=fun c o e=>Heap.get?_push_of_some _ (Heap.get?_push_of_some _ (Heap.get?_push_of_some _ e))
 have g2:(zH5 b1 b2 s.heap l1 l2).get? (s.heap.objs.size + 1)=some (w5 b2 l2):=by
  have:=Heap.get?_push_size (s.heap.push (w5 b1 l1)) (o:=w5 b2 l2) rfl
  rw [z1] at this
  exact up _ _ this
 have g1:(zH5 b1 b2 s.heap l1 l2).get? s.heap.objs.size=some (w5 b1 l1):=up _ _ (Heap.get?_push_of_some _ (Heap.get?_push_size _ rfl))
 have old:∀ c o,s.heap.get? c=some o->(zH5 b1 b2 s.heap l1 l2).get? c=some o:=fun c o e=>up _ _ (Heap.get?_push_of_some _ (Heap.get?_push_of_some _ e))
 show _∧_
 exact ⟨⟨_,g5,rfl⟩,h _ g5 g3 g4 ((hl1.at fun o e=>old _ o e).src g1) ((hl2.at fun o e=>old _ o e).src g2) old⟩
end
def SqG (b:Bool) (K:W.Frag) (H:Hp) (l:Addr) (xs:List V):Prop:=match b with
 |true=>SqT K H l xs
 |false=>SqL K H l xs
theorem zz {X:Cx} {pins:List (Addr×Obj)} {σ:L2.St} {H:Hp} {s:Shared} (I:L2.Inv X pins σ H s) {b:Bool} {l:Addr} {xs:List V} (h:SqG b X.K H l xs):∃ us:List Value,Vals xs us∧SqAt b l us.toArray s.heap:=by
 cases b
 ·obtain ⟨us,r,p,_⟩:=I.list h;exact ⟨us,r,p.isList⟩
 ·obtain ⟨us,r,p,_⟩:=I.tuple h;exact ⟨us,r,p⟩
theorem qAe {X:Cx} {pins:List (Addr×Obj)} {σ:L2.St} {H:Hp} {s:Shared} (I:L2.Inv X pins σ H s) {b:Bool} {l:Addr} {xs ys:List V} (h:SqG b X.K H l xs) (h':SqG b X.K H l ys):xs=ys:=by
 cases b
 ·exact I.list_inj h h'
 ·exact I.tuple_inj h h'
def qHY (b1 b2:Bool) (K:W.Frag) (l1 l2:Addr):It :=
 ⟨fun i H => ∃ xs ys x y,SqG b1 K H l1 xs∧SqG b2 K H l2 ys∧xs[i]? = some x∧ys[i]? = some y,
  fun i H v H' => ∃ T x y,H T=none∧v = .ref T∧H'=upd H T (.tup [x,y]) ∧ ∀ xs ys,SqG b1 K H l1 xs->SqG b2 K H l2 ys->xs[i]? = some x∧ys[i]? = some y,
  fun i H => ∃ xs ys,SqG b1 K H l1 xs∧SqG b2 K H l2 ys∧(xs.length≤i∨ys.length≤i)⟩
def IterAt (b:Bool) (i l:Addr) (k:Nat) (h:Heap):Prop:=match b with
 |true=>h.IsTupleIter i l k
 |false=>h.IsListIter i l k
theorem IterAt.at {b:Bool} {i l:Addr} {k:Nat} {h h':Heap} (S:IterAt b i l k h) (e:∀ o,h.get? i=some o->h'.get? i=some o):IterAt b i l k h':=by
 cases b
 ·exact Heap.IsListIter.at S e
 ·exact Heap.IsTupleIter.at S e
theorem IterAt.here {b:Bool} {i l:Addr} {k:Nat} {h:Heap} (S:IterAt b i l k h):∃ o,h.get? i=some o ∧ ∃ vs,o.data = .fields vs:=by
 cases b
 ·obtain ⟨o,e,_,d⟩:=S;exact ⟨o,e,_,d⟩
 ·obtain ⟨o,e,_,d⟩:=S;exact ⟨o,e,_,d⟩
theorem IterAt.src {b:Bool} {i l:Addr} {k:Nat} {xs:Array Value} {h:Heap} (S:IterAt b i l k h) (S2:SqAt b l xs h):Src b i l xs k h:=by
 cases b
 ·exact ⟨S,S2⟩
 ·exact ⟨S,S2⟩
theorem Src.iter {b:Bool} {i l:Addr} {k:Nat} {xs:Array Value} {h:Heap} (S:Src b i l xs k h):IterAt b i l k h:=by
 cases b
 ·exact S.1
 ·exact S.1
def qCp (b1 b2:Bool) (z TI TO i1 i2 l1 l2:Addr) (i:Nat) (h:Heap):Prop:=IsZip h z TI TO .none∧IsPair h TI (.ref i1) (.ref i2)∧(∃ a b,IsPair h TO a b)∧IterAt b1 i1 l1 i h∧IterAt b2 i2 l2 i h
theorem qBC {P:Program} {w:World} {K:W.Frag} {A:Around} {elts:List Expr} {n:Nat} {pos:Pos} (hA:A.handled=none) (b1 b2:Bool) (z TI TO i1 i2 l1 l2:Addr) (D:ZipApart z TI TO i1 i2 l1 l2) :
  Turn P w K A (.Tuple elts n pos) (qHY b1 b2 K l1 l2) [z,TI,TO,i1,i2] z (qCp b1 b2 z TI TO i1 i2 l1 l2) where
 mem:=by simp
 obj:=fun i h st b hb=>by
  obtain ⟨a1,a2,⟨a,c,a3⟩,s4,s5⟩:=st
  obtain ⟨o4,a4,_,d4⟩:=s4.here
  obtain ⟨o5,a5,_,d5⟩:=s5.here
  simp only [List.mem_cons,List.not_mem_nil,or_false] at hb
  rcases hb with rfl |rfl |rfl |rfl |rfl
  ·exact ⟨_,a1,fun v q=>by cases (show Data.fields _=Data.cell v from q)⟩
  ·exact ⟨_,a2,fun v q=>by cases (show Data.seq _ _=Data.cell v from q)⟩
  ·exact ⟨_,a3,fun v q=>by cases (show Data.seq _ _=Data.cell v from q)⟩
  ·exact ⟨_,a4,fun v q=>by rw [d4] at q;cases q⟩
  ·exact ⟨_,a5,fun v q=>by rw [d5] at q;cases q⟩
 keep:=fun i h h' st k=>by
  obtain ⟨a1,a2,⟨a,c,a3⟩,a4,a5⟩:=st
  exact ⟨k z (by simp) _ a1,k TI (by simp) _ a2,⟨a,c,k TO (by simp) _ a3⟩,a4.at fun o e=>k i1 (by simp) o e,a5.at fun o e=>k i2 (by simp) o e⟩
 item:=by
  intro X hP hw hK hA' i pins s σ H E I hf st hg
  subst hP hw hK
  obtain ⟨xs,ys,x,y,q1,q2,e1,e2⟩:=hg
  obtain ⟨a1,a2,⟨a,c,a3⟩,a4,a5⟩:=st
  obtain ⟨us,r1,p1⟩:=zz I q1
  obtain ⟨vs,r2,p2⟩:=zz I q2
  obtain ⟨u,g1,ru⟩:=r1.get e1
  obtain ⟨v,g2,rv⟩:=r2.get e2
  refine qAw D a1 a2 a3 (a4.src p1) (a5.src p2) (x:=u) (y:=v) (by simpa using g1) (by simpa using g2) fun h' z1 z2 z3 z4 z5 z7=>⟨_,rfl,?_⟩
  refine wpAny_letOwnedTupleGo_zip (s:={ s with heap:=h' }) z1 fun h2 y1 y2 => ?_
  have nz:s.heap.objs.size≠z:=Nat.ne_of_gt (Heap.lt_size a1)
  have oth:∀ b,b≠z->h2.get? b=h'.get? b:=fun b hb=>y2.2 b hb
  have tz:qCp b1 b2 z TI TO i1 i2 l1 l2 (i + 1) h2:=⟨y1,(oth TI D.TIz).trans (z7 TI _ D.TIz D.TITO D.TIi1 D.TIi2 a2),⟨u,v,(oth TO D.TOz).trans z2⟩,z3.iter.at fun o e=>(oth i1 D.i1z).trans e,z4.iter.at fun o e=>(oth i2 D.i2z).trans e⟩
  have hT:IsPair h2 s.heap.objs.size u v:=(oth _ nz).trans z5
  have I2:=qEE (t':=s.toks) (h':=h2) I hf ru rv (fun b o hb e=>(oth b fun q=>hb (by simp [q])).trans (z7 b o (fun q=>hb (by simp [q])) (fun q=>hb (by simp [q])) (fun q=>hb (by simp [q])) (fun q=>hb (by simp [q])) e)) (fun b hb=>by
   obtain ⟨b1,b2,⟨a',c',b3⟩,s4,s5⟩:=tz
   obtain ⟨o4,b4,_⟩:=s4.here
   obtain ⟨o5,b5,_⟩:=s5.here
   simp only [List.mem_cons,List.not_mem_nil,or_false] at hb
   rcases hb with rfl |rfl |rfl |rfl |rfl
   ·exact ⟨_,b1⟩
   ·exact ⟨_,b2⟩
   ·exact ⟨_,b3⟩
   ·exact ⟨_,b4⟩
   ·exact ⟨_,b5⟩) hT
  refine ⟨.ref s.heap.objs.size,_,I2,rfl,⟨_,x,y,I.hok.fresh (Nat.le_refl _),rfl,rfl,fun xs' ys' h1 h2 => ?_⟩,tz,fun b hb => ?_⟩
  ·rw [qAe I h1 q1,qAe I h2 q2];exact ⟨e1,e2⟩
  ·have:=(hf b hb).1
   have ne:b≠s.heap.objs.size:=by
    simp only [List.mem_cons,List.not_mem_nil,or_false] at hb
    obtain ⟨o4,b4,_⟩:=a4.here
    obtain ⟨o5,b5,_⟩:=a5.here
    rcases hb with rfl |rfl |rfl |rfl |rfl
    ·exact Nat.ne_of_lt (Heap.lt_size a1)
    ·exact Nat.ne_of_lt (Heap.lt_size a2)
    ·exact Nat.ne_of_lt (Heap.lt_size a3)
    ·exact Nat.ne_of_lt (Heap.lt_size b4)
    ·exact Nat.ne_of_lt (Heap.lt_size b5)
   rw [qN ne];exact this
 done:=by
  intro X hP hw hK hA' i pins s σ H E I hf st hg
  subst hP hw hK
  obtain ⟨xs,ys,q1,q2,e1⟩:=hg
  obtain ⟨a1,a2,⟨a,c,a3⟩,a4,a5⟩:=st
  obtain ⟨us,r1,p1⟩:=zz I q1
  obtain ⟨vs,r2,p2⟩:=zz I q2
  have n1:=r1.length
  have n2:=r2.length
  refine qCh (by rw [hA'];exact hA) D a1 a2 a3 (a4.src p1) (a5.src p2) (e1.imp (fun q=>by simp;omega) fun q=>by simp;omega) fun h' k=>⟨rfl,?_⟩
  have nf:∀ b u,H b=some u->b ∉ [z,TI,TO,i1,i2]:=fun b u e q=>by rw [(hf b q).1] at e;cases e
  have kk:∀ b o,b ∉ [z,TI,TO,i1,i2]->s.heap.get? b=some o->h'.get? b=some o:=fun b o hb e=>k b o (fun q=>hb (by simp [q])) (fun q=>hb (by simp [q])) (fun q=>hb (by simp [q])) (fun q=>hb (by simp [q])) e
  exact I.call (g':=s.gens) (d':=s.drawn) (t':=s.toks) (ch:=[z,TI,TO,i1,i2]) ⟨fun b o e _ _ hb=>kk b o hb e,fun b o e _ _ hb=>⟨o.slots,kk b o hb e⟩,fun b o e n _=>n,fun b o e hb=>⟨o,kk b o hb e⟩,fun b xs e=>e,fun b o u e=>e,fun b ps e=>⟨#[],by rw [e];simp⟩⟩
   (fun b u' e=>(I.hok b u' e).stay (fun c w hc q=>kk c w (hc.elim (fun z=>by rw [z];exact nf _ _ e) fun z=>nf _ _ z) q) (fun c q=>q) fun c xs q=>q) I.bare fun b hb=>⟨(hf b hb).2.2.2.1,(hf b hb).2.1,(hf b hb).2.2.2.2.1,(hf b hb).2.2.2.2.2⟩
 self:=fun _ _ _ _ _ st h=>wpAny_pyIter_zip st.1 h
section
variable {X:Cx} {a b:Expr} {ta:TA} {p pos:Pos} {elts:List Expr} {n:Nat} {tpos:Pos}
def qHC (K:W.Frag) (ta:TA):TI:=fun σ H R=>ta σ H fun vs H1 => ∃ b1 b2 l1 l2,vs=[.ref l1,.ref l2]∧(∃ xs,SqG b1 K H1 l1 xs)∧(∃ ys,SqG b2 K H1 l2 ys)∧R (qHY b1 b2 K l1 l2) H1
theorem qEC (hc:X.calm=true) (hg:Gl X "zip") (hm:X.mg "zip" = none) (ha:PA X [a,b] ta) (he:starEach [a,b] X.env=(false,eval a X.env)::starEach [b] X.env:=by rfl) (hpl:(backTo pos (starEach [b] X.env)).any (·.1)=false:=by rfl) :
  PI X (.Tuple elts n tpos) (.Call (.Name "zip" p) [a,b] [] pos) (qHC X.K ta):=by
 intro pins s σ H R I h
 refine wpAny_Call_Name_kw (zP I hg hm PyProof.Rows.boot_zip ?_)
 refine PyProof.Rows.callWith_type1 (thn (ha pos pins s σ H _ I h) fun us s1 ⟨vs,H1,I1,r1,q1⟩ => ?_) he hpl
 obtain ⟨b1,b2,l1,l2,rfl,⟨xs,h1⟩,⟨ys,h2⟩,q⟩:=q1
 obtain ⟨u,v,rfl,ru,rv⟩:=Jz r1
 cases ru
 cases rv
 obtain ⟨ts,r1,p1⟩:=zz I1 h1
 obtain ⟨ws,r2,p2⟩:=zz I1 h2
 refine qAu p1 p2 fun h' c1 c2 c3 c4 c5 c7 => ?_
 refine wpAny_pyIter_zip c1 ?_
 have lt1:l1 < s1.heap.objs.size:=by obtain ⟨_,e⟩:=p1.here;exact Heap.lt_size e
 have lt2:l2 < s1.heap.objs.size:=by obtain ⟨_,e⟩:=p2.here;exact Heap.lt_size e
 have I2:L2.Inv X pins σ H1 { s1 with heap:=h' }:=I1.kept (t':=s1.toks) c7
 refine ⟨_,_,_,_,H1,rfl,I2,qBC (I1.ok.hd hc) b1 b2 _ _ _ _ _ _ _ (PyProof.Rows.zipApart_new lt1 lt2),⟨c1,c2,⟨_,_,c3⟩,c4.iter,c5.iter⟩,fun c hc' => ?_,q⟩
 have hle:s1.heap.objs.size≤c:=by
  simp only [List.mem_cons,List.not_mem_nil,or_false] at hc'
  rcases hc' with rfl |rfl |rfl |rfl |rfl
  ·exact Nat.le_add_right _ _
  ·exact Nat.le_add_right _ _
  ·exact Nat.le_add_right _ _
  ·exact Nat.le_refl _
  ·exact Nat.le_add_right _ _
 exact I1.fpOk hle (I1.hok.fresh hle)
end
end EX
namespace EV
open PySem PySem.Spec PyProof.Rows L2 EX
section
variable {X:Cx} {E:XK} {e a c d:Expr} {es:List Expr} {f fa fb fc:FE} {fl:FL} {pos:Pos} {F G:FS}
def kQ:PV->Bool
 | .tup _=>true
 |_=>false
theorem zf {K:W.Frag} {H:Hp} {b:Bz} {st:qC} {p:PV} {v:V} {l:List PV} (S:SR K H b st) (r:RV K H b p v) (h:wY st p=some l) :
  ∃ x xs,v = .ref x∧SqG (kQ p) K H x xs∧RVs K H b l xs:=by
 unfold wY at h
 split at h
 ·cases h
  unfold RV at r
  obtain ⟨x,xs,rfl,h2,h3⟩:=r
  exact ⟨x,xs,rfl,h2.sq,h3⟩
 ·rename_i hp
  have:kQ p=false:=by unfold kQ;split <;> first |(exact absurd rfl (hp _)) |rfl
  rw [this]
  exact wA S r h
def YX (ps:List PV) (st:qC):Rs ItP:=match ps with
 |[p,q]=>match wY st p,wY st q with
  |some l,some m => .ok ⟨WA l m,fun s=>wY s p=some l∧wY s q=some m⟩ st
  |_,_ => .no
 |_ => .no
def qAZ (t:FA):FI:=fun r st=>(t r st).bind YX
theorem qDp {elts:List Expr} {n:Nat} {tpos p:Pos} {t:FA} (hc:X.calm=true) (hm:X.mg "zip" = none) (ha:VA X E [a,c] t) (hg:Gl X "zip" := by rfl) (he:starEach [a,c] X.env=(false,eval a X.env)::starEach [c] X.env:=by rfl) (hpl:(backTo pos (starEach [c] X.env)).any (·.1)=false:=by rfl) :
  VI X E (.Tuple elts n tpos) (.Call (.Name "zip" p) [a,c] [] pos) (qAZ t):=fun pins s σ H R I q=>qEC hc hg hm ha he hpl pins s σ H R I (by
 obtain ⟨b,r,st,S,RE,P⟩:=q
 refine ⟨b,r,st,S,RE,PostA.bindI P fun l s1 us H1 b1 e1 S1 r1 P1 => ?_⟩
 unfold YX at P1
 split at P1
 ·rename_i p q
  obtain ⟨u,v,rfl,h1,h2⟩:=RVs.two r1
  split at P1
  ·rename_i l m el em
   obtain ⟨x,xs,rfl,k1,k2⟩:=zf S1 h1 el
   obtain ⟨y,ys,rfl,k3,k4⟩:=zf S1 h2 em
   refine ⟨kQ p,kQ q,x,y,rfl,⟨xs,k1⟩,⟨ys,k3⟩,P1 _ H1 b1 (Ext.refl _ _) S1 fun H2 b2 st2 e2 S2 g2 => ?_⟩
   obtain ⟨x',xs',ex,j1,j2⟩:=zf S2 (RV.wext e2 p h1) g2.1
   cases ex
   obtain ⟨y',ys',ey,j3,j4⟩:=zf S2 (RV.wext e2 q h2) g2.2
   cases ey
   refine ⟨fun i w hw => ?_,fun i hi => ?_⟩
   ·obtain ⟨x1,y1,w1,w2,rfl⟩:=jz hw
    obtain ⟨v1,z1,z2⟩:=j2.get w1
    obtain ⟨v2,z3,z4⟩:=j4.get w2
    refine ⟨⟨xs',ys',v1,v2,j1,j3,z1,z3⟩,fun z H3 ⟨T,a1,a2,hn,hz,hH,ha⟩ => ?_⟩
    subst hz;subst hH
    obtain ⟨q1,q2⟩:=ha xs' ys' j1 j3
    rw [z1] at q1;cases q1
    rw [z3] at q2;cases q2
    refine ⟨fun b' o h=>by rw [qN (qM h hn)];exact h,S2.new hn,?_⟩
    unfold RV
    exact ⟨T,_,rfl,.inl ⟨QG,S2.new_notin hn⟩,RVs.cons (RV.wext (WE.new hn) _ z2) (RVs.cons (RV.wext (WE.new hn) _ z4) RVs.nil)⟩
   ·have hi:min l.length m.length≤i:=by rw [← jm];exact hi
    exact ⟨xs',ys',j1,j3,by rw [← j2.length,← j4.length];omega⟩
  ·exact P1.elim
 ·exact P1.elim)
end
end EV
end
section
namespace EV
open PySem PySem.Spec PyProof.Rows L2 EX
section
variable {X:Cx} {E:XK}
def qGI (sc:Scope) (x:Str):Bool:=match sc.names.lookup x with
 |some .local=>true
 |some .cell=>true
 |some .free=>true
 |_=>false
theorem qGN {sc:Scope} {x:Str} (h:qGI sc x=true):Vis sc x:=by
 unfold qGI at h
 unfold Vis
 split at h
 ·rename_i e;exact .inl e
 ·rename_i e;exact .inr (.inl e)
 ·rename_i e;exact .inr (.inr e)
 ·cases h
theorem qH (i:Nat) {x:Str} {pos:Pos} (hN:X.N[i]? = some x:=by rfl) (hv:qGI X.env.scope x=true:=by rfl) (hd:((x==("__debug__":Str)) || (x==("__classdict__":Str)))=false:=by rfl):VE X E (.Name x pos) (qB i):=by
 rw [Bool.or_eq_false_iff] at hd
 exact qHF (pv i hN (qGN hv) hd.1 hd.2)
def frB (X:Cx):List (Str×NameKind)->Bool
 |[]=>true
 |(x,.free)::l=>(match X.env.kindOf x with |some .cell=>true |some .free=>true |_=>false)&&frB X l
 |_::l=>frB X l
theorem qCN:∀ {l:List (Str×NameKind)},frB X l=true -> ∀ x∈l,x.2 = .free->(X.env.kindOf x.1=some .cell∨X.env.kindOf x.1=some .free)
 |[],_,x,hx,_=>by cases hx
 |(y,k)::l,h,x,hx,hk=>by
  rcases List.mem_cons.mp hx with rfl |hx
  ·have hk:k = .free:=hk
   subst hk
   unfold frB at h
   rw [Bool.and_eq_true] at h
   have h:=h.1
   split at h
   ·rename_i e;exact .inl e
   ·rename_i e;exact .inr e
   ·cases h
  ·refine qCN (l:=l) ?_ x hx hk
   unfold frB at h
   split at h
   ·rename_i he;cases he
   ·rename_i he;cases he;rw [Bool.and_eq_true] at h;exact h.2
   ·rename_i he;cases he;exact h
def qEN (X:Cx) (l:List (Str×NameKind)):List Str->List Nat->Prop
 |x::xs,j::js=>(X.N[j]? = some x∧l.lookup x=some .free)∧qEN X l xs js
 |_,_=>True
theorem Zy {x:Str} {k:NameKind}:∀ {l:List (Str×NameKind)},l.lookup x=some k->(x,k)∈l
 |[],h=>by cases h
 |(y,q)::l,h=>by
  rw [List.lookup_cons] at h
  split at h
  ·rename_i e;cases h;rw [eq_of_beq e];exact List.mem_cons_self
  ·exact List.mem_cons_of_mem _ (Zy h)
theorem J5 {l:List (Str×NameKind)}:∀ {xs:List Str} {js:List Nat},qEN X l xs js -> ∀ (i:Nat) (x:Str) (j:Nat),xs[i]? = some x->js[i]? = some j->X.N[j]? = some x∧(x,NameKind.free)∈l
 |[],_,_,i,x,j,h1,_=>by cases h1
 |_::_,[],_,i,x,j,_,h2=>by cases h2
 |a::xs,b::js,h,i,x,j,h1,h2=>by
  unfold qEN at h
  cases i with
  |zero=>cases h1;cases h2;exact ⟨h.1.1,Zy h.1.2⟩
  |succ i=>exact J5 h.2 i x j h1 h2
theorem wK {scope:Scope} {capN locN:List Str} {caps:List Nat} (h1:scope.kind = .function) (h2:(scope.names.map (·.1)).Nodup) (h3:frB X scope.names=true) (h4:capN.length=caps.length) (h5:qEN X scope.names capN caps):CSc X scope capN locN caps :=
 ⟨h1,h2,qCN h3,h4,J5 h5⟩
end
end EV
end
section
namespace EX
open PySem PySem.Spec PyProof.Rows L2
end EX
namespace EV
open PySem PySem.Spec PyProof.Rows L2 EX
end EV
end
section
namespace EV
open PySem PySem.Spec PyProof.Rows L2 EX
section
variable {X:Cx} {E:XK} {e:Expr} {es:List Expr} {pos:Pos}
theorem qIf {a:Expr} {n:Str} {f:FE} {g:FA} (h:VE X E (.Attribute a n pos) f) (h2:VA X E es g):VA X E (.Attribute a n pos::es) (qA f g):=Ql h h2 rfl
end
end EV
end
section
namespace EX
open PySem PySem.Spec PyProof.Rows L2
end EX
namespace EV
open PySem PySem.Spec PyProof.Rows L2 EX
end EV
end
section
namespace EX
open PySem PySem.Spec PyProof.Rows L2
end EX
namespace EV
open PySem PySem.Spec PyProof.Rows L2 EX
end EV
end
section
namespace EX
open PySem PySem.Spec PyProof.Rows L2
end EX
namespace EV
open PySem PySem.Spec PyProof.Rows L2 EX
end EV
end
section
namespace EV
open PySem PySem.Spec PyProof.Rows L2 EX
section
variable {X:Cx} {E:XK} {e a c d:Expr} {es:List Expr} {f fa fb fc:FE} {fl:FL} {pos:Pos} {F G:FS}
def Jc (f:FE) (lo hi:FO):FE:=fun r st=>(f r st).bind fun p s1=>(lo r s1).bind fun k s2=>(hi r s2).bind fun m s3=>match asL s3 p with
 |some l => .ok (.lst (JG l k m)) s3
 |none => .no
theorem qEg {l:List PV} {xs:List V} (h:l.length=xs.length) {K:W.Frag} {H:Hp} {b:Bz} (r:RVs K H b l xs) (k m:Option Int):RVs K H b (JG l k m) (qBS xs k m):=by
 unfold JG qBS
 rw [h]
 exact RVs.take _ (RVs.drop _ r)
theorem qC0 {lo hi:Option Expr} {flo fhi:FO} {p2:Pos} (h:VE X E e f) (hl:VO X E lo flo) (hh:VO X E hi fhi):VE X E (.Subscript e (.Slice lo hi none p2) pos) (Jc f flo fhi) :=
 PE.imp (qBj qEm h hl hh) fun s H Q ⟨b,r,st,S,R,P⟩=>⟨b,r,st,S,R,PostE.bind P fun p s1 u H1 b1 e1 S1 r1 P1=>⟨b1,r,s1,S1,R.ext e1,PostO.bind P1 fun k s2 H2 b2 e2 S2 P2=>⟨b2,r,s2,S2,(R.ext e1).ext e2,PostO.bind P2 fun m s3 H3 b3 e3 S3 P3=>by
  split at P3
  ·rename_i l el
   obtain ⟨x,xs,rfl,h2,h3⟩:=wA S3 (RV.ext e3 _ (RV.ext e2 _ r1)) el
   refine ⟨x,xs,rfl,h2,fun p hp=>PostN.lay (PostN.of (r := .ok (JG l k m) s3) P3) S3 (qEg h3.length h3 k m) hp⟩
  ·exact P3.elim⟩⟩⟩
def vMk (f:FL):FE:=fun r st=>(f r st).bind fun l s => .ok (.ref s.length) (s++[.l l])
theorem PostN.bindE {K:W.Frag} {E:XK} {H:Hp} {b:Bz} {r:Rs (List PV)} {Q:VK} (P:PostE K E H b (r.bind fun l s => .ok (.ref s.length) (s++[.l l])) Q):PostN K E H b r Q:=by
 cases r with
 |ok l st =>
  intro p xs H' b' e hn hp hz S rs
  have hl:b'.b.length=st.length:=S.len
  refine P (.ref p) H' ⟨b'.b++[p],b'.z⟩ (e.adopt hn) (S.slot (x := .l l) hz hp ⟨xs,rfl,rs⟩) ?_
  unfold RV
  exact ⟨p,rfl,by show (b'.b++[p])[st.length]? = some p;rw [← hl];simp⟩
 |ex x st=>exact P
 |no=>exact P
theorem qB1 {f:FL} (h:VN X E e f):VE X E e (vMk f):=PE.imp h fun s H Q ⟨b,r,st,S,R,P⟩=>⟨b,r,st,S,R,PostN.bindE P⟩
end
end EV
end
section
namespace EX
open PySem PySem.Spec PyProof.Rows L2
end EX
namespace EV
open PySem PySem.Spec PyProof.Rows L2 EX
end EV
end
section
namespace EX
open PySem PySem.Spec PyProof.Rows L2
def byT (w:World):Bool:=w.params.followText "set-order"
section
variable {prog:Program} {w:World} {A:Around} {E:Value->Shared->Prop} {s:Shared}
theorem qAF {a:Value} {Q:Value->Shared->Prop} (h:Q (.ref s.heap.objs.size) { s with heap:=s.heap.push { cls := .type "set",data := .set #[] 0 (SetTable.fresh 0 0 (!byT w)) } }) :
  codeAny (model prog w) A (.call (.builtin "set.__new__") ⟨[.type "set",a],[]⟩) (wants Q E) s:=by
 refine codeAny_call_builtin F.plain_set_new F.entry_set_new (wpAny_of_eq (F.newCall_set_1 a) ?_)
 unfold Builtin.«set.__new__» Builtin.Frozenset.newClass
 dsimp only
 refine wpAny_bind (wpAny_bind (wpAny_of_eq (a:=true) rfl ?_))
 rw [if_neg (by decide)]
 refine wpAny_bind (wpAny_of_eq sub_set_self ?_)
 rw [if_neg (by decide)]
 refine wpAny_pure (wpAny_bind ?_)
 unfold newSet setsByText
 refine wpAny_bind (wpAny_bind (wpAny_askSetting (wpAny_pure ?_)))
 dsimp only
 unfold newObj
 dsimp only
 rw [if_neg (by decide)]
 unfold newObjAsIs
 refine wpAny_bind (wpAny_alloc ?_)
 dsimp only
 exact wpAny_pure (wpAny_pure h)
end
theorem Yk:entryFor table "set.__iter__" = some Builtin.«frozenset.__iter__» := entryFor_alias (id' := "frozenset.__iter__") (by kernel_rfl) (by kernel_rfl) (by kernel_rfl) (by kernel_rfl)
theorem zi:entryFor table "set_iterator.__next__" = some Builtin.«set_iterator.__next__» := entryFor_of_fast (by kernel_rfl)
theorem slot_setit:Slot "set_iterator" (Str.ofString "__next__") "set_iterator.__next__" := @Slot.of "set_iterator" (Str.ofString "__next__") "set_iterator.__next__" "set_iterator" "__next__" (by rw [typeLookup_type,builtinLookup_eq_fast];rfl) (by decide) (by decide) (by decide) (Or.inl (by decide +kernel)) (by rw [isSubtype_type];rfl) (by decide +kernel)
theorem yD (a:Value):argsOk "set_iterator.__next__" { pos:=[a] }:=by
 unfold argsOk
 kernel_rfl
theorem Jt {α:Type}:∀ {l:List α} {i:Nat} (h:i < l.length),(l[i]::l.eraseIdx i).Perm l
 |x::l,0,_ => .refl _
 |x::l,i + 1,h=>(List.Perm.swap x _ _).trans ((Jt (l:=l) (i:=i) (by simpa using h)).cons x)
theorem J9 {α:Type} (next:Nat->Nat):∀ (n k:Nat) (left:List α) (out:Array α),left.length=n->(pickOrder.go next n k left out).toList.Perm (out.toList++left)
 |0,k,left,out,h=>by
  have:left=[]:=List.eq_nil_of_length_eq_zero h
  subst this
  show out.toList.Perm _
  rw [List.append_nil]
 |n + 1,k,left,out,h=>by
  have hl:next k % left.length < left.length:=Nat.mod_lt _ (by omega)
  show (match left[next k % left.length]? with |some x=>pickOrder.go next n (k + 1) (left.eraseIdx (next k % left.length)) (out.push x) |none=>out).toList.Perm _
  rw [List.getElem?_eq_getElem hl]
  dsimp only
  refine (J9 next n (k + 1) _ _ (by rw [List.length_eraseIdx_of_lt hl];omega)).trans ?_
  rw [Array.toList_push,List.append_assoc]
  exact List.Perm.append_left _ (Jt hl)
def wB (w:World) (a:Addr) (ep:Nat) (es:Array (Int×Value)):Array (Int×Value):=if byT w=true then pickOrder (w.params.setOrder a ep) es else es
theorem Yu {w:World} {a:Addr} {ep:Nat} {es:Array (Int×Value)}:(wB w a ep es).toList.Perm es.toList:=by
 unfold wB
 split
 ·exact J9 _ _ _ _ _ (by simp)
 ·exact .refl _
theorem WY {w:World} {a:Addr} {ep:Nat} {es:Array (Int×Value)}:(wB w a ep es).size=es.size:=by
 have:=(Yu (w:=w) (a:=a) (ep:=ep) (es:=es)).length_eq
 rwa [Array.length_toList,Array.length_toList] at this
theorem yh:entryFor table "list.extend.loop" = some Builtin.«list.extend.loop» := entryFor_of_fast (by kernel_rfl)
theorem WN:plainId "list.extend.loop" = true:=by decide +kernel
section
variable {prog:Program} {w:World} {A:Around} {E:Value->Shared->Prop} {R:Result->Shared->Prop} {a it:Addr} {es:Array (Int×Value)} {ep:Nat} {t:SetTable}
theorem hint_set {s:Shared} {Q:Bool->Shared->Prop} (hT:s.TypeIs (.ref a) "set") (h:Q false s):wpAny (model prog w) A (Builtin.List.listLengthHint (.ref a)) Q E s:=by
 unfold Builtin.List.listLengthHint
 refine wpAny_bind (wpAny_specialOf hT F.slot_set_len.lookup ?_)
 dsimp only
 rw [show splitId "set.__len__" = some ("set","__len__") by decide]
 dsimp only
 refine wpAny_bind (wpAny_isInstance hT sub_set_self ?_)
 rw [if_neg (by decide),if_pos (by decide +kernel)]
 exact wpAny_bind (wpAny_typeOf hT (wpAny_pure h))
end
end EX
namespace EV
open PySem PySem.Spec PyProof.Rows L2 EX
section
variable {X:Cx} {E:XK} {e:Expr} {f:FE} {p p2 pos pos2:Pos}
theorem W3 {K:W.Frag} {H:Hp} {b:Bz}:∀ (ns:List Int),RVs K H b (ns.map PV.int) (ns.map V.int)
 |[]=>RVs.nil
 |n::ns=>RVs.cons Qj (W3 ns)
end
end EV
end
section
namespace EX
open PySem PySem.Spec PyProof.Rows L2
end EX
namespace EV
open PySem PySem.Spec PyProof.Rows L2 EX
end EV
end
section
namespace EV
open PySem PySem.Spec PyProof.Rows L2 EX
section
variable {X:Cx} {E:XK} {e:Expr} {te:TE} {f:FE} {p kp kpos pos:Pos} {j:Nat}
def qAE:=gI fun i j=>if 0 < j∧j < 2 ^ 64 then some (.int (i / j)) else none
theorem qCu:OpR X (binaryOp .FloorDiv) (rI (fun _ j=>0 < j∧j < 2 ^ 64) fun i j => .int (i / j)):=opI fun i j _ _ _ _ _ hc q=>by
 have h1:(0:Int) < j:=hc.1
 have h2:j < 2 ^ 64:=hc.2
 refine floordiv_int (by omega) (by rw [Int.fdiv_eq_ediv_of_nonneg i (by omega)];exact q) (.inl (PyProof.noPylong_of_log2 ?_))
 have h3:j.natAbs < 2 ^ 64:=by omega
 have h4:j.natAbs≠0:=by omega
 exact Nat.lt_trans ((Nat.log2_lt h4).mpr h3) (by decide)
theorem qEI {a c:Expr} {fa fb:FE} (ha:VE X E a fa) (hb:VE X E c fb):VE X E (.BinOp a .FloorDiv c pos) (qG qAE fa fb):=ZL qCu (qCL fun i j z e=>by
 split at e
 ·rename_i h;cases e;exact ⟨h,fun _ _=>Qj⟩
 ·cases e) ha hb
end
end EV
end
section
namespace ET
open PySem
def Rz (xs:Array Nat):Prop := ∀ i k,i < k->k < xs.size->xs.getD i 0 < xs.getD k 0
theorem qDt {xs:Array Nat} {i a b:Nat} (h:i < xs.size):xs.getD i a=xs.getD i b:=by
 rw [Array.getD_eq_getD_getElem?,Array.getD_eq_getD_getElem?,Array.getElem?_eq_getElem h];rfl
theorem Zw {xs:Array Nat} {j:Nat} (R:Rz xs):∀ (f lo hi:Nat),lo≤hi->hi≤xs.size->hi - lo≤f->(∀ i,i < lo->xs.getD i 0 < j)->(∀ i,hi≤i->i < xs.size->j≤xs.getD i 0) ->
  (∀ i,i < SetTable.below.go xs j f lo hi->xs.getD i 0 < j)∧(∀ i,SetTable.below.go xs j f lo hi≤i->i < xs.size->j≤xs.getD i 0)∧SetTable.below.go xs j f lo hi≤xs.size
 |0,lo,hi,h1,h2,h3,h4,h5=>by
  have:lo=hi:=by omega
  subst this
  exact ⟨h4,h5,h2⟩
 |f + 1,lo,hi,h1,h2,h3,h4,h5=>by
  unfold SetTable.below.go
  by_cases hl:lo < hi
  ·rw [if_pos hl]
   have hm1:lo≤(lo + hi) / 2:=by omega
   have hm2:(lo + hi) / 2 < hi:=by omega
   dsimp only
   rw [qDt (b:=0) (show (lo + hi) / 2 < xs.size by omega)]
   by_cases hq:xs.getD ((lo + hi) / 2) 0 < j
   ·rw [if_pos hq]
    refine Zw R f _ _ (by omega) h2 (by omega) (fun i hi' => ?_) h5
    by_cases he:i=(lo + hi) / 2
    ·rw [he];exact hq
    ·exact Nat.lt_trans (R i _ (by omega) (by omega)) hq
   ·rw [if_neg hq]
    refine Zw R f _ _ (by omega) (by omega) (by omega) h4 (fun i hi' hs => ?_)
    by_cases he:i=(lo + hi) / 2
    ·rw [he];omega
    ·have:=R _ i (show (lo + hi) / 2 < i by omega) hs
     omega
  ·rw [if_neg hl]
   have:lo=hi:=by omega
   subst this
   exact ⟨h4,h5,h2⟩
theorem wV {xs:Array Nat} (R:Rz xs) (j:Nat):(∀ i,i < SetTable.below xs j->xs.getD i 0 < j)∧(∀ i,SetTable.below xs j≤i->i < xs.size->j≤xs.getD i 0)∧SetTable.below xs j≤xs.size :=
 Zw R _ _ _ (Nat.zero_le _) (Nat.le_refl _) (Nat.le_refl _) (fun i h=>absurd h (Nat.not_lt_zero _)) (fun i h1 h2=>absurd h2 (by omega))
theorem qDD {xs:Array Nat} (R:Rz xs) {i:Nat} (h:i < xs.size):SetTable.below xs (xs.getD i 0)=i:=by
 obtain ⟨h1,h2,h3⟩:=wV R (xs.getD i 0)
 by_cases hq:SetTable.below xs (xs.getD i 0)=i
 ·exact hq
 ·rcases Nat.lt_or_gt_of_ne hq with q |q
  ·have:=h2 _ (Nat.le_refl _) (by omega)
   have:=R _ _ q h
   omega
  ·have:=h1 i q;omega
theorem JT {xs:Array Nat} (R:Rz xs) {i:Nat} (h:i < xs.size):SetTable.below xs (xs.getD i 0 + 1)=i + 1:=by
 obtain ⟨h1,h2,h3⟩:=wV R (xs.getD i 0 + 1)
 by_cases hq:SetTable.below xs (xs.getD i 0 + 1)=i + 1
 ·exact hq
 ·rcases Nat.lt_or_gt_of_ne hq with q |q
  ·have:=h2 i (by omega) h
   omega
  ·have a:=h1 (i + 1) q
   have:=R i (i + 1) (by omega) (by omega)
   omega
theorem JL {xs:Array Nat} (R:Rz xs):SetTable.below xs 0=0:=by
 obtain ⟨h1,h2,h3⟩:=wV R 0
 cases h:SetTable.below xs 0 with
 |zero=>rfl
 |succ n=>have:=h1 0 (by omega);omega
theorem mem_getD {xs:Array Nat} {j:Nat}:j∈xs.toList ↔ ∃ i,i < xs.size∧xs.getD i 0=j:=by
 constructor
 ·intro h
  obtain ⟨i,hi,e⟩:=List.getElem_of_mem h
  refine ⟨i,by simpa using hi,?_⟩
  rw [Array.getD_eq_getD_getElem?,Array.getElem?_eq_getElem (by simpa using hi)]
  simpa using e
 ·rintro ⟨i,hi,rfl⟩
  rw [Array.getD_eq_getD_getElem?,Array.getElem?_eq_getElem hi]
  exact Array.mem_toList_iff.mpr (Array.getElem_mem hi)
theorem qAP (j:Nat):SetTable.has #[] j=false:=by
 unfold SetTable.has
 simp
theorem yx {t:SetTable} (R:Rz t.place) {i:Nat} (h:i < t.place.size):t.slot (t.place.getD i 0) = .live i:=by
 unfold SetTable.slot
 rw [qDD R h]
 dsimp only
 rw [if_pos]
 rw [Array.getD_eq_getD_getElem?,Array.getElem?_eq_getElem h]
 simp
theorem Jg {t:SetTable} (hd:t.dummies = #[]) {j:Nat} (h:j ∉ t.place.toList):t.slot j = .empty:=by
 unfold SetTable.slot
 dsimp only
 rw [if_neg,hd,qAP]
 ·simp
 ·intro q
  refine h (mem_getD.mpr ⟨SetTable.below t.place j,?_⟩)
  have q:=eq_of_beq q
  obtain ⟨h1,h2⟩:=Array.getElem?_eq_some_iff.mp q
  refine ⟨h1,?_⟩
  rw [Array.getD_eq_getD_getElem?,q];rfl
def Jj (mask:Nat) (p:SetTable.Probe):SetTable.Probe :=
 if p.more > 0 then { p with j:=p.j + 1,more:=p.more - 1 } else
 { p with j:=(SetTable.leap mask p.i p.perturb).1,more:=SetTable.runEnd mask (SetTable.leap mask p.i p.perturb).1 - (SetTable.leap mask p.i p.perturb).1,i:=(SetTable.leap mask p.i p.perturb).1,perturb:=(SetTable.leap mask p.i p.perturb).2 }
theorem qFd (t:SetTable) (p:SetTable.Probe):t.advance p=Jj t.mask p:=rfl
def sq (mask:Nat) (h:Int):Nat->SetTable.Probe
 |0=>⟨SetTable.bits h % (mask + 1),SetTable.runEnd mask (SetTable.bits h % (mask + 1)) - SetTable.bits h % (mask + 1),SetTable.bits h % (mask + 1),SetTable.bits h,none⟩
 |n + 1=>Jj mask (sq mask h n)
def lp (mask:Nat) (h:Int):Nat->Nat×Nat
 |0=>(SetTable.bits h % (mask + 1),SetTable.bits h)
 |n + 1=>SetTable.leap mask (lp mask h n).1 (lp mask h n).2
def rn (mask i:Nat):Nat:=SetTable.runEnd mask i - i
def lpN (mask:Nat) (h:Int):Nat->Nat
 |0=>0
 |n + 1=>lpN mask h n + rn mask (lp mask h n).1 + 1
theorem JP {mask:Nat} {h:Int} {m n:Nat} (e:sq mask h n=⟨(lp mask h m).1,rn mask (lp mask h m).1,(lp mask h m).1,(lp mask h m).2,none⟩):∀ k,k≤rn mask (lp mask h m).1->sq mask h (n + k)=⟨(lp mask h m).1 + k,rn mask (lp mask h m).1 - k,(lp mask h m).1,(lp mask h m).2,none⟩
 |0,_=>e
 |k + 1,hk=>by
  rw [← Nat.add_assoc,sq,JP e k (by omega)]
  unfold Jj
  rw [if_pos (show rn mask (lp mask h m).1 - k > 0 by omega)]
  show SetTable.Probe.mk _ _ _ _ _=_
  rw [show rn mask (lp mask h m).1 - k - 1=rn mask (lp mask h m).1 - (k + 1) by omega,Nat.add_assoc]
theorem qAa {mask:Nat} {h:Int}:∀ m,sq mask h (lpN mask h m)=⟨(lp mask h m).1,rn mask (lp mask h m).1,(lp mask h m).1,(lp mask h m).2,none⟩
 |0=>rfl
 |m + 1=>by
  rw [lpN,sq,JP (qAa m) _ (Nat.le_refl _)]
  unfold Jj
  rw [if_neg (show ¬ rn mask (lp mask h m).1 - rn mask (lp mask h m).1 > 0 by omega)]
  rfl
theorem qE8 {mask:Nat} {h:Int} {m k:Nat} (hk:k≤rn mask (lp mask h m).1):(sq mask h (lpN mask h m + k)).j=(lp mask h m).1 + k:=by
 rw [JP (qAa m) k hk]
theorem qHe (mask i:Nat):rn mask i≤9:=by
 unfold rn SetTable.runEnd
 split <;> omega
theorem qC2 {mask:Nat} {h:Int}:∀ m,lpN mask h m≤10 * m
 |0=>Nat.le_refl _
 |m + 1=>by
  have:=qC2 (mask:=mask) (h:=h) m
  have:=qHe mask (lp mask h m).1
  rw [lpN];omega
theorem qH2 {mask:Nat} {h:Int}:∀ m,(lp mask h m).1≤mask
 |0=>Nat.le_of_lt_succ (Nat.mod_lt _ (Nat.succ_pos _))
 |m + 1=>Nat.le_of_lt_succ (Nat.mod_lt _ (Nat.succ_pos _))
theorem Ju {mask:Nat} {h:Int}:∀ m,(lp mask h m).2=SetTable.bits h / 32 ^ m
 |0=>by simp [lp]
 |m + 1=>by
  show (lp mask h m).2 / 32=_
  rw [Ju m,Nat.div_div_eq_div_mul,Nat.pow_succ]
theorem qEM (h:Int):SetTable.bits h < 2 ^ 64:=by
 unfold SetTable.bits
 have:=Int.emod_lt_of_pos h (show (0:Int) < 2 ^ 64 by decide)
 have:=Int.emod_nonneg h (show (2 ^ 64:Int)≠0 by decide)
 omega
theorem qFt {mask:Nat} {h:Int} (m:Nat) (hm:13≤m):(lp mask h m).2=0:=by
 rw [Ju]
 refine Nat.div_eq_of_lt (Nat.lt_of_lt_of_le (qEM h) ?_)
 exact Nat.le_trans (show 2 ^ 64≤32 ^ 13 by decide) (Nat.pow_le_pow_right (by decide) hm)
def cy (mask:Nat) (a:Nat):Nat->Nat
 |0=>a
 |n + 1=>(cy mask a n * 5 + 1) % (mask + 1)
theorem Zl {mask a:Nat} (m:Nat):∀ n,cy mask (cy mask a m) n=cy mask a (m + n)
 |0=>rfl
 |n + 1=>by rw [← Nat.add_assoc,cy,cy,Zl m n]
def Cyc (mask:Nat):Prop := ∀ a,a≤mask -> ∀ e,e≤mask -> ∃ k,k≤mask∧cy mask a k=e
def cyl (mask:Nat):Nat->Nat->List Nat
 |0,_=>[]
 |n + 1,a=>a::cyl mask n ((a * 5 + 1) % (mask + 1))
theorem qAK {mask:Nat}:∀ (n a i:Nat),i < n->(cyl mask n a)[i]? = some (cy mask a i)
 |0,_,_,h=>absurd h (Nat.not_lt_zero _)
 |n + 1,a,0,_=>rfl
 |n + 1,a,i + 1,h=>by
  rw [cyl,List.getElem?_cons_succ,qAK n _ i (by omega)]
  have:=Zl (mask:=mask) (a:=a) 1 i
  rw [show i + 1=1 + i by omega,← this]
  rfl
theorem qAY {mask:Nat}:∀ (n a:Nat),(cyl mask n a).length=n
 |0,_=>rfl
 |n + 1,a=>by rw [cyl,List.length_cons,qAY n]
def qHM (mask:Nat):Bool:=Nat.beq (cy mask 0 (mask + 1)) 0&&(List.range (mask + 1)).all fun e=>(cyl mask (mask + 1) 0).any fun x=>Nat.beq x e
theorem Yh {mask:Nat} (h:qHM mask=true):Cyc mask:=by
 unfold qHM at h
 rw [Bool.and_eq_true,List.all_eq_true] at h
 obtain ⟨h0,hall⟩:=h
 have h0:=Nat.eq_of_beq_eq_true h0
 have hat:∀ e,e≤mask -> ∃ k,k≤mask∧cy mask 0 k=e:=fun e he=>by
  obtain ⟨x,hx,q⟩:=List.any_eq_true.mp (hall e (List.mem_range.mpr (by omega)))
  have q:=Nat.eq_of_beq_eq_true q
  obtain ⟨k,hk⟩:=List.getElem?_of_mem hx
  have hl:=(List.getElem?_eq_some_iff.mp hk).1
  rw [qAY] at hl
  rw [qAK _ _ _ hl] at hk
  cases hk
  exact ⟨k,by omega,q⟩
 intro a ha e he
 obtain ⟨k1,h1,e1⟩:=hat a ha
 obtain ⟨k2,h2,e2⟩:=hat e he
 by_cases hq:k1≤k2
 ·refine ⟨k2 - k1,by omega,?_⟩
  rw [← e1,Zl,show k1 + (k2 - k1)=k2 by omega,e2]
 ·refine ⟨k2 + (mask + 1) - k1,by omega,?_⟩
  rw [← e1,Zl,show k1 + (k2 + (mask + 1) - k1)=(mask + 1) + k2 by omega,← Zl,h0,e2]
theorem qIA:Cyc 7:=Yh (by decide +kernel)
theorem qHX:Cyc 31:=Yh (by decide +kernel)
theorem qGv:Cyc 127:=Yh (by decide +kernel)
theorem qGq:Cyc 511:=Yh (by decide +kernel)
theorem qFB {mask:Nat} {h:Int}:∀ n,(lp mask h (13 + n)).1=cy mask (lp mask h 13).1 n
 |0=>rfl
 |n + 1=>by
  show ((lp mask h (13 + n)).1 * 5 + 1 + (lp mask h (13 + n)).2 / 32) % (mask + 1)=_
  rw [qFt _ (by omega),qFB n]
  rfl
theorem qCO {mask:Nat} {h:Int} (C:Cyc mask) {e:Nat} (he:e≤mask):∃ m,m≤mask + 13∧(lp mask h m).1=e:=by
 obtain ⟨k,hk,q⟩:=C _ (qH2 (mask:=mask) (h:=h) 13) e he
 exact ⟨13 + k,by omega,by rw [qFB,q]⟩
theorem qFW {mask:Nat} {h:Int} (C:Cyc mask) {e:Nat} (he:e≤mask):∃ n,n < 10 * SetTable.turns mask∧(sq mask h n).j=e:=by
 obtain ⟨m,hm,q⟩:=qCO (h:=h) C he
 refine ⟨lpN mask h m,?_,?_⟩
 ·have:=qC2 (mask:=mask) (h:=h) m
  unfold SetTable.turns;omega
 ·rw [qAa];exact q
structure TbG (t:SetTable) (n:Nat):Prop where
 dum:t.dummies = #[]
 sz:t.place.size=n
 ris:Rz t.place
 le:∀ j∈t.place.toList,j≤t.mask
 room:n≤t.mask
theorem JS:∀ (n:Nat) (l:List Nat),l.length < n -> ∃ e,e < n∧e ∉ l
 |0,l,h=>absurd h (Nat.not_lt_zero _)
 |n + 1,l,h=>by
  by_cases hn:n∈l
  ·obtain ⟨e,he,hq⟩:=JS n (l.filter (· ≠ n)) (by
    have:(l.filter (· ≠ n)).length < l.length:=by
     apply List.length_filter_lt_length_iff_exists.mpr
     exact ⟨n,hn,by simp⟩
    omega)
   refine ⟨e,by omega,fun q=>hq (List.mem_filter.mpr ⟨q,by simp;omega⟩)⟩
  ·exact ⟨n,by omega,hn⟩
theorem TbG.free {t:SetTable} {n:Nat} (T:TbG t n):∃ e,e≤t.mask∧e ∉ t.place.toList:=by
 obtain ⟨e,h1,h2⟩:=JS (t.mask + 1) t.place.toList (by rw [Array.length_toList,T.sz];have:=T.room;omega)
 exact ⟨e,by omega,h2⟩
theorem jY {P:Nat->Prop} (hd:∀ n,Decidable (P n)):∀ {n:Nat},P n -> ∃ k,k≤n∧P k ∧ ∀ m,m < k -> ¬ P m
 |0,h=>⟨0,Nat.le_refl _,h,fun m hm=>absurd hm (Nat.not_lt_zero _)⟩
 |n + 1,h=>by
  by_cases hq:∃ m,m≤n∧P m
  ·obtain ⟨m,hm,hp⟩:=hq
   have:∀ (f:Nat) (m:Nat),m≤f->P m -> ∃ k,k≤m∧P k ∧ ∀ m',m' < k -> ¬ P m':=by
    intro f
    induction f with
    |zero =>
     intro m hm hp
     have:m=0:=by omega
     subst this
     exact ⟨0,Nat.le_refl _,hp,fun m hm=>absurd hm (Nat.not_lt_zero _)⟩
    |succ f ih =>
     intro m hm hp
     by_cases hz:∃ m',m' < m∧P m'
     ·obtain ⟨m',h1,h2⟩:=hz
      obtain ⟨k,k1,k2,k3⟩:=ih m' (by omega) h2
      exact ⟨k,by omega,k2,k3⟩
     ·exact ⟨m,Nat.le_refl _,hp,fun m' h1 h2=>hz ⟨m',h1,h2⟩⟩
   obtain ⟨k,k1,k2,k3⟩:=this m m (Nat.le_refl _) hp
   exact ⟨k,by omega,k2,k3⟩
  ·exact ⟨n + 1,Nat.le_refl _,h,fun m hm hp=>hq ⟨m,by omega,hp⟩⟩
theorem TbG.first {t:SetTable} {n:Nat} (T:TbG t n) (C:Cyc t.mask) (h:Int):∃ k,k < 10 * SetTable.turns t.mask∧(sq t.mask h k).j ∉ t.place.toList ∧ ∀ m,m < k->(sq t.mask h m).j∈t.place.toList:=by
 obtain ⟨e,he,hq⟩:=T.free
 obtain ⟨k,hk,hj⟩:=qFW (h:=h) C he
 obtain ⟨k',k1,k2,k3⟩:=jY (P:=fun k=>(sq t.mask h k).j ∉ t.place.toList) (fun _=>inferInstance) (n:=k) (by rw [hj];exact hq)
 exact ⟨k',by omega,k2,fun m hm=>Decidable.not_not.mp (k3 m hm)⟩
theorem Zo (mask:Nat) (h:Int):∀ n,(sq mask h n).dummy=none
 |0=>rfl
 |n + 1=>by
  rw [sq];unfold Jj
  split
  ·exact Zo mask h n
  ·exact Zo mask h n
theorem jE {t:SetTable} {n:Nat} (T:TbG t n) (f:Nat->Int) (h:Int) {k:Nat} (hk:(sq t.mask h k).j ∉ t.place.toList) (hb:∀ m,m < k->(sq t.mask h m).j∈t.place.toList):∀ (F m:Nat),m≤k->k - m < F ->
  ((∀ x,m≤x->x < k -> ∀ i,t.place.getD i 0=(sq t.mask h x).j->i < t.place.size->f i≠h)∧SetTable.probe.go t f h F (sq t.mask h m)=some (.empty (sq t.mask h k).j none)) ∨
  ∃ x i,m≤x∧x < k∧i < t.place.size∧t.place.getD i 0=(sq t.mask h x).j∧f i=h∧(∀ y,m≤y->y < x -> ∀ i,t.place.getD i 0=(sq t.mask h y).j->i < t.place.size->f i≠h)∧SetTable.probe.go t f h F (sq t.mask h m)=some (.candidate (sq t.mask h x).j i (sq t.mask h (x + 1)))
 |0,m,_,h2=>absurd h2 (Nat.not_lt_zero _)
 |F + 1,m,h1,h2=>by
  rw [SetTable.probe.go]
  by_cases he:m=k
  ·subst he
   left
   refine ⟨fun x a b=>absurd b (by omega),?_⟩
   rw [Jg T.dum hk,Zo]
  ·have hm:=hb m (by omega)
   obtain ⟨i,hi,e⟩:=mem_getD.mp hm
   have hsl:t.slot (sq t.mask h m).j = .live i:=by rw [← e];exact yx T.ris hi
   rw [hsl]
   dsimp only
   have uniq:∀ i',t.place.getD i' 0=(sq t.mask h m).j->i' < t.place.size->i'=i:=fun i' e' h'=>by
    rcases Nat.lt_trichotomy i' i with q |q |q
    ·have:=T.ris _ _ q hi;omega
    ·exact q
    ·have:=T.ris _ _ q h';omega
   by_cases hf:f i=h
   ·rw [if_pos (by rw [hf];exact beq_self_eq_true h)]
    right
    exact ⟨m,i,Nat.le_refl _,by omega,hi,e,hf,fun y a b=>absurd b (by omega),rfl⟩
   ·rw [if_neg (by simpa using hf)]
    have:=jE T f h hk hb F (m + 1) (by omega) (by omega)
    rw [qFd]
    have hs:Jj t.mask (sq t.mask h m)=sq t.mask h (m + 1):=rfl
    rw [hs]
    rcases this with ⟨a,b⟩ |⟨x,i',a,b,c,d,e1,e2,e3⟩
    ·left
     refine ⟨fun x h1 h2 i' e' h' => ?_,b⟩
     by_cases hx:x=m
     ·subst hx;rw [uniq i' e' h'];exact hf
     ·exact a x (by omega) h2 i' e' h'
    ·right
     refine ⟨x,i',by omega,b,c,d,e1,fun y h1 h2 i'' e' h' => ?_,e3⟩
     by_cases hx:y=m
     ·subst hx;rw [uniq i'' e' h'];exact hf
     ·exact e2 y (by omega) h2 i'' e' h'
def Rch {α:Type} (t:SetTable) (es:List (Int×α)):Prop := ∀ q∈t.place.toList.zip es,∃ m,(sq t.mask q.2.1 m).j=q.1 ∧ ∀ m',m' < m->(sq t.mask q.2.1 m').j∈t.place.toList
theorem qEU {α:Type} (xs:Array α) (p:Nat) (x:α):(SetTable.insertAt xs p x).toList=xs.toList.take p++x::xs.toList.drop p:=by
 unfold SetTable.insertAt
 simp [Array.toList_append,List.take_of_length_le]
theorem ris_list {xs:Array Nat}:Rz xs ↔ xs.toList.Pairwise (· < ·):=by
 rw [List.pairwise_iff_getElem]
 constructor
 ·intro R i j hi hj hij
  have:=R i j hij (by simpa using hj)
  rw [Array.getD_eq_getD_getElem?,Array.getD_eq_getD_getElem?,Array.getElem?_eq_getElem (by simpa using hi),Array.getElem?_eq_getElem (by simpa using hj)] at this
  simpa using this
 ·intro R i k hik hk
  have:=R i k (by simp;omega) (by simpa using hk) hik
  rw [Array.getD_eq_getD_getElem?,Array.getD_eq_getD_getElem?,Array.getElem?_eq_getElem (by omega),Array.getElem?_eq_getElem hk]
  simpa using this
theorem qDb {xs:Array Nat} (R:Rz xs) {j:Nat}:∀ x∈xs.toList.take (SetTable.below xs j),x < j:=by
 intro x hx
 obtain ⟨i,hi,e⟩:=List.getElem_of_mem hx
 rw [List.length_take,Array.length_toList] at hi
 have:=(wV R j).1 i (by omega)
 rw [Array.getD_eq_getD_getElem?,Array.getElem?_eq_getElem (by omega)] at this
 rw [List.getElem_take] at e
 simp at e this
 omega
theorem qAQ {xs:Array Nat} (R:Rz xs) {j:Nat}:∀ x∈xs.toList.drop (SetTable.below xs j),j≤x:=by
 intro x hx
 obtain ⟨i,hi,e⟩:=List.getElem_of_mem hx
 rw [List.length_drop,Array.length_toList] at hi
 have:=(wV R j).2.1 (SetTable.below xs j + i) (by omega) (by omega)
 rw [Array.getD_eq_getD_getElem?,Array.getElem?_eq_getElem (by omega)] at this
 rw [List.getElem_drop] at e
 simp at e this
 omega
theorem qEs {xs:Array Nat} (R:Rz xs) {j:Nat} (h:j ∉ xs.toList):Rz (SetTable.insertAt xs (SetTable.below xs j) j):=by
 rw [ris_list,qEU]
 have P:=ris_list.mp R
 rw [List.pairwise_append]
 refine ⟨P.sublist (List.take_sublist _ _),?_,?_⟩
 ·rw [List.pairwise_cons]
  refine ⟨fun x hx => ?_,P.sublist (List.drop_sublist _ _)⟩
  have:=qAQ R x hx
  have:x≠j:=fun q=>h (by rw [← q];exact List.mem_of_mem_drop hx)
  omega
 ·intro a ha b hb
  have h1:=qDb R a ha
  rcases List.mem_cons.mp hb with q |q
  ·omega
  ·have:=qAQ R b q;omega
theorem qEL {α β:Type} {xs:List α} {ys:List β} {p:Nat} {x:α} {y:β} (hl:xs.length=ys.length):(xs.take p++x::xs.drop p).zip (ys.take p++y::ys.drop p)=(xs.zip ys).take p++(x,y)::(xs.zip ys).drop p:=by
 rw [List.zip_append (by simp [hl]),List.zip_cons_cons,List.zip_eq_zipWith,List.zip_eq_zipWith,List.zip_eq_zipWith,List.take_zipWith,List.drop_zipWith]
theorem JE {α:Type} {t:SetTable} {es:Array (Int×α)} {h:Int} {x:α} {k:Nat} (T:TbG t es.size) (hr:es.size + 1≤t.mask) (R:Rch t es.toList) (hjm:(sq t.mask h k).j≤t.mask) (hk:(sq t.mask h k).j ∉ t.place.toList) (hb:∀ m,m < k->(sq t.mask h m).j∈t.place.toList) :
  TbG (t.put (sq t.mask h k).j).1 (es.size + 1)∧Rch (t.put (sq t.mask h k).j).1 (SetTable.insertAt es (t.put (sq t.mask h k).j).2 (h,x)).toList∧(SetTable.insertAt es (t.put (sq t.mask h k).j).2 (h,x)).toList.Perm ((h,x)::es.toList):=by
 have hp:(t.put (sq t.mask h k).j).1.place.toList=t.place.toList.take (SetTable.below t.place (sq t.mask h k).j)++(sq t.mask h k).j::t.place.toList.drop (SetTable.below t.place (sq t.mask h k).j):=qEU _ _ _
 have hmem:∀ j,j∈(t.put (sq t.mask h k).j).1.place.toList ↔ j=(sq t.mask h k).j∨j∈t.place.toList:=by
  intro j
  rw [hp,List.mem_append,List.mem_cons]
  constructor
  ·rintro (q |q |q)
   ·exact .inr (List.mem_of_mem_take q)
   ·exact .inl q
   ·exact .inr (List.mem_of_mem_drop q)
  ·rintro (q |q)
   ·exact .inr (.inl q)
   ·rw [← List.take_append_drop (SetTable.below t.place (sq t.mask h k).j) t.place.toList,List.mem_append] at q
    rcases q with q |q
    ·exact .inl q
    ·exact .inr (.inr q)
 refine ⟨⟨?_,?_,qEs T.ris hk,?_,hr⟩,?_,?_⟩
 ·show (if SetTable.has t.dummies _=true then SetTable.eraseAt t.dummies _ else t.dummies) = #[]
  rw [T.dum,qAP];rfl
 ·rw [← Array.length_toList,hp]
  have:=(wV T.ris (sq t.mask h k).j).2.2
  rw [List.length_append,List.length_take,List.length_cons,List.length_drop,Array.length_toList,T.sz] at *
  omega
 ·intro j hj
  rcases (hmem j).mp hj with q |q
  ·rw [q];exact hjm
  ·exact T.le j q
 ·intro q hq
  rw [hp,qEU] at hq
  have hq:q∈(t.place.toList.take (SetTable.below t.place (sq t.mask h k).j)++(sq t.mask h k).j::t.place.toList.drop (SetTable.below t.place (sq t.mask h k).j)).zip (es.toList.take (SetTable.below t.place (sq t.mask h k).j)++(h,x)::es.toList.drop (SetTable.below t.place (sq t.mask h k).j)):=hq
  rw [qEL (by rw [Array.length_toList,Array.length_toList,T.sz]),List.mem_append,List.mem_cons] at hq
  have old:q∈t.place.toList.zip es.toList -> ∃ m,(sq t.mask q.2.1 m).j=q.1 ∧ ∀ m',m' < m->(sq t.mask q.2.1 m').j∈(t.put (sq t.mask h k).j).1.place.toList:=fun hq=>by
   obtain ⟨m,h1,h2⟩:=R q hq
   exact ⟨m,h1,fun m' hm=>(hmem _).mpr (.inr (h2 m' hm))⟩
  rcases hq with hq |hq |hq
  ·exact old (List.mem_of_mem_take hq)
  ·subst hq
   exact ⟨k,rfl,fun m' hm=>(hmem _).mpr (.inr (hb m' hm))⟩
  ·exact old (List.mem_of_mem_drop hq)
 ·rw [qEU]
  refine List.perm_middle.trans ?_
  rw [List.take_append_drop]
structure Ow (mask:Nat) (owner:Array (Option Nat)) (hs:List Int) (js:List Nat):Prop where
 size:owner.size=mask + 1
 len:js.length=hs.length
 iff:∀ (j k:Nat),owner[j]? = some (some k) ↔ js[k]? = some j
 way:∀ (k:Nat) (h:Int) (j:Nat),hs[k]? = some h->js[k]? = some j -> ∃ m,(sq mask h m).j=j ∧ ∀ m',m' < m->(sq mask h m').j∈js
 le:∀ j∈js,j≤mask
theorem jd {mask:Nat} {h:Int} {a:Nat}:∀ {b:Nat},a≤b->lpN mask h a≤lpN mask h b
 |0,q=>by
  have:a=0:=by omega
  subst this
  exact Nat.le_refl _
 |b + 1,q=>by
  by_cases e:a=b + 1
  ·subst e;exact Nat.le_refl _
  ·have:=jd (mask:=mask) (h:=h) (a:=a) (b:=b) (by omega)
   rw [lpN];omega
theorem qFy {mask:Nat} {h:Int} {a b:Nat} (q:a < b):lpN mask h a < lpN mask h b:=by
 have:=jd (mask:=mask) (h:=h) (show a + 1≤b by omega)
 rw [lpN] at this;omega
theorem qAI {mask:Nat} {owner:Array (Option Nat)} {hs:List Int} {js:List Nat} (O:Ow mask owner hs js) {h:Int} {k0:Nat} (hk:(sq mask h k0).j ∉ js) (hkm:(sq mask h k0).j≤mask) (hb:∀ m,m < k0->(sq mask h m).j∈js) :
  ∀ (F m:Nat),lpN mask h m≤k0->k0 < lpN mask h (m + F)->SetTable.layClean.free mask owner F (lp mask h m).1 (lp mask h m).2=some (sq mask h k0).j
 |0,m,h1,h2=>by rw [Nat.add_zero] at h2;omega
 |F + 1,m,h1,h2=>by
  rw [SetTable.layClean.free]
  have hrn:SetTable.runEnd mask (lp mask h m).1 + 1 - (lp mask h m).1=rn mask (lp mask h m).1 + 1:=by
   unfold rn SetTable.runEnd
   split <;> omega
  have occ:∀ k,k≤rn mask (lp mask h m).1->lpN mask h m + k < k0->(owner.getD ((lp mask h m).1 + k) (some 0)).isNone=false:=fun k a b=>by
   have:=hb _ b
   rw [qE8 a] at this
   obtain ⟨i,hi⟩:=List.getElem?_of_mem this
   have:=(O.iff _ _).mpr hi
   rw [Array.getD_eq_getD_getElem?,this];rfl
  rw [hrn]
  by_cases hq:k0≤lpN mask h m + rn mask (lp mask h m).1
  ·have ej:(sq mask h k0).j=(lp mask h m).1 + (k0 - lpN mask h m):=by
    have:=qE8 (mask:=mask) (h:=h) (m:=m) (k:=k0 - lpN mask h m) (by omega)
    rw [show lpN mask h m + (k0 - lpN mask h m)=k0 by omega] at this
    exact this
   have hf:(List.range (rn mask (lp mask h m).1 + 1)).find? (fun k=>(owner.getD ((lp mask h m).1 + k) (some 0)).isNone)=some (k0 - lpN mask h m):=by
    rw [List.find?_range_eq_some]
    refine ⟨?_,List.mem_range.mpr (by omega),fun j hj => ?_⟩
    ·rw [← ej,Array.getD_eq_getD_getElem?,Array.getElem?_eq_getElem (by rw [O.size];omega)]
     cases hx:owner[(sq mask h k0).j]'(by rw [O.size];omega) with
     |none=>rfl
     |some k' =>
      exfalso
      refine hk (List.mem_of_getElem? ((O.iff _ k').mp ?_))
      rw [Array.getElem?_eq_getElem (by rw [O.size];omega),hx]
    ·rw [occ j (by omega) (by omega)];rfl
   rw [hf,ej]
  ·have hf:(List.range (rn mask (lp mask h m).1 + 1)).find? (fun k=>(owner.getD ((lp mask h m).1 + k) (some 0)).isNone)=none:=by
    rw [List.find?_eq_none]
    intro k hk'
    rw [occ k (by have:=List.mem_range.mp hk';omega) (by have:=List.mem_range.mp hk';omega)]
    simp
   rw [hf]
   exact qAI O hk hkm hb F (m + 1) (by rw [lpN];omega) (by rw [show m + 1 + F=m + (F + 1) by omega];exact h2)
theorem qEw {mask:Nat} {h:Int} (n:Nat):(sq mask h n).j≤mask:=by
 have:∀ n,(sq mask h n).j + (sq mask h n).more≤mask∧(sq mask h n).i≤mask:=by
  intro n
  have key:∀ i,i≤mask->i + (SetTable.runEnd mask i - i)≤mask:=fun i hi=>by
   unfold SetTable.runEnd
   split <;> omega
  induction n with
  |zero =>
   have hi:SetTable.bits h % (mask + 1)≤mask:=Nat.le_of_lt_succ (Nat.mod_lt _ (Nat.succ_pos _))
   exact ⟨key _ hi,hi⟩
  |succ n ih =>
   rw [sq];unfold Jj
   split
   ·rename_i hm
    exact ⟨by show (sq mask h n).j + 1 + ((sq mask h n).more - 1)≤mask;omega,ih.2⟩
   ·have hi:(SetTable.leap mask (sq mask h n).i (sq mask h n).perturb).1≤mask:=Nat.le_of_lt_succ (Nat.mod_lt _ (Nat.succ_pos _))
    exact ⟨key _ hi,hi⟩
 have:=(this n).1
 omega
theorem Ow.step {mask:Nat} {owner:Array (Option Nat)} {hs:List Int} {js:List Nat} (O:Ow mask owner hs js) (C:Cyc mask) (hl:hs.length≤mask) (h:Int):∃ j,SetTable.layClean.free mask owner (SetTable.turns mask) (SetTable.bits h % (mask + 1)) (SetTable.bits h)=some j∧Ow mask (owner.setIfInBounds j (some hs.length)) (hs++[h]) (js++[j]):=by
 obtain ⟨e,he,hq⟩:=JS (mask + 1) js (by rw [O.len];omega)
 obtain ⟨m,hm,q⟩:=qCO (h:=h) C (show e≤mask by omega)
 obtain ⟨k0,k1,k2,k3⟩:=jY (P:=fun k=>(sq mask h k).j ∉ js) (fun _=>inferInstance) (n:=lpN mask h m) (by rw [qAa,q];exact hq)
 have hb:∀ m,m < k0->(sq mask h m).j∈js:=fun m hm=>Decidable.not_not.mp (k3 m hm)
 have hj:=qEw (mask:=mask) (h:=h) k0
 refine ⟨_,qAI O k2 hj hb (SetTable.turns mask) 0 (Nat.zero_le _) ?_,?_⟩
 ·rw [Nat.zero_add]
  refine Nat.lt_of_le_of_lt k1 (qFy ?_)
  unfold SetTable.turns;omega
 ·have hmem:∀ x,x∈js++[(sq mask h k0).j] ↔ x∈js∨x=(sq mask h k0).j:=fun x=>by simp
  refine ⟨by simp [O.size],by simp [O.len],fun j k => ?_,fun k h' j h1 h2 => ?_,fun j hj' => ?_⟩
  ·rw [Array.getElem?_setIfInBounds]
   by_cases hjj:(sq mask h k0).j=j
   ·rw [if_pos hjj,if_pos (by rw [O.size];omega)]
    constructor
    ·intro z
     cases z
     rw [List.getElem?_append_right (by rw [O.len];exact Nat.le_refl _),O.len,Nat.sub_self]
     simp [hjj]
    ·intro z
     by_cases hkl:k < js.length
     ·rw [List.getElem?_append_left hkl] at z
      exact absurd (by rw [hjj];exact List.mem_of_getElem? z) k2
     ·rw [List.getElem?_append_right (by omega)] at z
      have:k - js.length=0:=by
       have:=(List.getElem?_eq_some_iff.mp z).1
       simp at this;omega
      rw [show k=hs.length by have:=O.len;omega]
   ·rw [if_neg hjj,O.iff]
    constructor
    ·intro z
     rw [List.getElem?_append_left (List.getElem?_eq_some_iff.mp z).1];exact z
    ·intro z
     by_cases hkl:k < js.length
     ·rwa [List.getElem?_append_left hkl] at z
     ·rw [List.getElem?_append_right (by omega)] at z
      have h0:=(List.getElem?_eq_some_iff.mp z).1
      have:k - js.length=0:=by simp at h0;omega
      rw [this] at z
      simp at z
      exact absurd z hjj
  ·by_cases hkl:k < js.length
   ·rw [List.getElem?_append_left hkl] at h2
    rw [List.getElem?_append_left (by rw [← O.len];exact hkl)] at h1
    obtain ⟨m,a,b⟩:=O.way k h' j h1 h2
    exact ⟨m,a,fun m' hm'=>(hmem _).mpr (.inl (b m' hm'))⟩
   ·rw [List.getElem?_append_right (by omega)] at h2
    rw [List.getElem?_append_right (by have:=O.len;omega)] at h1
    have h0:=(List.getElem?_eq_some_iff.mp h2).1
    have z:k - js.length=0:=by simp at h0;omega
    rw [← O.len,z] at h1
    rw [z] at h2
    simp at h1 h2
    subst h1;subst h2
    exact ⟨k0,rfl,fun m' hm'=>(hmem _).mpr (.inl (hb m' hm'))⟩
  ·rcases (hmem j).mp hj' with q |q
   ·exact O.le j q
   ·rw [q];exact hj
theorem jZ {mask:Nat} (C:Cyc mask):∀ (r hs:List Int) (owner:Array (Option Nat)) (js:List Nat),Ow mask owner hs js->hs.length + r.length≤mask + 1 ->
  ∃ owner' js',r.foldl (fun acc h=>do
   let (owner,k) ← acc
   let j ← SetTable.layClean.free mask owner (SetTable.turns mask) (SetTable.bits h % (mask + 1)) (SetTable.bits h)
   pure (owner.setIfInBounds j (some k),k + 1)) (some (owner,hs.length))=some (owner',(hs++r).length)∧Ow mask owner' (hs++r) js'
 |[],hs,owner,js,O,_=>⟨owner,js,by simp,by simpa using O⟩
 |h::r,hs,owner,js,O,hl=>by
  rw [List.length_cons] at hl
  obtain ⟨j,e,O'⟩:=O.step C (by omega) h
  obtain ⟨ow,js',e2,O2⟩:=jZ C r (hs++[h]) _ _ O' (by rw [List.length_append,List.length_singleton];omega)
  refine ⟨ow,js',?_,by simpa using O2⟩
  rw [List.foldl_cons]
  have:(do
   let (owner,k) ← some (owner,hs.length)
   let j ← SetTable.layClean.free mask owner (SetTable.turns mask) (SetTable.bits h % (mask + 1)) (SetTable.bits h)
   pure (owner.setIfInBounds j (some k),k + 1))=some (owner.setIfInBounds j (some hs.length),hs.length + 1):=by
   show (do
    let j ← SetTable.layClean.free mask owner (SetTable.turns mask) (SetTable.bits h % (mask + 1)) (SetTable.bits h)
    pure (owner.setIfInBounds j (some hs.length),hs.length + 1))=_
   rw [e];rfl
  rw [this]
  simpa using e2
theorem qC6 {mask:Nat} (C:Cyc mask) (hashes:Array Int) (hl:hashes.size≤mask + 1):∃ owner js,SetTable.layClean mask hashes=some owner∧Ow mask owner hashes.toList js:=by
 obtain ⟨owner,js,e,O⟩:=jZ C hashes.toList [] (Array.replicate (mask + 1) none) [] ⟨by simp,rfl,fun j k=>by
  constructor
  ·intro z
   rw [Array.getElem?_replicate] at z
   split at z <;> simp at z
  ·intro z;simp at z,fun k h j h1 h2=>by simp at h1,fun j h=>by simp at h⟩ (by simpa using hl)
 refine ⟨owner,js,?_,by simpa using O⟩
 unfold SetTable.layClean
 rw [← Array.foldl_toList]
 have e':=e
 simp only [List.nil_append] at e'
 have h0:(some (Array.replicate (mask + 1) none,([]:List Int).length):Option (Array (Option Nat)×Nat))=some (Array.replicate (mask + 1) none,0):=rfl
 rw [h0] at e'
 rw [e']
 rfl
theorem zJ {α:Type} [DecidableEq α]:∀ {l m:List α},l.Nodup->m.Nodup->(∀ x,x∈l ↔ x∈m)->l.Perm m
 |[],m,_,_,h=>by
  cases m with
  |nil=>exact .refl _
  |cons y m=>exact absurd ((h y).mpr List.mem_cons_self) (by simp)
 |x::l,m,h1,h2,h=>by
  have hx:=(h x).mp List.mem_cons_self
  refine List.Perm.trans ?_ (List.perm_cons_erase hx).symm
  refine List.Perm.cons x (zJ (List.nodup_cons.mp h1).2 (h2.erase x) fun y => ?_)
  rw [h2.mem_erase_iff]
  constructor
  ·intro hy
   exact ⟨fun z=>(List.nodup_cons.mp h1).1 (by rw [← z];exact hy),(h y).mp (List.mem_cons_of_mem _ hy)⟩
  ·rintro ⟨a,b⟩
   rcases List.mem_cons.mp ((h y).mpr b) with q |q
   ·exact absurd q a
   ·exact q
theorem qDC {α:Type} (l:List α):(List.range l.length).filterMap (fun i=>l[i]?)=l:=by
 induction l with
 |nil=>rfl
 |cons x l ih =>
  rw [List.length_cons,List.range_succ_eq_map,List.filterMap_cons]
  show x::((List.range l.length).map Nat.succ).filterMap _=_
  rw [List.filterMap_map]
  congr 1
theorem qB8 {α β:Type} {f:α->Option β} {g:α->β}:∀ {l:List α},(∀ x∈l,f x=some (g x))->l.filterMap f=l.map g
 |[],_=>rfl
 |x::l,h=>by rw [List.filterMap_cons,h x List.mem_cons_self,List.map_cons,qB8 fun y hy=>h y (List.mem_cons_of_mem _ hy)]
theorem qES {α:Type} [Inhabited α] {mask finger moves:Nat} {led plain:Bool} (C:Cyc mask) {es:Array (Int×α)} (hl:es.size≤mask):∃ t order,SetTable.laid mask finger moves led plain (es.map (·.1))=some (t,order)∧t.mask=mask∧t.led=led∧t.plain=plain ∧
  (order.filterMap (es[·]?)).toList.Perm es.toList∧TbG t es.size∧Rch t (order.filterMap (es[·]?)).toList:=by
 obtain ⟨owner,js,e,O⟩:=qC6 C (es.map (·.1)) (by simp;omega)
 refine ⟨_,_,by unfold SetTable.laid;rw [e];rfl,rfl,rfl,rfl,?_⟩
 generalize hL:(List.range (mask + 1)).filterMap (fun j=>(owner.getD j none).map (j,·))=L
 have hmem:∀ q,q∈L ↔ js[q.2]? = some q.1:=by
  intro ⟨j,k⟩
  rw [← hL,List.mem_filterMap]
  constructor
  ·rintro ⟨a,ha,hb⟩
   have ha:=List.mem_range.mp ha
   rw [Array.getD_eq_getD_getElem?,Array.getElem?_eq_getElem (by rw [O.size];omega)] at hb
   cases hx:owner[a]'(by rw [O.size];omega) with
   |none=>rw [hx] at hb;simp at hb
   |some k' =>
    rw [hx] at hb
    simp at hb
    obtain ⟨rfl,rfl⟩:=hb
    exact (O.iff _ _).mp (by rw [Array.getElem?_eq_getElem (by rw [O.size];omega),hx])
  ·intro z
   have z':=(O.iff _ _).mpr z
   refine ⟨j,List.mem_range.mpr (by have:=O.le j (List.mem_of_getElem? z);omega),?_⟩
   rw [Array.getD_eq_getD_getElem?,z'];rfl
 have hlen:js.length=es.size:=by rw [O.len];simp
 have hinj:∀ a b j,js[a]? = some j->js[b]? = some j->a=b:=fun a b j h1 h2=>by
  have h1:=(O.iff j a).mpr h1
  have h2:=(O.iff j b).mpr h2
  rw [h1] at h2;cases h2;rfl
 have hpw:L.Pairwise (fun p q=>p.1 < q.1):=by
  rw [← hL,List.pairwise_filterMap]
  refine List.Pairwise.imp ?_ List.pairwise_lt_range
  intro a b hab x hx y hy
  simp only [Option.map_eq_some_iff] at hx hy
  obtain ⟨_,_,rfl⟩:=hx
  obtain ⟨_,_,rfl⟩:=hy
  exact hab
 have hnd:(L.map (·.2)).Nodup:=by
  rw [List.nodup_iff_pairwise_ne,List.pairwise_map]
  refine List.Pairwise.imp_of_mem (R:=fun p q=>p.1 < q.1) ?_ hpw
  intro a b ha hb hab z
  have h1:=(hmem a).mp ha
  have h2:=(hmem b).mp hb
  rw [z,h2] at h1
  have:=Option.some.inj h1
  omega
 have hperm:(L.map (·.2)).Perm (List.range es.size):=by
  refine zJ hnd List.nodup_range fun k => ?_
  rw [List.mem_range,List.mem_map]
  constructor
  ·rintro ⟨q,hq,rfl⟩
   have:=(List.getElem?_eq_some_iff.mp ((hmem q).mp hq)).1
   omega
  ·intro hk
   have:js[k]? = some (js[k]'(by omega)):=List.getElem?_eq_getElem _
   exact ⟨(js[k]'(by omega),k),(hmem _).mpr this,rfl⟩
 have hLl:L.length=es.size:=by have:=hperm.length_eq;simpa using this
 have hfm:(((L.map (·.2)).toArray.filterMap (es[·]?)).toList)=L.map fun q=>es.toList.getD q.2 (0,default):=by
  rw [List.filterMap_toArray]
  show (L.map (·.2)).filterMap (fun i=>es[i]?)=_
  rw [List.filterMap_map]
  refine qB8 fun q hq => ?_
  have:=(List.getElem?_eq_some_iff.mp ((hmem q).mp hq)).1
  show es[q.2]? = _
  rw [Array.getElem?_eq_getElem (by omega),List.getD_eq_getElem?_getD,Array.getElem?_toList,Array.getElem?_eq_getElem (by omega)]
  rfl
 refine ⟨?_,⟨rfl,by simp [hLl],?_,?_,hl⟩,?_⟩
 ·have h1:((L.map (·.2)).toArray.filterMap (es[·]?)).toList=(L.map (·.2)).filterMap (fun i=>es.toList[i]?):=by
   rw [List.filterMap_toArray]
   simp
  rw [h1]
  refine (hperm.filterMap _).trans ?_
  have:=qDC es.toList
  rw [Array.length_toList] at this
  rw [this]
 ·rw [ris_list]
  show (L.map (·.1)).Pairwise _
  rw [List.pairwise_map];exact hpw
 ·intro j hj
  have hj:j∈L.map (·.1):=hj
  obtain ⟨q,hq,rfl⟩:=List.mem_map.mp hj
  exact O.le _ (List.mem_of_getElem? ((hmem q).mp hq))
 ·intro q hq
  rw [hfm] at hq
  have hq:q∈(L.map (·.1)).zip (L.map fun q=>es.toList.getD q.2 (0,default)):=hq
  rw [List.zip_map,List.mem_map] at hq
  obtain ⟨⟨u,v⟩,huv,rfl⟩:=hq
  have huv':u=v∧u∈L:=by
   have:∀ (l:List (Nat×Nat)) (p:(Nat×Nat)×(Nat×Nat)),p∈l.zip l->p.1=p.2∧p.1∈l:=by
    intro l
    induction l with
    |nil=>intro p hp;simp at hp
    |cons a l ih =>
     intro p hp
     rw [List.zip_cons_cons] at hp
     rcases List.mem_cons.mp hp with z |z
     ·subst z;exact ⟨rfl,List.mem_cons_self⟩
     ·exact ⟨(ih p z).1,List.mem_cons_of_mem _ (ih p z).2⟩
   exact this L _ huv
  obtain ⟨rfl,hu⟩:=huv'
  have hj:=(hmem u).mp hu
  have hlt:=(List.getElem?_eq_some_iff.mp hj).1
  have hh:(es.map (·.1)).toList[u.2]? = some (es.toList.getD u.2 (0,default)).1:=by
   rw [List.getD_eq_getElem?_getD,Array.getElem?_toList,Array.getElem?_toList,Array.getElem?_map,Array.getElem?_eq_getElem (show u.2 < es.size by omega)]
   rfl
  obtain ⟨m,h1,h2⟩:=O.way _ _ _ hh hj
  refine ⟨m,h1,fun m' hm' => ?_⟩
  have:=h2 m' hm'
  obtain ⟨i,hi⟩:=List.getElem?_of_mem this
  show _∈L.map (·.1)
  exact List.mem_map.mpr ⟨((sq mask (es.toList.getD u.2 (0,default)).1 m').j,i),(hmem _).mpr hi,rfl⟩
end ET
end
section
namespace ET
open PySem PySem.Spec PyProof.Rows L2 EX
section
variable {prog:Program} {w:World} {A:Around} {E:Value->Shared->Prop} {s:Shared}
abbrev TK (prog:Program) (w:World) (h:Heap) (ks:List Int) (b:Addr):Prop:=IsTupleKey (intKind prog w) h ks b
abbrev hsT (prog:Program) (w:World) (ks:List Int):Int:=tupleKeyHash (intKind prog w) ks
theorem W0 {ks:List Int} {vs:List Value} (h:ItemsAre (intKind prog w) ks vs):∀ v∈vs,∃ n t,v=Value.int n t:=by
 induction h with
 |nil=>intro v hv;cases hv
 | @cons k v ks vs h1 _ ih =>
  intro u hu
  rcases List.mem_cons.mp hu with q |q
  ·subst q
   cases u with
   |int n t=>exact ⟨n,t,rfl⟩
   |_=>exact Bool.noConfusion (show false=true from h1)
  ·exact ih u q
theorem TK.keep {h h':Heap} {ks:List Int} {b:Addr} (k:TK prog w h ks b) (e:∀ o,h.get? b=some o->h'.get? b=some o):TK prog w h' ks b:=by
 obtain ⟨o,its,n,h1,h2⟩:=k
 exact ⟨o,its,n,e o h1,h2⟩
theorem hbv {ks:List Int} {b:Addr} {Q:Bool->Shared->Prop} (k:TK prog w s.heap ks b) (h:Q true s):wpAny (model prog w) A (hashByValue 8 (.ref b)) Q E s:=by
 have hT:=k.typeIs
 obtain ⟨o,items,n,ho,_,hd,hi⟩:=k
 unfold hashByValue
 refine wpAny_bind (wpAny_specialOf hT F.slot_tuple_hash.lookup ?_)
 dsimp only
 refine wpAny_bind (wpAny_seqItems ho hd ?_)
 show wpAny _ _ (forIn items _ _ >>= _) _ _ s
 refine wpAny_bind ?_
 rw [← Array.forIn_toList]
 refine wpAny_forIn_list _ (fun rest r s'=>r.1=none∧s'=s ∧ ∀ v∈rest,∃ n t,v=Value.int n t) _ ?_ ?_ _ _ ⟨rfl,rfl,W0 hi⟩
 ·rintro v rest r s' ⟨hr,rfl,hall⟩
  obtain ⟨n,t,rfl⟩:=hall v List.mem_cons_self
  refine wpAny_bind (wpAny_of_eq (a:=true) (by rw [hashByValue_scannable 7 (x := .int n t) rfl];rfl) ?_)
  simp only [Bool.not_true,Bool.false_eq_true,if_false]
  exact wpAny_pure ⟨rfl,rfl,fun u hu'=>hall u (List.mem_cons_of_mem _ hu')⟩
 ·rintro ⟨r1,r2⟩ s' ⟨hr,rfl,_⟩
  simp only at hr
  subst hr
  exact wpAny_pure h
theorem oac {ks:List Int} {b:Addr} {Q:Bool->Shared->Prop} (k:TK prog w s.heap ks b) (h:Q false s):wpAny (model prog w) A (ofAClassStatement 8 (.ref b)) Q E s:=by
 have hT:=k.typeIs
 obtain ⟨o,items,n,ho,_,hd,hi⟩:=k
 unfold ofAClassStatement
 refine wpAny_bind (wpAny_typeOf hT ?_)
 dsimp only
 rw [if_pos (by decide)]
 refine wpAny_bind (wpAny_pure ?_)
 rw [if_neg (by decide)]
 refine wpAny_bind (wpAny_seqItems ho hd ?_)
 dsimp only
 refine wpAny_bind ?_
 rw [← Array.forIn_toList]
 refine wpAny_forIn_list _ (fun rest r s'=>r.1=none∧s'=s ∧ ∀ v∈rest,∃ n t,v=Value.int n t) _ ?_ ?_ _ _ ⟨rfl,rfl,W0 hi⟩
 ·rintro v rest r s' ⟨hr,rfl,hall⟩
  obtain ⟨n,t,rfl⟩:=hall v List.mem_cons_self
  refine wpAny_bind (wpAny_of_eq (a:=false) (by unfold ofAClassStatement;rfl) ?_)
  rw [if_neg (by decide)]
  exact wpAny_pure ⟨rfl,rfl,fun u hu'=>hall u (List.mem_cons_of_mem _ hu')⟩
 ·rintro ⟨r1,r2⟩ s' ⟨hr,rfl,_⟩
  simp only at hr
  subst hr
  exact wpAny_pure h
theorem qIS {ks:List Int} {b:Addr} {Q:Bool->Shared->Prop} (k:TK prog w s.heap ks b) (l:List Value) (hl:∀ v∈l,∃ c ks',v = .ref c∧TK prog w s.heap ks' c) (h:Q false s):wpAny (model prog w) A (searchCouldBeSeen (.ref b) l) Q E s:=by
 unfold searchCouldBeSeen
 refine wpAny_bind ?_
 refine wpAny_forIn_list _ (fun rest r s'=>r.1=none∧s'=s ∧ ∀ v∈rest,∃ c ks',v = .ref c∧TK prog w s.heap ks' c) _ ?_ ?_ _ _ ⟨rfl,rfl,hl⟩
 ·rintro v rest r s' ⟨hr,rfl,hall⟩
  obtain ⟨c,ks',rfl,k'⟩:=hall v List.mem_cons_self
  dsimp only
  by_cases hbc:(b==c || (carriedByValue (.ref b)&&carriedByValue (.ref c)))=true
  ·rw [if_pos hbc]
   exact wpAny_pure ⟨rfl,rfl,fun u hu'=>hall u (List.mem_cons_of_mem _ hu')⟩
  ·rw [if_neg hbc]
   refine wpAny_bind (wpAny_eqIsQuiet_tuple k ?_)
   rw [if_neg (by decide)]
   refine wpAny_bind (wpAny_eqIsQuiet_tuple k' ?_)
   rw [if_neg (by decide)]
   refine wpAny_bind (oac k ?_)
   rw [if_neg (by decide)]
   refine wpAny_bind (oac k' ?_)
   rw [if_neg (by decide)]
   exact wpAny_pure ⟨rfl,rfl,fun u hu'=>hall u (List.mem_cons_of_mem _ hu')⟩
 ·rintro ⟨r1,r2⟩ s' ⟨hr,rfl,_⟩
  simp only at hr
  subst hr
  exact wpAny_pure h
inductive EsT (prog:Program) (w:World) (h:Heap):List (Int×Value)->List (List Int)->Prop
 |nil:EsT prog w h [] []
 |cons {ks:List Int} {b:Addr} {l:List (Int×Value)} {kss:List (List Int)}:TK prog w h ks b->EsT prog w h l kss->EsT prog w h ((hsT prog w ks,.ref b)::l) (ks::kss)
theorem EsT.len {h:Heap} {l:List (Int×Value)} {kss:List (List Int)} (e:EsT prog w h l kss):l.length=kss.length:=by
 induction e with
 |nil=>rfl
 |cons _ _ ih=>rw [List.length_cons,List.length_cons,ih]
theorem EsT.keep {h h':Heap} {l:List (Int×Value)} {kss:List (List Int)} (e:EsT prog w h l kss) (k:∀ b ks,TK prog w h ks b->TK prog w h' ks b):EsT prog w h' l kss:=by
 induction e with
 |nil=>exact .nil
 |cons a _ ih=>exact .cons (k _ _ a) ih
theorem EsT.get {h:Heap} {l:List (Int×Value)} {kss:List (List Int)} (e:EsT prog w h l kss):∀ {i:Nat} {x:Int×Value},l[i]? = some x -> ∃ ks b,kss[i]? = some ks∧x=(hsT prog w ks,.ref b)∧TK prog w h ks b:=by
 induction e with
 |nil=>intro i x hx;simp at hx
 | @cons ks b l kss a _ ih =>
  intro i x hx
  cases i with
  |zero=>simp at hx;exact ⟨ks,b,rfl,hx.symm,a⟩
  |succ i=>simp at hx;simpa using ih hx
theorem EsT.get' {h:Heap} {l:List (Int×Value)} {kss:List (List Int)} (e:EsT prog w h l kss):∀ {i:Nat} {ks:List Int},kss[i]? = some ks -> ∃ b,l[i]? = some (hsT prog w ks,.ref b)∧TK prog w h ks b:=by
 induction e with
 |nil=>intro i x hx;simp at hx
 | @cons ks b l kss a _ ih =>
  intro i x hx
  cases i with
  |zero=>simp at hx;subst hx;exact ⟨b,rfl,a⟩
  |succ i=>simp at hx;simpa using ih hx
theorem EsT.perm {h:Heap} {l l':List (Int×Value)} (p:l.Perm l'):∀ {kss:List (List Int)},EsT prog w h l kss -> ∃ kss',kss.Perm kss'∧EsT prog w h l' kss':=by
 induction p with
 |nil=>intro kss e;exact ⟨kss,.refl _,e⟩
 |cons x _ ih =>
  intro kss e
  cases e with
  |cons a e =>
   obtain ⟨k',q,r⟩:=ih e
   exact ⟨_,q.cons _,.cons a r⟩
 |swap x y l =>
  intro kss e
  cases e with
  |cons a e =>
   cases e with
   |cons b e=>exact ⟨_,.swap _ _ _,.cons b (.cons a e)⟩
 |trans _ _ ih1 ih2 =>
  intro kss e
  obtain ⟨k1,q1,r1⟩:=ih1 e
  obtain ⟨k2,q2,r2⟩:=ih2 r1
  exact ⟨k2,q1.trans q2,r2⟩
theorem EsT.mem {h:Heap} {l:List (Int×Value)} {kss:List (List Int)} (e:EsT prog w h l kss):∀ x∈l,∃ ks b,ks∈kss∧x=(hsT prog w ks,.ref b)∧TK prog w h ks b:=by
 intro x hx
 obtain ⟨i,hi⟩:=List.getElem?_of_mem hx
 obtain ⟨ks,b,h1,h2,h3⟩:=e.get hi
 exact ⟨ks,b,List.mem_of_getElem? h1,h2,h3⟩
def Lv (mask n:Nat):Prop:=(mask=7∧n≤4)∨(mask=31∧n≤18)∨(mask=127∧n≤76)∨(mask=511∧n≤306)
theorem Lv.cyc {mask n:Nat} (h:Lv mask n):Cyc mask:=by
 rcases h with ⟨rfl,_⟩ |⟨rfl,_⟩ |⟨rfl,_⟩ |⟨rfl,_⟩
 ·exact qIA
 ·exact qHX
 ·exact qGv
 ·exact qGq
structure TbT (w:World) (t:SetTable) (es:Array (Int×Value)):Prop where
 g:TbG t es.size
 r:Rch t es.toList
 lv:Lv t.mask es.size
 led:t.led = !byT w
 pl:t.plain=true
structure SetT (prog:Program) (w:World) (h:Heap) (a:Addr) (es:Array (Int×Value)) (ep:Nat) (t:SetTable) (kss:List (List Int)):Prop where
 ex:∃ o,h.get? a=some o∧o.ExactSet∧o.data=Data.set es ep t
 el:EsT prog w h es.toList kss
 nd:kss.Nodup
 tb:TbT w t es
theorem Yb {t:SetTable} {n:Nat} (T:TbG t n):t.fits n=true:=by
 unfold SetTable.fits
 rw [Bool.and_eq_true]
 refine ⟨by rw [T.sz];exact beq_self_eq_true _,decide_eq_true ?_⟩
 unfold SetTable.fill
 rw [T.dum,T.sz]
 exact T.room
theorem qDE {t:SetTable} {n:Nat} (h:Lv t.mask n):t.gaveWay=false:=by
 unfold SetTable.gaveWay
 rcases h with ⟨h,_⟩ |⟨h,_⟩ |⟨h,_⟩ |⟨h,_⟩ <;> rw [h] <;> rfl
theorem qBb {a:Addr} {es:Array (Int×Value)} {ep:Nat} {t:SetTable} {kss:List (List Int)} {ks:List Int} {b:Addr} {adding:Bool} {Q:SetFound->Shared->Prop} (hu:A.units < cLine) (S:SetT prog w s.heap a es ep t kss) (k:TK prog w s.heap ks b) {k0:Nat}
  (hk:(sq t.mask (hsT prog w ks) k0).j ∉ t.place.toList) (hb:∀ m,m < k0->(sq t.mask (hsT prog w ks) m).j∈t.place.toList) (hk0:k0 < 10 * SetTable.turns t.mask)
  (h1:ks∈kss -> ∀ oi,(adding=false->oi.isSome=true)->Q (.there oi) s) (h2:ks ∉ kss->Q (.free (sq t.mask (hsT prog w ks) k0).j false) s) :
  ∀ (f m:Nat) (st:Option SetTable.Probe),m≤k0->k0 - m < f->st.getD (t.probeStart (hsT prog w ks))=sq t.mask (hsT prog w ks) m->(∀ y,y < m -> ∀ i,t.place.getD i 0=(sq t.mask (hsT prog w ks) y).j->i < t.place.size->kss[i]? ≠ some ks) ->
   wpAny (model prog w) A (setSearchFrom a (.ref b) (hsT prog w ks) adding f st) Q E s
 |0,m,st,_,hf,_,_=>absurd hf (Nat.not_lt_zero _)
 |f + 1,m,st,hm,hf,hst,hn=>by
  obtain ⟨o,ho,hx,hd⟩:=S.ex
  have hfit:=Yb S.tb.g
  have hsz:t.place.size=es.size:=S.tb.g.sz
  have hkl:es.size=kss.length:=by rw [← S.el.len,Array.length_toList]
  rw [setSearchFrom]
  refine wpAny_bind (wpAny_setState_of ho hd hfit ?_)
  dsimp only
  rw [qDE S.tb.lv]
  simp only [Bool.false_eq_true,if_false]
  rw [hst]
  have hp:=jE S.tb.g (fun i=>(es[i]?.map (·.1)).getD 0) (hsT prog w ks) hk hb (10 * SetTable.turns t.mask) m hm (by omega)
  rcases hp with ⟨hall,e⟩ |⟨x,i,hx1,hx2,hi,hpl,hfi,hall,e⟩
  ·generalize hg:t.probe _ (hsT prog w ks) (sq t.mask (hsT prog w ks) m)=pr
   have e2:=hg.symm.trans e
   subst e2
   dsimp only
   refine wpAny_pure (h2 fun hmem => ?_)
   obtain ⟨i,hi⟩:=List.getElem?_of_mem hmem
   have hil:i < es.size:=by rw [hkl];exact (List.getElem?_eq_some_iff.mp hi).1
   obtain ⟨c,hc,_⟩:=S.el.get' hi
   have hz:(t.place.getD i 0,(hsT prog w ks,Value.ref c))∈t.place.toList.zip es.toList:=by
    refine List.mem_of_getElem? (i:=i) ?_
    rw [List.getElem?_zip_eq_some]
    refine ⟨?_,hc⟩
    rw [Array.getElem?_toList,Array.getElem?_eq_getElem (by omega),Array.getD_eq_getD_getElem?,Array.getElem?_eq_getElem (by omega)]
    rfl
   obtain ⟨y,hy1,hy2⟩:=S.tb.r _ hz
   have hyk:y < k0:=by
    rcases Nat.lt_trichotomy y k0 with q |q |q
    ·exact q
    ·subst q;exact absurd (by rw [hy1];exact mem_getD.mpr ⟨i,by omega,rfl⟩) hk
    ·exact absurd (hy2 k0 q) hk
   by_cases hym:y < m
   ·exact hn y hym i hy1.symm (by omega) hi
   ·refine hall y (by omega) hyk i hy1.symm (by omega) ?_
    show (es[i]?.map (·.1)).getD 0=_
    rw [← Array.getElem?_toList,hc];rfl
  ·generalize hg:t.probe _ (hsT prog w ks) (sq t.mask (hsT prog w ks) m)=pr
   have e2:=hg.symm.trans e
   subst e2
   dsimp only
   have hie:i < es.size:=by omega
   obtain ⟨ks',c,hks',hc,kc⟩:=S.el.get (i:=i) (x:=es[i]) (by rw [Array.getElem?_toList,Array.getElem?_eq_getElem hie])
   have hsl:t.slot (sq t.mask (hsT prog w ks) x).j = .live i:=by rw [← hpl];exact yx S.tb.g.ris hi
   cases hled:t.led
   case' true=>simp only [Bool.not_true,Bool.false_eq_true,if_false]
   case' false =>
    simp only [Bool.not_false,if_true]
    refine wpAny_bind (qIS k _ (fun v hv=>(by
     obtain ⟨e',he',rfl⟩:=List.mem_map.mp hv
     have he':e'∈es.toList:=Array.mem_toList_iff.mpr (Array.mem_filter.mp (Array.mem_toList_iff.mp he')).1
     obtain ⟨ks'',c',_,hh,kk⟩:=S.el.mem _ he'
     exact ⟨c',ks'',by rw [hh],kk⟩)) ?_)
    simp only [Bool.false_eq_true,if_false]
   all_goals
    rw [Array.getElem?_eq_getElem hie,hc]
    dsimp only
    refine wpAny_bind (wpAny_holding (wpAny_eqBool_tuple hu kc k ?_))
    refine wpAny_bind (wpAny_setState_of ho hd hfit ?_)
    dsimp only
    by_cases hq:ks'=ks
    ·subst hq
     rw [decide_eq_true rfl]
     have hmem:ks'∈kss:=List.mem_of_getElem? hks'
     cases adding with
     |true=>exact wpAny_pure (h1 hmem none fun z=>by cases z)
     |false =>
      simp only [Bool.false_and,Bool.false_eq_true,if_false]
      rw [show t.sameMemory t.moves t.mask=some true by unfold SetTable.sameMemory;rw [if_pos (beq_self_eq_true _)]]
      dsimp only
      rw [if_pos rfl,hsl]
      dsimp only
      rw [Array.getElem?_eq_getElem hie,hc]
      dsimp only
      refine wpAny_bind (wpAny_isSame_ref_self (wpAny_bind (wpAny_pure ?_)))
      rw [if_pos rfl]
      dsimp only
      exact wpAny_pure (h1 hmem (some i) fun _=>rfl)
    ·rw [decide_eq_false hq]
     rw [Bool.and_false]
     simp only [Bool.false_eq_true,if_false]
     rw [show t.sameMemory t.moves t.mask=some true by unfold SetTable.sameMemory;rw [if_pos (beq_self_eq_true _)]]
     dsimp only
     rw [if_pos rfl,hsl]
     dsimp only
     rw [Array.getElem?_eq_getElem hie,hc]
     dsimp only
     refine wpAny_bind (wpAny_isSame_ref_self (wpAny_bind (wpAny_pure ?_)))
     rw [if_pos rfl]
     dsimp only
     refine qBb hu S k hk hb hk0 h1 h2 f (x + 1) _ (by omega) (by omega) rfl fun y hy j hj hjl => ?_
     by_cases hym:y < m
     ·exact hn y hym j hj hjl
     ·have uniq:t.place.getD j 0=t.place.getD i 0->j=i:=fun e'=>by
       rcases Nat.lt_trichotomy j i with q |q |q
       ·have:=S.tb.g.ris _ _ q hi;omega
       ·exact q
       ·have:=S.tb.g.ris _ _ q hjl;omega
      by_cases hyx:y=x
      ·subst hyx
       rw [uniq (hj.trans hpl.symm),hks']
       intro z;cases z;exact hq rfl
      ·intro z
       refine hall y (by omega) (by omega) j hj hjl ?_
       obtain ⟨c',hc',_⟩:=S.el.get' z
       show (es[j]?.map (·.1)).getD 0=_
       rw [← Array.getElem?_toList,hc'];rfl
theorem SetT.first {h:Heap} {a:Addr} {es:Array (Int×Value)} {ep:Nat} {t:SetTable} {kss:List (List Int)} (S:SetT prog w h a es ep t kss) (hs:Int):∃ k,k < 10 * SetTable.turns t.mask∧(sq t.mask hs k).j ∉ t.place.toList ∧ ∀ m,m < k->(sq t.mask hs m).j∈t.place.toList:=S.tb.g.first S.tb.lv.cyc hs
theorem j8 {mask n:Nat} (h:Lv mask n):10 * SetTable.turns mask < 100000:=by
 unfold SetTable.turns
 rcases h with ⟨h,_⟩ |⟨h,_⟩ |⟨h,_⟩ |⟨h,_⟩ <;> omega
theorem qEF {a:Addr} {es:Array (Int×Value)} {ep:Nat} {t:SetTable} {kss:List (List Int)} {ks:List Int} {b:Addr} {adding:Bool} {Q:SetFound->Shared->Prop} (hu:A.units < cLine) (S:SetT prog w s.heap a es ep t kss) (k:TK prog w s.heap ks b)
  (h1:ks∈kss -> ∀ oi,(adding=false->oi.isSome=true)->Q (.there oi) s)
  (h2:ks ∉ kss -> ∀ k0,(sq t.mask (hsT prog w ks) k0).j ∉ t.place.toList->(∀ m,m < k0->(sq t.mask (hsT prog w ks) m).j∈t.place.toList)->Q (.free (sq t.mask (hsT prog w ks) k0).j false) s) :
  wpAny (model prog w) A (setSearch a (.ref b) (hsT prog w ks) adding) Q E s:=by
 obtain ⟨k0,hk0,hk,hb⟩:=S.first (hsT prog w ks)
 have:=j8 S.tb.lv
 exact qBb hu S k hk hb hk0 h1 (fun q=>h2 q k0 hk hb) 100000 0 none (Nat.zero_le _) (by omega) rfl fun y hy=>absurd hy (Nat.not_lt_zero _)
theorem qDk {mask n:Nat} (h:Lv mask n) (hn:n + 1≤300) (hf:¬ (n + 1) * 5 ≥ mask * 3):Lv mask (n + 1):=by
 rcases h with ⟨rfl,h⟩ |⟨rfl,h⟩ |⟨rfl,h⟩ |⟨rfl,h⟩
 ·exact .inl ⟨rfl,by omega⟩
 ·exact .inr (.inl ⟨rfl,by omega⟩)
 ·exact .inr (.inr (.inl ⟨rfl,by omega⟩))
 ·exact .inr (.inr (.inr ⟨rfl,by omega⟩))
theorem qDq {mask n:Nat} (h:Lv mask n) (hn:n + 1≤300) (hf:(n + 1) * 5 ≥ mask * 3):Lv (SetTable.sizeAbove (SetTable.grown (n + 1)) - 1) (n + 1)∧SetTable.sizeAbove (SetTable.grown (n + 1))≤512:=by
 rcases h with ⟨rfl,h⟩ |⟨rfl,h⟩ |⟨rfl,h⟩ |⟨rfl,h⟩
 ·have:n=4:=by omega
  subst this
  exact ⟨.inr (.inl ⟨by decide,by omega⟩),by decide⟩
 ·have:n=18:=by omega
  subst this
  exact ⟨.inr (.inr (.inl ⟨by decide,by omega⟩)),by decide⟩
 ·have:n=76:=by omega
  subst this
  exact ⟨.inr (.inr (.inr ⟨by decide,by omega⟩)),by decide⟩
 ·omega
theorem qAH {mask n:Nat} (h:Lv mask n):n + 1≤mask:=by
 rcases h with ⟨rfl,h⟩ |⟨rfl,h⟩ |⟨rfl,h⟩ |⟨rfl,h⟩ <;> omega
theorem qHt {a:Addr} {es:Array (Int×Value)} {ep:Nat} {t:SetTable} {kss:List (List Int)} {ks:List Int} {b:Addr} {Q:Bool->Shared->Prop} (hu:A.units < cLine) (S:SetT prog w s.heap a es ep t kss) (k:TK prog w s.heap ks b) (hn:kss.length + 1≤300)
  (h:∀ (h':Heap) (es':Array (Int×Value)) (ep':Nat) (t':SetTable) (kss':List (List Int)),Heap.SameBut a s.heap h'->SetT prog w h' a es' ep' t' kss'->kss'.Perm (if ks∈kss then kss else kss++[ks])->(∀ e∈es'.toList,e∈es.toList∨e.2 = .ref b)->Q (decide (ks ∉ kss)) { s with heap:=h' }) :
  wpAny (model prog w) A (setAddHashed a (.ref b) (hsT prog w ks)) Q E s:=by
 obtain ⟨o,ho,hx,hd⟩:=S.ex
 have hfit:=Yb S.tb.g
 have hlen:es.size=kss.length:=by rw [← S.el.len,Array.length_toList]
 unfold setAddHashed
 refine wpAny_holding ?_
 rw [setAddHashedIn.eq_def]
 refine wpAny_bind (wpAny_setState_of ho hd hfit ?_)
 dsimp only
 rw [if_neg (by unfold byScan;exact fun q=>Bool.noConfusion (show false=true from q))]
 refine wpAny_bind (qEF (adding:=true) hu S k (fun q oi _ => ?_) fun q k0 hk hb => ?_)
 ·dsimp only
  refine wpAny_pure ?_
  have:=h s.heap es ep t kss ⟨rfl,fun _ _=>rfl⟩ S (by rw [if_pos q]) (fun e he => .inl he)
  rw [decide_eq_false (not_not_intro q)] at this
  exact this
 ·dsimp only
  refine wpAny_bind (wpAny_setState_of ho hd hfit ?_)
  dsimp only
  have hne:∀ ks' c,TK prog w s.heap ks' c->c≠a:=fun ks' c kc z=>by
   subst z
   obtain ⟨o',_,_,g1,g2,g3,_⟩:=kc
   rw [ho] at g1;cases g1
   rw [hd] at g3;cases g3
  obtain ⟨T1,R1,P1⟩:=JE (x:=Value.ref b) S.tb.g (qAH S.tb.lv) S.tb.r (qEw k0) hk hb
  generalize ht:t.put (sq t.mask (hsT prog w ks) k0).j=tp at T1 R1 P1 ⊢
  obtain ⟨t1,p1⟩:=tp
  dsimp only at T1 R1 P1 ⊢
  have hm1:t1.mask=t.mask:=by have:=congrArg (fun x=>x.1.mask) ht;exact this.symm
  have hl1:t1.led=t.led:=by have:=congrArg (fun x=>x.1.led) ht;exact this.symm
  have hp1:t1.plain=t.plain:=by have:=congrArg (fun x=>x.1.plain) ht;exact this.symm
  rw [if_pos (hp1.trans S.tb.pl)]
  refine wpAny_bind (hbv k ?_)
  rw [if_pos rfl]
  have hsz1:(SetTable.insertAt es p1 (hsT prog w ks,Value.ref b)).size=es.size + 1:=by
   have:=P1.length_eq
   simpa using this
  refine wpAny_bind (wpAny_storeSet_of ho hd ?_ (by rw [hsz1];exact Nat.le_trans (show es.size + 1≤300 by omega) (by decide)))
  obtain ⟨oc,od,odt,osl⟩:=o
  have hd:odt=Data.set es ep t:=hd
  subst hd
  have hu1:(s.heap.update a (Obj.putSet (SetTable.insertAt es p1 (hsT prog w ks,.ref b)) t1)).get? a=some ⟨oc,od,Data.set (SetTable.insertAt es p1 (hsT prog w ks,.ref b)) (ep + 1) t1,osl⟩:=by
   rw [Heap.get?_update_self _ ho rfl]
   rfl
  have hsb:Heap.SameBut a s.heap (s.heap.update a (Obj.putSet (SetTable.insertAt es p1 (hsT prog w ks,.ref b)) t1)):=⟨Heap.size_update ..,fun c hc=>Heap.get?_update_ne _ _ _ _ hc⟩
  generalize s.heap.update a (Obj.putSet (SetTable.insertAt es p1 (hsT prog w ks,.ref b)) t1)=h1 at hu1 hsb ⊢
  have keep:∀ c ks',TK prog w s.heap ks' c->TK prog w h1 ks' c:=fun c ks' kc=>kc.keep fun o' ho'=>(hsb.2 c (hne ks' c kc)).trans ho'
  have E1:EsT prog w h1 ((hsT prog w ks,Value.ref b)::es.toList) (ks::kss) := .cons (keep _ _ k) (S.el.keep keep)
  obtain ⟨kss1,q1,E2⟩:=E1.perm P1.symm
  have nd1:kss1.Nodup:=q1.nodup_iff.mp (List.nodup_cons.mpr ⟨q,S.nd⟩)
  have qp:kss1.Perm (if ks∈kss then kss else kss++[ks]):=by
   rw [if_neg q]
   exact q1.symm.trans (List.perm_append_comm (l₁:=[ks]) (l₂:=kss))
  have hfull:t1.tooFull=decide ((es.size + 1) * 5 ≥ t.mask * 3):=by
   unfold SetTable.tooFull SetTable.fill
   rw [T1.dum,T1.sz,hm1]
   rfl
  rw [hfull]
  have fresh1:∀ e∈(SetTable.insertAt es p1 (hsT prog w ks,Value.ref b)).toList,e∈es.toList∨e.2 = .ref b:=fun e he=>by
   rcases List.mem_cons.mp (P1.mem_iff.mp he) with z |z
   ·exact .inr (by rw [z])
   ·exact .inl z
  have fin:∀ (h2:Heap),(∀ es' ep' t' kss',Heap.SameBut a s.heap h2->SetT prog w h2 a es' ep' t' kss'->kss'.Perm (if ks∈kss then kss else kss++[ks])->(∀ e∈es'.toList,e∈es.toList∨e.2 = .ref b)->Q true { s with heap:=h2 }):=fun h2 es' ep' t' kss' a1 a2 a3 a4=>by
   have:=h h2 es' ep' t' kss' a1 a2 a3 a4
   rw [decide_eq_true q] at this
   exact this
  by_cases hf:(es.size + 1) * 5 ≥ t.mask * 3
  ·rw [decide_eq_true hf]
   simp only [Bool.not_false,Bool.and_self,if_true]
   obtain ⟨L1,L2⟩:=qDq S.tb.lv (by omega) hf
   unfold setRelay
   refine wpAny_bind ?_
   refine wpAny_bind (wpAny_setState_of (s:={ s with heap:=h1 }) hu1 rfl (by rw [hsz1];exact Yb T1) ?_)
   dsimp only
   rw [if_neg (by rw [sizeLine_eq];omega)]
   obtain ⟨t2,order,e2,m2,l2,p2,P2,T2,R2⟩:=qES (finger:=t1.finger) (moves:=t1.movedTo (SetTable.sizeAbove (SetTable.grown (es.size + 1)) - 1)) (led:=t1.led) (plain:=t1.plain) L1.cyc (es:=SetTable.insertAt es p1 (hsT prog w ks,Value.ref b)) (by rw [hsz1];have:=qAH L1;omega)
   have e2:t1.relaid ((SetTable.insertAt es p1 (hsT prog w ks,Value.ref b)).map (·.1)) (SetTable.grown (es.size + 1))=some (t2,order):=e2
   rw [e2]
   have hsz2:(order.filterMap ((SetTable.insertAt es p1 (hsT prog w ks,Value.ref b))[·]?)).size=es.size + 1:=by
    have:=P2.length_eq
    rw [Array.length_toList,Array.length_toList,hsz1] at this
    exact this
   refine wpAny_bind (wpAny_of_eq (a:=(order.filterMap ((SetTable.insertAt es p1 (hsT prog w ks,Value.ref b))[·]?),t2)) ?_ ?_)
   ·show (if ((order.filterMap ((SetTable.insertAt es p1 (hsT prog w ks,Value.ref b))[·]?)).size != (SetTable.insertAt es p1 (hsT prog w ks,Value.ref b)).size)=true then _ else pure _)=pure _
    rw [if_neg (by rw [hsz2,hsz1];simp)]
   ·dsimp only
    refine wpAny_storeSet_of (s:={ s with heap:=h1 }) hu1 rfl ?_ (by rw [hsz2];exact Nat.le_trans (show es.size + 1≤300 by omega) (by decide))
    have hu2:(h1.update a (Obj.putSet (order.filterMap ((SetTable.insertAt es p1 (hsT prog w ks,Value.ref b))[·]?)) t2)).get? a=some ⟨oc,od,Data.set (order.filterMap ((SetTable.insertAt es p1 (hsT prog w ks,Value.ref b))[·]?)) (ep + 1 + 1) t2,osl⟩:=by
     rw [Heap.get?_update_self _ hu1 rfl]
     rfl
    have hsb2:Heap.SameBut a h1 (h1.update a (Obj.putSet (order.filterMap ((SetTable.insertAt es p1 (hsT prog w ks,Value.ref b))[·]?)) t2)):=⟨Heap.size_update ..,fun c hc=>Heap.get?_update_ne _ _ _ _ hc⟩
    refine wpAny_pure ?_
    generalize h1.update a (Obj.putSet (order.filterMap ((SetTable.insertAt es p1 (hsT prog w ks,Value.ref b))[·]?)) t2)=h2 at hu2 hsb2 ⊢
    obtain ⟨kss2,q2,E3⟩:=E2.perm P2.symm
    have E4:EsT prog w h2 (order.filterMap ((SetTable.insertAt es p1 (hsT prog w ks,Value.ref b))[·]?)).toList kss2:=E3.keep fun c ks' kc=>kc.keep fun o' ho'=>(hsb2.2 c (fun z=>by
     subst z
     obtain ⟨o',_,_,g1,g2,g3,_⟩:=kc
     rw [hu1] at g1;cases g1
     cases g3)).trans ho'
    refine fin h2 _ _ _ kss2 ⟨hsb2.1.trans hsb.1,fun c hc=>(hsb2.2 c hc).trans (hsb.2 c hc)⟩ ⟨⟨_,hu2,hx,rfl⟩,E4,q2.nodup_iff.mp nd1,⟨?_,R2,?_,?_,?_⟩⟩ (q2.symm.trans qp) (fun e he=>fresh1 e (P2.mem_iff.mp he))
    ·rw [hsz2,← hsz1];exact T2
    ·rw [hsz2,m2];exact L1
    ·rw [l2,hl1];exact S.tb.led
    ·rw [p2,hp1];exact S.tb.pl
  ·rw [decide_eq_false hf]
   simp only [Bool.not_false,Bool.and_false,Bool.false_eq_true,if_false]
   refine wpAny_pure (fin h1 _ _ _ kss1 hsb ⟨⟨_,hu1,hx,rfl⟩,E2,nd1,⟨?_,R1,?_,?_,?_⟩⟩ qp fresh1)
   ·rw [hsz1];exact T1
   ·rw [hsz1,hm1];exact qDk S.tb.lv (by omega) hf
   ·rw [hl1];exact S.tb.led
   ·rw [hp1];exact S.tb.pl
end
end ET
end
section
namespace ET
open PySem PySem.Spec PyProof.Rows L2 EX PySem.W
section
variable {O:KeyOrd} {key:Nat->O.α} {n:Nat}
def kOk (key:Nat->O.α) (n:Nat) {α:Type}:KasT α->(α->Prop)->Prop
 | .ret a,P=>P a
 | .ask i j k,P=>i < n∧j < n∧kOk key n (k (O.blt (key i) (key j))) P
theorem WX {α β:Type} {f:α->KasT β} {P:β->Prop}:∀ {t:KasT α},kOk key n t (fun a=>kOk key n (f a) P)->kOk key n (t.bind f) P
 | .ret a,h=>h
 | .ask i j k,h=>⟨h.1,h.2.1,WX h.2.2⟩
theorem jc {α:Type} {cmp:Nat->Nat->(Bool->Shared->Prop)->Shared->Prop} {s:Shared} (hc:∀ i j C,i < n->j < n->C (O.blt (key i) (key j)) s->cmp i j C s) {P:α->Prop} {Q:α->Shared->Prop} (hq:∀ a,P a->Q a s):∀ (t:KasT α),kOk key n t P->t.kasWp cmp Q s
 | .ret a,h=>hq a h
 | .ask i j k,h=>hc i j _ h.1 h.2.1 (jc hc hq _ h.2.2)
structure PB (n:Nat) (p:Array Nat):Prop where
 perm:p.Perm (List.range n).toArray
theorem PB.size {p:Array Nat} (h:PB n p):p.size=n:=by
 have:=h.perm.size_eq;simpa using this
theorem PB.lt {p:Array Nat} (h:PB n p) {k:Nat} (hk:k < n):p.getD k 0 < n:=by
 have hs:=h.size
 rw [Array.getD_eq_getD_getElem?,Array.getElem?_eq_getElem (by omega)]
 have:p[k]∈(List.range n).toArray.toList:=(Array.perm_iff_toList_perm.mp h.perm).mem_iff.mp (by simp)
 simpa using this
def kq (key:Nat->O.α) (p:Array Nat) (k:Nat):O.α:=key (p.getD k 0)
def Srt (key:Nat->O.α) (p:Array Nat) (k:Nat):Prop := ∀ i j,i≤j->j < k->O.kle (kq key p i) (kq key p j)
def Nin (key:Nat->O.α) (p:Array Nat) (k:Nat):Prop := ∀ i j,i≤j->j < k->O.kle (kq key p j) (kq key p i)
theorem ZB {p:Array Nat} {i j:Nat} (hj:j≤p.size) (k:Nat):kq key (kas_rev p i j) k=if i≤k∧k < j then kq key p (i + j - 1 - k) else kq key p k:=by
 have e:=getElem?_mirror_all (i:=i) hj k
 unfold kq kas_rev
 rw [Array.getD_eq_getD_getElem?,e]
 split
 ·rw [Array.getD_eq_getD_getElem?]
 ·rw [Array.getD_eq_getD_getElem?]
theorem wN {p:Array Nat} {i j:Nat} (hj:j≤p.size) (heq:∀ k,i≤k->k < j->kq key p k=kq key p (j - 1)) (k:Nat):kq key (kas_rev p i j) k=kq key p k:=by
 rw [ZB hj]
 split
 ·rw [heq _ (by omega) (by omega),heq k (by omega) (by omega)]
 ·rfl
theorem ya {p:Array Nat} {src d:Nat} (hs:src < p.size) (hd:d≤src) (k:Nat):kq key (bubble p src d) k=if k=src - d then kq key p src else if src - d < k∧k≤src then kq key p (k - 1) else kq key p k:=by
 have e:=getElem?_bubble hs d hd k
 unfold kq
 rw [Array.getD_eq_getD_getElem?,Array.getD_eq_getD_getElem?,Array.getD_eq_getD_getElem?,Array.getD_eq_getD_getElem?,e]
 split
 ·rfl
 ·split <;> rfl
theorem PB.rev {p:Array Nat} (h:PB n p) (i j:Nat):PB n (kas_rev p i j):=⟨(mirror_perm _ _ _ _).trans h.perm⟩
theorem JN {p:Array Nat} (B:PB n p) {nrem:Nat} (hn:nrem≤n) {P:Nat->Prop} (h:∀ m,1≤m->m≤nrem->Srt key p m->(m=nrem∨O.klt (kq key p m) (kq key p (m - 1)))->P m):∀ (f a:Nat),1≤a->a + f=nrem->Srt key p a->kOk key n (kas_asc p f a) P
 |0,a,h1,h2,hs=>h a h1 (by omega) hs (.inl (by omega))
 |f + 1,a,h1,h2,hs=>by
  refine ⟨B.lt (by omega),B.lt (by omega),?_⟩
  show kOk key n (if O.blt (kq key p a) (kq key p (a - 1))=true then .ret a else kas_asc p f (a + 1)) P
  cases hl:O.blt (kq key p a) (kq key p (a - 1)) with
  |true=>rw [if_pos rfl];exact h a h1 (by omega) hs (.inr hl)
  |false =>
   rw [if_neg (by simp)]
   refine JN B hn h f (a + 1) (by omega) (by omega) fun i j hij hj => ?_
   by_cases hja:j < a
   ·exact hs i j hij hja
   ·have:j=a:=by omega
    subst this
    by_cases hi':i=j
    ·subst hi';exact KeyOrd.kle_refl _
    ·exact KeyOrd.kle_trans (hs i (j - 1) (by omega) (by omega)) hl
theorem jb {p:Array Nat} (B:PB n p) {nrem m:Nat} (hn:nrem≤n) (h1:1≤m) (hm:m≤nrem) (hs:Nin key p m) {P:Nat×Array Nat->Prop} (h:∀ m' p',PB n p'->1≤m'->m'≤nrem->Srt key p' m'->P (m',p')):kOk key n (kas_tail3 m nrem p) P:=by
 unfold kas_tail3
 have hsz:m≤p.size:=by rw [B.size];omega
 refine WX (JN (B.rev 0 m) hn (fun m' a b c _=>h m' _ (B.rev 0 m) a b c) _ _ h1 (by omega) fun i j hij hj => ?_)
 rw [ZB hsz,ZB hsz,if_pos (by omega),if_pos (by omega)]
 exact hs _ _ (by omega) (by omega)
theorem Zc {nrem:Nat} (hn:nrem≤n) {P:Array Nat×Nat×Nat->Prop}
  (h:∀ m neq p',PB n p'->1≤m->m≤nrem->Nin key p' m->neq + 1≤m->(∀ i,m - (neq + 1)≤i->i < m->kq key p' i=kq key p' (m - 1))->P (p',m,neq)) :
  ∀ (f:Nat) (p:Array Nat) (x neq:Nat),PB n p->1≤x->x + f=nrem->Nin key p x->neq + 1≤x->(∀ i,x - (neq + 1)≤i->i < x->kq key p i=kq key p (x - 1))->kOk key n (kas_desc f p x neq) P
 |0,p,x,neq,B,h1,h2,hs,hq,he=>h x neq p B h1 (by omega) hs hq he
 |f + 1,p,x,neq,B,h1,h2,hs,hq,he=>by
  have hsz:x≤p.size:=by rw [B.size];omega
  refine ⟨B.lt (by omega),B.lt (by omega),?_⟩
  show kOk key n (if O.blt (kq key p x) (kq key p (x - 1))=true then (if neq > 0 then kas_desc f (kas_rev p (x - (neq + 1)) x) (x + 1) 0 else kas_desc f p (x + 1) 0) else .ask (p.getD (x - 1) 0) (p.getD x 0) fun d=>if d=true then .ret (p,x,neq) else kas_desc f p (x + 1) (neq + 1)) P
  cases hl:O.blt (kq key p x) (kq key p (x - 1)) with
  |true =>
   rw [if_pos rfl]
   have step1:∀ p':Array Nat,(∀ k,kq key p' k=kq key p k)->Nin key p' (x + 1):=by
    intro p' hk i j hij hj
    rw [hk,hk]
    by_cases hjx:j < x
    ·exact hs i j hij hjx
    ·have hj':j=x:=by omega
     subst hj'
     by_cases hi':i=j
     ·subst hi';exact KeyOrd.kle_refl _
     ·exact KeyOrd.kle_trans (KeyOrd.kle_of_klt hl) (hs i (j - 1) (by omega) (by omega))
   by_cases hneq:neq > 0
   ·rw [if_pos hneq]
    exact Zc hn h f _ _ _ (B.rev _ _) (by omega) (by omega) (step1 _ (wN hsz he)) (by omega) fun i h1 h2=>by congr 1;omega
   ·rw [if_neg hneq]
    exact Zc hn h f _ _ _ B (by omega) (by omega) (step1 _ fun _=>rfl) (by omega) fun i h1 h2=>by congr 1;omega
  |false =>
   rw [if_neg (by simp)]
   refine ⟨B.lt (by omega),B.lt (by omega),?_⟩
   show kOk key n (if O.blt (kq key p (x - 1)) (kq key p x)=true then .ret (p,x,neq) else kas_desc f p (x + 1) (neq + 1)) P
   cases hg:O.blt (kq key p (x - 1)) (kq key p x) with
   |true=>rw [if_pos rfl];exact h x neq p B h1 (by omega) hs hq he
   |false =>
    rw [if_neg (by simp)]
    have heqx:kq key p x=kq key p (x - 1):=KeyOrd.kle_antisymm hg hl
    refine Zc hn h f _ _ _ B (by omega) (by omega) (fun i j hij hj => ?_) (by omega) fun i h1 h2 => ?_
    ·by_cases hjx:j < x
     ·exact hs i j hij hjx
     ·have hj':j=x:=by omega
      subst hj'
      by_cases hi':i=j
      ·subst hi';exact KeyOrd.kle_refl _
      ·rw [heqx];exact hs i (j - 1) (by omega) (by omega)
    ·rw [show x + 1 - 1=x by omega]
     by_cases hix:i=x
     ·subst hix;rfl
     ·rw [heqx];exact he i (by omega) (by omega)
theorem ZF {p:Array Nat} (B:PB n p) {nrem m:Nat} (hn:nrem≤n) (hm:m + 1≤nrem) (hs:Nin key p (m + 1)) {P:Nat×Array Nat->Prop} (h:∀ m' p',PB n p'->1≤m'->m'≤nrem->Srt key p' m'->P (m',p')):kOk key n (kas_descPart m nrem p) P:=by
 unfold kas_descPart
 refine WX (Zc hn (fun m' neq p' B' a1 a2 hs' hq he => ?_) _ _ _ _ B (by omega) (by omega) hs (by omega) fun i h1 h2=>by congr 1;omega)
 dsimp only
 have hsz:m'≤p'.size:=by rw [B'.size];omega
 by_cases hneq:neq > 0
 ·rw [if_pos hneq]
  refine jb (B'.rev _ _) hn a1 a2 (fun i j hij hj => ?_) h
  rw [wN hsz he,wN hsz he]
  exact hs' i j hij hj
 ·rw [if_neg hneq]
  exact jb B' hn a1 a2 hs' h
theorem qBa {p:Array Nat} (B:PB n p) (h1:1≤n) {P:Nat×Array Nat->Prop} (h:∀ m' p',PB n p'->1≤m'->m'≤n->Srt key p' m'->P (m',p')):kOk key n (kas_count n p) P:=by
 unfold kas_count
 refine WX (JN B (Nat.le_refl n) (fun m hm1 hm2 hsn hor => ?_) _ _ (Nat.le_refl 1) (by omega) fun i j hij hj=>by have:i=j:=(by omega);subst this;exact KeyOrd.kle_refl _)
 by_cases hnn:m=n
 ·rw [if_pos (by simpa using hnn)]
  exact h m p B hm1 hm2 hsn
 ·rw [if_neg (by simpa using hnn)]
  have hlt:O.klt (kq key p m) (kq key p (m - 1)):=hor.resolve_left hnn
  have hsz:m≤p.size:=by rw [B.size];omega
  by_cases hgt:m > 1
  ·rw [if_pos hgt]
   refine ⟨B.lt (by omega),B.lt (by omega),?_⟩
   show kOk key n (if O.blt (kq key p 0) (kq key p (m - 1))=true then .ret (m,p) else kas_descPart m n (kas_rev p 0 m)) P
   cases hrose:O.blt (kq key p 0) (kq key p (m - 1)) with
   |true=>rw [if_pos rfl];exact h m p B hm1 hm2 hsn
   |false =>
    rw [if_neg (by simp)]
    have hall:∀ k,0≤k->k < m->kq key p k=kq key p (m - 1):=by
     intro k _ hk
     have a1:=hsn 0 k (by omega) hk
     have a2:=hsn k (m - 1) (by omega) (by omega)
     exact KeyOrd.kle_antisymm a2 (KeyOrd.kle_trans hrose a1)
    refine ZF (B.rev _ _) (Nat.le_refl n) (by omega) (fun i j hij hj => ?_) h
    rw [wN hsz hall,wN hsz hall]
    by_cases hjn:j < m
    ·rw [hall i (by omega) (by omega),hall j (by omega) hjn];exact KeyOrd.kle_refl _
    ·have hj':j=m:=by omega
     subst hj'
     by_cases hi':i=j
     ·subst hi';exact KeyOrd.kle_refl _
     ·rw [hall i (by omega) (by omega)];exact KeyOrd.kle_of_klt hlt
  ·rw [if_neg hgt]
   have hn1':m=1:=by omega
   subst hn1'
   refine ZF B (Nat.le_refl n) (by omega) (fun i j hij hj => ?_) h
   by_cases hi':i=j
   ·subst hi';exact KeyOrd.kle_refl _
   ·have hi0:i=0:=by omega
    have hj1:j=1:=by omega
    subst hi0;subst hj1
    exact KeyOrd.kle_of_klt hlt
theorem Z4 {p:Array Nat} (B:PB n p) {k:Nat} (hk:k < n) (hs:Srt key p k) {P:Nat->Prop} (h:∀ l,l≤k->(∀ i,i < l->O.kle (kq key p i) (kq key p k))->(∀ i,l≤i->i < k->O.klt (kq key p k) (kq key p i))->P l) :
  ∀ (f l r:Nat),l≤r->r≤k->r - l≤f->(∀ i,i < l->O.kle (kq key p i) (kq key p k))->(∀ i,r≤i->i < k->O.klt (kq key p k) (kq key p i))->kOk key n (kas_place p k f l r) P
 |0,l,r,h1,h2,h3,h4,h5=>by
  have:l=r:=by omega
  subst this
  exact h l h2 h4 h5
 |f + 1,l,r,h1,h2,h3,h4,h5=>by
  unfold kas_place
  by_cases hge:l ≥ r
  ·rw [if_pos hge]
   have:l=r:=by omega
   subst this
   exact h l h2 h4 h5
  ·rw [if_neg hge]
   refine ⟨B.lt hk,B.lt (by omega),?_⟩
   show kOk key n (if O.blt (kq key p k) (kq key p ((l + r) / 2))=true then kas_place p k f l ((l + r) / 2) else kas_place p k f ((l + r) / 2 + 1) r) P
   cases hless:O.blt (kq key p k) (kq key p ((l + r) / 2)) with
   |true =>
    rw [if_pos rfl]
    exact Z4 B hk hs h f _ _ (by omega) (by omega) (by omega) h4 fun i a b=>KeyOrd.klt_of_klt_of_kle hless (hs _ _ a b)
   |false =>
    rw [if_neg (by simp)]
    exact Z4 B hk hs h f _ _ (by omega) (by omega) (by omega) (fun i a=>KeyOrd.kle_trans (hs i ((l + r) / 2) (by omega) (by omega)) (show O.kle _ _ from hless)) h5
theorem qt {P:Array Nat->Prop} (h:∀ p,PB n p->Srt key p n->P p):∀ (f:Nat) (p:Array Nat) (k:Nat),PB n p->k + f=n->Srt key p k->kOk key n (kas_bin f p k) P
 |0,p,k,B,h1,hs=>h p B (by
  have:k=n:=by omega
  subst this;exact hs)
 |f + 1,p,k,B,h1,hs=>by
  unfold kas_bin
  refine WX (Z4 B (by omega) hs (fun l hlk hlo hhi => ?_) k 0 k (by omega) (Nat.le_refl _) (by omega) (fun i hi=>absurd hi (Nat.not_lt_zero _)) fun i a b=>absurd b (by omega))
  refine qt h f _ (k + 1) ⟨(bubble_perm _ _ _).trans B.perm⟩ (by omega) fun i j hij hj => ?_
  have hks:k < p.size:=by rw [B.size];omega
  rw [ya hks (by omega),ya hks (by omega),show k - (k - l)=l by omega]
  repeat' split
  all_goals first
   |(exfalso;omega)
   |exact KeyOrd.kle_refl _
   |exact hlo _ (by omega)
   |exact KeyOrd.kle_of_klt (hhi _ (by omega) (by omega))
   |exact hs _ _ (by omega) (by omega)
theorem qEX (h1:1≤n):kOk key n (kas_sort n) fun p=>PB n p∧Srt key p n:=by
 unfold kas_sort
 refine WX (qBa ⟨Array.Perm.refl _⟩ h1 fun m p B a b hs => ?_)
 dsimp only
 by_cases hlt:m < n
 ·rw [if_pos hlt,show max m 1=m by omega]
  exact qt (fun p B hs=>⟨B,hs⟩) _ _ _ B (by omega) hs
 ·rw [if_neg hlt]
  have:m=n:=by omega
  subst this
  exact ⟨B,hs⟩
end
section
variable {prog:Program} {w:World} {A:Around} {E:Value->Shared->Prop} {s:Shared} {O:KeyOrd}
theorem qBY {vs:List Value} (hsz:vs.toArray.size=vs.length) (h2:vs.toArray.size < 2):List.toArray ((List.range vs.length).toArray.toList.map fun i=>vs.getD i Value.none)=(vs.toArray.zip vs.toArray).map (·.2):=by
 match vs,hsz,h2 with
 |[],_,_=>simp
 |[v],_,_=>simp
 |v₁::v₂::rest,hsz,h2=>rw [hsz,List.length_cons,List.length_cons] at h2;omega
theorem qDm {a:Addr} {vs:List Value} {n:Nat} {P:PySem.Fin->Shared->Prop} {key:Nat->O.α} {κ:SortKind} (ho:s.heap.get? a=some (seqObj "list" vs.toArray n)) (h64:vs.length < 64)
  (hk:2≤vs.length -> ∀ (h6:Heap) (Q:SortKind->Shared->Prop),(∀ b o,b≠a->s.heap.get? b=some o->h6.get? b=some o)->Q κ { s with heap:=h6 }->wpAny (model prog w) A (keyKind' vs.toArray) Q E { s with heap:=h6 })
  (hc:∀ (h6:Heap) (i j:Nat) (C:Bool->Shared->Prop),(∀ b o,b≠a->s.heap.get? b=some o->h6.get? b=some o)->i < vs.length->j < vs.length->C (O.blt (key i) (key j)) { s with heap:=h6 }->wpAny (model prog w) A (keyLt' κ (vs.getD i Value.none) (vs.getD j Value.none)) C (fun _ _=>False) { s with heap:=h6 })
  (h:∀ p:Array Nat,PB vs.length p->Srt key p vs.length->P (.done (.ret .none)) { s with heap:=sortedHeap s.heap a vs (List.toArray (p.toList.map fun i=>vs.getD i Value.none)) }) :
  wpAny (model prog w) A (Builtin.«list.sort» ⟨[.ref a],[]⟩) P E s:=by
 rw [list_sort_plain]
 have ha:a < s.heap.objs.size:=Heap.lt_size ho
 refine wpAny_bind (listItems_at ho rfl ?_)
 refine wpAny_bind (listUpdate_at ho rfl ?_)
 obtain ⟨e1,ho1⟩:∃ e1,(s.heap.update a (Obj.mapSeq fun _ => #[])).get? a=some (seqObj "list" #[] e1):=⟨_,get?_update_seq ho (fun _ => #[])⟩
 refine wpAny_bind (seqEpoch_at ho1 rfl ?_)
 refine wpAny_bind (wpAny_newTuple ?_)
 refine wpAny_bind (wpAny_newList ?_)
 refine wpAny_holding ?_
 have ho6:(((s.heap.update a (Obj.mapSeq fun _ => #[])).push (seqObj "tuple" vs.toArray 0)).push (seqObj "list" #[] 0)).get? a=some (seqObj "list" #[] e1):=by
  rw [Heap.get?_push_ne _ _ _ (by rw [size_push',Heap.size_update];exact Nat.ne_of_lt (Nat.lt_succ_of_lt ha)),Heap.get?_push_ne _ _ _ (by rw [Heap.size_update];exact Nat.ne_of_lt ha)]
  exact ho1
 have keep:∀ b o,b≠a->s.heap.get? b=some o->(((s.heap.update a (Obj.mapSeq fun _ => #[])).push (seqObj "tuple" vs.toArray 0)).push (seqObj "list" #[] 0)).get? b=some o:=fun b o hb q =>
  Heap.get?_push_of_some _ (Heap.get?_push_of_some _ ((Heap.get?_update_other _ _ (Ne.symm hb)).trans q))
 show wpAny (model prog w) A _ P E { s with heap:=((s.heap.update a (Obj.mapSeq fun _ => #[])).push (seqObj "tuple" vs.toArray 0)).push (seqObj "list" #[] 0) }
 dsimp only
 have hsz:vs.toArray.size=vs.length:=by simp
 by_cases h2:vs.toArray.size < 2
 ·rw [if_pos h2,if_pos h2]
  refine wpAny_bind (wpAny_pure ?_)
  rw [StateT.run_pure]
  refine wpAny_bind (wpAny_pure ?_)
  dsimp only
  refine wpAny_bind (seqEpoch_at ho6 rfl ?_)
  refine wpAny_bind (listUpdate_at ho6 rfl ?_ (hsz2:=by rw [Array.size_map];show (pairsOf vs).size≤_;rw [pairsOf_size,sizeLine_eq];omega))
  simp only [bne_self_eq_false,Bool.false_eq_true,if_false]
  refine wpAny_pure ?_
  have:=h (List.range vs.length).toArray ⟨Array.Perm.refl _⟩ fun i j hij hj=>by
   have:i=j:=by omega
   subst this;exact KeyOrd.kle_refl _
  have e:List.toArray ((List.range vs.length).toArray.toList.map fun i=>vs.getD i Value.none)=(arrOf (SortSt.mk' general' (vs.toArray.zip vs.toArray) #[] 7 none)).map (·.2):=qBY hsz h2
  rw [e] at this
  exact this
 ·rw [if_neg h2,if_neg h2]
  have h2':2≤vs.length:=by omega
  refine wpAny_bind (hk h2' _ _ keep ?_)
  have hw:(kas_sort vs.length).kasWp (kas_ask prog w A κ vs) (fun p s'=>s'={ s with heap:=((s.heap.update a (Obj.mapSeq fun _ => #[])).push (seqObj "tuple" vs.toArray 0)).push (seqObj "list" #[] 0) }∧PB vs.length p∧Srt key p vs.length) { s with heap:=((s.heap.update a (Obj.mapSeq fun _ => #[])).push (seqObj "tuple" vs.toArray 0)).push (seqObj "list" #[] 0) } :=
   jc (O:=O) (key:=key) (n:=vs.length) (fun i j C hi hj hC=>hc _ i j C keep hi hj hC) (P:=fun p=>PB vs.length p∧Srt key p vs.length) (fun p hp=>⟨rfl,hp⟩) _ (qEX (by omega))
  refine wpAny_bind (wpAny_mono (kat_run (Q:=fun st' s' => ∃ p:Array Nat,p.size=vs.length∧arrOf st'=p.map (kas_item (vs.toArray.zip vs.toArray))∧failedOf st'=none∧s'={ s with heap:=((s.heap.update a (Obj.mapSeq fun _ => #[])).push (seqObj "tuple" vs.toArray 0)).push (seqObj "list" #[] 0) }∧PB vs.length p∧Srt key p vs.length)
   rfl h2' h64 (fun p' st' s' a1 a2 a3 a4=>⟨p',a1,a2,a3,a4⟩) hw) ?_ fun _ _ e=>e)
  rintro ⟨⟨⟩,st'⟩ s' ⟨p,hp,har,hf,rfl,B,S⟩
  dsimp only
  have hout:=kat_snds rfl har
  refine wpAny_bind (seqEpoch_at ho6 rfl ?_)
  refine wpAny_bind (listUpdate_at ho6 rfl ?_ (hsz2:=by rw [hout,List.size_toArray,List.length_map,Array.length_toList,hp,sizeLine_eq];omega))
  rw [hf]
  simp only [bne_self_eq_false,Bool.false_eq_true,if_false]
  rw [hout]
  exact wpAny_pure (h p B S)
end
def lxb:List Int->List Int->Bool
 |_,[]=>false
 |[],_::_=>true
 |a::l,b::m=>if a < b then true else if b < a then false else lxb l m
theorem Zb:∀ l,lxb l l=false
 |[]=>rfl
 |a::l=>by rw [lxb,if_neg (Int.lt_irrefl a),if_neg (Int.lt_irrefl a)];exact Zb l
theorem Ji:∀ a b c,lxb a b=true->lxb b c=true->lxb a c=true
 |_,_,[],_,h=>by
  cases ‹List Int› <;> simp [lxb] at h
 |_,[],_::_,h,_=>by simp [lxb] at h
 |[],_::_,_::_,_,_=>rfl
 |x::l,y::m,z::n,h1,h2=>by
  unfold lxb at h1 h2 ⊢
  by_cases hxy:x < y
  ·by_cases hyz:y < z
   ·rw [if_pos (by omega)]
   ·rw [if_neg hyz] at h2
    by_cases hzy:z < y
    ·rw [if_pos hzy] at h2;cases h2
    ·rw [if_pos (by omega)]
  ·rw [if_neg hxy] at h1
   by_cases hyx:y < x
   ·rw [if_pos hyx] at h1;cases h1
   ·rw [if_neg hyx] at h1
    by_cases hyz:y < z
    ·rw [if_pos (by omega)]
    ·rw [if_neg hyz] at h2
     by_cases hzy:z < y
     ·rw [if_pos hzy] at h2;cases h2
     ·rw [if_neg hzy] at h2
      rw [if_neg (by omega),if_neg (by omega)]
      exact Ji l m n h1 h2
theorem ZW:∀ a b,lxb a b=false->lxb b a=false->a=b
 |[],[],_,_=>rfl
 |[],_::_,h,_=>by cases h
 |_::_,[],_,h=>by cases h
 |x::l,y::m,h1,h2=>by
  unfold lxb at h1 h2
  by_cases hxy:x < y
  ·rw [if_pos hxy] at h1;cases h1
  ·by_cases hyx:y < x
   ·rw [if_pos hyx] at h2;cases h2
   ·rw [if_neg hxy,if_neg hyx] at h1
    rw [if_neg hyx,if_neg hxy] at h2
    have:x=y:=by omega
    rw [this,ZW l m h1 h2]
def lxO:KeyOrd where
 α:=List Int
 blt:=lxb
 irrefl:=Zb
 trans:=Ji
 total:=ZW
 negTrans:=fun a b c h=>by
  cases h1:lxb a b with
  |true=>exact .inl rfl
  |false =>
   right
   cases h2:lxb b a with
   |true=>exact Ji b a c h2 h
   |false=>rw [← ZW a b h1 h2];exact h
section
variable {prog:Program} {w:World} {A:Around} {E:Value->Shared->Prop} {s:Shared}
theorem qEh (b:Bool) {x y:Int} {t u:Tok} {Q:Bool->Shared->Prop} (h:Q (decide (x < y)) s):wpAny (model prog w) A (oneLt' b (.int x t) (.int y u)) Q E s:=by
 cases b with
 |true=>exact oneLt_int h
 |false=>exact kat_one _ _ (wpAny_lt_int h)
theorem qFs {b fin:Bool} {Q:Bool->Shared->Prop} {ks:List Int} {vs:List Value} (hx:ItemsAre (intKind prog w) ks vs):∀ {ks':List Int} {us:List Value} (i:Nat),ItemsAre (intKind prog w) ks' us->decide (vs.length < us.length)=fin->Q (lxb ks ks') s->KatLex prog w A b fin Q (vs.zip us) i s:=by
 induction hx with
 |nil =>
  intro ks' us i hy hf h
  refine kat_nil ?_
  cases hy with
  |nil=>rw [← hf];exact h
  |cons _ _=>rw [← hf,List.length_nil,List.length_cons,decide_eq_true (Nat.succ_pos _)];exact h
 | @cons k v ks vs h1 h2 ih =>
  intro ks' us i hy hf h
  cases hy with
  |nil=>refine kat_nil ?_;rw [← hf];exact h
  | @cons k' u ks' us g1 g2 =>
   rw [List.zip_cons_cons]
   refine kat_cons ((intKind prog w).eqBool h1 g1 ?_)
   obtain ⟨n1,t1,rfl⟩:=W0 (.cons h1 h2) v List.mem_cons_self
   obtain ⟨n2,t2,rfl⟩:=W0 (.cons g1 g2) u List.mem_cons_self
   have e1:n1=k:=(intKind prog w).inj _ _ _ (intKind_is prog w n1 t1) h1
   have e2:n2=k':=(intKind prog w).inj _ _ _ (intKind_is prog w n2 t2) g1
   subst e1;subst e2
   unfold lxb at h
   by_cases hq:n1=n2
   ·rw [decide_eq_true hq]
    rw [if_neg (by omega),if_neg (by omega)] at h
    exact kat_yes (ih (i + 1) g2 (by simpa using hf) h)
   ·rw [decide_eq_false hq]
    refine kat_no (qEh _ ?_)
    by_cases hl:n1 < n2
    ·rw [if_pos hl] at h;rw [decide_eq_true hl];exact h
    ·rw [if_neg hl,if_pos (by omega)] at h;rw [decide_eq_false hl];exact h
theorem qHq {b:Bool} {ks ks':List Int} {x y:Addr} {Q:Bool->Shared->Prop} (hx:TK prog w s.heap ks x) (hy:TK prog w s.heap ks' y) (h:Q (lxb ks ks') s):wpAny (model prog w) A (keyLt' (tuples' b) (.ref x) (.ref y)) Q E s:=by
 obtain ⟨ox,xs,n,h1,_,h3,h4⟩:=hx
 obtain ⟨oy,ys,m,g1,_,g3,g4⟩:=hy
 exact kat_lt h1 h3 g1 g3 (qFs h4 0 g4 (by simp) h)
inductive TsV (prog:Program) (w:World) (h:Heap):List Value->List (List Int)->Prop
 |nil:TsV prog w h [] []
 |cons {ks:List Int} {b:Addr} {vs:List Value} {kss:List (List Int)}:TK prog w h ks b->ks≠[]->TsV prog w h vs kss->TsV prog w h (.ref b::vs) (ks::kss)
theorem TsV.len {h:Heap} {vs:List Value} {kss:List (List Int)} (e:TsV prog w h vs kss):vs.length=kss.length:=by
 induction e with
 |nil=>rfl
 |cons _ _ _ ih=>rw [List.length_cons,List.length_cons,ih]
theorem TsV.keep {h h':Heap} {vs:List Value} {kss:List (List Int)} (e:TsV prog w h vs kss) (k:∀ b o,(∃ ks,TK prog w h ks b)->h.get? b=some o->h'.get? b=some o):TsV prog w h' vs kss:=by
 induction e with
 |nil=>exact .nil
 |cons a ne _ ih=>exact .cons (a.keep fun o=>k _ o ⟨_,a⟩) ne ih
theorem TsV.get {h:Heap} {vs:List Value} {kss:List (List Int)} (e:TsV prog w h vs kss):∀ {i:Nat},i < vs.length -> ∃ b,vs.getD i Value.none = .ref b∧TK prog w h (kss.getD i []) b:=by
 induction e with
 |nil=>intro i hi;exact absurd hi (Nat.not_lt_zero _)
 | @cons ks b vs kss a _ _ ih =>
  intro i hi
  cases i with
  |zero=>exact ⟨b,rfl,a⟩
  |succ i=>simpa using ih (i:=i) (by simpa using hi)
theorem TsV.kat {h:Heap} {vs:List Value} {kss:List (List Int)} (e:TsV prog w h vs kss):∃ fs:List Value,KatTups h vs fs∧fs.length=vs.length ∧ ∀ v∈fs,∃ n t,v=Value.int n t:=by
 induction e with
 |nil=>exact ⟨[],KatTups.nil,rfl,fun v hv=>(List.not_mem_nil hv).elim⟩
 | @cons ks b vs kss a ne _ ih =>
  obtain ⟨fs,h1,h2,h3⟩:=ih
  obtain ⟨o,its,n,g1,g2,g3,g4⟩:=a
  have hv:=W0 g4
  cases hq:its.toList with
  |nil =>
   rw [hq] at g4
   cases g4
   exact absurd rfl ne
  |cons f r =>
   have hf:its[0]? = some f:=by rw [← Array.getElem?_toList,hq];rfl
   refine ⟨f::fs,KatTups.cons g1 g2 g3 hf h1,by rw [List.length_cons,List.length_cons,h2],fun v hv' => ?_⟩
   rcases List.mem_cons.mp hv' with q |q
   ·rw [q];exact hv f (by rw [hq];exact List.mem_cons_self)
   ·exact h3 v q
theorem qGY {vs:List Value} {kss:List (List Int)} {Q:SortKind->Shared->Prop} (e:TsV prog w s.heap vs kss) (h2:2≤vs.length) (h:Q (tuples' true) s):wpAny (model prog w) A (keyKind' vs.toArray) Q E s:=by
 obtain ⟨fs,h1,h3,h4⟩:=e.kat
 refine kat_kind (T := .type "int") h1 (by omega) (fun v hv => ?_) (by decide) ?_
 ·obtain ⟨n,t,rfl⟩:=h4 v hv
  exact .now
 ·rw [show (Value.type "int" != Value.type "tuple")=true by decide];exact h
def srt (kss:List (List Int)):List (List Int):=kss.mergeSort fun a b => !lxb b a
theorem Qp (kss:List (List Int)):(srt kss).Perm kss:=List.mergeSort_perm _ _
theorem zl (kss:List (List Int)):(srt kss).Pairwise fun a b=>lxb b a=false:=by
 have:=List.pairwise_mergeSort (le:=fun a b:List Int => !lxb b a) (fun a b c h1 h2=>by
  simp only [Bool.not_eq_eq_eq_not,Bool.not_true] at h1 h2 ⊢
  exact KeyOrd.kle_trans (O:=lxO) h1 h2) (fun a b=>by
  cases h:lxb b a with
  |false=>simp
  |true =>
   have:lxb a b=false:=KeyOrd.kle_of_klt (O:=lxO) (a:=b) (b:=a) h
   simp [this]) kss
 exact this.imp fun h=>by simpa using h
theorem qAh:∀ {l m:List (List Int)},l.Pairwise (fun a b=>lxb b a=false)->m.Pairwise (fun a b=>lxb b a=false)->l.Perm m->l=m
 |[],m,_,_,p=>(List.Perm.eq_nil p.symm).symm
 |x::l,[],_,_,p=>by have:=p.length_eq;simp at this
 |x::l,y::m,hl,hm,p=>by
  have hx:x∈y::m:=p.mem_iff.mp List.mem_cons_self
  have hy:y∈x::l:=p.mem_iff.mpr List.mem_cons_self
  have e:x=y:=by
   have h1:lxb y x=false:=by
    rcases List.mem_cons.mp hy with q |q
    ·rw [q];exact Zb _
    ·exact (List.pairwise_cons.mp hl).1 y q
   have h2:lxb x y=false:=by
    rcases List.mem_cons.mp hx with q |q
    ·rw [q];exact Zb _
    ·exact (List.pairwise_cons.mp hm).1 x q
   exact ZW _ _ h2 h1
  subst e
  rw [qAh (List.pairwise_cons.mp hl).2 (List.pairwise_cons.mp hm).2 (List.Perm.cons_inv p)]
theorem qG3 {h:Heap} {vs:List Value} {kss:List (List Int)} (e:TsV prog w h vs kss) {p:Array Nat} (B:PB vs.length p) (S:Srt (O:=lxO) (fun i=>kss.getD i []) p vs.length):p.toList.map (fun i=>kss.getD i [])=srt kss:=by
 have hsz:=B.size
 refine qAh ?_ (zl kss) ?_
 ·rw [List.pairwise_map,List.pairwise_iff_getElem]
  intro i j hi hj hij
  have:=S i j (by omega) (by rw [Array.length_toList] at hj;omega)
  unfold kq at this
  rw [Array.getD_eq_getD_getElem?,Array.getD_eq_getD_getElem?,Array.getElem?_eq_getElem (by simpa using hi),Array.getElem?_eq_getElem (by simpa using hj)] at this
  exact this
 ·refine ((Array.perm_iff_toList_perm.mp B.perm).map _).trans (.trans ?_ (Qp kss).symm)
  have:(List.range vs.length).map (fun i=>kss.getD i [])=kss:=by
   rw [e.len]
   refine List.ext_getElem (by simp) fun i h1 h2 => ?_
   simp [List.getD_eq_getElem?_getD,List.getElem?_eq_getElem h2]
  show ((List.range vs.length).map fun i=>kss.getD i []).Perm kss
  rw [this]
end
end ET
end
section
namespace ET
open PySem PySem.Spec PyProof.Rows L2
open EX
structure SetW (w:World) (h:Heap) (a:Addr) (es:Array (Int×Value)) (ep:Nat) (t:SetTable):Prop where
 ex:∃ o,h.get? a=some o∧o.ExactSet∧o.data=Data.set es ep t
 T:TbT w t es
 n:es.size≤300
def ItW (w:World) (h:Heap) (it a:Addr) (es:Array (Int×Value)) (ep:Nat) (t:SetTable) (i:Nat):Prop := ∃ (o:Obj) (slot:Nat),h.get? it=some o∧o.cls = .type "set_iterator" ∧ o.data = .fields #[.int slot 0,.int i 0,.ref a,.int es.size 0,.int ep 0]∧(byT w=false->SetTable.below t.place slot=i)
section
variable {prog:Program} {w:World} {A:Around} {E:Value->Shared->Prop} {s:Shared} {a it:Addr} {es:Array (Int×Value)} {ep i:Nat} {t:SetTable}
theorem SetW.fits (L:SetW w s.heap a es ep t):t.fits es.size=true:=Yb L.T.g
theorem SetW.typeIs (L:SetW w s.heap a es ep t):s.TypeIs (.ref a) "set" := let ⟨o,h,c,_⟩:=L.ex;⟨o,h,c.1⟩
theorem ItW.typeIs (I:ItW w s.heap it a es ep t i):s.TypeIs (.ref it) "set_iterator" := let ⟨o,_,h,c,_⟩:=I;⟨o,h,c⟩
theorem qBZ {Q:Value->Shared->Prop} (L:SetW w s.heap a es ep t)
  (hQ:Q (.ref s.heap.objs.size) { s with heap:=s.heap.push { cls := .type "set_iterator",data := .fields #[.int 0 0,.int 0 0,.ref a,.int es.size 0,.int ep 0] } }):wpAny (model prog w) A (pyIter (.ref a)) Q E s:=by
 obtain ⟨o,ho,hx,hd⟩:=L.ex
 refine wpAny_pyIter_slot L.typeIs F.slot_set_iter (wpAny_call_entry F.slot_set_iter L.typeIs Yk ?_ (F.args_set_iter_1 _))
 unfold Builtin.«frozenset.__iter__» Builtin.Frozenset.slot0 Builtin.Frozenset.sizeOf setEntries
 refine wpAny_bind (wpAny_of_eq (a:=a) rfl ?_)
 refine wpAny_bind (wpAny_bind (wpAny_bind (wpAny_setState_of ho hd L.fits (wpAny_pure (wpAny_pure ?_)))))
 unfold setDrawn setsByText
 refine wpAny_bind (wpAny_bind (wpAny_setState_of ho hd L.fits ?_))
 dsimp only
 refine wpAny_bind (wpAny_bind (wpAny_askSetting (wpAny_pure (wpAny_pure ?_))))
 rw [if_neg (by
  rw [Bool.and_eq_true]
  intro q
  have q2:(!t.plain&&decide (es.size > 1))=true:=q.2
  rw [L.T.pl] at q2
  cases q2)]
 refine wpAny_bind (wpAny_pure ?_)
 unfold setEpoch newFields
 refine wpAny_bind (wpAny_bind (wpAny_setState_of ho hd L.fits (wpAny_pure ?_)))
 exact wpAny_bind (wpAny_newObj_type (wpAny_pure ⟨_,rfl,"set_iterator",_,⟨_,Heap.get?_push_size _ rfl,rfl⟩,slot_setit.lookup,by simpa [rawInt] using hQ⟩))
theorem yY {R:Option (Value×Nat)->Shared->Prop} {slot:Nat} (L:SetW w s.heap a es ep t) (hb:byT w=false->SetTable.below t.place slot=i)
  (h1:∀ e nx,(wB w a ep es)[i]? = some e->(byT w=false->SetTable.below t.place nx=i + 1)->R (some (e.2,nx)) s) (h2:(wB w a ep es)[i]? = none->R none s):wpAny (model prog w) A (setNext a ((slot:Int)).toNat ((i:Int)).toNat ((ep:Int)).toNat) R E s:=by
 obtain ⟨o,ho,hxs,hd⟩:=L.ex
 have hf:=L.fits
 unfold setNext
 refine wpAny_bind (wpAny_setState_of ho hd hf ?_)
 unfold setsByText
 dsimp only
 refine wpAny_bind (wpAny_bind (wpAny_askSetting (wpAny_pure ?_)))
 rw [Int.toNat_natCast,Int.toNat_natCast,Int.toNat_natCast]
 by_cases hby:byT w=true
 ·rw [if_pos (by exact hby),if_neg (by simp)]
  unfold setWalk setsByText
  refine wpAny_bind (wpAny_bind (wpAny_setState_of ho hd hf ?_))
  dsimp only
  refine wpAny_bind (wpAny_bind (wpAny_askSetting (wpAny_pure ?_)))
  rw [if_pos (by exact hby)]
  refine wpAny_bind (wpAny_askSetting (wpAny_pure (wpAny_pure ?_)))
  have eo:wB w a ep es=pickOrder (w.params.setOrder a ep) es:=by unfold wB;rw [if_pos hby]
  rw [eo] at h1 h2
  show R (((pickOrder (w.params.setOrder a ep) es)[i]?).map fun e=>(e.2,slot)) s
  cases hx:(pickOrder (w.params.setOrder a ep) es)[i]? with
  |none=>exact h2 hx
  |some e=>exact h1 e slot hx fun q=>by rw [q] at hby;cases hby
 ·have hby':byT w=false:=by cases h:byT w with |true=>exact absurd h hby |false=>rfl
  rw [if_neg (by exact hby),if_neg (by
   intro q
   have q2:(!t.plain&&decide (es.size > 1))=true:=q
   rw [L.T.pl] at q2
   cases q2)]
  have eo:wB w a ep es=es:=by unfold wB;rw [if_neg hby]
  rw [eo] at h1 h2
  have hled:t.led=true:=by rw [L.T.led,hby'];rfl
  refine wpAny_bind (wpAny_of_eq (a:=()) ?_ (wpAny_pure ?_))
  ·show (if (!t.led && !es.isEmpty)=true then unsupported "set:maker-not-led" else pure ())=pure ()
   rw [hled]
   rfl
  ·rw [hb hby']
   have hps:t.place.size=es.size:=L.T.g.sz
   cases hx:es[i]? with
   |none=>exact h2 hx
   |some e =>
    have hi:i < es.size:=(Array.getElem?_eq_some_iff.mp hx).1
    have hp:t.place[i]? = some (t.place.getD i 0):=by
     rw [Array.getD_eq_getD_getElem?,Array.getElem?_eq_getElem (by omega)];rfl
    rw [hp]
    exact h1 e _ hx fun _=>JT L.T.g.ris (by omega)
theorem qAv {Q:Option Value->Shared->Prop} (L:SetW w s.heap a es ep t) (I:ItW w s.heap it a es ep t i) {e:Int×Value} (hx:(wB w a ep es)[i]? = some e)
  (hQ:∀ h',ItW w h' it a es ep t (i + 1)->Heap.SameBut it s.heap h'->Q (some e.2) { s with heap:=h' }):wpAny (model prog w) A (pyNext (.ref it)) Q E s:=by
 obtain ⟨o,ho,hxs,hd⟩:=L.ex
 obtain ⟨oi,slot,hoi,hci,hdi,hb⟩:=id I
 unfold pyNext
 refine wpAny_bind (wpAny_attempt (wpAny_callSpecial?_slot (name:=Str.ofString "__next__") I.typeIs slot_setit (wpAny_call_entry slot_setit I.typeIs zi ?_ (yD _))))
 unfold Builtin.«set_iterator.__next__»
 refine wpAny_bind (wpAny_of_eq (a:=(.ref it,[])) rfl ?_)
 dsimp only
 refine wpAny_bind (wpAny_fieldsOf hoi hdi ?_)
 dsimp only
 unfold setEntries
 refine wpAny_bind (wpAny_bind (wpAny_setState_of ho hd L.fits (wpAny_pure ?_)))
 rw [if_neg (by simp)]
 refine wpAny_bind (yY L hb (fun e' nx he hn => ?_) fun he => ?_)
 ·rw [hx] at he;cases he
  dsimp only
  refine wpAny_bind (wpAny_setField hoi hdi (by simp) ?_)
  have ho1:=Heap.get?_update_self (Obj.mapFields fun x=>x.setIfInBounds 0 (rawInt (nx:Int))) hoi (Obj.isFreed_of_fields (Obj.data_mapFields hdi _))
  refine wpAny_bind (wpAny_setField ho1 (Obj.data_mapFields hdi _) (by simp) ?_)
  have ho2:=Heap.get?_update_self (Obj.mapFields fun x=>x.setIfInBounds 1 (rawInt ((i:Int) + 1))) ho1 (Obj.isFreed_of_fields (Obj.data_mapFields (Obj.data_mapFields hdi _) _))
  refine wpAny_pure ⟨_,rfl,wpAny_pure (hQ _ ⟨_,nx,ho2,?_,?_,hn⟩ ⟨?_,fun b hb' => ?_⟩)⟩
  ·rw [Obj.cls_mapFields,Obj.cls_mapFields];exact hci
  ·rw [Obj.data_mapFields (Obj.data_mapFields hdi _)];simp [rawInt]
  ·rw [Heap.size_update,Heap.size_update]
  ·exact (Heap.get?_update_other _ _ (Ne.symm hb')).trans (Heap.get?_update_other _ _ (Ne.symm hb'))
 ·rw [hx] at he;cases he
theorem qCP {Q:Option Value->Shared->Prop} (hh:A.handled=none) (L:SetW w s.heap a es ep t) (I:ItW w s.heap it a es ep t i) (hx:(wB w a ep es)[i]? = none)
  (hQ:∀ h',(∀ b o,b≠it->s.heap.get? b=some o->h'.get? b=some o)->Q none { s with heap:=h' }):wpAny (model prog w) A (pyNext (.ref it)) Q E s:=by
 obtain ⟨o,ho,hxs,hd⟩:=L.ex
 obtain ⟨oi,slot,hoi,hci,hdi,hb⟩:=id I
 unfold pyNext
 refine wpAny_bind (wpAny_attempt (wpAny_callSpecial?_slot (name:=Str.ofString "__next__") I.typeIs slot_setit (wpAny_call_entry slot_setit I.typeIs zi ?_ (yD _))))
 unfold Builtin.«set_iterator.__next__»
 refine wpAny_bind (wpAny_of_eq (a:=(.ref it,[])) rfl ?_)
 dsimp only
 refine wpAny_bind (wpAny_fieldsOf hoi hdi ?_)
 dsimp only
 unfold setEntries
 refine wpAny_bind (wpAny_bind (wpAny_setState_of ho hd L.fits (wpAny_pure ?_)))
 rw [if_neg (by simp)]
 refine wpAny_bind (yY L hb (fun e' nx he hn=>by rw [hx] at he;cases he) fun he => ?_)
 dsimp only
 refine wpAny_bind (wpAny_setField hoi hdi (by simp) ?_)
 refine Wl (A:=A.in1) (fun v hv=>by rw [show A.in1.handled=A.handled from rfl,hh] at hv;cases hv) fun h' e k ht => ?_
 refine wpAny_bind (wpAny_isInstance (T := "StopIteration") (b:=true) ht isSubtype_stop ?_)
 exact wpAny_pure (hQ _ fun b o' hb' q=>k b o' ((Heap.get?_update_other _ _ (Ne.symm hb')).trans q))
end
section
variable {prog:Program} {w:World} {A:Around} {E:Value->Shared->Prop} {R:Result->Shared->Prop} {a it:Addr} {es:Array (Int×Value)} {ep:Nat} {t:SetTable}
theorem SetW.same {h h':Heap} (L:SetW w h a es ep t) (e:∀ o,h.get? a=some o->h'.get? a=some o):SetW w h' a es ep t:=by
 obtain ⟨⟨o,h1,h2⟩,T,n⟩:=L
 exact ⟨⟨o,e o h1,h2⟩,T,n⟩
theorem ItW.same {h h':Heap} {i:Nat} (L:ItW w h it a es ep t i) (e:∀ o,h.get? it=some o->h'.get? it=some o):ItW w h' it a es ep t i:=by
 obtain ⟨o,sl,h1,h2⟩:=L
 exact ⟨o,sl,e o h1,h2⟩
theorem qD0 {D:Addr} (hh:A.handled=none) (hDa:a≠D) (hDi:it≠D) (hai:a≠it):∀ (k i:Nat) (s:Shared) (n:Nat),es.size - i=k->i≤es.size->SetW w s.heap a es ep t->ItW w s.heap it a es ep t i->s.heap.get? D=some (seqObj "list" (((wB w a ep es).toList.take i).map (·.2)).toArray n) ->
  (∀ (h':Heap) (n':Nat),(∀ b o,b≠D->b≠it->s.heap.get? b=some o->h'.get? b=some o)->h'.get? D=some (seqObj "list" ((wB w a ep es).toList.map (·.2)).toArray n')->R (.ok (.ret (.ref D))) { s with heap:=h' }) ->
  codeAny (model prog w) A (.builtin "list.extend.loop" ⟨[.ref D,.ref it,.ref D],[]⟩) R s:=by
 intro k
 induction k with
 |zero =>
  intro i s n hk hi L I hD h
  have hi':i=es.size:=by omega
  refine codeAny_builtin yh ?_
  rw [Around.under_plainId WN]
  unfold Builtin.«list.extend.loop»
  refine wpAny_bind (qCP hh L I (by rw [Array.getElem?_eq_none];rw [WY];omega) fun h' hk' => ?_)
  dsimp only
  refine wpAny_pure (h h' n (fun b o h1 h2=>hk' b o h2) ?_)
  rw [hk' D _ (Ne.symm hDi) hD,List.take_of_length_le (by rw [Array.length_toList,WY];omega)]
 |succ k ih =>
  intro i s n hk hi L I hD h
  have hi':i < (wB w a ep es).size:=by rw [WY];omega
  refine codeAny_builtin yh ?_
  rw [Around.under_plainId WN]
  unfold Builtin.«list.extend.loop»
  refine wpAny_bind (qAv L I (Array.getElem?_eq_getElem hi') fun h' I' sb => ?_)
  dsimp only
  unfold Builtin.List.listUpdate
  dsimp only
  have hD':h'.get? D=some (seqObj "list" (((wB w a ep es).toList.take i).map (·.2)).toArray n):=(sb.2 D (Ne.symm hDi)).trans hD
  have hlen:(((wB w a ep es).toList.take i).map (·.2)).length≤300:=by
   rw [List.length_map,List.length_take,Array.length_toList,WY]
   have:=L.n
   omega
  have hsz:(((wB w a ep es).toList.take i).map (·.2)).toArray.size≤300:=by rw [List.size_toArray];exact hlen
  refine wpAny_bind (wpAny_updateSeq hD' rfl ?_ (Nat.le_trans hsz (by decide)) (by rw [Array.size_push];exact Nat.le_trans (Nat.succ_le_succ hsz) (by decide)))
  have e1:((((wB w a ep es).toList.take i).map (·.2)).toArray.push (wB w a ep es)[i].2)=((((wB w a ep es).toList.take (i + 1)).map (·.2)).toArray):=by
   have hl:i < (wB w a ep es).toList.length:=by rw [Array.length_toList];exact hi'
   rw [List.take_succ_eq_append_getElem hl,List.map_append,List.push_toArray]
   rfl
  have hu:∃ n2,(h'.update D (Obj.mapSeq fun x=>x.push (wB w a ep es)[i].2)).get? D=some (seqObj "list" (((wB w a ep es).toList.take (i + 1)).map (·.2)).toArray n2):=by
   rw [Heap.get?_update_self _ hD' rfl,← e1]
   exact ⟨_,rfl⟩
  obtain ⟨n2,hu⟩:=hu
  refine wpAny_pure ⟨plainId_quiet WN _,?_⟩
  refine ih (i + 1) _ n2 (by omega) (by rw [WY] at hi';omega) (L.same fun o ho => ?_) (I'.same fun o ho => ?_) hu fun h2 n3 hb2 hD2=>h h2 n3 (fun b o h3 h4 ho=>hb2 b o h3 h4 ?_) hD2
  ·exact (Heap.get?_update_other _ _ (Ne.symm hDa)).trans ((sb.2 a hai).trans ho)
  ·exact (Heap.get?_update_other _ _ (Ne.symm hDi)).trans ho
  ·exact (Heap.get?_update_other _ _ (Ne.symm h3)).trans ((sb.2 b h4).trans ho)
theorem qCH {s:Shared} {Q:List Value->Shared->Prop} (hh:A.handled=none) (L:SetW w s.heap a es ep t)
  (hQ:∀ h',(∀ b o,s.heap.get? b=some o->h'.get? b=some o)->s.heap.objs.size≤h'.objs.size->Q ((wB w a ep es).toList.map (·.2)) { s with heap:=h' }):wpAny (model prog w) A (collect (.ref a)) Q E s:=by
 have hlt:a < s.heap.objs.size:=by obtain ⟨o,ho,_⟩:=L.ex;exact Heap.lt_size ho
 unfold collect
 refine wpAny_bind (wpAny_runValue (codeAny_builtin F.entry_proto_collect ?_))
 rw [Around.under_plainId F.plain_proto_collect]
 unfold Builtin.«proto.collect»
 dsimp only
 refine wpAny_bind (wpAny_newList ?_)
 refine wpAny_pure ⟨plainId_quiet F.plain_list_iadd _,codeAny_builtin F.entry_list_iadd ?_⟩
 rw [Around.under_plainId F.plain_list_iadd]
 unfold Builtin.«list.__iadd__»
 refine wpAny_bind (wpAny_of_eq (a:=(.ref s.heap.objs.size,[.ref a])) rfl ?_)
 dsimp only
 unfold Builtin.List.listExtendWith
 have L1:SetW w (s.heap.push { cls := .type "list",data := .seq ([]:List Value).toArray }) a es ep t:=L.same fun o ho=>Heap.get?_push_of_some _ ho
 refine wpAny_bind (wpAny_typeOf (T := "set") L1.typeIs ?_)
 have hne:(s.heap.objs.size==a)=false:=beq_eq_false_iff_ne.mpr (Nat.ne_of_gt hlt)
 rw [if_neg (by
  show ¬ ((s.heap.objs.size==a || _ || _)=true)
  rw [hne]
  decide)]
 refine wpAny_bind (qBZ L1 ?_)
 have L2:SetW w ((s.heap.push { cls := .type "list",data := .seq ([]:List Value).toArray }).push { cls := .type "set_iterator",data := .fields #[.int 0 0,.int 0 0,.ref a,.int es.size 0,.int ep 0] }) a es ep t:=L1.same fun o ho=>Heap.get?_push_of_some _ ho
 refine wpAny_bind (wpAny_holding (EX.hint_set L2.typeIs ?_))
 dsimp only
 rw [if_pos (by decide +kernel)]
 have hz:(s.heap.push { cls := .type "list",data := .seq ([]:List Value).toArray }).objs.size=s.heap.objs.size + 1:=Heap.size_push ..
 have hD0:((s.heap.push { cls := .type "list",data := .seq ([]:List Value).toArray }).push { cls := .type "set_iterator",data := .fields #[.int 0 0,.int 0 0,.ref a,.int es.size 0,.int ep 0] }).get? s.heap.objs.size=some (seqObj "list" #[] 0):=Heap.get?_push_of_some _ (Heap.get?_push_size _ rfl)
 refine wpAny_bind (wpAny_rule (wpAny_bind ?_))
 unfold Builtin.List.listTouch Builtin.List.listUpdate
 dsimp only
 refine wpAny_bind (wpAny_updateSeq hD0 rfl ?_ (by decide) (by decide))
 have hD1:=Heap.get?_update_self (Obj.mapSeq fun x=>x.push Value.none) hD0 rfl
 refine wpAny_updateSeq hD1 rfl ?_ (by decide) (by decide)
 have hD2:∃ n,((((s.heap.push { cls := .type "list",data := .seq ([]:List Value).toArray }).push { cls := .type "set_iterator",data := .fields #[.int 0 0,.int 0 0,.ref a,.int es.size 0,.int ep 0] }).update s.heap.objs.size (Obj.mapSeq fun x=>x.push Value.none)).update s.heap.objs.size (Obj.mapSeq fun x=>x.pop)).get? s.heap.objs.size=some (seqObj "list" #[] n):=by
  rw [Heap.get?_update_self _ hD1 rfl];exact ⟨_,rfl⟩
 obtain ⟨n2,hD2⟩:=hD2
 have hkeep:∀ b o,b≠s.heap.objs.size->((s.heap.push { cls := .type "list",data := .seq ([]:List Value).toArray }).push { cls := .type "set_iterator",data := .fields #[.int 0 0,.int 0 0,.ref a,.int es.size 0,.int ep 0] }).get? b=some o->((((s.heap.push { cls := .type "list",data := .seq ([]:List Value).toArray }).push { cls := .type "set_iterator",data := .fields #[.int 0 0,.int 0 0,.ref a,.int es.size 0,.int ep 0] }).update s.heap.objs.size (Obj.mapSeq fun x=>x.push Value.none)).update s.heap.objs.size (Obj.mapSeq fun x=>x.pop)).get? b=some o:=fun b o hb ho=>(Heap.get?_update_other _ _ (Ne.symm hb)).trans ((Heap.get?_update_other _ _ (Ne.symm hb)).trans ho)
 have hi1:(s.heap.push { cls := .type "list",data := .seq ([]:List Value).toArray }).objs.size≠s.heap.objs.size:=by rw [hz];exact Nat.ne_of_gt (Nat.lt_succ_self _)
 refine wpAny_pure ⟨plainId_quiet WN _,?_⟩
 refine qD0 (w:=w) (t:=t) (ep:=ep) (es:=es) (a:=a) hh (Nat.ne_of_lt hlt) hi1 (by rw [hz];exact Nat.ne_of_lt (Nat.lt_succ_of_lt hlt)) _ 0 _ n2 rfl (Nat.zero_le _) (L2.same fun o ho=>hkeep a o (Nat.ne_of_lt hlt) ho) ⟨_,0,hkeep _ _ hi1 (Heap.get?_push_size _ rfl),rfl,rfl,fun _=>JL L.T.g.ris⟩ hD2 fun h' n' hk hD => ?_
 dsimp only
 refine wpAny_bind (wpAny_load' hD ?_)
 refine wpAny_pure ?_
 have:=hQ h' (fun b o ho=>hk b o (Nat.ne_of_lt (Heap.lt_size ho)) (by rw [hz];exact Nat.ne_of_lt (Nat.lt_succ_of_lt (Heap.lt_size ho))) (hkeep b o (Nat.ne_of_lt (Heap.lt_size ho)) (Heap.get?_push_of_some _ (Heap.get?_push_of_some _ ho)))) (Nat.le_of_lt (Heap.lt_size hD))
 simpa using this
end
open EX
def zd (acc:List (List Int)) (k:List Int):List (List Int):=if k∈acc then acc else acc++[k]
def ddT (kss:List (List Int)):List (List Int):=kss.foldl zd []
theorem qCw {kss:List (List Int)} {i:Nat} (h:i < kss.length):ddT (kss.take (i + 1))=zd (ddT (kss.take i)) (kss.getD i []):=by
 unfold ddT
 rw [List.take_succ_eq_append_getElem h,List.foldl_append,List.getD_eq_getElem?_getD,List.getElem?_eq_getElem h]
 rfl
theorem qBU {a b:List (List Int)} {k:List Int} (h:a.Perm b):(if k∈a then a else a++[k]).Perm (zd b k):=by
 unfold zd
 by_cases q:k∈a
 ·rw [if_pos q,if_pos (h.mem_iff.mp q)];exact h
 ·rw [if_neg q,if_neg (fun z=>q (h.mem_iff.mpr z))];exact h.append_right _
theorem YJ:∀ (kss acc:List (List Int)),(kss.foldl zd acc).length≤acc.length + kss.length
 |[],acc=>Nat.le_refl _
 |k::vs,acc=>by
  rw [List.foldl_cons,List.length_cons]
  have h:=YJ vs (zd acc k)
  have:(zd acc k).length≤acc.length + 1:=by
   unfold zd
   split
   ·omega
   ·rw [List.length_append];exact Nat.le_refl _
  omega
section
variable {prog:Program} {w:World} {A:Around} {E:Value->Shared->Prop} {R:Result->Shared->Prop}
theorem SetT.same {h h':Heap} {a:Addr} {es:Array (Int×Value)} {ep:Nat} {t:SetTable} {kss:List (List Int)} (S:SetT prog w h a es ep t kss) (e:∀ b o,(b=a ∨ ∃ ks,TK prog w h ks b)->h.get? b=some o->h'.get? b=some o):SetT prog w h' a es ep t kss:=by
 obtain ⟨⟨o,h1,h2⟩,el,nd,tb⟩:=S
 exact ⟨⟨o,e a o (.inl rfl) h1,h2⟩,el.keep fun b ks k=>k.keep fun o' ho'=>e b o' (.inr ⟨ks,k⟩) ho',nd,tb⟩
theorem zw {h:Heap} {b:Addr} {o:Obj} (ho:h.get? b=some o) (hc:o.cls ≠ .type "tuple"):∀ ks,¬ TK prog w h ks b:=fun ks ⟨o',_,_,h1,h2,_⟩=>by
 rw [ho] at h1;cases h1;exact hc h2
theorem SetT.not {h:Heap} {a:Addr} {es:Array (Int×Value)} {ep:Nat} {t:SetTable} {kss:List (List Int)} (S:SetT prog w h a es ep t kss) (ks:List Int):¬ TK prog w h ks a:=by
 obtain ⟨o,ho,hx,_⟩:=S.ex
 exact zw ho (by rw [hx.1];decide) ks
theorem jr {I:Addr} {fp wr:List Addr} {n:Nat} {P:Nat->Value->Prop} {St:Nat->Heap->Prop} (W:Walks prog w A.in1 I fp wr n P St) (hwr:∀ i h,St i h -> ∀ b∈wr,∀ ks,¬ TK prog w h ks b) (hu:A.in1.units < cLine) {Sa:Addr} (hS:Sa ∉ fp) {its:List Value} {kss:List (List Int)} (hn:its.length=n) (h3:n≤299) (hv:∀ i v,P i v->its[i]? = some v) :
  ∀ (k i:Nat) (s:Shared) (es:Array (Int×Value)) (ep:Nat) (t:SetTable) (ks1:List (List Int)),n - i=k->i≤n->St i s.heap->TsV prog w s.heap its kss->SetT prog w s.heap Sa es ep t ks1->(∀ e∈es.toList,e.2∈its)->ks1.Perm (ddT (kss.take i)) ->
   (∀ (h':Heap) (tk:Nat) (es':Array (Int×Value)) (ep':Nat) (t':SetTable) (ks':List (List Int)),(∀ b o,b ∉ Sa::wr->s.heap.get? b=some o->h'.get? b=some o)->SetT prog w h' Sa es' ep' t' ks'->ks'.Perm (ddT kss)->(∀ e∈es'.toList,e.2∈its)->R (.ok (.ret .none)) { s with heap:=h',toks:=tk }) ->
   codeAny (model prog w) A (.builtin "set.update.loop" ⟨[.ref Sa,.ref I],[]⟩) R s:=by
 intro k
 induction k with
 |zero =>
  intro i s es ep t ks1 hk hi hSt V S hE hp h
  have:i=n:=by omega
  subst this
  refine codeAny_builtin F.entry_set_update_loop ?_
  rw [Around.under_plainId F.plain_set_update_loop]
  unfold Builtin.«set.update.loop»
  refine wpAny_bind (W.done _ _ _ hSt fun h' tk hk' => ?_)
  dsimp only
  refine wpAny_pure ?_
  refine h h' tk es ep t ks1 (fun b o hb'=>hk' b o fun q=>hb' (List.mem_cons_of_mem _ q)) (S.same fun b o hb=>hk' b o fun q=>hb.elim (fun z=>hS (W.sub _ (by rw [← z];exact q))) fun ⟨ks,z⟩=>hwr _ _ hSt b q ks z) ?_ ?_
  ·rw [← hn,V.len,List.take_length] at hp
   exact hp
  ·exact hE
 |succ k ih =>
  intro i s es ep t ks1 hk hi hSt V S hE hp h
  have hi':i < n:=by omega
  refine codeAny_builtin F.entry_set_update_loop ?_
  rw [Around.under_plainId F.plain_set_update_loop]
  unfold Builtin.«set.update.loop»
  refine wpAny_bind (W.item i _ _ _ hi' hSt fun v h' tk hP hSt' hk' => ?_)
  obtain ⟨b,hb,kb⟩:=V.get (i:=i) (by omega)
  have hvi:=hv i v hP
  have evb:v = .ref b:=by rw [List.getD_eq_getElem?_getD,hvi] at hb;exact hb
  subst evb
  have low:∀ c o,(∃ ks,TK prog w s.heap ks c)->s.heap.get? c=some o->h'.get? c=some o:=fun c o ⟨ks,z⟩=>hk' c o fun q=>hwr _ _ hSt c q ks z
  have kb':TK prog w h' (kss.getD i []) b:=kb.keep fun o=>low b o ⟨_,kb⟩
  have S':SetT prog w h' Sa es ep t ks1:=S.same fun c o hc=>hc.elim (fun z=>hk' c o fun q=>hS (W.sub _ (by rw [← z];exact q))) fun z=>low c o z
  have V':TsV prog w h' its kss:=V.keep low
  dsimp only
  refine wpAny_bind (wpAny_holding ?_)
  unfold setAdd
  refine wpAny_holding (wpAny_bind (wpAny_pyHash_tuple (s:={ s with heap:=h',toks:=tk }) hu kb' ?_))
  have hl:ks1.length + 1≤300:=by
   have:=YJ (kss.take i) []
   have e:(ddT (kss.take i)).length≤i:=by
    have q:=List.length_take_le i kss
    unfold ddT
    have z:([]:List (List Int)).length=0:=rfl
    omega
   rw [hp.length_eq];omega
  refine qHt (s:={ s with heap:=h',toks:=tk + ((kss.getD i []).length + 1) }) hu S' kb' hl fun h2 es2 ep2 t2 ks2 hs2 S2 hp2 he2 => ?_
  refine wpAny_pure ⟨plainId_quiet F.plain_set_update_loop _,?_⟩
  refine ih (i + 1) _ es2 ep2 t2 ks2 (by omega) (by omega) (W.frame _ _ _ hSt' fun b hbf o ho=>by
   rw [hs2.2 b (fun z=>hS (by rw [← z];exact hbf))];exact ho) ?_ S2 (fun e he=>(he2 e he).elim (hE e) fun z=>by rw [z];exact List.mem_of_getElem? hvi) ?_ fun h3 tk3 es3 ep3 t3 ks3 hh S3 hp3 hE3 => ?_
  ·exact V'.keep fun c o ⟨ks,z⟩ ho=>(hs2.2 c (fun e=>S'.not ks (by rw [← e];exact z))).trans ho
  ·rw [qCw (by rw [← V.len];omega)]
   exact hp2.trans (qBU hp)
  ·exact h h3 tk3 es3 ep3 t3 ks3 (fun b o hbn ho=>hh b o hbn (by
    have:b≠Sa:=fun z=>hbn (by rw [z];exact List.mem_cons_self)
    rw [hs2.2 b this]
    exact hk' b o (fun q=>hbn (List.mem_cons_of_mem _ q)) ho)) S3 hp3 hE3
theorem qAk {h:Heap} {led:Bool} (hl:led = !byT w):SetT prog w (h.push { cls := .type "set",data := .set #[] 0 (SetTable.fresh 0 0 led) }) h.objs.size #[] 0 (SetTable.fresh 0 0 led) [] :=
 ⟨⟨_,Heap.get?_push_size _ rfl,⟨rfl,rfl,rfl⟩,rfl⟩,.nil,List.nodup_nil,⟨⟨rfl,rfl,fun i k _ hk=>absurd hk (Nat.not_lt_zero _),fun j hj=>(List.not_mem_nil hj).elim,Nat.zero_le _⟩,fun q hq=>(List.not_mem_nil hq).elim,.inl ⟨rfl,Nat.zero_le _⟩,hl,rfl⟩⟩
theorem Jk {s:Shared} {l:Addr} {items:Array Value} {kss:List (List Int)} {Q:Value->Shared->Prop} (hh:A.handled=none) (hu:A.units + 8 < cLine) (hl:s.heap.IsList l items) (V:TsV prog w s.heap items.toList kss) (h3:kss.length≤299)
  (h:∀ (h':Heap) (tk:Nat) (es':Array (Int×Value)) (ep':Nat) (t':SetTable) (ks':List (List Int)),SetT prog w h' s.heap.objs.size es' ep' t' ks'->ks'.Perm (ddT kss)->(∀ e∈es'.toList,e.2∈items.toList)->(∀ b o,b < s.heap.objs.size->s.heap.get? b=some o->h'.get? b=some o)->Q (.ref s.heap.objs.size) { s with heap:=h',toks:=tk }) :
  wpAny (model prog w) A (call (.type "set") [.ref l]) Q E s:=by
 refine wpAny_call (codeAny_of_tree (wpAny_of_eq (a:=Fin.again (.builtin "type.__call__" ⟨[.type "set",.ref l],[]⟩)) rfl ⟨Code.quiet_builtin _ (by decide +kernel),?_⟩))
 refine codeAny_builtin F.entry_type_call ?_
 rw [Around.under_plain (weight_type_call_type _ _ _) rfl]
 unfold Builtin.«type.__call__»
 dsimp only
 rw [if_neg (by rw [F.called_set.notType];decide),if_neg (by rw [F.called_set.canCreate];decide)]
 refine wpAny_bind (wpAny_of_eq (F.typeCall_set_1 _) ?_)
 obtain ⟨c,tl,hm⟩:=F.called_set.mro
 refine wpAny_bind (wpAny_of_eq hm ?_)
 rw [if_neg (by simp)]
 refine wpAny_bind (wpAny_of_eq F.called_set.made ?_)
 dsimp only
 refine wpAny_bind (wpAny_pure (wpAny_bind (wpAny_holding (wpAny_call (qAF ?_)))))
 have hT:({ s with heap:=s.heap.push { cls := .type "set",data := .set #[] 0 (SetTable.fresh 0 0 (!byT w)) } }:Shared).TypeIs (.ref s.heap.objs.size) "set" := ⟨_,Heap.get?_push_size _ rfl,rfl⟩
 refine wpAny_bind (wpAny_isInstance hT sub_set_self ?_)
 rw [if_neg (by decide)]
 refine wpAny_bind (wpAny_holding ?_)
 unfold callSpecial?
 refine wpAny_bind (wpAny_specialOf hT F.called_set.init.lookup ?_)
 dsimp only
 refine wpAny_holding (wpAny_bind (wpAny_of_eq (F.called_set.init.bind _) ?_))
 dsimp only
 refine wpAny_bind (wpAny_call (codeAny_call_builtin F.called_set.init.plain F.entry_set_init (check_set_init_1 hT ?_)))
 unfold Builtin.«set.__init__»
 refine wpAny_bind (wpAny_of_eq (a:=()) rfl ?_)
 show wpAny _ _ (do
  let n ← typeNameOfCut 200 (.ref s.heap.objs.size)
  checkCount n 0 1 1
  let a ← Builtin.Frozenset.addrOf (.ref s.heap.objs.size)
  let u ← setUsed a
  if u=true then do
   Builtin.Frozenset.clearAll a
   Builtin.Frozenset.updateFrom "set.__init__" a (.ref l)
   ret Value.none
  else do
   Builtin.Frozenset.updateFrom "set.__init__" a (.ref l)
   ret Value.none) _ _ _
 unfold typeNameOfCut shownTypeOf
 refine wpAny_bind (wpAny_bind (wpAny_bind (wpAny_typeOf hT ?_)))
 rw [if_neg (by decide)]
 refine wpAny_pure (wpAny_of_eq (a := "set") (by rfl) ?_)
 refine wpAny_bind (wpAny_of_eq (a:=()) rfl ?_)
 refine wpAny_bind (wpAny_of_eq (a:=s.heap.objs.size) rfl ?_)
 unfold setUsed
 have hg:(s.heap.push { cls := .type "set",data := .set #[] 0 (SetTable.fresh 0 0 (!byT w)) }).get? s.heap.objs.size=some { cls := .type "set",data := .set #[] 0 (SetTable.fresh 0 0 (!byT w)) }:=Heap.get?_push_size _ rfl
 refine wpAny_bind (wpAny_bind (wpAny_setState_of hg rfl rfl (wpAny_pure ?_)))
 rw [if_neg (by intro q;exact Bool.noConfusion (show false=true from q))]
 refine wpAny_bind ?_
 unfold Builtin.Frozenset.updateFrom Builtin.Frozenset.isAnySet
 have hl':(s.heap.push { cls := .type "set",data := .set #[] 0 (SetTable.fresh 0 0 (!byT w)) }).IsList l items:=hl.push _
 refine wpAny_bind (wpAny_bind (wpAny_isInstance (T := "list") hl'.typeIs F.sub_list_set ?_))
 show wpAny _ _ (isInstance (.ref l) (.type "frozenset")) _ _ _
 refine wpAny_isInstance (T := "list") hl'.typeIs F.sub_list_frozenset ?_
 rw [if_neg (by decide)]
 refine wpAny_bind (wpAny_typeOf (T := "list") hl'.typeIs ?_)
 rw [if_neg (by decide)]
 refine wpAny_bind (wpAny_pyIter_list hl' (wpAny_bind (wpAny_runValue ?_)))
 have hlt:l < s.heap.objs.size:=by obtain ⟨o,ho,_⟩:=hl;exact Heap.lt_size ho
 have hS:=qAk (prog:=prog) (w:=w) (h:=s.heap) (led := !byT w) rfl
 have hsz:(s.heap.push { cls := .type "set",data := .set #[] 0 (SetTable.fresh 0 0 (!byT w)) }).objs.size=s.heap.objs.size + 1:=Heap.size_push ..
 have hlen:items.size=kss.length:=by rw [← V.len,Array.length_toList]
 refine jr (A:=A.in1.in1) (Walks.list (A:=A.in1.in1.in1) hh (s.heap.push { cls := .type "set",data := .set #[] 0 (SetTable.fresh 0 0 (!byT w)) }).objs.size l (by rw [hsz];exact Nat.ne_of_lt (Nat.lt_succ_of_lt hlt)) items) (fun i h' hst b hb ks=>by
  rw [List.mem_singleton.mp hb]
  obtain ⟨o,ho,hc,_⟩:=hst.1
  exact zw ho (by rw [hc];decide) ks) (by show A.units + 3 < cLine;omega) (Sa:=s.heap.objs.size) (by
  rw [hsz];intro q
  rcases List.mem_cons.mp q with q |q
  ·exact absurd q (by show ¬ s.heap.objs.size=s.heap.objs.size + 1;omega)
  ·have:=List.mem_singleton.mp q;exact absurd hlt (by rw [← this];exact Nat.lt_irrefl _)) (its:=items.toList) (kss:=kss) (by rw [Array.length_toList]) (by omega) (fun i v hi=>by rw [Array.getElem?_toList];exact hi) _ 0 _ #[] 0 _ [] rfl (Nat.zero_le _) ⟨⟨_,Heap.get?_push_size _ rfl,rfl,rfl⟩,hl'.push _⟩ (V.keep fun b o _ ho=>Heap.get?_push_of_some _ (Heap.get?_push_of_some _ ho)) (hS.same fun b o _ ho=>Heap.get?_push_of_some _ ho) (fun e he=>(List.not_mem_nil he).elim) (by rw [List.take_zero];exact .refl _) fun h' tk es' ep' t' ks' hk S' hp hE' => ?_
 refine wpAny_pure (wpAny_pure ?_)
 refine wpAny_pure ?_
 dsimp only
 rw [if_neg (by decide)]
 refine wpAny_pure ?_
 refine h h' tk es' ep' t' ks' S' hp hE' fun b o hb' ho=>hk b o (fun q => ?_) (Heap.get?_push_of_some _ (Heap.get?_push_of_some _ ho))
 rw [hsz] at q
 rcases List.mem_cons.mp q with q |q
 ·exact absurd hb' (by rw [q];exact Nat.lt_irrefl _)
 ·have:=List.mem_singleton.mp q;exact absurd hb' (by rw [this];exact Nat.not_lt_of_le (Nat.le_succ _))
theorem JC {s:Shared} {l:Addr} {items:Array Value} {kss:List (List Int)} {Q:Value->Shared->Prop} (hh:A.handled=none) (hu:A.units + 8 < cLine) (hl:s.heap.IsTuple l items) (V:TsV prog w s.heap items.toList kss) (h3:kss.length≤299)
  (h:∀ (h':Heap) (tk:Nat) (es':Array (Int×Value)) (ep':Nat) (t':SetTable) (ks':List (List Int)),SetT prog w h' s.heap.objs.size es' ep' t' ks'->ks'.Perm (ddT kss)->(∀ e∈es'.toList,e.2∈items.toList)->(∀ b o,b < s.heap.objs.size->s.heap.get? b=some o->h'.get? b=some o)->Q (.ref s.heap.objs.size) { s with heap:=h',toks:=tk }) :
  wpAny (model prog w) A (call (.type "set") [.ref l]) Q E s:=by
 refine wpAny_call (codeAny_of_tree (wpAny_of_eq (a:=Fin.again (.builtin "type.__call__" ⟨[.type "set",.ref l],[]⟩)) rfl ⟨Code.quiet_builtin _ (by decide +kernel),?_⟩))
 refine codeAny_builtin F.entry_type_call ?_
 rw [Around.under_plain (weight_type_call_type _ _ _) rfl]
 unfold Builtin.«type.__call__»
 dsimp only
 rw [if_neg (by rw [F.called_set.notType];decide),if_neg (by rw [F.called_set.canCreate];decide)]
 refine wpAny_bind (wpAny_of_eq (F.typeCall_set_1 _) ?_)
 obtain ⟨c,tl,hm⟩:=F.called_set.mro
 refine wpAny_bind (wpAny_of_eq hm ?_)
 rw [if_neg (by simp)]
 refine wpAny_bind (wpAny_of_eq F.called_set.made ?_)
 dsimp only
 refine wpAny_bind (wpAny_pure (wpAny_bind (wpAny_holding (wpAny_call (qAF ?_)))))
 have hT:({ s with heap:=s.heap.push { cls := .type "set",data := .set #[] 0 (SetTable.fresh 0 0 (!byT w)) } }:Shared).TypeIs (.ref s.heap.objs.size) "set" := ⟨_,Heap.get?_push_size _ rfl,rfl⟩
 refine wpAny_bind (wpAny_isInstance hT sub_set_self ?_)
 rw [if_neg (by decide)]
 refine wpAny_bind (wpAny_holding ?_)
 unfold callSpecial?
 refine wpAny_bind (wpAny_specialOf hT F.called_set.init.lookup ?_)
 dsimp only
 refine wpAny_holding (wpAny_bind (wpAny_of_eq (F.called_set.init.bind _) ?_))
 dsimp only
 refine wpAny_bind (wpAny_call (codeAny_call_builtin F.called_set.init.plain F.entry_set_init (check_set_init_1 hT ?_)))
 unfold Builtin.«set.__init__»
 refine wpAny_bind (wpAny_of_eq (a:=()) rfl ?_)
 show wpAny _ _ (do
  let n ← typeNameOfCut 200 (.ref s.heap.objs.size)
  checkCount n 0 1 1
  let a ← Builtin.Frozenset.addrOf (.ref s.heap.objs.size)
  let u ← setUsed a
  if u=true then do
   Builtin.Frozenset.clearAll a
   Builtin.Frozenset.updateFrom "set.__init__" a (.ref l)
   ret Value.none
  else do
   Builtin.Frozenset.updateFrom "set.__init__" a (.ref l)
   ret Value.none) _ _ _
 unfold typeNameOfCut shownTypeOf
 refine wpAny_bind (wpAny_bind (wpAny_bind (wpAny_typeOf hT ?_)))
 rw [if_neg (by decide)]
 refine wpAny_pure (wpAny_of_eq (a := "set") (by rfl) ?_)
 refine wpAny_bind (wpAny_of_eq (a:=()) rfl ?_)
 refine wpAny_bind (wpAny_of_eq (a:=s.heap.objs.size) rfl ?_)
 unfold setUsed
 have hg:(s.heap.push { cls := .type "set",data := .set #[] 0 (SetTable.fresh 0 0 (!byT w)) }).get? s.heap.objs.size=some { cls := .type "set",data := .set #[] 0 (SetTable.fresh 0 0 (!byT w)) }:=Heap.get?_push_size _ rfl
 refine wpAny_bind (wpAny_bind (wpAny_setState_of hg rfl rfl (wpAny_pure ?_)))
 rw [if_neg (by intro q;exact Bool.noConfusion (show false=true from q))]
 refine wpAny_bind ?_
 unfold Builtin.Frozenset.updateFrom Builtin.Frozenset.isAnySet
 have hl':(s.heap.push { cls := .type "set",data := .set #[] 0 (SetTable.fresh 0 0 (!byT w)) }).IsTuple l items:=hl.push _
 refine wpAny_bind (wpAny_bind (wpAny_isInstance (T := "tuple") hl'.typeIs F.sub_tuple_set ?_))
 show wpAny _ _ (isInstance (.ref l) (.type "frozenset")) _ _ _
 refine wpAny_isInstance (T := "tuple") hl'.typeIs F.sub_tuple_frozenset ?_
 rw [if_neg (by decide)]
 refine wpAny_bind (wpAny_typeOf (T := "tuple") hl'.typeIs ?_)
 rw [if_neg (by decide)]
 refine wpAny_bind (wpAny_pyIter_tuple hl' (wpAny_bind (wpAny_runValue ?_)))
 have hlt:l < s.heap.objs.size:=by obtain ⟨o,ho,_⟩:=hl;exact Heap.lt_size ho
 have hS:=qAk (prog:=prog) (w:=w) (h:=s.heap) (led := !byT w) rfl
 have hsz:(s.heap.push { cls := .type "set",data := .set #[] 0 (SetTable.fresh 0 0 (!byT w)) }).objs.size=s.heap.objs.size + 1:=Heap.size_push ..
 have hlen:items.size=kss.length:=by rw [← V.len,Array.length_toList]
 refine jr (A:=A.in1.in1) (Walks.tuple (A:=A.in1.in1.in1) hh (s.heap.push { cls := .type "set",data := .set #[] 0 (SetTable.fresh 0 0 (!byT w)) }).objs.size l (by rw [hsz];exact Nat.ne_of_lt (Nat.lt_succ_of_lt hlt)) items) (fun i h' hst b hb ks=>by
  rw [List.mem_singleton.mp hb]
  obtain ⟨o,ho,hc,_⟩:=hst.1
  exact zw ho (by rw [hc];decide) ks) (by show A.units + 3 < cLine;omega) (Sa:=s.heap.objs.size) (by
  rw [hsz];intro q
  rcases List.mem_cons.mp q with q |q
  ·exact absurd q (by show ¬ s.heap.objs.size=s.heap.objs.size + 1;omega)
  ·have:=List.mem_singleton.mp q;exact absurd hlt (by rw [← this];exact Nat.lt_irrefl _)) (its:=items.toList) (kss:=kss) (by rw [Array.length_toList]) (by omega) (fun i v hi=>by rw [Array.getElem?_toList];exact hi) _ 0 _ #[] 0 _ [] rfl (Nat.zero_le _) ⟨⟨_,Heap.get?_push_size _ rfl,rfl,rfl⟩,hl'.push _⟩ (V.keep fun b o _ ho=>Heap.get?_push_of_some _ (Heap.get?_push_of_some _ ho)) (hS.same fun b o _ ho=>Heap.get?_push_of_some _ ho) (fun e he=>(List.not_mem_nil he).elim) (by rw [List.take_zero];exact .refl _) fun h' tk es' ep' t' ks' hk S' hp hE' => ?_
 refine wpAny_pure (wpAny_pure ?_)
 refine wpAny_pure ?_
 dsimp only
 rw [if_neg (by decide)]
 refine wpAny_pure ?_
 refine h h' tk es' ep' t' ks' S' hp hE' fun b o hb' ho=>hk b o (fun q => ?_) (Heap.get?_push_of_some _ (Heap.get?_push_of_some _ ho))
 rw [hsz] at q
 rcases List.mem_cons.mp q with q |q
 ·exact absurd hb' (by rw [q];exact Nat.lt_irrefl _)
 ·have:=List.mem_singleton.mp q;exact absurd hb' (by rw [this];exact Nat.not_lt_of_le (Nat.le_succ _))
end
end ET
end
section
namespace ET
open PySem PySem.Spec PyProof.Rows L2 PySem.W
open EX
section
variable {prog:Program} {w:World} {A:Around} {E:Value->Shared->Prop} {s:Shared}
theorem TsV.pick {h:Heap} {vs:List Value} {kss:List (List Int)} (e:TsV prog w h vs kss) (hne:∀ ks∈kss,ks≠[]):∀ (l:List Nat),(∀ i∈l,i < vs.length)->TsV prog w h (l.map fun i=>vs.getD i Value.none) (l.map fun i=>kss.getD i [])
 |[],_ => .nil
 |i::l,hl=>by
  have hi:=hl i List.mem_cons_self
  obtain ⟨b,h1,h2⟩:=e.get hi
  rw [List.map_cons,List.map_cons,h1]
  refine .cons h2 ?_ (e.pick hne l fun j hj=>hl j (List.mem_cons_of_mem _ hj))
  have hk:i < kss.length:=by rw [← e.len];exact hi
  refine hne _ ?_
  rw [List.getD_eq_getElem?_getD,List.getElem?_eq_getElem hk]
  exact List.getElem_mem hk
theorem TsV.ne {h:Heap} {vs:List Value} {kss:List (List Int)} (e:TsV prog w h vs kss):∀ ks∈kss,ks≠[]:=by
 induction e with
 |nil=>intro ks hk;cases hk
 |cons _ ne _ ih =>
  intro ks hk
  rcases List.mem_cons.mp hk with q |q
  ·rw [q];exact ne
  ·exact ih ks q
theorem PB.mem {n:Nat} {p:Array Nat} (B:PB n p):∀ i∈p.toList,i < n:=fun i hi=>by
 have:=(Array.perm_iff_toList_perm.mp B.perm).mem_iff.mp hi
 simpa using this
theorem qGy {a:Addr} {vs:List Value} {kss:List (List Int)} {n:Nat} {P:PySem.Fin->Shared->Prop} (hu:A.units < cLine) (ho:s.heap.get? a=some (seqObj "list" vs.toArray n)) (V:TsV prog w s.heap vs kss) (h64:vs.length < 64)
  (h:∀ out:List Value,(∀ v∈out,v∈vs)->out.length=vs.length->TsV prog w s.heap out (srt kss)->P (.done (.ret .none)) { s with heap:=sortedHeap s.heap a vs out.toArray }) :
  wpAny (model prog w) A (Builtin.«list.sort» ⟨[.ref a],[]⟩) P E s:=by
 have hna:∀ b,(∃ ks,TK prog w s.heap ks b)->b≠a:=fun b ⟨ks,k⟩ z=>zw ho (show Value.type "list" ≠ Value.type "tuple" by decide) ks (by rw [← z];exact k)
 refine qDm (O:=lxO) (key:=fun i=>kss.getD i []) (κ:=tuples' true) ho h64 (fun h2 h6 Q k q => ?_) (fun h6 i j C k hi hj q => ?_) fun p B S => ?_
 ·exact qGY (s:={ s with heap:=h6 }) (V.keep fun b o z ho=>k b o (hna b z) ho) h2 q
 ·obtain ⟨b,e1,k1⟩:=V.get hi
  obtain ⟨c,e2,k2⟩:=V.get hj
  rw [e1,e2]
  exact qHq (s:={ s with heap:=h6 }) (k1.keep fun o=>k b o (hna b ⟨_,k1⟩)) (k2.keep fun o=>k c o (hna c ⟨_,k2⟩)) q
 ·have:=V.pick V.ne p.toList B.mem
  rw [qG3 V B S] at this
  refine h _ (fun v hv => ?_) (by rw [List.length_map,Array.length_toList,B.size]) this
  obtain ⟨i,hi,rfl⟩:=List.mem_map.mp hv
  have hi:=B.mem i hi
  rw [List.getD_eq_getElem?_getD,List.getElem?_eq_getElem hi]
  exact List.getElem_mem hi
theorem Y3 {a:Addr} {es:Array (Int×Value)} {ep:Nat} {t:SetTable} {kss:List (List Int)} {its:List Value} {Q:Value->Shared->Prop} (hh:A.handled=none) (hu:A.units + 8 < cLine) (S:SetT prog w s.heap a es ep t kss) (hn:kss.length < 64) (hne:∀ ks∈kss,ks≠[]) (hE:∀ e∈es.toList,e.2∈its)
  (h:∀ (h':Heap) (D:Addr) (out:List Value) (e:Nat),s.heap.objs.size≤D->h'.get? D=some (seqObj "list" out.toArray e)->TsV prog w h' out (srt kss)->out.length=kss.length->(∀ v∈out,v∈its)->(∀ b o,s.heap.get? b=some o->h'.get? b=some o)->Q (.ref D) { s with heap:=h' }) :
  wpAny (model prog w) A (call (.builtin "sorted") [.ref a]) Q E s:=by
 have hsz:es.size=kss.length:=by rw [← S.el.len,Array.length_toList]
 have L:SetW w s.heap a es ep t:=⟨S.ex,S.tb,by omega⟩
 refine Calls.call_function_entry kind_sorted plain_sorted entry_sorted (args_sorted1 _) ?_
 unfold Builtin.sorted
 refine wpAny_bind (wpAny_of_eq (a:=()) rfl ?_)
 refine wpAny_bind (qCH (A:=A.in1) hh L fun h1 hk1 hs1 => ?_)
 have hperm:=Yu (w:=w) (a:=a) (ep:=ep) (es:=es)
 have hlen:((wB w a ep es).toList.map (·.2)).length=kss.length:=by rw [List.length_map,Array.length_toList,WY,hsz]
 obtain ⟨kss2,q2,E2⟩:=S.el.perm hperm.symm
 have V1:TsV prog w h1 ((wB w a ep es).toList.map (·.2)) kss2:=by
  have hne2:∀ ks∈kss2,ks≠[]:=fun ks hk=>hne ks (q2.mem_iff.mpr hk)
  have:∀ {l:List (Int×Value)} {k:List (List Int)},EsT prog w s.heap l k->(∀ ks∈k,ks≠[])->TsV prog w h1 (l.map (·.2)) k:=by
   intro l k e
   induction e with
   |nil=>intro _;exact .nil
   |cons a _ ih =>
    intro hn
    exact .cons (a.keep fun o=>hk1 _ o) (hn _ List.mem_cons_self) (ih fun ks hk=>hn ks (List.mem_cons_of_mem _ hk))
  exact this E2 hne2
 refine wpAny_bind (wpAny_newList ?_ (Nat.le_trans (Nat.le_of_eq hlen) (by rw [sizeLine_eq];omega)))
 have hD:(h1.push { cls := .type "list",data := .seq ((wB w a ep es).toList.map (·.2)).toArray }).get? h1.objs.size=some (seqObj "list" ((wB w a ep es).toList.map (·.2)).toArray 0):=Heap.get?_push_size _ rfl
 refine wpAny_bind (wpAny_holding (wpAny_call_entry slot_list_sort ⟨_,hD,rfl⟩ entry_list_sort ?_ (args_list_sort _)))
 refine qGy (s:={ s with heap:=h1.push { cls := .type "list",data := .seq ((wB w a ep es).toList.map (·.2)).toArray } }) (by show A.units + 2 < cLine;omega) hD (V1.keep fun b o _ ho=>Heap.get?_push_of_some _ ho) (by omega) fun out hin hol V2=>⟨_,rfl,?_⟩
 refine wpAny_pure ⟨_,rfl,?_⟩
 obtain ⟨e,he⟩:=sortedHeap_at (vs:=(wB w a ep es).toList.map (·.2)) (out:=out.toArray) hD
 have hkeep:∀ b o,b≠h1.objs.size->(h1.push { cls := .type "list",data := .seq ((wB w a ep es).toList.map (·.2)).toArray }).get? b=some o->b < h1.objs.size->(sortedHeap (h1.push { cls := .type "list",data := .seq ((wB w a ep es).toList.map (·.2)).toArray }) h1.objs.size ((wB w a ep es).toList.map (·.2)) out.toArray).get? b=some o:=fun b o hb ho hlt=>by
  rw [sortedHeap_old hb (by rw [Heap.size_push];exact Nat.lt_succ_of_lt hlt)]
  exact ho
 have es':srt kss2=srt kss:=qAh (zl _) (zl _) (((Qp kss2).trans q2.symm).trans (Qp kss).symm)
 refine h _ _ out e hs1 he ?_ (by omega) (fun v hv => ?_) fun b o' hb => ?_
 ·rw [← es']
  refine V2.keep fun b o ⟨ks,k⟩ ho=>hkeep b o (fun z=>zw hD (show Value.type "list" ≠ Value.type "tuple" by decide) ks (by rw [← z];exact k)) ho ?_
  have hlt:=Heap.lt_size ho
  have hnb:b≠h1.objs.size:=fun z=>zw hD (show Value.type "list" ≠ Value.type "tuple" by decide) ks (by rw [← z];exact k)
  rw [Heap.size_push] at hlt
  have hlt:b < h1.objs.size + 1:=hlt
  exact Nat.lt_of_le_of_ne (Nat.le_of_lt_succ hlt) hnb
 ·obtain ⟨e',he',rfl⟩:=List.mem_map.mp (hin v hv)
  exact hE e' (hperm.mem_iff.mp he')
 ·have hb1:=hk1 b o' hb
  exact hkeep b o' (Nat.ne_of_lt (Heap.lt_size hb1)) (Heap.get?_push_of_some _ hb1) (Heap.lt_size hb1)
end
inductive TsL (K:W.Frag) (H:Hp):List V->List (List Int)->Prop
 |nil:TsL K H [] []
 |cons {a:Addr} {ks:List Int} {xs:List V} {kss:List (List Int)}:SqT K H a (ks.map V.int)->ks≠[]->TsL K H xs kss->TsL K H (.ref a::xs) (ks::kss)
section
variable {X:Cx} {pins:List (Addr×Obj)} {σ:L2.St} {H:Hp} {s:Shared}
theorem jx {prog:Program} {w:World}:∀ {ks:List Int} {its:List Value},Vals (ks.map V.int) its->ItemsAre (intKind prog w) ks its
 |[],its,h=>by
  cases its with
  |nil=>exact .nil
  |cons u us=>cases h
 |k::ks,its,h=>by
  rw [List.map_cons] at h
  cases h with
  |cons r t =>
   obtain ⟨tk,rfl⟩:=(show ∃ t,_=Value.int k t from r)
   exact .cons (intKind_is prog w k tk) (jx t)
theorem qEx (I:L2.Inv X pins σ H s) {a:Addr} {ks:List Int} (h:SqT X.K H a (ks.map V.int)):TK X.prog X.w s.heap ks a:=by
 obtain ⟨its,rv,⟨o,h1,h2,n,h3⟩,hz⟩:=I.tuple h
 exact ⟨o,its.toArray,n,h1,h2,h3,jx rv⟩
theorem JK (I:L2.Inv X pins σ H s) {xs:List V} {kss:List (List Int)} (h:TsL X.K H xs kss):∀ {its:List Value},Vals xs its->TsV X.prog X.w s.heap its kss:=by
 induction h with
 |nil=>intro its hv;cases hv;exact .nil
 | @cons a ks xs kss h1 ne _ ih =>
  intro its hv
  cases hv with
  |cons r t =>
   obtain rfl:=(show _=Value.ref a from r)
   exact .cons (qEx I h1) ne (ih t)
theorem TsL.mem {xs:List V} {kss:List (List Int)} (h:TsL X.K H xs kss):∀ x∈xs,∃ a ks,x = .ref a∧SqT X.K H a (ks.map V.int)∧ks≠[]:=by
 induction h with
 |nil=>intro x hx;cases hx
 |cons h1 ne _ ih =>
  intro x hx
  rcases List.mem_cons.mp hx with q |q
  ·exact ⟨_,_,q,h1,ne⟩
  ·exact ih x q
theorem qBB {xs:List V} {its:List Value} (h:Vals xs its):∀ b,Value.ref b∈its->(∀ x∈xs,∃ a,x=V.ref a)->V.ref b∈xs:=by
 induction h with
 |nil=>intro b hb;cases hb
 | @cons x u xs us r t ih =>
  intro b hb hx
  obtain ⟨a,rfl⟩:=hx _ List.mem_cons_self
  obtain rfl:=(show u=Value.ref a from r)
  rcases List.mem_cons.mp hb with q |q
  ·cases q;exact List.mem_cons_self
  ·exact List.mem_cons_of_mem _ (ih b q fun y hy=>hx y (List.mem_cons_of_mem _ hy))
theorem TsL.zip {xs:List V} {kss:List (List Int)} (h:TsL X.K H xs kss):∀ a,V.ref a∈xs -> ∃ ks,(V.ref a,ks)∈xs.zip kss∧SqT X.K H a (ks.map V.int):=by
 induction h with
 |nil=>intro a hx;cases hx
 | @cons b ks xs kss h1 ne _ ih =>
  intro a hx
  rw [List.zip_cons_cons]
  rcases List.mem_cons.mp hx with q |q
  ·cases q;exact ⟨ks,List.mem_cons_self,h1⟩
  ·obtain ⟨ks,i1,i2⟩:=ih a q
   exact ⟨ks,List.mem_cons_of_mem _ i1,i2⟩
theorem qF4 (I:L2.Inv X pins σ H s) {xs:List V} {kss0:List (List Int)} (T:TsL X.K H xs kss0) {its:List Value} (rv:Vals xs its) {h':Heap} (hk:∀ b o,s.heap.get? b=some o->h'.get? b=some o) :
  ∀ {out:List Value} {kss:List (List Int)},TsV X.prog X.w h' out kss->(∀ v∈out,v∈its) -> ∃ L:List (V×List Int),L.map (·.2)=kss∧Vals (L.map (·.1)) out ∧ ∀ q∈L,q∈xs.zip kss0:=by
 intro out kss V
 induction V with
 |nil=>intro _;exact ⟨[],rfl,.nil,fun y hy=>(List.not_mem_nil hy).elim⟩
 | @cons ks b vs kss k ne _ ih =>
  intro hin
  obtain ⟨L,h1,h2,h3⟩:=ih fun v hv=>hin v (List.mem_cons_of_mem _ hv)
  have hm:=qBB rv b (hin _ List.mem_cons_self) fun x hx=>by obtain ⟨a,_,e,_⟩:=T.mem x hx;exact ⟨a,e⟩
  obtain ⟨ks2,hz,hs⟩:=T.zip b hm
  have k2:TK X.prog X.w h' ks2 b:=(qEx I hs).keep fun o=>hk b o
  have:=k.inj k2
  subst this
  exact ⟨(.ref b,ks)::L,by rw [List.map_cons,h1],.cons rfl h2,fun y hy=>(List.mem_cons.mp hy).elim (fun z=>by rw [z];exact hz) (h3 y)⟩
end
section
variable {X:Cx} {e:Expr} {te:TE} {p p2 pos pos2:Pos}
theorem qAN:∀ {kss acc:List (List Int)},∀ x∈kss.foldl zd acc,x∈acc∨x∈kss
 |[],acc,x,h => .inl h
 |k::kss,acc,x,h=>by
  rw [List.foldl_cons] at h
  rcases qAN x h with q |q
  ·unfold zd at q
   split at q
   ·exact .inl q
   ·rcases List.mem_append.mp q with q |q
    ·exact .inl q
    ·exact .inr (by rw [List.mem_singleton.mp q];exact List.mem_cons_self)
  ·exact .inr (List.mem_cons_of_mem _ q)
def qF1 (K:W.Frag) (te:TE):TE:=fun σ H Q=>te σ H fun x H1 => ∃ a xs kss,x = .ref a∧(SqL K H1 a xs∨SqT K H1 a xs)∧TsL K H1 xs kss∧kss.length≤299∧(ddT kss).length < 64 ∧ ∀ p (L:List (V×List Int)),H1 p=none->(∀ q∈L,q∈xs.zip kss)->L.map (·.2)=srt (ddT kss)->Q (.ref p) (upd H1 p (.lst (L.map (·.1))))
theorem qBl {A:Around} {E:Value->Shared->Prop} {pins:List (Addr×Obj)} {σ:L2.St} {H:Hp} {s:Shared} {Q:Value->Shared->Prop} {a:Addr} {xs:List V} {kss:List (List Int)} (I:L2.Inv X pins σ H s) (hh:A.handled=none) (hu:A.units + 8 < cLine) (hq:SqL X.K H a xs∨SqT X.K H a xs) (T:TsL X.K H xs kss) (h3:kss.length≤299)
  (h:∀ (its:List Value) (h':Heap) (tk:Nat) (es':Array (Int×Value)) (ep':Nat) (t':SetTable) (ks':List (List Int)),Vals xs its->SetT X.prog X.w h' s.heap.objs.size es' ep' t' ks'->ks'.Perm (ddT kss)->(∀ e∈es'.toList,e.2∈its)->(∀ b o,b < s.heap.objs.size->s.heap.get? b=some o->h'.get? b=some o)->Q (.ref s.heap.objs.size) { s with heap:=h',toks:=tk }) :
  wpAny (model X.prog X.w) A (call (.type "set") [.ref a]) Q E s:=by
 rcases hq with hq |hq
 ·obtain ⟨its,rv,ht,hz⟩:=I.list hq
  exact Jk hh hu ht.isList (by simpa using JK I T rv) h3 fun h' tk es' ep' t' ks' S hp hE hk=>h its h' tk es' ep' t' ks' rv S hp (by simpa using hE) hk
 ·obtain ⟨its,rv,ht,hz⟩:=I.tuple hq
  exact JC hh hu ht (by simpa using JK I T rv) h3 fun h' tk es' ep' t' ks' S hp hE hk=>h its h' tk es' ep' t' ks' rv S hp (by simpa using hE) hk
theorem qC5 (hc:X.calm=true) (hu:X.A.units + 64 < cLine) (hg:Gl X "sorted") (hm:X.mg "sorted" = none) (hg2:Gl X "set") (hm2:X.mg "set" = none) (he:PE X e te)
  (h1:starEach [.Call (.Name "set" p2) [e] [] pos2] X.env=(false,eval (.Call (.Name "set" p2) [e] [] pos2) X.env)::starEach [] X.env:=by rfl) (h2:starEach [e] X.env=(false,eval e X.env)::starEach [] X.env:=by rfl) :
  PE X (.Call (.Name "sorted" p) [.Call (.Name "set" p2) [e] [] pos2] [] pos) (qF1 X.K te):=by
 intro pins s σ H Q I h
 refine wpAny_Call_Name_kw (zP I hg hm PyProof.Rows.boot_sorted ?_ (by decide) (by decide))
 refine PyProof.Rows.callWith_builtin1 ?_ h1 rfl
 rw [h1]
 show wpAny _ _ (spliced ((false,eval (.Call (.Name "set" p2) [e] [] pos2) X.env)::[])) _ _ s
 refine Calls.spliced_cons ?_
 refine wpAny_Call_Name_kw (zP I hg2 hm2 PyProof.Rows.Boot.«set» ?_ (by decide) (by decide))
 refine PyProof.Rows.callWith_type1 ?_ h2 rfl
 rw [h2]
 show wpAny _ _ (spliced ((false,eval e X.env)::[])) _ _ s
 refine Calls.spliced_cons (thn (he pins s σ H _ I h) fun u s1 ⟨x,H1,I1,r1,q1⟩=>Calls.spliced_nil ?_)
 obtain ⟨a,xs,kss,rfl,hq,T,h3,h64,q⟩:=q1
 cases r1
 have hh:X.A.handled=none:=I.ok.hd hc
 refine qBl I1 hh (by omega) hq T h3 fun its h' tk es' ep' t' ks' rv S hp hE hk=>Calls.spliced_nil ?_
 have hne:∀ ks∈ks',ks≠[]:=fun ks hks=>by
  rcases qAN ks (hp.mem_iff.mp hks) with z |z
  ·cases z
  ·exact (JK I1 T rv).ne ks z
 refine Y3 (s:={ s1 with heap:=h',toks:=tk }) hh (by omega) S (by rw [hp.length_eq];exact h64) hne hE fun h3 D out e' hD hg3 V hol hin hk3 => ?_
 have es:srt ks'=srt (ddT kss):=qAh (zl _) (zl _) (((Qp ks').trans hp).trans (Qp _).symm)
 rw [es] at V
 have hSz:s1.heap.objs.size≤h'.objs.size:=by obtain ⟨o,ho,_⟩:=S.ex;exact Nat.le_of_lt (Heap.lt_size ho)
 have hDz:s1.heap.objs.size≤D:=Nat.le_trans hSz hD
 obtain ⟨L,lk,rv2,hin2⟩:=qF4 I1 T rv (h':=h3) (fun b ob hb=>hk3 b ob (hk b ob (Heap.lt_size hb) hb)) V hin
 have hlen:(L.map (·.1)).length≤sizeLine:=by rw [rv2.length,hol,hp.length_eq,sizeLine_eq];omega
 refine ⟨.ref D,_,I1.laid (t':=tk) (h':=h3) (o := .lst (L.map (·.1))) (fun b ob hb=>hk3 b ob (hk b ob (Heap.lt_size hb) hb)) hDz ⟨hlen,out,e',rv2,by simpa using hg3⟩,rfl,q _ L (I1.hok.fresh hDz) hin2 lk⟩
end
open EX
end ET
namespace EV
open PySem PySem.Spec PyProof.Rows L2 EX ET
def Y7:PV->Option (List Int)
 | .tup (p::l)=>wk qD6 (p::l)
 |_=>none
def Yj (ks:List Int):PV := .tup (ks.map PV.int)
section
variable {K:W.Frag} {H:Hp} {b:Bz}
theorem qEb {p:PV} {v:V} {ks:List Int} (r:RV K H b p v) (h:Y7 p=some ks):∃ a,v = .ref a∧SqT K H a (ks.map V.int)∧ks≠[]∧RV K H b (Yj ks) v:=by
 unfold Y7 at h
 split at h
 ·rename_i p l
  have r':=r
  unfold RV at r
  obtain ⟨a,xs,rfl,h2,h3⟩:=r
  have e:=YF h3 h
  subst e
  refine ⟨a,rfl,h2.sq,?_,?_⟩
  ·intro z
   subst z
   have:=h3.length
   simp at this
  ·unfold Yj RV
   exact ⟨a,ks.map V.int,rfl,h2,W3 ks⟩
 ·cases h
theorem qCs:∀ {l:List PV} {xs:List V} {kss:List (List Int)},RVs K H b l xs->wk Y7 l=some kss->TsL K H xs kss ∧ ∀ q∈xs.zip kss,RV K H b (Yj q.2) q.1
 |[],xs,kss,r,h=>by
  unfold RVs at r;subst r
  cases h
  exact ⟨.nil,fun q hq=>(List.not_mem_nil hq).elim⟩
 |p::l,xs,kss,r,h=>by
  unfold RVs at r
  obtain ⟨x,t,rfl,h2,h3⟩:=r
  unfold wk at h
  cases e1:Y7 p with
  |none=>rw [e1] at h;cases h
  |some ks =>
   rw [e1] at h
   dsimp only at h
   cases e2:wk Y7 l with
   |none=>rw [e2] at h;cases h
   |some kss' =>
    rw [e2] at h
    cases h
    obtain ⟨a,rfl,h4,h5,h6⟩:=qEb h2 e1
    obtain ⟨i1,i2⟩:=qCs h3 e2
    refine ⟨.cons h4 h5 i1,fun q hq => ?_⟩
    rw [List.zip_cons_cons] at hq
    rcases List.mem_cons.mp hq with z |z
    ·rw [z];exact h6
    ·exact i2 q z
theorem ym {xs:List V} {kss:List (List Int)} (hr:∀ q∈xs.zip kss,RV K H b (Yj q.2) q.1):∀ {L:List (V×List Int)},(∀ q∈L,q∈xs.zip kss)->RVs K H b ((L.map (·.2)).map Yj) (L.map (·.1))
 |[],_=>RVs.nil
 |q::L,h=>by
  rw [List.map_cons,List.map_cons,List.map_cons]
  exact RVs.cons (hr q (h q List.mem_cons_self)) (ym hr fun y hy=>h y (List.mem_cons_of_mem _ hy))
end
section
variable {X:Cx} {E:XK} {e:Expr} {f:FE} {p p2 pos pos2:Pos}
def Zp:PV->qC->Rs PV:=fun q st=>match wY st q with
 |some l=>match wk Y7 l with
  |some kss=>if kss.length≤299∧(ddT kss).length < 64 then .ok (.lst ((srt (ddT kss)).map Yj)) st else .no
  |none => .no
 |none => .no
def YG (f:FE):FE:=fun r st=>(f r st).bind Zp
theorem qCI (hc:X.calm=true) (hu:X.A.units + 64 < cLine) (hm:X.mg "sorted" = none) (hm2:X.mg "set" = none) (h:VE X E e f) (hg:Gl X "sorted" := by rfl) (hg2:Gl X "set" := by rfl)
  (h1:starEach [.Call (.Name "set" p2) [e] [] pos2] X.env=(false,eval (.Call (.Name "set" p2) [e] [] pos2) X.env)::starEach [] X.env:=by rfl) (h2:starEach [e] X.env=(false,eval e X.env)::starEach [] X.env:=by rfl) :
  VE X E (.Call (.Name "sorted" p) [.Call (.Name "set" p2) [e] [] pos2] [] pos) (YG f) :=
 PE.imp (qC5 hc hu hg hm hg2 hm2 h h1 h2) fun s H Q ⟨b,r,st,S,R,P⟩=>⟨b,r,st,S,R,PostE.bind P fun q s1 u H1 b1 e1 S1 r1 P1=>by
  unfold Zp at P1
  split at P1
  ·rename_i l el
   split at P1
   ·rename_i kss ek
    split at P1
    ·rename_i hn
     obtain ⟨x,xs,rfl,h2,h3⟩:=ZU S1 r1 el
     obtain ⟨T,hr⟩:=qCs h3 ek
     exact ⟨x,xs,kss,rfl,h2,T,hn.1,hn.2,fun p L hp hin hL=>PostN.lay (PostN.of (r := .ok ((srt (ddT kss)).map Yj) s1) P1) S1 (by rw [← hL];exact ym hr hin) hp⟩
    ·exact P1.elim
   ·exact P1.elim
  ·exact P1.elim⟩
end
end EV
end
section
namespace EV
open PySem PySem.Spec PyProof.Rows L2 EX ET
section
variable {X:Cx} {E:XK} {e a c d o i:Expr} {es:List Expr} {f fa fb fc fo fi:FE} {fl:FL} {pos:Pos} {F G:FS}
def qEv (K:W.Frag):V->V->Hp->VK->Prop:=fun x y H Q => ∃ p xs k v,x = .ref p∧y = .int k∧SqL K H p xs∧0≤k∧xs[k.toNat]? = some v∧Q v H
theorem qDT:qHU X (qEv X.K):=by
 intro pins s σ H o i ov iv Q I ro ri h
 obtain ⟨p,xs,k,v,rfl,rfl,hq,h0,hv,q⟩:=h
 cases ro
 obtain ⟨t,rfl⟩:=ri
 obtain ⟨its,r,pl,hz⟩:=I.list hq
 obtain ⟨w,ew,rw'⟩:=r.get hv
 have hn:=zN
 have hk:=(List.getElem?_eq_some_iff.mp hv).1
 exact wpAny_getItem_list pl.isList h0 (by omega) (by simpa using ew) ⟨v,H,I,rw',q⟩
def qAq (st:qC) (o i:PV):Option Int:=match o,i with
 | .ref n,.int k=>match st[n]? with
  |some (.l xs)=>if 0≤k then match xs[k.toNat]? with
    |some (.int x)=>some x
    |_=>none
   else none
  |_=>none
 |_,_=>none
theorem qDn {K:W.Frag} {H:Hp} {b:Bz} {st:qC} {o i:PV} {ov iv:V} {x:Int} {Q:VK} (S:SR K H b st) (ro:RV K H b o ov) (ri:RV K H b i iv) (e:qAq st o i=some x) (q:Q (.int x) H):qEv K ov iv H Q:=by
 unfold qAq at e
 split at e
 ·rename_i n k
  split at e
  ·rename_i xs e1
   split at e
   ·rename_i h0
    split at e
    ·rename_i y e2
     cases e
     unfold RV at ro ri
     obtain ⟨a,rfl,ha⟩:=ro
     obtain ⟨a',o',h1,h2,vs,rfl,h4⟩:=S.at_ n _ e1
     rw [ha] at h1;cases h1
     obtain ⟨y,hy,ry⟩:=h4.get e2
     unfold RV at ry
     subst ry
     exact ⟨a,vs,k,_,rfl,ri,SqL.of h2,h0,hy,q⟩
    ·cases e
   ·cases e
  ·cases e
 ·cases e
def Zq (fo fi f:FE):FS:=fun r st=>(fo r st).bindS fun o s1=>(fi r s1).bindS fun i s2=>match qAq s2 o i with
 |some x=>(f r s2).bindS fun p s3=>match p with
  | .int y=>match Wr s3 o i (.int (x + y)) with
   |some s4 => .nx r s4
   |none => .no
  |_ => .no
 |none => .no
theorem qER {tpos:Pos} (ho:VE X E o fo) (hi:VE X E i fi) (h:VE X E e f)
  (ha:∀ ov iv new,augStore i ov iv new=(do holding [new,ov,iv] (setItem ov iv new);release [new,ov,iv] [];pure .next):=by intros;rfl):VS X E (.AugAssign (.Subscript o i tpos) .Add e pos) (Zq fo fi f) :=
 PS.imp (qD7 ho hi qDT h qFG Yv ha) fun D s H ⟨b,r,st,S,R,P⟩=>⟨b,r,st,S,R,PostE.bindS P fun o s1 u H1 b1 e1 S1 r1 P1 =>
  ⟨b1,r,s1,S1,R.ext e1,PostE.bindS P1 fun i s2 iu H2 b2 e2 S2 r2 P2=>by
   split at P2
   ·rename_i x ex
    refine qDn S2 (RV.ext e2 o r1) r2 ex ⟨b2,r,s2,S2,(R.ext e1).ext e2,PostE.bindS P2 fun p s3 pu H3 b3 e3 S3 r3 P3 => ?_⟩
    split at P3
    ·rename_i y
     unfold RV at r3
     subst r3
     split at P3
     ·rename_i s4 e4
      exact ⟨x,y,rfl,rfl,jQ S3 (RV.ext e3 o (RV.ext e2 o r1)) (RV.ext e3 i r2) Qj e4 fun H' b' e' S'=>P3 s H' b' e' S' ((((R.ext e1).ext e2).ext e3).ext e')⟩
     ·exact P3.elim
    ·exact P3.elim
   ·exact P2.elim⟩⟩
def yE (fo f:FE):FE:=fun r st=>(fo r st).bind fun o s=>match o with
 | .ref n=>if lk s (.ref n)=true then (f r s).bind fun p s2=>match p,s2[n]? with
   | .int k,some (.l xs)=>if 0≤k∧k < 1048576 then match xs[k.toNat]? with
     |some y => .ok y (s2.set n (.l (xs.eraseIdx k.toNat)))
     |none => .no
    else .no
   |_,_ => .no
  else .no
 |_ => .no
theorem qDP {apos cpos:Pos} (ho:VE X E o fo) (h:VE X E e f)
  (hbase:attributeBase o "pop" X.env (eval o X.env)=eval o X.env:=by rfl)
  (hfew:((backTo cpos (starEach [e] X.env)).all (fun x => !x.1)&&(backToKw cpos (keywordEach [] X.env)).all (fun x=>x.1.isSome)&&decide ([e].length + ([]:List Keyword).length + (if ([]:List Keyword).isEmpty then 0 else 1) < 30))=true:=by rfl)
  (hline:(apos.endLine==cpos.line)=true:=by rfl) (h1:starEach [e] X.env=(false,eval e X.env)::starEach [] X.env:=by rfl) (hplain:(backTo cpos (starEach [] X.env)).any (·.1)=false:=by rfl) :
  VE X E (.Call (.Attribute o "pop" apos) [e] [] cpos) (yE fo f) :=
 PE.imp (qDB PySem.F.plainAttrs_list PySem.F.slot_list_pop PySem.F.type_list_pop qBy ho (ZX h YS h1) hbase hfew hline h1 hplain) fun s H Q ⟨b,r,st,S,R,P⟩=>⟨b,r,st,S,R,PostE.bind P fun o s1 u H1 b1 e1 S1 r1 P1=>by
  cases o with
  |ref n =>
   have P1:PostE X.K E H1 b1 (if lk s1 (.ref n)=true then ((f r s1).bind fun p s2=>match p,s2[n]? with
    | .int k,some (.l xs)=>if 0≤k∧k < 1048576 then match xs[k.toNat]? with
      |some y => .ok y (s2.set n (.l (xs.eraseIdx k.toNat)))
      |none => .no
     else .no
    |_,_ => .no) else .no) Q:=P1
   by_cases hlk:lk s1 (.ref n)=true
   rotate_left
   ·rw [if_neg hlk] at P1;exact P1.elim
   rw [if_pos hlk] at P1
   have r1':=r1
   unfold RV at r1
   obtain ⟨x,rfl,hx⟩:=r1
   refine ⟨?_,b1,r,s1,S1,R.ext e1,PostE.bind P1 fun p s2 pu H2 b2 e2 S2 r2 P2 => ?_⟩
   ·have hl:n < s1.length:=by rw [← S1.len];exact (List.getElem?_eq_some_iff.mp hx).1
    obtain ⟨a',o',h3,h4,h5⟩:=S1.at_ n _ (List.getElem?_eq_getElem hl)
    rw [hx] at h3;cases h3
    cases hq:s1[n] with
    |l xs=>rw [hq] at h5;obtain ⟨vs,e,_⟩:=h5;subst e;exact .inl ⟨rfl,vs,SqL.of h4⟩
    |z xs=>unfold lk at hlk;dsimp only at hlk;rw [List.getElem?_eq_getElem hl,hq] at hlk;cases hlk
    |d xs=>unfold lk at hlk;dsimp only at hlk;rw [List.getElem?_eq_getElem hl,hq] at hlk;cases hlk
   ·split at P2
    ·rename_i k xs ex
     split at P2
     ·rename_i h0
      split at P2
      ·rename_i y ey
       unfold RV at r2
       subst r2
       have hx2:=e2.ix hx
       obtain ⟨x',o',h3,h2,vs,rfl,h4⟩:=S2.at_ n _ ex
       rw [hx2] at h3;cases h3
       obtain ⟨z,hz,rz⟩:=h4.get ey
       have hm:x∈b2.b:=List.mem_of_getElem? hx2
       have ew:Ext H2 b2 (upd H2 x (.lst (vs.eraseIdx k.toNat))) b2:=Ext.wr hm S2.zb (qDg h2)
       have hlt:=(List.getElem?_eq_some_iff.mp hz).1
       exact ⟨x,vs,k,k.toNat,z,rfl,rfl,h2,by omega,by omega,by rw [seqIndex_of h0.1 (by omega)],hz,P2 z _ b2 ew (S2.wr (x := .l (xs.eraseIdx k.toNat)) hx2 ⟨_,rfl,(RVs.ext ew xs h4).erase _⟩) (RV.ext ew y rz)⟩
      ·exact P2.elim
     ·exact P2.elim
    ·exact P2.elim
  |_=>exact P1.elim⟩
end
end EV
end
section
namespace K12
open PySem PySem.Spec PyProof.Rows L2 EX EV
structure Ad where
 (BarError NoLength NoNumber NoBars NoBox NoWeights NoSorts NoTurn NoPlace NoText NoRow TooMany:Addr)
 (is_whole is_whole_within is_length need_length rests first_apart sums_of law_cell law_box law_take law_kind law_same law_no_length law_cover law_put law_floor law_rests law_apart law_asked law:Addr)
def kitTab:List ((String×String)×Bool):=[(("NoneType","int"),false),(("NoneType","bool"),false),(("NoneType","tuple"),false),(("NoneType","list"),false),(("int","int"),true),(("int","bool"),false),(("int","tuple"),false),(("int","list"),false),(("bool","int"),true),(("bool","bool"),true),(("bool","tuple"),false),(("bool","list"),false),(("str","int"),false),(("str","bool"),false),(("str","tuple"),false),(("str","list"),false),(("tuple","int"),false),(("tuple","bool"),false),(("tuple","tuple"),true),(("tuple","list"),false),(("list","int"),false),(("list","bool"),false),(("list","tuple"),false),(("list","list"),true),(("dict","int"),false),(("dict","bool"),false),(("dict","tuple"),false),(("dict","list"),false)]
def qHr (s T:String):Option Bool:=kitTab.lookup (s,T)
def Ad.kinds (a:Ad):List Addr:=[a.NoLength,a.NoNumber,a.NoBars,a.NoBox,a.NoWeights,a.NoSorts,a.NoTurn,a.NoPlace,a.NoText,a.NoRow,a.TooMany]
def Dist (a:Ad):Prop:=a.kinds.Nodup∧a.sums_of≠a.first_apart
instance (a:Ad):Decidable (Dist a):=by unfold Dist;infer_instance
theorem Dist.nd {a:Ad} (h:Dist a):a.kinds.Nodup:=h.1
def Qi (a:Ad):List Addr:=[a.NoLength]
def kit (a:Ad):Value->Value->Option Bool
 | .type s,.type T=>qHr s T
 | .ref x,.ref d=>if x∈Qi a∧d∈a.kinds then some (x==d) else none
 | .ref x,.type T=>if x∈Qi a∧T = "ValueError" then some true else none
 |_,_=>none
def top (i:Nat):Stmt:=PySem.Challenge.pw_barfloors_k12_sums_or_rests_apart.main.body.getD i (.Pass ⟨0,0,0,0⟩)
abbrev wU:Stmt:=top 16
abbrev QE:Stmt:=top 17
abbrev wI:Stmt:=top 18
abbrev QV:Stmt:=top 19
abbrev Wo:Stmt:=top 21
abbrev Qr:Stmt:=top 22
abbrev ww:Stmt:=top 23
abbrev wb:Stmt:=top 25
abbrev wx:Stmt:=top 26
abbrev wZ:Stmt:=top 27
abbrev wS:Stmt:=top 28
abbrev wE:Stmt:=top 29
abbrev QP:Stmt:=top 30
abbrev Q2:Stmt:=top 31
abbrev wX:Stmt:=top 32
abbrev Q1:Stmt:=top 33
abbrev wF:Stmt:=top 34
abbrev wH:Stmt:=top 35
abbrev Q0:Stmt:=top 36
abbrev Wp:Stmt:=top 37
noncomputable def Zh (a:Ad):FS:=(qq (Ym (qI (Qa (kit a)) (qA (qB 0) (qA (vC (.ty "int")) qD))) (qHJ (qI (Qa (kit a)) (qA (qB 0) (qA (vC (.ty "bool")) qD))))))
noncomputable def zQ (a:Ad):List PV->qC->Rs PV:=QL 1 1 (Zh a)
noncomputable def wL (a:Ad):FS:=(qq (Ym (qI (zQ a) (qA (qB 0) qD)) (qDA gLe gLe (qB 1) (qB 0) (qB 2))))
noncomputable def wO (a:Ad):List PV->qC->Rs PV:=QL 3 3 (wL a)
noncomputable def W4 (a:Ad):FS:=(qq (qI (wO a) (qA (qB 0) (qA (vC (.int 2)) (qA (vC (.int 5)) qD)))))
noncomputable def W9 (a:Ad):List PV->qC->Rs PV:=QL 1 1 (W4 a)
noncomputable def WR (a:Ad):FS:=(Qz (Wv (wW (qI (W9 a) (qA (qB 0) qD)))) (YO a.NoLength (qA (vJ [(vC (.str "a length is a whole number from ")),(qGb (vC (.int 2))),(vC (.str " to ")),(qGb (vC (.int 5)))] Str.empty) qD)) Qg)
noncomputable def Qt (a:Ad):List PV->qC->Rs PV:=QL 1 1 (WR a)
noncomputable def qAO (a:Ad):FS:=(qP (Wh (qI (Qt a) (qA (qB 1) qD))) (qP (wa 2 (qg [1] 1 (QH (qA (qB 1) qD)) (Qe 1) [] [] (vMk (Y0 (Qn (qA (vC (.int 0)) qD)) (qB 0))))) (qP (wG (QR (qB 0)) (jw 2 (Wc (QD 3) (Wc (QD 4) JQ))) (Zq (qG gIx (qB 2) (qG WG (qB 3) (qB 1))) (qG WG (qB 4) (qB 1)) (vC (.int 1)))) (qq (qB 2)))))
noncomputable def zZ (a:Ad):List PV->qC->Rs PV:=QL 2 5 (qAO a)
noncomputable def zI (a:Ad):FS:=(qP (qX 2 (qI (zZ a) (qA (qB 0) (qA (qB 1) qD)))) (qP (wG (QH (qA (qB 1) qD)) (QD 3) (wG (QH (qA (qB 1) qD)) (QD 4) (qP (qX 5 (qG qz (qG gIx (qG gIx (qB 2) (qB 3)) (vC (.int 0))) (qG gIx (qG gIx (qB 2) (vC (.int 0))) (qB 4)))) (Qz (vTB (qG gNe (qG qz (qG gIx (qG gIx (qB 2) (qB 3)) (qB 4)) (qG gIx (qG gIx (qB 2) (vC (.int 0))) (vC (.int 0)))) (qB 5))) (qq (WC (qA (qB 3) (qA (qB 4) qD)))) Qg)))) (qq (vC .non))))
noncomputable def QY (a:Ad):List PV->qC->Rs PV:=QL 2 6 (zI a)
noncomputable def yq (a:Ad):FS:=(qP (Qz (vTB (qG (yM true) (qI (QY a) (qA (qB 0) (qA (qB 1) qD))) (vC .non))) (qq (vC .non)) Qg) (qP (qX 2 (qI (zZ a) (qA (qB 0) (qA (qB 1) qD)))) (qq (WC (qA (vMk (qg [] 1 (QR (qB 2)) (Qe 0) [] [] (qG gIx (qB 0) (vC (.int 0))))) (qA (vMk (qg [2] 1 (QR (qG gIx (qB 2) (vC (.int 0)))) (Qe 1) [] [] (qG zW (qB 1) (qG gIx (qG gIx (qB 0) (vC (.int 0))) (vC (.int 0)))))) qD))))))
noncomputable def wz (a:Ad):List PV->qC->Rs PV:=QL 2 3 (yq a)
noncomputable def tbl (a:Ad):List (Addr×(List PV->qC->Rs PV)):=[(a.sums_of,wz a),(a.first_apart,QY a)]
noncomputable def Wn (a:Ad):FS:=(qP (Qz (vTB (qG gLt (qB 1) (qI WJ (qA (qB 0) qD)))) (qq (qG gIx (qB 0) (qB 1))) Qg) (qq (qG qz (qG Wz (vC (.int 6151)) (qB 1)) (vC (.int 29)))))
noncomputable def Wj (a:Ad):List PV->qC->Rs PV:=QL 2 2 (Wn a)
noncomputable def zF (a:Ad):FS:=(qP (qX 2 (qI (Wj a) (qA (qB 0) (qA (qB 1) qD)))) (qP (Qz (vTB (qG gEq (qG WG (qB 2) (vC (.int 2))) (vC (.int 0)))) (Zm (Qn (qA (qG qEA (qB 2) (vC (.int 2))) qD))) Qg) (qP (qX 3 (vC (.int 0))) (qP (qX 4 (qG WG (qB 2) (vC (.int 2147483647)))) (qP (wG (QH (qA (vC (.int 24)) qD)) (QD 5) (qP (qX 4 (qG WG (qG qz (qG qz (qG qz (qG Wz (qB 4) (vC (.int 48271))) (qG Wz (qG Wz (vC (.int 7)) (qB 5)) (qB 5))) (qG Wz (vC (.int 11)) (qB 1))) (vC (.int 1))) (vC (.int 2147483647)))) (qX 3 (qG qz (qG Wz (qB 3) (vC (.int 2147483647))) (qB 4))))) (Zm (Qn (qA (qB 3) qD))))))))
noncomputable def zE (a:Ad):List PV->qC->Rs PV:=QL 2 6 (zF a)
noncomputable def zT (a:Ad):FS:=(qP (qX 2 (qG WG (qG gIx (qB 0) (vC (.int 0))) (qB 1))) (qP (Z1 (qB 0) (vC (.int 0)) (qG qAE (qG gIx (qB 0) (vC (.int 0))) (qB 1))) (qq (qB 2))))
noncomputable def qQ (a:Ad):List PV->qC->Rs PV:=QL 2 3 (zT a)
noncomputable def zV (a:Ad):FS:=(qP (qX 1 (vFz (Qn (qA (qI (Qa (kit a)) (qA (qB 0) (qA (vC (.fn a.NoLength)) qD))) (qA (qI (Qa (kit a)) (qA (qB 0) (qA (vC (.fn a.NoNumber)) qD))) (qA (qI (Qa (kit a)) (qA (qB 0) (qA (vC (.fn a.NoBars)) qD))) (qA (qI (Qa (kit a)) (qA (qB 0) (qA (vC (.fn a.NoBox)) qD))) qD))))))) (qP (qX 1 (vFz (zR (qB 1) (vFz (Qn (qA (qI (Qa (kit a)) (qA (qB 0) (qA (vC (.fn a.NoWeights)) qD))) (qA (qI (Qa (kit a)) (qA (qB 0) (qA (vC (.fn a.NoSorts)) qD))) (qA (qI (Qa (kit a)) (qA (qB 0) (qA (vC (.fn a.NoTurn)) qD))) (qA (qI (Qa (kit a)) (qA (qB 0) (qA (vC (.fn a.NoPlace)) qD))) qD))))))))) (qP (qX 1 (vFz (zR (qB 1) (vFz (Qn (qA (qI (Qa (kit a)) (qA (qB 0) (qA (vC (.fn a.NoText)) qD))) (qA (qI (Qa (kit a)) (qA (qB 0) (qA (vC (.fn a.NoRow)) qD))) (qA (qI (Qa (kit a)) (qA (qB 0) (qA (vC (.fn a.TooMany)) qD))) qD)))))))) (qP (Qz (ZA (Wv (wW (qI (Qa (kit a)) (qA (qB 0) (qA (vC (.ty "ValueError")) qD))))) (vTB (qG gNe (qI qDs (qA (vFz (qg [] 1 (QR (qB 1)) (Qe 0) [] [] (qI qCF (qA (qB 0) qD)))) qD)) (vC (.int 1))))) (qq (vC (.str "! none of the classes"))) Qg) (qP (qX 2 (vFz (Qn (qA (vC (.str "length")) (qA (vC (.str "number")) (qA (vC (.str "bars")) (qA (vC (.str "box")) (qA (vC (.str "weights")) (qA (vC (.str "sorts")) (qA (vC (.str "turn")) (qA (vC (.str "place")) (qA (vC (.str "text")) (qA (vC (.str "row")) (qA (vC (.str "many")) qD)))))))))))))) (qq (qG qF0 (vC (.str "! ")) (qG gIx (qB 2) (qHf (qB 1) (vC (.bl true)))))))))))
noncomputable def zU (a:Ad):List PV->qC->Rs PV:=QL 1 3 (zV a)
noncomputable def QU (a:Ad) (rec:List PV->qC->Rs PV):FS:=(qP (Qz (wW (qI (Qa (kit a)) (qA (qB 1) (qA (WC (qA (vC (.ty "tuple")) (qA (vC (.ty "list")) qD))) qD)))) (qP (Qz (ZA (vTB (qG gNe (qI (Qa (kit a)) (qA (qB 0) (qA (vC (.ty "tuple")) qD))) (qI (Qa (kit a)) (qA (qB 1) (qA (vC (.ty "tuple")) qD))))) (vTB (qG gNe (qI (Qa (kit a)) (qA (qB 0) (qA (vC (.ty "list")) qD))) (qI (Qa (kit a)) (qA (qB 1) (qA (vC (.ty "list")) qD)))))) (qq (vC (.bl false))) Qg) (qq (Ym (qG gEq (qI WJ (qA (qB 0) qD)) (qI WJ (qA (qB 1) qD))) (qI jk (qA (vFz (qg [] 2 (qAZ (qA (qB 0) (qA (qB 1) qD))) (jw 2 (Wc (Qe 0) (Wc (Qe 1) JQ))) [] [] (qI rec (qA (qB 0) (qA (qB 1) qD))))) qD))))) Qg) (qq (Ym (qG gEq (qB 0) (qB 1)) (qG gEq (qI (Qa (kit a)) (qA (qB 0) (qA (vC (.ty "bool")) qD))) (qI (Qa (kit a)) (qA (qB 1) (qA (vC (.ty "bool")) qD)))))))
noncomputable def qW:Nat->Ad->List PV->qC->Rs PV
 |0,_=>fun _ _ => .no
 |n + 1,a=>QL 2 2 (QU a (qW n a))
noncomputable def wp (a:Ad):FS:=(qq (qG gIx (vFz (Qn (qA (vC (.int 1)) (qA (vC (.int 6)) (qA (vC (.int 0)) (qA (qHH (vC (.int 2))) (qA (vC (.bl true)) (qA (vC .non) (qA (vC (.str "3")) (qA (WC (qA (vC (.int 2)) qD)) (qA (vFz (Qn (qA (vC (.int 3)) qD))) (qA (qG qHO (vC (.int 10)) (vC (.int 39))) qD)))))))))))) (qI (qQ a) (qA (qB 0) (qA (vC (.int 10)) qD)))))
noncomputable def Qq (a:Ad):List PV->qC->Rs PV:=QL 1 1 (wp a)
noncomputable def W2 (a:Ad):FS:=(qP (qAD (qB 0) (jw 3 (Wc (QD 2) (Wc (QD 3) (Wc (QD 4) JQ))))) (qP (Qz (vTB (qG gEq (qB 4) (vC (.int 0)))) (qq (vFz (qg [2,3] 1 (QH (qA (qB 1) qD)) (Qe 2) [] [] (WC (qA (qB 0) (qA (qG qz (qB 1) (qB 2)) qD)))))) Qg) (qq (vFz (qg [3,2] 1 (QH (qA (qB 1) qD)) (Qe 2) [] [] (WC (qA (qG qz (qB 1) (qB 2)) (qA (qB 0) qD))))))))
noncomputable def WL (a:Ad):List PV->qC->Rs PV:=QL 2 5 (W2 a)
noncomputable def zq (a:Ad):FS:=(qP (wa 2 (Qn qD)) (qP (wG (QH (qA (qG qz (vC (.int 1)) (qI (qQ a) (qA (qB 0) (qA (vC (.int 8)) qD)))) qD)) (QD 3) (qP (qX 4 (qI (qQ a) (qA (qB 0) (qA (vC (.int 2)) qD)))) (qP (Z7 5 6 (qA (qI (qQ a) (qA (qB 0) (qA (qG zW (vC (.int 9)) (qG gIx (vFz (Qn (qA (vC (.int 1)) (qA (qB 1) qD)))) (qB 4))) qD))) (qA (qI (qQ a) (qA (qB 0) (qA (qG zW (vC (.int 9)) (qG gIx (vFz (Qn (qA (qB 1) (qA (vC (.int 1)) qD)))) (qB 4))) qD))) qD))) (qP (qX 7 (qI (WL a) (qA (WC (qA (qB 5) (qA (qB 6) (qA (qB 4) qD)))) (qA (qB 1) qD)))) (Qz (Ws (vTB (qG gEq (vFz (qg [2] 1 (QR (qB 7)) (Qe 1) [(vTB (qG (gIn false) (qB 1) (qB 0)))] [] (qB 1))) (vFz (Qn qD)))) (vTB (qG gLe (qG qz (qI WJ (qA (qB 2) qD)) (qB 1)) (vC (.int 40))))) (wa 2 (zR (qB 2) (qB 7))) Qg))))) (qq (qB 2))))
noncomputable def zy (a:Ad):List PV->qC->Rs PV:=QL 2 8 (zq a)
noncomputable def wg (a:Ad):FS:=(qP (qX 2 (qI (qQ a) (qA (qB 0) (qA (vC (.int 6)) qD)))) (qP (Z7 3 4 (qA (qG qz (vC (.int 1)) (qI (qQ a) (qA (qB 0) (qA (vC (.int 8)) qD)))) (qA (qG qz (vC (.int 1)) (qI (qQ a) (qA (qB 0) (qA (vC (.int 8)) qD)))) qD))) (qP (Qz (vTB (qG gGt (qB 2) (vC (.int 2)))) (qP (qX 5 (qI (zy a) (qA (qB 0) (qA (qB 1) qD)))) (qP (Qz (vTB (qG gEq (qB 2) (vC (.int 5)))) (qP (Wh (yE (qB 5) (qI (qQ a) (qA (qB 0) (qA (qI WJ (qA (qB 5) qD)) qD))))) (qX 5 (vFz (zR (qB 5) (vFz (qg [0] 1 (QH (qA (qI (qQ a) (qA (qB 0) (qA (vC (.int 2)) qD))) qD)) (Qe 1) [] [] (WC (qA (qI (qQ a) (qA (qB 0) (qA (vC (.int 8)) qD))) (qA (qI (qQ a) (qA (qB 0) (qA (vC (.int 8)) qD))) qD))))))))) Qg) (qq (qI zO (qA (YG (qB 5)) qD))))) Qg) (qP (qX 5 (vFz (Qn qD))) (qP (wG (QH (qA (qB 3) qD)) (QD 6) (qX 5 (vFz (zR (qB 5) (vFz (qg [6,2,0] 1 (QH (qA (qB 4) qD)) (Qe 3) [(ZA (vTB (qG gEq (qB 1) (vC (.int 1)))) (vTB (qG gNe (qI (qQ a) (qA (qB 2) (qA (qG gIx (vFz (Qn (qA (vC (.int 4)) (qA (vC (.int 1)) (qA (vC (.int 9)) qD))))) (qB 1)) qD))) (vC (.int 1)))))] [] (WC (qA (qB 0) (qA (qB 3) qD))))))))) (qq (qI zO (qA (vIf (vTB (qG gLt (qB 2) (vC (.int 2)))) (Jc (qB 5) Zk (Ww (vC (.int 40)))) (Jc (qB 5) Zk (Ww (qI (qQ a) (qA (qB 0) (qA (vC (.int 8)) qD)))))) qD))))))))
noncomputable def wl (a:Ad):List PV->qC->Rs PV:=QL 2 7 (wg a)
noncomputable def ZH (a:Ad):FS:=(qP (wa 2 (Qn qD)) (qP (wG (QH (qA (qB 1) qD)) (QD 3) (qP (wa 4 (Qn qD)) (qP (wG (QH (qA (qB 1) qD)) (QD 5) (wQ (qB 4) (qI WJ (qA (vFz (qg [3,5,1] 1 (QR (qB 0)) (Qe 3) [(Ws (vTB (qG gEq (qG WG (qG gIx (qB 3) (vC (.int 0))) (qB 2)) (qB 0))) (vTB (qG gEq (qG WG (qG gIx (qB 3) (vC (.int 1))) (qB 2)) (qB 1))))] [] (qB 3))) qD)))) (wQ (qB 2) (qB 4))))) (qq (qB 2))))
noncomputable def WM (a:Ad):List PV->qC->Rs PV:=QL 2 6 (ZH a)
noncomputable def ZJ (a:Ad):FS:=(qP (wG (QH (qA (qI WJ (qA (qB 0) qD)) qD)) (QD 1) (wG (QH (qA (qI WJ (qA (qB 0) qD)) qD)) (QD 2) (qP (qX 3 (qG qz (qG gIx (qG gIx (qB 0) (qB 1)) (qB 2)) (qG gIx (qG gIx (qB 0) (vC (.int 0))) (vC (.int 0))))) (Qz (vTB (qG gNe (qB 3) (qG qz (qG gIx (qG gIx (qB 0) (qB 1)) (vC (.int 0))) (qG gIx (qG gIx (qB 0) (vC (.int 0))) (qB 2))))) (qq (WC (qA (qB 1) (qA (qB 2) qD)))) Qg)))) (qq (vC .non)))
noncomputable def WQ (a:Ad):List PV->qC->Rs PV:=QL 1 4 (ZJ a)
noncomputable def WO (a:Ad):FS:=(jD 3 4 (Qi a) (qq (Zz (tbl a) (qG gIx (vFz (Qn (qA (vC (.fn a.sums_of)) (qA (vC (.fn a.first_apart)) qD)))) (qB 0)) (qA (qB 1) (qA (qB 2) qD)))) (qq (qI (zU a) (qA (qB 3) qD))))
noncomputable def q9 (a:Ad):List PV->qC->Rs PV:=QL 3 4 (WO a)
noncomputable def qEu (a:Ad):FS:=(qP (wG (QH (qA (qI qCn (qA (vC (.int 1)) (qA (qI qCx (qA (qI WJ (qA (qB 0) qD)) (qA (vC (.int 6)) qD))) qD))) qD)) (QD 1) (qP (qX 2 (qI (zE a) (qA (qB 0) (qA (qB 1) qD)))) (qP (qX 3 (qG qz (vC (.int 2)) (qI (qQ a) (qA (qB 2) (qA (vC (.int 4)) qD))))) (qP (qX 4 (qI (wl a) (qA (qB 2) (qA (qB 3) qD)))) (qP (qX 5 (qI (WM a) (qA (qB 4) (qA (qB 3) qD)))) (qP (qX 6 (qI (WQ a) (qA (qB 5) qD))) (qP (qX 7 (vC .non)) (qP (Qz (vTB (qG (yM false) (qB 6) (vC .non))) (qX 7 (WC (qA (vFz (qg [] 1 (QR (qB 5)) (Qe 0) [] [] (qG gIx (qB 0) (vC (.int 0))))) (qA (vFz (qg [5] 1 (QR (qG gIx (qB 5) (vC (.int 0)))) (Qe 1) [] [] (qG zW (qB 1) (qG gIx (qG gIx (qB 0) (vC (.int 0))) (vC (.int 0)))))) qD)))) Qg) (qP (wG (QH (qA (vC (.int 2)) qD)) (QD 8) (qP (qX 9 (qI (q9 a) (qA (vC (.int 0)) (qA (qB 4) (qA (qB 3) qD))))) (qP (Qz (ZA (Wv (wW (qI (qW 3 a) (qA (qB 9) (qA (qB 7) qD))))) (Wv (wW (qI (qW 3 a) (qA (qI (q9 a) (qA (vC (.int 1)) (qA (qB 4) (qA (qB 3) qD)))) (qA (qB 6) qD)))))) (qq (vC (.bl false))) Qg) (Qz (vTB (qG (yM true) (qB 9) (vC .non))) (qP (wQ (qG gIx (qB 9) (vC (.int 0))) (vC (.int 0))) (Z1 (qG gIx (qB 9) (vC (.int 1))) (vC (.int 0)) (vC (.int 7)))) Qg)))) (qP (qX 10 (qI (Qq a) (qA (qB 2) qD))) (Qz (vTB (qG gNe (vFz (qg [4,10] 1 (QH (qA (vC (.int 2)) qD)) (Qe 2) [] [] (qI (q9 a) (qA (qB 2) (qA (qB 0) (qA (qB 1) qD)))))) (vFz (Qn (qA (vC (.str "! length")) (qA (vC (.str "! length")) qD)))))) (qq (vC (.bl false))) Qg))))))))))) (qq (vC (.bl true))))
noncomputable def jU (a:Ad):List PV->qC->Rs PV:=QL 1 11 (qEu a)
structure Env (K:W.Frag) (mg:Str->Option Value) (a:Ad):Prop where
 kit:KitOk K (kit a)
 n_ValueError:mg "ValueError" = none
 n_all:mg "all" = none
 n_bool:mg "bool" = none
 n_int:mg "int" = none
 n_isinstance:mg "isinstance" = none
 n_len:mg "len" = none
 n_list:mg "list" = none
 n_max:mg "max" = none
 n_min:mg "min" = none
 n_range:mg "range" = none
 n_set:mg "set" = none
 n_sorted:mg "sorted" = none
 n_sum:mg "sum" = none
 n_tuple:mg "tuple" = none
 n_zip:mg "zip" = none
 c_LEAST_LENGTH:∃ t,mg "LEAST_LENGTH" = some (.int 2 t)
 c_MOST_LENGTH:∃ t,mg "MOST_LENGTH" = some (.int 5 t)
 k_BarError:mg "BarError" = some (.ref a.BarError)
 k_NoLength:mg "NoLength" = some (.ref a.NoLength)
 k_NoNumber:mg "NoNumber" = some (.ref a.NoNumber)
 k_NoBars:mg "NoBars" = some (.ref a.NoBars)
 k_NoBox:mg "NoBox" = some (.ref a.NoBox)
 k_NoWeights:mg "NoWeights" = some (.ref a.NoWeights)
 k_NoSorts:mg "NoSorts" = some (.ref a.NoSorts)
 k_NoTurn:mg "NoTurn" = some (.ref a.NoTurn)
 k_NoPlace:mg "NoPlace" = some (.ref a.NoPlace)
 k_NoText:mg "NoText" = some (.ref a.NoText)
 k_NoRow:mg "NoRow" = some (.ref a.NoRow)
 k_TooMany:mg "TooMany" = some (.ref a.TooMany)
 x_NoLength:PySem.W.excIn K a.NoLength bmV "ValueError.__new__" = true
 e_NoLength:PySem.W.mroIn K a.NoLength (.ref a.BarError)=some true
 o_BarError:∃ dd cd sl,K.lookup a.BarError=some ⟨.type "type",dd,.cls cd,sl⟩
 b_BarError:PySem.W.mroIn K a.BarError (.type "BaseException")=some true
 m_is_whole:mg "is_whole" = some (.ref a.is_whole)
 f_is_whole:∃ fd,Fun K "is_whole" "is_whole" wU a.is_whole fd
 m_is_whole_within:mg "is_whole_within" = some (.ref a.is_whole_within)
 f_is_whole_within:∃ fd,Fun K "is_whole_within" "is_whole_within" QE a.is_whole_within fd
 m_is_length:mg "is_length" = some (.ref a.is_length)
 f_is_length:∃ fd,Fun K "is_length" "is_length" wI a.is_length fd
 m_need_length:mg "need_length" = some (.ref a.need_length)
 f_need_length:∃ fd,Fun K "need_length" "need_length" QV a.need_length fd
 m_rests:mg "rests" = some (.ref a.rests)
 f_rests:∃ fd,Fun K "rests" "rests" Wo a.rests fd
 m_first_apart:mg "first_apart" = some (.ref a.first_apart)
 f_first_apart:∃ fd,Fun K "first_apart" "first_apart" Qr a.first_apart fd
 m_sums_of:mg "sums_of" = some (.ref a.sums_of)
 f_sums_of:∃ fd,Fun K "sums_of" "sums_of" ww a.sums_of fd
 m_law_cell:mg "_law_cell" = some (.ref a.law_cell)
 f_law_cell:∃ fd,Fun K "_law_cell" "_law_cell" wb a.law_cell fd
 m_law_box:mg "_law_box" = some (.ref a.law_box)
 f_law_box:∃ fd,Fun K "_law_box" "_law_box" wx a.law_box fd
 m_law_take:mg "_law_take" = some (.ref a.law_take)
 f_law_take:∃ fd,Fun K "_law_take" "_law_take" wZ a.law_take fd
 m_law_kind:mg "_law_kind" = some (.ref a.law_kind)
 f_law_kind:∃ fd,Fun K "_law_kind" "_law_kind" wS a.law_kind fd
 m_law_same:mg "_law_same" = some (.ref a.law_same)
 f_law_same:∃ fd,Fun K "_law_same" "_law_same" wE a.law_same fd
 m_law_no_length:mg "_law_no_length" = some (.ref a.law_no_length)
 f_law_no_length:∃ fd,Fun K "_law_no_length" "_law_no_length" QP a.law_no_length fd
 m_law_cover:mg "_law_cover" = some (.ref a.law_cover)
 f_law_cover:∃ fd,Fun K "_law_cover" "_law_cover" Q2 a.law_cover fd
 m_law_put:mg "_law_put" = some (.ref a.law_put)
 f_law_put:∃ fd,Fun K "_law_put" "_law_put" wX a.law_put fd
 m_law_floor:mg "_law_floor" = some (.ref a.law_floor)
 f_law_floor:∃ fd,Fun K "_law_floor" "_law_floor" Q1 a.law_floor fd
 m_law_rests:mg "_law_rests" = some (.ref a.law_rests)
 f_law_rests:∃ fd,Fun K "_law_rests" "_law_rests" wF a.law_rests fd
 m_law_apart:mg "_law_apart" = some (.ref a.law_apart)
 f_law_apart:∃ fd,Fun K "_law_apart" "_law_apart" wH a.law_apart fd
 m_law_asked:mg "_law_asked" = some (.ref a.law_asked)
 f_law_asked:∃ fd,Fun K "_law_asked" "_law_asked" Q0 a.law_asked fd
 m_law:mg "law" = some (.ref a.law)
 f_law:∃ fd,Fun K "law" "law" Wp a.law fd
section
variable {P:Program} {w:World} {K:W.Frag} {mg:Str->Option Value} {base:Heap} {a:Ad}
theorem Y2:FnScope ["thing"] ["thing"] (qJ wU):=⟨rfl,rfl,rfl,by decide +kernel,rfl,by decide +kernel,by decide +kernel⟩
theorem JF (V:Env K mg a):DefG P w K mg base 2 "is_whole" a.is_whole 1 (zQ a):=by
 obtain ⟨fd,F⟩:=V.f_is_whole
 refine wM (B:=Zh a) F Y2 (F.binds (ps:=["thing"]) fun _ _ _ _ _ _ us hl=>match us,hl with |[_],_=>rfl) V.m_is_whole (fun l st h=>qd h) (fun cdv A outer s H E hr hcm => ?_) (fun l s0 hl hn=>qa hl)
 have hu:=hr.units
 exact (@qS _ _ _ _ (@qo _ _ _ _ _ (@Yq _ _ _ _ _ _ _ _ (@QX _ _ _ _ _ _ _ _ V.kit V.n_isinstance (@qR _ _ _ _ _ _ _ (@qH _ _ 0 _ _ (by rfl) (by rfl) (by rfl)) (@qR _ _ _ _ _ _ _ (@W5 _ _ _ _ _ rfl V.n_int Boot.«int» (by decide) (by decide)) qF)) (by rfl) (by rfl) (by rfl)) (@Ye _ _ _ _ _ _ (@qGA _ _ _ _ _ (@QX _ _ _ _ _ _ _ _ V.kit V.n_isinstance (@qR _ _ _ _ _ _ _ (@qH _ _ 0 _ _ (by rfl) (by rfl) (by rfl)) (@qR _ _ _ _ _ _ _ (@W5 _ _ _ _ _ rfl V.n_bool Boot.«bool» (by decide) (by decide)) qF)) (by rfl) (by rfl) (by rfl)))))))
theorem zY:FnScope ["thing","least","most"] ["thing","least","most"] (qJ QE):=⟨rfl,rfl,rfl,by decide +kernel,rfl,by decide +kernel,by decide +kernel⟩
theorem zj (V:Env K mg a):DefG P w K mg base 3 "is_whole_within" a.is_whole_within 3 (wO a):=by
 obtain ⟨fd,F⟩:=V.f_is_whole_within
 refine wM (B:=wL a) F zY (F.binds (ps:=["thing","least","most"]) fun _ _ _ _ _ _ us hl=>match us,hl with |[_,_,_],_=>rfl) V.m_is_whole_within (fun l st h=>qd h) (fun cdv A outer s H E hr hcm => ?_) (fun l s0 hl hn=>qa hl)
 have hu:=hr.units
 exact (@qS _ _ _ _ (@qo _ _ _ _ _ (@Yq _ _ _ _ _ _ _ _ (@qU _ _ _ _ _ _ _ _ _ ((JF V).call (hr.mono (by omega)) ql) (@qR _ _ _ _ _ _ _ (@qH _ _ 0 _ _ (by rfl) (by rfl) (by rfl)) qF) (by rfl) (by rfl)) (@Ye _ _ _ _ _ _ (@qDU _ _ _ _ _ _ _ _ _ _ _ _ _ _ _ qDN qDN qCc qCc (@qH _ _ 1 _ _ (by rfl) (by rfl) (by rfl)) (@qH _ _ 0 _ _ (by rfl) (by rfl) (by rfl)) (@qH _ _ 2 _ _ (by rfl) (by rfl) (by rfl)) (by with_unfolding_all rfl))))))
theorem YW:FnScope ["thing"] ["thing"] (qJ wI):=⟨rfl,rfl,rfl,by decide +kernel,rfl,by decide +kernel,by decide +kernel⟩
theorem Yx (V:Env K mg a):DefG P w K mg base 4 "is_length" a.is_length 1 (W9 a):=by
 obtain ⟨fd,F⟩:=V.f_is_length
 obtain ⟨_,c_LEAST_LENGTH⟩:=V.c_LEAST_LENGTH
 obtain ⟨_,c_MOST_LENGTH⟩:=V.c_MOST_LENGTH
 refine wM (B:=W4 a) F YW (F.binds (ps:=["thing"]) fun _ _ _ _ _ _ us hl=>match us,hl with |[_],_=>rfl) V.m_is_length (fun l st h=>qd h) (fun cdv A outer s H E hr hcm => ?_) (fun l s0 hl hn=>qa hl)
 have hu:=hr.units
 exact (@qS _ _ _ _ (@qo _ _ _ _ _ (@qU _ _ _ _ _ _ _ _ _ ((zj V).call (hr.mono (by omega)) ql) (@qR _ _ _ _ _ _ _ (@qH _ _ 0 _ _ (by rfl) (by rfl) (by rfl)) (@qR _ _ _ _ _ _ _ (@Za _ _ _ _ _ _ rfl c_LEAST_LENGTH (by decide)) (@qR _ _ _ _ _ _ _ (@Za _ _ _ _ _ _ rfl c_MOST_LENGTH (by decide)) qF))) (by rfl) (by rfl))))
theorem Z5:FnScope ["thing"] ["thing"] (qJ QV):=⟨rfl,rfl,rfl,by decide +kernel,rfl,by decide +kernel,by decide +kernel⟩
theorem yP (V:Env K mg a):DefG P w K mg base 5 "need_length" a.need_length 1 (Qt a):=by
 obtain ⟨fd,F⟩:=V.f_need_length
 obtain ⟨_,c_LEAST_LENGTH⟩:=V.c_LEAST_LENGTH
 obtain ⟨_,c_MOST_LENGTH⟩:=V.c_MOST_LENGTH
 refine wM (B:=WR a) F Z5 (F.binds (ps:=["thing"]) fun _ _ _ _ _ _ us hl=>match us,hl with |[_],_=>rfl) V.m_need_length (fun l st h=>qd h) (fun cdv A outer s H E hr hcm => ?_) (fun l s0 hl hn=>qa hl)
 have hu:=hr.units
 have hc:(wR (CXF P w) P w K mg base ["thing"] "need_length" (qJ QV) a.need_length cdv A outer s H E).calm=true:=by show A.handled.isNone=true;rw [hcm (by omega)];rfl
 exact (@qS _ _ _ _ (@wj _ _ _ _ _ _ _ _ _ (@YM _ _ _ _ _ (@Z0 _ _ _ _ (@qU _ _ _ _ _ _ _ _ _ ((Yx V).call (hr.mono (by omega)) ql) (@qR _ _ _ _ _ _ _ (@qH _ _ 0 _ _ (by rfl) (by rfl) (by rfl)) qF) (by rfl) (by rfl)) (by intro _;rfl))) (@qS _ _ _ _ (@qB5 _ _ _ _ _ _ _ _ _ _ qHm hc rfl V.k_NoLength V.x_NoLength (@qIE _ _ _ _ _ _ _ (@qEZ _ _ _ _ _ _ _ (@ZZ _ _ _ _ _ _ Qu (@ZZ _ _ _ _ _ _ (@qCb _ _ _ _ _ (@Za _ _ _ _ _ _ rfl c_LEAST_LENGTH (by decide))) (@ZZ _ _ _ _ _ _ Qu (@ZZ _ _ _ _ _ _ (@qCb _ _ _ _ _ (@Za _ _ _ _ _ _ rfl c_MOST_LENGTH (by decide))) qGD))))) qF) (by decide) (by rfl) (by rfl))) QQ))
theorem sc_rests:FnScope ["floor","length","told","row","column"] ["floor","length"] (qJ Wo):=⟨rfl,rfl,rfl,by decide +kernel,rfl,by decide +kernel,by decide +kernel⟩
theorem qAT (V:Env K mg a):DefG P w K mg base 6 "rests" a.rests 2 (zZ a):=by
 obtain ⟨fd,F⟩:=V.f_rests
 refine wM (B:=qAO a) F sc_rests (F.binds (ps:=["floor","length"]) fun _ _ _ _ _ _ us hl=>match us,hl with |[_,_],_=>rfl) V.m_rests (fun l st h=>qd h) (fun cdv A outer s H E hr hcm => ?_) (fun l s0 hl hn=>qa hl)
 have hu:=hr.units
 have hc:(wR (CXF P w) P w K mg base ["floor","length","told","row","column"] "rests" (qJ Wo) a.rests cdv A outer s H E).calm=true:=by show A.handled.isNone=true;rw [hcm (by omega)];rfl
 exact (@qK _ _ _ _ _ _ (@qAf _ _ _ _ _ (@qU _ _ _ _ _ _ _ _ _ ((yP V).call (hr.mono (by omega)) ql) (@qR _ _ _ _ _ _ _ (@qH _ _ 1 _ _ (by rfl) (by rfl) (by rfl)) qF) (by rfl) (by rfl)) (by rfl)) (@qK _ _ _ _ _ _ (@qBu _ _ _ _ _ _ _ _ _ _ (["length"]) (["row_rest"]) ([1]) _ _ _ _ _ 2 sc_rests.nd (by exact wK rfl (by decide +kernel) rfl rfl ⟨⟨rfl,rfl⟩,trivial⟩) (@qk _ _ _ _ _ _ _ rfl V.n_range (@qR _ _ _ _ _ _ _ (@qH _ _ 1 _ _ (by rfl) (by rfl) (by rfl)) qF) (by rfl)) (fun s' H' fp pn=>⟨(@qB1 _ _ _ _ (@qFg _ _ _ _ _ _ _ (@Qm _ _ _ _ _ (@QN _ _ _ _ _ _ _ _ qL qF)) (@qH _ _ 0 _ _ (by rfl) (by rfl) (by rfl)))),⟨(@wD _ _ 1 _ (show (["length","row_rest"]:List Str).Nodup by decide +kernel) (by rfl) (by first |exact Or.inl rfl |exact Or.inr rfl) (by first |exact .inl rfl |exact .inr rfl |assumption)),(qx 1),TsOk.nil,rfl⟩,GsOk.nil⟩) (by rfl) (by first |exact Or.inl rfl |exact Or.inr rfl) (by first |exact .inl rfl |exact .inr rfl |assumption) (by rfl) (by intro _;rfl)) (@qK _ _ _ _ _ _ (@wm _ _ _ _ _ _ _ _ _ (@W7 _ _ _ _ _ (@qH _ _ 0 _ _ (by rfl) (by rfl) (by rfl))) (@JO _ _ _ _ _ _ hc (@WH _ _ _ _ _ (@QT _ _ 3 _ sc_rests.nd (by rfl) (by first |exact Or.inl rfl |exact Or.inr rfl) (by first |exact .inl rfl |exact .inr rfl |assumption)) (@WH _ _ _ _ _ (@QT _ _ 4 _ sc_rests.nd (by rfl) (by first |exact Or.inl rfl |exact Or.inr rfl) (by first |exact .inl rfl |exact .inr rfl |assumption)) Yo (by rfl)) (by rfl)) (by rfl) (by rfl)) (@qS _ _ _ _ (@qER _ _ _ _ _ _ _ _ _ _ (@qv _ _ _ _ _ _ _ (@qH _ _ 2 _ _ (by rfl) (by rfl) (by rfl)) (@Wt _ _ _ _ _ _ _ (@qH _ _ 3 _ _ (by rfl) (by rfl) (by rfl)) (@qH _ _ 1 _ _ (by rfl) (by rfl) (by rfl))) (by exact fun _ _=>rfl)) (@Wt _ _ _ _ _ _ _ (@qH _ _ 4 _ _ (by rfl) (by rfl) (by rfl)) (@qH _ _ 1 _ _ (by rfl) (by rfl) (by rfl))) qL (by intros;rfl))) (by intro _;rfl)) (@qS _ _ _ _ (@qo _ _ _ _ _ (@qH _ _ 2 _ _ (by rfl) (by rfl) (by rfl)))))))
theorem sc_first_apart:FnScope ["floor","length","table","row_rest","column_rest","both_heads"] ["floor","length"] (qJ Qr):=⟨rfl,rfl,rfl,by decide +kernel,rfl,by decide +kernel,by decide +kernel⟩
theorem zK (V:Env K mg a):DefG P w K mg base 7 "first_apart" a.first_apart 2 (QY a):=by
 obtain ⟨fd,F⟩:=V.f_first_apart
 refine wM (B:=zI a) F sc_first_apart (F.binds (ps:=["floor","length"]) fun _ _ _ _ _ _ us hl=>match us,hl with |[_,_],_=>rfl) V.m_first_apart (fun l st h=>qd h) (fun cdv A outer s H E hr hcm => ?_) (fun l s0 hl hn=>qa hl)
 have hu:=hr.units
 exact (@qK _ _ _ _ _ _ (@qm _ _ _ _ _ 2 _ _ sc_first_apart.nd (@qU _ _ _ _ _ _ _ _ _ ((qAT V).call (hr.mono (by omega)) ql) (@qR _ _ _ _ _ _ _ (@qH _ _ 0 _ _ (by rfl) (by rfl) (by rfl)) (@qR _ _ _ _ _ _ _ (@qH _ _ 1 _ _ (by rfl) (by rfl) (by rfl)) qF)) (by rfl) (by rfl)) (by rfl) (by first |exact Or.inl rfl |exact Or.inr rfl) (by rfl) (by first |exact .inl rfl |exact .inr rfl |assumption)) (@qK _ _ _ _ _ _ (@wm _ _ _ _ _ _ _ _ _ (@qk _ _ _ _ _ _ _ rfl V.n_range (@qR _ _ _ _ _ _ _ (@qH _ _ 1 _ _ (by rfl) (by rfl) (by rfl)) qF) (by rfl)) (@QT _ _ 3 _ sc_first_apart.nd (by rfl) (by first |exact Or.inl rfl |exact Or.inr rfl) (by first |exact .inl rfl |exact .inr rfl |assumption)) (@qS _ _ _ _ (@wm _ _ _ _ _ _ _ _ _ (@qk _ _ _ _ _ _ _ rfl V.n_range (@qR _ _ _ _ _ _ _ (@qH _ _ 1 _ _ (by rfl) (by rfl) (by rfl)) qF) (by rfl)) (@QT _ _ 4 _ sc_first_apart.nd (by rfl) (by first |exact Or.inl rfl |exact Or.inr rfl) (by first |exact .inl rfl |exact .inr rfl |assumption)) (@qK _ _ _ _ _ _ (@qm _ _ _ _ _ 5 _ _ sc_first_apart.nd (@Qc _ _ _ _ _ _ _ (@qv _ _ _ _ _ _ _ (@qv _ _ _ _ _ _ _ (@qH _ _ 2 _ _ (by rfl) (by rfl) (by rfl)) (@qH _ _ 3 _ _ (by rfl) (by rfl) (by rfl)) (by exact fun _ _=>rfl)) qL (by exact fun _ _=>rfl)) (@qv _ _ _ _ _ _ _ (@qv _ _ _ _ _ _ _ (@qH _ _ 2 _ _ (by rfl) (by rfl) (by rfl)) qL (by exact fun _ _=>rfl)) (@qH _ _ 4 _ _ (by rfl) (by rfl) (by rfl)) (by exact fun _ _=>rfl))) (by rfl) (by first |exact Or.inl rfl |exact Or.inr rfl) (by rfl) (by first |exact .inl rfl |exact .inr rfl |assumption)) (@qS _ _ _ _ (@wj _ _ _ _ _ _ _ _ _ (@QO _ _ _ _ _ _ _ _ _ _ (zS hu) Z3 (@Qc _ _ _ _ _ _ _ (@qv _ _ _ _ _ _ _ (@qv _ _ _ _ _ _ _ (@qH _ _ 2 _ _ (by rfl) (by rfl) (by rfl)) (@qH _ _ 3 _ _ (by rfl) (by rfl) (by rfl)) (by exact fun _ _=>rfl)) (@qH _ _ 4 _ _ (by rfl) (by rfl) (by rfl)) (by exact fun _ _=>rfl)) (@qv _ _ _ _ _ _ _ (@qv _ _ _ _ _ _ _ (@qH _ _ 2 _ _ (by rfl) (by rfl) (by rfl)) qL (by exact fun _ _=>rfl)) qL (by exact fun _ _=>rfl))) (@qH _ _ 5 _ _ (by rfl) (by rfl) (by rfl)) (by first |exact QI _ |with_unfolding_all rfl)) (@qS _ _ _ _ (@qo _ _ _ _ _ (@WD _ _ _ _ _ _ (@qR _ _ _ _ _ _ _ (@qH _ _ 3 _ _ (by rfl) (by rfl) (by rfl)) (@qR _ _ _ _ _ _ _ (@qH _ _ 4 _ _ (by rfl) (by rfl) (by rfl)) qF))))) QQ))) (by intro _;rfl))) (by intro _;rfl)) (@qS _ _ _ _ (@qo _ _ _ _ _ zA))))
theorem sc_sums_of:FnScope ["floor","length","table"] ["floor","length"] (qJ ww):=⟨rfl,rfl,rfl,by decide +kernel,rfl,by decide +kernel,by decide +kernel⟩
theorem qBQ (V:Env K mg a):DefG P w K mg base 8 "sums_of" a.sums_of 2 (wz a):=by
 obtain ⟨fd,F⟩:=V.f_sums_of
 refine wM (B:=yq a) F sc_sums_of (F.binds (ps:=["floor","length"]) fun _ _ _ _ _ _ us hl=>match us,hl with |[_,_],_=>rfl) V.m_sums_of (fun l st h=>qd h) (fun cdv A outer s H E hr hcm => ?_) (fun l s0 hl hn=>qa hl)
 have hu:=hr.units
 exact (@qK _ _ _ _ _ _ (@wj _ _ _ _ _ _ _ _ _ (@QO _ _ _ _ _ _ _ _ _ _ J4 jT (@qU _ _ _ _ _ _ _ _ _ ((zK V).call (hr.mono (by omega)) ql) (@qR _ _ _ _ _ _ _ (@qH _ _ 0 _ _ (by rfl) (by rfl) (by rfl)) (@qR _ _ _ _ _ _ _ (@qH _ _ 1 _ _ (by rfl) (by rfl) (by rfl)) qF)) (by rfl) (by rfl)) zA (by first |exact QI _ |with_unfolding_all rfl)) (@qS _ _ _ _ (@qo _ _ _ _ _ zA)) QQ) (@qK _ _ _ _ _ _ (@qm _ _ _ _ _ 2 _ _ sc_sums_of.nd (@qU _ _ _ _ _ _ _ _ _ ((qAT V).call (hr.mono (by omega)) ql) (@qR _ _ _ _ _ _ _ (@qH _ _ 0 _ _ (by rfl) (by rfl) (by rfl)) (@qR _ _ _ _ _ _ _ (@qH _ _ 1 _ _ (by rfl) (by rfl) (by rfl)) qF)) (by rfl) (by rfl)) (by rfl) (by first |exact Or.inl rfl |exact Or.inr rfl) (by rfl) (by first |exact .inl rfl |exact .inr rfl |assumption)) (@qS _ _ _ _ (@qo _ _ _ _ _ (@WD _ _ _ _ _ _ (@Jh _ _ _ _ _ _ _ _ _ (@qB1 _ _ _ _ (@Q4 _ _ _ _ _ _ _ ([]) (["line"]) ([]) _ _ _ _ _ (by exact wK rfl (by decide +kernel) rfl rfl trivial) (@W7 _ _ _ _ _ (@qH _ _ 2 _ _ (by rfl) (by rfl) (by rfl))) (fun s' H' fp pn=>⟨(@qv _ _ _ _ _ _ _ (@qH _ _ 0 _ _ (by rfl) (by rfl) (by rfl)) qL (by exact fun _ _=>rfl)),⟨(@wD _ _ 0 _ (show (["line"]:List Str).Nodup by decide +kernel) (by rfl) (by first |exact Or.inl rfl |exact Or.inr rfl) (by first |exact .inl rfl |exact .inr rfl |assumption)),(qx 0),TsOk.nil,rfl⟩,GsOk.nil⟩) (by intro _;rfl))) (@Jh _ _ _ _ _ _ _ _ _ (@qB1 _ _ _ _ (@Q4 _ _ _ _ _ _ _ (["table"]) (["many"]) ([2]) _ _ _ _ _ (by exact wK rfl (by decide +kernel) rfl rfl ⟨⟨rfl,rfl⟩,trivial⟩) (@W7 _ _ _ _ _ (@qv _ _ _ _ _ _ _ (@qH _ _ 2 _ _ (by rfl) (by rfl) (by rfl)) qL (by exact fun _ _=>rfl))) (fun s' H' fp pn=>⟨(@YE _ _ _ _ _ _ _ (@qH _ _ 1 _ _ (by rfl) (by rfl) (by rfl)) (@qv _ _ _ _ _ _ _ (@qv _ _ _ _ _ _ _ (@qH _ _ 0 _ _ (by rfl) (by rfl) (by rfl)) qL (by exact fun _ _=>rfl)) qL (by exact fun _ _=>rfl))),⟨(@wD _ _ 1 _ (show (["table","many"]:List Str).Nodup by decide +kernel) (by rfl) (by first |exact Or.inl rfl |exact Or.inr rfl) (by first |exact .inl rfl |exact .inr rfl |assumption)),(qx 1),TsOk.nil,rfl⟩,GsOk.nil⟩) (by intro _;rfl))) qF)))))))
theorem j9:FnScope ["_law_script","_law_k"] ["_law_script","_law_k"] (qJ wb):=⟨rfl,rfl,rfl,by decide +kernel,rfl,by decide +kernel,by decide +kernel⟩
theorem JH (V:Env K mg a):DefG P w K mg base 2 "_law_cell" a.law_cell 2 (Wj a):=by
 obtain ⟨fd,F⟩:=V.f_law_cell
 refine wM (B:=Wn a) F j9 (F.binds (ps:=["_law_script","_law_k"]) fun _ _ _ _ _ _ us hl=>match us,hl with |[_,_],_=>rfl) V.m_law_cell (fun l st h=>qd h) (fun cdv A outer s H E hr hcm => ?_) (fun l s0 hl hn=>qa hl)
 have hu:=hr.units
 exact (@qK _ _ _ _ _ _ (@wj _ _ _ _ _ _ _ _ _ (@QO _ _ _ _ _ _ _ _ _ _ qFA qE6 (@qH _ _ 1 _ _ (by rfl) (by rfl) (by rfl)) (@wu _ _ _ _ _ _ _ (@qR _ _ _ _ _ _ _ (@qH _ _ 0 _ _ (by rfl) (by rfl) (by rfl)) qF) V.n_len (by rfl) (by rfl) (by rfl)) (by first |exact QI _ |with_unfolding_all rfl)) (@qS _ _ _ _ (@qo _ _ _ _ _ (@qv _ _ _ _ _ _ _ (@qH _ _ 0 _ _ (by rfl) (by rfl) (by rfl)) (@qH _ _ 1 _ _ (by rfl) (by rfl) (by rfl)) (by exact fun _ _=>rfl)))) QQ) (@qS _ _ _ _ (@qo _ _ _ _ _ (@Qc _ _ _ _ _ _ _ (@zn _ _ _ _ _ _ _ qL (@qH _ _ 1 _ _ (by rfl) (by rfl) (by rfl))) qL))))
theorem sc_law_box:FnScope ["_law_script","_law_k","_law_cell_here","_law_number","_law_mixed","_law_j"] ["_law_script","_law_k"] (qJ wx):=⟨rfl,rfl,rfl,by decide +kernel,rfl,by decide +kernel,by decide +kernel⟩
theorem qAp (V:Env K mg a):DefG P w K mg base 3 "_law_box" a.law_box 2 (zE a):=by
 obtain ⟨fd,F⟩:=V.f_law_box
 refine wM (B:=zF a) F sc_law_box (F.binds (ps:=["_law_script","_law_k"]) fun _ _ _ _ _ _ us hl=>match us,hl with |[_,_],_=>rfl) V.m_law_box (fun l st h=>qd h) (fun cdv A outer s H E hr hcm => ?_) (fun l s0 hl hn=>qa hl)
 have hu:=hr.units
 exact (@qK _ _ _ _ _ _ (@qm _ _ _ _ _ 2 _ _ sc_law_box.nd (@qU _ _ _ _ _ _ _ _ _ ((JH V).call (hr.mono (by omega)) ql) (@qR _ _ _ _ _ _ _ (@qH _ _ 0 _ _ (by rfl) (by rfl) (by rfl)) (@qR _ _ _ _ _ _ _ (@qH _ _ 1 _ _ (by rfl) (by rfl) (by rfl)) qF)) (by rfl) (by rfl)) (by rfl) (by first |exact Or.inl rfl |exact Or.inr rfl) (by rfl) (by first |exact .inl rfl |exact .inr rfl |assumption)) (@qK _ _ _ _ _ _ (@wj _ _ _ _ _ _ _ _ _ (@QO _ _ _ _ _ _ _ _ _ _ (zB hu) ZI (@Wt _ _ _ _ _ _ _ (@qH _ _ 2 _ _ (by rfl) (by rfl) (by rfl)) qL) qL (by first |exact QI _ |with_unfolding_all rfl)) (@qS _ _ _ _ (@Jv _ _ _ _ _ (@Qm _ _ _ _ _ (@YK _ _ _ _ _ _ _ _ _ (@qGf _ _ _ _ _ _ _ (@qH _ _ 2 _ _ (by rfl) (by rfl) (by rfl)) qL) qF)))) QQ) (@qK _ _ _ _ _ _ (@qm _ _ _ _ _ 3 _ _ sc_law_box.nd qL (by rfl) (by first |exact Or.inl rfl |exact Or.inr rfl) (by rfl) (by first |exact .inl rfl |exact .inr rfl |assumption)) (@qK _ _ _ _ _ _ (@qm _ _ _ _ _ 4 _ _ sc_law_box.nd (@Wt _ _ _ _ _ _ _ (@qH _ _ 2 _ _ (by rfl) (by rfl) (by rfl)) qL) (by rfl) (by first |exact Or.inl rfl |exact Or.inr rfl) (by rfl) (by first |exact .inl rfl |exact .inr rfl |assumption)) (@qK _ _ _ _ _ _ (@wm _ _ _ _ _ _ _ _ _ (@qk _ _ _ _ _ _ _ rfl V.n_range (@QN _ _ _ _ _ _ _ _ qL qF) (by rfl)) (@QT _ _ 5 _ sc_law_box.nd (by rfl) (by first |exact Or.inl rfl |exact Or.inr rfl) (by first |exact .inl rfl |exact .inr rfl |assumption)) (@qK _ _ _ _ _ _ (@qm _ _ _ _ _ 4 _ _ sc_law_box.nd (@Wt _ _ _ _ _ _ _ (@Qc _ _ _ _ _ _ _ (@Qc _ _ _ _ _ _ _ (@Qc _ _ _ _ _ _ _ (@zn _ _ _ _ _ _ _ (@qH _ _ 4 _ _ (by rfl) (by rfl) (by rfl)) qL) (@zn _ _ _ _ _ _ _ (@zn _ _ _ _ _ _ _ qL (@qH _ _ 5 _ _ (by rfl) (by rfl) (by rfl))) (@qH _ _ 5 _ _ (by rfl) (by rfl) (by rfl)))) (@zn _ _ _ _ _ _ _ qL (@qH _ _ 1 _ _ (by rfl) (by rfl) (by rfl)))) qL) qL) (by rfl) (by first |exact Or.inl rfl |exact Or.inr rfl) (by rfl) (by first |exact .inl rfl |exact .inr rfl |assumption)) (@qS _ _ _ _ (@qm _ _ _ _ _ 3 _ _ sc_law_box.nd (@Qc _ _ _ _ _ _ _ (@zn _ _ _ _ _ _ _ (@qH _ _ 3 _ _ (by rfl) (by rfl) (by rfl)) qL) (@qH _ _ 4 _ _ (by rfl) (by rfl) (by rfl))) (by rfl) (by first |exact Or.inl rfl |exact Or.inr rfl) (by rfl) (by first |exact .inl rfl |exact .inr rfl |assumption)))) (by intro _;rfl)) (@qS _ _ _ _ (@Jv _ _ _ _ _ (@Qm _ _ _ _ _ (@qR _ _ _ _ _ _ _ (@qH _ _ 3 _ _ (by rfl) (by rfl) (by rfl)) qF)))))))))
theorem sc_law_take:FnScope ["_law_box_here","_law_many","_law_digit"] ["_law_box_here","_law_many"] (qJ wZ):=⟨rfl,rfl,rfl,by decide +kernel,rfl,by decide +kernel,by decide +kernel⟩
theorem qh (V:Env K mg a):DefG P w K mg base 2 "_law_take" a.law_take 2 (qQ a):=by
 obtain ⟨fd,F⟩:=V.f_law_take
 refine wM (B:=zT a) F sc_law_take (F.binds (ps:=["_law_box_here","_law_many"]) fun _ _ _ _ _ _ us hl=>match us,hl with |[_,_],_=>rfl) V.m_law_take (fun l st h=>qd h) (fun cdv A outer s H E hr hcm => ?_) (fun l s0 hl hn=>qa hl)
 have hu:=hr.units
 exact (@qK _ _ _ _ _ _ (@qm _ _ _ _ _ 2 _ _ sc_law_take.nd (@Wt _ _ _ _ _ _ _ (@qv _ _ _ _ _ _ _ (@qH _ _ 0 _ _ (by rfl) (by rfl) (by rfl)) qL (by exact fun _ _=>rfl)) (@qH _ _ 1 _ _ (by rfl) (by rfl) (by rfl))) (by rfl) (by first |exact Or.inl rfl |exact Or.inr rfl) (by rfl) (by first |exact .inl rfl |exact .inr rfl |assumption)) (@qK _ _ _ _ _ _ (@qCZ _ _ _ _ _ _ _ _ _ _ (@qH _ _ 0 _ _ (by rfl) (by rfl) (by rfl)) qL (@qEI _ _ _ _ _ _ _ (@qv _ _ _ _ _ _ _ (@qH _ _ 0 _ _ (by rfl) (by rfl) (by rfl)) qL (by exact fun _ _=>rfl)) (@qH _ _ 1 _ _ (by rfl) (by rfl) (by rfl))) (by rfl) (by rfl) (by rfl) (by intro _;rfl)) (@qS _ _ _ _ (@qo _ _ _ _ _ (@qH _ _ 2 _ _ (by rfl) (by rfl) (by rfl))))))
theorem sc_law_kind:FnScope ["_law_e","_law_kinds","_law_words"] ["_law_e"] (qJ wS):=⟨rfl,rfl,rfl,by decide +kernel,rfl,by decide +kernel,by decide +kernel⟩
theorem JZ (V:Env K mg a):DefG P w K mg base 1 "_law_kind" a.law_kind 1 (zU a):=by
 obtain ⟨fd,F⟩:=V.f_law_kind
 refine wM (B:=zV a) F sc_law_kind (F.binds (ps:=["_law_e"]) fun _ _ _ _ _ _ us hl=>match us,hl with |[_],_=>rfl) V.m_law_kind (fun l st h=>qd h) (fun cdv A outer s H E hr hcm => ?_) (fun l s0 hl hn=>qa hl)
 have hu:=hr.units
 exact (@qK _ _ _ _ _ _ (@qm _ _ _ _ _ 1 _ _ sc_law_kind.nd (@Qb _ _ _ _ (@Qm _ _ _ _ _ (@wq _ _ _ _ _ _ _ _ _ (@QX _ _ _ _ _ _ _ _ V.kit V.n_isinstance (@qR _ _ _ _ _ _ _ (@qH _ _ 0 _ _ (by rfl) (by rfl) (by rfl)) (@qR _ _ _ _ _ _ _ (@Wg _ _ _ _ _ rfl V.k_NoLength (by decide)) qF)) (by rfl) (by rfl) (by rfl)) (@wq _ _ _ _ _ _ _ _ _ (@QX _ _ _ _ _ _ _ _ V.kit V.n_isinstance (@qR _ _ _ _ _ _ _ (@qH _ _ 0 _ _ (by rfl) (by rfl) (by rfl)) (@qR _ _ _ _ _ _ _ (@Wg _ _ _ _ _ rfl V.k_NoNumber (by decide)) qF)) (by rfl) (by rfl) (by rfl)) (@wq _ _ _ _ _ _ _ _ _ (@QX _ _ _ _ _ _ _ _ V.kit V.n_isinstance (@qR _ _ _ _ _ _ _ (@qH _ _ 0 _ _ (by rfl) (by rfl) (by rfl)) (@qR _ _ _ _ _ _ _ (@Wg _ _ _ _ _ rfl V.k_NoBars (by decide)) qF)) (by rfl) (by rfl) (by rfl)) (@wq _ _ _ _ _ _ _ _ _ (@QX _ _ _ _ _ _ _ _ V.kit V.n_isinstance (@qR _ _ _ _ _ _ _ (@qH _ _ 0 _ _ (by rfl) (by rfl) (by rfl)) (@qR _ _ _ _ _ _ _ (@Wg _ _ _ _ _ rfl V.k_NoBox (by decide)) qF)) (by rfl) (by rfl) (by rfl)) qF)))))) (by rfl) (by first |exact Or.inl rfl |exact Or.inr rfl) (by rfl) (by first |exact .inl rfl |exact .inr rfl |assumption)) (@qK _ _ _ _ _ _ (@qm _ _ _ _ _ 1 _ _ sc_law_kind.nd (@Qb _ _ _ _ (@Z6 _ _ _ _ _ _ _ (@qH _ _ 1 _ _ (by rfl) (by rfl) (by rfl)) (@Qb _ _ _ _ (@Qm _ _ _ _ _ (@wq _ _ _ _ _ _ _ _ _ (@QX _ _ _ _ _ _ _ _ V.kit V.n_isinstance (@qR _ _ _ _ _ _ _ (@qH _ _ 0 _ _ (by rfl) (by rfl) (by rfl)) (@qR _ _ _ _ _ _ _ (@Wg _ _ _ _ _ rfl V.k_NoWeights (by decide)) qF)) (by rfl) (by rfl) (by rfl)) (@wq _ _ _ _ _ _ _ _ _ (@QX _ _ _ _ _ _ _ _ V.kit V.n_isinstance (@qR _ _ _ _ _ _ _ (@qH _ _ 0 _ _ (by rfl) (by rfl) (by rfl)) (@qR _ _ _ _ _ _ _ (@Wg _ _ _ _ _ rfl V.k_NoSorts (by decide)) qF)) (by rfl) (by rfl) (by rfl)) (@wq _ _ _ _ _ _ _ _ _ (@QX _ _ _ _ _ _ _ _ V.kit V.n_isinstance (@qR _ _ _ _ _ _ _ (@qH _ _ 0 _ _ (by rfl) (by rfl) (by rfl)) (@qR _ _ _ _ _ _ _ (@Wg _ _ _ _ _ rfl V.k_NoTurn (by decide)) qF)) (by rfl) (by rfl) (by rfl)) (@wq _ _ _ _ _ _ _ _ _ (@QX _ _ _ _ _ _ _ _ V.kit V.n_isinstance (@qR _ _ _ _ _ _ _ (@qH _ _ 0 _ _ (by rfl) (by rfl) (by rfl)) (@qR _ _ _ _ _ _ _ (@Wg _ _ _ _ _ rfl V.k_NoPlace (by decide)) qF)) (by rfl) (by rfl) (by rfl)) qF)))))))) (by rfl) (by first |exact Or.inl rfl |exact Or.inr rfl) (by rfl) (by first |exact .inl rfl |exact .inr rfl |assumption)) (@qK _ _ _ _ _ _ (@qm _ _ _ _ _ 1 _ _ sc_law_kind.nd (@Qb _ _ _ _ (@Z6 _ _ _ _ _ _ _ (@qH _ _ 1 _ _ (by rfl) (by rfl) (by rfl)) (@Qb _ _ _ _ (@Qm _ _ _ _ _ (@wq _ _ _ _ _ _ _ _ _ (@QX _ _ _ _ _ _ _ _ V.kit V.n_isinstance (@qR _ _ _ _ _ _ _ (@qH _ _ 0 _ _ (by rfl) (by rfl) (by rfl)) (@qR _ _ _ _ _ _ _ (@Wg _ _ _ _ _ rfl V.k_NoText (by decide)) qF)) (by rfl) (by rfl) (by rfl)) (@wq _ _ _ _ _ _ _ _ _ (@QX _ _ _ _ _ _ _ _ V.kit V.n_isinstance (@qR _ _ _ _ _ _ _ (@qH _ _ 0 _ _ (by rfl) (by rfl) (by rfl)) (@qR _ _ _ _ _ _ _ (@Wg _ _ _ _ _ rfl V.k_NoRow (by decide)) qF)) (by rfl) (by rfl) (by rfl)) (@wq _ _ _ _ _ _ _ _ _ (@QX _ _ _ _ _ _ _ _ V.kit V.n_isinstance (@qR _ _ _ _ _ _ _ (@qH _ _ 0 _ _ (by rfl) (by rfl) (by rfl)) (@qR _ _ _ _ _ _ _ (@Wg _ _ _ _ _ rfl V.k_TooMany (by decide)) qF)) (by rfl) (by rfl) (by rfl)) qF))))))) (by rfl) (by first |exact Or.inl rfl |exact Or.inr rfl) (by rfl) (by first |exact .inl rfl |exact .inr rfl |assumption)) (@qK _ _ _ _ _ _ (@wj _ _ _ _ _ _ _ _ _ (@qBH _ _ _ _ (@qAg _ _ _ _ _ _ _ _ (@YM _ _ _ _ _ (@Z0 _ _ _ _ (@QX _ _ _ _ _ _ _ _ V.kit V.n_isinstance (@qR _ _ _ _ _ _ _ (@qH _ _ 0 _ _ (by rfl) (by rfl) (by rfl)) (@qR _ _ _ _ _ _ _ (@W5 _ _ _ _ _ rfl V.n_ValueError Boot.«ValueError» (by decide) (by decide)) qF)) (by rfl) (by rfl) (by rfl)) (by intro _;rfl))) (@YD _ _ _ _ _ (@QO _ _ _ _ _ _ _ _ _ _ (zS hu) Z3 (@qFn _ _ _ _ _ _ _ (@Jh _ _ _ _ _ _ _ _ _ (@Qb _ _ _ _ (@Q4 _ _ _ _ _ _ _ ([]) (["_law_kind_here"]) ([]) _ _ _ _ _ (by exact wK rfl (by decide +kernel) rfl rfl trivial) (@W7 _ _ _ _ _ (@qH _ _ 1 _ _ (by rfl) (by rfl) (by rfl))) (fun s' H' fp pn=>⟨(@qEr _ _ _ _ _ _ _ (@qR _ _ _ _ _ _ _ (@qH _ _ 0 _ _ (by rfl) (by rfl) (by rfl)) qF) V.n_int (by rfl) (by rfl) (by rfl)),⟨(@wD _ _ 0 _ (show (["_law_kind_here"]:List Str).Nodup by decide +kernel) (by rfl) (by first |exact Or.inl rfl |exact Or.inr rfl) (by first |exact .inl rfl |exact .inr rfl |assumption)),(qx 0),TsOk.nil,rfl⟩,GsOk.nil⟩) (by intro _;rfl))) qF) V.n_sum (by rfl) (by rfl) (by rfl)) qL (by first |exact QI _ |with_unfolding_all rfl))))) (@qS _ _ _ _ (@qo _ _ _ _ _ Qu)) QQ) (@qK _ _ _ _ _ _ (@qm _ _ _ _ _ 2 _ _ sc_law_kind.nd (@Qb _ _ _ _ (@Qm _ _ _ _ _ (@QN _ _ _ _ _ _ _ _ Qu (@QN _ _ _ _ _ _ _ _ Qu (@QN _ _ _ _ _ _ _ _ Qu (@QN _ _ _ _ _ _ _ _ Qu (@QN _ _ _ _ _ _ _ _ Qu (@QN _ _ _ _ _ _ _ _ Qu (@QN _ _ _ _ _ _ _ _ Qu (@QN _ _ _ _ _ _ _ _ Qu (@QN _ _ _ _ _ _ _ _ Qu (@QN _ _ _ _ _ _ _ _ Qu (@QN _ _ _ _ _ _ _ _ Qu qF))))))))))))) (by rfl) (by first |exact Or.inl rfl |exact Or.inr rfl) (by rfl) (by first |exact .inl rfl |exact .inr rfl |assumption)) (@qS _ _ _ _ (@qo _ _ _ _ _ (@qEB _ _ _ _ _ _ _ Qu (@qv _ _ _ _ _ _ _ (@qH _ _ 2 _ _ (by rfl) (by rfl) (by rfl)) (@qBn _ _ _ _ _ _ _ _ hu (@qH _ _ 1 _ _ (by rfl) (by rfl) (by rfl)) yi (by rfl) (by rfl) (by rfl) (by rfl) (by rfl)) (by exact fun _ _=>rfl))))))))))
theorem jL:FnScope ["_law_found","_law_due"] ["_law_found","_law_due"] (qJ wE):=⟨rfl,rfl,rfl,by decide +kernel,rfl,by decide +kernel,by decide +kernel⟩
theorem ZM (V:Env K mg a):∀ n,DefG P w K mg base (n + 1) "_law_same" a.law_same 2 (qW n a)
 |0=>by
  obtain ⟨fd,F⟩:=V.f_law_same
  exact qFE F (F.binds (ps:=["_law_found","_law_due"]) fun _ _ _ _ _ _ us hl=>match us,hl with |[_,_],_=>rfl) V.m_law_same fun _ _=>rfl
 |n + 1=>by
  obtain ⟨fd,F⟩:=V.f_law_same
  have DR:=ZM V n
  refine wM (B:=QU a (qW n a)) F jL (F.binds (ps:=["_law_found","_law_due"]) fun _ _ _ _ _ _ us hl=>match us,hl with |[_,_],_=>rfl) V.m_law_same (fun l st h=>qd h) (fun cdv A outer s H E hr hcm => ?_) (fun l s0 hl hn=>qa hl)
  have hu:=hr.units
  have hc:(wR (CXF P w) P w K mg base ["_law_found","_law_due"] "_law_same" (qJ wE) a.law_same cdv A outer s H E).calm=true:=by show A.handled.isNone=true;rw [hcm (by omega)];rfl
  exact (@qK _ _ _ _ _ _ (@wj _ _ _ _ _ _ _ _ _ (@Z0 _ _ _ _ (@QX _ _ _ _ _ _ _ _ V.kit V.n_isinstance (@qR _ _ _ _ _ _ _ (@qH _ _ 1 _ _ (by rfl) (by rfl) (by rfl)) (@qGJ _ _ _ _ _ _ _ _ (@WD _ _ _ _ _ _ (@qR _ _ _ _ _ _ _ (@W5 _ _ _ _ _ rfl V.n_tuple Boot.«tuple» (by decide) (by decide)) (@qR _ _ _ _ _ _ _ (@W5 _ _ _ _ _ rfl V.n_list Boot.«list» (by decide) (by decide)) qF))) qF)) (by rfl) (by rfl) (by rfl)) (by intro _;rfl)) (@qK _ _ _ _ _ _ (@wj _ _ _ _ _ _ _ _ _ (@qBH _ _ _ _ (@qAg _ _ _ _ _ _ _ _ (@QO _ _ _ _ _ _ _ _ _ _ (zS hu) Z3 (@QX _ _ _ _ _ _ _ _ V.kit V.n_isinstance (@qR _ _ _ _ _ _ _ (@qH _ _ 0 _ _ (by rfl) (by rfl) (by rfl)) (@qR _ _ _ _ _ _ _ (@W5 _ _ _ _ _ rfl V.n_tuple Boot.«tuple» (by decide) (by decide)) qF)) (by rfl) (by rfl) (by rfl)) (@QX _ _ _ _ _ _ _ _ V.kit V.n_isinstance (@qR _ _ _ _ _ _ _ (@qH _ _ 1 _ _ (by rfl) (by rfl) (by rfl)) (@qR _ _ _ _ _ _ _ (@W5 _ _ _ _ _ rfl V.n_tuple Boot.«tuple» (by decide) (by decide)) qF)) (by rfl) (by rfl) (by rfl)) (by first |exact QI _ |with_unfolding_all rfl)) (@YD _ _ _ _ _ (@QO _ _ _ _ _ _ _ _ _ _ (zS hu) Z3 (@QX _ _ _ _ _ _ _ _ V.kit V.n_isinstance (@qR _ _ _ _ _ _ _ (@qH _ _ 0 _ _ (by rfl) (by rfl) (by rfl)) (@qR _ _ _ _ _ _ _ (@W5 _ _ _ _ _ rfl V.n_list Boot.«list» (by decide) (by decide)) qF)) (by rfl) (by rfl) (by rfl)) (@QX _ _ _ _ _ _ _ _ V.kit V.n_isinstance (@qR _ _ _ _ _ _ _ (@qH _ _ 1 _ _ (by rfl) (by rfl) (by rfl)) (@qR _ _ _ _ _ _ _ (@W5 _ _ _ _ _ rfl V.n_list Boot.«list» (by decide) (by decide)) qF)) (by rfl) (by rfl) (by rfl)) (by first |exact QI _ |with_unfolding_all rfl))))) (@qS _ _ _ _ (@qo _ _ _ _ _ yi)) QQ) (@qS _ _ _ _ (@qo _ _ _ _ _ (@Yq _ _ _ _ _ _ _ _ (@qBe _ _ _ _ _ _ _ hu (@wu _ _ _ _ _ _ _ (@qR _ _ _ _ _ _ _ (@qH _ _ 0 _ _ (by rfl) (by rfl) (by rfl)) qF) V.n_len (by rfl) (by rfl) (by rfl)) (@wu _ _ _ _ _ _ _ (@qR _ _ _ _ _ _ _ (@qH _ _ 1 _ _ (by rfl) (by rfl) (by rfl)) qF) V.n_len (by rfl) (by rfl) (by rfl))) (@Ye _ _ _ _ _ _ (@qGT _ _ _ _ _ _ _ (@Jh _ _ _ _ _ _ _ _ _ (@Qb _ _ _ _ (@Q4 _ _ _ _ _ _ _ ([]) (["_law_one","_law_other"]) ([]) _ _ _ _ _ (by exact wK rfl (by decide +kernel) rfl rfl trivial) (@qDp _ _ _ _ _ _ _ _ _ _ hc V.n_zip (@qR _ _ _ _ _ _ _ (@qH _ _ 0 _ _ (by rfl) (by rfl) (by rfl)) (@qR _ _ _ _ _ _ _ (@qH _ _ 1 _ _ (by rfl) (by rfl) (by rfl)) qF)) (by rfl) (by rfl) (by rfl)) (fun s' H' fp pn=>⟨(@qU _ _ _ _ _ _ _ _ _ (DR.call (hr.mono (by omega)) (QA _)) (@qR _ _ _ _ _ _ _ (@qH _ _ 0 _ _ (by rfl) (by rfl) (by rfl)) (@qR _ _ _ _ _ _ _ (@qH _ _ 1 _ _ (by rfl) (by rfl) (by rfl)) qF)) (by rfl) (by rfl)),⟨(@JO _ _ _ _ _ _ hc (@WH _ _ _ _ _ (@wD _ _ 0 _ (show (["_law_one","_law_other"]:List Str).Nodup by decide +kernel) (by rfl) (by first |exact Or.inl rfl |exact Or.inr rfl) (by first |exact .inl rfl |exact .inr rfl |assumption)) (@WH _ _ _ _ _ (@wD _ _ 1 _ (show (["_law_one","_law_other"]:List Str).Nodup by decide +kernel) (by rfl) (by first |exact Or.inl rfl |exact Or.inr rfl) (by first |exact .inl rfl |exact .inr rfl |assumption)) Yo (by rfl)) (by rfl)) (by rfl) (by rfl)),(qAt (yI (qx 0) (yI (qx 1) qBO))),TsOk.nil,rfl⟩,GsOk.nil⟩) (by intro _;rfl))) qF) V.n_all (by rfl) (by rfl) (by rfl))))))) QQ) (@qS _ _ _ _ (@qo _ _ _ _ _ (@Yq _ _ _ _ _ _ _ _ (@qBe _ _ _ _ _ _ _ hu (@qH _ _ 0 _ _ (by rfl) (by rfl) (by rfl)) (@qH _ _ 1 _ _ (by rfl) (by rfl) (by rfl))) (@Ye _ _ _ _ _ _ (@qBe _ _ _ _ _ _ _ hu (@QX _ _ _ _ _ _ _ _ V.kit V.n_isinstance (@qR _ _ _ _ _ _ _ (@qH _ _ 0 _ _ (by rfl) (by rfl) (by rfl)) (@qR _ _ _ _ _ _ _ (@W5 _ _ _ _ _ rfl V.n_bool Boot.«bool» (by decide) (by decide)) qF)) (by rfl) (by rfl) (by rfl)) (@QX _ _ _ _ _ _ _ _ V.kit V.n_isinstance (@qR _ _ _ _ _ _ _ (@qH _ _ 1 _ _ (by rfl) (by rfl) (by rfl)) (@qR _ _ _ _ _ _ _ (@W5 _ _ _ _ _ rfl V.n_bool Boot.«bool» (by decide) (by decide)) qF)) (by rfl) (by rfl) (by rfl))))))))
theorem Zn (V:Env K mg a):DefG P w K mg base 4 "_law_same" a.law_same 2 (qW 3 a):=ZM V 3
theorem zx:FnScope ["_law_box_here"] ["_law_box_here"] (qJ QP):=⟨rfl,rfl,rfl,by decide +kernel,rfl,by decide +kernel,by decide +kernel⟩
theorem ZP (V:Env K mg a):DefG P w K mg base 3 "_law_no_length" a.law_no_length 1 (Qq a):=by
 obtain ⟨fd,F⟩:=V.f_law_no_length
 refine wM (B:=wp a) F zx (F.binds (ps:=["_law_box_here"]) fun _ _ _ _ _ _ us hl=>match us,hl with |[_],_=>rfl) V.m_law_no_length (fun l st h=>qd h) (fun cdv A outer s H E hr hcm => ?_) (fun l s0 hl hn=>qa hl)
 have hu:=hr.units
 exact (@qS _ _ _ _ (@qo _ _ _ _ _ (@qv _ _ _ _ _ _ _ (@Qb _ _ _ _ (@Qm _ _ _ _ _ (@QN _ _ _ _ _ _ _ _ qL (@QN _ _ _ _ _ _ _ _ qL (@QN _ _ _ _ _ _ _ _ qL (@qIB _ _ _ _ _ _ _ _ (@qGX _ _ _ _ _ qL) (@QN _ _ _ _ _ _ _ _ yi (@QN _ _ _ _ _ _ _ _ zA (@QN _ _ _ _ _ _ _ _ Qu (@qGJ _ _ _ _ _ _ _ _ (@WD _ _ _ _ _ _ (@QN _ _ _ _ _ _ _ _ qL qF)) (@qId _ _ _ _ _ _ _ (@Qb _ _ _ _ (@Qm _ _ _ _ _ (@QN _ _ _ _ _ _ _ _ qL qF))) (@YK _ _ _ _ _ _ _ _ _ (@qFc _ _ _ _ _ _ _ qL qL) qF)))))))))))) (@qU _ _ _ _ _ _ _ _ _ ((qh V).call (hr.mono (by omega)) ql) (@qR _ _ _ _ _ _ _ (@qH _ _ 0 _ _ (by rfl) (by rfl) (by rfl)) (@QN _ _ _ _ _ _ _ _ qL qF)) (by rfl) (by rfl)) (by exact fun _ _=>rfl))))
theorem sc_law_cover:FnScope ["_law_bar","_law_length","_law_row","_law_column","_law_way"] ["_law_bar","_law_length"] (qJ Q2):=⟨rfl,rfl,rfl,by decide +kernel,rfl,by decide +kernel,by decide +kernel⟩
theorem jC (V:Env K mg a):DefG P w K mg base 2 "_law_cover" a.law_cover 2 (WL a):=by
 obtain ⟨fd,F⟩:=V.f_law_cover
 refine wM (B:=W2 a) F sc_law_cover (F.binds (ps:=["_law_bar","_law_length"]) fun _ _ _ _ _ _ us hl=>match us,hl with |[_,_],_=>rfl) V.m_law_cover (fun l st h=>qd h) (fun cdv A outer s H E hr hcm => ?_) (fun l s0 hl hn=>qa hl)
 have hu:=hr.units
 have hc:(wR (CXF P w) P w K mg base ["_law_bar","_law_length","_law_row","_law_column","_law_way"] "_law_cover" (qJ Q2) a.law_cover cdv A outer s H E).calm=true:=by show A.handled.isNone=true;rw [hcm (by omega)];rfl
 exact (@qK _ _ _ _ _ _ (@qFw _ _ _ _ _ _ _ (@qH _ _ 0 _ _ (by rfl) (by rfl) (by rfl)) (@JO _ _ _ _ _ _ hc (@WH _ _ _ _ _ (@QT _ _ 2 _ sc_law_cover.nd (by rfl) (by first |exact Or.inl rfl |exact Or.inr rfl) (by first |exact .inl rfl |exact .inr rfl |assumption)) (@WH _ _ _ _ _ (@QT _ _ 3 _ sc_law_cover.nd (by rfl) (by first |exact Or.inl rfl |exact Or.inr rfl) (by first |exact .inl rfl |exact .inr rfl |assumption)) (@WH _ _ _ _ _ (@QT _ _ 4 _ sc_law_cover.nd (by rfl) (by first |exact Or.inl rfl |exact Or.inr rfl) (by first |exact .inl rfl |exact .inr rfl |assumption)) Yo (by rfl)) (by rfl)) (by rfl)) (by rfl) (by rfl)) (by rfl) (by rfl) (by rfl)) (@qK _ _ _ _ _ _ (@wj _ _ _ _ _ _ _ _ _ (@QO _ _ _ _ _ _ _ _ _ _ (zB hu) ZI (@qH _ _ 4 _ _ (by rfl) (by rfl) (by rfl)) qL (by first |exact QI _ |with_unfolding_all rfl)) (@qS _ _ _ _ (@qo _ _ _ _ _ (@Qb _ _ _ _ (@Q4 _ _ _ _ _ _ _ (["_law_row","_law_column"]) (["_law_k"]) ([2,3]) _ _ _ _ _ (by exact wK rfl (by decide +kernel) rfl rfl ⟨⟨rfl,rfl⟩,⟨⟨rfl,rfl⟩,trivial⟩⟩) (@qk _ _ _ _ _ _ _ rfl V.n_range (@qR _ _ _ _ _ _ _ (@qH _ _ 1 _ _ (by rfl) (by rfl) (by rfl)) qF) (by rfl)) (fun s' H' fp pn=>⟨(@WD _ _ _ _ _ _ (@qR _ _ _ _ _ _ _ (@qH _ _ 0 _ _ (by rfl) (by rfl) (by rfl)) (@YK _ _ _ _ _ _ _ _ _ (@Qc _ _ _ _ _ _ _ (@qH _ _ 1 _ _ (by rfl) (by rfl) (by rfl)) (@qH _ _ 2 _ _ (by rfl) (by rfl) (by rfl))) qF))),⟨(@wD _ _ 2 _ (show (["_law_row","_law_column","_law_k"]:List Str).Nodup by decide +kernel) (by rfl) (by first |exact Or.inl rfl |exact Or.inr rfl) (by first |exact .inl rfl |exact .inr rfl |assumption)),(qx 2),TsOk.nil,rfl⟩,GsOk.nil⟩) (by intro _;rfl))))) QQ) (@qS _ _ _ _ (@qo _ _ _ _ _ (@Qb _ _ _ _ (@Q4 _ _ _ _ _ _ _ (["_law_column","_law_row"]) (["_law_k"]) ([3,2]) _ _ _ _ _ (by exact wK rfl (by decide +kernel) rfl rfl ⟨⟨rfl,rfl⟩,⟨⟨rfl,rfl⟩,trivial⟩⟩) (@qk _ _ _ _ _ _ _ rfl V.n_range (@qR _ _ _ _ _ _ _ (@qH _ _ 1 _ _ (by rfl) (by rfl) (by rfl)) qF) (by rfl)) (fun s' H' fp pn=>⟨(@WD _ _ _ _ _ _ (@YK _ _ _ _ _ _ _ _ _ (@Qc _ _ _ _ _ _ _ (@qH _ _ 1 _ _ (by rfl) (by rfl) (by rfl)) (@qH _ _ 2 _ _ (by rfl) (by rfl) (by rfl))) (@qR _ _ _ _ _ _ _ (@qH _ _ 0 _ _ (by rfl) (by rfl) (by rfl)) qF))),⟨(@wD _ _ 2 _ (show (["_law_column","_law_row","_law_k"]:List Str).Nodup by decide +kernel) (by rfl) (by first |exact Or.inl rfl |exact Or.inr rfl) (by first |exact .inl rfl |exact .inr rfl |assumption)),(qx 2),TsOk.nil,rfl⟩,GsOk.nil⟩) (by intro _;rfl)))))))
theorem sc_law_put:FnScope ["_law_box_here","_law_length","_law_found","_law_turn","_law_way","_law_row","_law_column","_law_places"] ["_law_box_here","_law_length"] (qJ wX):=⟨rfl,rfl,rfl,by decide +kernel,rfl,by decide +kernel,by decide +kernel⟩
theorem qBG (V:Env K mg a):DefG P w K mg base 3 "_law_put" a.law_put 2 (zy a):=by
 obtain ⟨fd,F⟩:=V.f_law_put
 refine wM (B:=zq a) F sc_law_put (F.binds (ps:=["_law_box_here","_law_length"]) fun _ _ _ _ _ _ us hl=>match us,hl with |[_,_],_=>rfl) V.m_law_put (fun l st h=>qd h) (fun cdv A outer s H E hr hcm => ?_) (fun l s0 hl hn=>qa hl)
 have hu:=hr.units
 have hc:(wR (CXF P w) P w K mg base ["_law_box_here","_law_length","_law_found","_law_turn","_law_way","_law_row","_law_column","_law_places"] "_law_put" (qJ wX) a.law_put cdv A outer s H E).calm=true:=by show A.handled.isNone=true;rw [hcm (by omega)];rfl
 exact (@qK _ _ _ _ _ _ (@ZT _ _ _ _ 2 _ _ _ sc_law_put.nd (@Qm _ _ _ _ _ qF) (by rfl) (by first |exact Or.inl rfl |exact Or.inr rfl) (by rfl) (by first |exact .inl rfl |exact .inr rfl |assumption)) (@qK _ _ _ _ _ _ (@wm _ _ _ _ _ _ _ _ _ (@qk _ _ _ _ _ _ _ rfl V.n_range (@YK _ _ _ _ _ _ _ _ _ (@Qc _ _ _ _ _ _ _ qL (@qU _ _ _ _ _ _ _ _ _ ((qh V).call (hr.mono (by omega)) ql) (@qR _ _ _ _ _ _ _ (@qH _ _ 0 _ _ (by rfl) (by rfl) (by rfl)) (@QN _ _ _ _ _ _ _ _ qL qF)) (by rfl) (by rfl))) qF) (by rfl)) (@QT _ _ 3 _ sc_law_put.nd (by rfl) (by first |exact Or.inl rfl |exact Or.inr rfl) (by first |exact .inl rfl |exact .inr rfl |assumption)) (@qK _ _ _ _ _ _ (@qm _ _ _ _ _ 4 _ _ sc_law_put.nd (@qU _ _ _ _ _ _ _ _ _ ((qh V).call (hr.mono (by omega)) (QA _)) (@qR _ _ _ _ _ _ _ (@qH _ _ 0 _ _ (by rfl) (by rfl) (by rfl)) (@QN _ _ _ _ _ _ _ _ qL qF)) (by rfl) (by rfl)) (by rfl) (by first |exact Or.inl rfl |exact Or.inr rfl) (by rfl) (by first |exact .inl rfl |exact .inr rfl |assumption)) (@qK _ _ _ _ _ _ (@qDK _ _ _ _ _ 5 6 _ _ _ _ _ _ _ _ _ hc sc_law_put.nd (@wq _ _ _ _ _ _ _ _ _ (@qU _ _ _ _ _ _ _ _ _ ((qh V).call (hr.mono (by omega)) (QA _)) (@qR _ _ _ _ _ _ _ (@qH _ _ 0 _ _ (by rfl) (by rfl) (by rfl)) (@YK _ _ _ _ _ _ _ _ _ (@YE _ _ _ _ _ _ _ qL (@qv _ _ _ _ _ _ _ (@Qb _ _ _ _ (@Qm _ _ _ _ _ (@QN _ _ _ _ _ _ _ _ qL (@qR _ _ _ _ _ _ _ (@qH _ _ 1 _ _ (by rfl) (by rfl) (by rfl)) qF)))) (@qH _ _ 4 _ _ (by rfl) (by rfl) (by rfl)) (by exact fun _ _=>rfl))) qF)) (by rfl) (by rfl)) (@wq _ _ _ _ _ _ _ _ _ (@qU _ _ _ _ _ _ _ _ _ ((qh V).call (hr.mono (by omega)) (QA _)) (@qR _ _ _ _ _ _ _ (@qH _ _ 0 _ _ (by rfl) (by rfl) (by rfl)) (@YK _ _ _ _ _ _ _ _ _ (@YE _ _ _ _ _ _ _ qL (@qv _ _ _ _ _ _ _ (@Qb _ _ _ _ (@Qm _ _ _ _ _ (@qR _ _ _ _ _ _ _ (@qH _ _ 1 _ _ (by rfl) (by rfl) (by rfl)) (@QN _ _ _ _ _ _ _ _ qL qF)))) (@qH _ _ 4 _ _ (by rfl) (by rfl) (by rfl)) (by exact fun _ _=>rfl))) qF)) (by rfl) (by rfl)) qF)) (by rfl) (by rfl) (by rfl) (by decide) (by rfl) (by rfl) (by rfl)) (@qK _ _ _ _ _ _ (@qm _ _ _ _ _ 7 _ _ sc_law_put.nd (@qU _ _ _ _ _ _ _ _ _ ((jC V).call (hr.mono (by omega)) (QA _)) (@qGJ _ _ _ _ _ _ _ _ (@WD _ _ _ _ _ _ (@qR _ _ _ _ _ _ _ (@qH _ _ 5 _ _ (by rfl) (by rfl) (by rfl)) (@qR _ _ _ _ _ _ _ (@qH _ _ 6 _ _ (by rfl) (by rfl) (by rfl)) (@qR _ _ _ _ _ _ _ (@qH _ _ 4 _ _ (by rfl) (by rfl) (by rfl)) qF)))) (@qR _ _ _ _ _ _ _ (@qH _ _ 1 _ _ (by rfl) (by rfl) (by rfl)) qF)) (by rfl) (by rfl)) (by rfl) (by first |exact Or.inl rfl |exact Or.inr rfl) (by rfl) (by first |exact .inl rfl |exact .inr rfl |assumption)) (@qS _ _ _ _ (@wj _ _ _ _ _ _ _ _ _ (@qBH _ _ _ _ (@qC8 _ _ _ _ _ _ _ _ (@QO _ _ _ _ _ _ _ _ _ _ (zB hu) ZI (@Qb _ _ _ _ (@Q4 _ _ _ _ _ _ _ (["_law_found"]) (["_law_place"]) ([2]) _ _ _ _ _ (by exact wK rfl (by decide +kernel) rfl rfl ⟨⟨rfl,rfl⟩,trivial⟩) (@W7 _ _ _ _ _ (@qH _ _ 7 _ _ (by rfl) (by rfl) (by rfl))) (fun s' H' fp pn=>⟨(@qH _ _ 1 _ _ (by rfl) (by rfl) (by rfl)),⟨(@wD _ _ 1 _ (show (["_law_found","_law_place"]:List Str).Nodup by decide +kernel) (by rfl) (by first |exact Or.inl rfl |exact Or.inr rfl) (by first |exact .inl rfl |exact .inr rfl |assumption)),(qx 1),(TsOk.cons (@QO _ _ _ _ _ _ _ _ _ _ (qF3 hu) qHK (@qH _ _ 1 _ _ (by rfl) (by rfl) (by rfl)) (@qH _ _ 0 _ _ (by rfl) (by rfl) (by rfl)) (by first |exact QI _ |with_unfolding_all rfl)) TsOk.nil),rfl⟩,GsOk.nil⟩) (by intro _;rfl))) (@Qb _ _ _ _ (@Qm _ _ _ _ _ qF)) (by first |exact QI _ |with_unfolding_all rfl)) (@qAb _ _ _ _ _ (@QO _ _ _ _ _ _ _ _ _ _ qDN qCc (@Qc _ _ _ _ _ _ _ (@wu _ _ _ _ _ _ _ (@qR _ _ _ _ _ _ _ (@qH _ _ 2 _ _ (by rfl) (by rfl) (by rfl)) qF) V.n_len (by rfl) (by rfl) (by rfl)) (@qH _ _ 1 _ _ (by rfl) (by rfl) (by rfl))) qL (by first |exact QI _ |with_unfolding_all rfl))))) (@qS _ _ _ _ (@ZT _ _ _ _ 2 _ _ _ sc_law_put.nd (@Z6 _ _ _ _ _ _ _ (@qH _ _ 2 _ _ (by rfl) (by rfl) (by rfl)) (@qH _ _ 7 _ _ (by rfl) (by rfl) (by rfl))) (by rfl) (by first |exact Or.inl rfl |exact Or.inr rfl) (by rfl) (by first |exact .inl rfl |exact .inr rfl |assumption))) QQ))))) (by intro _;rfl)) (@qS _ _ _ _ (@qo _ _ _ _ _ (@qH _ _ 2 _ _ (by rfl) (by rfl) (by rfl))))))
theorem sc_law_floor:FnScope ["_law_box_here","_law_length","_law_way","_law_high","_law_wide","_law_found","_law_row"] ["_law_box_here","_law_length"] (qJ Q1):=⟨rfl,rfl,rfl,by decide +kernel,rfl,by decide +kernel,by decide +kernel⟩
theorem jV (V:Env K mg a):DefG P w K mg base 4 "_law_floor" a.law_floor 2 (wl a):=by
 obtain ⟨fd,F⟩:=V.f_law_floor
 refine wM (B:=wg a) F sc_law_floor (F.binds (ps:=["_law_box_here","_law_length"]) fun _ _ _ _ _ _ us hl=>match us,hl with |[_,_],_=>rfl) V.m_law_floor (fun l st h=>qd h) (fun cdv A outer s H E hr hcm => ?_) (fun l s0 hl hn=>qa hl)
 have hu:=hr.units
 have hc:(wR (CXF P w) P w K mg base ["_law_box_here","_law_length","_law_way","_law_high","_law_wide","_law_found","_law_row"] "_law_floor" (qJ Q1) a.law_floor cdv A outer s H E).calm=true:=by show A.handled.isNone=true;rw [hcm (by omega)];rfl
 exact (@qK _ _ _ _ _ _ (@qm _ _ _ _ _ 2 _ _ sc_law_floor.nd (@qU _ _ _ _ _ _ _ _ _ ((qh V).call (hr.mono (by omega)) ql) (@qR _ _ _ _ _ _ _ (@qH _ _ 0 _ _ (by rfl) (by rfl) (by rfl)) (@QN _ _ _ _ _ _ _ _ qL qF)) (by rfl) (by rfl)) (by rfl) (by first |exact Or.inl rfl |exact Or.inr rfl) (by rfl) (by first |exact .inl rfl |exact .inr rfl |assumption)) (@qK _ _ _ _ _ _ (@qDK _ _ _ _ _ 3 4 _ _ _ _ _ _ _ _ _ hc sc_law_floor.nd (@YK _ _ _ _ _ _ _ _ _ (@Qc _ _ _ _ _ _ _ qL (@qU _ _ _ _ _ _ _ _ _ ((qh V).call (hr.mono (by omega)) ql) (@qR _ _ _ _ _ _ _ (@qH _ _ 0 _ _ (by rfl) (by rfl) (by rfl)) (@QN _ _ _ _ _ _ _ _ qL qF)) (by rfl) (by rfl))) (@YK _ _ _ _ _ _ _ _ _ (@Qc _ _ _ _ _ _ _ qL (@qU _ _ _ _ _ _ _ _ _ ((qh V).call (hr.mono (by omega)) ql) (@qR _ _ _ _ _ _ _ (@qH _ _ 0 _ _ (by rfl) (by rfl) (by rfl)) (@QN _ _ _ _ _ _ _ _ qL qF)) (by rfl) (by rfl))) qF)) (by rfl) (by rfl) (by rfl) (by decide) (by rfl) (by rfl) (by rfl)) (@qK _ _ _ _ _ _ (@wj _ _ _ _ _ _ _ _ _ (@QO _ _ _ _ _ _ _ _ _ _ qHD qHw (@qH _ _ 2 _ _ (by rfl) (by rfl) (by rfl)) qL (by first |exact QI _ |with_unfolding_all rfl)) (@qK _ _ _ _ _ _ (@qm _ _ _ _ _ 5 _ _ sc_law_floor.nd (@qU _ _ _ _ _ _ _ _ _ ((qBG V).call (hr.mono (by omega)) ql) (@qR _ _ _ _ _ _ _ (@qH _ _ 0 _ _ (by rfl) (by rfl) (by rfl)) (@qR _ _ _ _ _ _ _ (@qH _ _ 1 _ _ (by rfl) (by rfl) (by rfl)) qF)) (by rfl) (by rfl)) (by rfl) (by first |exact Or.inl rfl |exact Or.inr rfl) (by rfl) (by first |exact .inl rfl |exact .inr rfl |assumption)) (@qK _ _ _ _ _ _ (@wj _ _ _ _ _ _ _ _ _ (@QO _ _ _ _ _ _ _ _ _ _ (zB hu) ZI (@qH _ _ 2 _ _ (by rfl) (by rfl) (by rfl)) qL (by first |exact QI _ |with_unfolding_all rfl)) (@qK _ _ _ _ _ _ (@qAf _ _ _ _ _ (@qDP _ _ _ _ _ _ _ _ (@qH _ _ 5 _ _ (by rfl) (by rfl) (by rfl)) (@qU _ _ _ _ _ _ _ _ _ ((qh V).call (hr.mono (by omega)) ql) (@qR _ _ _ _ _ _ _ (@qH _ _ 0 _ _ (by rfl) (by rfl) (by rfl)) (@wq _ _ _ _ _ _ _ _ _ (@wu _ _ _ _ _ _ _ (@qR _ _ _ _ _ _ _ (@qH _ _ 5 _ _ (by rfl) (by rfl) (by rfl)) qF) V.n_len (by rfl) (by rfl) (by rfl)) qF)) (by rfl) (by rfl)) (by rfl) (by rfl) (by rfl) (by rfl) (by rfl)) (by rfl)) (@qS _ _ _ _ (@qm _ _ _ _ _ 5 _ _ sc_law_floor.nd (@Qb _ _ _ _ (@Z6 _ _ _ _ _ _ _ (@qH _ _ 5 _ _ (by rfl) (by rfl) (by rfl)) (@Qb _ _ _ _ (@Q4 _ _ _ _ _ _ _ (["_law_box_here"]) (["_law_turn"]) ([0]) _ _ _ _ _ (by exact wK rfl (by decide +kernel) rfl rfl ⟨⟨rfl,rfl⟩,trivial⟩) (@qk _ _ _ _ _ _ _ rfl V.n_range (@wq _ _ _ _ _ _ _ _ _ (@qU _ _ _ _ _ _ _ _ _ ((qh V).call (hr.mono (by omega)) ql) (@qR _ _ _ _ _ _ _ (@qH _ _ 0 _ _ (by rfl) (by rfl) (by rfl)) (@QN _ _ _ _ _ _ _ _ qL qF)) (by rfl) (by rfl)) qF) (by rfl)) (fun s' H' fp pn=>⟨(@WD _ _ _ _ _ _ (@wq _ _ _ _ _ _ _ _ _ (@qU _ _ _ _ _ _ _ _ _ ((qh V).call (hr.mono (by omega)) (QA _)) (@qR _ _ _ _ _ _ _ (@qH _ _ 0 _ _ (by rfl) (by rfl) (by rfl)) (@QN _ _ _ _ _ _ _ _ qL qF)) (by rfl) (by rfl)) (@wq _ _ _ _ _ _ _ _ _ (@qU _ _ _ _ _ _ _ _ _ ((qh V).call (hr.mono (by omega)) (QA _)) (@qR _ _ _ _ _ _ _ (@qH _ _ 0 _ _ (by rfl) (by rfl) (by rfl)) (@QN _ _ _ _ _ _ _ _ qL qF)) (by rfl) (by rfl)) qF))),⟨(@wD _ _ 1 _ (show (["_law_box_here","_law_turn"]:List Str).Nodup by decide +kernel) (by rfl) (by first |exact Or.inl rfl |exact Or.inr rfl) (by first |exact .inl rfl |exact .inr rfl |assumption)),(qx 1),TsOk.nil,rfl⟩,GsOk.nil⟩) (by intro _;rfl))))) (by rfl) (by first |exact Or.inl rfl |exact Or.inr rfl) (by rfl) (by first |exact .inl rfl |exact .inr rfl |assumption)))) QQ) (@qS _ _ _ _ (@qo _ _ _ _ _ (@yn _ _ _ _ _ _ _ (@wq _ _ _ _ _ _ _ _ _ (@qCI _ _ _ _ _ _ _ _ hc hu V.n_sorted V.n_set (@qH _ _ 5 _ _ (by rfl) (by rfl) (by rfl)) (by rfl) (by rfl) (by rfl) (by rfl)) qF) V.n_tuple (by rfl) (by rfl) (by rfl)))))) QQ) (@qK _ _ _ _ _ _ (@qm _ _ _ _ _ 5 _ _ sc_law_floor.nd (@Qb _ _ _ _ (@Qm _ _ _ _ _ qF)) (by rfl) (by first |exact Or.inl rfl |exact Or.inr rfl) (by rfl) (by first |exact .inl rfl |exact .inr rfl |assumption)) (@qK _ _ _ _ _ _ (@wm _ _ _ _ _ _ _ _ _ (@qk _ _ _ _ _ _ _ rfl V.n_range (@qR _ _ _ _ _ _ _ (@qH _ _ 3 _ _ (by rfl) (by rfl) (by rfl)) qF) (by rfl)) (@QT _ _ 6 _ sc_law_floor.nd (by rfl) (by first |exact Or.inl rfl |exact Or.inr rfl) (by first |exact .inl rfl |exact .inr rfl |assumption)) (@qS _ _ _ _ (@qm _ _ _ _ _ 5 _ _ sc_law_floor.nd (@Qb _ _ _ _ (@Z6 _ _ _ _ _ _ _ (@qH _ _ 5 _ _ (by rfl) (by rfl) (by rfl)) (@Qb _ _ _ _ (@Q4 _ _ _ _ _ _ _ (["_law_row","_law_way","_law_box_here"]) (["_law_column"]) ([6,2,0]) _ _ _ _ _ (by exact wK rfl (by decide +kernel) rfl rfl ⟨⟨rfl,rfl⟩,⟨⟨rfl,rfl⟩,⟨⟨rfl,rfl⟩,trivial⟩⟩⟩) (@qk _ _ _ _ _ _ _ rfl V.n_range (@qR _ _ _ _ _ _ _ (@qH _ _ 4 _ _ (by rfl) (by rfl) (by rfl)) qF) (by rfl)) (fun s' H' fp pn=>⟨(@WD _ _ _ _ _ _ (@qR _ _ _ _ _ _ _ (@qH _ _ 0 _ _ (by rfl) (by rfl) (by rfl)) (@qR _ _ _ _ _ _ _ (@qH _ _ 3 _ _ (by rfl) (by rfl) (by rfl)) qF))),⟨(@wD _ _ 3 _ (show (["_law_row","_law_way","_law_box_here","_law_column"]:List Str).Nodup by decide +kernel) (by rfl) (by first |exact Or.inl rfl |exact Or.inr rfl) (by first |exact .inl rfl |exact .inr rfl |assumption)),(qx 3),(TsOk.cons (@qBH _ _ _ _ (@qAg _ _ _ _ _ _ _ _ (@QO _ _ _ _ _ _ _ _ _ _ (zB hu) ZI (@qH _ _ 1 _ _ (by rfl) (by rfl) (by rfl)) qL (by first |exact QI _ |with_unfolding_all rfl)) (@YD _ _ _ _ _ (@QO _ _ _ _ _ _ _ _ _ _ (zS hu) Z3 (@qU _ _ _ _ _ _ _ _ _ ((qh V).call (hr.mono (by omega)) (QA _)) (@qR _ _ _ _ _ _ _ (@qH _ _ 2 _ _ (by rfl) (by rfl) (by rfl)) (@qIH _ _ _ _ _ _ _ _ (@qv _ _ _ _ _ _ _ (@Qb _ _ _ _ (@Qm _ _ _ _ _ (@QN _ _ _ _ _ _ _ _ qL (@QN _ _ _ _ _ _ _ _ qL (@QN _ _ _ _ _ _ _ _ qL qF))))) (@qH _ _ 1 _ _ (by rfl) (by rfl) (by rfl)) (by exact fun _ _=>rfl)) qF)) (by rfl) (by rfl)) qL (by first |exact QI _ |with_unfolding_all rfl))))) TsOk.nil),rfl⟩,GsOk.nil⟩) (by intro _;rfl))))) (by rfl) (by first |exact Or.inl rfl |exact Or.inr rfl) (by rfl) (by first |exact .inl rfl |exact .inr rfl |assumption))) (by intro _;rfl)) (@qS _ _ _ _ (@qo _ _ _ _ _ (@yn _ _ _ _ _ _ _ (@qIa _ _ _ _ _ _ _ _ _ (@qHW _ _ _ _ _ _ _ _ _ (@QO _ _ _ _ _ _ _ _ _ _ qFA qE6 (@qH _ _ 2 _ _ (by rfl) (by rfl) (by rfl)) qL (by first |exact QI _ |with_unfolding_all rfl)) (@qC0 _ _ _ _ _ _ _ _ _ _ (@qH _ _ 5 _ _ (by rfl) (by rfl) (by rfl)) J6 (@J1 _ _ _ _ qL)) (@qC0 _ _ _ _ _ _ _ _ _ _ (@qH _ _ 5 _ _ (by rfl) (by rfl) (by rfl)) J6 (@J1 _ _ _ _ (@qU _ _ _ _ _ _ _ _ _ ((qh V).call (hr.mono (by omega)) ql) (@qR _ _ _ _ _ _ _ (@qH _ _ 0 _ _ (by rfl) (by rfl) (by rfl)) (@QN _ _ _ _ _ _ _ _ qL qF)) (by rfl) (by rfl))))) qF) V.n_tuple (by rfl) (by rfl) (by rfl)))))))))
theorem sc_law_rests:FnScope ["_law_floor_here","_law_length","_law_found","_law_one","_law_row","_law_other"] ["_law_floor_here","_law_length"] (qJ wF):=⟨rfl,rfl,rfl,by decide +kernel,rfl,by decide +kernel,by decide +kernel⟩
theorem jA (V:Env K mg a):DefG P w K mg base 2 "_law_rests" a.law_rests 2 (WM a):=by
 obtain ⟨fd,F⟩:=V.f_law_rests
 refine wM (B:=ZH a) F sc_law_rests (F.binds (ps:=["_law_floor_here","_law_length"]) fun _ _ _ _ _ _ us hl=>match us,hl with |[_,_],_=>rfl) V.m_law_rests (fun l st h=>qd h) (fun cdv A outer s H E hr hcm => ?_) (fun l s0 hl hn=>qa hl)
 have hu:=hr.units
 exact (@qK _ _ _ _ _ _ (@ZT _ _ _ _ 2 _ _ _ sc_law_rests.nd (@Qm _ _ _ _ _ qF) (by rfl) (by first |exact Or.inl rfl |exact Or.inr rfl) (by rfl) (by first |exact .inl rfl |exact .inr rfl |assumption)) (@qK _ _ _ _ _ _ (@wm _ _ _ _ _ _ _ _ _ (@qk _ _ _ _ _ _ _ rfl V.n_range (@qR _ _ _ _ _ _ _ (@qH _ _ 1 _ _ (by rfl) (by rfl) (by rfl)) qF) (by rfl)) (@QT _ _ 3 _ sc_law_rests.nd (by rfl) (by first |exact Or.inl rfl |exact Or.inr rfl) (by first |exact .inl rfl |exact .inr rfl |assumption)) (@qK _ _ _ _ _ _ (@ZT _ _ _ _ 4 _ _ _ sc_law_rests.nd (@Qm _ _ _ _ _ qF) (by rfl) (by first |exact Or.inl rfl |exact Or.inr rfl) (by rfl) (by first |exact .inl rfl |exact .inr rfl |assumption)) (@qK _ _ _ _ _ _ (@wm _ _ _ _ _ _ _ _ _ (@qk _ _ _ _ _ _ _ rfl V.n_range (@qR _ _ _ _ _ _ _ (@qH _ _ 1 _ _ (by rfl) (by rfl) (by rfl)) qF) (by rfl)) (@QT _ _ 5 _ sc_law_rests.nd (by rfl) (by first |exact Or.inl rfl |exact Or.inr rfl) (by first |exact .inl rfl |exact .inr rfl |assumption)) (@qS _ _ _ _ (@ZC _ _ _ _ _ _ _ _ _ (@qH _ _ 4 _ _ (by rfl) (by rfl) (by rfl)) (@wu _ _ _ _ _ _ _ (@Jh _ _ _ _ _ _ _ _ _ (@Qb _ _ _ _ (@Q4 _ _ _ _ _ _ _ (["_law_one","_law_other","_law_length"]) (["_law_cell_here"]) ([3,5,1]) _ _ _ _ _ (by exact wK rfl (by decide +kernel) rfl rfl ⟨⟨rfl,rfl⟩,⟨⟨rfl,rfl⟩,⟨⟨rfl,rfl⟩,trivial⟩⟩⟩) (@W7 _ _ _ _ _ (@qH _ _ 0 _ _ (by rfl) (by rfl) (by rfl))) (fun s' H' fp pn=>⟨(@qH _ _ 3 _ _ (by rfl) (by rfl) (by rfl)),⟨(@wD _ _ 3 _ (show (["_law_one","_law_other","_law_length","_law_cell_here"]:List Str).Nodup by decide +kernel) (by rfl) (by first |exact Or.inl rfl |exact Or.inr rfl) (by first |exact .inl rfl |exact .inr rfl |assumption)),(qx 3),(TsOk.cons (@qBH _ _ _ _ (@qC8 _ _ _ _ _ _ _ _ (@QO _ _ _ _ _ _ _ _ _ _ (zB hu) ZI (@Wt _ _ _ _ _ _ _ (@qv _ _ _ _ _ _ _ (@qH _ _ 3 _ _ (by rfl) (by rfl) (by rfl)) qL (by exact fun _ _=>rfl)) (@qH _ _ 2 _ _ (by rfl) (by rfl) (by rfl))) (@qH _ _ 0 _ _ (by rfl) (by rfl) (by rfl)) (by first |exact QI _ |with_unfolding_all rfl)) (@qAb _ _ _ _ _ (@QO _ _ _ _ _ _ _ _ _ _ (zB hu) ZI (@Wt _ _ _ _ _ _ _ (@qv _ _ _ _ _ _ _ (@qH _ _ 3 _ _ (by rfl) (by rfl) (by rfl)) qL (by exact fun _ _=>rfl)) (@qH _ _ 2 _ _ (by rfl) (by rfl) (by rfl))) (@qH _ _ 1 _ _ (by rfl) (by rfl) (by rfl)) (by first |exact QI _ |with_unfolding_all rfl))))) TsOk.nil),rfl⟩,GsOk.nil⟩) (by intro _;rfl))) qF) V.n_len (by rfl) (by rfl) (by rfl)) (by rfl) (by rfl) (by rfl) (by rfl) (by rfl) (by rfl))) (by intro _;rfl)) (@qS _ _ _ _ (@ZC _ _ _ _ _ _ _ _ _ (@qH _ _ 2 _ _ (by rfl) (by rfl) (by rfl)) (@qH _ _ 4 _ _ (by rfl) (by rfl) (by rfl)) (by rfl) (by rfl) (by rfl) (by rfl) (by rfl) (by rfl))))) (by intro _;rfl)) (@qS _ _ _ _ (@qo _ _ _ _ _ (@qH _ _ 2 _ _ (by rfl) (by rfl) (by rfl))))))
theorem sc_law_apart:FnScope ["_law_table","_law_one","_law_other","_law_more"] ["_law_table"] (qJ wH):=⟨rfl,rfl,rfl,by decide +kernel,rfl,by decide +kernel,by decide +kernel⟩
theorem j7 (V:Env K mg a):DefG P w K mg base 2 "_law_apart" a.law_apart 1 (WQ a):=by
 obtain ⟨fd,F⟩:=V.f_law_apart
 refine wM (B:=ZJ a) F sc_law_apart (F.binds (ps:=["_law_table"]) fun _ _ _ _ _ _ us hl=>match us,hl with |[_],_=>rfl) V.m_law_apart (fun l st h=>qd h) (fun cdv A outer s H E hr hcm => ?_) (fun l s0 hl hn=>qa hl)
 have hu:=hr.units
 exact (@qK _ _ _ _ _ _ (@wm _ _ _ _ _ _ _ _ _ (@qk _ _ _ _ _ _ _ rfl V.n_range (@wq _ _ _ _ _ _ _ _ _ (@wu _ _ _ _ _ _ _ (@qR _ _ _ _ _ _ _ (@qH _ _ 0 _ _ (by rfl) (by rfl) (by rfl)) qF) V.n_len (by rfl) (by rfl) (by rfl)) qF) (by rfl)) (@QT _ _ 1 _ sc_law_apart.nd (by rfl) (by first |exact Or.inl rfl |exact Or.inr rfl) (by first |exact .inl rfl |exact .inr rfl |assumption)) (@qS _ _ _ _ (@wm _ _ _ _ _ _ _ _ _ (@qk _ _ _ _ _ _ _ rfl V.n_range (@wq _ _ _ _ _ _ _ _ _ (@wu _ _ _ _ _ _ _ (@qR _ _ _ _ _ _ _ (@qH _ _ 0 _ _ (by rfl) (by rfl) (by rfl)) qF) V.n_len (by rfl) (by rfl) (by rfl)) qF) (by rfl)) (@QT _ _ 2 _ sc_law_apart.nd (by rfl) (by first |exact Or.inl rfl |exact Or.inr rfl) (by first |exact .inl rfl |exact .inr rfl |assumption)) (@qK _ _ _ _ _ _ (@qm _ _ _ _ _ 3 _ _ sc_law_apart.nd (@Qc _ _ _ _ _ _ _ (@qv _ _ _ _ _ _ _ (@qv _ _ _ _ _ _ _ (@qH _ _ 0 _ _ (by rfl) (by rfl) (by rfl)) (@qH _ _ 1 _ _ (by rfl) (by rfl) (by rfl)) (by exact fun _ _=>rfl)) (@qH _ _ 2 _ _ (by rfl) (by rfl) (by rfl)) (by exact fun _ _=>rfl)) (@qv _ _ _ _ _ _ _ (@qv _ _ _ _ _ _ _ (@qH _ _ 0 _ _ (by rfl) (by rfl) (by rfl)) qL (by exact fun _ _=>rfl)) qL (by exact fun _ _=>rfl))) (by rfl) (by first |exact Or.inl rfl |exact Or.inr rfl) (by rfl) (by first |exact .inl rfl |exact .inr rfl |assumption)) (@qS _ _ _ _ (@wj _ _ _ _ _ _ _ _ _ (@QO _ _ _ _ _ _ _ _ _ _ (zS hu) Z3 (@qH _ _ 3 _ _ (by rfl) (by rfl) (by rfl)) (@Qc _ _ _ _ _ _ _ (@qv _ _ _ _ _ _ _ (@qv _ _ _ _ _ _ _ (@qH _ _ 0 _ _ (by rfl) (by rfl) (by rfl)) (@qH _ _ 1 _ _ (by rfl) (by rfl) (by rfl)) (by exact fun _ _=>rfl)) qL (by exact fun _ _=>rfl)) (@qv _ _ _ _ _ _ _ (@qv _ _ _ _ _ _ _ (@qH _ _ 0 _ _ (by rfl) (by rfl) (by rfl)) qL (by exact fun _ _=>rfl)) (@qH _ _ 2 _ _ (by rfl) (by rfl) (by rfl)) (by exact fun _ _=>rfl))) (by first |exact QI _ |with_unfolding_all rfl)) (@qS _ _ _ _ (@qo _ _ _ _ _ (@WD _ _ _ _ _ _ (@qR _ _ _ _ _ _ _ (@qH _ _ 1 _ _ (by rfl) (by rfl) (by rfl)) (@qR _ _ _ _ _ _ _ (@qH _ _ 2 _ _ (by rfl) (by rfl) (by rfl)) qF))))) QQ))) (by intro _;rfl))) (by intro _;rfl)) (@qS _ _ _ _ (@qo _ _ _ _ _ zA)))
theorem qBW (V:Env K mg a):∀ C∈Qi a,PySem.W.mroIn K C (.ref a.BarError)=some true:=by
 intro C hC
 unfold Qi at hC
 rcases List.mem_cons.mp hC with rfl |hC
 ·exact V.e_NoLength
 cases hC
theorem qGj (V:Env K mg a) {A:Around} (hr:Room 8 A):∀ q∈tbl a,∃ k x,DefG P w K mg base k x q.1 2 q.2∧Room k A:=by
 intro q hq
 unfold tbl at hq
 rcases List.mem_cons.mp hq with rfl |hq
 ·exact ⟨8,_,qBQ V,hr⟩
 ·rcases List.mem_cons.mp hq with rfl |hq
  ·exact ⟨7,_,zK V,hr.mono (by omega)⟩
  ·cases hq
theorem sc_law_asked:FnScope ["_law_way","_law_floor_here","_law_length","_law_e"] ["_law_way","_law_floor_here","_law_length"] (qJ Q0):=⟨rfl,rfl,rfl,by decide +kernel,rfl,by decide +kernel,by decide +kernel⟩
theorem Wu (V:Env K mg a):DefG P w K mg base 9 "_law_asked" a.law_asked 3 (q9 a):=by
 obtain ⟨fd,F⟩:=V.f_law_asked
 obtain ⟨_,_,_,o_BarError⟩:=V.o_BarError
 refine wM (B:=WO a) F sc_law_asked (F.binds (ps:=["_law_way","_law_floor_here","_law_length"]) fun _ _ _ _ _ _ us hl=>match us,hl with |[_,_,_],_=>rfl) V.m_law_asked (fun l st h=>qd h) (fun cdv A outer s H E hr hcm => ?_) (fun l s0 hl hn=>qa hl)
 have hu:=hr.units
 have hc:(wR (CXF P w) P w K mg base ["_law_way","_law_floor_here","_law_length","_law_e"] "_law_asked" (qJ Q0) a.law_asked cdv A outer s H E).calm=true:=by show A.handled.isNone=true;rw [hcm (by omega)];rfl
 exact (@qS _ _ _ _ (@qGU _ _ _ _ _ _ _ _ _ _ _ _ _ _ _ _ _ 3 ⟨rfl,rfl,rfl⟩ hc sc_law_asked.nd rfl V.k_BarError o_BarError V.b_BarError (qBW V) (fun pins xe E' hp=>(@qS _ _ _ _ (@qo _ _ _ _ _ (@qCo _ _ _ _ _ _ _ _ _ _ hp (qGj V hr) (@qv _ _ _ _ _ _ _ (@Qb _ _ _ _ (@Qm _ _ _ _ _ (@qR _ _ _ _ _ _ _ (@Wg _ _ _ _ _ rfl V.m_sums_of (by decide)) (@qR _ _ _ _ _ _ _ (@Wg _ _ _ _ _ rfl V.m_first_apart (by decide)) qF)))) (@qH _ _ 0 _ _ (by rfl) (by rfl) (by rfl)) (by exact fun _ _=>rfl)) (@qR _ _ _ _ _ _ _ (@qH _ _ 1 _ _ (by rfl) (by rfl) (by rfl)) (@qR _ _ _ _ _ _ _ (@qH _ _ 2 _ _ (by rfl) (by rfl) (by rfl)) qF)) (by rfl) (by rfl) (by rfl))))) (fun ea=>(@qS _ _ _ _ (@qo _ _ _ _ _ (@qU _ _ _ _ _ _ _ _ _ ((JZ V).call (qEe hr) (QA _)) (@qR _ _ _ _ _ _ _ (@qH _ _ 3 _ _ (by rfl) (by rfl) (by rfl)) qF) (by rfl) (by rfl))))) (by rfl) (by rfl) (by decide)))
theorem sc_law:FnScope ["_law_script","_law_k","_law_box_here","_law_length","_law_floor_here","_law_table","_law_apart_here","_law_due","_law_turn","_law_found","_law_bad"] ["_law_script"] (qJ Wp):=⟨rfl,rfl,rfl,by decide +kernel,rfl,by decide +kernel,by decide +kernel⟩
theorem qHR {fd:FuncData} (V:Env K mg a) (F:Fun K "law" "law" Wp a.law fd):FnOk P w K mg base (CXF P w) 10 a.law fd ["_law_script"] (spG K 1 (jU a)):=by
 refine okV F sc_law fun cdv A outer s H E hr hcm=>⟨qEu a,?_,fun l s0 hl hn=>qa hl⟩
 have hu:=hr.units
 have hc:(wR (CXF P w) P w K mg base ["_law_script","_law_k","_law_box_here","_law_length","_law_floor_here","_law_table","_law_apart_here","_law_due","_law_turn","_law_found","_law_bad"] "law" (qJ Wp) a.law cdv A outer s H E).calm=true:=by show A.handled.isNone=true;rw [hcm (by omega)];rfl
 exact (@qK _ _ _ _ _ _ (@wm _ _ _ _ _ _ _ _ _ (@qk _ _ _ _ _ _ _ rfl V.n_range (@wq _ _ _ _ _ _ _ _ _ (@qDc _ _ _ _ _ _ _ (@QN _ _ _ _ _ _ _ _ qL (@wq _ _ _ _ _ _ _ _ _ (@qEK _ _ _ _ _ _ _ (@wq _ _ _ _ _ _ _ _ _ (@wu _ _ _ _ _ _ _ (@qR _ _ _ _ _ _ _ (@qH _ _ 0 _ _ (by rfl) (by rfl) (by rfl)) qF) V.n_len (by rfl) (by rfl) (by rfl)) (@QN _ _ _ _ _ _ _ _ qL qF)) hc V.n_min (by rfl) (by rfl) (by rfl)) qF)) hc V.n_max (by rfl) (by rfl) (by rfl)) qF) (by rfl)) (@QT _ _ 1 _ sc_law.nd (by rfl) (by first |exact Or.inl rfl |exact Or.inr rfl) (by first |exact .inl rfl |exact .inr rfl |assumption)) (@qK _ _ _ _ _ _ (@qm _ _ _ _ _ 2 _ _ sc_law.nd (@qU _ _ _ _ _ _ _ _ _ ((qAp V).call (hr.mono (by omega)) (QA _)) (@qR _ _ _ _ _ _ _ (@qH _ _ 0 _ _ (by rfl) (by rfl) (by rfl)) (@qR _ _ _ _ _ _ _ (@qH _ _ 1 _ _ (by rfl) (by rfl) (by rfl)) qF)) (by rfl) (by rfl)) (by rfl) (by first |exact Or.inl rfl |exact Or.inr rfl) (by rfl) (by first |exact .inl rfl |exact .inr rfl |assumption)) (@qK _ _ _ _ _ _ (@qm _ _ _ _ _ 3 _ _ sc_law.nd (@Qc _ _ _ _ _ _ _ qL (@qU _ _ _ _ _ _ _ _ _ ((qh V).call (hr.mono (by omega)) (QA _)) (@qR _ _ _ _ _ _ _ (@qH _ _ 2 _ _ (by rfl) (by rfl) (by rfl)) (@QN _ _ _ _ _ _ _ _ qL qF)) (by rfl) (by rfl))) (by rfl) (by first |exact Or.inl rfl |exact Or.inr rfl) (by rfl) (by first |exact .inl rfl |exact .inr rfl |assumption)) (@qK _ _ _ _ _ _ (@qm _ _ _ _ _ 4 _ _ sc_law.nd (@qU _ _ _ _ _ _ _ _ _ ((jV V).call (hr.mono (by omega)) (QA _)) (@qR _ _ _ _ _ _ _ (@qH _ _ 2 _ _ (by rfl) (by rfl) (by rfl)) (@qR _ _ _ _ _ _ _ (@qH _ _ 3 _ _ (by rfl) (by rfl) (by rfl)) qF)) (by rfl) (by rfl)) (by rfl) (by first |exact Or.inl rfl |exact Or.inr rfl) (by rfl) (by first |exact .inl rfl |exact .inr rfl |assumption)) (@qK _ _ _ _ _ _ (@qm _ _ _ _ _ 5 _ _ sc_law.nd (@qU _ _ _ _ _ _ _ _ _ ((jA V).call (hr.mono (by omega)) (QA _)) (@qR _ _ _ _ _ _ _ (@qH _ _ 4 _ _ (by rfl) (by rfl) (by rfl)) (@qR _ _ _ _ _ _ _ (@qH _ _ 3 _ _ (by rfl) (by rfl) (by rfl)) qF)) (by rfl) (by rfl)) (by rfl) (by first |exact Or.inl rfl |exact Or.inr rfl) (by rfl) (by first |exact .inl rfl |exact .inr rfl |assumption)) (@qK _ _ _ _ _ _ (@qm _ _ _ _ _ 6 _ _ sc_law.nd (@qU _ _ _ _ _ _ _ _ _ ((j7 V).call (hr.mono (by omega)) (QA _)) (@qR _ _ _ _ _ _ _ (@qH _ _ 5 _ _ (by rfl) (by rfl) (by rfl)) qF) (by rfl) (by rfl)) (by rfl) (by first |exact Or.inl rfl |exact Or.inr rfl) (by rfl) (by first |exact .inl rfl |exact .inr rfl |assumption)) (@qK _ _ _ _ _ _ (@qm _ _ _ _ _ 7 _ _ sc_law.nd zA (by rfl) (by first |exact Or.inl rfl |exact Or.inr rfl) (by rfl) (by first |exact .inl rfl |exact .inr rfl |assumption)) (@qK _ _ _ _ _ _ (@wj _ _ _ _ _ _ _ _ _ (@QO _ _ _ _ _ _ _ _ _ _ qGa qHy (@qH _ _ 6 _ _ (by rfl) (by rfl) (by rfl)) zA (by first |exact QI _ |with_unfolding_all rfl)) (@qS _ _ _ _ (@qm _ _ _ _ _ 7 _ _ sc_law.nd (@WD _ _ _ _ _ _ (@Jh _ _ _ _ _ _ _ _ _ (@Qb _ _ _ _ (@Q4 _ _ _ _ _ _ _ ([]) (["_law_row"]) ([]) _ _ _ _ _ (by exact wK rfl (by decide +kernel) rfl rfl trivial) (@W7 _ _ _ _ _ (@qH _ _ 5 _ _ (by rfl) (by rfl) (by rfl))) (fun s' H' fp pn=>⟨(@qv _ _ _ _ _ _ _ (@qH _ _ 0 _ _ (by rfl) (by rfl) (by rfl)) qL (by exact fun _ _=>rfl)),⟨(@wD _ _ 0 _ (show (["_law_row"]:List Str).Nodup by decide +kernel) (by rfl) (by first |exact Or.inl rfl |exact Or.inr rfl) (by first |exact .inl rfl |exact .inr rfl |assumption)),(qx 0),TsOk.nil,rfl⟩,GsOk.nil⟩) (by intro _;rfl))) (@Jh _ _ _ _ _ _ _ _ _ (@Qb _ _ _ _ (@Q4 _ _ _ _ _ _ _ (["_law_table"]) (["_law_number"]) ([5]) _ _ _ _ _ (by exact wK rfl (by decide +kernel) rfl rfl ⟨⟨rfl,rfl⟩,trivial⟩) (@W7 _ _ _ _ _ (@qv _ _ _ _ _ _ _ (@qH _ _ 5 _ _ (by rfl) (by rfl) (by rfl)) qL (by exact fun _ _=>rfl))) (fun s' H' fp pn=>⟨(@YE _ _ _ _ _ _ _ (@qH _ _ 1 _ _ (by rfl) (by rfl) (by rfl)) (@qv _ _ _ _ _ _ _ (@qv _ _ _ _ _ _ _ (@qH _ _ 0 _ _ (by rfl) (by rfl) (by rfl)) qL (by exact fun _ _=>rfl)) qL (by exact fun _ _=>rfl))),⟨(@wD _ _ 1 _ (show (["_law_table","_law_number"]:List Str).Nodup by decide +kernel) (by rfl) (by first |exact Or.inl rfl |exact Or.inr rfl) (by first |exact .inl rfl |exact .inr rfl |assumption)),(qx 1),TsOk.nil,rfl⟩,GsOk.nil⟩) (by intro _;rfl))) qF))) (by rfl) (by first |exact Or.inl rfl |exact Or.inr rfl) (by rfl) (by first |exact .inl rfl |exact .inr rfl |assumption))) QQ) (@qK _ _ _ _ _ _ (@wm _ _ _ _ _ _ _ _ _ (@qk _ _ _ _ _ _ _ rfl V.n_range (@QN _ _ _ _ _ _ _ _ qL qF) (by rfl)) (@QT _ _ 8 _ sc_law.nd (by rfl) (by first |exact Or.inl rfl |exact Or.inr rfl) (by first |exact .inl rfl |exact .inr rfl |assumption)) (@qK _ _ _ _ _ _ (@qm _ _ _ _ _ 9 _ _ sc_law.nd (@qU _ _ _ _ _ _ _ _ _ ((Wu V).call (hr.mono (by omega)) (QA _)) (@QN _ _ _ _ _ _ _ _ qL (@qR _ _ _ _ _ _ _ (@qH _ _ 4 _ _ (by rfl) (by rfl) (by rfl)) (@qR _ _ _ _ _ _ _ (@qH _ _ 3 _ _ (by rfl) (by rfl) (by rfl)) qF))) (by rfl) (by rfl)) (by rfl) (by first |exact Or.inl rfl |exact Or.inr rfl) (by rfl) (by first |exact .inl rfl |exact .inr rfl |assumption)) (@qK _ _ _ _ _ _ (@wj _ _ _ _ _ _ _ _ _ (@qBH _ _ _ _ (@qAg _ _ _ _ _ _ _ _ (@YM _ _ _ _ _ (@Z0 _ _ _ _ (@qU _ _ _ _ _ _ _ _ _ ((Zn V).call (hr.mono (by omega)) (QA _)) (@qR _ _ _ _ _ _ _ (@qH _ _ 9 _ _ (by rfl) (by rfl) (by rfl)) (@qR _ _ _ _ _ _ _ (@qH _ _ 7 _ _ (by rfl) (by rfl) (by rfl)) qF)) (by rfl) (by rfl)) (by intro _;rfl))) (@YD _ _ _ _ _ (@YM _ _ _ _ _ (@Z0 _ _ _ _ (@qU _ _ _ _ _ _ _ _ _ ((Zn V).call (hr.mono (by omega)) (QA _)) (@wq _ _ _ _ _ _ _ _ _ (@qU _ _ _ _ _ _ _ _ _ ((Wu V).call (hr.mono (by omega)) (QA _)) (@QN _ _ _ _ _ _ _ _ qL (@qR _ _ _ _ _ _ _ (@qH _ _ 4 _ _ (by rfl) (by rfl) (by rfl)) (@qR _ _ _ _ _ _ _ (@qH _ _ 3 _ _ (by rfl) (by rfl) (by rfl)) qF))) (by rfl) (by rfl)) (@qR _ _ _ _ _ _ _ (@qH _ _ 6 _ _ (by rfl) (by rfl) (by rfl)) qF)) (by rfl) (by rfl)) (by intro _;rfl)))))) (@qS _ _ _ _ (@qo _ _ _ _ _ yi)) QQ) (@qS _ _ _ _ (@wj _ _ _ _ _ _ _ _ _ (@QO _ _ _ _ _ _ _ _ _ _ J4 jT (@qH _ _ 9 _ _ (by rfl) (by rfl) (by rfl)) zA (by first |exact QI _ |with_unfolding_all rfl)) (@qK _ _ _ _ _ _ (@ZC _ _ _ _ _ _ _ _ _ (@qv _ _ _ _ _ _ _ (@qH _ _ 9 _ _ (by rfl) (by rfl) (by rfl)) qL (by exact fun _ _=>rfl)) qL (by rfl) (by rfl) (by rfl) (by rfl) (by rfl) (by rfl)) (@qS _ _ _ _ (@qCZ _ _ _ _ _ _ _ _ _ _ (@qv _ _ _ _ _ _ _ (@qH _ _ 9 _ _ (by rfl) (by rfl) (by rfl)) qL (by exact fun _ _=>rfl)) qL qL (by rfl) (by rfl) (by rfl) (by intro _;rfl)))) QQ)))) (by intro _;rfl)) (@qK _ _ _ _ _ _ (@qm _ _ _ _ _ 10 _ _ sc_law.nd (@qU _ _ _ _ _ _ _ _ _ ((ZP V).call (hr.mono (by omega)) (QA _)) (@qR _ _ _ _ _ _ _ (@qH _ _ 2 _ _ (by rfl) (by rfl) (by rfl)) qF) (by rfl) (by rfl)) (by rfl) (by first |exact Or.inl rfl |exact Or.inr rfl) (by rfl) (by first |exact .inl rfl |exact .inr rfl |assumption)) (@qS _ _ _ _ (@wj _ _ _ _ _ _ _ _ _ (@QO _ _ _ _ _ _ _ _ _ _ (zS hu) Z3 (@Qb _ _ _ _ (@Q4 _ _ _ _ _ _ _ (["_law_floor_here","_law_bad"]) (["_law_way"]) ([4,10]) _ _ _ _ _ (by exact wK rfl (by decide +kernel) rfl rfl ⟨⟨rfl,rfl⟩,⟨⟨rfl,rfl⟩,trivial⟩⟩) (@qk _ _ _ _ _ _ _ rfl V.n_range (@QN _ _ _ _ _ _ _ _ qL qF) (by rfl)) (fun s' H' fp pn=>⟨(@qU _ _ _ _ _ _ _ _ _ ((Wu V).call (hr.mono (by omega)) (QA _)) (@qR _ _ _ _ _ _ _ (@qH _ _ 2 _ _ (by rfl) (by rfl) (by rfl)) (@qR _ _ _ _ _ _ _ (@qH _ _ 0 _ _ (by rfl) (by rfl) (by rfl)) (@qR _ _ _ _ _ _ _ (@qH _ _ 1 _ _ (by rfl) (by rfl) (by rfl)) qF))) (by rfl) (by rfl)),⟨(@wD _ _ 2 _ (show (["_law_floor_here","_law_bad","_law_way"]:List Str).Nodup by decide +kernel) (by rfl) (by first |exact Or.inl rfl |exact Or.inr rfl) (by first |exact .inl rfl |exact .inr rfl |assumption)),(qx 2),TsOk.nil,rfl⟩,GsOk.nil⟩) (by intro _;rfl))) (@Qb _ _ _ _ (@Qm _ _ _ _ _ (@QN _ _ _ _ _ _ _ _ Qu (@QN _ _ _ _ _ _ _ _ Qu qF)))) (by first |exact QI _ |with_unfolding_all rfl)) (@qS _ _ _ _ (@qo _ _ _ _ _ yi)) QQ))))))))))) (by intro _;rfl)) (@qS _ _ _ _ (@qo _ _ _ _ _ yi)))
end
end K12
end
section
namespace EV
open PySem L2 EX
theorem Wx {G:qC->Prop} {k:PV->qC->Rs (List PV)} {st:qC} (hG:G st) {F:PV->List PV}:∀ {l:List PV},(∀ p∈l,k p st = .ok (F p) st)->qc G k l st = .ok (l.flatMap F) st
 |[],_=>by unfold qc;rw [if_pos hG];rfl
 |p::l,h=>by
  unfold qc
  rw [if_pos hG,h p List.mem_cons_self]
  show (qc G k l st).bind _=_
  rw [Wx hG fun q hq=>h q (List.mem_cons_of_mem _ hq)]
  rfl
theorem ZG {F:PV->PV}:∀ l:List PV,l.flatMap (fun p=>[F p])=l.map F
 |[]=>rfl
 |p::l=>by rw [List.flatMap_cons,ZG l];rfl
theorem W8 {c:PV->Bool}:∀ l:List PV,l.flatMap (fun p=>if c p=true then [p] else [])=l.filter c
 |[]=>rfl
 |p::l=>by
  rw [List.flatMap_cons,W8 l,List.filter_cons]
  cases c p <;> rfl
theorem wT {caps:List Nat} {n:Nat} {fi:FI} {g:FG} {f:FE} {r:qu} {st:qC} {w:ItP} {F:PV->PV} (hfi:fi r st = .ok w st) (hG:w.G st) (hl:w.l.length≤sizeLine)
  (h:∀ p∈w.l,∃ r',g p (Wf caps n r)=some r'∧f r' st = .ok (F p) st):qg caps n fi g [] [] f r st = .ok (w.l.map F) st:=by
 unfold qg
 rw [hfi]
 show (match qc w.G (QJ ⟨fi,g,[]⟩ (QZ [] f) (Wf caps n r)) w.l st with | .ok l s'=>if l.length≤sizeLine then Rs.ok l s' else Rs.no |_=>Rs.no)=_
 rw [Wx (F:=fun p=>[F p]) hG fun p hp=>by
  obtain ⟨r',h1,h2⟩:=h p hp
  unfold QJ
  show (match g p (Wf caps n r) with |none=>_ |some r'=>_)=_
  rw [h1]
  show (QZ [] f) r' st=_
  unfold QZ
  rw [h2];rfl]
 rw [ZG]
 dsimp only
 rw [if_pos (by rw [List.length_map];exact hl)]
theorem zc {caps:List Nat} {n:Nat} {fi:FI} {g:FG} {t:FT} {f:FE} {r:qu} {st:qC} {w:ItP} {c:PV->Bool} (hfi:fi r st = .ok w st) (hG:w.G st) (hl:w.l.length≤sizeLine)
  (h:∀ p∈w.l,∃ r',g p (Wf caps n r)=some r'∧t r' st = .ok (c p) st∧f r' st = .ok p st):qg caps n fi g [t] [] f r st = .ok (w.l.filter c) st:=by
 unfold qg
 rw [hfi]
 show (match qc w.G (QJ ⟨fi,g,[t]⟩ (QZ [] f) (Wf caps n r)) w.l st with | .ok l s'=>if l.length≤sizeLine then Rs.ok l s' else Rs.no |_=>Rs.no)=_
 rw [Wx (F:=fun p=>if c p=true then [p] else []) hG fun p hp=>by
  obtain ⟨r',h1,h2,h3⟩:=h p hp
  unfold QJ
  show (match g p (Wf caps n r) with |none=>_ |some r'=>_)=_
  rw [h1]
  show (Q7 [t] r' st).bind _=_
  unfold Q7 Q7
  rw [h2]
  cases hc:c p
  ·rfl
  ·show (QZ [] f) r' st=_
   unfold QZ
   rw [h3];rfl]
 rw [W8]
 dsimp only
 rw [if_pos (Nat.le_trans (List.length_filter_le _ _) hl)]
theorem yd {G:qC->Prop} {g:FG} {F:FS} {r:qu} {st:qC} (h:G st):QM G g F [] r st = .nx r st:=by unfold QM;rw [if_pos h]
theorem yB {G:qC->Prop} {g:FG} {F:FS} {r r1 r2:qu} {st s2:qC} {p:PV} {ps:List PV} (h:G st) (h1:g p r=some r1) (h2:F r1 st = .nx r2 s2):QM G g F (p::ps) r st=QM G g F ps r2 s2:=by
 rw [QM,if_pos h,h1]
 dsimp only
 rw [h2]
section
variable {F G:FS} {f:FE} {fl:FL} {fi:FI} {g:FG} {t:FT} {r r':qu} {st st':qC} {p:PV} {l:List PV} {w:ItP} {i:Nat}
theorem Q9 (h:F r st = .nx r' st'):qP F G r st=G r' st':=by unfold qP;rw [h]
theorem JV (h:F r st = .rt p st'):qP F G r st = .rt p st':=by unfold qP;rw [h]
theorem qGu {x:Exc} (h:F r st = .ex x st'):qP F G r st = .ex x st':=by unfold qP;rw [h]
theorem qGc {x:Exc} (h:f r st = .ex x st'):Wh f r st = .ex x st':=by unfold Wh;rw [h];rfl
theorem qEc {x:Exc} {n N:Nat} {B:FS} (hl:l.length=n) (h:B (Qh N l) st = .ex x st'):QL n N B l st = .ex x st':=by unfold QL;rw [if_pos hl,h];rfl
theorem qGd (h:f r st = .ok p st'):Wh f r st = .nx r st':=by unfold Wh;rw [h];rfl
theorem WS (h:f r st = .ok p st'):qX i f r st = .nx (r.set i (some p)) st':=by unfold qX;rw [h];rfl
theorem qDV (h:fl r st = .ok l st'):wa i fl r st = .nx (r.set i (some (.ref st'.length))) (st'++[.l l]):=by unfold wa;rw [h];rfl
theorem zt (h:f r st = .ok p st'):qq f r st = .rt p st':=by unfold qq;rw [h];rfl
theorem qAA (h:fl r st = .ok l st'):Zm fl r st = .rt (.ref st'.length) (st'++[.l l]):=by unfold Zm;rw [h];rfl
theorem qBv (h:fi r st = .ok w st'):wG fi g F r st=QM w.G g F w.l r st':=by unfold wG;rw [h];rfl
theorem qGx (h:t r st = .ok true st'):Qz t F G r st=F r st':=by unfold Qz;rw [h];rfl
theorem qDv (h:t r st = .ok false st'):Qz t F G r st=G r st':=by unfold Qz;rw [h];rfl
theorem Zj (h:fl r st = .ok l st'):vFz fl r st = .ok (.lst l) st':=by unfold vFz;rw [h];rfl
theorem Qw {k:List PV->qC->Rs PV} {fa:FA} (h:fa r st = .ok l st'):qI k fa r st=k l st':=by unfold qI;rw [h];rfl
theorem Qy {fa:FA} {st2:qC} (h:f r st = .ok p st') (h2:fa r st' = .ok l st2):qA f fa r st = .ok (p::l) st2:=by unfold qA;rw [h];show (fa r st').bind _=_;rw [h2];rfl
theorem qt {k:PV->PV->qC->Rs PV} {fb:FE} {q:PV} {st2:qC} (h:f r st = .ok p st') (h2:fb r st' = .ok q st2):qG k f fb r st=k p q st2:=by unfold qG;rw [h];show (fb r st').bind _=_;rw [h2];rfl
theorem yZ {b:Bool} (h:f r st = .ok (.bl b) st'):wW f r st = .ok b st':=by unfold wW;rw [h];rfl
theorem qBi {b:Bool} (h:t r st = .ok b st'):Wv t r st = .ok (!b) st':=by unfold Wv;rw [h];rfl
theorem JA {b:Bool} (h:f r st = .ok (.bl b) st'):vTB f r st = .ok b st':=by unfold vTB;rw [h];rfl
theorem we {n N:Nat} {B:FS} (hl:l.length=n) (h:B (Qh N l) st = .rt p st'):QL n N B l st = .ok p st':=by unfold QL;rw [if_pos hl,h];rfl
end
section
variable {F G:FS} {f fb fo fi2:FE} {fl:FL} {fi:FI} {fa:FA} {g:FG} {t u:FT} {r r1 r':qu} {st s1 s2 s3:qC} {p q z:PV} {l m:List PV} {w:ItP} {i:Nat} {b c:Bool} {x:Exc} {o:RS} {R:Rs PV}
theorem qV {k:PV->PV->qC->Rs PV} (h:f r st = .ok p s1) (h2:fb r s1 = .ok q s2) (h3:k p q s2=R):qG k f fb r st=R:=by rw [qt h h2];exact h3
theorem qO {k:List PV->qC->Rs PV} (h:fa r st = .ok l s1) (h2:k l s1=R):qI k fa r st=R:=by rw [Qw h];exact h2
theorem QB:qD r st = .ok [] st:=rfl
theorem qT (h:f r st = .ok p s1) (h2:fa r s1 = .ok l s2):qA f fa r st = .ok (p::l) s2:=Qy h h2
theorem ZE (h:fa r st = .ok l s1) (hl:l.length≤sizeLine):WC fa r st = .ok (.tup l) s1:=by unfold WC;rw [h];exact if_pos hl
theorem ZD (h:fl r st = .ok l s1):vFz fl r st = .ok (.lst l) s1:=Zj h
theorem qBp (h:f r st = .ok p s1) (h2:fb r s1 = .ok q s2) (e1:asL s2 p=some l) (e2:asL s2 q=some m) (hl:l.length + m.length≤sizeLine):zR f fb r st = .ok (l++m) s2:=by
 unfold zR;rw [h];show (fb r s1).bind _=_;rw [h2];show (match asL s2 p with |some l=>_ |none=>_)=_;rw [e1];dsimp only;rw [e2];dsimp only;rw [if_pos hl]
theorem WP (h:f r st = .ok (.bl b) s1):wW f r st = .ok b s1:=yZ h
theorem wJ (h:f r st = .ok (.bl b) s1):vTB f r st = .ok b s1:=JA h
theorem w_not (h:t r st = .ok b s1):Wv t r st = .ok (!b) s1:=qBi h
theorem qFx (h:t r st = .ok true s1):ZA t u r st = .ok true s1:=by unfold ZA;rw [h];rfl
theorem Zt (h:t r st = .ok false s1) (h2:u r s1 = .ok b s2):ZA t u r st = .ok b s2:=by unfold ZA;rw [h];exact h2
theorem J3 (h:t r st = .ok false s1):Ws t u r st = .ok false s1:=by unfold Ws;rw [h];rfl
theorem YC (h:t r st = .ok true s1) (h2:u r s1 = .ok b s2):Ws t u r st = .ok b s2:=by unfold Ws;rw [h];exact h2
theorem qY (h:F r st = .nx r' s1) (h2:G r' s1=o):qP F G r st=o:=by rw [Q9 h];exact h2
theorem wf (h:F r st = .rt p s1):qP F G r st = .rt p s1:=JV h
theorem Z2 (h:F r st = .ex x s1):qP F G r st = .ex x s1:=qGu h
theorem Qx (h:f r st = .ok p s1):qX i f r st = .nx (r.set i (some p)) s1:=WS h
theorem Z8 (h:fl r st = .ok l s1):wa i fl r st = .nx (r.set i (some (.ref s1.length))) (s1++[.l l]):=qDV h
theorem qB6 (h:f r st = .ok p s1):Wh f r st = .nx r s1:=qGd h
theorem qA1 (h:f r st = .ex x s1):Wh f r st = .ex x s1:=qGc h
theorem wC (h:f r st = .ok p s1):qq f r st = .rt p s1:=zt h
theorem qCv (h:f r st = .ex x s1):qq f r st = .ex x s1:=by unfold qq;rw [h];rfl
theorem wo (h:t r st = .ok true s1) (h2:F r s1=o):Qz t F G r st=o:=by rw [qGx h];exact h2
theorem Q3 (h:t r st = .ok false s1) (h2:G r s1=o):Qz t F G r st=o:=by rw [qDv h];exact h2
theorem qDX (h:t r st = .ok true s1) (h2:f r s1=R):vIf t f fb r st=R:=by unfold vIf;rw [h];exact h2
theorem qEq (h:t r st = .ok false s1) (h2:fb r s1=R):vIf t f fb r st=R:=by unfold vIf;rw [h];exact h2
theorem WI (h:fi r st = .ok w s1) (h2:QM w.G g F w.l r s1=o):wG fi g F r st=o:=by rw [qBv h];exact h2
theorem QK {Gd:qC->Prop} (h:Gd st):QM Gd g F [] r st = .nx r st:=yd h
theorem WB {Gd:qC->Prop} {ps:List PV} (h:Gd st) (h1:g p r=some r1) (h2:F r1 st = .nx r' s2) (h3:QM Gd g F ps r' s2=o):QM Gd g F (p::ps) r st=o:=by rw [yB h h1 h2];exact h3
theorem qHQ {r1:qu} (h:f r st = .ok p s1) (h2:g p r=some r1):qAD f g r st = .nx r1 s1:=by unfold qAD;rw [h];show (match g p r with |some r'=>RS.nx r' s1 |none=>RS.no)=_;rw [h2]
theorem qE1 {j:Nat} (h:fa r st = .ok [p,q] s1):Z7 i j fa r st = .nx ((r.set i (some p)).set j (some q)) s1:=by unfold Z7;rw [h];rfl
theorem qHZ (h:f r st = .ok p s1) (h2:fo r s1 = .ok q s2) (h3:fi2 r s2 = .ok z s3) {s4:qC} (h4:Wr s3 q z p=some s4):Z1 fo fi2 f r st = .nx r s4:=by
 unfold Z1;rw [h];show (fo r s1).bindS _=_;rw [h2];show (fi2 r s2).bindS _=_;rw [h3];show (match Wr s3 q z p with |some s4=>RS.nx r s4 |none=>RS.no)=_;rw [h4]
theorem Qv {n N:Nat} {B:FS} (hl:l.length=n) (h:B (Qh N l) st = .rt p s1):QL n N B l st = .ok p s1:=we hl h
theorem zu {n N:Nat} {B:FS} (hl:l.length=n) (h:B (Qh N l) st = .ex x s1):QL n N B l st = .ex x s1:=qEc hl h
theorem sz {n:Nat} (h:Nat.ble n 1000=true):n≤sizeLine:=Nat.le_trans (Nat.le_of_ble_eq_true h) (by decide)
theorem Jy {i j:Int} (h:0 < j):WG (.int i) (.int j) st = .ok (.int (i % j)) st:=by unfold WG gI;dsimp only;rw [if_pos h]
theorem W6 {i j:Int}:qz (.int i) (.int j) st = .ok (.int (i + j)) st:=rfl
theorem qGl {i j:Int}:zW (.int i) (.int j) st = .ok (.int (i - j)) st:=rfl
theorem w_lt {i j:Int}:gLt (.int i) (.int j) st = .ok (.bl (decide (i < j))) st:=rfl
theorem qIZ {i j:Int}:gLe (.int i) (.int j) st = .ok (.bl (decide (i≤j))) st:=rfl
theorem qHz {i j:Int}:gGt (.int i) (.int j) st = .ok (.bl (decide (i > j))) st:=rfl
theorem qFT {i j:Int} (h:i < j):gLt (.int i) (.int j) st = .ok (.bl true) st:=by rw [w_lt,decide_eq_true h]
theorem qGW {i j:Int} (h:¬ i < j):gLt (.int i) (.int j) st = .ok (.bl false) st:=by rw [w_lt,decide_eq_false h]
theorem qCY {i j:Int} (h:i > j):gGt (.int i) (.int j) st = .ok (.bl true) st:=by rw [qHz,decide_eq_true h]
theorem qF8 {i j:Int} (h:¬ i > j):gGt (.int i) (.int j) st = .ok (.bl false) st:=by rw [qHz,decide_eq_false h]
theorem qDZ {i:Int} (h:wY st p=some l) (h2:atI l i=some z):gIx p (.int i) st = .ok z st:=by unfold gIx;simp only [h,h2]
theorem zh (h:wY st p=some l) {n:Int} (hn:(l.length:Int)=n):WJ [p] st = .ok (.int n) st:=by unfold WJ;simp only [h];rw [hn]
theorem zL {n:Nat} (h:st[n]? = some (.l l)):wY st (.ref n)=some l:=by unfold wY asL;simp only [h]
theorem JM {n:Nat} (h:st[n]? = some (.l l)):asL st (.ref n)=some l:=by unfold asL;simp only [h]
theorem qEz {n:Nat} (h:r[n]? = some (some p)):qB n r st = .ok p st:=by unfold qB;rw [h]
theorem qHS {k:Int} (h:fl r st = .ok l s1) (h2:f r s1 = .ok (.int k) s2) (h0:0≤k) (h1:l.length * k.toNat≤sizeLine) (hk:k < 2 ^ 63):Y0 fl f r st = .ok (List.replicate k.toNat l).flatten s2:=by
 unfold Y0;rw [h];show (f r s1).bind _=_;rw [h2];show (if -(2 ^ 63)≤k∧k < 2 ^ 63∧l.length * k.toNat≤sizeLine then Rs.ok (List.replicate k.toNat l).flatten s2 else Rs.no)=_;rw [if_pos ⟨by omega,hk,h1⟩]
theorem yF {n:Nat} (h:fo r st = .ok (.ref n) s1) (hk:lk s1 (.ref n)=true) (h2:f r s1 = .ok p s2) (h3:s2[n]? = some (.l l)) (hl:l.length < sizeLine):wQ fo f r st = .nx r (s2.set n (.l (l++[p]))):=by
 unfold wQ;rw [h];show (if lk s1 (.ref n)=true then (f r s1).bindS _ else RS.no)=_;rw [if_pos hk,h2];show (match s2[n]? with |some (.l xs)=>if xs.length < sizeLine then RS.nx r (s2.set n (.l (xs++[p]))) else .no |_ => .no)=_;rw [h3];exact if_pos hl
theorem qAc {n j:Nat} {k:Int} {v:PV} (h:st[n]? = some (.l l)) (hj:ixN l.length k=some j):Wr st (.ref n) (.int k) v=some (st.set n (.l (l.set j v))):=by unfold Wr;simp only [h,hj]
theorem ZV {n:Nat} {k:Int} (h0:0≤k) (h1:k < n):ixN n k=some k.toNat:=by unfold ixN;rw [if_pos h0,if_pos (by omega)]
theorem WK {Gd:qC->Prop} {k:PV->qC->Rs (List PV)} (h:Gd st):qc Gd k [] st = .ok [] st:=by unfold qc;exact if_pos h
theorem zC {Gd:qC->Prop} {k:PV->qC->Rs (List PV)} {ps:List PV} (hG:Gd st) (h:k p st = .ok l s1) (h2:qc Gd k ps s1 = .ok m s2):qc Gd k (p::ps) st = .ok (l++m) s2:=by
 rw [qc,if_pos hG,h];show (qc Gd k ps s1).bind _=_;rw [h2];rfl
theorem YH (h:g p r=some r') (hf:f r' st = .ok q s1):QJ ⟨fi,g,[]⟩ (QZ [] f) r p st = .ok [q] s1:=by
 unfold QJ;show (match g p r with |none=>_ |some r'=>_)=_;rw [h];show (QZ [] f) r' st=_;unfold QZ;rw [hf];rfl
theorem YN {caps:List Nat} {n:Nat} {ts:List FT} {gs:List GenF} (hfi:fi r st = .ok w s1) (h:qc w.G (QJ ⟨fi,g,ts⟩ (QZ gs f) (Wf caps n r)) w.l s1 = .ok l s2) (hl:l.length≤sizeLine):qg caps n fi g ts gs f r st = .ok l s2:=by
 unfold qg;rw [hfi];show (match qc w.G (QJ ⟨fi,g,ts⟩ (QZ gs f) (Wf caps n r)) w.l s1 with | .ok l s'=>if l.length≤sizeLine then Rs.ok l s' else Rs.no |_=>Rs.no)=_;rw [h];exact if_pos hl
theorem YV (h:wY st p=some l):zO [p] st = .ok (.tup l) st:=by unfold zO;simp only [h]
theorem JB (h:f r st = .ok (.lst l) s1):QR f r st = .ok ⟨l,fun _=>True⟩ s1:=by unfold QR;rw [h];rfl
theorem Ze (h:f r st = .ok (.tup l) s1):QR f r st = .ok ⟨l,fun _=>True⟩ s1:=by unfold QR;rw [h];rfl
end
abbrev CE:=qu->Option PV
section
variable {F G:FS} {f fb fc fo fi2:FE} {fl:FL} {fi:FI} {fa:FL} {g:FG} {t u:FT} {c d e:CE} {co cp:CO} {f1 f2:FO} {r r':qu} {st s1 s2 s3:qC} {p q z:PV} {l:List PV} {n:Nat} {o:RS}
theorem Zi (h:f r st = .ok (.ref n) s1) (h2:s1[n]? = some (.l l)):QR f r st = .ok ⟨l,fun s=>s[n]? = some (.l l)⟩ s1:=by
 unfold QR;rw [h];show qEV (.ref n) s1=_;unfold qEV;dsimp only;rw [JM h2]
theorem qCX (h:st[n]? = some (.l l)):lk st (.ref n)=true:=by unfold lk;dsimp only;rw [h]
end
end EV
end
section
namespace EV
open PySem ET
abbrev qZ:=Int×Int
def cP (c:qZ):PV := .tup [.int c.1,.int c.2]
def cL (c:qZ):List Int:=[c.1,c.2]
def lC:List Int->qZ
 |[x,y]=>(x,y)
 |_=>(0,0)
theorem qDJ:∀ l:List qZ,nrs (l.map cP)=true
 |[]=>rfl
 |c::l=>by rw [List.map_cons,nrs,qDJ l];rfl
theorem Jd:∀ l:List qZ,deps (l.map cP)≤1
 |[]=>Nat.zero_le _
 |c::l=>by
  rw [List.map_cons,deps]
  have:=Jd l
  have h:dep (cP c)=1:=rfl
  omega
theorem qH1 (a b:qZ):peq (cP a) (cP b)=decide (a=b):=by
 obtain ⟨a1,a2⟩:=a
 obtain ⟨b1,b2⟩:=b
 show ((a1==b1)&&((a2==b2)&&true))=_
 rw [Bool.and_true]
 by_cases h1:a1=b1
 ·by_cases h2:a2=b2
  ·subst h1;subst h2;simp
  ·rw [beq_eq_false_iff_ne.mpr h2,Bool.and_false];exact (decide_eq_false (by simp [h2])).symm
 ·rw [beq_eq_false_iff_ne.mpr h1,Bool.false_and];exact (decide_eq_false (by simp [h1])).symm
theorem qEy (c:qZ):∀ l:List qZ,pin (cP c) (l.map cP)=decide (c∈l)
 |[]=>rfl
 |d::l=>by
  rw [List.map_cons,pin,qH1,qEy c l]
  by_cases h:d=c
  ·subst h;rw [decide_eq_true rfl,Bool.true_or];exact (decide_eq_true List.mem_cons_self).symm
  ·rw [decide_eq_false h,Bool.false_or]
   refine decide_eq_decide.mpr ⟨fun q=>List.mem_cons_of_mem _ q,fun q => ?_⟩
   rcases List.mem_cons.mp q with z |z
   ·exact absurd z.symm h
   ·exact z
theorem qIC {neg:Bool} {c:qZ} {l:List qZ} {q:PV} {st:qC} (h:wY st q=some (l.map cP)):gIn neg (cP c) q st = .ok (.bl (if neg then !decide (c∈l) else decide (c∈l))) st:=by
 unfold gIn
 rw [h]
 dsimp only
 rw [if_pos ⟨qDJ l,rfl,Nat.le_trans (Jd l) (by decide)⟩]
 show Rs.ok (PV.bl (if neg then !pin (cP c) (l.map cP) else pin (cP c) (l.map cP))) st=_
 rw [qEy]
theorem eq_nil {l:List qZ} {st:qC}:gEq (.lst (l.map cP)) (.lst []) st = .ok (.bl l.isEmpty) st:=by
 have h1:qBV (.lst (l.map cP)) (.lst [])=true:=by
  show (nrs (l.map cP)&&true&&decide (deps (l.map cP) + 1≤yR))=true
  rw [qDJ,decide_eq_true (Nat.le_trans (Nat.succ_le_succ (Jd l)) (by decide))];rfl
 show (if qBV (.lst (l.map cP)) (.lst [])=true then Rs.ok (PV.bl (peq (PV.lst (l.map cP)) (PV.lst []))) st else Rs.no)=_
 rw [if_pos h1]
 cases l <;> rfl
theorem qGn (c:qZ):Y7 (cP c)=some (cL c):=rfl
theorem qCl:∀ l:List qZ,wk Y7 (l.map cP)=some (l.map cL)
 |[]=>rfl
 |c::l=>by rw [List.map_cons,wk,qGn];dsimp only;rw [qCl l];rfl
theorem yz:∀ (vs acc:List (List Int)),acc.Nodup->(vs.foldl zd acc).Nodup
 |[],acc,h=>h
 |k::vs,acc,h=>by
  rw [List.foldl_cons]
  refine yz vs _ ?_
  unfold zd
  split
  ·exact h
  ·rename_i q
   exact List.nodup_append.mpr ⟨h,by simp,fun a ha b hb=>by rw [List.mem_singleton.mp hb];intro z;subst z;exact q ha⟩
theorem Jw:∀ (vs acc:List (List Int)) (x:List Int),x∈vs.foldl zd acc ↔ x∈acc∨x∈vs
 |[],acc,x=>by simp
 |k::vs,acc,x=>by
  rw [List.foldl_cons,Jw vs _ x]
  unfold zd
  split
  ·rename_i q
   constructor
   ·rintro (h |h)
    ·exact .inl h
    ·exact .inr (List.mem_cons_of_mem _ h)
   ·rintro (h |h)
    ·exact .inl h
    ·rcases List.mem_cons.mp h with rfl |h
     ·exact .inl q
     ·exact .inr h
  ·simp only [List.mem_append,List.mem_cons,List.not_mem_nil,or_false]
   constructor
   ·rintro ((h |h) |h)
    ·exact .inl h
    ·exact .inr (.inl h)
    ·exact .inr (.inr h)
   ·rintro (h |h |h)
    ·exact .inl (.inl h)
    ·exact .inl (.inr h)
    ·exact .inr h
def ZO (l:List qZ):List qZ:=(srt (ddT (l.map cL))).map lC
theorem qAB (c:qZ):lC (cL c)=c:=rfl
theorem qGk {l:List (List Int)} {m:List qZ} (h:∀ x∈l,x∈m.map cL):l.map Yj=(l.map lC).map cP:=by
 rw [List.map_map]
 refine List.map_congr_left fun x hx => ?_
 obtain ⟨c,_,rfl⟩:=List.mem_map.mp (h x hx)
 rfl
theorem ddT_in {l:List qZ} {x:List Int}:x∈ddT (l.map cL) ↔ x∈l.map cL:=by
 unfold ddT;rw [Jw];simp
theorem qEa (l:List qZ):(srt (ddT (l.map cL))).map Yj=(ZO l).map cP:=qGk fun x hx=>ddT_in.mp ((Qp _).mem_iff.mp hx)
theorem mem_cL {l:List qZ} {c:qZ}:cL c∈l.map cL ↔ c∈l:=by
 rw [List.mem_map]
 constructor
 ·rintro ⟨d,hd,e⟩
  have:d=c:=by rw [← qAB d,e,qAB]
  rw [← this];exact hd
 ·intro h;exact ⟨c,h,rfl⟩
theorem mem_sddC {l:List qZ} {c:qZ}:c∈ZO l ↔ c∈l:=by
 unfold ZO
 rw [List.mem_map]
 constructor
 ·rintro ⟨x,hx,rfl⟩
  obtain ⟨d,hd,rfl⟩:=List.mem_map.mp (ddT_in.mp ((Qp _).mem_iff.mp hx))
  exact hd
 ·intro h;exact ⟨cL c,(Qp _).mem_iff.mpr (ddT_in.mpr (mem_cL.mpr h)),rfl⟩
theorem Js (l:List qZ):(ddT (l.map cL)).length≤l.length:=by
 have:=YJ (l.map cL) []
 have z:([]:List (List Int)).length=0:=rfl
 rw [List.length_map] at this
 unfold ddT;omega
theorem jN (l:List qZ):(ZO l).length≤l.length:=by unfold ZO;rw [List.length_map,(Qp _).length_eq];exact Js l
def clt (a b:qZ):Prop:=a.1 < b.1∨(a.1=b.1∧a.2 < b.2)
instance (a b:qZ):Decidable (clt a b):=by unfold clt;infer_instance
theorem qHI (a b:qZ):lxb (cL a) (cL b)=decide (clt a b):=by
 obtain ⟨a1,a2⟩:=a
 obtain ⟨b1,b2⟩:=b
 show (if a1 < b1 then true else if b1 < a1 then false else (if a2 < b2 then true else if b2 < a2 then false else false))=_
 by_cases h1:a1 < b1
 ·rw [if_pos h1];exact (decide_eq_true (.inl h1)).symm
 ·rw [if_neg h1]
  by_cases h2:b1 < a1
  ·rw [if_pos h2];exact (decide_eq_false (by unfold clt;simp;omega)).symm
  ·rw [if_neg h2]
   by_cases h3:a2 < b2
   ·rw [if_pos h3];exact (decide_eq_true (.inr ⟨by simp;omega,h3⟩)).symm
   ·rw [if_neg h3]
    have:(if b2 < a2 then false else false)=false:=by split <;> rfl
    rw [this]
    exact (decide_eq_false (by unfold clt;simp;omega)).symm
theorem qAd (l:List qZ):(ZO l).Pairwise clt:=by
 have h1:=zl (ddT (l.map cL))
 have h2:(srt (ddT (l.map cL))).Nodup:=(Qp _).nodup_iff.mpr (yz _ _ List.nodup_nil)
 have h3:(srt (ddT (l.map cL))).Pairwise (fun a b=>lxb b a=false∧a≠b):=h1.and h2
 unfold ZO
 rw [List.pairwise_map]
 refine List.Pairwise.imp_of_mem ?_ h3
 intro x y hx hy ⟨p,q⟩
 obtain ⟨c,_,rfl⟩:=List.mem_map.mp (ddT_in.mp ((Qp _).mem_iff.mp hx))
 obtain ⟨d,_,rfl⟩:=List.mem_map.mp (ddT_in.mp ((Qp _).mem_iff.mp hy))
 rw [qAB,qAB]
 rw [qHI] at p
 have p:=of_decide_eq_false p
 have hne:c≠d:=fun z=>q (by rw [z])
 unfold clt at p ⊢
 have:¬ (c.1=d.1∧c.2=d.2):=fun z=>hne (Prod.ext z.1 z.2)
 omega
theorem qCd {l:List qZ} {q:PV} {st:qC} (h:wY st q=some (l.map cP)) (hl:l.length≤63):Zp q st = .ok (.lst ((ZO l).map cP)) st:=by
 unfold Zp
 rw [h]
 dsimp only
 rw [qCl]
 dsimp only
 rw [if_pos ⟨by rw [List.length_map];omega,by have:=Js l;omega⟩,qEa]
section
variable {F G:FS} {f fb fo fi2:FE} {fl:FL} {fi:FI} {fa:FA} {g:FG} {t u:FT} {r r1 r':qu} {st s1 s2 s3 s4:qC} {p q z:PV} {l m:List PV} {w:ItP} {n:Nat}
theorem qC4 (h:f r st = .ok p s1) {R:Rs PV} (h2:Zp p s1=R):YG f r st=R:=by unfold YG;rw [h];exact h2
theorem qEJ {k:Int} (h:fo r st = .ok (.ref n) s1) (hk:lk s1 (.ref n)=true) (h2:f r s1 = .ok (.int k) s2) (h3:s2[n]? = some (.l l)) (h0:0≤k∧k < 1048576) (h4:l[k.toNat]? = some p):yE fo f r st = .ok p (s2.set n (.l (l.eraseIdx k.toNat))):=by
 unfold yE;rw [h];show (if lk s1 (.ref n)=true then _ else _)=_;rw [if_pos hk,h2]
 show (match PV.int k,s2[n]? with | .int k,some (.l xs)=>if 0≤k∧k < 1048576 then match xs[k.toNat]? with |some y=>Rs.ok y (s2.set n (.l (xs.eraseIdx k.toNat))) |none => .no else .no |_,_ => .no)=_
 rw [h3];dsimp only;rw [if_pos h0,h4]
theorem qGs {k x y:Int} (h:fo r st = .ok (.ref n) s1) (h2:fi2 r s1 = .ok (.int k) s2) (h3:s2[n]? = some (.l l)) (h0:0≤k) (hx:l[k.toNat]? = some (.int x)) (h4:f r s2 = .ok (.int y) s3) (h5:s3[n]? = some (.l m)) (hm:k.toNat < m.length):Zq fo fi2 f r st = .nx r (s3.set n (.l (m.set k.toNat (.int (x + y))))):=by
 unfold Zq;rw [h];show (fi2 r s1).bindS _=_;rw [h2];show (match qAq s2 (.ref n) (.int k) with |some x=>_ |none=>_)=_
 have hg:qAq s2 (.ref n) (.int k)=some x:=by unfold qAq;dsimp only;rw [h3];dsimp only;rw [if_pos h0,hx]
 rw [hg];show (f r s2).bindS _=_;rw [h4]
 show (match Wr s3 (.ref n) (.int k) (.int (x + y)) with |some s4=>RS.nx r s4 |none => .no)=_
 rw [qAc h5 (ZV h0 (by omega))]
theorem qGG (h:fl r st = .ok l s1):vMk fl r st = .ok (.ref s1.length) (s1++[.l l]):=by unfold vMk;rw [h];rfl
theorem qE3 {a b:Option Int} {f1 f2:FO} (h:f r st = .ok p s1) (h1:f1 r s1 = .ok a s2) (h2:f2 r s2 = .ok b s3) (h3:asL s3 p=some l):Jc f f1 f2 r st = .ok (.lst (JG l a b)) s3:=by
 unfold Jc;rw [h];show (f1 r s1).bind _=_;rw [h1];show (f2 r s2).bind _=_;rw [h2];show (match asL s3 p with |some l=>_ |none=>_)=_;rw [h3]
theorem zD {Gd:qC->Prop} {ps:List PV} (h:Gd st) (h1:g p r=some r1) (h2:F r1 st = .rt z s2):QM Gd g F (p::ps) r st = .rt z s2:=by
 rw [QM,if_pos h,h1]
 dsimp only
 rw [h2]
theorem qAM {k:Int} (h:f r st = .ok (.int k) s1):Ww f r st = .ok (some k) s1:=by unfold Ww;rw [h];rfl
end
end EV
end
section
namespace K12
open PySem EV
def zg:PV->Bool
 | .non=>true | .bl _=>true | .int _=>true | .str _=>true | .tup _=>true | .lst _=>true | .dct=>true |_=>false
def isInt:PV->Bool
 | .int _=>true
 |_=>false
theorem JU {a:Ad} {v:PV} {st:qC} (h:zg v=true):zQ a [v] st = .ok (.bl (isInt v)) st:=by
 cases v <;> first |rfl |cases h
def wn (lo hi:Int):PV->Bool
 | .int i=>decide (lo≤i)&&decide (i≤hi)
 |_=>false
theorem qCU {a:Ad} {v:PV} {st:qC} {lo hi:Int} (h:zg v=true):wO a [v,.int lo,.int hi] st = .ok (.bl (wn lo hi v)) st:=by
 refine we rfl ?_
 unfold wL
 refine (zt (p := .bl (wn lo hi v)) (st':=st) ?_)
 unfold Ym
 rw [Qw (l:=[v]) (st':=st) rfl,JU h]
 cases v with
 |int i =>
  show (match (PV.bl (decide (lo≤i))) with | .bl true=>Rs.ok (PV.bl (decide (i≤hi))) st | .bl false=>Rs.ok (.bl false) st |_ => .no)=_
  unfold wn
  dsimp only
  cases decide (lo≤i) <;> rfl
 |_=>rfl
theorem jo {a:Ad} {v:PV} {st:qC} (h:zg v=true):W9 a [v] st = .ok (.bl (wn 2 5 v)) st:=by
 refine we rfl ?_
 unfold W4
 refine (zt (p := .bl (wn 2 5 v)) (st':=st) ?_)
 rw [Qw (l:=[v,.int 2,.int 5]) (st':=st) rfl]
 exact qCU h
theorem zH {a:Ad} {v:PV} {st:qC} (h:zg v=true):Qt a [v] st=if wn 2 5 v=true then .ok .non st else .ex ⟨a.NoLength,[]⟩ st:=by
 unfold Qt QL
 rw [if_pos (show [v].length=1 from rfl)]
 unfold WR Qz Wv wW
 rw [Qw (l:=[v]) (st':=st) rfl,jo h]
 cases hw:wn 2 5 v <;> rfl
theorem Y9 {f:PV->Bool}:∀ l:List PV,wk pbl (l.map fun p => .bl (f p))=some (l.map f)
 |[]=>rfl
 |p::l=>by simp only [List.map_cons,wk,pbl,Y9 l]
theorem w4 {i j:Int} {st:qC}:gEq (.int i) (.int j) st = .ok (.bl (i==j)) st:=rfl
theorem Wd {n:Nat} (h:n≤100000):n≤sizeLine:=Nat.le_trans h (by decide)
def qw (L:Int):List Int:=(List.range L.toNat).map fun (i:Nat)=>(i:Int)
theorem qCR {L:Int}:jq 0 L=(qw L).map PV.int:=by
 unfold jq qw
 rw [List.map_map,Int.sub_zero]
 refine List.map_congr_left fun i _ => ?_
 show PV.int (0 + (i:Int))=PV.int i
 rw [Int.zero_add]
theorem upto_mem {L i:Int}:i∈qw L ↔ 0≤i∧i < L:=by
 unfold qw
 rw [List.mem_map]
 constructor
 ·rintro ⟨j,hj,rfl⟩;rw [List.mem_range] at hj;omega
 ·rintro ⟨h1,h2⟩;exact ⟨i.toNat,by rw [List.mem_range];omega,by omega⟩
theorem Qd {L:Int}:(qw L).length=L.toNat:=by simp [qw]
theorem YY {l:List Int} {L i:Int} (hl:l.length=L.toNat) (h0:0≤i) (h1:i < L):L2.atI (l.map PV.int) i=some (.int (l.getD i.toNat 0)):=by
 unfold L2.atI L2.ixN
 rw [List.length_map,if_pos h0,if_pos (by omega)]
 show (l.map PV.int)[i.toNat]? = _
 have hi:i.toNat < l.length:=by omega
 rw [List.getElem?_map,List.getElem?_eq_getElem hi,List.getD_eq_getElem?_getD,List.getElem?_eq_getElem hi]
 rfl
theorem qFZ {l:List Int} {L i:Int} {st:qC} (hl:l.length=L.toNat) (h0:0≤i) (h1:i < L):gIx (.lst (l.map PV.int)) (.int i) st = .ok (.int (l.getD i.toNat 0)) st:=by
 unfold gIx
 simp only [wY,asL,YY hl h0 h1]
theorem Jm {i j:Int} {st:qC} (h:-(2 ^ 64) < j∧j < 2 ^ 64):Wz (.int i) (.int j) st = .ok (.int (i * j)) st:=by
 unfold Wz gI
 dsimp only
 rw [if_pos (.inr h)]
theorem Yi {i j:Int} {st:qC} (h:0 < j):WG (.int i) (.int j) st = .ok (.int (i % j)) st:=by
 unfold WG gI
 dsimp only
 rw [if_pos h]
theorem qGQ {i j:Int} {st:qC} (h:0 < j) (h2:j < 1073741824):qEA (.int i) (.int j) st = .ok (.int (i / j)) st:=by
 unfold qEA gI
 dsimp only
 rw [if_pos ⟨h,h2⟩]
theorem qEo {i j:Int} {st:qC} (h:0 < j) (h2:j < 2 ^ 64):qAE (.int i) (.int j) st = .ok (.int (i / j)) st:=by
 unfold qAE gI;dsimp only;rw [if_pos ⟨h,h2⟩]
theorem Qk {a:Ad} {st j:qC} {x m:Int} (h0:0 < m) (h1:m < 2 ^ 64):qQ a [.ref st.length,.int m] (st ++ .l [.int x]::j) = .ok (.int (x % m)) (st ++ .l [.int (x / m)]::j):=by
 have hs:(st++SO.l [.int x]::j)[st.length]? = some (.l [.int x]):=by simp
 have hg:gIx (.ref st.length) (.int 0) (st++SO.l [.int x]::j) = .ok (.int x) (st++SO.l [.int x]::j):=by
  unfold gIx
  simp only [wY,asL,hs]
  rfl
 refine we rfl ?_
 unfold zT
 rw [Q9 (WS (p := .int (x % m)) (st':=st++SO.l [.int x]::j) (r:=Qh 3 [.ref st.length,.int m]) ?_),Q9 (r':=[some (.ref st.length),some (.int m),some (.int (x % m))]) (st':=st++SO.l [.int (x / m)]::j) ?_]
 ·rfl
 ·unfold Z1
  rw [qt (p := .int x) (q := .int m) (st':=st++SO.l [.int x]::j) (st2:=st++SO.l [.int x]::j) ?_ rfl,qEo h0 h1]
  ·show (match Wr (st++SO.l [.int x]::j) (.ref st.length) (.int 0) (.int (x / m)) with |some s4=>RS.nx _ s4 |none=>RS.no)=_
   have:Wr (st++SO.l [.int x]::j) (.ref st.length) (.int 0) (.int (x / m))=some (st++SO.l [.int (x / m)]::j):=by
    unfold Wr
    simp only [hs]
    show some ((st++SO.l [.int x]::j).set st.length (.l [.int (x / m)]))=_
    rw [List.set_append_right _ _ (Nat.le_refl _),Nat.sub_self];rfl
   rw [this];rfl
  ·rw [qt (p := .ref st.length) (q := .int 0) rfl rfl];exact hg
 ·rw [qt (p := .int x) (q := .int m) (st':=st++SO.l [.int x]::j) (st2:=st++SO.l [.int x]::j) ?_ rfl,Yi h0]
  rw [qt (p := .ref st.length) (q := .int 0) rfl rfl];exact hg
theorem qDl {a:Ad} {ns:List Int} {k:Int} {st:qC} (h0:0≤k):∃ c,Wj a [.lst (ns.map PV.int),.int k] st = .ok (.int c) st:=by
 by_cases hk:k < (ns.length:Int)
 ·refine ⟨ns.getD k.toNat 0,we rfl ?_⟩
  unfold Wn
  rw [JV (p := .int (ns.getD k.toNat 0)) (st':=st) (r:=Qh 2 [.lst (ns.map PV.int),.int k]) ?_]
  rw [qGx (st':=st) ?_,zt (p := .int (ns.getD k.toNat 0)) (st':=st) ?_]
  ·rw [qt (p := .lst (ns.map PV.int)) (q := .int k) rfl rfl,qFZ (L:=ns.length) (by omega) h0 hk]
  ·refine JA ?_
   rw [qt (p := .int k) (q := .int ns.length) rfl ?_]
   ·show Rs.ok (PV.bl (decide (k < (ns.length:Int)))) st=_
    rw [decide_eq_true hk]
   ·rw [Qw (l:=[.lst (ns.map PV.int)]) rfl]
    show Rs.ok (PV.int ((ns.map PV.int).length:Int)) st=_
    rw [List.length_map]
 ·refine ⟨6151 * k + 29,we rfl ?_⟩
  unfold Wn
  rw [Q9 (r':=Qh 2 [.lst (ns.map PV.int),.int k]) (st':=st) (r:=Qh 2 [.lst (ns.map PV.int),.int k]) ?_]
  ·rw [zt (p := .int (6151 * k + 29)) (st':=st) ?_]
   rw [qt (p := .int (6151 * k)) (q := .int 29) (st':=st) (st2:=st) ?_ rfl]
   ·rfl
   ·rw [qt (p := .int 6151) (q := .int k) rfl rfl]
    unfold Wz gI
    dsimp only
    rw [if_pos (.inl ⟨by decide,by decide⟩)]
  ·rw [qDv (st':=st) ?_]
   ·rfl
   ·refine JA ?_
    rw [qt (p := .int k) (q := .int ns.length) rfl ?_]
    ·show Rs.ok (PV.bl (decide (k < (ns.length:Int)))) st=_
     rw [decide_eq_false hk]
    ·rw [Qw (l:=[.lst (ns.map PV.int)]) rfl]
     show Rs.ok (PV.int ((ns.map PV.int).length:Int)) st=_
     rw [List.length_map]
theorem qAV {i j:Int} {st:qC} (h:-(2 ^ 64) < i∧i < 2 ^ 64):Wz (.int i) (.int j) st = .ok (.int (i * j)) st:=by
 unfold Wz gI
 dsimp only
 rw [if_pos (.inl h)]
noncomputable def Yl:FS:=(qP (qX 4 (qG WG (qG qz (qG qz (qG qz (qG Wz (qB 4) (vC (.int 48271))) (qG Wz (qG Wz (vC (.int 7)) (qB 5)) (qB 5))) (qG Wz (vC (.int 11)) (qB 1))) (vC (.int 1))) (vC (.int 2147483647)))) (qX 3 (qG qz (qG Wz (qB 3) (vC (.int 2147483647))) (qB 4))))
theorem j5 {s:PV} {c k:Int} {st:qC}:∀ (js:List Int) (n m:Int) (x:Option PV),(∀ j∈js,0≤j∧j < 24) -> ∃ n' m' x',QM (fun _=>True) (QD 5) Yl (js.map PV.int) [some s,some (.int k),some (.int c),some (.int n),some (.int m),x] st = .nx [some s,some (.int k),some (.int c),some (.int n'),some (.int m'),x'] st
 |[],n,m,x,_=>⟨n,m,x,by rw [List.map_nil,yd trivial]⟩
 |j::js,n,m,x,h=>by
  have hj:=h j List.mem_cons_self
  have e:Yl [some s,some (.int k),some (.int c),some (.int n),some (.int m),some (.int j)] st = .nx [some s,some (.int k),some (.int c),some (.int (n * 2147483647 + (m * 48271 + 7 * j * j + 11 * k + 1) % 2147483647)),some (.int ((m * 48271 + 7 * j * j + 11 * k + 1) % 2147483647)),some (.int j)] st:=by
   unfold Yl
   rw [Q9 (WS (p := .int ((m * 48271 + 7 * j * j + 11 * k + 1) % 2147483647)) (st':=st) ?_),WS (p := .int (n * 2147483647 + (m * 48271 + 7 * j * j + 11 * k + 1) % 2147483647)) (st':=st) ?_]
   ·rfl
   ·rw [qt (p := .int (n * 2147483647)) (q := .int ((m * 48271 + 7 * j * j + 11 * k + 1) % 2147483647)) (st':=st) (st2:=st) ?_ rfl]
    ·rfl
    ·rw [qt (p := .int n) (q := .int 2147483647) rfl rfl,Jm ⟨by decide,by decide⟩]
   ·rw [qt (p := .int (m * 48271 + 7 * j * j + 11 * k + 1)) (q := .int 2147483647) (st':=st) (st2:=st) ?_ rfl,Yi (by decide)]
    rw [qt (p := .int (m * 48271 + 7 * j * j + 11 * k)) (q := .int 1) (st':=st) (st2:=st) ?_ rfl]
    ·rfl
    rw [qt (p := .int (m * 48271 + 7 * j * j)) (q := .int (11 * k)) (st':=st) (st2:=st) ?_ ?_]
    ·rfl
    ·rw [qt (p := .int (m * 48271)) (q := .int (7 * j * j)) (st':=st) (st2:=st) ?_ ?_]
     ·rfl
     ·rw [qt (p := .int m) (q := .int 48271) rfl rfl,Jm ⟨by decide,by decide⟩]
     ·rw [qt (p := .int (7 * j)) (q := .int j) (st':=st) (st2:=st) ?_ rfl,Jm ⟨by omega,by omega⟩]
      rw [qt (p := .int 7) (q := .int j) rfl rfl,qAV ⟨by decide,by decide⟩]
    ·rw [qt (p := .int 11) (q := .int k) rfl rfl,qAV ⟨by decide,by decide⟩]
  obtain ⟨n',m',x',e2⟩:=j5 js _ _ (some (.int j)) fun q hq=>h q (List.mem_cons_of_mem _ hq)
  exact ⟨n',m',x',by rw [List.map_cons,yB (r1:=[some s,some (.int k),some (.int c),some (.int n),some (.int m),some (.int j)]) trivial rfl e];exact e2⟩
theorem qFQ {a:Ad} {ns:List Int} {k:Int} {st:qC} (h0:0≤k):∃ x,zE a [.lst (ns.map PV.int),.int k] st = .ok (.ref st.length) (st++[.l [.int x]]):=by
 obtain ⟨c,hc⟩:=qDl (a:=a) (ns:=ns) (k:=k) (st:=st) h0
 have h1:qX 2 (qI (Wj a) (qA (qB 0) (qA (qB 1) qD))) (Qh 6 [.lst (ns.map PV.int),.int k]) st = .nx [some (.lst (ns.map PV.int)),some (.int k),some (.int c),none,none,none] st:=by
  rw [WS (p := .int c) (st':=st) ?_]
  ·rfl
  ·rw [Qw (l:=[.lst (ns.map PV.int),.int k]) rfl];exact hc
 have ht:∀ b:Bool,(c % 2==0)=b->vTB (qG gEq (qG WG (qB 2) (vC (.int 2))) (vC (.int 0))) [some (.lst (ns.map PV.int)),some (.int k),some (.int c),none,none,none] st = .ok b st:=by
  intro b hb
  refine JA ?_
  rw [qt (p := .int (c % 2)) (q := .int 0) (st':=st) (st2:=st) ?_ rfl,w4,hb]
  rw [qt (p := .int c) (q := .int 2) rfl rfl,Yi (by decide)]
 cases hb:(c % 2==0) with
 |true =>
  refine ⟨c / 2,we rfl ?_⟩
  unfold zF
  rw [Q9 h1,JV (p := .ref st.length) (st':=st++[.l [.int (c / 2)]]) ?_]
  rw [qGx (ht true hb),qAA (l:=[.int (c / 2)]) (st':=st) ?_]
  unfold Qn
  rw [Qy (p := .int (c / 2)) (l:=[]) (st':=st) (st2:=st) ?_ rfl]
  ·rfl
  ·rw [qt (p := .int c) (q := .int 2) rfl rfl,qGQ (by decide) (by decide)]
 |false =>
  obtain ⟨n',m',x',e⟩:=j5 (s := .lst (ns.map PV.int)) (c:=c) (k:=k) (st:=st) (qw 24) 0 (c % 2147483647) none fun j hj=>upto_mem.mp hj
  refine ⟨n',we rfl ?_⟩
  unfold zF
  rw [Q9 h1,Q9 (r':=[some (.lst (ns.map PV.int)),some (.int k),some (.int c),none,none,none]) (st':=st) (by rw [qDv (ht false hb)];rfl),Q9 (WS (p := .int 0) (st':=st) rfl),Q9 (WS (p := .int (c % 2147483647)) (st':=st) ?_),Q9 (r':=[some (.lst (ns.map PV.int)),some (.int k),some (.int c),some (.int n'),some (.int m'),x']) (st':=st) ?_,qAA (l:=[.int n']) (st':=st) rfl]
  ·rw [qBv (w:=⟨(qw 24).map PV.int,fun _=>True⟩) (st':=st) rfl]
   exact e
  ·rw [qt (p := .int c) (q := .int 2147483647) rfl rfl,Yi (by decide)]
section
variable {F G:FS} {f fb:FE} {fl:FL} {t u:FT} {r:qu} {st st' st2:qC} {p q:PV} {l m:List PV}
theorem Ja {fa:FA} (h:fa r st = .ok l st') (hl:l.length≤sizeLine):Qn fa r st = .ok l st':=by unfold Qn;rw [h];show (if l.length≤sizeLine then _ else _)=_;rw [if_pos hl]
theorem qCm (h:f r st = .ok p st') (h2:fb r st' = .ok q st2) (e1:asL st2 p=some l) (e2:asL st2 q=some m) (hl:l.length + m.length≤sizeLine):zR f fb r st = .ok (l++m) st2:=by
 unfold zR;rw [h];show (fb r st').bind _=_;rw [h2];show (match asL st2 p with |some l=>_ |none=>_)=_;rw [e1];dsimp only;rw [e2];dsimp only;rw [if_pos hl]
theorem qIL {b:Bool} (h:t r st = .ok false st') (h2:u r st' = .ok b st2):ZA t u r st = .ok b st2:=by unfold ZA;rw [h];exact h2
end
theorem w6 {a:Ad} {x d:Addr} {fs:List (Str×Int)} {st:qC} {r:qu} {b:Bool} (h0:r[0]? = some (some (.exc x fs))) (hx:x∈Qi a) (hd:d∈a.kinds) (hb:(x==d)=b):qI (Qa (kit a)) (qA (qB 0) (qA (vC (.fn d)) qD)) r st = .ok (.bl b) st:=by
 rw [Qw (l:=[.exc x fs,.fn d]) (st':=st) (by unfold qA qB;rw [h0];rfl)]
 show (match (if x∈Qi a∧d∈a.kinds then some (x==d) else none) with |some b=>Rs.ok (PV.bl b) st |none => .no)=_
 rw [if_pos ⟨hx,hd⟩,hb]
theorem qFC {a:Ad} {x:Addr} {fs:List (Str×Int)} {st:qC} {r:qu} (h0:r[0]? = some (some (.exc x fs))) (hx:x∈Qi a):qI (Qa (kit a)) (qA (qB 0) (qA (vC (.ty "ValueError")) qD)) r st = .ok (.bl true) st:=by
 rw [Qw (l:=[.exc x fs,.ty "ValueError"]) (st':=st) (by unfold qA qB;rw [h0];rfl)]
 show (match (if x∈Qi a ∧ "ValueError" = "ValueError" then some true else none) with |some b=>Rs.ok (PV.bl b) st |none => .no)=_
 rw [if_pos ⟨hx,rfl⟩]
theorem qBJ (a:Ad):a.NoLength∈a.kinds∧a.NoNumber∈a.kinds∧a.NoBars∈a.kinds∧a.NoBox∈a.kinds∧a.NoWeights∈a.kinds∧a.NoSorts∈a.kinds∧a.NoTurn∈a.kinds∧a.NoPlace∈a.kinds∧a.NoText∈a.kinds∧a.NoRow∈a.kinds∧a.TooMany∈a.kinds:=by
 unfold Ad.kinds;simp
theorem qBt {bs:List PV} {F:PV->PV} {st:qC} {r:qu} (h1:r[1]? = some (some (.lst bs))) (hl:bs.length≤11) (hb:∀ p∈bs,∃ b,p = .bl b) (hF:∀ b,F (.bl b) = .int (if b then 1 else 0)) :
  vFz (qg [] 1 (QR (qB 1)) (Qe 0) [] [] (qI qCF (qA (qB 0) qD))) r st = .ok (.lst (bs.map F)) st:=by
 refine Zj ?_
 rw [wT (w:=⟨bs,fun _=>True⟩) (F:=F) (by unfold QR qB;rw [h1];rfl) trivial (Wd (by show bs.length≤100000;omega)) fun p hp => ?_]
 obtain ⟨b,rfl⟩:=hb p hp
 refine ⟨[some (.bl b)],rfl,?_⟩
 rw [hF];cases b <;> rfl
def bit:PV->PV
 | .bl b => .int (if b then 1 else 0)
 |p=>p
theorem jS {a:Ad} (hd:Dist a) {st:qC} {fs:List (Str×Int)}:zU a [.exc a.NoLength fs] st = .ok (.str "! length") st:=by
 have nd:=hd.nd
 unfold Ad.kinds at nd
 simp only [List.nodup_cons,List.mem_cons,List.not_mem_nil,not_or,or_false] at nd
 obtain ⟨⟨n0_1,n0_2,n0_3,n0_4,n0_5,n0_6,n0_7,n0_8,n0_9,n0_10⟩,⟨n1_2,n1_3,n1_4,n1_5,n1_6,n1_7,n1_8,n1_9,n1_10⟩,⟨n2_3,n2_4,n2_5,n2_6,n2_7,n2_8,n2_9,n2_10⟩,⟨n3_4,n3_5,n3_6,n3_7,n3_8,n3_9,n3_10⟩,⟨n4_5,n4_6,n4_7,n4_8,n4_9,n4_10⟩,⟨n5_6,n5_7,n5_8,n5_9,n5_10⟩,⟨n6_7,n6_8,n6_9,n6_10⟩,⟨n7_8,n7_9,n7_10⟩,⟨n8_9,n8_10⟩,n9_10,_⟩:=nd
 obtain ⟨m0,m1,m2,m3,m4,m5,m6,m7,m8,m9,m10⟩:=qBJ a
 have hx:a.NoLength∈Qi a:=by unfold Qi;simp
 refine we rfl ?_
 unfold zV
 rw [Q9 (WS (p := .lst [.bl true,.bl false,.bl false,.bl false]) (st':=st) (r:=Qh 3 [.exc a.NoLength fs]) (Zj (Ja (Qy (w6 rfl hx m0 (beq_self_eq_true _)) (Qy (w6 rfl hx m1 (beq_eq_false_iff_ne.mpr n0_1)) (Qy (w6 rfl hx m2 (beq_eq_false_iff_ne.mpr n0_2)) (Qy (w6 rfl hx m3 (beq_eq_false_iff_ne.mpr n0_3)) rfl)))) (by decide)))),
  Q9 (WS (p := .lst [.bl true,.bl false,.bl false,.bl false,.bl false,.bl false,.bl false,.bl false]) (st':=st) (Zj (qCm (l:=[.bl true,.bl false,.bl false,.bl false]) (p := .lst [.bl true,.bl false,.bl false,.bl false]) (st':=st) rfl (Zj (Ja (Qy (w6 rfl hx m4 (beq_eq_false_iff_ne.mpr n0_4)) (Qy (w6 rfl hx m5 (beq_eq_false_iff_ne.mpr n0_5)) (Qy (w6 rfl hx m6 (beq_eq_false_iff_ne.mpr n0_6)) (Qy (w6 rfl hx m7 (beq_eq_false_iff_ne.mpr n0_7)) rfl)))) (by decide))) rfl rfl (by decide)))),
  Q9 (WS (p := .lst [.bl true,.bl false,.bl false,.bl false,.bl false,.bl false,.bl false,.bl false,.bl false,.bl false,.bl false]) (st':=st) (Zj (qCm (l:=[.bl true,.bl false,.bl false,.bl false,.bl false,.bl false,.bl false,.bl false]) (p := .lst [.bl true,.bl false,.bl false,.bl false,.bl false,.bl false,.bl false,.bl false]) (st':=st) rfl (Zj (Ja (Qy (w6 rfl hx m8 (beq_eq_false_iff_ne.mpr n0_8)) (Qy (w6 rfl hx m9 (beq_eq_false_iff_ne.mpr n0_9)) (Qy (w6 rfl hx m10 (beq_eq_false_iff_ne.mpr n0_10)) rfl))) (by decide))) rfl rfl (by decide))))]
 rw [Q9 (r':=[some (.exc a.NoLength fs),some (.lst [.bl true,.bl false,.bl false,.bl false,.bl false,.bl false,.bl false,.bl false,.bl false,.bl false,.bl false]),none]) (st':=st) ?_,Q9 (F:=qX 2 _) (r':=[some (.exc a.NoLength fs),some (.lst [.bl true,.bl false,.bl false,.bl false,.bl false,.bl false,.bl false,.bl false,.bl false,.bl false,.bl false]),some (.lst [.str "length",.str "number",.str "bars",.str "box",.str "weights",.str "sorts",.str "turn",.str "place",.str "text",.str "row",.str "many"])]) (st':=st) rfl]
 ·rfl
 ·show Qz _ _ _ [some (.exc a.NoLength fs),some (.lst [.bl true,.bl false,.bl false,.bl false,.bl false,.bl false,.bl false,.bl false,.bl false,.bl false,.bl false]),none] st=_
  rw [qDv (st':=st) (qIL (st':=st) (qBi (b:=true) (yZ (qFC rfl hx))) (JA ?_))]
  ·rfl
  ·rw [qt (p := .int 1) (q := .int 1) (st':=st) (st2:=st) ?_ rfl]
   ·rfl
   ·rw [Qw (l:=[.lst [.int 1,.int 0,.int 0,.int 0,.int 0,.int 0,.int 0,.int 0,.int 0,.int 0,.int 0]]) (st':=st) (Qy (st':=st) (qBt (F:=bit) (bs:=[.bl true,.bl false,.bl false,.bl false,.bl false,.bl false,.bl false,.bl false,.bl false,.bl false,.bl false]) rfl (by decide) (by simp) fun b=>rfl) rfl)]
    rfl
theorem j6 {x:Int}:x % 10=0∨x % 10=1∨x % 10=2∨x % 10=3∨x % 10=4∨x % 10=5∨x % 10=6∨x % 10=7∨x % 10=8∨x % 10=9:=by omega
theorem Yd {a:Ad} {st j:qC} {x:Int}:∃ v,zg v=true∧wn 2 5 v=false∧Qq a [.ref st.length] (st ++ .l [.int x]::j) = .ok v (st ++ .l [.int (x / 10)]::j):=by
 have e:∀ v,gIx (.lst [.int 1,.int 6,.int 0,.int (-2),.bl true,.non,.str "3",.tup [.int 2],.lst [.int 3],.int (10 ^ 39)]) (.int (x % 10)) (st ++ .l [.int (x / 10)]::j) = .ok v (st ++ .l [.int (x / 10)]::j)->Qq a [.ref st.length] (st ++ .l [.int x]::j) = .ok v (st ++ .l [.int (x / 10)]::j):=by
  intro v hv
  refine we rfl ?_
  unfold wp
  rw [zt (p:=v) (st':=st ++ .l [.int (x / 10)]::j) ?_]
  rw [qt (p := .lst [.int 1,.int 6,.int 0,.int (-2),.bl true,.non,.str "3",.tup [.int 2],.lst [.int 3],.int (10 ^ 39)]) (q := .int (x % 10)) (st':=st ++ .l [.int x]::j) (st2:=st ++ .l [.int (x / 10)]::j) rfl ?_]
  ·exact hv
  ·rw [Qw (l:=[.ref st.length,.int 10]) (st':=st ++ .l [.int x]::j) rfl]
   exact Qk (by decide) (by decide)
 rcases j6 (x:=x) with h |h |h |h |h |h |h |h |h |h <;> rw [h] at e
 ·exact ⟨_,rfl,rfl,e (.int 1) rfl⟩
 ·exact ⟨_,rfl,rfl,e (.int 6) rfl⟩
 ·exact ⟨_,rfl,rfl,e (.int 0) rfl⟩
 ·exact ⟨_,rfl,rfl,e (.int (-2)) rfl⟩
 ·exact ⟨_,rfl,rfl,e (.bl true) rfl⟩
 ·exact ⟨_,rfl,rfl,e .non rfl⟩
 ·exact ⟨_,rfl,rfl,e (.str "3") rfl⟩
 ·exact ⟨_,rfl,rfl,e (.tup [.int 2]) rfl⟩
 ·exact ⟨_,rfl,rfl,e (.lst [.int 3]) rfl⟩
 ·exact ⟨_,rfl,rfl,e (.int (10 ^ 39)) rfl⟩
theorem itN {L:Int} {r:qu} {st s1:qC} {f:FA} (h1:0≤L) (h2:L≤1000) (hf:f r st = .ok [.int L] s1):(QH f) r st = .ok ⟨(qw L).map PV.int,fun _=>True⟩ s1:=by
 unfold QH
 rw [hf]
 show Ya [.int L] s1=_
 unfold Ya
 dsimp only
 rw [if_pos (by omega),qCR]
theorem Q8 {x m:Int} (h:0 < m):0≤x % m∧x % m < m:=⟨Int.emod_nonneg _ (by omega),Int.emod_lt_of_pos _ h⟩
def zp (r c w L:Int):List qZ:=(qw L).map fun k=>if w=0 then (r,c + k) else (r + k,c)
theorem qDu {r c w L:Int}:(zp r c w L).length=L.toNat:=by unfold zp;rw [List.length_map,Qd]
theorem qDF {a:Ad} {r c w L:Int} {st:qC} (h1:0≤L) (h2:L≤1000):WL a [.tup [.int r,.int c,.int w],.int L] st = .ok (.lst ((zp r c w L).map cP)) st:=by
 refine Qv rfl ?_
 unfold W2
 refine qY (qHQ (r1:=[some (.tup [.int r,.int c,.int w]),some (.int L),some (.int r),some (.int c),some (.int w)]) rfl rfl) ?_
 have hl:(qw L).length≤sizeLine:=by rw [Qd];exact Wd (by omega)
 by_cases hw:w=0
 ·subst hw
  let F:PV->PV:=fun p=>match p with | .int k=>cP (r,c + k) |_ => .non
  have e:(zp r c 0 L).map cP=((qw L).map PV.int).map F:=by
   unfold zp
   rw [List.map_map,List.map_map]
   exact List.map_congr_left fun k _=>by show cP (if (0:Int)=0 then (r,c + k) else (r + k,c))=_;rw [if_pos rfl];rfl
  rw [e]
  refine wf (wo (wJ (qV (p := .int 0) (q := .int 0) rfl rfl (by rw [w4,beq_self_eq_true]))) (wC (ZD (wT (F:=F) (itN h1 h2 rfl) trivial (by rw [List.length_map];exact hl) fun p hp => ?_))))
  obtain ⟨k,_,rfl⟩:=List.mem_map.mp hp
  exact ⟨[some (.int r),some (.int c),some (.int k)],rfl,ZE (qT rfl (qT (qV rfl rfl W6) QB)) (sz rfl)⟩
 ·let F:PV->PV:=fun p=>match p with | .int k=>cP (r + k,c) |_ => .non
  have e:(zp r c w L).map cP=((qw L).map PV.int).map F:=by
   unfold zp
   rw [List.map_map,List.map_map]
   exact List.map_congr_left fun k _=>by show cP (if w=0 then (r,c + k) else (r + k,c))=_;rw [if_neg hw];rfl
  rw [e]
  refine qY (Q3 (wJ (qV (p := .int w) (q := .int 0) rfl rfl (by rw [w4,beq_eq_false_iff_ne.mpr hw]))) rfl) (wC (ZD (wT (F:=F) (itN h1 h2 rfl) trivial (by rw [List.length_map];exact hl) fun p hp => ?_)))
  obtain ⟨k,_,rfl⟩:=List.mem_map.mp hp
  exact ⟨[some (.int c),some (.int r),some (.int k)],rfl,ZE (qT (qV rfl rfl W6) (qT rfl QB)) (sz rfl)⟩
theorem Y8 {d:qZ->Bool} {l:List qZ} {c:PV->Bool} (h:∀ x∈l,c (cP x)=d x):(l.map cP).filter c=(l.filter d).map cP:=by
 induction l with
 |nil=>rfl
 |cons x l ih =>
  rw [List.map_cons,List.filter_cons,List.filter_cons,h x List.mem_cons_self,ih fun y hy=>h y (List.mem_cons_of_mem _ hy)]
  cases d x <;> rfl
def unC:PV->qZ
 | .tup [.int x,.int y]=>(x,y)
 |_=>(0,0)
theorem qGw {st j:qC} {b:SO} {i:Nat} {o:SO} (h:j[i]? = some o):(st++b::j)[st.length + 1 + i]? = some o:=by
 rw [List.getElem?_append_right (by omega),show st.length + 1 + i - st.length=i + 1 by omega,List.getElem?_cons_succ];exact h
def In8 (c:qZ):Prop:=0≤c.1∧c.1≤7∧0≤c.2∧c.2≤7
noncomputable def ZY (a:Ad):FS:=(qP (qX 4 (qI (qQ a) (qA (qB 0) (qA (vC (.int 2)) qD)))) (qP (Z7 5 6 (qA (qI (qQ a) (qA (qB 0) (qA (qG zW (vC (.int 9)) (qG gIx (vFz (Qn (qA (vC (.int 1)) (qA (qB 1) qD)))) (qB 4))) qD))) (qA (qI (qQ a) (qA (qB 0) (qA (qG zW (vC (.int 9)) (qG gIx (vFz (Qn (qA (qB 1) (qA (vC (.int 1)) qD)))) (qB 4))) qD))) qD))) (qP (qX 7 (qI (WL a) (qA (WC (qA (qB 5) (qA (qB 6) (qA (qB 4) qD)))) (qA (qB 1) qD)))) (Qz (Ws (vTB (qG gEq (vFz (qg [2] 1 (QR (qB 7)) (Qe 1) [(vTB (qG (gIn false) (qB 1) (qB 0)))] [] (qB 1))) (vFz (Qn qD)))) (vTB (qG gLe (qG qz (qI WJ (qA (qB 2) qD)) (qB 1)) (vC (.int 40))))) (wa 2 (zR (qB 2) (qB 7))) Qg))))
theorem qCg {a:Ad} {st j:qC} {x L:Int} {i:Nat} {fd:List qZ} {x3 x4 x5 x6 x7:Option PV} (hL1:2≤L) (hL2:L≤5) (hj:j[i]? = some (.l (fd.map cP))) (hf:fd.length≤40) (hb:∀ c∈fd,In8 c) :
  ∃ (y:Int) (g:qC) (i':Nat) (fd':List qZ) (y4 y5 y6 y7:Option PV),(j++g)[i']? = some (.l (fd'.map cP))∧(i'=i∨i'=j.length)∧fd'.length≤40∧fd'≠[]∧(∀ c∈fd',In8 c) ∧
   ZY a [some (.ref st.length),some (.int L),some (.ref (st.length + 1 + i)),x3,x4,x5,x6,x7] (st ++ .l [.int x]::j) = .nx [some (.ref st.length),some (.int L),some (.ref (st.length + 1 + i')),x3,y4,y5,y6,y7] (st ++ .l [.int y]::(j++g)):=by
 have t1:=Qk (a:=a) (st:=st) (j:=j) (x:=x) (m:=2) (by decide) (by decide)
 have hw:=Q8 (x:=x) (m:=2) (by decide)
 generalize hwe:x % 2=w at t1 hw
 have hm:∃ m1 m2:Int,0 < m1∧m1 < 10∧0 < m2∧m2 < 10∧((w=0∧m1≤8∧m2≤9 - L)∨(w≠0∧m1≤9 - L∧m2≤8))∧(∀ s,qG zW (vC (.int 9)) (qG gIx (vFz (Qn (qA (vC (.int 1)) (qA (qB 1) qD)))) (qB 4)) [some (.ref st.length),some (.int L),some (.ref (st.length + 1 + i)),x3,some (.int w),x5,x6,x7] s = .ok (.int m1) s) ∧ ∀ s,qG zW (vC (.int 9)) (qG gIx (vFz (Qn (qA (qB 1) (qA (vC (.int 1)) qD)))) (qB 4)) [some (.ref st.length),some (.int L),some (.ref (st.length + 1 + i)),x3,some (.int w),x5,x6,x7] s = .ok (.int m2) s:=by
  have:w=0∨w=1:=by omega
  rcases this with rfl |rfl
  ·exact ⟨9 - 1,9 - L,by decide,by decide,by omega,by omega,.inl ⟨rfl,by omega,by omega⟩,fun s=>rfl,fun s=>rfl⟩
  ·exact ⟨9 - L,9 - 1,by omega,by omega,by decide,by decide,.inr ⟨by decide,by omega,by omega⟩,fun s=>rfl,fun s=>rfl⟩
 obtain ⟨m1,m2,hm1,hm1',hm2,hm2',hmw,e1,e2⟩:=hm
 have hrow:=Q8 (x:=x / 2) hm1
 have hcol:=Q8 (x:=x / 2 / m1) hm2
 have t2:=Qk (a:=a) (st:=st) (j:=j) (x:=x / 2) (m:=m1) hm1 (by omega)
 have t3:=Qk (a:=a) (st:=st) (j:=j) (x:=x / 2 / m1) (m:=m2) hm2 (by omega)
 generalize x / 2 % m1=row at t2 hrow
 generalize x / 2 / m1 % m2=col at t3 hcol
 generalize x / 2 / m1 / m2=y at t3
 have hS:(st++SO.l [.int y]::j)[st.length + 1 + i]? = some (.l (fd.map cP)):=qGw hj
 have hcl:(zp row col w L).length=L.toNat:=qDu
 let C:List qZ:=zp row col w L
 have hCb:∀ c∈C,In8 c:=fun c hc=>by
  obtain ⟨k,hk,rfl⟩:=List.mem_map.mp (show c∈zp row col w L from hc)
  have:=upto_mem.mp hk
  unfold In8
  by_cases h0:w=0
  ·rw [if_pos h0];dsimp only;omega
  ·rw [if_neg h0];dsimp only;omega
 have hd:qg [2] 1 (QR (qB 7)) (Qe 1) [(vTB (qG (gIn false) (qB 1) (qB 0)))] [] (qB 1) [some (.ref st.length),some (.int L),some (.ref (st.length + 1 + i)),x3,some (.int w),some (.int row),some (.int col),some (.lst (C.map cP))] (st ++ .l [.int y]::j) = .ok ((C.filter fun c=>decide (c∈fd)).map cP) (st ++ .l [.int y]::j):=by
  rw [zc (w:=⟨C.map cP,fun _=>True⟩) (c:=fun p=>decide (unC p∈fd)) (JB rfl) trivial (by rw [List.length_map];show (zp row col w L).length≤_;rw [hcl];exact Wd (by omega)) fun p hp => ?_]
  ·rw [Y8 (d:=fun c=>decide (c∈fd)) fun x _=>rfl]
  ·obtain ⟨c,_,rfl⟩:=List.mem_map.mp hp
   exact ⟨[some (.ref (st.length + 1 + i)),some (cP c)],rfl,wJ (qV rfl rfl (qIC (zL hS))),rfl⟩
 have pre:∀ {o:RS},(Qz (Ws (vTB (qG gEq (vFz (qg [2] 1 (QR (qB 7)) (Qe 1) [(vTB (qG (gIn false) (qB 1) (qB 0)))] [] (qB 1))) (vFz (Qn qD)))) (vTB (qG gLe (qG qz (qI WJ (qA (qB 2) qD)) (qB 1)) (vC (.int 40))))) (wa 2 (zR (qB 2) (qB 7))) Qg) [some (.ref st.length),some (.int L),some (.ref (st.length + 1 + i)),x3,some (.int w),some (.int row),some (.int col),some (.lst (C.map cP))] (st ++ .l [.int y]::j)=o ->
   ZY a [some (.ref st.length),some (.int L),some (.ref (st.length + 1 + i)),x3,x4,x5,x6,x7] (st ++ .l [.int x]::j)=o:=fun {o} h=>by
  unfold ZY
  refine qY (Qx (p := .int w) (qO (l:=[.ref st.length,.int 2]) rfl t1)) ?_
  refine qY (qE1 (p := .int row) (q := .int col) (qT (qO (l:=[.ref st.length,.int m1]) (qT rfl (qT (e1 _) QB)) t2) (qT (qO (l:=[.ref st.length,.int m2]) (qT rfl (qT (e2 _) QB)) t3) QB))) ?_
  exact qY (Qx (p := .lst (C.map cP)) (qO (l:=[.tup [.int row,.int col,.int w],.int L]) rfl (qDF (by omega) (by omega)))) h
 have hE:vTB (qG gEq (vFz (qg [2] 1 (QR (qB 7)) (Qe 1) [(vTB (qG (gIn false) (qB 1) (qB 0)))] [] (qB 1))) (vFz (Qn qD))) [some (.ref st.length),some (.int L),some (.ref (st.length + 1 + i)),x3,some (.int w),some (.int row),some (.int col),some (.lst (C.map cP))] (st ++ .l [.int y]::j) = .ok (C.filter fun c=>decide (c∈fd)).isEmpty (st ++ .l [.int y]::j) :=
  wJ (qV (ZD hd) rfl eq_nil)
 have hL40:vTB (qG gLe (qG qz (qI WJ (qA (qB 2) qD)) (qB 1)) (vC (.int 40))) [some (.ref st.length),some (.int L),some (.ref (st.length + 1 + i)),x3,some (.int w),some (.int row),some (.int col),some (.lst (C.map cP))] (st ++ .l [.int y]::j) = .ok (decide ((fd.length:Int) + L≤40)) (st ++ .l [.int y]::j) :=
  wJ (qV (qV (qO (qT rfl QB) (zh (zL hS) (by rw [List.length_map]))) rfl W6) rfl qIZ)
 by_cases hc:(C.filter fun c=>decide (c∈fd)).isEmpty=true∧(fd.length:Int) + L≤40
 ·rw [hc.1] at hE
  rw [decide_eq_true hc.2] at hL40
  refine ⟨y,[.l ((fd++C).map cP)],j.length,fd++C,some (.int w),some (.int row),some (.int col),some (.lst (C.map cP)),by simp,.inr rfl,?_,?_,fun c hc=>(List.mem_append.mp hc).elim (hb c) (hCb c),pre ?_⟩
  ·rw [List.length_append];show fd.length + (zp row col w L).length≤40;rw [hcl];omega
  ·intro z
   have z1:=congrArg List.length z
   rw [List.length_append,List.length_nil] at z1
   have z2:C.length=L.toNat:=hcl
   omega
  ·refine wo (YC hE hL40) ?_
   have hcat:zR (qB 2) (qB 7) [some (.ref st.length),some (.int L),some (.ref (st.length + 1 + i)),x3,some (.int w),some (.int row),some (.int col),some (.lst (C.map cP))] (st ++ .l [.int y]::j) = .ok ((fd++C).map cP) (st ++ .l [.int y]::j):=by
    rw [qBp (l:=fd.map cP) (m:=C.map cP) rfl rfl (JM hS) rfl (by rw [List.length_map,List.length_map];show fd.length + (zp row col w L).length≤_;rw [hcl];exact Wd (by omega)),List.map_append]
   rw [Z8 hcat]
   have e1:(st++SO.l [.int y]::j).length=st.length + 1 + j.length:=by simp;omega
   rw [e1,List.append_assoc]
   rfl
 ·refine ⟨y,[],i,fd,some (.int w),some (.int row),some (.int col),some (.lst (C.map cP)),by rw [List.append_nil];exact hj,.inl rfl,hf,?_,hb,pre ?_⟩
  ·intro z
   subst z
   refine hc ⟨?_,by show (0:Int) + L≤40;omega⟩
   rw [List.isEmpty_iff,List.filter_eq_nil_iff]
   intro c _
   simp
  ·rw [List.append_nil]
   by_cases h1:(C.filter fun c=>decide (c∈fd)).isEmpty=true
   ·rw [h1] at hE
    rw [decide_eq_false (fun z=>hc ⟨h1,z⟩)] at hL40
    exact Q3 (YC hE hL40) rfl
   ·rw [show (C.filter fun c=>decide (c∈fd)).isEmpty=false by cases h:(C.filter fun c=>decide (c∈fd)).isEmpty with |true=>exact absurd h h1 |false=>rfl] at hE
    exact Q3 (J3 hE) rfl
theorem Yz {a:Ad} {st:qC} {L:Int} (hL1:2≤L) (hL2:L≤5):∀ (n0:Nat) (ks:List PV) (x:Int) (j:qC) (i:Nat) (fd:List qZ) (x3 x4 x5 x6 x7:Option PV),j[i]? = some (.l (fd.map cP))->n0≤i->fd.length≤40->(∀ c∈fd,In8 c)->(ks≠[]∨fd≠[]) ->
  ∃ (y:Int) (g:qC) (i':Nat) (fd':List qZ) (y3 y4 y5 y6 y7:Option PV),(j++g)[i']? = some (.l (fd'.map cP))∧n0≤i'∧fd'.length≤40∧fd'≠[]∧(∀ c∈fd',In8 c) ∧
   QM (fun _=>True) (QD 3) (ZY a) ks [some (.ref st.length),some (.int L),some (.ref (st.length + 1 + i)),x3,x4,x5,x6,x7] (st ++ .l [.int x]::j) = .nx [some (.ref st.length),some (.int L),some (.ref (st.length + 1 + i')),y3,y4,y5,y6,y7] (st ++ .l [.int y]::(j++g))
 |n0,[],x,j,i,fd,x3,x4,x5,x6,x7,hj,hi,hf,hb,h=>⟨x,[],i,fd,x3,x4,x5,x6,x7,by rw [List.append_nil];exact hj,hi,hf,h.resolve_left (fun z=>z rfl),hb,by rw [List.append_nil];exact QK trivial⟩
 |n0,k::ks,x,j,i,fd,x3,x4,x5,x6,x7,hj,hi,hf,hb,h=>by
  obtain ⟨y,g,i1,fd1,y4,y5,y6,y7,h1,hi1,h2,h3,hb1,h4⟩:=qCg (a:=a) (st:=st) (j:=j) (x:=x) (x3:=some k) (x4:=x4) (x5:=x5) (x6:=x6) (x7:=x7) hL1 hL2 hj hf hb
  obtain ⟨z,g2,i2,fd2,z3,z4,z5,z6,z7,q1,qi,q2,q3,qb,q4⟩:=Yz (a:=a) hL1 hL2 n0 ks y (j++g) i1 fd1 (some k) y4 y5 y6 y7 h1 (by have:=(List.getElem?_eq_some_iff.mp hj).1;omega) h2 hb1 (.inr h3)
  refine ⟨z,g++g2,i2,fd2,z3,z4,z5,z6,z7,by rw [← List.append_assoc];exact q1,qi,q2,q3,qb,?_⟩
  rw [← List.append_assoc]
  exact WB trivial rfl h4 q4
theorem JE {a:Ad} {st j:qC} {x L:Int} (hL1:2≤L) (hL2:L≤5):∃ (y:Int) (g:qC) (i:Nat) (fd:List qZ),(j++g)[i]? = some (.l (fd.map cP))∧j.length≤i∧fd.length≤40∧fd≠[]∧(∀ c∈fd,In8 c) ∧
  zy a [.ref st.length,.int L] (st ++ .l [.int x]::j) = .ok (.ref (st.length + 1 + i)) (st ++ .l [.int y]::(j++g)):=by
 have hn:=Q8 (x:=x) (m:=8) (by decide)
 have t1:=Qk (a:=a) (st:=st) (j:=j++[.l []]) (x:=x) (m:=8) (by decide) (by decide)
 obtain ⟨y,g,i,fd,y3,y4,y5,y6,y7,h1,hi,h2,h3,hb,h4⟩:=Yz (a:=a) (st:=st) hL1 hL2 j.length ((qw (1 + x % 8)).map PV.int) (x / 8) (j++[.l []]) j.length [] none none none none none (by simp) (Nat.le_refl _) (Nat.zero_le _) (fun c hc=>(List.not_mem_nil hc).elim) (.inl (fun z=>by
  have:=congrArg List.length z
  rw [List.length_map,Qd] at this
  simp at this;omega))
 refine ⟨y,[.l []]++g,i,fd,by rw [← List.append_assoc];exact h1,hi,h2,h3,hb,Qv rfl ?_⟩
 unfold zq
 have e1:(st++SO.l [.int x]::j).length=st.length + 1 + j.length:=by simp;omega
 have e2:st++SO.l [.int x]::j++[SO.l []]=st++SO.l [.int x]::(j++[.l []]):=by rw [List.append_assoc];rfl
 refine qY (r':=[some (.ref st.length),some (.int L),some (.ref (st.length + 1 + j.length)),none,none,none,none,none]) (s1:=st++SO.l [.int x]::(j++[.l []])) ?_ ?_
 ·rw [Z8 (l:=[]) (s1:=st ++ .l [.int x]::j) rfl,e1,e2];rfl
 rw [← List.append_assoc j]
 exact qY (WI (itN (L:=1 + x % 8) (by omega) (by omega) (qT (qV rfl (qO (l:=[.ref st.length,.int 8]) rfl t1) W6) QB)) h4) (wC rfl)
theorem qE0 {l:List qZ} {n:Nat} (hn:n≤1000):JG (l.map cP) none (some (n:Int))=(l.take n).map cP:=by
 have h1:HT.sIx (l.map cP).length 0 none=0:=rfl
 have h2:HT.sIx (l.map cP).length (l.map cP).length (some (n:Int))=min n (l.map cP).length:=HT.sIx_nat _ _ _
 unfold JG
 rw [h1,h2,List.drop_zero,Nat.sub_zero,List.map_take]
 by_cases h:n≤(l.map cP).length
 ·rw [Nat.min_eq_left h]
 ·rw [Nat.min_eq_right (by omega),List.take_length,List.take_of_length_le (by omega)]
noncomputable def qFF (a:Ad):FT:=(ZA (vTB (qG gEq (qB 1) (vC (.int 1)))) (vTB (qG gNe (qI (qQ a) (qA (qB 2) (qA (qG gIx (vFz (Qn (qA (vC (.int 4)) (qA (vC (.int 1)) (qA (vC (.int 9)) qD))))) (qB 1)) qD))) (vC (.int 1)))))
theorem qCQ {fi:FI} {g:FG} {t:FT} {f:FE} {r r':qu} {st s1 s2:qC} {p q:PV} (h:g p r=some r') (ht:t r' st = .ok true s1) (hf:f r' s1 = .ok q s2):QJ ⟨fi,g,[t]⟩ (QZ [] f) r p st = .ok [q] s2:=by
 unfold QJ;show (match g p r with |none=>_ |some r'=>_)=_;rw [h];show (Q7 [t] r' st).bind _=_;unfold Q7 Q7;rw [ht];show (QZ [] f) r' s1=_;unfold QZ;rw [hf];rfl
theorem qBg {fi:FI} {g:FG} {t:FT} {f:FE} {r r':qu} {st s1:qC} {p:PV} (h:g p r=some r') (ht:t r' st = .ok false s1):QJ ⟨fi,g,[t]⟩ (QZ [] f) r p st = .ok [] s1:=by
 unfold QJ;show (match g p r with |none=>_ |some r'=>_)=_;rw [h];show (Q7 [t] r' st).bind _=_;unfold Q7 Q7;rw [ht];rfl
theorem yo {a:Ad} {st j:qC} {fi:FI} {rw' wy:Int} (hw:0≤wy∧wy≤2):∀ (ks:List Int) (x:Int),∃ (cs:List qZ) (y:Int),cs.length≤ks.length∧(∀ c∈cs,c.1=rw'∧c.2∈ks)∧(cs.map (·.2)).Sublist ks∧qc (fun _=>True) (QJ ⟨fi,Qe 3,[qFF a]⟩ (QZ [] (WC (qA (qB 0) (qA (qB 3) qD)))) [some (.int rw'),some (.int wy),some (.ref st.length),none]) (ks.map PV.int) (st ++ .l [.int x]::j) = .ok (cs.map cP) (st ++ .l [.int y]::j)
 |[],x=>⟨[],x,Nat.le_refl _,fun c hc=>(List.not_mem_nil hc).elim,List.Sublist.slnil,WK trivial⟩
 |k::ks,x=>by
  have hm:∃ m:Int,0 < m∧m < 10 ∧ ∀ s,qG gIx (vFz (Qn (qA (vC (.int 4)) (qA (vC (.int 1)) (qA (vC (.int 9)) qD))))) (qB 1) [some (.int rw'),some (.int wy),some (.ref st.length),some (.int k)] s = .ok (.int m) s:=by
   have:wy=0∨wy=1∨wy=2:=by omega
   rcases this with rfl |rfl |rfl
   ·exact ⟨4,by decide,by decide,fun s=>rfl⟩
   ·exact ⟨1,by decide,by decide,fun s=>rfl⟩
   ·exact ⟨9,by decide,by decide,fun s=>rfl⟩
  obtain ⟨m,hm1,hm2,em⟩:=hm
  have key:∃ (b:Bool) (y:Int),qFF a [some (.int rw'),some (.int wy),some (.ref st.length),some (.int k)] (st ++ .l [.int x]::j) = .ok b (st ++ .l [.int y]::j):=by
   by_cases h1:wy=1
   ·exact ⟨true,x,qFx (wJ (qV (p := .int wy) (q := .int 1) rfl rfl (by rw [w4,beq_iff_eq.mpr h1])))⟩
   ·have t1:=Qk (a:=a) (st:=st) (j:=j) (x:=x) (m:=m) hm1 (by omega)
    exact ⟨_,x / m,Zt (wJ (qV (p := .int wy) (q := .int 1) rfl rfl (by rw [w4,beq_eq_false_iff_ne.mpr h1]))) (wJ (qV (qO (l:=[.ref st.length,.int m]) (qT rfl (qT (em _) QB)) t1) rfl rfl))⟩
  obtain ⟨b,y,eb⟩:=key
  obtain ⟨cs,z,h1,h2,h4,h3⟩:=yo (a:=a) (st:=st) (j:=j) (fi:=fi) (rw':=rw') hw ks y
  cases b with
  |true =>
   refine ⟨(rw',k)::cs,z,by rw [List.length_cons,List.length_cons];omega,fun c hc => ?_,by rw [List.map_cons];exact h4.cons₂ _,?_⟩
   ·rcases List.mem_cons.mp hc with q |q
    ·rw [q];exact ⟨rfl,List.mem_cons_self⟩
    ·exact ⟨(h2 c q).1,List.mem_cons_of_mem _ (h2 c q).2⟩
   ·exact zC (l:=[cP (rw',k)]) trivial (qCQ (r':=[some (.int rw'),some (.int wy),some (.ref st.length),some (.int k)]) rfl eb (ZE (qT rfl (qT rfl QB)) (sz rfl))) h3
  |false =>
   refine ⟨cs,z,by rw [List.length_cons];omega,fun c hc=>⟨(h2 c hc).1,List.mem_cons_of_mem _ (h2 c hc).2⟩,h4.cons _,?_⟩
   exact zC (l:=[]) trivial (qBg (r':=[some (.int rw'),some (.int wy),some (.ref st.length),some (.int k)]) rfl eb) h3
noncomputable def qCi (a:Ad):FS:=(qX 5 (vFz (zR (qB 5) (vFz (qg [6,2,0] 1 (QH (qA (qB 4) qD)) (Qe 3) [qFF a] [] (WC (qA (qB 0) (qA (qB 3) qD))))))))
theorem qAS {a:Ad} {st j:qC} {L wy hi wd:Int} (hw:0≤wy∧wy≤2) (hwd:1≤wd∧wd≤8):∀ (rs:List Int) (x:Int) (fd:List qZ) (x6:Option PV),fd.length + 8 * rs.length≤64->rs.Pairwise (· < ·)->(∀ c∈fd,∀ r∈rs,c.1 < r)->fd.Pairwise clt->(∀ c∈fd,In8 c)->(∀ r∈rs,0≤r∧r≤7) ->
  ∃ (y:Int) (fd':List qZ) (y6:Option PV),fd'.length≤64∧fd'.Pairwise clt∧(∀ c∈fd',In8 c) ∧
   QM (fun _=>True) (QD 6) (qCi a) (rs.map PV.int) [some (.ref st.length),some (.int L),some (.int wy),some (.int hi),some (.int wd),some (.lst (fd.map cP)),x6] (st ++ .l [.int x]::j) = .nx [some (.ref st.length),some (.int L),some (.int wy),some (.int hi),some (.int wd),some (.lst (fd'.map cP)),y6] (st ++ .l [.int y]::j)
 |[],x,fd,x6,h,_,_,hp,hb,_=>⟨x,fd,x6,by simpa using h,hp,hb,QK trivial⟩
 |r::rs,x,fd,x6,h,hr,hlt,hp,hb,hrb=>by
  obtain ⟨cs,y,h1,h2,h4,h3⟩:=yo (a:=a) (st:=st) (j:=j) (fi:=QH (qA (qB 4) qD)) (rw':=r) hw (qw wd) x
  rw [Qd] at h1
  have hcl:cs.length≤8:=by omega
  rw [List.length_cons] at h
  have hr0:=hrb r List.mem_cons_self
  have hcs:cs.Pairwise clt:=by
   have p1:(qw wd).Pairwise (· < ·):=by
    unfold qw
    rw [List.pairwise_map]
    exact List.pairwise_lt_range.imp fun h=>by omega
   have p2:(cs.map (·.2)).Pairwise (· < ·):=p1.sublist h4
   rw [List.pairwise_map] at p2
   refine List.Pairwise.imp_of_mem ?_ p2
   intro c d hc hd hcd
   exact .inr ⟨by rw [(h2 c hc).1,(h2 d hd).1],hcd⟩
  have hcat:(fd++cs).Pairwise clt:=List.pairwise_append.mpr ⟨hp,hcs,fun c hc d hd => .inl (by rw [(h2 d hd).1];exact hlt c hc r List.mem_cons_self)⟩
  have hbb:∀ c∈fd++cs,In8 c:=fun c hc=>by
   rcases List.mem_append.mp hc with q |q
   ·exact hb c q
   ·have:=upto_mem.mp (h2 c q).2
    have:=(h2 c q).1
    unfold In8
    omega
  obtain ⟨z,fd',y6,q1,q2,q3,q4⟩:=qAS (a:=a) (st:=st) (j:=j) (L:=L) (hi:=hi) hw hwd rs y (fd++cs) (some (.int r)) (by rw [List.length_append];omega) (List.pairwise_cons.mp hr).2 (fun c hc r' hr'=>by
   rcases List.mem_append.mp hc with q |q
   ·exact hlt c q r' (List.mem_cons_of_mem _ hr')
   ·rw [(h2 c q).1];exact (List.pairwise_cons.mp hr).1 r' hr') hcat hbb fun r' hr'=>hrb r' (List.mem_cons_of_mem _ hr')
  refine ⟨z,fd',y6,q1,q2,q3,?_⟩
  refine WB (r1:=[some (.ref st.length),some (.int L),some (.int wy),some (.int hi),some (.int wd),some (.lst (fd.map cP)),some (.int r)]) trivial rfl ?_ q4
  unfold qCi
  refine Qx (p := .lst ((fd++cs).map cP)) (ZD ?_)
  rw [List.map_append]
  exact qBp (l:=fd.map cP) (m:=cs.map cP) rfl (ZD (YN (w:=⟨(qw wd).map PV.int,fun _=>True⟩) (itN (by omega) (by omega) rfl) h3 (by rw [List.length_map];exact Wd (by omega)))) rfl rfl (by rw [List.length_map,List.length_map];exact Wd (by omega))
structure Flr (F:List qZ):Prop where
 len:F.length≤40
 ris:F.Pairwise clt
 b:∀ c∈F,In8 c
theorem ye {a:Ad} {st j:qC} {fi:FI}:∀ (ks:List PV) (x:Int),∃ (cs:List qZ) (y:Int),cs.length=ks.length∧(∀ c∈cs,In8 c)∧qc (fun _=>True) (QJ ⟨fi,Qe 1,[]⟩ (QZ [] (WC (qA (qI (qQ a) (qA (qB 0) (qA (vC (.int 8)) qD))) (qA (qI (qQ a) (qA (qB 0) (qA (vC (.int 8)) qD))) qD)))) [some (.ref st.length),none]) ks (st ++ .l [.int x]::j) = .ok (cs.map cP) (st ++ .l [.int y]::j)
 |[],x=>⟨[],x,rfl,fun c hc=>(List.not_mem_nil hc).elim,WK trivial⟩
 |k::ks,x=>by
  have t1:=Qk (a:=a) (st:=st) (j:=j) (x:=x) (m:=8) (by decide) (by decide)
  have t2:=Qk (a:=a) (st:=st) (j:=j) (x:=x / 8) (m:=8) (by decide) (by decide)
  obtain ⟨cs,y,h1,h2,h3⟩:=ye (a:=a) (st:=st) (j:=j) (fi:=fi) ks (x / 8 / 8)
  refine ⟨(x % 8,x / 8 % 8)::cs,y,by rw [List.length_cons,List.length_cons,h1],fun c hc => ?_,?_⟩
  ·rcases List.mem_cons.mp hc with q |q
   ·rw [q];show 0≤x % 8∧x % 8≤7∧0≤x / 8 % 8∧x / 8 % 8≤7;omega
   ·exact h2 c q
  ·exact zC (l:=[cP (x % 8,x / 8 % 8)]) trivial (YH (r':=[some (.ref st.length),some k]) rfl (ZE (qT (qO (l:=[.ref st.length,.int 8]) rfl t1) (qT (qO (l:=[.ref st.length,.int 8]) rfl t2) QB)) (sz rfl))) h3
theorem qG7 {st j:qC} {b o:SO} {i:Nat} (h:i < j.length):(st++b::j).set (st.length + 1 + i) o=st++b::j.set i o:=by
 rw [List.set_append_right _ _ (by omega),show st.length + 1 + i - st.length=i + 1 by omega,List.set_cons_succ]
theorem qFp {l:List qZ} {k:Nat}:(l.map cP).eraseIdx k=(l.eraseIdx k).map cP:=by
 induction l generalizing k with
 |nil=>rfl
 |cons c l ih =>
  cases k with
  |zero=>rfl
  |succ k=>rw [List.map_cons,List.eraseIdx_cons_succ,List.eraseIdx_cons_succ,List.map_cons,ih]
theorem qBz {a:Ad} {st j:qC} {x L:Int} (hL1:2≤L) (hL2:L≤5):∃ (F:List qZ) (y:Int) (g:qC),Flr F∧wl a [.ref st.length,.int L] (st ++ .l [.int x]::j) = .ok (.tup (F.map cP)) (st ++ .l [.int y]::(j++g)):=by
 have t1:=Qk (a:=a) (st:=st) (j:=j) (x:=x) (m:=6) (by decide) (by decide)
 have t2:=Qk (a:=a) (st:=st) (j:=j) (x:=x / 6) (m:=8) (by decide) (by decide)
 have t3:=Qk (a:=a) (st:=st) (j:=j) (x:=x / 6 / 8) (m:=8) (by decide) (by decide)
 have hwy:=Q8 (x:=x) (m:=6) (by decide)
 have hhi:=Q8 (x:=x / 6) (m:=8) (by decide)
 have hwd:=Q8 (x:=x / 6 / 8) (m:=8) (by decide)
 generalize x % 6=wy at t1 hwy
 generalize x / 6 % 8=hi at t2 hhi
 generalize x / 6 / 8 % 8=wd at t3 hwd
 generalize x / 6 / 8 / 8=y at t3
 have pre:∀ {F:PV} {s:qC} {R:FS},R [some (.ref st.length),some (.int L),some (.int wy),some (.int (1 + hi)),some (.int (1 + wd)),none,none] (st ++ .l [.int y]::j) = .rt F s->qP (qX 2 (qI (qQ a) (qA (qB 0) (qA (vC (.int 6)) qD)))) (qP (Z7 3 4 (qA (qG qz (vC (.int 1)) (qI (qQ a) (qA (qB 0) (qA (vC (.int 8)) qD)))) (qA (qG qz (vC (.int 1)) (qI (qQ a) (qA (qB 0) (qA (vC (.int 8)) qD)))) qD))) R) (Qh 7 [.ref st.length,.int L]) (st ++ .l [.int x]::j) = .rt F s:=fun {F s R} h=>by
  refine qY (Qx (p := .int wy) (qO (l:=[.ref st.length,.int 6]) rfl t1)) ?_
  exact qY (qE1 (p := .int (1 + hi)) (q := .int (1 + wd)) (qT (qV rfl (qO (l:=[.ref st.length,.int 8]) rfl t2) W6) (qT (qV rfl (qO (l:=[.ref st.length,.int 8]) rfl t3) W6) QB))) h
 by_cases h2:wy > 2
 ·obtain ⟨z,g,i,fd,h3,hij,h4,h5,hb,h6⟩:=JE (a:=a) (st:=st) (j:=j) (x:=y) hL1 hL2
  have hS:∀ q,(st++SO.l [.int q]::(j++g))[st.length + 1 + i]? = some (.l (fd.map cP)):=fun q=>qGw h3
  by_cases h7:wy=5
  ·subst h7
   have hfl:0 < (fd.length:Int):=by
    have:fd.length≠0:=fun q=>h5 (List.eq_nil_of_length_eq_zero q)
    omega
   have t4:=Qk (a:=a) (st:=st) (j:=j++g) (x:=z) (m:=(fd.length:Int)) hfl (by omega)
   have hk:=Q8 (x:=z) hfl
   generalize z % (fd.length:Int)=k at t4 hk
   generalize z / (fd.length:Int)=z2 at t4
   have hil:i < (j++g).length:=(List.getElem?_eq_some_iff.mp h3).1
   have hkl:k.toNat < fd.length:=by omega
   have hpop:yE (qB 5) (qI (qQ a) (qA (qB 0) (qA (qI WJ (qA (qB 5) qD)) qD))) [some (.ref st.length),some (.int L),some (.int 5),some (.int (1 + hi)),some (.int (1 + wd)),some (.ref (st.length + 1 + i)),none] (st ++ .l [.int z]::(j++g)) = .ok (cP fd[k.toNat]) (st ++ .l [.int z2]::((j++g).set i (.l ((fd.eraseIdx k.toNat).map cP)))):=by
    rw [qEJ (n:=st.length + 1 + i) (p:=cP fd[k.toNat]) (l:=fd.map cP) rfl (qCX (hS z)) (qO (l:=[.ref st.length,.int (fd.length:Int)]) (qT rfl (qT (qO (qT rfl QB) (zh (zL (hS z)) (by rw [List.length_map]))) QB)) t4) (hS z2) ⟨hk.1,by omega⟩ (by rw [List.getElem?_map,List.getElem?_eq_getElem hkl];rfl),qG7 hil,qFp]
   have t5:=Qk (a:=a) (st:=st) (j:=(j++g).set i (.l ((fd.eraseIdx k.toNat).map cP))) (x:=z2) (m:=2) (by decide) (by decide)
   have hn:=Q8 (x:=z2) (m:=2) (by decide)
   obtain ⟨cs,y2,c1,c2,c3⟩:=ye (a:=a) (st:=st) (j:=(j++g).set i (.l ((fd.eraseIdx k.toNat).map cP))) (fi:=QH (qA (qI (qQ a) (qA (qB 0) (qA (vC (.int 2)) qD))) qD)) ((qw (z2 % 2)).map PV.int) (z2 / 2)
   rw [List.length_map,Qd] at c1
   have hS2:∀ q,(st++SO.l [.int q]::(j++g).set i (.l ((fd.eraseIdx k.toNat).map cP)))[st.length + 1 + i]? = some (.l ((fd.eraseIdx k.toNat).map cP)):=fun q=>qGw (List.getElem?_set_self hil)
   have hel:(fd.eraseIdx k.toNat).length=fd.length - 1:=by rw [List.length_eraseIdx_of_lt hkl]
   have hall:(fd.eraseIdx k.toNat++cs).length≤40:=by rw [List.length_append,hel];omega
   refine ⟨ZO (fd.eraseIdx k.toNat++cs),y2,g.set (i - j.length) (.l ((fd.eraseIdx k.toNat).map cP)),⟨Nat.le_trans (jN _) hall,qAd _,fun c hc => ?_⟩,Qv rfl ?_⟩
   ·rcases List.mem_append.mp (mem_sddC.mp hc) with q |q
    ·exact hb c (List.mem_of_mem_eraseIdx q)
    ·exact c2 c q
   ·unfold wg
    refine pre (wf (wo (wJ (qV rfl rfl (qCY (by decide)))) ?_))
    refine qY (Qx (p := .ref (st.length + 1 + i)) (qO (l:=[.ref st.length,.int L]) rfl h6)) ?_
    have hcat:zR (qB 5) (vFz (qg [0] 1 (QH (qA (qI (qQ a) (qA (qB 0) (qA (vC (.int 2)) qD))) qD)) (Qe 1) [] [] (WC (qA (qI (qQ a) (qA (qB 0) (qA (vC (.int 8)) qD))) (qA (qI (qQ a) (qA (qB 0) (qA (vC (.int 8)) qD))) qD))))) [some (.ref st.length),some (.int L),some (.int 5),some (.int (1 + hi)),some (.int (1 + wd)),some (.ref (st.length + 1 + i)),none] (st ++ .l [.int z2]::((j++g).set i (.l ((fd.eraseIdx k.toNat).map cP)))) = .ok ((fd.eraseIdx k.toNat++cs).map cP) (st ++ .l [.int y2]::((j++g).set i (.l ((fd.eraseIdx k.toNat).map cP)))):=by
     rw [List.map_append]
     exact qBp (l:=(fd.eraseIdx k.toNat).map cP) (m:=cs.map cP) rfl (ZD (YN (w:=⟨(qw (z2 % 2)).map PV.int,fun _=>True⟩) (itN (by omega) (by omega) (qT (qO (l:=[.ref st.length,.int 2]) rfl t5) QB)) c3 (by rw [List.length_map];exact Wd (by omega)))) (JM (hS2 _)) rfl (by rw [List.length_map,List.length_map];exact Wd (by rw [hel];omega))
    refine qY (r':=[some (.ref st.length),some (.int L),some (.int 5),some (.int (1 + hi)),some (.int (1 + wd)),some (.lst ((fd.eraseIdx k.toNat++cs).map cP)),none]) (wo (wJ (qV rfl rfl rfl)) (qY (qB6 hpop) (Qx (ZD hcat)))) ?_
    rw [show (j++g).set i (.l ((fd.eraseIdx k.toNat).map cP))=j++g.set (i - j.length) (.l ((fd.eraseIdx k.toNat).map cP)) from List.set_append_right _ _ hij]
    exact wC (qO (l:=[.lst ((ZO (fd.eraseIdx k.toNat++cs)).map cP)]) (qT (qC4 rfl (qCd rfl (by omega))) QB) (YV rfl))
  ·refine ⟨ZO fd,z,g,⟨Nat.le_trans (jN _) h4,qAd _,fun c hc=>hb c (mem_sddC.mp hc)⟩,Qv rfl ?_⟩
   unfold wg
   refine pre (wf (wo (wJ (qV rfl rfl (qCY h2))) ?_))
   refine qY (Qx (p := .ref (st.length + 1 + i)) (qO (l:=[.ref st.length,.int L]) rfl h6)) ?_
   refine qY (Q3 (wJ (qV (p := .int wy) (q := .int 5) rfl rfl (by rw [w4,beq_eq_false_iff_ne.mpr h7]))) rfl) ?_
   exact wC (qO (l:=[.lst ((ZO fd).map cP)]) (qT (qC4 rfl (qCd (zL (hS z)) (by omega))) QB) (YV rfl))
 ·obtain ⟨z,fd,y6,f1,f2,f3,f4⟩:=qAS (a:=a) (st:=st) (j:=j) (L:=L) (hi:=1 + hi) (wy:=wy) (wd:=1 + wd) (by omega) (by omega) (qw (1 + hi)) y [] none (by rw [List.length_nil,Qd];omega) (by
   unfold qw
   rw [List.pairwise_map]
   exact List.pairwise_lt_range.imp fun h=>by omega) (fun c hc=>(List.not_mem_nil hc).elim) List.Pairwise.nil (fun c hc=>(List.not_mem_nil hc).elim) fun r hr=>by have:=upto_mem.mp hr;omega
  have fin:∀ (n:Nat) (s:qC),n≤40->vIf (vTB (qG gLt (qB 2) (vC (.int 2)))) (Jc (qB 5) Zk (Ww (vC (.int 40)))) (Jc (qB 5) Zk (Ww (qI (qQ a) (qA (qB 0) (qA (vC (.int 8)) qD))))) [some (.ref st.length),some (.int L),some (.int wy),some (.int (1 + hi)),some (.int (1 + wd)),some (.lst (fd.map cP)),y6] (st ++ .l [.int z]::j) = .ok (.lst ((fd.take n).map cP)) s->wl a [.ref st.length,.int L] (st ++ .l [.int x]::j) = .ok (.tup ((fd.take n).map cP)) s:=fun n s hn h=>by
   refine Qv rfl ?_
   unfold wg
   refine pre (qY (Q3 (wJ (qV rfl rfl (qF8 h2))) rfl) (qY (Qx (p := .lst []) rfl) (qY (WI (itN (L:=1 + hi) (by omega) (by omega) rfl) f4) ?_)))
   exact wC (qO (qT h QB) (YV rfl))
  have ok:∀ n:Nat,n≤40->Flr (fd.take n):=fun n hn=>⟨by rw [List.length_take];omega,f2.sublist (List.take_sublist _ _),fun c hc=>f3 c (List.mem_of_mem_take hc)⟩
  by_cases h8:wy < 2
  ·refine ⟨fd.take 40,z,[],ok 40 (Nat.le_refl _),?_⟩
   rw [List.append_nil]
   refine fin 40 _ (Nat.le_refl _) (qDX (wJ (qV rfl rfl (qFT h8))) ?_)
   rw [qE3 (l:=fd.map cP) rfl rfl (qAM rfl) rfl,← qE0 (n:=40) (by decide)]
   rfl
  ·have t4:=Qk (a:=a) (st:=st) (j:=j) (x:=z) (m:=8) (by decide) (by decide)
   have hn:=Q8 (x:=z) (m:=8) (by decide)
   refine ⟨fd.take (z % 8).toNat,z / 8,[],ok _ (by omega),?_⟩
   rw [List.append_nil]
   refine fin _ _ (by omega) (qEq (wJ (qV rfl rfl (qGW h8))) ?_)
   rw [qE3 (l:=fd.map cP) rfl rfl (qAM (qO (l:=[.ref st.length,.int 8]) rfl t4)) rfl,← qE0 (n:=(z % 8).toNat) (by omega),show (((z % 8).toNat:Nat):Int)=z % 8 by omega]
theorem map_set {t:List Int} {k:Nat} {v:Int}:(t.map PV.int).set k (.int v)=(t.set k v).map PV.int:=by rw [List.map_set]
theorem qDj {t:List Int} {k:Nat} (h:k < t.length):(t.map PV.int)[k]? = some (.int (t.getD k 0)):=by
 rw [List.getElem?_map,List.getElem?_eq_getElem h,List.getD_eq_getElem?_getD,List.getElem?_eq_getElem h];rfl
theorem qDQ {a:Ad} {L:Int} {st:qC} (h1:2≤L) (h2:L≤5):Qt a [.int L] st = .ok .non st:=by
 rw [zH rfl,if_pos]
 show (decide (2≤L)&&decide (L≤5))=true
 rw [decide_eq_true h1,decide_eq_true h2];rfl
theorem qEf {a:Ad} {v:PV} {st:qC} (hp:zg v=true) (hw:wn 2 5 v=false):Qt a [v] st = .ex ⟨a.NoLength,[]⟩ st:=by
 rw [zH hp,if_neg (by rw [hw];simp)]
theorem qDH {L:Int} (hL:0≤L):(List.replicate L.toNat [PV.int 0]).flatten=(List.replicate L.toNat (0:Int)).map PV.int:=by
 generalize L.toNat=n
 induction n with
 |zero=>rfl
 |succ n ih=>rw [List.replicate_succ,List.flatten_cons,ih,List.replicate_succ,List.map_cons];rfl
theorem qBd {a:Ad} {f v:PV} {st:qC} (hp:zg v=true) (hw:wn 2 5 v=false):zZ a [f,v] st = .ex ⟨a.NoLength,[]⟩ st :=
 zu rfl (Z2 (qA1 (by rw [Qw (l:=[v]) (st':=st) rfl];exact qEf hp hw)))
def rs (L:Int) (i k:Int) (F:List qZ):Int:=((F.filter fun c=>decide (c.1 % L=i)&&decide (c.2 % L=k)).length:Int)
def Qf (L:Int) (F:List qZ):List (List Int):=(qw L).map fun i=>(qw L).map fun k=>rs L i k F
def yQ (L:Int) (t:List (List Int)) (c:qZ):List (List Int):=t.set (c.1 % L).toNat ((t.getD (c.1 % L).toNat []).set (c.2 % L).toNat ((t.getD (c.1 % L).toNat []).getD (c.2 % L).toNat 0 + 1))
def qj (t:List (List Int)):qC:=t.map fun r=>SO.l (r.map PV.int)
def qy (n:Nat) (L:Int):List PV:=(List.range L.toNat).map fun i=>PV.ref (n + i)
def Sq (L:Int) (t:List (List Int)):Prop:=t.length=L.toNat ∧ ∀ r∈t,r.length=L.toNat
theorem Sq.row {L:Int} {t:List (List Int)} (h:Sq L t) {i:Nat} (hi:i < L.toNat):(t.getD i []).length=L.toNat:=by
 have:i < t.length:=by rw [h.1];exact hi
 rw [List.getD_eq_getElem?_getD,List.getElem?_eq_getElem this]
 exact h.2 _ (List.getElem_mem this)
theorem Yn {L:Int} {t:List (List Int)} {c:qZ} (hL:0 < L) (h:Sq L t):Sq L (yQ L t c):=by
 have hk:=Q8 (x:=c.1) hL
 unfold yQ
 refine ⟨by rw [List.length_set];exact h.1,fun r hr => ?_⟩
 rcases List.mem_or_eq_of_mem_set hr with q |q
 ·exact h.2 r q
 ·rw [q,List.length_set];exact h.row (by omega)
noncomputable def qCB:FS:=(Zq (qG gIx (qB 2) (qG WG (qB 3) (qB 1))) (qG WG (qB 4) (qB 1)) (vC (.int 1)))
theorem yf {st:qC} {L:Int} {v0:PV} (hL:0 < L):∀ (F:List qZ) (t:List (List Int)) (x3 x4:Option PV),Sq L t -> ∃ y3 y4,QM (fun _=>True) (jw 2 (Wc (QD 3) (Wc (QD 4) JQ))) qCB (F.map cP) [some v0,some (.int L),some (.ref (st.length + L.toNat)),x3,x4] (st++qj t++[.l (qy st.length L)]) = .nx [some v0,some (.int L),some (.ref (st.length + L.toNat)),y3,y4] (st++qj (F.foldl (yQ L) t)++[.l (qy st.length L)])
 |[],t,x3,x4,h=>⟨x3,x4,QK trivial⟩
 |c::F,t,x3,x4,h=>by
  have hi:=Q8 (x:=c.1) hL
  have hk:=Q8 (x:=c.2) hL
  obtain ⟨y3,y4,e⟩:=yf (st:=st) (v0:=v0) hL F (yQ L t c) (some (.int c.1)) (some (.int c.2)) (Yn hL h)
  refine ⟨y3,y4,WB (r1:=[some v0,some (.int L),some (.ref (st.length + L.toNat)),some (.int c.1),some (.int c.2)]) trivial rfl ?_ e⟩
  have hrl:(qj t).length=L.toNat:=by unfold qj;rw [List.length_map];exact h.1
  have hs2:(st++qj t++[SO.l (qy st.length L)])[st.length + L.toNat]? = some (.l (qy st.length L)):=by
   rw [List.getElem?_append_right (by rw [List.length_append,hrl];exact Nat.le_refl _),List.length_append,hrl,Nat.sub_self];rfl
  have hil:(c.1 % L).toNat < L.toNat:=by omega
  have hs:(st++qj t++[SO.l (qy st.length L)])[st.length + (c.1 % L).toNat]? = some (.l ((t.getD (c.1 % L).toNat []).map PV.int)):=by
   have hit:(c.1 % L).toNat < t.length:=by rw [h.1];exact hil
   rw [List.getElem?_append_left (by rw [List.length_append,hrl];omega),List.getElem?_append_right (by omega),Nat.add_sub_cancel_left]
   unfold qj
   rw [List.getElem?_map,List.getElem?_eq_getElem hit,List.getD_eq_getElem?_getD,List.getElem?_eq_getElem hit];rfl
  have hix:gIx (.ref (st.length + L.toNat)) (.int (c.1 % L)) (st++qj t++[SO.l (qy st.length L)]) = .ok (.ref (st.length + (c.1 % L).toNat)) (st++qj t++[SO.l (qy st.length L)]):=by
   refine qDZ (zL hs2) ?_
   unfold L2.atI
   have hrf:(qy st.length L).length=L.toNat:=by unfold qy;simp
   rw [hrf,ZV hi.1 (by omega)]
   show (qy st.length L)[(c.1 % L).toNat]? = _
   unfold qy
   rw [List.getElem?_map,List.getElem?_range hil];rfl
  have hkl:(c.2 % L).toNat < (t.getD (c.1 % L).toNat []).length:=by rw [h.row hil];omega
  have:=qGs (fo:=qG gIx (qB 2) (qG WG (qB 3) (qB 1))) (fi2:=qG WG (qB 4) (qB 1)) (f:=vC (.int 1)) (r:=[some v0,some (.int L),some (.ref (st.length + L.toNat)),some (.int c.1),some (.int c.2)]) (st:=st++qj t++[SO.l (qy st.length L)]) (n:=st.length + (c.1 % L).toNat) (k:=c.2 % L) (qV rfl (qV rfl rfl (Jy hL)) hix) (qV rfl rfl (Jy hL)) hs hk.1 (qDj hkl) rfl hs (by rw [List.length_map];exact hkl)
  unfold qCB
  rw [this,map_set,List.set_append_left _ _ (by rw [List.length_append,hrl];omega),List.set_append_right _ _ (by omega),Nat.add_sub_cancel_left]
  rw [show qj (yQ L t c)=(qj t).set (c.1 % L).toNat (.l (((t.getD (c.1 % L).toNat []).set (c.2 % L).toNat ((t.getD (c.1 % L).toNat []).getD (c.2 % L).toNat 0 + 1)).map PV.int)) from List.map_set]
theorem qD5 {L:Int} {t:List (List Int)} {c:qZ} {i k:Nat} (hi:(c.1 % L).toNat < t.length) (hk:(c.2 % L).toNat < (t.getD (c.1 % L).toNat []).length):((yQ L t c).getD i []).getD k 0=(t.getD i []).getD k 0 + (if (c.1 % L).toNat=i∧(c.2 % L).toNat=k then 1 else 0):=by
 unfold yQ
 rw [List.getD_eq_getElem?_getD (l:=t.set _ _),List.getElem?_set]
 by_cases h:(c.1 % L).toNat=i
 ·rw [if_pos h,if_pos hi]
  subst h
  show (((t.getD (c.1 % L).toNat []).set (c.2 % L).toNat _).getD k 0)=_
  rw [List.getD_eq_getElem?_getD,List.getElem?_set]
  by_cases h2:(c.2 % L).toNat=k
  ·rw [if_pos h2,if_pos hk,if_pos ⟨rfl,h2⟩,h2];rfl
  ·rw [if_neg h2,if_neg (fun z=>h2 z.2),Int.add_zero];exact (List.getD_eq_getElem?_getD ..).symm
 ·rw [if_neg h,if_neg (fun z=>h z.1),Int.add_zero,List.getD_eq_getElem?_getD (l:=t)]
theorem Y6 {L:Int} (hL:0 < L):∀ (F:List qZ) (t:List (List Int)),Sq L t->Sq L (F.foldl (yQ L) t)
 |[],t,h=>h
 |c::F,t,h=>by rw [List.foldl_cons];exact Y6 hL F _ (Yn hL h)
theorem jG {L:Int} (hL:0 < L) {i k:Int} (h0:0≤i) (h1:0≤k):∀ (F:List qZ) (t:List (List Int)),Sq L t->((F.foldl (yQ L) t).getD i.toNat []).getD k.toNat 0=(t.getD i.toNat []).getD k.toNat 0 + rs L i k F
 |[],t,hl=>by unfold rs;simp
 |c::F,t,hl=>by
  have hi:=Q8 (x:=c.1) hL
  have hk:=Q8 (x:=c.2) hL
  have hit:(c.1 % L).toNat < t.length:=by rw [hl.1];omega
  have hkt:(c.2 % L).toNat < (t.getD (c.1 % L).toNat []).length:=by rw [hl.row (by omega)];omega
  rw [List.foldl_cons,jG hL h0 h1 F _ (Yn hL hl),qD5 hit hkt]
  unfold rs
  rw [List.filter_cons]
  by_cases q:c.1 % L=i∧c.2 % L=k
  ·rw [if_pos (by rw [q.1,q.2];exact ⟨rfl,rfl⟩),if_pos (by rw [decide_eq_true q.1,decide_eq_true q.2];rfl),List.length_cons];omega
  ·rw [if_neg (fun z=>q ⟨by omega,by omega⟩),if_neg (by rw [Bool.and_eq_true];exact fun z=>q ⟨of_decide_eq_true z.1,of_decide_eq_true z.2⟩)];omega
def zG (L:Int):List (List Int):=List.replicate L.toNat (List.replicate L.toNat 0)
theorem Zx (L:Int):Sq L (zG L):=⟨by unfold zG;simp,fun r hr=>by rw [List.eq_of_mem_replicate hr];simp⟩
theorem qF6 {L:Int} {t u:List (List Int)} (h1:Sq L t) (h2:Sq L u) (h:∀ i k:Nat,i < L.toNat->k < L.toNat->(t.getD i []).getD k 0=(u.getD i []).getD k 0):t=u:=by
 refine List.ext_getElem (by rw [h1.1,h2.1]) fun i hi hi' => ?_
 have hi1:i < L.toNat:=by rw [← h1.1];exact hi
 have r1:=h1.row hi1
 have r2:=h2.row hi1
 have e1:t.getD i []=t[i]:=by rw [List.getD_eq_getElem?_getD,List.getElem?_eq_getElem hi];rfl
 have e2:u.getD i []=u[i]:=by rw [List.getD_eq_getElem?_getD,List.getElem?_eq_getElem hi'];rfl
 rw [e1] at r1
 rw [e2] at r2
 refine List.ext_getElem (by rw [r1,r2]) fun k hk hk' => ?_
 have:=h i k hi1 (by rw [← r1];exact hk)
 rw [e1,e2,List.getD_eq_getElem?_getD,List.getD_eq_getElem?_getD,List.getElem?_eq_getElem hk,List.getElem?_eq_getElem hk'] at this
 exact this
theorem zr (L:Int) (F:List qZ):Sq L (Qf L F):=⟨by unfold Qf;rw [List.length_map,Qd],fun r hr=>by
 unfold Qf at hr
 obtain ⟨i,_,rfl⟩:=List.mem_map.mp hr
 rw [List.length_map,Qd]⟩
theorem qAj {L:Int} {i:Nat} (hi:i < L.toNat):(qw L)[i]? = some (i:Int):=by
 unfold qw
 rw [List.getElem?_map,List.getElem?_range hi];rfl
theorem qFJ {L:Int} {F:List qZ} {i k:Nat} (hi:i < L.toNat) (hk:k < L.toNat):((Qf L F).getD i []).getD k 0=rs L i k F:=by
 unfold Qf
 rw [List.getD_eq_getElem?_getD,List.getD_eq_getElem?_getD,List.getElem?_map,qAj hi]
 show ((qw L).map fun k=>rs L (i:Int) k F)[k]?.getD 0=_
 rw [List.getElem?_map,qAj hk];rfl
theorem qB7 {L:Int} (hL:0 < L) (F:List qZ):F.foldl (yQ L) (zG L)=Qf L F:=by
 refine qF6 (Y6 hL F _ (Zx L)) (zr L F) fun i k hi hk => ?_
 have:=jG hL (i:=(i:Int)) (k:=(k:Int)) (by omega) (by omega) F (zG L) (Zx L)
 rw [Int.toNat_natCast,Int.toNat_natCast] at this
 rw [this,qFJ hi hk]
 have e0:((zG L).getD i []).getD k 0=0:=by
  unfold zG
  rw [List.getD_eq_getElem?_getD,List.getD_eq_getElem?_getD,List.getElem?_replicate,if_pos hi]
  show (List.replicate L.toNat (0:Int))[k]?.getD 0=0
  rw [List.getElem?_replicate];split <;> rfl
 rw [e0,Int.zero_add]
theorem Y4 {L:Int} {fi:FI} (h1:2≤L) (h2:L≤5):∀ (n:Nat) (ks:List PV) (st:qC),ks.length=n->qc (fun _=>True) (QJ ⟨fi,Qe 1,[]⟩ (QZ [] (vMk (Y0 (Qn (qA (vC (.int 0)) qD)) (qB 0)))) [some (.int L),none]) ks st = .ok ((List.range n).map fun i=>PV.ref (st.length + i)) (st++qj (List.replicate n (List.replicate L.toNat 0)))
 |0,ks,st,h=>by
  rw [List.eq_nil_of_length_eq_zero h]
  rw [WK trivial]
  simp [qj]
 |n + 1,ks,st,h=>by
  cases ks with
  |nil=>cases h
  |cons k ks =>
   have ih:=Y4 (fi:=fi) h1 h2 n ks (st++[.l ((List.replicate L.toNat (0:Int)).map PV.int)]) (by simpa using h)
   have:=zC (Gd:=fun _=>True) (k:=QJ ⟨fi,Qe 1,[]⟩ (QZ [] (vMk (Y0 (Qn (qA (vC (.int 0)) qD)) (qB 0)))) [some (.int L),none]) (p:=k) (l:=[.ref st.length]) (st:=st) trivial (YH (r':=[some (.int L),some k]) rfl (qGG (l:=(List.replicate L.toNat (0:Int)).map PV.int) (s1:=st) (by
    rw [← qDH (by omega)]
    exact qHS (l:=[.int 0]) rfl rfl (by omega) (by show 1 * L.toNat≤_;exact Wd (by omega)) (by omega)))) ih
   rw [this]
   congr 1
   ·rw [List.range_succ_eq_map,List.map_cons,List.map_map,List.length_append,List.length_singleton]
    show _::_=_::_
    congr 1
    exact List.map_congr_left fun i _=>by show PV.ref (st.length + 1 + i)=PV.ref (st.length + (i + 1));rw [Nat.add_assoc,Nat.add_comm 1 i]
   ·rw [List.append_assoc,List.replicate_succ];rfl
theorem jO {a:Ad} {F:List qZ} {L:Int} {st:qC} (h1:2≤L) (h2:L≤5):zZ a [.tup (F.map cP),.int L] st = .ok (.ref (st.length + L.toNat)) (st++qj (Qf L F)++[.l (qy st.length L)]):=by
 obtain ⟨y3,y4,e⟩:=yf (st:=st) (L:=L) (v0 := .tup (F.map cP)) (by omega) F (zG L) none none (Zx L)
 rw [qB7 (by omega)] at e
 have hm:=Y4 (L:=L) (fi:=QH (qA (qB 1) qD)) h1 h2 L.toNat ((qw L).map PV.int) st (by rw [List.length_map,Qd])
 have hc:qg [1] 1 (QH (qA (qB 1) qD)) (Qe 1) [] [] (vMk (Y0 (Qn (qA (vC (.int 0)) qD)) (qB 0))) (Qh 5 [.tup (F.map cP),.int L]) st = .ok (qy st.length L) (st++qj (zG L)) :=
  YN (itN (by omega) (by omega) rfl) hm (by unfold qy;rw [List.length_map,List.length_range];exact Wd (by omega))
 have hl:(st++qj (zG L)).length=st.length + L.toNat:=by rw [List.length_append];unfold qj zG;simp
 have hset:=Z8 (i:=2) hc
 rw [hl] at hset
 exact Qv rfl (qY (qB6 (qO rfl (qDQ h1 h2))) (qY hset (qY (WI (Ze rfl) e) (wC rfl))))
def LkL (st:qC) (p:PV) (l:List PV):Prop:=p = .lst l ∨ ∃ n,p = .ref n∧st[n]? = some (.l l)
theorem LkL.sq {st:qC} {p:PV} {l:List PV} (h:LkL st p l):wY st p=some l:=by
 rcases h with rfl |⟨n,rfl,h⟩
 ·rfl
 ·exact zL h
theorem LkL.isi {a:Ad} {st:qC} {p:PV} {l:List PV} (h:LkL st p l):Qa (kit a) [p,.tup [.ty "tuple",.ty "list"]] st = .ok (.bl true) st∧Qa (kit a) [p,.ty "tuple"] st = .ok (.bl false) st∧Qa (kit a) [p,.ty "list"] st = .ok (.bl true) st:=by
 rcases h with rfl |⟨n,rfl,h⟩
 ·exact ⟨rfl,rfl,rfl⟩
 ·have e:=qCX h
  refine ⟨?_,?_,?_⟩
  ·show (if lk st (.ref n)=true then Rs.ok (PV.bl true) st else .no)=_
   rw [if_pos e]
  ·show (if lk st (.ref n)=true then Rs.ok (PV.bl false) st else .no)=_
   rw [if_pos e]
  ·show (if lk st (.ref n)=true then Rs.ok (PV.bl true) st else .no)=_
   rw [if_pos e]
theorem Zs {a:Ad} {st:qC} {n:Nat} {i:Int}:qW (n + 1) a [.int i,.int i] st = .ok (.bl true) st:=by
 refine Qv (N:=2) (B:=QU a (qW n a)) rfl ?_
 unfold QU
 refine qY (Q3 (WP (qO (l:=[.int i,.tup [.ty "tuple",.ty "list"]]) rfl rfl)) rfl) (wC ?_)
 unfold Ym
 rw [qV (p := .int i) (q := .int i) (s1:=st) (s2:=st) (R := .ok (.bl true) st) rfl rfl (by rw [w4,beq_self_eq_true])]
 rfl
theorem qDI {f:PV->Bool} {l:List PV} {st:qC}:jk [.lst (l.map fun p => .bl (f p))] st = .ok (.bl (l.all f)) st:=by
 unfold jk Yy
 simp only [asL]
 rw [Y9]
 show Rs.ok (PV.bl ((l.map f).all id)) st=_
 rw [List.all_map]
 rfl
theorem Yg:∀ {l m:List PV},l.length=m.length->(WA l m).length=l.length
 |[],[],_=>rfl
 |[],_::_,h=>by cases h
 |_::_,[],h=>by cases h
 |p::l,q::m,h=>by rw [WA,List.length_cons,List.length_cons,Yg (by simpa using h)]
theorem qCr {a:Ad} {st:qC} {n:Nat} {p q:PV} {l m:List PV} (hp:LkL st p l) (hq:LkL st q m) (hlm:l.length=m.length) (hl:l.length≤1000) (h:∀ z∈WA l m,∃ u v,z = .tup [u,v]∧qW (n + 1) a [u,v] st = .ok (.bl true) st):qW (n + 2) a [p,q] st = .ok (.bl true) st:=by
 refine Qv (N:=2) (B:=QU a (qW (n + 1) a)) rfl ?_
 unfold QU
 obtain ⟨p1,p2,p3⟩:=hp.isi (a:=a)
 obtain ⟨q1,q2,q3⟩:=hq.isi (a:=a)
 refine wf (wo (WP (qO (l:=[q,.tup [.ty "tuple",.ty "list"]]) rfl q1)) (qY (Q3 (Zt (wJ (qV (qO (l:=[p,.ty "tuple"]) rfl p2) (qO (l:=[q,.ty "tuple"]) rfl q2) rfl)) (wJ (qV (qO (l:=[p,.ty "list"]) rfl p3) (qO (l:=[q,.ty "list"]) rfl q3) rfl))) rfl) (wC ?_)))
 unfold Ym
 rw [qV (p := .int (l.length:Int)) (q := .int (l.length:Int)) (s1:=st) (s2:=st) (R := .ok (.bl true) st) (qO (l:=[p]) rfl (zh hp.sq rfl)) (qO (l:=[q]) rfl (zh hq.sq (by rw [hlm]))) (by rw [w4,beq_self_eq_true])]
 show qI jk _ _ _=_
 refine qO (l:=[.lst ((WA l m).map fun p => .bl ((fun _=>true) p))]) (qT (ZD (wT (w:=⟨WA l m,fun s=>wY s p=some l∧wY s q=some m⟩) (F:=fun _ => .bl true) ?_ ⟨hp.sq,hq.sq⟩ (by show (WA l m).length≤_;rw [Yg hlm];exact Nat.le_trans hl (by decide)) fun z hz => ?_)) QB) ?_
 ·show YX [p,q] st=_
  unfold YX
  dsimp only
  rw [hp.sq,hq.sq]
 ·obtain ⟨u,v,rfl,e⟩:=h z hz
  exact ⟨[some u,some v],rfl,qO (l:=[u,v]) rfl e⟩
 ·rw [qDI]
  congr 2
  rw [List.all_eq_true];intro p _;rfl
theorem Yr:∀ ns:List Int,WA (ns.map PV.int) (ns.map PV.int)=ns.map fun i=>PV.tup [.int i,.int i]
 |[]=>rfl
 |i::ns=>by rw [List.map_cons,WA,Yr ns];rfl
theorem yt {a:Ad} {st:qC} {n:Nat} {p q:PV} {ns:List Int} (hp:LkL st p (ns.map PV.int)) (hq:LkL st q (ns.map PV.int)) (hl:ns.length≤1000):qW (n + 2) a [p,q] st = .ok (.bl true) st :=
 qCr hp hq rfl (by rw [List.length_map];exact hl) fun z hz=>by
  rw [Yr] at hz
  obtain ⟨i,_,rfl⟩:=List.mem_map.mp hz
  exact ⟨_,_,rfl,Zs⟩
def qB3 (st:qC) (n:Nat) (R:List (List Int)):Prop := ∀ (i:Nat) (r:List Int),R[i]? = some r->st[n + i]? = some (.l (r.map PV.int))
noncomputable def qD9:FE:=(qI WJ (qA (vFz (qg [3,5,1] 1 (QR (qB 0)) (Qe 3) [(Ws (vTB (qG gEq (qG WG (qG gIx (qB 3) (vC (.int 0))) (qB 2)) (qB 0))) (vTB (qG gEq (qG WG (qG gIx (qB 3) (vC (.int 1))) (qB 2)) (qB 1))))] [] (qB 3))) qD))
theorem qFq {t u:FT} {r:qu} {st:qC} {b c:Bool} (h:t r st = .ok b st) (h2:u r st = .ok c st):Ws t u r st = .ok (b&&c) st:=by
 cases b with
 |true=>exact YC h h2
 |false=>exact J3 h
theorem qFo {F:List qZ} {L i k:Int} {st:qC} {x2 x4:Option PV} (hL:0 < L) (hF:F.length≤40):qD9 [some (.tup (F.map cP)),some (.int L),x2,some (.int i),x4,some (.int k)] st = .ok (.int (rs L i k F)) st:=by
 unfold qD9
 have e:=zc (caps:=[3,5,1]) (n:=1) (fi:=QR (qB 0)) (g:=Qe 3) (t:=Ws (vTB (qG gEq (qG WG (qG gIx (qB 3) (vC (.int 0))) (qB 2)) (qB 0))) (vTB (qG gEq (qG WG (qG gIx (qB 3) (vC (.int 1))) (qB 2)) (qB 1)))) (f:=qB 3) (r:=[some (.tup (F.map cP)),some (.int L),x2,some (.int i),x4,some (.int k)]) (st:=st) (w:=⟨F.map cP,fun _=>True⟩) (c:=fun p=>((unC p).1 % L==i)&&((unC p).2 % L==k)) (Ze rfl) trivial (by rw [List.length_map];exact Wd (by omega)) fun p hp=>by
  obtain ⟨c,_,rfl⟩:=List.mem_map.mp hp
  exact ⟨[some (.int i),some (.int k),some (.int L),some (cP c)],rfl,qFq (wJ (qV (qV (qV rfl rfl rfl) rfl (Jy hL)) rfl w4)) (wJ (qV (qV (qV rfl rfl rfl) rfl (Jy hL)) rfl w4)),rfl⟩
 rw [Y8 (d:=fun c=>decide (c.1 % L=i)&&decide (c.2 % L=k)) fun x _=>rfl] at e
 refine qO (qT (ZD e) QB) (zh rfl ?_)
 rw [List.length_map];rfl
noncomputable def Jo:FS:=(wQ (qB 4) qD9)
theorem qAU {F:List qZ} {L i:Int} {n2:PV} {st:qC} (hL:0 < L) (hF:F.length≤40):∀ (ks:List Int) (t:List Int) (x5:Option PV),t.length + ks.length≤10 -> ∃ y5,QM (fun _=>True) (QD 5) Jo (ks.map PV.int) [some (.tup (F.map cP)),some (.int L),some n2,some (.int i),some (.ref st.length),x5] (st++[.l (t.map PV.int)]) = .nx [some (.tup (F.map cP)),some (.int L),some n2,some (.int i),some (.ref st.length),y5] (st++[.l ((t++ks.map fun k=>rs L i k F).map PV.int)])
 |[],t,x5,_=>⟨x5,by rw [List.map_nil,List.map_nil,List.append_nil];exact QK trivial⟩
 |k::ks,t,x5,h=>by
  rw [List.length_cons] at h
  obtain ⟨y5,e⟩:=qAU (F:=F) (L:=L) (i:=i) (n2:=n2) (st:=st) hL hF ks (t++[rs L i k F]) (some (.int k)) (by rw [List.length_append,List.length_singleton];omega)
  have hs:(st++[SO.l (t.map PV.int)])[st.length]? = some (.l (t.map PV.int)):=by simp
  have ha:=yF (fo:=qB 4) (f:=qD9) (r:=[some (.tup (F.map cP)),some (.int L),some n2,some (.int i),some (.ref st.length),some (.int k)]) (st:=st++[.l (t.map PV.int)]) (n:=st.length) rfl (qCX hs) (qFo hL hF) hs (by rw [List.length_map];exact Nat.lt_of_le_of_lt (show t.length≤10 by omega) (by decide))
  refine ⟨y5,WB (r1:=[some (.tup (F.map cP)),some (.int L),some n2,some (.int i),some (.ref st.length),some (.int k)]) trivial rfl (r':=[some (.tup (F.map cP)),some (.int L),some n2,some (.int i),some (.ref st.length),some (.int k)]) (s2:=st++[.l ((t++[rs L i k F]).map PV.int)]) ?_ ?_⟩
  ·unfold Jo
   rw [ha,List.set_append_right _ _ (Nat.le_refl _),Nat.sub_self,List.map_append];rfl
  ·rw [List.append_assoc] at e;exact e
noncomputable def qAm:FS:=(qP (wa 4 (Qn qD)) (qP (wG (QH (qA (qB 1) qD)) (QD 5) Jo) (wQ (qB 2) (qB 4))))
theorem ja {F:List qZ} {L:Int} {st:qC} (hL1:2≤L) (hL2:L≤5) (hF:F.length≤40):∀ (is:List Int) (rows:List (List Int)) (x3 x4 x5:Option PV),rows.length + is.length≤10 -> ∃ y3 y4 y5,QM (fun _=>True) (QD 3) qAm (is.map PV.int) [some (.tup (F.map cP)),some (.int L),some (.ref st.length),x3,x4,x5] (st ++ .l ((List.range rows.length).map fun i=>PV.ref (st.length + 1 + i))::qj rows) = .nx [some (.tup (F.map cP)),some (.int L),some (.ref st.length),y3,y4,y5] (st ++ .l ((List.range (rows.length + is.length)).map fun i=>PV.ref (st.length + 1 + i))::qj (rows++is.map fun i=>(qw L).map fun k=>rs L i k F))
 |[],rows,x3,x4,x5,_=>⟨x3,x4,x5,by rw [List.map_nil,List.map_nil,List.append_nil];exact QK trivial⟩
 |i::is,rows,x3,x4,x5,h=>by
  rw [List.length_cons] at h
  generalize hT:st++SO.l ((List.range rows.length).map fun i=>PV.ref (st.length + 1 + i))::qj rows=T
  have hTl:T.length=st.length + 1 + rows.length:=by rw [← hT];unfold qj;simp;omega
  obtain ⟨z5,e1⟩:=qAU (F:=F) (L:=L) (i:=i) (n2 := .ref st.length) (st:=T) (by omega) hF (qw L) [] x5 (by rw [List.length_nil,Qd];omega)
  rw [List.nil_append] at e1
  obtain ⟨y3,y4,y5,e2⟩:=ja (F:=F) (L:=L) (st:=st) hL1 hL2 hF is (rows++[(qw L).map fun k=>rs L i k F]) (some (.int i)) (some (.ref T.length)) z5 (by rw [List.length_append,List.length_singleton];omega)
  have hs:(T++[SO.l (((qw L).map fun k=>rs L i k F).map PV.int)])[st.length]? = some (.l ((List.range rows.length).map fun i=>PV.ref (st.length + 1 + i))):=by
   rw [List.getElem?_append_left (by omega),← hT,List.getElem?_append_right (Nat.le_refl _),Nat.sub_self];rfl
  have ha:=yF (fo:=qB 2) (f:=qB 4) (r:=[some (.tup (F.map cP)),some (.int L),some (.ref st.length),some (.int i),some (.ref T.length),z5]) (st:=T++[SO.l (((qw L).map fun k=>rs L i k F).map PV.int)]) (n:=st.length) rfl (qCX hs) rfl hs (by rw [List.length_map,List.length_range];exact Nat.lt_of_le_of_lt (show rows.length≤10 by omega) (by decide))
  refine ⟨y3,y4,y5,WB (r1:=[some (.tup (F.map cP)),some (.int L),some (.ref st.length),some (.int i),x4,x5]) trivial rfl (r':=[some (.tup (F.map cP)),some (.int L),some (.ref st.length),some (.int i),some (.ref T.length),z5]) (s2:=st ++ .l ((List.range (rows++[(qw L).map fun k=>rs L i k F]).length).map fun i=>PV.ref (st.length + 1 + i))::qj (rows++[(qw L).map fun k=>rs L i k F])) ?_ ?_⟩
  ·unfold qAm
   refine qY (Z8 (l:=[]) (s1:=T) rfl) (qY (WI (itN (by omega) (by omega) rfl) e1) ?_)
   rw [ha]
   congr 1
   rw [hTl,List.set_append_left _ _ (by omega),← hT,List.set_append_right _ _ (Nat.le_refl _),Nat.sub_self,List.set_cons_zero,List.append_assoc,show (rows++[(qw L).map fun k=>rs L i k F]).length=rows.length + 1 by simp,List.range_succ,List.map_append,show qj (rows++[(qw L).map fun k=>rs L i k F])=qj rows++[SO.l (((qw L).map fun k=>rs L i k F).map PV.int)] by unfold qj;rw [List.map_append];rfl]
   rfl
  ·rw [List.append_assoc,List.length_append,List.length_singleton,Nat.add_assoc,Nat.add_comm 1] at e2
   rw [List.length_append,List.length_singleton]
   exact e2
theorem qAx {a:Ad} {F:List qZ} {L:Int} {st:qC} (hL1:2≤L) (hL2:L≤5) (hF:F.length≤40):WM a [.tup (F.map cP),.int L] st = .ok (.ref st.length) (st ++ .l (qy (st.length + 1) L)::qj (Qf L F)):=by
 obtain ⟨y3,y4,y5,e⟩:=ja (F:=F) (L:=L) (st:=st) hL1 hL2 hF (qw L) [] none none none (by rw [List.length_nil,Qd];omega)
 rw [List.length_nil,Nat.zero_add,Qd,List.nil_append] at e
 exact Qv rfl (qY (Z8 (l:=[]) (s1:=st) rfl) (qY (WI (itN (by omega) (by omega) rfl) e) (wC rfl)))
theorem jM {tbl:List (Addr×(List PV->qC->Rs PV))} {ff:FE} {t:FA} {r:qu} {st s1 s2:qC} {x:Addr} {g:List PV->qC->Rs PV} {l:List PV} {R:Rs PV} (h:ff r st = .ok (.fn x) s1) (hl:tbl.lookup x=some g) (h2:t r s1 = .ok l s2) (h3:g l s2=R):Zz tbl ff t r st=R:=by
 unfold Zz;rw [h];show (match tbl.lookup x with |some g=>(t r s1).bind g |none => .no)=_;rw [hl,h2];exact h3
theorem qAW {A B:qC} {R:List (List Int)} {n:Nat} (h:A.length=n):qB3 (A++qj R++B) n R:=fun i r hr=>by
 have hi:=(List.getElem?_eq_some_iff.mp hr).1
 have hl:(qj R).length=R.length:=by unfold qj;rw [List.length_map]
 rw [List.getElem?_append_left (by rw [List.length_append,hl];omega),List.getElem?_append_right (by omega),show n + i - A.length=i by omega]
 unfold qj
 rw [List.getElem?_map,hr];rfl
theorem qFf {S:qC} {m n:Nat} {L:Int} {i:Nat} (h:S[m]? = some (.l (qy n L))) (hi:i < L.toNat):gIx (.ref m) (.int (i:Int)) S = .ok (.ref (n + i)) S:=by
 refine qDZ (zL h) ?_
 unfold L2.atI
 have hrf:(qy n L).length=L.toNat:=by unfold qy;simp
 rw [hrf,ZV (by omega) (by omega)]
 show (qy n L)[((i:Int)).toNat]? = _
 rw [Int.toNat_natCast]
 unfold qy
 rw [List.getElem?_map,List.getElem?_range hi];rfl
theorem jK {st G:qC} {b o:SO} {n:Nat} (h:st.length < n):∃ G',(st++b::G).set n o=st++b::G':=by
 obtain ⟨i,rfl⟩:∃ i,n=st.length + 1 + i:=⟨n - st.length - 1,by omega⟩
 refine ⟨G.set i o,?_⟩
 rw [List.set_append_right _ _ (by omega),show st.length + 1 + i - st.length=i + 1 by omega,List.set_cons_succ]
def rc (R:List (List Int)) (i k:Int):Int:=(R.getD i.toNat []).getD k.toNat 0
def bad (R:List (List Int)) (i k:Int):Bool := !(rc R i k + rc R 0 0==rc R i 0 + rc R 0 k)
def apF (L:Int) (R:List (List Int)):List Int->Option (Int×Int)
 |[]=>none
 |i::is=>match (qw L).find? (bad R i) with
  |some k=>some (i,k)
  |none=>apF L R is
def apP:Option (Int×Int)->PV
 |some c=>cP c
 |none => .non
structure Tb (S:qC) (m n:Nat) (L:Int) (R:List (List Int)):Prop where
 top:S[m]? = some (.l (qy n L))
 rows:qB3 S n R
 sq:Sq L R
theorem qBs {S:qC} {m n:Nat} {L:Int} {R:List (List Int)} (T:Tb S m n L R) {i:Int} (h0:0≤i) (h1:i < L):gIx (.ref m) (.int i) S = .ok (.ref (n + i.toNat)) S:=by
 have:=qFf (i:=i.toNat) T.top (by omega)
 rw [show ((i.toNat:Nat):Int)=i by omega] at this
 exact this
theorem JY {S:qC} {m n:Nat} {L:Int} {R:List (List Int)} (T:Tb S m n L R) {i:Int} (h0:0≤i) (h1:i < L):S[n + i.toNat]? = some (.l ((R.getD i.toNat []).map PV.int)):=by
 have hi:i.toNat < R.length:=by rw [T.sq.1];omega
 have:=T.rows i.toNat _ (List.getElem?_eq_getElem hi)
 rw [this,List.getD_eq_getElem?_getD,List.getElem?_eq_getElem hi];rfl
theorem wt {S:qC} {m n:Nat} {L:Int} {R:List (List Int)} (T:Tb S m n L R) {i k:Int} {r:qu} {f fi fk:FE} (hf:f r S = .ok (.ref m) S) (hi:fi r S = .ok (.int i) S) (hk:fk r S = .ok (.int k) S) (h0:0≤i) (h1:i < L) (h2:0≤k) (h3:k < L):qG gIx (qG gIx f fi) fk r S = .ok (.int (rc R i k)) S:=by
 refine qV (qV hf hi (qBs T h0 h1)) hk (qDZ (zL (JY T h0 h1)) ?_)
 exact YY (L:=L) (T.sq.row (by omega)) h2 h3
theorem qCf {i j:Int} {st:qC}:gNe (.int i) (.int j) st = .ok (.bl (!(i==j))) st:=rfl
noncomputable def qHd:FS:=(qP (qX 5 (qG qz (qG gIx (qG gIx (qB 2) (qB 3)) (vC (.int 0))) (qG gIx (qG gIx (qB 2) (vC (.int 0))) (qB 4)))) (Qz (vTB (qG gNe (qG qz (qG gIx (qG gIx (qB 2) (qB 3)) (qB 4)) (qG gIx (qG gIx (qB 2) (vC (.int 0))) (vC (.int 0)))) (qB 5))) (qq (WC (qA (qB 3) (qA (qB 4) qD)))) Qg))
theorem qE7 {S:qC} {m n:Nat} {L:Int} {R:List (List Int)} (T:Tb S m n L R) {v0:PV} {i:Int} (h0:0≤i) (h1:i < L):∀ (ks:List Int) (x4 x5:Option PV),(∀ k∈ks,0≤k∧k < L) -> ∃ y4 y5,QM (fun _=>True) (QD 4) qHd (ks.map PV.int) [some v0,some (.int L),some (.ref m),some (.int i),x4,x5] S=match ks.find? (bad R i) with |some k => .rt (cP (i,k)) S |none => .nx [some v0,some (.int L),some (.ref m),some (.int i),y4,y5] S
 |[],x4,x5,_=>⟨x4,x5,QK trivial⟩
 |k::ks,x4,x5,h=>by
  have hk:=h k List.mem_cons_self
  obtain ⟨y4,y5,e⟩:=qE7 T (v0:=v0) h0 h1 ks (some (.int k)) (some (.int (rc R i 0 + rc R 0 k))) fun q hq=>h q (List.mem_cons_of_mem _ hq)
  refine ⟨y4,y5,?_⟩
  rw [List.find?_cons]
  have e1:qG qz (qG gIx (qG gIx (qB 2) (qB 3)) (vC (.int 0))) (qG gIx (qG gIx (qB 2) (vC (.int 0))) (qB 4)) [some v0,some (.int L),some (.ref m),some (.int i),some (.int k),x5] S = .ok (.int (rc R i 0 + rc R 0 k)) S :=
   qV (wt T rfl rfl rfl h0 h1 (by omega) (by omega)) (wt T rfl rfl rfl (by omega) (by omega) hk.1 hk.2) W6
  have e2:vTB (qG gNe (qG qz (qG gIx (qG gIx (qB 2) (qB 3)) (qB 4)) (qG gIx (qG gIx (qB 2) (vC (.int 0))) (vC (.int 0)))) (qB 5)) [some v0,some (.int L),some (.ref m),some (.int i),some (.int k),some (.int (rc R i 0 + rc R 0 k))] S = .ok (bad R i k) S :=
   wJ (qV (qV (wt T rfl rfl rfl h0 h1 hk.1 hk.2) (wt T rfl rfl rfl (by omega) (by omega) (by omega) (by omega)) W6) rfl qCf)
  cases hb:bad R i k with
  |true =>
   rw [hb] at e2
   exact zD (r1:=[some v0,some (.int L),some (.ref m),some (.int i),some (.int k),x5]) trivial rfl (qY (Qx e1) (wo e2 (wC (ZE (qT rfl (qT rfl QB)) (sz rfl)))))
  |false =>
   rw [hb] at e2
   exact WB (r1:=[some v0,some (.int L),some (.ref m),some (.int i),some (.int k),x5]) trivial rfl (qY (Qx e1) (Q3 e2 rfl)) e
noncomputable def qG6:FS:=(wG (QH (qA (qB 1) qD)) (QD 4) qHd)
theorem qBx {S:qC} {m n:Nat} {L:Int} {R:List (List Int)} (T:Tb S m n L R) {v0:PV} (hL:0 < L) (h5:L≤5):∀ (is:List Int) (x3 x4 x5:Option PV),(∀ k∈is,0≤k∧k < L) -> ∃ y3 y4 y5,QM (fun _=>True) (QD 3) qG6 (is.map PV.int) [some v0,some (.int L),some (.ref m),x3,x4,x5] S=match apF L R is with |some c => .rt (cP c) S |none => .nx [some v0,some (.int L),some (.ref m),y3,y4,y5] S
 |[],x3,x4,x5,_=>⟨x3,x4,x5,QK trivial⟩
 |i::is,x3,x4,x5,h=>by
  have hi:=h i List.mem_cons_self
  obtain ⟨z4,z5,e1⟩:=qE7 T (v0:=v0) hi.1 hi.2 (qw L) x4 x5 fun k hk=>upto_mem.mp hk
  obtain ⟨y3,y4,y5,e⟩:=qBx T (v0:=v0) hL h5 is (some (.int i)) z4 z5 fun q hq=>h q (List.mem_cons_of_mem _ hq)
  refine ⟨y3,y4,y5,?_⟩
  unfold apF
  cases hf:(qw L).find? (bad R i) with
  |some k =>
   rw [hf] at e1
   exact zD (r1:=[some v0,some (.int L),some (.ref m),some (.int i),x4,x5]) trivial rfl (WI (itN (by omega) (by omega) rfl) e1)
  |none =>
   rw [hf] at e1
   exact WB (r1:=[some v0,some (.int L),some (.ref m),some (.int i),x4,x5]) trivial rfl (WI (itN (by omega) (by omega) rfl) e1) e
def rsS (st:qC) (L:Int) (F:List qZ):qC:=st++qj (Qf L F)++[.l (qy st.length L)]
theorem qCe {st:qC} {L:Int} {F:List qZ} (h5:0≤L):Tb (rsS st L F) (st.length + L.toNat) st.length L (Qf L F):=by
 have hrl:(qj (Qf L F)).length=L.toNat:=by unfold qj;rw [List.length_map];exact (zr L F).1
 refine ⟨?_,qAW rfl,zr L F⟩
 unfold rsS
 rw [List.getElem?_append_right (by rw [List.length_append,hrl];exact Nat.le_refl _),List.length_append,hrl,Nat.sub_self];rfl
theorem YR {st:qC} {L:Int} {F:List qZ}:(rsS st L F).length=st.length + L.toNat + 1:=by
 have hrl:(qj (Qf L F)).length=L.toNat:=by unfold qj;rw [List.length_map];exact (zr L F).1
 unfold rsS;rw [List.length_append,List.length_append,hrl];rfl
def apr (L:Int) (F:List qZ):Option (Int×Int):=apF L (Qf L F) (qw L)
theorem yA {a:Ad} {F:List qZ} {L:Int} {st:qC} (h1:2≤L) (h2:L≤5):QY a [.tup (F.map cP),.int L] st = .ok (apP (apr L F)) (rsS st L F):=by
 obtain ⟨y3,y4,y5,e⟩:=qBx (qCe (st:=st) (F:=F) (show 0≤L by omega)) (v0 := .tup (F.map cP)) (by omega) h2 (qw L) none none none fun k hk=>upto_mem.mp hk
 refine Qv rfl (qY (Qx (qO rfl (jO h1 h2))) ?_)
 unfold apr
 cases hf:apF L (Qf L F) (qw L) with
 |some c=>rw [hf] at e;exact wf (WI (itN (by omega) (by omega) rfl) e)
 |none=>rw [hf] at e;exact qY (WI (itN (by omega) (by omega) rfl) e) (wC rfl)
theorem jp {a:Ad} {f v:PV} {st:qC} (hp:zg v=true) (hw:wn 2 5 v=false):QY a [f,v] st = .ex ⟨a.NoLength,[]⟩ st:=by
 refine zu rfl (Z2 ?_)
 unfold qX
 rw [Qw (l:=[f,v]) (st':=st) rfl,qBd hp hw];rfl
def hdF (L:Int) (R:List (List Int)):List Int:=(qw L).map fun i=>rc R i 0
def tlF (R:List (List Int)):List Int:=(R.getD 0 []).map fun x=>x - rc R 0 0
theorem yU {n:Nat} {L:Int}:qy n L=(qw L).map fun i=>PV.ref (n + i.toNat):=by
 unfold qy qw
 rw [List.map_map]
 exact List.map_congr_left fun i _=>by show PV.ref (n + i)=PV.ref (n + ((i:Int)).toNat);rw [Int.toNat_natCast]
theorem qAG {S:qC} {m n:Nat} {L:Int} {R:List (List Int)} (T:Tb S m n L R) (hL:0 < L) (h5:L≤5) {r:qu} {f:FE} (hf:f r S = .ok (.ref m) S):qg [] 1 (QR f) (Qe 0) [] [] (qG gIx (qB 0) (vC (.int 0))) r S = .ok ((hdF L R).map PV.int) S:=by
 let G:PV->PV:=fun p=>match p with | .ref q => .int (rc R ((q - n:Nat):Int) 0) |_ => .non
 have e:(hdF L R).map PV.int=(qy n L).map G:=by
  rw [yU,List.map_map]
  unfold hdF
  rw [List.map_map]
  refine List.map_congr_left fun i hi => ?_
  have:=upto_mem.mp hi
  show PV.int (rc R i 0)=PV.int (rc R ((n + i.toNat - n:Nat):Int) 0)
  rw [show ((n + i.toNat - n:Nat):Int)=i by omega]
 rw [e]
 refine wT (F:=G) (Zi hf T.top) T.top (by show (qy n L).length≤_;unfold qy;rw [List.length_map,List.length_range];exact Wd (by omega)) fun p hp => ?_
 have hp:p∈qy n L:=hp
 rw [yU] at hp
 obtain ⟨i,hi,rfl⟩:=List.mem_map.mp hp
 have hi:=upto_mem.mp hi
 refine ⟨[some (.ref (n + i.toNat))],rfl,qV rfl rfl ?_⟩
 refine (qDZ (zL (JY T hi.1 hi.2)) (YY (L:=L) (T.sq.row (by omega)) (Int.le_refl 0) hL)).trans ?_
 show Rs.ok (PV.int (rc R i 0)) S=Rs.ok (PV.int (rc R ((n + i.toNat - n:Nat):Int) 0)) S
 rw [show ((n + i.toNat - n:Nat):Int)=i by omega]
theorem qAL {S:qC} {m n:Nat} {L:Int} {R:List (List Int)} (T:Tb S m n L R) (hL:0 < L) (h5:L≤5) {j:Nat} {r:qu} (hr:r[j]? = some (some (.ref m))):qg [j] 1 (QR (qG gIx (qB j) (vC (.int 0)))) (Qe 1) [] [] (qG zW (qB 1) (qG gIx (qG gIx (qB 0) (vC (.int 0))) (vC (.int 0)))) r S = .ok ((tlF R).map PV.int) S:=by
 have h0:=JY T (Int.le_refl 0) hL
 have e1:qG gIx (qB j) (vC (.int 0)) r S = .ok (.ref (n + 0)) S:=qV (qEz hr) rfl (qBs T (Int.le_refl 0) hL)
 let G:PV->PV:=fun p=>match p with | .int x => .int (x - rc R 0 0) |_ => .non
 have e:(tlF R).map PV.int=((R.getD 0 []).map PV.int).map G:=by unfold tlF;rw [List.map_map,List.map_map];rfl
 rw [e]
 have hcap:Wf [j] 1 r=[some (.ref m),none]:=by
  unfold Wf
  simp [hr]
 refine wT (F:=G) (Zi e1 h0) h0 (by show ((R.getD 0 []).map PV.int).length≤_;rw [List.length_map,T.sq.row (show 0 < L.toNat by omega)];exact Wd (by omega)) fun p hp => ?_
 obtain ⟨x,_,rfl⟩:=List.mem_map.mp (show p∈(R.getD 0 []).map PV.int from hp)
 refine ⟨[some (.ref m),some (.int x)],by rw [hcap];rfl,?_⟩
 exact qV rfl (wt T rfl rfl rfl (Int.le_refl 0) hL (Int.le_refl 0) hL) qGl
def smS (st:qC) (L:Int) (F:List qZ):qC:=rsS (rsS st L F) L F++[.l ((hdF L (Qf L F)).map PV.int)]++[.l ((tlF (Qf L F)).map PV.int)]
theorem qHj {S X:qC} {m n:Nat} {L:Int} {R:List (List Int)} (T:Tb S m n L R):Tb (S++X) m n L R:=by
 have up:∀ (k:Nat) (o:SO),S[k]? = some o->(S++X)[k]? = some o:=fun k o h=>by rw [List.getElem?_append_left (List.getElem?_eq_some_iff.mp h).1];exact h
 exact ⟨up _ _ T.top,fun i r hr=>up _ _ (T.rows i r hr),T.sq⟩
theorem qEW {a:Ad} {F:List qZ} {L:Int} {st:qC} (h1:2≤L) (h2:L≤5):wz a [.tup (F.map cP),.int L] st=match apr L F with
  |some _ => .ok .non (rsS st L F)
  |none => .ok (.tup [.ref ((rsS st L F).length + L.toNat + 1),.ref ((rsS st L F).length + L.toNat + 1 + 1)]) (smS st L F):=by
 have ea:=yA (a:=a) (F:=F) (L:=L) (st:=st) h1 h2
 cases hf:apr L F with
 |some c =>
  rw [hf] at ea
  exact Qv rfl (wf (wo (wJ (qV (p:=cP c) (q := .non) (qO rfl ea) rfl rfl)) (wC rfl)))
 |none =>
  rw [hf] at ea
  have T:=qCe (st:=rsS st L F) (F:=F) (L:=L) (by omega)
  have hl:(rsS (rsS st L F) L F).length=(rsS st L F).length + L.toNat + 1:=YR
  refine Qv rfl (qY (Q3 (wJ (qV (p := .non) (q := .non) (qO rfl ea) rfl rfl)) rfl) (qY (Qx (qO rfl (jO h1 h2))) (wC (ZE ?_ (sz rfl)))))
  refine qT (s1:=rsS (rsS st L F) L F++[.l ((hdF L (Qf L F)).map PV.int)]) ?_ (qT ?_ QB)
  ·have:=qGG (qAG T (by omega) h2 (r:=[some (.tup (F.map cP)),some (.int L),some (.ref ((rsS st L F).length + L.toNat))]) (f:=qB 2) rfl)
   rw [hl] at this
   exact this
  ·have:=qGG (qAL (qHj (X:=[.l ((hdF L (Qf L F)).map PV.int)]) T) (by omega) h2 (j:=2) (r:=[some (.tup (F.map cP)),some (.int L),some (.ref ((rsS st L F).length + L.toNat))]) rfl)
   rw [List.length_append,hl] at this
   exact this
theorem qDa {a:Ad} {f v:PV} {st:qC} (hp:zg v=true) (hw:wn 2 5 v=false):wz a [f,v] st = .ex ⟨a.NoLength,[]⟩ st:=by
 refine zu rfl (Z2 ?_)
 unfold Qz vTB qG
 rw [Qw (l:=[f,v]) (st':=st) rfl,jp hp hw];rfl
noncomputable def qHn:FS:=(qP (qX 3 (qG qz (qG gIx (qG gIx (qB 0) (qB 1)) (qB 2)) (qG gIx (qG gIx (qB 0) (vC (.int 0))) (vC (.int 0))))) (Qz (vTB (qG gNe (qB 3) (qG qz (qG gIx (qG gIx (qB 0) (qB 1)) (vC (.int 0))) (qG gIx (qG gIx (qB 0) (vC (.int 0))) (qB 2))))) (qq (WC (qA (qB 1) (qA (qB 2) qD)))) Qg))
theorem qE2 {S:qC} {m n:Nat} {L:Int} {R:List (List Int)} (T:Tb S m n L R) {i:Int} (h0:0≤i) (h1:i < L):∀ (ks:List Int) (x2 x3:Option PV),(∀ k∈ks,0≤k∧k < L) -> ∃ y2 y3,QM (fun _=>True) (QD 2) qHn (ks.map PV.int) [some (.ref m),some (.int i),x2,x3] S=match ks.find? (bad R i) with |some k => .rt (cP (i,k)) S |none => .nx [some (.ref m),some (.int i),y2,y3] S
 |[],x2,x3,_=>⟨x2,x3,QK trivial⟩
 |k::ks,x2,x3,h=>by
  have hk:=h k List.mem_cons_self
  obtain ⟨y2,y3,e⟩:=qE2 T h0 h1 ks (some (.int k)) (some (.int (rc R i k + rc R 0 0))) fun q hq=>h q (List.mem_cons_of_mem _ hq)
  refine ⟨y2,y3,?_⟩
  rw [List.find?_cons]
  have e1:qG qz (qG gIx (qG gIx (qB 0) (qB 1)) (qB 2)) (qG gIx (qG gIx (qB 0) (vC (.int 0))) (vC (.int 0))) [some (.ref m),some (.int i),some (.int k),x3] S = .ok (.int (rc R i k + rc R 0 0)) S :=
   qV (wt T rfl rfl rfl h0 h1 hk.1 hk.2) (wt T rfl rfl rfl (by omega) (by omega) (by omega) (by omega)) W6
  have e2:vTB (qG gNe (qB 3) (qG qz (qG gIx (qG gIx (qB 0) (qB 1)) (vC (.int 0))) (qG gIx (qG gIx (qB 0) (vC (.int 0))) (qB 2)))) [some (.ref m),some (.int i),some (.int k),some (.int (rc R i k + rc R 0 0))] S = .ok (bad R i k) S :=
   wJ (qV rfl (qV (wt T rfl rfl rfl h0 h1 (by omega) (by omega)) (wt T rfl rfl rfl (by omega) (by omega) hk.1 hk.2) W6) qCf)
  cases hb:bad R i k with
  |true =>
   rw [hb] at e2
   exact zD (r1:=[some (.ref m),some (.int i),some (.int k),x3]) trivial rfl (qY (Qx e1) (wo e2 (wC (ZE (qT rfl (qT rfl QB)) (sz rfl)))))
  |false =>
   rw [hb] at e2
   exact WB (r1:=[some (.ref m),some (.int i),some (.int k),x3]) trivial rfl (qY (Qx e1) (Q3 e2 rfl)) e
theorem YZ {S:qC} {m n:Nat} {L:Int} {R:List (List Int)} (T:Tb S m n L R) (hL:0≤L) (h5:L≤5) {r:qu} (hr:r[0]? = some (some (.ref m))):QH (qA (qI WJ (qA (qB 0) qD)) qD) r S = .ok ⟨(qw L).map PV.int,fun _=>True⟩ S :=
 itN hL (by omega) (qT (qO (qT (qEz hr) QB) (zh (zL T.top) (by unfold qy;rw [List.length_map,List.length_range];omega))) QB)
noncomputable def qHV:FS:=(wG (QH (qA (qI WJ (qA (qB 0) qD)) qD)) (QD 2) qHn)
theorem qBf {S:qC} {m n:Nat} {L:Int} {R:List (List Int)} (T:Tb S m n L R) (hL:0 < L) (h5:L≤5):∀ (is:List Int) (x1 x2 x3:Option PV),(∀ k∈is,0≤k∧k < L) -> ∃ y1 y2 y3,QM (fun _=>True) (QD 1) qHV (is.map PV.int) [some (.ref m),x1,x2,x3] S=match apF L R is with |some c => .rt (cP c) S |none => .nx [some (.ref m),y1,y2,y3] S
 |[],x1,x2,x3,_=>⟨x1,x2,x3,QK trivial⟩
 |i::is,x1,x2,x3,h=>by
  have hi:=h i List.mem_cons_self
  obtain ⟨z2,z3,e1⟩:=qE2 T hi.1 hi.2 (qw L) x2 x3 fun k hk=>upto_mem.mp hk
  obtain ⟨y1,y2,y3,e⟩:=qBf T hL h5 is (some (.int i)) z2 z3 fun q hq=>h q (List.mem_cons_of_mem _ hq)
  refine ⟨y1,y2,y3,?_⟩
  unfold apF
  cases hf:(qw L).find? (bad R i) with
  |some k =>
   rw [hf] at e1
   exact zD (r1:=[some (.ref m),some (.int i),x2,x3]) trivial rfl (WI (YZ T (by omega) h5 rfl) e1)
  |none =>
   rw [hf] at e1
   exact WB (r1:=[some (.ref m),some (.int i),x2,x3]) trivial rfl (WI (YZ T (by omega) h5 rfl) e1) e
theorem qA6 {a:Ad} {S:qC} {m n:Nat} {L:Int} {R:List (List Int)} (T:Tb S m n L R) (hL:0 < L) (h5:L≤5):WQ a [.ref m] S = .ok (apP (apF L R (qw L))) S:=by
 obtain ⟨y1,y2,y3,e⟩:=qBf T hL h5 (qw L) none none none fun k hk=>upto_mem.mp hk
 refine Qv rfl ?_
 cases hf:apF L R (qw L) with
 |some c=>rw [hf] at e;exact wf (WI (YZ T (by omega) h5 rfl) e)
 |none=>rw [hf] at e;exact qY (WI (YZ T (by omega) h5 rfl) e) (wC rfl)
theorem jH {a:Ad} {st:qC} {n:Nat}:qW (n + 1) a [.non,.non] st = .ok (.bl true) st:=by
 refine Qv (N:=2) (B:=QU a (qW n a)) rfl ?_
 unfold QU
 refine qY (Q3 (WP (qO (l:=[.non,.tup [.ty "tuple",.ty "list"]]) rfl rfl)) rfl) (wC ?_)
 rfl
theorem yu {a:Ad} {st:qC} {n:Nat} {l m:List PV} (hlm:l.length=m.length) (hl:l.length≤1000) (h:∀ z∈WA l m,∃ u v,z = .tup [u,v]∧qW (n + 1) a [u,v] st = .ok (.bl true) st):qW (n + 2) a [.tup l,.tup m] st = .ok (.bl true) st:=by
 refine Qv (N:=2) (B:=QU a (qW (n + 1) a)) rfl ?_
 unfold QU
 refine wf (wo (WP (qO (l:=[.tup m,.tup [.ty "tuple",.ty "list"]]) rfl rfl)) (qY (Q3 (Zt (wJ (qV (qO (l:=[.tup l,.ty "tuple"]) rfl rfl) (qO (l:=[.tup m,.ty "tuple"]) rfl rfl) rfl)) (wJ (qV (qO (l:=[.tup l,.ty "list"]) rfl rfl) (qO (l:=[.tup m,.ty "list"]) rfl rfl) rfl))) rfl) (wC ?_)))
 unfold Ym
 rw [qV (p := .int (l.length:Int)) (q := .int (l.length:Int)) (s1:=st) (s2:=st) (R := .ok (.bl true) st) (qO (l:=[.tup l]) rfl (zh rfl rfl)) (qO (l:=[.tup m]) rfl (zh rfl (by rw [hlm]))) (by rw [w4,beq_self_eq_true])]
 show qI jk _ _ _=_
 refine qO (l:=[.lst ((WA l m).map fun p => .bl ((fun _=>true) p))]) (qT (ZD (wT (w:=⟨WA l m,fun s=>wY s (.tup l)=some l∧wY s (.tup m)=some m⟩) (F:=fun _ => .bl true) rfl ⟨rfl,rfl⟩ (by show (WA l m).length≤_;rw [Yg hlm];exact Nat.le_trans hl (by decide)) fun z hz => ?_)) QB) ?_
 ·obtain ⟨u,v,rfl,e⟩:=h z hz
  exact ⟨[some u,some v],rfl,qO (l:=[u,v]) rfl e⟩
 ·rw [qDI]
  congr 2
  rw [List.all_eq_true];intro p _;rfl
theorem qF9 {a:Ad} {st:qC} {n:Nat} {c:qZ}:qW (n + 2) a [cP c,cP c] st = .ok (.bl true) st :=
 yu rfl (show 2≤1000 by decide) fun z hz=>by
  rcases List.mem_cons.mp hz with rfl |hz
  ·exact ⟨_,_,rfl,Zs⟩
  ·rcases List.mem_cons.mp hz with rfl |hz
   ·exact ⟨_,_,rfl,Zs⟩
   ·cases hz
theorem qIG (a:Ad):(tbl a).lookup a.sums_of=some (wz a):=by unfold tbl;rw [List.lookup_cons,beq_self_eq_true]
theorem qIR {a:Ad} (hd:Dist a):(tbl a).lookup a.first_apart=some (QY a):=by
 unfold tbl
 rw [List.lookup_cons,show (a.first_apart==a.sums_of)=false from beq_eq_false_iff_ne.mpr (Ne.symm hd.2),List.lookup_cons,beq_self_eq_true]
noncomputable def qBF (a:Ad):FE:=Zz (tbl a) (qG gIx (vFz (Qn (qA (vC (.fn a.sums_of)) (qA (vC (.fn a.first_apart)) qD)))) (qB 0)) (qA (qB 1) (qA (qB 2) qD))
theorem qGh {a:Ad} {f L:PV} {st:qC} {R:Rs PV} (e:wz a [f,L] st=R):qBF a (Qh 4 [.int 0,f,L]) st=R:=jM (x:=a.sums_of) (l:=[f,L]) rfl (qIG a) rfl e
theorem qFv {a:Ad} (hd:Dist a) {f L:PV} {st:qC} {R:Rs PV} (e:QY a [f,L] st=R):qBF a (Qh 4 [.int 1,f,L]) st=R:=jM (x:=a.first_apart) (l:=[f,L]) rfl (qIR hd) rfl e
theorem ze {a:Ad} {w f L z:PV} {st s1:qC} (e:qBF a (Qh 4 [w,f,L]) st = .ok z s1):q9 a [w,f,L] st = .ok z s1:=by
 refine Qv rfl ?_
 unfold qBF at e
 unfold WO jD
 rw [wC e]
theorem jF {a:Ad} (hd:Dist a) {w f L:PV} {st:qC} (e:qBF a (Qh 4 [w,f,L]) st = .ex ⟨a.NoLength,[]⟩ st):q9 a [w,f,L] st = .ok (.str "! length") st:=by
 refine Qv rfl ?_
 unfold qBF at e
 unfold WO jD
 rw [qCv e]
 dsimp only
 rw [if_pos (show a.NoLength∈Qi a by unfold Qi;simp),wC (p := .str "! length") (s1:=st) (qO (l:=[.exc a.NoLength []]) (s1:=st) rfl (jS hd))]
def yK (L:Int) (F:List qZ):PV:=match apr L F with
 |some _ => .non
 |none => .tup [.lst ((hdF L (Qf L F)).map PV.int),.lst ((tlF (Qf L F)).map PV.int)]
noncomputable def Wy (a:Ad):FS:=(qP (qX 9 (qI (q9 a) (qA (vC (.int 0)) (qA (qB 4) (qA (qB 3) qD))))) (qP (Qz (ZA (Wv (wW (qI (qW 3 a) (qA (qB 9) (qA (qB 7) qD))))) (Wv (wW (qI (qW 3 a) (qA (qI (q9 a) (qA (vC (.int 1)) (qA (qB 4) (qA (qB 3) qD)))) (qA (qB 6) qD)))))) (qq (vC (.bl false))) Qg) (Qz (vTB (qG (yM true) (qB 9) (vC .non))) (qP (wQ (qG gIx (qB 9) (vC (.int 0))) (vC (.int 0))) (Z1 (qG gIx (qB 9) (vC (.int 1))) (vC (.int 0)) (vC (.int 7)))) Qg)))
theorem W1 {st g:qC} {b:SO} {L:Int} {F:List qZ}:∃ g',rsS (st++b::g) L F=st++b::g':=⟨g++(qj (Qf L F)++[.l (qy (st++b::g).length L)]),by unfold rsS;rw [List.append_assoc,List.append_assoc];rfl⟩
theorem yC {st g X:qC} {b:SO}:∃ g',(st++b::g)++X=st++b::g':=⟨g++X,by rw [List.append_assoc];rfl⟩
theorem qEH {a:Ad} (hd:Dist a) {F:List qZ} {L y:Int} {st g:qC} {x0 x1 x2 x5 x8 x9 x10:Option PV} (hL1:2≤L) (hL2:L≤5) :
  ∃ (g':qC) (y9:Option PV),Wy a [x0,x1,x2,some (.int L),some (.tup (F.map cP)),x5,some (apP (apr L F)),some (yK L F),x8,x9,x10] (st ++ .l [.int y]::g) = .nx [x0,x1,x2,some (.int L),some (.tup (F.map cP)),x5,some (apP (apr L F)),some (yK L F),x8,y9,x10] (st ++ .l [.int y]::g'):=by
 have e0:=qEW (a:=a) (F:=F) (L:=L) (st:=st ++ .l [.int y]::g) hL1 hL2
 cases hf:apr L F with
 |some c =>
  rw [hf] at e0
  have e1:q9 a [.int 0,.tup (F.map cP),.int L] (st ++ .l [.int y]::g) = .ok .non (rsS (st ++ .l [.int y]::g) L F):=ze (qGh e0)
  have e2:=ze (w := .int 1) (qFv hd (yA (a:=a) (F:=F) (L:=L) (st:=rsS (st ++ .l [.int y]::g) L F) hL1 hL2))
  rw [hf] at e2
  obtain ⟨g1,b1⟩:=W1 (st:=st) (g:=g) (b := .l [.int y]) (L:=L) (F:=F)
  obtain ⟨g2,b2⟩:=W1 (st:=st) (g:=g1) (b := .l [.int y]) (L:=L) (F:=F)
  refine ⟨g2,some .non,?_⟩
  rw [← b2,← b1]
  unfold yK
  rw [hf]
  unfold Wy
  refine qY (Qx (qO (l:=[.int 0,.tup (F.map cP),.int L]) rfl e1)) ?_
  refine qY (Q3 (Zt (w_not (b:=true) (WP (qO (l:=[.non,.non]) rfl jH))) (w_not (b:=true) (WP (qO (l:=[cP c,cP c]) (qT (qO (l:=[.int 1,.tup (F.map cP),.int L]) rfl e2) (qT rfl QB)) (qF9 (n:=1)))))) rfl) ?_
  exact Q3 (wJ (qV (p := .non) (q := .non) rfl rfl rfl)) rfl
 |none =>
  rw [hf] at e0
  have e1:=ze (w := .int 0) (qGh (a:=a) e0)
  generalize hS0:st++SO.l [.int y]::g=S0 at e0 e1
  have hl0:st.length < S0.length:=by rw [← hS0,List.length_append,List.length_cons];omega
  have hrl:=YR (st:=S0) (L:=L) (F:=F)
  have hrl2:=YR (st:=rsS S0 L F) (L:=L) (F:=F)
  generalize hn:(rsS S0 L F).length + L.toNat + 1=n at e1 hrl2
  have hnl:st.length < n:=by omega
  have e2:=ze (w := .int 1) (qFv hd (yA (a:=a) (F:=F) (L:=L) (st:=smS S0 L F) hL1 hL2))
  rw [hf] at e2
  have k0:(smS S0 L F)[n]? = some (.l ((hdF L (Qf L F)).map PV.int)):=by
   unfold smS
   rw [List.append_assoc,List.getElem?_append_right (by omega),hrl2,Nat.sub_self];rfl
  have k1:(smS S0 L F)[n + 1]? = some (.l ((tlF (Qf L F)).map PV.int)):=by
   unfold smS
   rw [List.append_assoc,List.getElem?_append_right (by omega),hrl2,Nat.add_sub_cancel_left];rfl
  generalize hS1:smS S0 L F=S1 at e1 e2 k0 k1
  have up:∀ (k:Nat) (o:SO),S1[k]? = some o->(rsS S1 L F)[k]? = some o:=fun k o h=>by unfold rsS;rw [List.append_assoc,List.getElem?_append_left (List.getElem?_eq_some_iff.mp h).1];exact h
  generalize hS2:rsS S1 L F=S2 at e2 up
  have hhl:(hdF L (Qf L F)).length=L.toNat:=by unfold hdF;rw [List.length_map,Qd]
  have htl:(tlF (Qf L F)).length=L.toNat:=by unfold tlF;rw [List.length_map];exact (zr L F).row (by omega)
  have s1:qW 3 a [.tup [.ref n,.ref (n + 1)],.tup [.lst ((hdF L (Qf L F)).map PV.int),.lst ((tlF (Qf L F)).map PV.int)]] S1 = .ok (.bl true) S1 :=
   yu rfl (show 2≤1000 by decide) fun z hz=>by
    rcases List.mem_cons.mp hz with rfl |hz
    ·exact ⟨_,_,rfl,yt (n:=0) (.inr ⟨_,rfl,k0⟩) (.inl rfl) (by omega)⟩
    ·rcases List.mem_cons.mp hz with rfl |hz
     ·exact ⟨_,_,rfl,yt (n:=0) (.inr ⟨_,rfl,k1⟩) (.inl rfl) (by omega)⟩
     ·cases hz
  have q0:=up _ _ k0
  have q1:(S2.set n (.l ((hdF L (Qf L F)).map PV.int++[.int 0])))[n + 1]? = some (.l ((tlF (Qf L F)).map PV.int)):=by
   rw [List.getElem?_set_ne (by omega)];exact up _ _ k1
  have hfin:∃ g',(S2.set n (.l ((hdF L (Qf L F)).map PV.int++[.int 0]))).set (n + 1) (.l (((tlF (Qf L F)).map PV.int).set 0 (.int 7)))=st ++ .l [.int y]::g':=by
   obtain ⟨g1,b1⟩:=W1 (st:=st) (g:=g) (b := .l [.int y]) (L:=L) (F:=F)
   obtain ⟨g2,b2⟩:=W1 (st:=st) (g:=g1) (b := .l [.int y]) (L:=L) (F:=F)
   obtain ⟨g3,b3⟩:=yC (st:=st) (g:=g2) (X:=[.l ((hdF L (Qf L F)).map PV.int)]) (b := .l [.int y])
   obtain ⟨g4,b4⟩:=yC (st:=st) (g:=g3) (X:=[.l ((tlF (Qf L F)).map PV.int)]) (b := .l [.int y])
   obtain ⟨g5,b5⟩:=W1 (st:=st) (g:=g4) (b := .l [.int y]) (L:=L) (F:=F)
   obtain ⟨g6,b6⟩:=jK (st:=st) (G:=g5) (b := .l [.int y]) (o := .l ((hdF L (Qf L F)).map PV.int++[.int 0])) hnl
   obtain ⟨g7,b7⟩:=jK (st:=st) (G:=g6) (b := .l [.int y]) (o := .l (((tlF (Qf L F)).map PV.int).set 0 (.int 7))) (show st.length < n + 1 by omega)
   refine ⟨g7,?_⟩
   rw [← hS2,← hS1,← hS0]
   unfold smS
   rw [b1,b2,b3,b4,b5,b6,b7]
  obtain ⟨g',hg⟩:=hfin
  refine ⟨g',some (.tup [.ref n,.ref (n + 1)]),?_⟩
  rw [← hg]
  unfold yK
  rw [hf]
  unfold Wy
  refine qY (Qx (qO (l:=[.int 0,.tup (F.map cP),.int L]) rfl e1)) ?_
  refine qY (Q3 (Zt (w_not (b:=true) (WP (qO (qT rfl (qT rfl QB)) s1))) (w_not (b:=true) (WP (qO (l:=[.non,.non]) (qT (qO (l:=[.int 1,.tup (F.map cP),.int L]) rfl e2) (qT rfl QB)) jH)))) rfl) ?_
  refine wo (wJ (qV (p := .tup [.ref n,.ref (n + 1)]) (q := .non) rfl rfl rfl)) (qY (yF (n:=n) (qV rfl rfl rfl) (qCX q0) rfl q0 (by rw [List.length_map,hhl];exact Nat.lt_of_le_of_lt (show L.toNat≤5 by omega) (by decide))) ?_)
  exact qHZ (p := .int 7) (q := .ref (n + 1)) (z := .int 0) rfl (qV rfl rfl rfl) rfl (qAc q1 (ZV (by decide) (by rw [List.length_map,htl];omega)))
theorem yc {a:Ad} (hd:Dist a) {F:List qZ} {L y:Int} {st:qC} {x0 x1 x2 x5 x10:Option PV} (hL1:2≤L) (hL2:L≤5):∀ (ks:List PV) (g:qC) (x8 x9:Option PV),∃ (g':qC) (y8 y9:Option PV),QM (fun _=>True) (QD 8) (Wy a) ks [x0,x1,x2,some (.int L),some (.tup (F.map cP)),x5,some (apP (apr L F)),some (yK L F),x8,x9,x10] (st ++ .l [.int y]::g) = .nx [x0,x1,x2,some (.int L),some (.tup (F.map cP)),x5,some (apP (apr L F)),some (yK L F),y8,y9,x10] (st ++ .l [.int y]::g')
 |[],g,x8,x9=>⟨g,x8,x9,QK trivial⟩
 |k::ks,g,x8,x9=>by
  obtain ⟨g1,y9,e⟩:=qEH (a:=a) hd (F:=F) (L:=L) (y:=y) (st:=st) (g:=g) (x0:=x0) (x1:=x1) (x2:=x2) (x5:=x5) (x8:=some k) (x9:=x9) (x10:=x10) hL1 hL2
  obtain ⟨g2,z8,z9,e2⟩:=yc hd (F:=F) (L:=L) (y:=y) (st:=st) (x0:=x0) (x1:=x1) (x2:=x2) (x5:=x5) (x10:=x10) hL1 hL2 ks g1 (some k) y9
  exact ⟨g2,z8,z9,WB trivial rfl e e2⟩
noncomputable def Z9 (a:Ad):FS:=(qP (qX 2 (qI (zE a) (qA (qB 0) (qA (qB 1) qD)))) (qP (qX 3 (qG qz (vC (.int 2)) (qI (qQ a) (qA (qB 2) (qA (vC (.int 4)) qD))))) (qP (qX 4 (qI (wl a) (qA (qB 2) (qA (qB 3) qD)))) (qP (qX 5 (qI (WM a) (qA (qB 4) (qA (qB 3) qD)))) (qP (qX 6 (qI (WQ a) (qA (qB 5) qD))) (qP (qX 7 (vC .non)) (qP (Qz (vTB (qG (yM false) (qB 6) (vC .non))) (qX 7 (WC (qA (vFz (qg [] 1 (QR (qB 5)) (Qe 0) [] [] (qG gIx (qB 0) (vC (.int 0))))) (qA (vFz (qg [5] 1 (QR (qG gIx (qB 5) (vC (.int 0)))) (Qe 1) [] [] (qG zW (qB 1) (qG gIx (qG gIx (qB 0) (vC (.int 0))) (vC (.int 0)))))) qD)))) Qg) (qP (wG (QH (qA (vC (.int 2)) qD)) (QD 8) (Wy a)) (qP (qX 10 (qI (Qq a) (qA (qB 2) qD))) (Qz (vTB (qG gNe (vFz (qg [4,10] 1 (QH (qA (vC (.int 2)) qD)) (Qe 2) [] [] (qI (q9 a) (qA (qB 2) (qA (qB 0) (qA (qB 1) qD)))))) (vFz (Qn (qA (vC (.str "! length")) (qA (vC (.str "! length")) qD)))))) (qq (vC (.bl false))) Qg))))))))))
theorem qEY {a:Ad} (hd:Dist a) {ns:List Int} {k:Int} {st:qC} {x2 x3 x4 x5 x6 x7 x8 x9 x10:Option PV} (h0:0≤k):∃ y2 y3 y4 y5 y6 y7 y8 y9 y10 st',Z9 a [some (.lst (ns.map PV.int)),some (.int k),x2,x3,x4,x5,x6,x7,x8,x9,x10] st = .nx [some (.lst (ns.map PV.int)),some (.int k),y2,y3,y4,y5,y6,y7,y8,y9,y10] st':=by
 obtain ⟨x,ex⟩:=qFQ (a:=a) (ns:=ns) (k:=k) (st:=st) h0
 have t1:=Qk (a:=a) (st:=st) (j:=[]) (x:=x) (m:=4) (by decide) (by decide)
 have hL:=Q8 (x:=x) (m:=4) (by decide)
 have hL1:2≤2 + x % 4:=by omega
 have hL2:2 + x % 4≤5:=by omega
 generalize hLe:2 + x % 4=L at hL1 hL2
 obtain ⟨F,y,g,hF,ef⟩:=qBz (a:=a) (st:=st) (j:=[]) (x:=x / 4) hL1 hL2
 rw [List.nil_append] at ef
 generalize hS:st++SO.l [.int y]::g=S at ef
 have er:=qAx (a:=a) (F:=F) (L:=L) (st:=S) hL1 hL2 hF.len
 have T:Tb (S++SO.l (qy (S.length + 1) L)::qj (Qf L F)) S.length (S.length + 1) L (Qf L F):=by
  refine ⟨by rw [List.getElem?_append_right (Nat.le_refl _),Nat.sub_self];rfl,?_,zr L F⟩
  have:=qAW (A:=S++[SO.l (qy (S.length + 1) L)]) (B:=[]) (R:=Qf L F) (n:=S.length + 1) (by simp)
  rw [List.append_nil,List.append_assoc] at this
  exact this
 obtain ⟨g1,b1⟩:=yC (st:=st) (g:=g) (X:=SO.l (qy (S.length + 1) L)::qj (Qf L F)) (b := .l [.int y])
 rw [hS] at b1
 have ea:=qA6 (a:=a) T (by omega) hL2
 have ed:Qz (vTB (qG (yM false) (qB 6) (vC .non))) (qX 7 (WC (qA (vFz (qg [] 1 (QR (qB 5)) (Qe 0) [] [] (qG gIx (qB 0) (vC (.int 0))))) (qA (vFz (qg [5] 1 (QR (qG gIx (qB 5) (vC (.int 0)))) (Qe 1) [] [] (qG zW (qB 1) (qG gIx (qG gIx (qB 0) (vC (.int 0))) (vC (.int 0)))))) qD)))) Qg [some (.lst (ns.map PV.int)),some (.int k),some (.ref st.length),some (.int L),some (.tup (F.map cP)),some (.ref S.length),some (apP (apr L F)),some .non,x8,x9,x10] (S++SO.l (qy (S.length + 1) L)::qj (Qf L F)) = .nx [some (.lst (ns.map PV.int)),some (.int k),some (.ref st.length),some (.int L),some (.tup (F.map cP)),some (.ref S.length),some (apP (apr L F)),some (yK L F),x8,x9,x10] (S++SO.l (qy (S.length + 1) L)::qj (Qf L F)):=by
  unfold yK
  cases hf:apr L F with
  |some c=>exact Q3 (wJ (qV (p:=cP c) (q := .non) rfl rfl rfl)) rfl
  |none=>exact wo (wJ (qV (p := .non) (q := .non) rfl rfl rfl)) (Qx (ZE (qT (ZD (qAG T (by omega) hL2 rfl)) (qT (ZD (qAL T (by omega) hL2 (j:=5) rfl)) QB)) (sz rfl)))
 rw [b1] at er ea ed
 obtain ⟨g2,y8,y9,et⟩:=yc (a:=a) hd (F:=F) (L:=L) (y:=y) (st:=st) (x0:=some (.lst (ns.map PV.int))) (x1:=some (.int k)) (x2:=some (.ref st.length)) (x5:=some (.ref S.length)) (x10:=x10) hL1 hL2 ((qw 2).map PV.int) g1 x8 x9
 obtain ⟨v,pv,nv,ev⟩:=Yd (a:=a) (st:=st) (j:=g2) (x:=y)
 refine ⟨some (.ref st.length),some (.int L),some (.tup (F.map cP)),some (.ref S.length),some (apP (apr L F)),some (yK L F),y8,y9,some v,st ++ .l [.int (y / 10)]::g2,?_⟩
 unfold Z9
 refine qY (Qx (p := .ref st.length) (s1:=st++[.l [.int x]]) (qO (qT rfl (qT rfl QB)) ex)) ?_
 refine qY (Qx (p := .int L) (qV rfl (qO (l:=[.ref st.length,.int 4]) rfl t1) (by rw [W6,hLe]))) ?_
 refine qY (Qx (qO (l:=[.ref st.length,.int L]) rfl ef)) ?_
 refine qY (Qx (qO (l:=[.tup (F.map cP),.int L]) rfl er)) ?_
 refine qY (Qx (qO (l:=[.ref S.length]) rfl ea)) ?_
 refine qY (Qx (p := .non) rfl) (qY ed ?_)
 refine qY (WI (itN (by decide) (by decide) rfl) et) ?_
 refine qY (Qx (qO (l:=[.ref st.length]) rfl ev)) ?_
 have hc:qg [4,10] 1 (QH (qA (vC (.int 2)) qD)) (Qe 2) [] [] (qI (q9 a) (qA (qB 2) (qA (qB 0) (qA (qB 1) qD)))) [some (.lst (ns.map PV.int)),some (.int k),some (.ref st.length),some (.int L),some (.tup (F.map cP)),some (.ref S.length),some (apP (apr L F)),some (yK L F),y8,y9,some v] (st ++ .l [.int (y / 10)]::g2) = .ok [.str "! length",.str "! length"] (st ++ .l [.int (y / 10)]::g2) :=
  YN (w:=⟨(qw 2).map PV.int,fun _=>True⟩) (itN (by decide) (by decide) rfl) (zC (l:=[.str "! length"]) (m:=[.str "! length"]) (ps:=[.int 1]) trivial (YH (r':=[some (.tup (F.map cP)),some v,some (.int 0)]) rfl (qO (l:=[.int 0,.tup (F.map cP),v]) rfl (jF hd (qGh (qDa pv nv))))) (zC (l:=[.str "! length"]) (m:=[]) (ps:=[]) trivial (YH (r':=[some (.tup (F.map cP)),some v,some (.int 1)]) rfl (qO (l:=[.int 1,.tup (F.map cP),v]) rfl (jF hd (qFv hd (jp pv nv))))) (WK trivial))) (sz rfl)
 exact Q3 (wJ (qV (ZD hc) rfl rfl)) rfl
theorem je {a:Ad} (hd:Dist a) {ns:List Int}:∀ (ks:List Int) (x1 x2 x3 x4 x5 x6 x7 x8 x9 x10:Option PV) (st:qC),(∀ k∈ks,0≤k) -> ∃ e st',QM (fun _=>True) (QD 1) (Z9 a) (ks.map PV.int) [some (.lst (ns.map PV.int)),x1,x2,x3,x4,x5,x6,x7,x8,x9,x10] st = .nx e st'
 |[],x1,x2,x3,x4,x5,x6,x7,x8,x9,x10,st,_=>⟨_,st,QK trivial⟩
 |k::ks,x1,x2,x3,x4,x5,x6,x7,x8,x9,x10,st,h=>by
  obtain ⟨y2,y3,y4,y5,y6,y7,y8,y9,y10,st1,e⟩:=qEY (a:=a) hd (ns:=ns) (k:=k) (st:=st) (x2:=x2) (x3:=x3) (x4:=x4) (x5:=x5) (x6:=x6) (x7:=x7) (x8:=x8) (x9:=x9) (x10:=x10) (h k List.mem_cons_self)
  obtain ⟨e',st',e2⟩:=je hd (ns:=ns) ks (some (.int k)) y2 y3 y4 y5 y6 y7 y8 y9 y10 st1 fun q hq=>h q (List.mem_cons_of_mem _ hq)
  exact ⟨e',st',WB trivial rfl e e2⟩
theorem law_true:∀ (a:Ad) (ns:List Int),Dist a->ns.length≤63->(∀ k∈ns,Builtin.Int.intBits k≤2 ^ 20) -> ∃ st,jU a [.lst (ns.map PV.int)] [] = .ok (.bl true) st:=by
 intro a ns hd hl hb
 obtain ⟨n,hn0,hn4,hn⟩:∃ n:Int,0≤n∧n≤6∧qI qCn (qA (vC (.int 1)) (qA (qI qCx (qA (qI WJ (qA (qB 0) qD)) (qA (vC (.int 6)) qD))) qD)) (Qh 11 [.lst (ns.map PV.int)]) [] = .ok (.int n) []:=by
  refine ⟨if (if (6:Int) < ns.length then 6 else (ns.length:Int)) > 1 then (if (6:Int) < ns.length then 6 else (ns.length:Int)) else 1,?_,?_,?_⟩
  ·split <;> (try split) <;> omega
  ·split <;> (try split) <;> omega
  ·exact qO (qT rfl (qT (qO (l:=[.int ns.length,.int 6]) (qT (qO (qT rfl QB) (zh (l:=ns.map PV.int) rfl (by rw [List.length_map]))) (qT rfl QB)) rfl) QB)) rfl
 obtain ⟨e,st',h⟩:=je hd (qw n) none none none none none none none none none none [] fun k hk=>by have:=upto_mem.mp hk;omega
 exact ⟨st',Qv rfl (qY (WI (itN hn0 (by omega) (qT hn QB)) h) (wC rfl))⟩
end K12
end
section

end
section
namespace K12
open PySem PySem.Spec PyProof.Rows L2 EX EV
theorem qDy {a:Ad} {x:Addr} {c:Value} {b:Bool} (h:kit a (.ref x) c=some b):x∈Qi a:=by
 cases c with
 |ref d =>
  have h:(if x∈Qi a∧d∈a.kinds then some (x==d) else none)=some b:=h
  split at h
  ·rename_i hx;exact hx.1
  ·cases h
 |type T =>
  have h:(if x∈Qi a∧T = "ValueError" then some true else none)=some b:=h
  split at h
  ·rename_i hx;exact hx.1
  ·cases h
 |_=>cases h
theorem qBA {K:W.Frag}:∀ p∈kitTab,PySem.W.kitOne K (.type p.1.1) (.type p.1.2)=some p.2:=by
 intro p hp
 unfold kitTab at hp
 simp only [List.mem_cons,List.not_mem_nil,or_false] at hp
 rcases hp with rfl |rfl |rfl |rfl |rfl |rfl |rfl |rfl |rfl |rfl |rfl |rfl |rfl |rfl |rfl |rfl |rfl |rfl |rfl |rfl |rfl |rfl |rfl |rfl |rfl |rfl |rfl |rfl <;> rfl
theorem jh {s T:String} {b:Bool}:∀ {l:List ((String×String)×Bool)},l.lookup (s,T)=some b->((s,T),b)∈l
 |[],h=>by cases h
 |(q,k)::l,h=>by
  rw [List.lookup_cons] at h
  split at h
  ·rename_i e;cases h;rw [eq_of_beq e];exact List.mem_cons_self
  ·exact List.mem_cons_of_mem _ (jh h)
theorem qEl {K:W.Frag} {s T:String} {b:Bool} (h:qHr s T=some b):PySem.W.kitOne K (.type s) (.type T)=some b:=qBA _ (jh h)
theorem qr {a:Ad} (h:Dist a):a.NoLength≠a.NoNumber∧a.NoLength≠a.NoBars∧a.NoLength≠a.NoBox∧a.NoLength≠a.NoWeights∧a.NoLength≠a.NoSorts∧a.NoLength≠a.NoTurn∧a.NoLength≠a.NoPlace∧a.NoLength≠a.NoText∧a.NoLength≠a.NoRow∧a.NoLength≠a.TooMany:=by
 have nd:=h.nd
 unfold Ad.kinds at nd
 simp only [List.nodup_cons,List.mem_cons,List.not_mem_nil,not_or,or_false] at nd
 refine ⟨?_,?_,?_,?_,?_,?_,?_,?_,?_,?_⟩ <;> (intro z;simp only [z,not_true_eq_false,false_and,and_false] at nd)
def Jb (e:DictEntry):Bool:=match e.key with
 | .str _ _=>true
 |_=>false
theorem Jr {K:W.Frag} {N:Addr} {c:Value} {dd:Option Addr} {es:Array DictEntry} {ep:Nat} {sl:Array (Option Value)} (h:K.lookup N=some ⟨c,dd,.dict es ep,sl⟩) (hl:es.toList.all Jb=true):PySem.W.nsOkIn K N=true:=by
 unfold PySem.W.nsOkIn
 rw [show List.lookup N K=_ from h]
 show (es.all fun e=>match e.key with | .str _ _=>true |_=>false)=true
 rw [← Array.all_toList]
 exact hl
theorem qDz {K:W.Frag} {B:Addr} {cdB:ClassData} {cB:Value} {dB:Option Addr} {slB:Array (Option Value)} (hB:K.lookup B=some ⟨cB,dB,.cls cdB,slB⟩) (hnB:PySem.W.nsOkIn K cdB.ns=true) (hiB:PySem.W.nsIn K cdB.ns "__init__" = some none):PySem.W.tailIn K bmV (.ref B::bmV)=true:=by
 rw [PySem.W.tailIn.eq_2,show List.lookup B K=_ from hB]
 dsimp only
 rw [hnB,hiB]
 rfl
theorem qFb {K:W.Frag} {C B:Addr} {dd:Option Addr} {cd cdB:ClassData} {sl:Array (Option Value)} {k0 k1 k2 k3 k5:Option Value} {cB:Value} {dB:Option Addr} {slB:Array (Option Value)} (hC:K.lookup C=some ⟨.type "type",dd,.cls cd,sl⟩) (hm:cd.mro = .ref C :: .ref B::bmV)
  (hs:sl.toList=[k0,k1,k2,k3,some (.builtin "ValueError.__new__"),k5]) (hD:cd.hasDel=false) (hn:PySem.W.nsOkIn K cd.ns=true) (hi:PySem.W.nsIn K cd.ns "__init__" = some none) (hB:K.lookup B=some ⟨cB,dB,.cls cdB,slB⟩) (hnB:PySem.W.nsOkIn K cdB.ns=true) (hiB:PySem.W.nsIn K cdB.ns "__init__" = some none) :
  PySem.W.excIn K C bmV "ValueError.__new__" = true:=by
 have t:=qDz hB hnB hiB
 obtain ⟨nm,bs,mro,ns,qn,hd,sn,sb,ab,co,del⟩:=cd
 obtain ⟨sl⟩:=sl
 have hm:mro=_:=hm
 have hs:sl=_:=hs
 have hD:del=false:=hD
 subst hm;subst hs;subst hD
 unfold PySem.W.excIn
 rw [show List.lookup C K=_ from hC]
 show (C==C&&("ValueError.__new__" == "ValueError.__new__") && !false&&PySem.W.tailIn K bmV (.ref B::bmV)&&PySem.W.nsOkIn K ns&&(PySem.W.nsIn K ns "__init__" == some none))=true
 rw [t,show PySem.W.nsOkIn K ns=true from hn,show PySem.W.nsIn K ns "__init__" = some none from hi]
 simp
theorem qEi {P:Program} {w:World} {K:W.Frag} {mg:Str->Option Value} {base:Heap} {CX:CXT} {k:Nat} {f:Addr} {fd:FuncData} {ps:List Str} {sp sp':Sp} (F:FnOk P w K mg base CX k f fd ps sp) (h:∀ vs H Q E,sp' vs H Q E->sp vs H Q E):FnOk P w K mg base CX k f fd ps sp' :=
 ⟨fun vs H Q E q=>F.len vs H Q E (h vs H Q E q),fun A outer s H args us vs Q E hr e b v q=>F.run A outer s H args us vs Q E hr e b v (h vs H Q E q)⟩
def spL (K:W.Frag):Sp:=fun vs H Q E => ∀ a,Dist a->spG K 1 (jU a) vs H Q E
theorem all_mk {l:PySem.W.OpenLaw} {w:World} {K:W.Frag} {h:Heap} {mg:Str->Option Value} {fa:Addr} (X:K.In h) (G:h.Ns mainGlobals mg) (hfa:mg "law" = some (.ref fa))
  {c_BarError c_NoLength c_NoNumber c_NoBars c_NoBox c_NoWeights c_NoSorts c_NoTurn c_NoPlace c_NoText c_NoRow c_TooMany ff0 ff1 ff2 ff3 ff4 ff5 ff6 ff7 ff8 ff9 ff10 ff11 ff12 ff13 ff14 ff15 ff16 ff17 ff18 ff19:Addr}
  {od0 an0:Option Addr} {sl0:Array (Option Value)} {oc0 kV0 dc0 pm0 cd0 ct0:Value}
  {od1 an1:Option Addr} {sl1:Array (Option Value)} {oc1 kV1 dc1 pm1 cd1 ct1:Value}
  {od2 an2:Option Addr} {sl2:Array (Option Value)} {oc2 kV2 dc2 pm2 cd2 ct2:Value}
  {od3 an3:Option Addr} {sl3:Array (Option Value)} {oc3 kV3 dc3 pm3 cd3 ct3:Value}
  {od4 an4:Option Addr} {sl4:Array (Option Value)} {oc4 kV4 dc4 pm4 cd4 ct4:Value}
  {od5 an5:Option Addr} {sl5:Array (Option Value)} {oc5 kV5 dc5 pm5 cd5 ct5:Value}
  {od6 an6:Option Addr} {sl6:Array (Option Value)} {oc6 kV6 dc6 pm6 cd6 ct6:Value}
  {od7 an7:Option Addr} {sl7:Array (Option Value)} {oc7 kV7 dc7 pm7 cd7 ct7:Value}
  {od8 an8:Option Addr} {sl8:Array (Option Value)} {oc8 kV8 dc8 pm8 cd8 ct8:Value}
  {od9 an9:Option Addr} {sl9:Array (Option Value)} {oc9 kV9 dc9 pm9 cd9 ct9:Value}
  {od10 an10:Option Addr} {sl10:Array (Option Value)} {oc10 kV10 dc10 pm10 cd10 ct10:Value}
  {od11 an11:Option Addr} {sl11:Array (Option Value)} {oc11 kV11 dc11 pm11 cd11 ct11:Value}
  {od12 an12:Option Addr} {sl12:Array (Option Value)} {oc12 kV12 dc12 pm12 cd12 ct12:Value}
  {od13 an13:Option Addr} {sl13:Array (Option Value)} {oc13 kV13 dc13 pm13 cd13 ct13:Value}
  {od14 an14:Option Addr} {sl14:Array (Option Value)} {oc14 kV14 dc14 pm14 cd14 ct14:Value}
  {od15 an15:Option Addr} {sl15:Array (Option Value)} {oc15 kV15 dc15 pm15 cd15 ct15:Value}
  {od16 an16:Option Addr} {sl16:Array (Option Value)} {oc16 kV16 dc16 pm16 cd16 ct16:Value}
  {od17 an17:Option Addr} {sl17:Array (Option Value)} {oc17 kV17 dc17 pm17 cd17 ct17:Value}
  {od18 an18:Option Addr} {sl18:Array (Option Value)} {oc18 kV18 dc18 pm18 cd18 ct18:Value}
  {od19 an19:Option Addr} {sl19:Array (Option Value)} {oc19 kV19 dc19 pm19 cd19 ct19:Value}
  {t_LEAST_LENGTH:Tok}
  {t_MOST_LENGTH:Tok}
  {ddB:Option Addr} {cdB:ClassData} {slB:Array (Option Value)}
  {NB:Addr} {cNB:Value} {dNB:Option Addr} {esB:Array DictEntry} {epB:Nat} {sNB:Array (Option Value)}
  {xdd_NoLength:Option Addr} {xcd_NoLength:ClassData} {xsl_NoLength:Array (Option Value)} {xk0_NoLength xk1_NoLength xk2_NoLength xk3_NoLength xk5_NoLength:Option Value} {xN_NoLength:Addr} {xc_NoLength:Value} {xd2_NoLength:Option Addr} {xes_NoLength:Array DictEntry} {xep_NoLength:Nat} {xs2_NoLength:Array (Option Value)}
  (aa0:PySem.W.nsIn K mainGlobals "is_whole" = some (some (.ref ff0)))
  (ll0:K.lookup ff0=some ⟨oc0,od0,.func (PySem.W.fnOf "is_whole" "is_whole" (qf wU) (qe wU) (qJ wU) .none kV0 dc0 pm0 an0 cd0 ct0),sl0⟩)
  (dd0:PySem.W.codeIn K cd0 "is_whole" = true)
  (kk0:PySem.W.keepIn K (.ref ff0)=true)
  (aa1:PySem.W.nsIn K mainGlobals "is_whole_within" = some (some (.ref ff1)))
  (ll1:K.lookup ff1=some ⟨oc1,od1,.func (PySem.W.fnOf "is_whole_within" "is_whole_within" (qf QE) (qe QE) (qJ QE) .none kV1 dc1 pm1 an1 cd1 ct1),sl1⟩)
  (dd1:PySem.W.codeIn K cd1 "is_whole_within" = true)
  (kk1:PySem.W.keepIn K (.ref ff1)=true)
  (aa2:PySem.W.nsIn K mainGlobals "is_length" = some (some (.ref ff2)))
  (ll2:K.lookup ff2=some ⟨oc2,od2,.func (PySem.W.fnOf "is_length" "is_length" (qf wI) (qe wI) (qJ wI) .none kV2 dc2 pm2 an2 cd2 ct2),sl2⟩)
  (dd2:PySem.W.codeIn K cd2 "is_length" = true)
  (kk2:PySem.W.keepIn K (.ref ff2)=true)
  (aa3:PySem.W.nsIn K mainGlobals "need_length" = some (some (.ref ff3)))
  (ll3:K.lookup ff3=some ⟨oc3,od3,.func (PySem.W.fnOf "need_length" "need_length" (qf QV) (qe QV) (qJ QV) .none kV3 dc3 pm3 an3 cd3 ct3),sl3⟩)
  (dd3:PySem.W.codeIn K cd3 "need_length" = true)
  (kk3:PySem.W.keepIn K (.ref ff3)=true)
  (aa4:PySem.W.nsIn K mainGlobals "rests" = some (some (.ref ff4)))
  (ll4:K.lookup ff4=some ⟨oc4,od4,.func (PySem.W.fnOf "rests" "rests" (qf Wo) (qe Wo) (qJ Wo) .none kV4 dc4 pm4 an4 cd4 ct4),sl4⟩)
  (dd4:PySem.W.codeIn K cd4 "rests" = true)
  (kk4:PySem.W.keepIn K (.ref ff4)=true)
  (aa5:PySem.W.nsIn K mainGlobals "first_apart" = some (some (.ref ff5)))
  (ll5:K.lookup ff5=some ⟨oc5,od5,.func (PySem.W.fnOf "first_apart" "first_apart" (qf Qr) (qe Qr) (qJ Qr) .none kV5 dc5 pm5 an5 cd5 ct5),sl5⟩)
  (dd5:PySem.W.codeIn K cd5 "first_apart" = true)
  (kk5:PySem.W.keepIn K (.ref ff5)=true)
  (aa6:PySem.W.nsIn K mainGlobals "sums_of" = some (some (.ref ff6)))
  (ll6:K.lookup ff6=some ⟨oc6,od6,.func (PySem.W.fnOf "sums_of" "sums_of" (qf ww) (qe ww) (qJ ww) .none kV6 dc6 pm6 an6 cd6 ct6),sl6⟩)
  (dd6:PySem.W.codeIn K cd6 "sums_of" = true)
  (kk6:PySem.W.keepIn K (.ref ff6)=true)
  (aa7:PySem.W.nsIn K mainGlobals "_law_cell" = some (some (.ref ff7)))
  (ll7:K.lookup ff7=some ⟨oc7,od7,.func (PySem.W.fnOf "_law_cell" "_law_cell" (qf wb) (qe wb) (qJ wb) .none kV7 dc7 pm7 an7 cd7 ct7),sl7⟩)
  (dd7:PySem.W.codeIn K cd7 "_law_cell" = true)
  (kk7:PySem.W.keepIn K (.ref ff7)=true)
  (aa8:PySem.W.nsIn K mainGlobals "_law_box" = some (some (.ref ff8)))
  (ll8:K.lookup ff8=some ⟨oc8,od8,.func (PySem.W.fnOf "_law_box" "_law_box" (qf wx) (qe wx) (qJ wx) .none kV8 dc8 pm8 an8 cd8 ct8),sl8⟩)
  (dd8:PySem.W.codeIn K cd8 "_law_box" = true)
  (kk8:PySem.W.keepIn K (.ref ff8)=true)
  (aa9:PySem.W.nsIn K mainGlobals "_law_take" = some (some (.ref ff9)))
  (ll9:K.lookup ff9=some ⟨oc9,od9,.func (PySem.W.fnOf "_law_take" "_law_take" (qf wZ) (qe wZ) (qJ wZ) .none kV9 dc9 pm9 an9 cd9 ct9),sl9⟩)
  (dd9:PySem.W.codeIn K cd9 "_law_take" = true)
  (kk9:PySem.W.keepIn K (.ref ff9)=true)
  (aa10:PySem.W.nsIn K mainGlobals "_law_kind" = some (some (.ref ff10)))
  (ll10:K.lookup ff10=some ⟨oc10,od10,.func (PySem.W.fnOf "_law_kind" "_law_kind" (qf wS) (qe wS) (qJ wS) .none kV10 dc10 pm10 an10 cd10 ct10),sl10⟩)
  (dd10:PySem.W.codeIn K cd10 "_law_kind" = true)
  (kk10:PySem.W.keepIn K (.ref ff10)=true)
  (aa11:PySem.W.nsIn K mainGlobals "_law_same" = some (some (.ref ff11)))
  (ll11:K.lookup ff11=some ⟨oc11,od11,.func (PySem.W.fnOf "_law_same" "_law_same" (qf wE) (qe wE) (qJ wE) .none kV11 dc11 pm11 an11 cd11 ct11),sl11⟩)
  (dd11:PySem.W.codeIn K cd11 "_law_same" = true)
  (kk11:PySem.W.keepIn K (.ref ff11)=true)
  (aa12:PySem.W.nsIn K mainGlobals "_law_no_length" = some (some (.ref ff12)))
  (ll12:K.lookup ff12=some ⟨oc12,od12,.func (PySem.W.fnOf "_law_no_length" "_law_no_length" (qf QP) (qe QP) (qJ QP) .none kV12 dc12 pm12 an12 cd12 ct12),sl12⟩)
  (dd12:PySem.W.codeIn K cd12 "_law_no_length" = true)
  (kk12:PySem.W.keepIn K (.ref ff12)=true)
  (aa13:PySem.W.nsIn K mainGlobals "_law_cover" = some (some (.ref ff13)))
  (ll13:K.lookup ff13=some ⟨oc13,od13,.func (PySem.W.fnOf "_law_cover" "_law_cover" (qf Q2) (qe Q2) (qJ Q2) .none kV13 dc13 pm13 an13 cd13 ct13),sl13⟩)
  (dd13:PySem.W.codeIn K cd13 "_law_cover" = true)
  (kk13:PySem.W.keepIn K (.ref ff13)=true)
  (aa14:PySem.W.nsIn K mainGlobals "_law_put" = some (some (.ref ff14)))
  (ll14:K.lookup ff14=some ⟨oc14,od14,.func (PySem.W.fnOf "_law_put" "_law_put" (qf wX) (qe wX) (qJ wX) .none kV14 dc14 pm14 an14 cd14 ct14),sl14⟩)
  (dd14:PySem.W.codeIn K cd14 "_law_put" = true)
  (kk14:PySem.W.keepIn K (.ref ff14)=true)
  (aa15:PySem.W.nsIn K mainGlobals "_law_floor" = some (some (.ref ff15)))
  (ll15:K.lookup ff15=some ⟨oc15,od15,.func (PySem.W.fnOf "_law_floor" "_law_floor" (qf Q1) (qe Q1) (qJ Q1) .none kV15 dc15 pm15 an15 cd15 ct15),sl15⟩)
  (dd15:PySem.W.codeIn K cd15 "_law_floor" = true)
  (kk15:PySem.W.keepIn K (.ref ff15)=true)
  (aa16:PySem.W.nsIn K mainGlobals "_law_rests" = some (some (.ref ff16)))
  (ll16:K.lookup ff16=some ⟨oc16,od16,.func (PySem.W.fnOf "_law_rests" "_law_rests" (qf wF) (qe wF) (qJ wF) .none kV16 dc16 pm16 an16 cd16 ct16),sl16⟩)
  (dd16:PySem.W.codeIn K cd16 "_law_rests" = true)
  (kk16:PySem.W.keepIn K (.ref ff16)=true)
  (aa17:PySem.W.nsIn K mainGlobals "_law_apart" = some (some (.ref ff17)))
  (ll17:K.lookup ff17=some ⟨oc17,od17,.func (PySem.W.fnOf "_law_apart" "_law_apart" (qf wH) (qe wH) (qJ wH) .none kV17 dc17 pm17 an17 cd17 ct17),sl17⟩)
  (dd17:PySem.W.codeIn K cd17 "_law_apart" = true)
  (kk17:PySem.W.keepIn K (.ref ff17)=true)
  (aa18:PySem.W.nsIn K mainGlobals "_law_asked" = some (some (.ref ff18)))
  (ll18:K.lookup ff18=some ⟨oc18,od18,.func (PySem.W.fnOf "_law_asked" "_law_asked" (qf Q0) (qe Q0) (qJ Q0) .none kV18 dc18 pm18 an18 cd18 ct18),sl18⟩)
  (dd18:PySem.W.codeIn K cd18 "_law_asked" = true)
  (kk18:PySem.W.keepIn K (.ref ff18)=true)
  (aa19:PySem.W.nsIn K mainGlobals "law" = some (some (.ref ff19)))
  (ll19:K.lookup ff19=some ⟨oc19,od19,.func (PySem.W.fnOf "law" "law" (qf Wp) (qe Wp) (qJ Wp) .none kV19 dc19 pm19 an19 cd19 ct19),sl19⟩)
  (dd19:PySem.W.codeIn K cd19 "law" = true)
  (kk19:PySem.W.keepIn K (.ref ff19)=true)
  (n_ValueError:PySem.W.nsIn K mainGlobals "ValueError" = some none)
  (n_all:PySem.W.nsIn K mainGlobals "all" = some none)
  (n_bool:PySem.W.nsIn K mainGlobals "bool" = some none)
  (n_int:PySem.W.nsIn K mainGlobals "int" = some none)
  (n_isinstance:PySem.W.nsIn K mainGlobals "isinstance" = some none)
  (n_len:PySem.W.nsIn K mainGlobals "len" = some none)
  (n_list:PySem.W.nsIn K mainGlobals "list" = some none)
  (n_max:PySem.W.nsIn K mainGlobals "max" = some none)
  (n_min:PySem.W.nsIn K mainGlobals "min" = some none)
  (n_range:PySem.W.nsIn K mainGlobals "range" = some none)
  (n_set:PySem.W.nsIn K mainGlobals "set" = some none)
  (n_sorted:PySem.W.nsIn K mainGlobals "sorted" = some none)
  (n_sum:PySem.W.nsIn K mainGlobals "sum" = some none)
  (n_tuple:PySem.W.nsIn K mainGlobals "tuple" = some none)
  (n_zip:PySem.W.nsIn K mainGlobals "zip" = some none)
  (g_LEAST_LENGTH:PySem.W.nsIn K mainGlobals "LEAST_LENGTH" = some (some (.int 2 t_LEAST_LENGTH)))
  (g_MOST_LENGTH:PySem.W.nsIn K mainGlobals "MOST_LENGTH" = some (some (.int 5 t_MOST_LENGTH)))
  (q_BarError:PySem.W.nsIn K mainGlobals "BarError" = some (some (.ref c_BarError)))
  (q_NoLength:PySem.W.nsIn K mainGlobals "NoLength" = some (some (.ref c_NoLength)))
  (q_NoNumber:PySem.W.nsIn K mainGlobals "NoNumber" = some (some (.ref c_NoNumber)))
  (q_NoBars:PySem.W.nsIn K mainGlobals "NoBars" = some (some (.ref c_NoBars)))
  (q_NoBox:PySem.W.nsIn K mainGlobals "NoBox" = some (some (.ref c_NoBox)))
  (q_NoWeights:PySem.W.nsIn K mainGlobals "NoWeights" = some (some (.ref c_NoWeights)))
  (q_NoSorts:PySem.W.nsIn K mainGlobals "NoSorts" = some (some (.ref c_NoSorts)))
  (q_NoTurn:PySem.W.nsIn K mainGlobals "NoTurn" = some (some (.ref c_NoTurn)))
  (q_NoPlace:PySem.W.nsIn K mainGlobals "NoPlace" = some (some (.ref c_NoPlace)))
  (q_NoText:PySem.W.nsIn K mainGlobals "NoText" = some (some (.ref c_NoText)))
  (q_NoRow:PySem.W.nsIn K mainGlobals "NoRow" = some (some (.ref c_NoRow)))
  (q_TooMany:PySem.W.nsIn K mainGlobals "TooMany" = some (some (.ref c_TooMany)))
  (oB:K.lookup c_BarError=some ⟨.type "type",ddB,.cls cdB,slB⟩)
  (nB:cdB.ns=NB)
  (oNB:K.lookup NB=some ⟨cNB,dNB,.dict esB epB,sNB⟩)
  (eNB:esB.toList.all Jb=true)
  (iNB:PySem.W.nsIn K NB "__init__" = some none)
  (bB:PySem.W.mroIn K c_BarError (.type "BaseException")=some true)
  (xl_NoLength:K.lookup c_NoLength=some ⟨.type "type",xdd_NoLength,.cls xcd_NoLength,xsl_NoLength⟩)
  (xm_NoLength:xcd_NoLength.mro = .ref c_NoLength :: .ref c_BarError::bmV)
  (xs_NoLength:xsl_NoLength.toList=[xk0_NoLength,xk1_NoLength,xk2_NoLength,xk3_NoLength,some (.builtin "ValueError.__new__"),xk5_NoLength])
  (xd_NoLength:xcd_NoLength.hasDel=false)
  (xn_NoLength:xcd_NoLength.ns=xN_NoLength)
  (xo_NoLength:K.lookup xN_NoLength=some ⟨xc_NoLength,xd2_NoLength,.dict xes_NoLength xep_NoLength,xs2_NoLength⟩)
  (xe_NoLength:xes_NoLength.toList.all Jb=true)
  (xi_NoLength:PySem.W.nsIn K xN_NoLength "__init__" = some none)
  (e_NoLength:PySem.W.mroIn K c_NoLength (.ref c_BarError)=some true)
  (v_NoLength:PySem.W.kitOne K (.ref c_NoLength) (.type "ValueError")=some true)
  (w_NoLength_NoLength:PySem.W.kitOne K (.ref c_NoLength) (.ref c_NoLength)=some true)
  (w_NoLength_NoNumber:PySem.W.kitOne K (.ref c_NoLength) (.ref c_NoNumber)=some false)
  (w_NoLength_NoBars:PySem.W.kitOne K (.ref c_NoLength) (.ref c_NoBars)=some false)
  (w_NoLength_NoBox:PySem.W.kitOne K (.ref c_NoLength) (.ref c_NoBox)=some false)
  (w_NoLength_NoWeights:PySem.W.kitOne K (.ref c_NoLength) (.ref c_NoWeights)=some false)
  (w_NoLength_NoSorts:PySem.W.kitOne K (.ref c_NoLength) (.ref c_NoSorts)=some false)
  (w_NoLength_NoTurn:PySem.W.kitOne K (.ref c_NoLength) (.ref c_NoTurn)=some false)
  (w_NoLength_NoPlace:PySem.W.kitOne K (.ref c_NoLength) (.ref c_NoPlace)=some false)
  (w_NoLength_NoText:PySem.W.kitOne K (.ref c_NoLength) (.ref c_NoText)=some false)
  (w_NoLength_NoRow:PySem.W.kitOne K (.ref c_NoLength) (.ref c_NoRow)=some false)
  (w_NoLength_TooMany:PySem.W.kitOne K (.ref c_NoLength) (.ref c_TooMany)=some false)
  (ga_NoLength:PySem.W.findIn K (.ref c_NoLength) "__getattribute__" = some (some (.builtin "BaseException.__getattribute__")))
  (gn_NoLength:PySem.W.findIn K (.ref c_NoLength) "__getattr__" = some none)
  (fo_NoLength:∀ od,PySem.W.findObj K c_NoLength od "__class__" = some (.bind (.builtin "getset_descriptor.__get__") (.builtin "object.__class__")))
  (mo_NoLength:PySem.W.mroIn K c_NoLength (.type "object")=some true)
  (mb_NoLength:PySem.W.mroIn K c_NoLength (.type "BaseException")=some true)
  (ds:Dist ⟨c_BarError,c_NoLength,c_NoNumber,c_NoBars,c_NoBox,c_NoWeights,c_NoSorts,c_NoTurn,c_NoPlace,c_NoText,c_NoRow,c_TooMany,ff0,ff1,ff2,ff3,ff4,ff5,ff6,ff7,ff8,ff9,ff10,ff11,ff12,ff13,ff14,ff15,ff16,ff17,ff18,ff19⟩) :
  ∃ fd:FuncData,(∀ (s:Shared) (v:Value),BindsTo s fd ⟨[v],[]⟩ [("_law_script",v)]) ∧ ∀ base:Heap,K.In base->base.Ns mainGlobals mg->FnOk l.prog w K mg base (CXF l.prog w) 10 fa fd ["_law_script"] (spL K):=by
 have e:ff19=fa:=Value.ref.inj (Option.some.inj ((PySem.W.mg_of X G aa19).symm.trans hfa))
 subst e
 have V:Env K mg ⟨c_BarError,c_NoLength,c_NoNumber,c_NoBars,c_NoBox,c_NoWeights,c_NoSorts,c_NoTurn,c_NoPlace,c_NoText,c_NoRow,c_TooMany,ff0,ff1,ff2,ff3,ff4,ff5,ff6,ff7,ff8,ff9,ff10,ff11,ff12,ff13,ff14,ff15,ff16,ff17,ff18,ff19⟩:=by
  refine { kit:=⟨fun t c b hk => ?_,fun x c b hk => ?_⟩,n_ValueError:=PySem.W.mg_none_of X G n_ValueError,n_all:=PySem.W.mg_none_of X G n_all,n_bool:=PySem.W.mg_none_of X G n_bool,n_int:=PySem.W.mg_none_of X G n_int,n_isinstance:=PySem.W.mg_none_of X G n_isinstance,n_len:=PySem.W.mg_none_of X G n_len,n_list:=PySem.W.mg_none_of X G n_list,n_max:=PySem.W.mg_none_of X G n_max,n_min:=PySem.W.mg_none_of X G n_min,n_range:=PySem.W.mg_none_of X G n_range,n_set:=PySem.W.mg_none_of X G n_set,n_sorted:=PySem.W.mg_none_of X G n_sorted,n_sum:=PySem.W.mg_none_of X G n_sum,n_tuple:=PySem.W.mg_none_of X G n_tuple,n_zip:=PySem.W.mg_none_of X G n_zip,c_LEAST_LENGTH:=⟨_,PySem.W.mg_of X G g_LEAST_LENGTH⟩,c_MOST_LENGTH:=⟨_,PySem.W.mg_of X G g_MOST_LENGTH⟩,k_BarError:=PySem.W.mg_of X G q_BarError,k_NoLength:=PySem.W.mg_of X G q_NoLength,k_NoNumber:=PySem.W.mg_of X G q_NoNumber,k_NoBars:=PySem.W.mg_of X G q_NoBars,k_NoBox:=PySem.W.mg_of X G q_NoBox,k_NoWeights:=PySem.W.mg_of X G q_NoWeights,k_NoSorts:=PySem.W.mg_of X G q_NoSorts,k_NoTurn:=PySem.W.mg_of X G q_NoTurn,k_NoPlace:=PySem.W.mg_of X G q_NoPlace,k_NoText:=PySem.W.mg_of X G q_NoText,k_NoRow:=PySem.W.mg_of X G q_NoRow,k_TooMany:=PySem.W.mg_of X G q_TooMany,x_NoLength:=qFb xl_NoLength xm_NoLength xs_NoLength xd_NoLength (by rw [xn_NoLength];exact Jr xo_NoLength xe_NoLength) (by rw [xn_NoLength];exact xi_NoLength) oB (by rw [nB];exact Jr oNB eNB) (by rw [nB];exact iNB),e_NoLength:=e_NoLength,o_BarError:=⟨_,_,_,oB⟩,b_BarError:=bB,m_is_whole:=PySem.W.mg_of X G aa0,f_is_whole:=⟨_,QW (st:=wU) ll0 dd0 kk0⟩,m_is_whole_within:=PySem.W.mg_of X G aa1,f_is_whole_within:=⟨_,QW (st:=QE) ll1 dd1 kk1⟩,m_is_length:=PySem.W.mg_of X G aa2,f_is_length:=⟨_,QW (st:=wI) ll2 dd2 kk2⟩,m_need_length:=PySem.W.mg_of X G aa3,f_need_length:=⟨_,QW (st:=QV) ll3 dd3 kk3⟩,m_rests:=PySem.W.mg_of X G aa4,f_rests:=⟨_,QW (st:=Wo) ll4 dd4 kk4⟩,m_first_apart:=PySem.W.mg_of X G aa5,f_first_apart:=⟨_,QW (st:=Qr) ll5 dd5 kk5⟩,m_sums_of:=PySem.W.mg_of X G aa6,f_sums_of:=⟨_,QW (st:=ww) ll6 dd6 kk6⟩,m_law_cell:=PySem.W.mg_of X G aa7,f_law_cell:=⟨_,QW (st:=wb) ll7 dd7 kk7⟩,m_law_box:=PySem.W.mg_of X G aa8,f_law_box:=⟨_,QW (st:=wx) ll8 dd8 kk8⟩,m_law_take:=PySem.W.mg_of X G aa9,f_law_take:=⟨_,QW (st:=wZ) ll9 dd9 kk9⟩,m_law_kind:=PySem.W.mg_of X G aa10,f_law_kind:=⟨_,QW (st:=wS) ll10 dd10 kk10⟩,m_law_same:=PySem.W.mg_of X G aa11,f_law_same:=⟨_,QW (st:=wE) ll11 dd11 kk11⟩,m_law_no_length:=PySem.W.mg_of X G aa12,f_law_no_length:=⟨_,QW (st:=QP) ll12 dd12 kk12⟩,m_law_cover:=PySem.W.mg_of X G aa13,f_law_cover:=⟨_,QW (st:=Q2) ll13 dd13 kk13⟩,m_law_put:=PySem.W.mg_of X G aa14,f_law_put:=⟨_,QW (st:=wX) ll14 dd14 kk14⟩,m_law_floor:=PySem.W.mg_of X G aa15,f_law_floor:=⟨_,QW (st:=Q1) ll15 dd15 kk15⟩,m_law_rests:=PySem.W.mg_of X G aa16,f_law_rests:=⟨_,QW (st:=wF) ll16 dd16 kk16⟩,m_law_apart:=PySem.W.mg_of X G aa17,f_law_apart:=⟨_,QW (st:=wH) ll17 dd17 kk17⟩,m_law_asked:=PySem.W.mg_of X G aa18,f_law_asked:=⟨_,QW (st:=Q0) ll18 dd18 kk18⟩,m_law:=PySem.W.mg_of X G aa19,f_law:=⟨_,QW (st:=Wp) ll19 dd19 kk19⟩ }
  ·have hnd:=ds.nd
   unfold kit at hk
   split at hk
   ·exact qEl hk
   ·split at hk
    ·rename_i x d hx
     cases hk
     have hx1:=hx.1
     have hx2:=hx.2
     unfold Qi at hx1
     unfold Ad.kinds at hx2
     simp only [List.mem_cons,List.not_mem_nil,or_false] at hx1 hx2
     have e1:=hx1
     ·rcases hx2 with e2 |e2 |e2 |e2 |e2 |e2 |e2 |e2 |e2 |e2 |e2
      ·rw [e1,e2,beq_self_eq_true];exact w_NoLength_NoLength
      ·rw [e1,e2,show (c_NoLength==c_NoNumber)=false from beq_eq_false_iff_ne.mpr (qr ds).1];exact w_NoLength_NoNumber
      ·rw [e1,e2,show (c_NoLength==c_NoBars)=false from beq_eq_false_iff_ne.mpr (qr ds).2.1];exact w_NoLength_NoBars
      ·rw [e1,e2,show (c_NoLength==c_NoBox)=false from beq_eq_false_iff_ne.mpr (qr ds).2.2.1];exact w_NoLength_NoBox
      ·rw [e1,e2,show (c_NoLength==c_NoWeights)=false from beq_eq_false_iff_ne.mpr (qr ds).2.2.2.1];exact w_NoLength_NoWeights
      ·rw [e1,e2,show (c_NoLength==c_NoSorts)=false from beq_eq_false_iff_ne.mpr (qr ds).2.2.2.2.1];exact w_NoLength_NoSorts
      ·rw [e1,e2,show (c_NoLength==c_NoTurn)=false from beq_eq_false_iff_ne.mpr (qr ds).2.2.2.2.2.1];exact w_NoLength_NoTurn
      ·rw [e1,e2,show (c_NoLength==c_NoPlace)=false from beq_eq_false_iff_ne.mpr (qr ds).2.2.2.2.2.2.1];exact w_NoLength_NoPlace
      ·rw [e1,e2,show (c_NoLength==c_NoText)=false from beq_eq_false_iff_ne.mpr (qr ds).2.2.2.2.2.2.2.1];exact w_NoLength_NoText
      ·rw [e1,e2,show (c_NoLength==c_NoRow)=false from beq_eq_false_iff_ne.mpr (qr ds).2.2.2.2.2.2.2.2.1];exact w_NoLength_NoRow
      ·rw [e1,e2,show (c_NoLength==c_TooMany)=false from beq_eq_false_iff_ne.mpr (qr ds).2.2.2.2.2.2.2.2.2];exact w_NoLength_TooMany
    ·cases hk
   ·split at hk
    ·rename_i x T hx
     cases hk
     have hx1:=hx.1
     have hx2:=hx.2
     subst hx2
     unfold Qi at hx1
     simp only [List.mem_cons,List.not_mem_nil,or_false] at hx1
     have e1:=hx1
     ·rw [e1];exact v_NoLength
    ·cases hk
   ·cases hk
  ·have hm:=qDy hk
   unfold Qi at hm
   simp only [List.mem_cons,List.not_mem_nil,or_false] at hm
   have e1:=hm
   ·rw [e1];exact ⟨ga_NoLength,gn_NoLength,fo_NoLength,mo_NoLength,mb_NoLength⟩
 refine ⟨PySem.W.fnOf "law" "law" (qf Wp) (qe Wp) (qJ Wp) .none kV19 dc19 pm19 an19 cd19 ct19,fun s v => .of_eq rfl,fun base _ _ => ?_⟩
 exact qEi (qHR V (QW (st:=Wp) ll19 dd19 kk19)) fun vs H Q E q=>q _ ds
theorem qCt {l:PySem.W.OpenLaw} {n k:Nat} {q:Program} {loose:List Str} {XP:(Str->Option Value)->Heap->Prop} {YP:World->Heap->Prop} {d:DefRec} {K:Params->W.Frag} {CX:World->CXT} {sp:World->Sp} {x:Str}
  (hn:l.most=some n) (hn2:n≤sizeLine) (hdf:d.params.defaults=[]) (hr:Room k callerA)
  (hY:∀ (w:World) (h:Heap),YP w h->(K w.params).In h)
  (F:∀ (w:World) (mg:Str->Option Value) (fa:Addr) (h:Heap),(K w.params).In h->h.Ns mainGlobals mg->XP mg h->mg d.name=some (.ref fa) ->
   ∃ fd:FuncData,(∀ (s:Shared) (u:Value),BindsTo s fd ⟨[u],[]⟩ [(x,u)]) ∧
    ∀ base:Heap,(K w.params).In base->base.Ns mainGlobals mg->FnOk l.prog w (K w.params) mg base (CX w) k fa fd [x] (sp w))
  (hsp:∀ (w:World) (H:Hp) (a:Addr) (ns:List Int),ns.length≤n->(∀ k∈ns,Builtin.Int.intBits k≤2 ^ 20)->qGM H->SqL (K w.params) H a (ns.map V.int)->sp w [.ref a] H (fun v _=>v = .bl true) fun _ _ _=>False)
  (hCX:∀ (w:World) (H:Hp) (s:Shared) (e:Value) (s':Shared),CX w [] H s (fun _ _ _=>False) e s'->False) :
  PySem.W.WalkO q loose XP YP l.row.toRowW d [] (fun f vs=>PySem.call f vs):=by
 refine Att.attach_callB hn hdf fun w s₀ s₁ mg mb fa o pm cd doc a vs ns G Y ho hd hcd hmg hobj hints hlen hbits hg => ?_
 have KX:=hY w _ Y
 obtain ⟨fd,hb,hF⟩:=F w mg fa _ KX G.T.g G.X hmg
 exact qCq KX G.T.g G.T.b G.T.builtins G.T.nolimit hg hobj hints (Nat.le_trans hlen hn2) hr hF hb (fun H hO hS=>hsp w H a ns hlen hbits hO hS) fun H e s'=>hCX w H s₁ e s'
theorem W3 {K:W.Frag} {H:Hp} {b:Bz}:∀ ns:List Int,RVs K H b (ns.map PV.int) (ns.map V.int)
 |[]=>RVs.nil
 |n::ns=>RVs.cons Qj (W3 ns)
theorem qCJ (key:∀ (a:Ad) (ns:List Int),Dist a->ns.length≤63->(∀ k∈ns,Builtin.Int.intBits k≤2 ^ 20) -> ∃ st,jU a [.lst (ns.map PV.int)] [] = .ok (.bl true) st) {K:W.Frag} {H:Hp} {a:Addr} {ns:List Int} (hl:ns.length≤63) (hb:∀ k∈ns,Builtin.Int.intBits k≤2 ^ 20) (hS:SqL K H a (ns.map V.int)):spL K [.ref a] H (fun v _=>v = .bl true) fun _ _ _=>False:=by
 intro ad hd
 obtain ⟨st,e⟩:=key ad ns hd hl hb
 refine ⟨rfl,⟨[],[]⟩,[.lst (ns.map PV.int)],[],⟨rfl,List.nodup_nil,fun i x h=>by simp at h,fun a ha=>(List.not_mem_nil ha).elim,fun a ha=>(List.not_mem_nil ha).elim⟩,RVs.cons ?_ RVs.nil,?_⟩
 ·unfold RV
  exact ⟨a,_,rfl,hS.imp (fun h=>⟨h,List.not_mem_nil,List.not_mem_nil⟩) id,W3 ns⟩
 ·rw [e]
  intro v H' b' _ _ r
  unfold RV at r
  exact r
theorem walk31 (key:∀ (a:Ad) (ns:List Int),Dist a->ns.length≤63->(∀ k∈ns,Builtin.Int.intBits k≤2 ^ 20) -> ∃ st,jU a [.lst (ns.map PV.int)] [] = .ok (.bl true) st) {l:PySem.W.OpenLaw} {q:Program} {loose:List Str} {XP:(Str->Option Value)->Heap->Prop} {YP:World->Heap->Prop} {d:DefRec} {K:Params->W.Frag} (hn:l.most=some 63) (hdf:d.params.defaults=[])
  (hY:∀ (w:World) (h:Heap),YP w h->(K w.params).In h)
  (F:∀ (w:World) (mg:Str->Option Value) (fa:Addr) (h:Heap),(K w.params).In h->h.Ns mainGlobals mg->XP mg h->mg d.name=some (.ref fa) ->
   ∃ fd:FuncData,(∀ (s:Shared) (u:Value),BindsTo s fd ⟨[u],[]⟩ [("_law_script",u)]) ∧ ∀ base:Heap,(K w.params).In base->base.Ns mainGlobals mg->FnOk l.prog w (K w.params) mg base (CXF l.prog w) 10 fa fd ["_law_script"] (spL (K w.params))) :
  PySem.W.WalkO q loose XP YP l.row.toRowW d [] (fun f vs=>PySem.call f vs) :=
 qCt (n:=63) (k:=10) (x := "_law_script") (CX:=fun w=>CXF l.prog w) (sp:=fun w=>spL (K w.params)) hn (by decide) hdf ⟨fun _=>rfl,by decide,by decide,rfl⟩ hY F (fun _ _ a ns hl hb _ hS=>qCJ key hl hb hS) fun _ _ _ _ _ z=>by
  obtain ⟨_,_,_,_,_,_,_,_,_,_,_,_,q⟩:=z
  exact q
end K12
end
section
def PySem.W.Fast.tw12583190634139800887:Nat:=0
def PySem.W.Fast.tw4785039192974445540:Nat:=0
def PySem.W.Fast.tw17590263423952574035:Nat:=0
def PySem.W.Fast.tw12107086607175393167:Nat:=0
def PySem.W.Fast.tw13644631073479820233:Nat:=0
def PySem.W.Fast.tw8011638787370180448:Nat:=0
def PySem.W.Fast.tw16618471127733908486:Nat:=0
def PySem.W.Fast.tw4018022401363224174:Nat:=0
def PySem.W.Fast.tw10611902108741560532:Nat:=0
def PySem.W.Fast.tw12492290489359358654:Nat:=0
def PySem.W.Fast.tw1237606122259089175:Nat:=0
def PySem.W.Fast.tw1199813291886580366:Nat:=0
def PySem.W.Fast.tw16336182692760070360:Nat:=0
def PySem.W.Fast.tw5018547732169779226:Nat:=0
def PySem.W.Fast.tw16377819163215338581:Nat:=0
def PySem.W.Fast.tw7891437516196714450:Nat:=0
def PySem.W.Fast.tw7939472727894311370:Nat:=0
def PySem.W.Fast.tw17440906568377066977:Nat:=0
def PySem.W.Fast.tw5273751776047128712:Nat:=0
def PySem.W.Fast.tw10111799652421794236:Nat:=0
def PySem.W.Fast.tw1600754645597645438:Nat:=0
def PySem.W.Fast.tw6733167408018998501:Nat:=0
def PySem.W.Fast.tw1419705585349350000:Nat:=0
def PySem.W.Fast.tw6632438723241615112:Nat:=0
def PySem.W.Fast.tw6571002529660597859:Nat:=0
def PySem.W.Fast.tw15709929307327731796:Nat:=0
def PySem.W.Fast.tw7903105765663682492:Nat:=0
def PySem.W.Fast.tw562897207750284657:Nat:=0
def PySem.W.Fast.tw17277010479454154279:Nat:=0
def PySem.W.Fast.tw17326938110066436527:Nat:=0
def PySem.W.Fast.tw5392202565521917715:Nat:=0
def PySem.W.Fast.tw12316443978684219689:Nat:=0
def PySem.W.Fast.tw1909384469648064420:Nat:=0
def PySem.W.Fast.tw13821480460638130719:Nat:=0
def PySem.W.Fast.tw4519115343939449580:Nat:=0
def PySem.W.Fast.tw17226653315132561317:Nat:=0
def PySem.W.Fast.tw1326480646441013955:Nat:=0
def PySem.W.Fast.tw5153097348384693703:Nat:=0
def PySem.W.Fast.tw11235318168246259835:Nat:=0
open PySem PySem.W PyProof.Rows
set_option maxRecDepth 100000 in
set_option maxHeartbeats 0 in
theorem PySem.Challenge.cw_barfloors_k12_sums_or_rests_apart_holds : PySem.Challenge.rw_barfloors_k12_sums_or_rests_apart.Holds := by
  w_on; o_law; k_head; (case hw => w_witness2)
  k_fill
  refine K12.walk31 K12.law_true (l := PySem.Challenge.rw_barfloors_k12_sums_or_rests_apart) rfl rfl (fun w h Y => PySem.W.kIn_of Y) ?F
  case F =>
    intro w mg fa h KX G XX hmg
    refine' K12.all_mk KX G hmg ?aa0 ?ll0 ?dd0 ?kk0 ?aa1 ?ll1 ?dd1 ?kk1 ?aa2 ?ll2 ?dd2 ?kk2 ?aa3 ?ll3 ?dd3 ?kk3 ?aa4 ?ll4 ?dd4 ?kk4 ?aa5 ?ll5 ?dd5 ?kk5 ?aa6 ?ll6 ?dd6 ?kk6 ?aa7 ?ll7 ?dd7 ?kk7 ?aa8 ?ll8 ?dd8 ?kk8 ?aa9 ?ll9 ?dd9 ?kk9 ?aa10 ?ll10 ?dd10 ?kk10 ?aa11 ?ll11 ?dd11 ?kk11 ?aa12 ?ll12 ?dd12 ?kk12 ?aa13 ?ll13 ?dd13 ?kk13 ?aa14 ?ll14 ?dd14 ?kk14 ?aa15 ?ll15 ?dd15 ?kk15 ?aa16 ?ll16 ?dd16 ?kk16 ?aa17 ?ll17 ?dd17 ?kk17 ?aa18 ?ll18 ?dd18 ?kk18 ?aa19 ?ll19 ?dd19 ?kk19 ?n_ValueError ?n_all ?n_bool ?n_int ?n_isinstance ?n_len ?n_list ?n_max ?n_min ?n_range ?n_set ?n_sorted ?n_sum ?n_tuple ?n_zip ?g_LEAST_LENGTH ?g_MOST_LENGTH ?q_BarError ?q_NoLength ?q_NoNumber ?q_NoBars ?q_NoBox ?q_NoWeights ?q_NoSorts ?q_NoTurn ?q_NoPlace ?q_NoText ?q_NoRow ?q_TooMany ?oB ?nB ?oNB ?eNB ?iNB ?bB ?xl_NoLength ?xm_NoLength ?xs_NoLength ?xd_NoLength ?xn_NoLength ?xo_NoLength ?xe_NoLength ?xi_NoLength ?e_NoLength ?v_NoLength ?w_NoLength_NoLength ?w_NoLength_NoNumber ?w_NoLength_NoBars ?w_NoLength_NoBox ?w_NoLength_NoWeights ?w_NoLength_NoSorts ?w_NoLength_NoTurn ?w_NoLength_NoPlace ?w_NoLength_NoText ?w_NoLength_NoRow ?w_NoLength_TooMany ?ga_NoLength ?gn_NoLength ?fo_NoLength ?mo_NoLength ?mb_NoLength ?ds
    (case aa0 => k_is)
    (case ll0 => k_is)
    (case dd0 => k_is)
    (case kk0 => k_is)
    (case aa1 => k_is)
    (case ll1 => k_is)
    (case dd1 => k_is)
    (case kk1 => k_is)
    (case aa2 => k_is)
    (case ll2 => k_is)
    (case dd2 => k_is)
    (case kk2 => k_is)
    (case aa3 => k_is)
    (case ll3 => k_is)
    (case dd3 => k_is)
    (case kk3 => k_is)
    (case aa4 => k_is)
    (case ll4 => k_is)
    (case dd4 => k_is)
    (case kk4 => k_is)
    (case aa5 => k_is)
    (case ll5 => k_is)
    (case dd5 => k_is)
    (case kk5 => k_is)
    (case aa6 => k_is)
    (case ll6 => k_is)
    (case dd6 => k_is)
    (case kk6 => k_is)
    (case aa7 => k_is)
    (case ll7 => k_is)
    (case dd7 => k_is)
    (case kk7 => k_is)
    (case aa8 => k_is)
    (case ll8 => k_is)
    (case dd8 => k_is)
    (case kk8 => k_is)
    (case aa9 => k_is)
    (case ll9 => k_is)
    (case dd9 => k_is)
    (case kk9 => k_is)
    (case aa10 => k_is)
    (case ll10 => k_is)
    (case dd10 => k_is)
    (case kk10 => k_is)
    (case aa11 => k_is)
    (case ll11 => k_is)
    (case dd11 => k_is)
    (case kk11 => k_is)
    (case aa12 => k_is)
    (case ll12 => k_is)
    (case dd12 => k_is)
    (case kk12 => k_is)
    (case aa13 => k_is)
    (case ll13 => k_is)
    (case dd13 => k_is)
    (case kk13 => k_is)
    (case aa14 => k_is)
    (case ll14 => k_is)
    (case dd14 => k_is)
    (case kk14 => k_is)
    (case aa15 => k_is)
    (case ll15 => k_is)
    (case dd15 => k_is)
    (case kk15 => k_is)
    (case aa16 => k_is)
    (case ll16 => k_is)
    (case dd16 => k_is)
    (case kk16 => k_is)
    (case aa17 => k_is)
    (case ll17 => k_is)
    (case dd17 => k_is)
    (case kk17 => k_is)
    (case aa18 => k_is)
    (case ll18 => k_is)
    (case dd18 => k_is)
    (case kk18 => k_is)
    (case aa19 => k_is)
    (case ll19 => k_is)
    (case dd19 => k_is)
    (case kk19 => k_is)
    (case n_ValueError => k_is)
    (case n_all => k_is)
    (case n_bool => k_is)
    (case n_int => k_is)
    (case n_isinstance => k_is)
    (case n_len => k_is)
    (case n_list => k_is)
    (case n_max => k_is)
    (case n_min => k_is)
    (case n_range => k_is)
    (case n_set => k_is)
    (case n_sorted => k_is)
    (case n_sum => k_is)
    (case n_tuple => k_is)
    (case n_zip => k_is)
    (case g_LEAST_LENGTH => k_is)
    (case g_MOST_LENGTH => k_is)
    (case q_BarError => k_is)
    (case q_NoLength => k_is)
    (case q_NoNumber => k_is)
    (case q_NoBars => k_is)
    (case q_NoBox => k_is)
    (case q_NoWeights => k_is)
    (case q_NoSorts => k_is)
    (case q_NoTurn => k_is)
    (case q_NoPlace => k_is)
    (case q_NoText => k_is)
    (case q_NoRow => k_is)
    (case q_TooMany => k_is)
    (case oB => k_is)
    (case nB => rfl)
    (case oNB => k_is)
    (case eNB => rfl)
    (case iNB => k_is)
    (case bB => k_is)
    (case xl_NoLength => k_is)
    (case xm_NoLength => rfl)
    (case xs_NoLength => rfl)
    (case xd_NoLength => rfl)
    (case xn_NoLength => rfl)
    (case xo_NoLength => k_is)
    (case xe_NoLength => rfl)
    (case xi_NoLength => k_is)
    (case e_NoLength => k_is)
    (case v_NoLength => rfl)
    (case w_NoLength_NoLength => rfl)
    (case w_NoLength_NoNumber => rfl)
    (case w_NoLength_NoBars => rfl)
    (case w_NoLength_NoBox => rfl)
    (case w_NoLength_NoWeights => rfl)
    (case w_NoLength_NoSorts => rfl)
    (case w_NoLength_NoTurn => rfl)
    (case w_NoLength_NoPlace => rfl)
    (case w_NoLength_NoText => rfl)
    (case w_NoLength_NoRow => rfl)
    (case w_NoLength_TooMany => rfl)
    (case ga_NoLength => k_is)
    (case gn_NoLength => k_is)
    (case fo_NoLength => (intro od; rfl))
    (case mo_NoLength => k_is)
    (case mb_NoLength => k_is)
    (case ds => decide)
end
