import PyProof.Rows.All
import Wide.All
import OpenK.AllK
import Wide.FinOn
import PyProof.EqAt
import PyProof.EqKinds
import PyProof.TupleCall
import Lean
import PyProof.NeKinds
import PyProof.Rows.RuleDivmod
import PyProof.Rows.FactsN_divmod
import PyProof.DictItems
import KE.KPairComp
import PyProof.Draws
import PySem.Challenge.RW_barfloors_k73_rules_told
set_option Elab.async false
set_option linter.all false
set_option maxRecDepth 100000
set_option maxHeartbeats 0
section
namespace EX
open PySem PySem.Spec PyProof.Rows
theorem qAU:entryFor table "proto.unchain" = some Builtin.«proto.unchain» := entryFor_of_fast (by kernel_rfl)
def Hnd (A:Around) (h:Heap):Prop := ∀ v,A.handled=some v -> ∃ ea oe vs,v=Value.ref ea∧h.get? ea=some oe∧oe.data = .fields vs∧vs[2]? = some .none
section
variable {prog:Program} {w:World} {A:Around} {E:Value->Shared->Prop} {s:Shared}
theorem qA1 {e v:Value} {ea:Addr} {oe:Obj} {vs:Array Value} {Q:Value->Shared->Prop} (ho:s.heap.get? ea=some oe) (hd:oe.data = .fields vs) (h2:vs[2]? = some .none) (hq:Q .none s) :
  wpAny (model prog w) A (runValue (.builtin "proto.unchain" ⟨[e,.ref ea,v,.bool false],[]⟩)) Q E s:=by
 refine wpAny_runValue (codeAny_builtin qAU ?_)
 unfold Builtin.«proto.unchain»
 dsimp only
 refine wpAny_bind (wpAny_field ho hd h2 ?_)
 rw [if_pos (show (Value.none==Value.none)=true by rfl)]
 refine wpAny_bind (wpAny_pure (wpAny_pure ?_))
 exact hq
theorem qBc {α:Type} {e:Addr} {oe:Obj} {vs:Array Value} {Q:α->Shared->Prop} (hn:Hnd A s.heap) (he:s.heap.get? e=some oe) (hd:oe.data = .fields vs) (hsz:2 < vs.size) (hne:∀ ea,A.handled=some (.ref ea)->ea≠e)
  (h:∀ h' o',Heap.SameBut e s.heap h'->h'.get? e=some o'->o'.cls=oe.cls->E (.ref e) { s with heap:=h' }):wpAny (model prog w) A (raiseNew (.ref e):Sem α) Q E s:=by
 unfold raiseNew
 refine wpAny_bind (wpAny_handled ?_)
 cases hh:A.handled with
 |none=>exact wpAny_bind (wpAny_pure (wpAny_throw (h s.heap oe (.refl ..) he rfl)))
 |some v =>
  obtain ⟨ea,o,ws,rfl,ho,hdo,h2⟩:=hn v hh
  have hne':=hne ea hh
  have hb:(Value.ref ea != Value.ref e)=true:=by
   rw [bne_iff_ne];intro z;cases z;exact hne' rfl
  dsimp only
  rw [if_pos hb]
  refine wpAny_bind (wpAny_holding (qA1 ho hdo h2 ?_))
  refine wpAny_bind (wpAny_setField (x:=Value.ref ea) he hd hsz (wpAny_throw ?_))
  exact h _ _ (Heap.SameBut.update ..) (Heap.get?_update_self _ he (Obj.isFreed_of_fields (Obj.data_mapFields hd _))) (Obj.cls_mapFields ..)
theorem Wk {α:Type} {Q:α->Shared->Prop} (hn:Hnd A s.heap) (h:∀ h' e,(∀ b o,s.heap.get? b=some o->h'.get? b=some o)->(∃ o',h'.get? e=some o'∧o'.cls = .type "StopIteration")->E (.ref e) { s with heap:=h' }) :
  wpAny (model prog w) A (newExc (.type "StopIteration") [] >>= fun e=>(raiseNew e:Sem α)) Q E s:=by
 refine wpAny_bind ?_
 unfold newExc newTuple
 refine wpAny_bind (wpAny_newObj_type ?_ (by size_fits))
 refine wpAny_bind (m:=firstArgMember _ _) (wpAny_of_eq (a:=Value.none) (by first |rfl |(simp only [firstArgMember];rfl)) ?_)
 refine wpAny_newObj_type ?_ (by size_fits)
 have up:∀ {b o},s.heap.get? b=some o->((s.heap.push { cls := .type "tuple",data := .seq ([]:List Value).toArray }).push { cls := .type "StopIteration",data := .fields (#[.ref s.heap.objs.size,.none,.none,.none,.bool false,.none]++ownMembersOf (.type "StopIteration") []) }).get? b=some o:=fun q=>Heap.get?_push_of_some _ (Heap.get?_push_of_some _ q)
 refine qBc (oe:={ cls := .type "StopIteration",data := .fields (#[.ref s.heap.objs.size,.none,.none,.none,.bool false,.none]++ownMembersOf (.type "StopIteration") []) }) ?_ (Heap.get?_push_size _ rfl) rfl (by simp [ownMembersOf]) (fun ea hea => ?_) fun h' o' sb ho' hc=>h h' _ (fun b o q => ?_) ⟨o',ho',hc⟩
 ·intro v hv
  obtain ⟨ea,oe,vs,e1,e2,e3⟩:=hn v hv
  exact ⟨ea,oe,vs,e1,up e2,e3⟩
 ·obtain ⟨ea',oe,vs,e1,e2,e3⟩:=hn _ hea
  cases e1
  exact Nat.ne_of_lt (Nat.lt_trans (Heap.lt_size e2) (by simp))
 ·exact (sb.2 b (Nat.ne_of_lt (Nat.lt_trans (Heap.lt_size q) (by simp)))).trans (up q)
theorem list_end {it l:Addr} {i:Nat} {items} {Q:Option Value->Shared->Prop} (hn:Hnd A s.heap) (z1:s.heap.IsListIter it l i) (z2:s.heap.IsList l items) (z3:items[i]? = none) (z4:∀ v,A.handled=some v->v ≠ .ref it)
  (hQ:∀ h',(∀ b o,b≠it->s.heap.get? b=some o->h'.get? b=some o)->Q none { s with heap:=h' }):wpAny (model prog w) A (pyNext (.ref it)) Q E s:=by
 obtain ⟨ob,g1,g2,g3⟩:=id z1
 obtain ⟨ol,g4,_,nl,g5⟩:=z2
 unfold pyNext
 refine wpAny_bind (wpAny_attempt (wpAny_callSpecial?_slot (name:=Str.ofString "__next__") z1.typeIs slot_listiter_next (wpAny_call_entry slot_listiter_next z1.typeIs entry_listiter_next ?_ (args_listiter_next _))))
 change wpAny _ A.in1 (field (Value.ref it) 0 >>= _) _ _ s
 refine wpAny_bind (wpAny_field g1 g3 (x:=Value.ref l) rfl ?_)
 change wpAny _ A.in1 (if (Value.ref l==Value.none)=true then _ else _) _ _ s
 rw [if_neg (fun z:(Value.ref l==Value.none)=true=>Bool.false_ne_true z)]
 change wpAny _ A.in1 (field (Value.ref it) 1 >>= _) _ _ s
 refine wpAny_bind (wpAny_field g1 g3 (x:=Value.int i 0) rfl ?_)
 change wpAny _ A.in1 (seqItems? (Value.ref l) >>= _) _ _ s
 refine wpAny_bind (wpAny_seqItems g4 g5 ?_)
 simp only [Int.toNat_natCast,z3]
 refine wpAny_bind (wpAny_rule (wpAny_bind (wpAny_setField g1 g3 (by simp) ?_)))
 refine Wk (A:=A.in1) ?_ fun h' e k ht => ?_
 ·intro v hv
  obtain ⟨ea,oe,vs,e1,e2,e3⟩:=hn v hv
  refine ⟨ea,oe,vs,e1,?_,e3⟩
  have hne:ea≠it:=fun z=>z4 v hv (by rw [e1,z])
  exact (Heap.get?_update_other _ _ (Ne.symm hne)).trans e2
 ·refine wpAny_bind (wpAny_isInstance (T := "StopIteration") (b:=true) ht isSubtype_stop ?_)
  exact wpAny_pure (hQ _ fun b o' hb q=>k b o' ((Heap.get?_update_other _ _ (Ne.symm hb)).trans q))
theorem tuple_end {it l:Addr} {i:Nat} {items} {Q:Option Value->Shared->Prop} (hn:Hnd A s.heap) (z1:s.heap.IsTupleIter it l i) (z2:s.heap.IsTuple l items) (z3:items[i]? = none) (z4:∀ v,A.handled=some v->v ≠ .ref it)
  (hQ:∀ h',(∀ b o,b≠it->s.heap.get? b=some o->h'.get? b=some o)->Q none { s with heap:=h' }):wpAny (model prog w) A (pyNext (.ref it)) Q E s:=by
 obtain ⟨ob,g1,g2,g3⟩:=id z1
 obtain ⟨ol,g4,_,nl,g5⟩:=z2
 unfold pyNext
 refine wpAny_bind (wpAny_attempt (wpAny_callSpecial?_slot (name:=Str.ofString "__next__") z1.typeIs F.slot_tuple_iterator_next (wpAny_call_entry F.slot_tuple_iterator_next z1.typeIs F.entry_tuple_iterator_next ?_ (F.args_tuple_iterator_next_1 _))))
 change wpAny _ A.in1 (field (Value.ref it) 0 >>= _) _ _ s
 refine wpAny_bind (wpAny_field g1 g3 (x:=Value.ref l) rfl ?_)
 change wpAny _ A.in1 (if (Value.ref l==Value.none)=true then _ else _) _ _ s
 rw [if_neg (fun z:(Value.ref l==Value.none)=true=>Bool.false_ne_true z)]
 change wpAny _ A.in1 (field (Value.ref it) 1 >>= _) _ _ s
 refine wpAny_bind (wpAny_field g1 g3 (x:=Value.int i 0) rfl ?_)
 change wpAny _ A.in1 (seqItems? (Value.ref l) >>= _) _ _ s
 refine wpAny_bind (wpAny_seqItems g4 g5 ?_)
 simp only [Int.toNat_natCast,z3]
 refine wpAny_bind (wpAny_rule (wpAny_bind (wpAny_setField g1 g3 (by simp) ?_)))
 refine Wk (A:=A.in1) ?_ fun h' e k ht => ?_
 ·intro v hv
  obtain ⟨ea,oe,vs,e1,e2,e3⟩:=hn v hv
  refine ⟨ea,oe,vs,e1,?_,e3⟩
  have hne:ea≠it:=fun z=>z4 v hv (by rw [e1,z])
  exact (Heap.get?_update_other _ _ (Ne.symm hne)).trans e2
 ·refine wpAny_bind (wpAny_isInstance (T := "StopIteration") (b:=true) ht isSubtype_stop ?_)
  exact wpAny_pure (hQ _ fun b o' hb q=>k b o' ((Heap.get?_update_other _ _ (Ne.symm hb)).trans q))
theorem range_end {it:Addr} {x left step:Int} {Q:Option Value->Shared->Prop} (hn:Hnd A s.heap) (z1:IsRangeIter s.heap it x left step) (z2:left≤0)
  (hQ:∀ h',(∀ b o,s.heap.get? b=some o->h'.get? b=some o)->Q none { s with heap:=h' }):wpAny (model prog w) A (pyNext (.ref it)) Q E s:=by
 have z0:s.TypeIs (.ref it) "range_iterator" := ⟨_,z1,rfl⟩
 unfold pyNext
 refine wpAny_bind (wpAny_attempt (wpAny_callSpecial?_slot (name:=Str.ofString "__next__") z0 F.slot_range_iterator_next (wpAny_call_entry F.slot_range_iterator_next z0 F.entry_range_iterator_next ?_ (F.args_range_iterator_next_1 _))))
 change wpAny _ A.in1 (field (Value.ref it) 0 >>= _) _ _ s
 refine wpAny_bind (wpAny_field z1 rfl (x:=rawInt x) rfl ?_)
 change wpAny _ A.in1 (field (Value.ref it) 1 >>= _) _ _ s
 refine wpAny_bind (wpAny_field z1 rfl (x:=rawInt left) rfl ?_)
 change wpAny _ A.in1 (field (Value.ref it) 2 >>= _) _ _ s
 refine wpAny_bind (wpAny_field z1 rfl (x:=rawInt step) rfl ?_)
 change wpAny _ A.in1 (if left≤0 then _ else _) _ _ s
 rw [if_pos z2]
 refine wpAny_bind (wpAny_rule (wpAny_bind ?_))
 refine Wk (A:=A.in1) hn fun h' e k ht => ?_
 refine wpAny_bind (wpAny_isInstance (T := "StopIteration") (b:=true) ht isSubtype_stop ?_)
 exact wpAny_pure (hQ _ k)
end
end EX
end
section
namespace L2
open PySem PySem.Spec PyProof.Rows
abbrev Key:=Sum Int Str
def jM:Key->Value->Bool
 | .inl k,v=>Value.isInt k v
 | .inr x,v=>Value.isStrOf x v
def qK0 (w:World):Key->Int
 | .inl k=>hashInt k
 | .inr x=>hashStr w x
theorem Qg:∀ {k:Key} {v:Value},jM k v=true->(∃ i t,k=Sum.inl i∧v=Value.int i t)∨(∃ x t,k=Sum.inr x∧v=Value.str x t)
 | .inl i,v,h=>by
  obtain ⟨t,e⟩:=Value.isInt_shape (k:=i) (v:=v) h
  exact .inl ⟨i,t,rfl,e⟩
 | .inr x,v,h=>by
  obtain ⟨t,e⟩:=Value.isStrOf_shape (x:=x) (v:=v) h
  exact .inr ⟨x,t,rfl,e⟩
theorem qC5 (i:Int) (t:Tok):jM (.inl i) (.int i t)=true:=by simp [jM,Value.isInt]
theorem qCp (x:Str) (t:Tok):jM (.inr x) (.str x t)=true:=by simp [jM,Value.isStrOf]
theorem qHb (a b:Int):decide ((Sum.inl a:Key)=Sum.inl b)=(a==b):=by
 by_cases e:a=b
 ·subst e;simp
 ·have h:¬ (Sum.inl a:Key)=Sum.inl b:=fun q=>e (Sum.inl.inj q)
  rw [decide_eq_false h]
  exact (beq_eq_false_iff_ne.mpr e).symm
theorem qI9 (a b:Str):decide ((Sum.inr a:Key)=Sum.inr b)=decide (a=b):=by
 by_cases e:a=b
 ·subst e;simp
 ·have h:¬ (Sum.inr a:Key)=Sum.inr b:=fun q=>e (Sum.inr.inj q)
  rw [decide_eq_false h,decide_eq_false e]
theorem qHg (a:Int) (b:Str):decide ((Sum.inl a:Key)=Sum.inr b)=false:=decide_eq_false (fun q=>nomatch q)
theorem qIU (a:Str) (b:Int):decide ((Sum.inr a:Key)=Sum.inl b)=false:=decide_eq_false (fun q=>nomatch q)
def Qe (prog:Program) (w:World):PySem.KeyKind prog w Key where
 is:=jM
 hash:=qK0 w
 inj:=fun v a b ha hb=>by
  rcases Qg ha with ⟨i,t,rfl,rfl⟩ |⟨x,t,rfl,rfl⟩
  ·rcases Qg hb with ⟨j,u,rfl,e⟩ |⟨y,u,rfl,e⟩
   ·injection e with e1 _;rw [e1]
   ·exact nomatch e
  ·rcases Qg hb with ⟨j,u,rfl,e⟩ |⟨y,u,rfl,e⟩
   ·exact nomatch e
   ·injection e with e1 _;rw [e1]
 byValue:=fun k v h=>by
  rcases Qg h with ⟨i,t,rfl,rfl⟩ |⟨x,t,rfl,rfl⟩ <;> rfl
 pyHash:=fun hv h=>by
  rcases Qg hv with ⟨i,t,rfl,rfl⟩ |⟨x,t,rfl,rfl⟩
  ·exact wpAny_pyHash_int h
  ·exact wpAny_pyHash_str h
 eqBool:=fun hu hv h=>by
  rcases Qg hu with ⟨i,t,rfl,rfl⟩ |⟨x,t,rfl,rfl⟩
  ·rcases Qg hv with ⟨j,u,rfl,rfl⟩ |⟨y,u,rfl,rfl⟩
   ·rw [qHb] at h;exact wpAny_eqBool_int h
   ·rw [qHg] at h;exact SeqAt.EqAt.int_str i t y u _ _ _ _ h
  ·rcases Qg hv with ⟨j,u,rfl,rfl⟩ |⟨y,u,rfl,rfl⟩
   ·rw [qIU] at h;exact SeqAt.EqAt.str_int x t j u _ _ _ _ h
   ·rw [qI9] at h;exact wpAny_eqBool_str h
 «strs» := fun k x t v h=>by
  rcases Qg h with ⟨i,u,rfl,e⟩ |⟨y,u,rfl,e⟩
  ·exact nomatch e
  ·injection e with e1 _
   subst e1
   cases v <;> rfl
theorem qAO (prog:Program) (w:World) (i:Int) (t:Tok):(Qe prog w).is (.inl i) (.int i t)=true:=qC5 i t
theorem J1 (prog:Program) (w:World) (x:Str) (t:Tok):(Qe prog w).is (.inr x) (.str x t)=true:=qCp x t
end L2
namespace L2
open PySem PySem.Spec PyProof.Rows
inductive V where
 |non |bl (b:Bool) |int (i:Int) |str (x:Str) |byt (b:Array UInt8) |flt (b:UInt64) |ref (a:Addr) |ty (n:String)
 deriving DecidableEq
def RelV:V->Value->Prop
 | .non,u=>u=Value.none
 | .bl b,u=>u=Value.bool b
 | .int i,u => ∃ t,u=Value.int i t
 | .str x,u => ∃ t,u=Value.str x t
 | .byt b,u => ∃ t,u=Value.bytes b t
 | .flt b,u => ∃ t,u=Value.float b t
 | .ref a,u=>u=Value.ref a
 | .ty n,u=>u=Value.type n
abbrev Vals:List V->List Value->Prop:=Paired RelV
theorem Vals.length {xs:List V} {us:List Value} (r:Vals xs us):xs.length=us.length:=Paired.length r
theorem Vals.get:∀ {xs:List V} {us:List Value} {i:Nat} {x:V},Vals xs us->xs[i]? = some x -> ∃ u,us[i]? = some u∧RelV x u
 |_,_,_,_,.nil,e=>by simp at e
 |_,_,0,_,.cons r _,e=>by simp at e;subst e;exact ⟨_,rfl,r⟩
 |_,_,i + 1,x,.cons _ t,e=>by
  obtain ⟨u,h1,h2⟩:=Vals.get (i:=i) (x:=x) t (by simpa using e)
  exact ⟨u,by simpa using h1,h2⟩
theorem Vals.set {x:V} {u:Value} (r:RelV x u):∀ {xs:List V} {us:List Value} (i:Nat),Vals xs us->Vals (xs.set i x) (us.set i u)
 |_,_,_,.nil => .nil
 |_,_,0,.cons _ t => .cons r t
 |_,_,i + 1,.cons q t => .cons q (Vals.set r i t)
theorem Vals.append:∀ {xs ys:List V} {us ws:List Value},Vals xs us->Vals ys ws->Vals (xs++ys) (us++ws)
 |_,_,_,_,.nil,s=>s
 |_,_,_,_,.cons r t,s => .cons r (Vals.append t s)
theorem Vals.take:∀ {xs:List V} {us:List Value} (n:Nat),Vals xs us->Vals (xs.take n) (us.take n)
 |_,_,0,_ => .nil
 |_,_,_ + 1,.nil => .nil
 |_,_,n + 1,.cons r t => .cons r (Vals.take n t)
theorem Vals.drop:∀ {xs:List V} {us:List Value} (n:Nat),Vals xs us->Vals (xs.drop n) (us.drop n)
 |_,_,0,r=>r
 |_,_,_ + 1,.nil => .nil
 |_,_,n + 1,.cons _ t=>Vals.drop n t
def RelO:Option V->Option Value->Prop
 |some v,some u=>RelV v u
 |none,none=>True
 |_,_=>False
def KV {κ:Type}:List (κ×V)->List (κ×Value)->Prop:=Paired fun (p:κ×V) (q:κ×Value)=>p.1=q.1∧RelV p.2 q.2
def kV:Key->V
 | .inl i => .int i
 | .inr x => .str x
inductive HO where
 /-- a list -/
 |lst (xs:List V)
 /-- a tuple (never changes) -/
 |tup (xs:List V)
 /-- a dict whose keys are ints and texts;one whose keys are tuples of ints and texts (the empty one is both) -/
 |dK (kvs:List (Key×V)) |dT (kvs:List (List Key×V))
 /-- a set of ints: its members,its size -/
 |set (S:Int->Bool) (n:Nat)
 /-- an instance of the class at C,its dict at dx,its attributes -/
 |ins (C dx:Addr) (fs:List (Str×V))
 /-- the dict of the instance at x -/
 |own (x:Addr)
 /-- the dict of an exception -/
 |xd (fs:List (Str×V))
 /-- a bound method,f of x -/
 |met (f x:Addr)
 /-- a range object lo,lo + 1,.. below hi -/
 |rng (lo hi:Int)
 /-- a thing that is known to the object (the script;a dict while a loop walks it): read,never written while it is so -/
 |frz (o:Obj) (u:HO)
 /-- a code object's table -/
 |tbl (ps:Array Value)
 /-- any other thing,by what is true of its one object (a def of one's own: SetO a S n:=HO.ext fun h => ..) -/
 |ext (φ:Heap->Prop)
abbrev Hp:=Addr->Option HO
def upd (H:Hp) (a:Addr) (o:HO):Hp:=fun b=>if b=a then some o else H b
theorem qd {H:Hp} {a:Addr} {o:HO}:upd H a o a=some o:=by unfold upd;rw [if_pos rfl]
theorem qL {H:Hp} {a b:Addr} {o:HO} (h:b≠a):upd H a o b=H b:=by unfold upd;rw [if_neg h]
theorem qCC {H:Hp} {a b:Addr} {o u:HO} (h:H a=some o) (h':H b=some u) (d:o≠u):a≠b:=by
 intro e;subst e;rw [h] at h';exact d (Option.some.inj h')
theorem qM {H:Hp} {a b:Addr} {o:HO} (h:H a=some o) (h':H b=none):a≠b:=by
 intro e;subst e;rw [h] at h';cases h'
section
variable (P:Program) (w:World)
def ObjOk (H:Hp) (h:Heap) (a:Addr):HO->Prop
 | .lst xs=>xs.length≤sizeLine ∧ ∃ (its:List Value) (n:Nat),Vals xs its∧h.get? a=some { cls := .type "list",data := .seq its.toArray n }
 | .tup xs=>xs.length≤sizeLine ∧ ∃ its:List Value,Vals xs its∧IsTup h a its.toArray
 | .dK kvs=>kvs.length≤sizeLine∧(a==sysModules)=false ∧ ∃ vs,KV kvs vs∧h.DictOf (Qe P w) a vs
 | .dT kvs=>kvs.length≤sizeLine∧(a==sysModules)=false ∧ ∃ xs:List (List Key×Addr×Value),
   Paired (fun (p:List Key×V) (q:List Key×Addr×Value)=>p.1=q.1∧H q.2.1=some (.tup (p.1.map kV))∧RelV p.2 q.2.2) kvs xs ∧
   ∃ o es ep,h.get? a=some o∧o.ExactDict∧o.data = .dict es ep∧es.toList=xs.map (entryOfKey (tupleKind (Qe P w)))∧(xs.map (·.1)).Nodup
 | .set S n=>h.SetOf (intKind P w) a S n
 | .ins C dx fs=>H dx=some (.own a)∧fs.length≤1000∧dx≠a∧h.get? a=some (PySem.W.instObj C dx) ∧
   ∃ mA,h.Ns1 dx mA∧(∀ f,RelO (fs.lookup f) (mA f))∧PySem.Within mA (fs.map (·.1))
 | .own _ => ∃ o,h.get? a=some o
 | .xd fs => ∃ mA,h.Ns1 a mA ∧ ∀ f,RelO (fs.lookup f) (mA f)
 | .rng lo hi => ∃ t u v,h.get? a=some { cls := .type "range",data := .fields #[.int lo t,.int hi u,.int 1 v] }
 | .frz o u=>h.get? a=some o∧ObjOk H h a u
 | .tbl ps=>h.get? a=some { cls := .none,data := .fields ps }
 | .met f x=>h.get? a=some (PySem.W.methodObj (.ref f) (.ref x))
 | .ext φ=>φ h∧(∃ o,h.get? a=some o) ∧ ∀ h1 h2:Heap,φ h1->(∀ o,h1.get? a=some o->h2.get? a=some o)->φ h2
def HOk (H:Hp) (h:Heap):Prop := ∀ a o,H a=some o->ObjOk P w H h a o
end
section
variable {P:Program} {w:World} {H H':Hp} {h h':Heap} {a:Addr} {o:HO}
theorem ObjOk.lt (x:ObjOk P w H h a o):a < h.objs.size:=by
 cases o with
 |lst xs=>obtain ⟨_,_,_,_,e⟩:=x;exact Heap.lt_size e
 |tup xs=>obtain ⟨_,_,_,p⟩:=x;exact p.lt
 |dK kvs=>obtain ⟨_,_,_,_,o,_,_,e,_⟩:=x;exact Heap.lt_size e
 |dT kvs=>obtain ⟨_,_,_,_,o,_,_,e,_⟩:=x;exact Heap.lt_size e
 |set S n=>obtain ⟨o,_,_,_,e,_⟩:=x;exact Heap.lt_size e
 |ins C dx fs=>obtain ⟨_,_,_,e,_⟩:=x;exact Heap.lt_size e
 |own y=>obtain ⟨_,e⟩:=x;exact Heap.lt_size e
 |xd fs=>obtain ⟨_,⟨_,_,_,e,_⟩,_⟩:=x;exact Heap.lt_size e
 |rng lo hi=>obtain ⟨_,_,_,e⟩:=x;exact Heap.lt_size e
 |frz ob u=>obtain ⟨e,_⟩:=x;exact Heap.lt_size e
 |tbl ps=>exact Heap.lt_size (show h.get? a=some _ from x)
 |met f y=>exact Heap.lt_size (show h.get? a=some _ from x)
 |ext φ=>obtain ⟨_,⟨_,e⟩,_⟩:=x;exact Heap.lt_size e
theorem Paired.mapP {α β:Type} {F G:α->β->Prop}:∀ {l₁:List α} {l₂:List β},Paired F l₁ l₂->(∀ a b,F a b->G a b)->Paired G l₁ l₂
 |_,_,.nil,_ => .nil
 |_,_,.cons r t,f => .cons (f _ _ r) (Paired.mapP t f)
theorem ObjOk.stay (x:ObjOk P w H h a o) (k:∀ b u,(b=a∨H b=some (.own a))->h.get? b=some u->h'.get? b=some u)
  (ho:∀ b,H b=some (.own a)->H' b=some (.own a)) (ht:∀ b xs,H b=some (.tup xs)->H' b=some (.tup xs)):ObjOk P w H' h' a o:=by
 induction o with
 |lst xs=>obtain ⟨z,its,n,r,e⟩:=x;exact ⟨z,its,n,r,k _ _ (.inl rfl) e⟩
 |tup xs=>obtain ⟨z,its,r,ob,e,c⟩:=x;exact ⟨z,its,r,ob,k _ _ (.inl rfl) e,c⟩
 |dK kvs=>obtain ⟨z,y,vs,r,ob,es,ep,e,c⟩:=x;exact ⟨z,y,vs,r,ob,es,ep,k _ _ (.inl rfl) e,c⟩
 |dT kvs =>
  obtain ⟨z,y,xs,r,ob,es,ep,e,c⟩:=x
  exact ⟨z,y,xs,Paired.mapP r fun p q z=>⟨z.1,ht _ _ z.2.1,z.2.2⟩,ob,es,ep,k _ _ (.inl rfl) e,c⟩
 |set S n=>obtain ⟨ob,es,ep,t,e,c⟩:=x;exact ⟨ob,es,ep,t,k _ _ (.inl rfl) e,c⟩
 |ins C dx fs =>
  obtain ⟨d,z,ne,e,mA,⟨od,es,ep,e2,c⟩,r⟩:=x
  exact ⟨ho _ d,z,ne,k _ _ (.inl rfl) e,mA,⟨od,es,ep,k _ _ (.inr d) e2,c⟩,r⟩
 |own y=>obtain ⟨ob,e⟩:=x;exact ⟨ob,k _ _ (.inl rfl) e⟩
 |xd fs=>obtain ⟨mA,⟨od,es,ep,e,c⟩,r⟩:=x;exact ⟨mA,⟨od,es,ep,k _ _ (.inl rfl) e,c⟩,r⟩
 |rng lo hi=>obtain ⟨t,u,v,e⟩:=x;exact ⟨t,u,v,k _ _ (.inl rfl) e⟩
 |frz ob u ih=>obtain ⟨e,q⟩:=x;exact ⟨k _ _ (.inl rfl) e,ih q⟩
 |tbl ps =>
  have e:h.get? a=some { cls := .none,data := .fields ps }:=x
  show h'.get? a=some { cls := .none,data := .fields ps }
  exact k a _ (.inl rfl) e
 |met f y =>
  have e:h.get? a=some (PySem.W.methodObj (.ref f) (.ref y)):=x
  show h'.get? a=some (PySem.W.methodObj (.ref f) (.ref y))
  exact k a _ (.inl rfl) e
 |ext φ=>obtain ⟨p,⟨o,e⟩,st⟩:=x;exact ⟨st _ _ p fun o q=>k _ _ (.inl rfl) q,⟨o,k _ _ (.inl rfl) e⟩,st⟩
theorem HOk.lt (x:HOk P w H h) (e:H a=some o):a < h.objs.size:=(x a o e).lt
theorem HOk.fresh (x:HOk P w H h) (e:h.objs.size≤a):H a=none:=by
 cases q:H a with
 |none=>rfl
 |some u=>exact absurd (Nat.lt_of_lt_of_le (x.lt q) e) (Nat.lt_irrefl _)
theorem HOk.kept (x:HOk P w H h) (k:∀ b u,h.get? b=some u->h'.get? b=some u):HOk P w H h':=fun a o e =>
 (x a o e).stay (fun b u _ q=>k b u q) (fun _ q=>q) fun _ _ q=>q
theorem HOk.laid (x:HOk P w H h) (k:∀ b u,h.get? b=some u->h'.get? b=some u) (hp:h.objs.size≤a) (new:ObjOk P w (upd H a o) h' a o):HOk P w (upd H a o) h':=fun b u e=>by
 have hn:=x.fresh hp
 by_cases hb:b=a
 ·subst hb;rw [qd] at e;cases e;exact new
 ·rw [qL hb] at e
  exact (x b u e).stay (fun c v _ q=>k c v q) (fun c q=>by rw [qL (qM q hn)];exact q) fun c xs q=>by rw [qL (qM q hn)];exact q
end
def Rd (H:Hp) (a:Addr) (u:HO):Prop:=H a=some u ∨ ∃ o,H a=some (.frz o u)
theorem Rd.ok {P:Program} {w:World} {H:Hp} {h:Heap} {a:Addr} {u:HO} (r:Rd H a u) (x:HOk P w H h):ObjOk P w H h a u:=by
 rcases r with r |⟨o,r⟩
 ·exact x a u r
 ·obtain ⟨_,q⟩:=x a _ r
  exact q
def Mut:Option HO->Prop
 |some (.lst _)=>True
 |some (.dK _)=>True
 |some (.dT _)=>True
 |some (.set _ _)=>True
 |some (.ins _ _ _)=>True
 |some (.ext _)=>True
 |_=>False
section
variable {P:Program} {w:World} {H:Hp} {h h':Heap} {x e:Addr} {o':HO}
theorem HOk.write (ok:HOk P w H h) (mu:Mut (H x)) (he:e=x∨H e=some (.own x)) (k:∀ b u,b≠e->h.get? b=some u->h'.get? b=some u) (heo:∃ u,h'.get? e=some u)
  (new:ObjOk P w (upd H x o') h' x o'):HOk P w (upd H x o') h':=fun b u q=>by
 have nown:∀ c y,H c=some (.own y)->c≠x:=fun c y r z=>by subst z;rw [r] at mu;exact mu
 have ntup:∀ c xs,H c=some (.tup xs)->c≠x:=fun c xs r z=>by subst z;rw [r] at mu;exact mu
 by_cases hb:b=x
 ·subst hb;rw [qd] at q;cases q;exact new
 ·rw [qL hb] at q
  by_cases hbe:b=e
  ·have q':H b=some (.own x):=by
    rcases he with z |z
    ·exact absurd (hbe.trans z) hb
    ·rw [hbe];exact z
   rw [q] at q';cases q'
   obtain ⟨v,hv⟩:=heo
   exact ⟨v,by rw [hbe];exact hv⟩
  ·refine (ok b u q).stay (fun c v hc r=>k c v ?_ r) (fun c r=>by rw [qL (nown c b r)];exact r) fun c xs r=>by rw [qL (ntup c xs r)];exact r
   rcases hc with rfl |hc
   ·exact hbe
   ·rintro rfl
    rcases he with z |z
    ·exact nown c b hc z
    ·rw [hc] at z;cases z;exact hb rfl
end
structure Un (fs ex:List Addr) (H H':Hp) (h h':Heap):Prop where
 keep:∀ b o,h.get? b=some o->H b=none->b ∉ fs->b ∉ ex->h'.get? b=some o
 slot:∀ b o,h.get? b=some o->H b=none->b∈fs->b ∉ ex -> ∃ sl,h'.get? b=some { o with slots:=sl }
 free:∀ b o,h.get? b=some o->H b=none->b ∉ ex->H' b=none
 there:∀ b o,h.get? b=some o->b ∉ ex -> ∃ o',h'.get? b=some o'
 tups:∀ b xs,H b=some (.tup xs)->H' b=some (.tup xs)
 frzs:∀ b o u,H b=some (.frz o u)->H' b=some (.frz o u)
 tbls:∀ b ps,H b=some (.tbl ps) -> ∃ more,H' b=some (.tbl (ps++more))
section
variable {fs fs' ex ex':List Addr} {H H1 H2:Hp} {h h1 h2 h':Heap} {a x e:Addr} {o:HO}
theorem Un.any (u:Un fs ex H H1 h h1) {b:Addr} {ob:Obj} (q:h.get? b=some ob) (n:H b=none) (hx:b ∉ ex):∃ sl,h1.get? b=some { ob with slots:=sl }:=by
 by_cases hb:b∈fs
 ·exact u.slot b ob q n hb hx
 ·exact ⟨ob.slots,u.keep b ob q n hb hx⟩
theorem Un.kept (k:∀ b u,h.get? b=some u->h'.get? b=some u):Un fs ex H H h h' :=
 ⟨fun b ob q _ _ _=>k b ob q,fun b ob q _ _ _=>⟨ob.slots,k b ob q⟩,fun _ _ _ n _=>n,fun b ob q _=>⟨ob,k b ob q⟩,fun _ _ q=>q,fun _ _ _ q=>q,fun _ ps q=>⟨#[],by rw [q];simp⟩⟩
theorem Un.refl:Un fs ex H H h h:=Un.kept fun _ _ q=>q
theorem Un.laid (k:∀ b u,h.get? b=some u->h'.get? b=some u) (hp:h.objs.size≤a) (hn:H a=none):Un fs ex H (upd H a o) h h' where
 keep:=fun b u q _ _ _=>k b u q
 slot:=fun b u q _ _ _=>⟨u.slots,k b u q⟩
 free:=fun b u q n _=>by rw [qL (Nat.ne_of_lt (Nat.lt_of_lt_of_le (Heap.lt_size q) hp))];exact n
 there:=fun b u q _=>⟨u,k b u q⟩
 tups:=fun b xs q=>by rw [qL (qM q hn)];exact q
 frzs:=fun b u xs q=>by rw [qL (qM q hn)];exact q
 tbls:=fun b ps q=>⟨#[],by rw [qL (qM q hn),q];simp⟩
theorem Un.write (mu:Mut (H x)) (he:e=x∨H e=some (.own x)) (k:∀ b u,b≠e->h.get? b=some u->h'.get? b=some u) (heo:∃ u,h'.get? e=some u):Un fs ex H (upd H x o) h h':=by
 have hx:∀ b,H b=none->b≠x:=fun b n z=>by subst z;rw [n] at mu;exact mu
 have hb:∀ b,H b=none->b≠e:=fun b n z=>by
  subst z
  rcases he with r |r
  ·exact hx b n r
  ·rw [n] at r;cases r
 have hm:∀ b u,H b=some u -> ¬ Mut (some u)->b≠x:=fun b u q nm z=>by subst z;rw [q] at mu;exact nm mu
 refine ⟨fun b u q n _ _=>k b u (hb b n) q,fun b u q n _ _=>⟨u.slots,k b u (hb b n) q⟩,fun b u q n _=>by rw [qL (hx b n)];exact n,fun b u q _ => ?_,
  fun b xs q=>by rw [qL (hm b _ q fun z=>z)];exact q,fun b u xs q=>by rw [qL (hm b _ q fun z=>z)];exact q,fun b ps q=>⟨#[],by rw [qL (hm b _ q fun z=>z),q];simp⟩⟩
 by_cases hbe:b=e
 ·subst hbe;exact heo
 ·exact ⟨u,k b u hbe q⟩
end
def trk (h:Heap) (H:Hp):List Addr:=(List.range h.objs.size).filter fun a=>(H a).isSome
def jd (h:Heap) (H:Hp):Heap:=PySem.W.hideAll h (trk h H)
theorem qDE (h:Heap) (H:Hp):(jd h H).objs.size=h.objs.size:=PySem.W.hideAll_size _ _
theorem qFD {h:Heap} {H:Hp} {b:Addr} {o:Obj} (e:h.get? b=some o) (n:H b=none):(jd h H).get? b=some o :=
 PySem.W.hideAll_get _ e fun hm=>by
  have q:(H b).isSome=true:=(List.mem_filter.mp hm).2
  rw [n] at q;simp at q
theorem qGR {h:Heap} {H:Hp} {b:Addr} {o:Obj} (e:(jd h H).get? b=some o):h.get? b=some o∧H b=none:=by
 have e':h.get? b=some o:=PySem.W.of_hideAll (trk h H) e
 refine ⟨e',?_⟩
 cases q:H b with
 |none=>rfl
 |some x =>
  have hm:b∈trk h H:=List.mem_filter.mpr ⟨List.mem_range.mpr (Heap.lt_size e'),by simp [q]⟩
  have z:(jd h H).get? b=none:=PySem.W.hideAll_none (trk h H) hm
  rw [z] at e;cases e
end L2
namespace L2
open PySem PySem.Spec PyProof.Rows
structure Mod (K:W.Frag) (mg:Str->Option Value) (base:Heap):Prop where
 kin:K.In base
 glob:base.Ns mainGlobals mg
 blt:∃ mb,base.Ns builtinsNs mb ∧ ∀ x:Str,x ≠ "__name__" -> mb x=bootBuiltins x
 nolimit:base.NoLimit
structure Cx where
 prog:Program
 w:World
 K:W.Frag
 mg:Str->Option Value
 base:Heap
 A:Around
 N:List Str
 s₀:Shared
 H₀:Hp
 env:Env
 outer:List Env
 stack:List Env
 ex:List Addr
 fn:Str->Bool
 calm:Bool
 pn:List (Addr×Obj)
 xe:Value->Shared->Prop
def frs (l:List Env):List Addr:=l.filterMap (·.frame)
abbrev Cx.fs (X:Cx):List Addr:=frs X.outer
def Vis (sc:Scope) (x:Str):Prop:=sc.names.lookup x=some .local∨sc.names.lookup x=some .cell∨sc.names.lookup x=some .free
def Loc (sc:Scope) (x:Str):Prop:=sc.names.lookup x=some .local∨sc.names.lookup x=some .cell
def qJt (env:Env) (h:Heap) (m:Str->Option Value) (x:Str) (u:Value):Prop :=
 (env.kindOf x=some .local∧m x=some u)∨((env.kindOf x=some .cell∨env.kindOf x=some .free) ∧ ∃ c,env.cells.lookup x=some c∧h.IsCell c (some u))
structure Cx.Ok (X:Cx):Prop where
 mod:Mod X.K X.mg X.base
 kind:X.env.scope.kind = .function
 glob:X.env.globals=mainGlobals
 blt:X.env.builtins=builtinsNs
 above:X.s₀.heap.objs.size≤X.env.locals
 inj:∀ x y c,X.env.cells.lookup x=some c->X.env.cells.lookup y=some c->x=y
 has:∀ x,(X.env.kindOf x=some .cell∨X.env.kindOf x=some .free) -> ∃ c,X.env.cells.lookup x=some c
 cab:∀ x c,X.fn x=true->X.env.cells.lookup x=some c->X.s₀.heap.objs.size≤c
 hd:X.calm=true->X.A.handled=none
 frames:X.A.frames=some X.stack
 stk:X.stack=X.outer∨(X.stack=X.env::X.outer∧X.env.frame=some X.env.locals)
 exf:∀ b∈X.ex,b≠X.env.locals ∧ ∀ x c,X.env.cells.lookup x=some c->c≠b
 bs:∀ b o,X.base.get? b=some o->X.s₀.heap.get? b=some o∧X.H₀ b=none
 bsz:X.base.objs.size≤X.s₀.heap.objs.size
 noex:∀ b o,X.base.get? b=some o->b ∉ X.ex
 exfs:∀ b∈X.ex,b ∉ X.fs
 funs:X.s₀.heap.FunFrames X.base X.outer
 frf:∀ b∈X.fs,X.H₀ b=none
def HndH (A:Around) (H:Hp):Prop := ∀ v,A.handled=some v -> ∃ ea oe u vs,v=Value.ref ea∧H ea=some (.frz oe u)∧oe.data = .fields vs∧vs[2]? = some .none
theorem HndH.none {A:Around} {H:Hp} (h:A.handled=none):HndH A H:=fun v e=>by rw [h] at e;cases e
structure Inv (X:Cx) (pins:List (Addr×Obj)) (σ:List (Option V)) (H:Hp) (s:Shared):Prop where
 ok:X.Ok
 os:s.os=X.s₀.os
 bare:AllBare s.gens
 base:Un X.fs X.ex X.H₀ H X.s₀.heap s.heap
 loc:∃ m,s.heap.Ns X.env.locals m ∧ ∀ (i:Nat) (x:Str) (v:V),X.N[i]? = some x->σ[i]? = some (some v)->Vis X.env.scope x -> ∃ u,RelV v u∧qJt X.env s.heap m x u
 cell:∀ x c,X.env.cells.lookup x=some c -> ∃ v,s.heap.IsCell c v
 free:H X.env.locals=none
 freeC:∀ x c,X.env.cells.lookup x=some c->H c=none
 pin:∀ p∈X.pn++pins,s.heap.get? p.1=some p.2∧H p.1=none∧p.1≠X.env.locals∧p.1 ∉ X.fs ∧ ∀ v,p.2.data ≠ .cell v
 hok:HOk X.prog X.w H s.heap
 len:σ.length=X.N.length
 hnd:HndH X.A H
section
variable {X:Cx} {pins:List (Addr×Obj)} {σ:List (Option V)} {H H':Hp} {s:Shared} {h':Heap}
theorem Cx.Ok.nofr (ok:X.Ok) {b:Addr} {o:Obj} (e:X.base.get? b=some o):b ∉ X.fs:=fun hb=>by
 have:=(ok.funs.mem hb).1
 rw [e] at this;cases this
theorem Inv.bs (I:Inv X pins σ H s):∀ b o,X.base.get? b=some o->s.heap.get? b=some o∧H b=none:=fun b o e =>
 ⟨I.base.keep b o (I.ok.bs b o e).1 (I.ok.bs b o e).2 (I.ok.nofr e) (I.ok.noex b o e),I.base.free b o (I.ok.bs b o e).1 (I.ok.bs b o e).2 (I.ok.noex b o e)⟩
theorem Inv.bk (I:Inv X pins σ H s):∀ b o,X.base.get? b=some o->s.heap.get? b=some o:=fun b o e=>(I.bs b o e).1
theorem Inv.mod (I:Inv X pins σ H s):Mod X.K X.mg X.base:=I.ok.mod
theorem Inv.kIn (I:Inv X pins σ H s):X.K.In s.heap:=I.ok.mod.kin.keeps I.bk
theorem Inv.lt (I:Inv X pins σ H s):X.env.locals < s.heap.objs.size:=let ⟨_,hn,_⟩:=I.loc;hn.lt
theorem Inv.sz (I:Inv X pins σ H s):X.s₀.heap.objs.size≤s.heap.objs.size:=Nat.le_trans I.ok.above (Nat.le_of_lt I.lt)
theorem Inv.nofs (I:Inv X pins σ H s) {a:Addr} (h:s.heap.objs.size≤a):a ∉ X.fs:=fun hb=>by
 obtain ⟨_,o,ho,_⟩:=I.ok.funs.mem hb
 exact absurd (Nat.lt_of_lt_of_le (Heap.lt_size ho) (Nat.le_trans I.sz h)) (Nat.lt_irrefl _)
theorem Inv.cne (I:Inv X pins σ H s):∀ x c,X.env.cells.lookup x=some c->c≠X.env.locals:=fun x c e z=>by
 obtain ⟨v,o,ho,hd⟩:=I.cell x c e
 obtain ⟨m,⟨o',es,ep,ho',hd',_⟩,_⟩:=I.loc
 rw [z,ho'] at ho;cases ho;rw [hd'] at hd;cases hd
theorem Inv.funs (I:Inv X pins σ H s):s.heap.FunFrames X.base X.outer:=by
 have all:∀ (l:List Env),(∀ b∈frs l,b∈X.fs)->X.s₀.heap.FunFrames X.base l->s.heap.FunFrames X.base l:=by
  intro l
  induction l with
  |nil=>intro _ _;trivial
  |cons env r ih =>
   intro hs hl
   obtain ⟨hk,⟨L,o,hf,hn,ho,hd⟩,hr⟩:=hl
   have hL:L∈X.fs:=hs L (by unfold frs;rw [List.filterMap_cons,hf];exact List.mem_cons_self)
   obtain ⟨sl,e⟩:=I.base.slot L o ho (I.ok.frf L hL) hL fun z=>I.ok.exfs L z hL
   exact ⟨hk,⟨L,_,hf,hn,e,hd⟩,ih (fun b hb=>hs b (by unfold frs;rw [List.filterMap_cons,hf];exact List.mem_cons_of_mem _ hb)) hr⟩
 exact all X.outer (fun _ hb=>hb) I.ok.funs
theorem Inv.stack (I:Inv X pins σ H s):s.heap.FunFrames X.base X.stack:=by
 rcases I.ok.stk with e |⟨e,hf⟩
 ·rw [e];exact I.funs
 ·rw [e]
  obtain ⟨m,hn,_⟩:=I.loc
  refine .cons (by rw [I.ok.kind];decide) hf hn ?_ I.funs
  exact Heap.get?_none_of_le (Nat.le_trans I.ok.bsz I.ok.above)
theorem Inv.stkSub (I:Inv X pins σ H s):∀ b∈frs X.stack,b∈X.env.locals::X.fs:=fun b hb=>by
 rcases I.ok.stk with e |⟨e,hf⟩
 ·rw [e] at hb;exact List.mem_cons_of_mem _ hb
 ·rw [e] at hb
  unfold frs at hb
  rw [List.filterMap_cons,hf] at hb
  exact hb
theorem Inv.stkFree (I:Inv X pins σ H s):∀ b∈frs X.stack,H b=none:=fun b hb=>by
 rcases List.mem_cons.mp (I.stkSub b hb) with e |hb
 ·rw [e];exact I.free
 ·obtain ⟨_,o,ho,_⟩:=I.ok.funs.mem hb
  exact I.base.free b o ho (I.ok.frf b hb) fun z=>I.ok.exfs b z hb
theorem Inv.step {g':Array GenState} {t':Nat} {d':Drawn} {ch:List Addr} (I:Inv X pins σ H s)
  (hch:∀ b∈ch,(b∈X.ex∨X.s₀.heap.objs.size≤b)∧b≠X.env.locals∧(∀ x c,X.env.cells.lookup x=some c->c≠b) ∧ ∀ p∈X.pn++pins,p.1≠b)
  (keep:∀ b o,b≠X.env.locals->b ∉ X.fs->b ∉ ch->s.heap.get? b=some o->H b=none->h'.get? b=some o)
  (slot:∀ b o,b≠X.env.locals->b∈X.fs->b ∉ ch->s.heap.get? b=some o->H b=none -> ∃ sl,h'.get? b=some { o with slots:=sl }) (free:∀ b o,b ∉ ch->s.heap.get? b=some o->H b=none->H' b=none)
  (there:∀ b o,b ∉ ch->s.heap.get? b=some o -> ∃ o',h'.get? b=some o')
  (tups:∀ b xs,H b=some (.tup xs)->H' b=some (.tup xs)) (frzs:∀ b o u,H b=some (.frz o u)->H' b=some (.frz o u)) (tbls:∀ b ps,H b=some (.tbl ps) -> ∃ more,H' b=some (.tbl (ps++more)))
  (ns:∀ m,s.heap.Ns X.env.locals m->h'.Ns X.env.locals m) (hok:HOk X.prog X.w H' h') (hg:AllBare g') :
  Inv X pins σ H' { s with heap:=h',gens:=g',drawn:=d',toks:=t' }:=by
 have neL:∀ b o,X.s₀.heap.get? b=some o->b≠X.env.locals:=fun b o e=>Nat.ne_of_lt (Nat.lt_of_lt_of_le (Heap.lt_size e) I.ok.above)
 have neC:∀ b o,X.s₀.heap.get? b=some o->b ∉ X.ex->b ∉ ch:=fun b o e hx hb=>by
  rcases (hch b hb).1 with z |z
  ·exact hx z
  ·exact absurd (Nat.lt_of_lt_of_le (Heap.lt_size e) z) (Nat.lt_irrefl _)
 have cellK:∀ x c,X.env.cells.lookup x=some c -> ∀ v,s.heap.IsCell c v->h'.IsCell c v:=fun x c e v ⟨o,ho,hd⟩=>by
  have nch:c ∉ ch:=fun z=>(hch c z).2.2.1 x c e rfl
  by_cases hc:c∈X.fs
  ·obtain ⟨sl,q⟩:=slot c o (I.cne x c e) hc nch ho (I.freeC x c e)
   exact ⟨_,q,hd⟩
  ·exact ⟨o,keep c o (I.cne x c e) hc nch ho (I.freeC x c e),hd⟩
 refine ⟨I.ok,I.os,hg,⟨fun b o e n hb hx => ?_,fun b o e n hb hx => ?_,fun b o e n hx => ?_,fun b o e hx => ?_,fun b xs e=>tups b xs (I.base.tups b xs e),fun b o xs e=>frzs b o xs (I.base.frzs b o xs e),fun b ps e => ?_⟩,?_,fun x c e => ?_,?_,fun x c e => ?_,fun p hp => ?_,hok,I.len,fun v hv=>(let ⟨ea,oe,u,vs,e1,e2,e3⟩:=I.hnd v hv;⟨ea,oe,u,vs,e1,frzs _ _ _ e2,e3⟩)⟩
 ·exact keep b o (neL b o e) hb (neC b o e hx) (I.base.keep b o e n hb hx) (I.base.free b o e n hx)
 ·obtain ⟨sl,e1⟩:=I.base.slot b o e n hb hx
  obtain ⟨sl',e2⟩:=slot b _ (neL b o e) hb (neC b o e hx) e1 (I.base.free b o e n hx)
  exact ⟨sl',e2⟩
 ·obtain ⟨o',e1⟩:=I.base.there b o e hx
  exact free b o' (neC b o e hx) e1 (I.base.free b o e n hx)
 ·obtain ⟨o',e1⟩:=I.base.there b o e hx
  exact there b o' (neC b o e hx) e1
 ·obtain ⟨m1,e1⟩:=I.base.tbls b ps e
  obtain ⟨m2,e2⟩:=tbls b _ e1
  exact ⟨m1++m2,by rw [e2,Array.append_assoc]⟩
 ·obtain ⟨m,hn,hl⟩:=I.loc
  refine ⟨m,ns m hn,fun i x v e1 e2 e3 => ?_⟩
  obtain ⟨u,r,l⟩:=hl i x v e1 e2 e3
  refine ⟨u,r,?_⟩
  rcases l with l |⟨k,c,e,z⟩
  ·exact .inl l
  ·exact .inr ⟨k,c,e,cellK x c e _ z⟩
 ·obtain ⟨v,z⟩:=I.cell x c e
  exact ⟨v,cellK x c e v z⟩
 ·obtain ⟨m,⟨o,_,_,ho,_⟩,_⟩:=I.loc
  exact free _ o (fun z=>(hch _ z).2.1 rfl) ho I.free
 ·obtain ⟨v,o,ho,hd⟩:=I.cell x c e
  exact free c o (fun z=>(hch c z).2.2.1 x c e rfl) ho (I.freeC x c e)
 ·obtain ⟨e,n,ne,nf,d⟩:=I.pin p hp
  have nch:p.1 ∉ ch:=fun z=>(hch p.1 z).2.2.2 p hp rfl
  exact ⟨keep p.1 p.2 ne nf nch e n,free p.1 p.2 nch e n,ne,nf,d⟩
theorem Inv.un {t':Nat} (I:Inv X pins σ H s) (u:Un X.fs [] H H' s.heap h') (hok:HOk X.prog X.w H' h'):Inv X pins σ H' { s with heap:=h',toks:=t' }:=by
 obtain ⟨m,⟨o,es,ep,ho,r⟩,_⟩:=id I.loc
 obtain ⟨sl,hL⟩:=u.any ho I.free (by simp)
 exact I.step (g':=s.gens) (d':=s.drawn) (ch:=[]) (fun _ z=>nomatch z) (fun b o _ hb _ e n=>u.keep b o e n hb (by simp)) (fun b o _ hb _ e n=>u.slot b o e n hb (by simp)) (fun b o _ e n=>u.free b o e n (by simp)) (fun b o _ e=>u.there b o e (by simp)) u.tups u.frzs u.tbls (fun m' hm=>by
  obtain ⟨o',es',ep',ho',r'⟩:=hm
  rw [ho] at ho';cases ho'
  exact ⟨_,es',ep',hL,r'⟩) hok I.bare
theorem Inv.call {g':Array GenState} {t':Nat} {d':Drawn} {ch:List Addr} (I:Inv X pins σ H s) (u:Un (frs X.stack) ch H H' s.heap h') (hok:HOk X.prog X.w H' h') (hg:AllBare g')
  (hch:∀ b∈ch,(b∈X.ex∨X.s₀.heap.objs.size≤b)∧b≠X.env.locals∧(∀ x c,X.env.cells.lookup x=some c->c≠b) ∧ ∀ p∈X.pn++pins,p.1≠b) :
  Inv X pins σ H' { s with heap:=h',gens:=g',drawn:=d',toks:=t' }:=by
 obtain ⟨m,⟨o,es,ep,ho,r⟩,_⟩:=id I.loc
 obtain ⟨sl,hL⟩:=u.any ho I.free fun z=>(hch _ z).2.1 rfl
 exact I.step (ch:=ch) hch (fun b o hL hb hc e n=>u.keep b o e n (fun z=>(List.mem_cons.mp (I.stkSub b z)).elim hL hb) hc) (fun b o _ _ hc e n=>u.any e n hc) (fun b o hc e n=>u.free b o e n hc) (fun b o hc e=>u.there b o e hc) u.tups u.frzs u.tbls (fun m' hm=>by
  obtain ⟨o',es',ep',ho',r'⟩:=hm
  rw [ho] at ho';cases ho'
  exact ⟨_,es',ep',hL,r'⟩) hok hg
theorem Inv.turned {t':Nat} {it:Addr} (I:Inv X pins σ H s) (k:∀ b o,b≠it->s.heap.get? b=some o->h'.get? b=some o) (hn:H it=none) (hL:it≠X.env.locals)
  (h1:it∈X.ex∨X.s₀.heap.objs.size≤it) (h2:∀ x c,X.env.cells.lookup x=some c->c≠it) (h3:∀ p∈X.pn++pins,p.1≠it):Inv X pins σ H { s with heap:=h',toks:=t' }:=by
 have nit:∀ b u,H b=some u->b≠it:=fun b u e z=>by rw [z,hn] at e;cases e
 refine I.step (g':=s.gens) (d':=s.drawn) (ch:=[it]) (fun b hb => ?_) (fun b o _ _ hc e _=>k b o (fun z=>hc (by simp [z])) e) (fun b o _ _ hc e _=>⟨o.slots,k b o (fun z=>hc (by simp [z])) e⟩) (fun _ _ _ _ n=>n)
  (fun b o hc e=>⟨o,k b o (fun z=>hc (by simp [z])) e⟩) (fun _ _ e=>e) (fun _ _ _ e=>e) (fun b ps e=>⟨#[],by rw [e];simp⟩) (fun m hm => ?_) (fun b u e => ?_) I.bare
 ·have e:b=it:=by simpa using hb
  subst e
  exact ⟨h1,hL,h2,h3⟩
 ·obtain ⟨o,es,ep,ho,r⟩:=hm
  exact ⟨o,es,ep,k _ o (Ne.symm hL) ho,r⟩
 ·refine (I.hok b u e).stay (fun c v hc q=>k c v ?_ q) (fun _ q=>q) fun _ _ q=>q
  rcases hc with z |z
  ·rw [z];exact nit b u e
  ·exact nit c _ z
theorem Inv.tok (I:Inv X pins σ H s) (t:Nat):Inv X pins σ H { s with toks:=t }:=I.un (h':=s.heap) (t':=t) Un.refl I.hok
theorem Inv.kept {t':Nat} (I:Inv X pins σ H s) (k:∀ b u,s.heap.get? b=some u->h'.get? b=some u):Inv X pins σ H { s with heap:=h',toks:=t' }:=I.un (Un.kept k) (I.hok.kept k)
theorem Inv.laid {a:Addr} {o:HO} {t':Nat} (I:Inv X pins σ H s) (k:∀ b u,s.heap.get? b=some u->h'.get? b=some u) (hp:s.heap.objs.size≤a) (new:ObjOk X.prog X.w (upd H a o) h' a o) :
  Inv X pins σ (upd H a o) { s with heap:=h',toks:=t' }:=I.un (Un.laid k hp (I.hok.fresh hp)) (I.hok.laid k hp new)
theorem Inv.write {x e:Addr} {o:HO} {t':Nat} (I:Inv X pins σ H s) (mu:Mut (H x)) (he:e=x∨H e=some (.own x)) (k:∀ b u,b≠e->s.heap.get? b=some u->h'.get? b=some u) (heo:∃ u,h'.get? e=some u)
  (new:ObjOk X.prog X.w (upd H x o) h' x o):Inv X pins σ (upd H x o) { s with heap:=h',toks:=t' }:=I.un (Un.write mu he k heo) (I.hok.write mu he k heo new)
theorem Inv.pins_of {pins':List (Addr×Obj)} (I:Inv X pins σ H s) (h:∀ p∈pins',s.heap.get? p.1=some p.2∧H p.1=none∧p.1≠X.env.locals∧p.1 ∉ X.fs ∧ ∀ v,p.2.data ≠ .cell v):Inv X pins' σ H s :=
 ⟨I.ok,I.os,I.bare,I.base,I.loc,I.cell,I.free,I.freeC,fun p hp=>(List.mem_append.mp hp).elim (fun z=>I.pin p (List.mem_append_left _ z)) (h p),I.hok,I.len,I.hnd⟩
theorem YK {N:List Str} (hN:N.Nodup) {i j:Nat} {x:Str} (a:N[i]? = some x) (b:N[j]? = some x):i=j:=by
 obtain ⟨h1,e1⟩:=List.getElem?_eq_some_iff.mp a
 obtain ⟨h2,e2⟩:=List.getElem?_eq_some_iff.mp b
 exact (List.getElem_inj hN).mp (e1.trans e2.symm)
theorem qCf {M:Model} {A:Around} {E:Value->Shared->Prop} {i:Nat} {x:Str} {v:V} {u:Value} {Q:Unit->Shared->Prop} (I:Inv X pins σ H s) (hN:X.N.Nodup) (hi:X.N[i]? = some x) (hx:Loc X.env.scope x) (r:RelV v u)
  (h:∀ s',Inv X pins (σ.set i (some v)) H s'->(∃ a,Heap.SameBut a s.heap s'.heap∧(a=X.env.locals∨X.env.cells.lookup x=some a))->Q () s') (hf:X.fn x=true∨X.env.scope.names.lookup x=some .local:=by first |exact .inl rfl |exact .inr rfl |assumption):wpAny M A (storeName X.env x u) Q E s:=by
 obtain ⟨m,hn,hl⟩:=id I.loc
 have hcls:(X.env.scope.kind == .class || (X.env.scope.kind == .module&&X.env.locals != X.env.globals))=false:=by rw [I.ok.kind];rfl
 have hiσ:i < σ.length:=by rw [I.len];exact (List.getElem?_eq_some_iff.mp hi).1
 have cne:=I.cne
 have tracked:∀ {a:Addr} {h':Heap},(∃ o,s.heap.get? a=some o∧H a=none)->Heap.SameBut a s.heap h'->HOk X.prog X.w H h':=fun {a h'} ha hs b ob e=>by
  obtain ⟨_,_,hfree⟩:=ha
  refine (I.hok b ob e).stay (fun c w' hc q=>(hs.2 c ?_).trans q) (fun _ q=>q) fun _ _ q=>q
  rintro rfl
  rcases hc with rfl |hc
  ·rw [hfree] at e;cases e
  ·rw [hfree] at hc;cases hc
 rcases hx with hk |hk
 ·refine wpAny_storeName_local hk hn (fun h' hn' hs => ?_) hcls
  obtain ⟨oL,_,_,hoL,_⟩:=id hn
  refine h _ ⟨I.ok,I.os,I.bare,⟨fun b o e n hb hx => ?_,fun b o e n hb hx => ?_,I.base.free,fun b o e hx => ?_,I.base.tups,I.base.frzs,I.base.tbls⟩,⟨_,hn',fun j y v' e1 e2 e3 => ?_⟩,fun y c e => ?_,I.free,I.freeC,fun p hp => ?_,tracked ⟨oL,hoL,I.free⟩ hs,by simpa using I.len,I.hnd⟩ ⟨_,hs,.inl rfl⟩
  ·exact (hs.2 b (Nat.ne_of_lt (Nat.lt_of_lt_of_le (Heap.lt_size e) I.ok.above))).trans (I.base.keep b o e n hb hx)
  ·obtain ⟨sl,e1⟩:=I.base.slot b o e n hb hx
   exact ⟨sl,(hs.2 b (Nat.ne_of_lt (Nat.lt_of_lt_of_le (Heap.lt_size e) I.ok.above))).trans e1⟩
  ·obtain ⟨o',e1⟩:=I.base.there b o e hx
   exact ⟨o',(hs.2 b (Nat.ne_of_lt (Nat.lt_of_lt_of_le (Heap.lt_size e) I.ok.above))).trans e1⟩
  ·by_cases hj:j=i
   ·subst hj
    rw [hi] at e1;cases e1
    rw [List.getElem?_set_self hiσ] at e2
    cases e2
    exact ⟨u,r,.inl ⟨hk,by simp⟩⟩
   ·rw [List.getElem?_set_ne (Ne.symm hj)] at e2
    obtain ⟨u',r',q⟩:=hl j y v' e1 e2 e3
    refine ⟨u',r',?_⟩
    rcases q with ⟨k,e⟩ |⟨k,c,e,z⟩
    ·refine .inl ⟨k,?_⟩
     have:y≠x:=fun e=>hj (YK hN e1 (e ▸ hi))
     simp [this,e]
    ·exact .inr ⟨k,c,e,z.sameBut hs (cne y c e)⟩
  ·obtain ⟨w',z⟩:=I.cell y c e
   exact ⟨w',z.sameBut hs (cne y c e)⟩
  ·obtain ⟨e,n,ne,nf,d⟩:=I.pin p hp
   exact ⟨(hs.2 p.1 ne).trans e,n,ne,nf,d⟩
 ·have hfn:X.fn x=true:=by
   rcases hf with z |z
   ·exact z
   ·rw [z] at hk;cases hk
  obtain ⟨c,hc⟩:=I.ok.has x (.inl hk)
  obtain ⟨w',z⟩:=I.cell x c hc
  refine wpAny_storeName_cell I.ok.kind hk hc z (fun h' hc' hs => ?_)
  obtain ⟨oc,hoc,hocd⟩:=id z
  refine h { s with heap:=h' } ⟨I.ok,I.os,I.bare,⟨fun b o e n hb hx => ?_,fun b o e n hb hx => ?_,I.base.free,fun b o e hx => ?_,I.base.tups,I.base.frzs,I.base.tbls⟩,⟨m,hn.sameBut hs (Ne.symm (cne x c hc)),fun j y v' e1 e2 e3 => ?_⟩,fun y c' e => ?_,I.free,I.freeC,fun p hp => ?_,tracked ⟨oc,hoc,I.freeC x c hc⟩ hs,by simpa using I.len,I.hnd⟩ ⟨c,hs,.inr hc⟩
  ·exact (hs.2 b (Nat.ne_of_lt (Nat.lt_of_lt_of_le (Heap.lt_size e) (I.ok.cab x c hfn hc)))).trans (I.base.keep b o e n hb hx)
  ·obtain ⟨sl,e1⟩:=I.base.slot b o e n hb hx
   exact ⟨sl,(hs.2 b (Nat.ne_of_lt (Nat.lt_of_lt_of_le (Heap.lt_size e) (I.ok.cab x c hfn hc)))).trans e1⟩
  ·obtain ⟨o',e1⟩:=I.base.there b o e hx
   exact ⟨o',(hs.2 b (Nat.ne_of_lt (Nat.lt_of_lt_of_le (Heap.lt_size e) (I.ok.cab x c hfn hc)))).trans e1⟩
  ·by_cases hj:j=i
   ·subst hj
    rw [hi] at e1;cases e1
    rw [List.getElem?_set_self hiσ] at e2
    cases e2
    exact ⟨u,r,.inr ⟨.inl hk,c,hc,hc'⟩⟩
   ·rw [List.getElem?_set_ne (Ne.symm hj)] at e2
    obtain ⟨u',r',q⟩:=hl j y v' e1 e2 e3
    refine ⟨u',r',?_⟩
    rcases q with q |⟨k,c',e,z'⟩
    ·exact .inl q
    ·refine .inr ⟨k,c',e,z'.sameBut hs ?_⟩
     rintro rfl
     exact hj (YK hN e1 (I.ok.inj _ _ _ e hc ▸ hi))
  ·by_cases hcc:c'=c
   ·subst hcc;exact ⟨_,hc'⟩
   ·obtain ⟨w2,z2⟩:=I.cell y c' e
    exact ⟨w2,z2.sameBut hs hcc⟩
  ·obtain ⟨e,n,ne,nf,d⟩:=I.pin p hp
   refine ⟨(hs.2 p.1 ?_).trans e,n,ne,nf,d⟩
   intro q
   rw [q,hoc] at e
   have q':oc=p.2:=Option.some.inj e
   exact d w' (by rw [← q'];exact hocd)
theorem wX {M:Model} {A:Around} {E:Value->Shared->Prop} {i:Nat} {x:Str} {v:V} {u:Value} {Q:Unit->Shared->Prop} (I:Inv X pins σ H s) (hN:X.N.Nodup) (hi:X.N[i]? = some x) (hx:Loc X.env.scope x) (r:RelV v u)
  (h:∀ s',Inv X pins (σ.set i (some v)) H s'->Q () s') (hf:X.fn x=true∨X.env.scope.names.lookup x=some .local:=by first |exact .inl rfl |exact .inr rfl |assumption):wpAny M A (storeName X.env x u) Q E s :=
 qCf I hN hi hx r (fun s' I' _=>h s' I') hf
theorem Inv.call' {s':Shared} {ch:List Addr} (I:Inv X pins σ H s) (ho:s'.os=s.os) (u:Un (frs X.stack) ch H H' s.heap s'.heap) (hok:HOk X.prog X.w H' s'.heap) (hg:AllBare s'.gens)
  (hch:∀ b∈ch,(b∈X.ex∨X.s₀.heap.objs.size≤b)∧b≠X.env.locals∧(∀ x c,X.env.cells.lookup x=some c->c≠b) ∧ ∀ p∈X.pn++pins,p.1≠b):Inv X pins σ H' s':=by
 obtain ⟨h',g',d',t',o'⟩:=s'
 have e:o'=s.os:=ho
 subst e
 exact I.call (g':=g') (t':=t') (d':=d') u hok hg hch
end
abbrev XK:=Value->Option Addr->Hp->Prop
abbrev St:=List (Option V)
abbrev VK:=V->Hp->Prop
abbrev TE:=St->Hp->VK->Prop
abbrev TT:=St->Hp->(Bool->Hp->Prop)->Prop
abbrev TA:=St->Hp->(List V->Hp->Prop)->Prop
structure Ends where
 nx:St->Hp->Prop
 rt:VK
 bk:St->Hp->Prop:=fun _ _=>False
 ct:St->Hp->Prop:=fun _ _=>False
abbrev TS:=Ends->St->Hp->Prop
def EP (X:Cx) (pins:List (Addr×Obj)) (σ:St) (Q:VK) (u:Value) (s':Shared):Prop := ∃ v H',Inv X pins σ H' s'∧RelV v u∧Q v H'
def TP (X:Cx) (pins:List (Addr×Obj)) (σ:St) (Q:Bool->Hp->Prop) (b:Bool) (s':Shared):Prop := ∃ H',Inv X pins σ H' s'∧Q b H'
def AP (X:Cx) (pins:List (Addr×Obj)) (σ:St) (Q:List V->Hp->Prop) (us:List Value) (s':Shared):Prop := ∃ vs H',Inv X pins σ H' s'∧Vals vs us∧Q vs H'
def SP (X:Cx) (pins:List (Addr×Obj)) (D:Ends) (f:Flow) (s':Shared):Prop :=
 match f with
 | .next => ∃ σ' H',Inv X pins σ' H' s'∧D.nx σ' H'
 | .brk => ∃ σ' H',Inv X pins σ' H' s'∧D.bk σ' H'
 | .cont => ∃ σ' H',Inv X pins σ' H' s'∧D.ct σ' H'
 | .ret u => ∃ v σ' H',Inv X pins σ' H' s'∧RelV v u∧D.rt v H'
def PE (X:Cx) (e:Expr) (t:TE):Prop :=
 ∀ (pins:List (Addr×Obj)) (s:Shared) (σ:St) (H:Hp) (Q:VK),Inv X pins σ H s->t σ H Q->wpAny (model X.prog X.w) X.A (eval e X.env) (EP X pins σ Q) X.xe s
def PT (X:Cx) (e:Expr) (t:TT):Prop :=
 ∀ (pins:List (Addr×Obj)) (s:Shared) (σ:St) (H:Hp) (Q:Bool->Hp->Prop),Inv X pins σ H s->t σ H Q->wpAny (model X.prog X.w) X.A (isTrue e X.env (eval e X.env)) (TP X pins σ Q) X.xe s
def PW (X:Cx) (e:Expr) (t:TT):Prop :=
 ∀ (whole:Sem Value) (pins:List (Addr×Obj)) (s:Shared) (σ:St) (H:Hp) (Q:Bool->Hp->Prop),Inv X pins σ H s->t σ H Q->wpAny (model X.prog X.w) X.A (isTrue e X.env whole) (TP X pins σ Q) X.xe s
theorem PW.pt {X:Cx} {e:Expr} {t:TT} (h:PW X e t):PT X e t:=h _
def PA (X:Cx) (es:List Expr) (t:TA):Prop :=
 ∀ (pos:Pos) (pins:List (Addr×Obj)) (s:Shared) (σ:St) (H:Hp) (Q:List V->Hp->Prop),Inv X pins σ H s->t σ H Q->wpAny (model X.prog X.w) X.A (spliced (backTo pos (starEach es X.env))) (AP X pins σ Q) X.xe s
def PS (X:Cx) (st:Stmt) (t:TS):Prop :=
 ∀ (pins:List (Addr×Obj)) (s:Shared) (σ:St) (H:Hp) (D:Ends),Inv X pins σ H s->t D σ H->wpAny (model X.prog X.w) X.A (exec st X.env) (SP X pins D) X.xe s
def PSs (X:Cx) (st:List Stmt) (t:TS):Prop :=
 ∀ (pins:List (Addr×Obj)) (s:Shared) (σ:St) (H:Hp) (D:Ends),Inv X pins σ H s->t D σ H->wpAny (model X.prog X.w) X.A (execs st X.env) (SP X pins D) X.xe s
theorem thn {α:Type} {t:Sem α} {Q Q':α->Shared->Prop} {M:Model} {A:Around} {E:Value->Shared->Prop} {s:Shared} (h:wpAny M A t Q E s) (hQ:∀ a s,Q a s->Q' a s):wpAny M A t Q' E s:=wpAny_mono h hQ fun _ _ x=>x
end L2
namespace L2
open PySem PySem.Spec PyProof.Rows
section
variable {X:Cx}
def qJZ (i:Nat):TE:=fun σ H Q => ∃ v,σ[i]? = some (some v)∧Q v H
def tC (v:V):TE:=fun _ H Q=>Q v H
theorem qIO {i:Nat} {x:Str} {pos:Pos} (hN:X.N[i]? = some x) (hv:Vis X.env.scope x) (hd:(x==("__debug__":Str))=false:=by decide) (hcd:(x==("__classdict__":Str))=false:=by decide):PE X (.Name x pos) (qJZ i):=by
 intro pins s σ H Q I h
 obtain ⟨v,e,h⟩:=h
 obtain ⟨m,hn,hl⟩:=I.loc
 obtain ⟨u,r,l⟩:=hl i x v hN e hv
 have fin:EP X pins σ Q u s:=⟨v,H,I,r,h⟩
 rcases l with ⟨hk,hm⟩ |⟨hk,c,hc,hcell⟩
 ·exact wpAny_Name (wpAny_loadName_local I.ok.kind hk hn hm fin) hd
 ·rcases hk with hk |hk
  ·exact wpAny_Name (wpAny_loadName_cell I.ok.kind hk hc hcell fin) hd
  ·exact wpAny_Name (wpAny_loadName_free I.ok.kind hk hc hcell fin hcd) hd
theorem qH5 {i j pos}:PE X (.Constant (.int i) j pos) (tC (.int i)):=fun _ _ _ H _ I h=>wpAny_Constant_int ⟨.int i,H,I.tok _,⟨_,rfl⟩,h⟩
theorem qKf {b j pos}:PE X (.Constant (.bool b) j pos) (tC (.bl b)):=fun _ _ _ H _ I h=>Constant_bool ⟨.bl b,H,I,rfl,h⟩
theorem qIH {j pos}:PE X (.Constant .none j pos) (tC .non):=fun _ _ _ H _ I h=>Constant_none ⟨.non,H,I,rfl,h⟩
theorem qIB {x j pos}:PE X (.Constant (.str x) j pos) (tC (.str x)):=fun _ _ _ H _ I h=>Calls.Constant_str ⟨.str x,H,I.tok _,⟨_,rfl⟩,h⟩
def Gl (X:Cx) (x:Str):Prop:=X.env.kindOf x=some .globalImplicit
theorem JU {E:Value->Shared->Prop} {pins:List (Addr×Obj)} {s:Shared} {σ:St} {H:Hp} {x:Str} {u:Value} {pos:Pos} {Q:Value->Shared->Prop} (I:Inv X pins σ H s) (hg:Gl X x) (hm:X.mg x=some u) (h:Q u s)
  (hd:(x==("__debug__":Str))=false:=by decide):wpAny (model X.prog X.w) X.A (eval (.Name x pos) X.env) Q E s :=
 Calls.Name_function_global I.ok.kind hg (Calls.loadGlobal_global (by rw [I.ok.glob];exact I.mod.glob.keeps I.bk) hm h) hd
theorem Za {E:Value->Shared->Prop} {pins:List (Addr×Obj)} {s:Shared} {σ:St} {H:Hp} {x:Str} {u:Value} {pos:Pos} {Q:Value->Shared->Prop} (I:Inv X pins σ H s) (hg:Gl X x) (hm:X.mg x=none) (hv:bootBuiltins x=some u) (h:Q u s)
  (hn:x ≠ "__name__" := by decide) (hd:(x==("__debug__":Str))=false:=by decide):wpAny (model X.prog X.w) X.A (eval (.Name x pos) X.env) Q E s:=by
 obtain ⟨mb,h1,h2⟩:=I.mod.blt
 exact Calls.Name_function_global I.ok.kind hg (Calls.loadGlobal_builtin (by rw [I.ok.glob];exact I.mod.glob.keeps I.bk) hm (by rw [I.ok.blt];exact h1.keeps I.bk) ((h2 x hn).trans hv) h) hd
theorem qB7 {x:Str} {v:V} {u:Value} {pos:Pos} (hg:Gl X x) (hm:X.mg x=some u) (r:RelV v u) (hd:(x==("__debug__":Str))=false:=by decide):PE X (.Name x pos) (tC v) :=
 fun _ _ _ H _ I h=>JU I hg hm ⟨v,H,I,r,h⟩ hd
theorem qGs {x:Str} {v:V} {u:Value} {pos:Pos} (hg:Gl X x) (hm:X.mg x=none) (hv:bootBuiltins x=some u) (r:RelV v u) (hn:x ≠ "__name__" := by decide) (hd:(x==("__debug__":Str))=false:=by decide):PE X (.Name x pos) (tC v) :=
 fun _ _ _ H _ I h=>Za I hg hm hv ⟨v,H,I,r,h⟩ hn hd
variable {a b:Expr} {ta tb:TE} {pos:Pos}
variable {tA tB':TT} {rest:List Expr}
def qLY (t u:TT):TT:=fun σ H Q=>t σ H fun c H1=>if c=true then u σ H1 Q else Q false H1
def tOr (t u:TT):TT:=fun σ H Q=>t σ H fun c H1=>if c=true then Q true H1 else u σ H1 Q
def qK6 (t:TT):TT:=fun σ H Q=>t σ H fun c H1=>Q (!c) H1
theorem qFv (ha:PT X a tA):PW X (.BoolOp .And [a] pos) tA:=by
 intro wh pins s σ H Q I h
 refine isTrue_and (thn (ha pins s σ H Q I h) fun c s1 e => ?_)
 cases c with
 |true=>exact isTrue_and_nil e
 |false=>exact e
theorem qIe (ha:PT X a tA):PW X (.BoolOp .Or [a] pos) tA:=by
 intro wh pins s σ H Q I h
 refine isTrue_or (thn (ha pins s σ H Q I h) fun c s1 e => ?_)
 cases c with
 |false=>exact isTrue_or_nil e
 |true=>exact e
theorem qIw (ha:PT X a tA) (hb:PW X (.BoolOp .And (b::rest) pos) tB'):PW X (.BoolOp .And (a::b::rest) pos) (qLY tA tB'):=by
 intro wh pins s σ H Q I h
 refine isTrue_and (thn (ha pins s σ H _ I h) fun c s1 ⟨H1,I1,q1⟩ => ?_)
 cases c with
 |true=>exact hb wh pins s1 σ H1 Q I1 q1
 |false=>exact ⟨H1,I1,q1⟩
theorem qKP (ha:PT X a tA) (hb:PW X (.BoolOp .Or (b::rest) pos) tB'):PW X (.BoolOp .Or (a::b::rest) pos) (tOr tA tB'):=by
 intro wh pins s σ H Q I h
 refine isTrue_or (thn (ha pins s σ H _ I h) fun c s1 ⟨H1,I1,q1⟩ => ?_)
 cases c with
 |true=>exact ⟨H1,I1,q1⟩
 |false=>exact hb wh pins s1 σ H1 Q I1 q1
theorem qHc (ha:PT X a tA):PT X (.UnaryOp .Not a pos) (qK6 tA):=by
 intro pins s σ H Q I h
 exact isTrue_not (ha pins s σ H (fun c H1=>Q (!c) H1) I h)
def qKZ (ta tb:TE):TE:=fun σ H Q=>ta σ H fun x H1 => ∃ c,x = .bl c∧if c=true then tb σ H1 Q else Q (.bl false) H1
def qKa (ta:TE):TE:=fun σ H Q=>ta σ H fun x H1 => ∃ c,x = .bl c∧Q (.bl (!c)) H1
theorem qJL {op} {t:TE} (h:PE X a t):PE X (.BoolOp op [a] pos) t:=fun pins s σ H Q I hw=>BoolOp_one (h pins s σ H Q I hw)
theorem qH2 (ha:PE X a ta) (hb:PE X (.BoolOp .And (b::rest) pos) tb):PE X (.BoolOp .And (a::b::rest) pos) (qKZ ta tb):=by
 intro pins s σ H Q I h
 refine BoolOp_and (thn (ha pins s σ H _ I h) fun v s1 ⟨x,H1,I1,r1,q1⟩ => ?_)
 obtain ⟨c,rfl,q1⟩:=q1
 cases r1
 refine wpAny_truthy_bool ?_
 cases c with
 |true=>exact hb pins s1 σ H1 Q I1 q1
 |false=>exact ⟨.bl false,H1,I1,rfl,q1⟩
theorem qJb (ha:PE X a ta):PE X (.UnaryOp .Not a pos) (qKa ta):=by
 intro pins s σ H Q I h
 refine UnaryOp_ (thn (ha pins s σ H _ I h) fun v s1 ⟨x,H1,I1,r1,q1⟩ => ?_)
 obtain ⟨c,rfl,q1⟩:=q1
 cases r1
 exact not_of (wpAny_truthy_bool ⟨.bl (!c),H1,I1,rfl,q1⟩)
end
end L2
namespace L2
open PySem PySem.Spec PyProof.Rows
def SqL (K:W.Frag) (H:Hp) (a:Addr) (xs:List V):Prop :=
 Rd H a (.lst xs) ∨
  ∃ (o:Obj) (its:Array Value) (n:Nat),K.lookup a=some o∧o.cls = .type "list" ∧ o.dict=none∧o.data = .seq its n∧its.size≤sizeLine∧Vals xs its.toList
def SqT (K:W.Frag) (H:Hp) (a:Addr) (xs:List V):Prop :=
 Rd H a (.tup xs) ∨
  ∃ (o:Obj) (its:Array Value) (n:Nat),K.lookup a=some o∧o.cls = .type "tuple" ∧ o.data = .seq its n∧its.size≤sizeLine∧Vals xs its.toList
def qLS:Value->Option V
 | .none=>some .non
 | .bool b=>some (.bl b)
 | .int i _=>some (.int i)
 | .str x _=>some (.str x)
 | .bytes b _=>some (.byt b)
 | .float b _=>some (.flt b)
 | .ref a=>some (.ref a)
 | .type n=>some (.ty n)
 |_=>none
theorem RelV.abs {x:V} {u:Value} (r:RelV x u):qLS u=some x:=by
 cases x with
 |non=>cases r;rfl
 |bl _=>cases r;rfl
 |int _=>obtain ⟨t,rfl⟩:=r;rfl
 |str _=>obtain ⟨t,rfl⟩:=r;rfl
 |byt _=>obtain ⟨t,rfl⟩:=r;rfl
 |flt _=>obtain ⟨t,rfl⟩:=r;rfl
 |ref _=>cases r;rfl
 |ty _=>cases r;rfl
theorem RelV.inj {x y:V} {u:Value} (r:RelV x u) (q:RelV y u):x=y:=Option.some.inj (r.abs.symm.trans q.abs)
theorem Vals.inj:∀ {xs ys:List V} {us:List Value},Vals xs us->Vals ys us->xs=ys
 |_,_,_,.nil,.nil=>rfl
 |_,_,_,.cons r t,.cons r' t'=>by rw [r.inj r',Vals.inj t t']
section
variable {X:Cx} {pins:List (Addr×Obj)} {σ:St} {H:Hp} {s:Shared} {a:Addr} {xs ys:List V}
theorem SqL.of {K:W.Frag} (h:H a=some (.lst xs)):SqL K H a xs := .inl (.inl h)
theorem Inv.list (I:Inv X pins σ H s) (h:SqL X.K H a xs):∃ its:List Value,Vals xs its∧PlainL s.heap a its.toArray∧xs.length≤sizeLine:=by
 rcases h with h |⟨o,its,n,hk,hc,hd,hs,hz,r⟩
 ·obtain ⟨z,its,n,r,e⟩:=h.ok I.hok
  exact ⟨its,r,⟨_,n,e,rfl,rfl,rfl⟩,z⟩
 ·refine ⟨its.toList,r,⟨o,n,I.kIn a o hk,hc,hd,by simpa using hs⟩,?_⟩
  have e:=r.length
  simp only [Array.length_toList] at e
  omega
theorem Inv.tuple (I:Inv X pins σ H s) (h:SqT X.K H a xs):∃ its:List Value,Vals xs its∧IsTup s.heap a its.toArray∧xs.length≤sizeLine:=by
 rcases h with h |⟨o,its,n,hk,hc,hs,hz,r⟩
 ·obtain ⟨z,its,r,p⟩:=h.ok I.hok
  exact ⟨its,r,p,z⟩
 ·refine ⟨its.toList,r,⟨o,I.kIn a o hk,hc,n,by simpa using hs⟩,?_⟩
  have e:=r.length
  simp only [Array.length_toList] at e
  omega
theorem Inv.list_inj (I:Inv X pins σ H s) (h:SqL X.K H a xs) (h':SqL X.K H a ys):xs=ys:=by
 obtain ⟨its,r,⟨o,n,e,_,_,d⟩,_⟩:=I.list h
 obtain ⟨its',r',⟨o',n',e',_,_,d'⟩,_⟩:=I.list h'
 rw [e] at e';cases e'
 rw [d] at d'
 injection d' with d1 _
 have:its=its':=by simpa using congrArg Array.toList d1
 subst this
 exact r.inj r'
theorem Inv.tuple_inj (I:Inv X pins σ H s) (h:SqT X.K H a xs) (h':SqT X.K H a ys):xs=ys:=by
 obtain ⟨its,r,⟨o,e,_,n,d⟩,_⟩:=I.tuple h
 obtain ⟨its',r',⟨o',e',_,n',d'⟩,_⟩:=I.tuple h'
 rw [e] at e';cases e'
 rw [d] at d'
 injection d' with d1 _
 have:its=its':=by simpa using congrArg Array.toList d1
 subst this
 exact r.inj r'
end
abbrev Cx.wish (X:Cx) (E:Value->Shared->Prop):Cx:={ X with xe:=E }
abbrev Cx.nox (X:Cx):Cx:=X.wish fun _ _=>False
theorem Cx.Ok.wish {X:Cx} (ok:X.Ok) (E:Value->Shared->Prop):(X.wish E).Ok :=
 ⟨ok.mod,ok.kind,ok.glob,ok.blt,ok.above,ok.inj,ok.has,ok.cab,ok.hd,ok.frames,ok.stk,ok.exf,ok.bs,ok.bsz,ok.noex,ok.exfs,ok.funs,ok.frf⟩
theorem Cx.Ok.unwish {X:Cx} {E:Value->Shared->Prop} (ok:(X.wish E).Ok):X.Ok :=
 ⟨ok.mod,ok.kind,ok.glob,ok.blt,ok.above,ok.inj,ok.has,ok.cab,ok.hd,ok.frames,ok.stk,ok.exf,ok.bs,ok.bsz,ok.noex,ok.exfs,ok.funs,ok.frf⟩
section
variable {X:Cx} {pins:List (Addr×Obj)} {σ:St} {H:Hp} {s:Shared} {E:Value->Shared->Prop}
theorem Inv.wish (I:Inv X pins σ H s) (E:Value->Shared->Prop):Inv (X.wish E) pins σ H s:=⟨I.ok.wish E,I.os,I.bare,I.base,I.loc,I.cell,I.free,I.freeC,I.pin,I.hok,I.len,I.hnd⟩
theorem Inv.unwish (I:Inv (X.wish E) pins σ H s):Inv X pins σ H s:=⟨I.ok.unwish,I.os,I.bare,I.base,I.loc,I.cell,I.free,I.freeC,I.pin,I.hok,I.len,I.hnd⟩
theorem SP.unwish {D:Ends} {f:Flow} {s':Shared} (h:SP (X.wish E) pins D f s'):SP X pins D f s':=by
 cases f with
 |next=>obtain ⟨σ',H',I,q⟩:=h;exact ⟨σ',H',I.unwish,q⟩
 |brk=>obtain ⟨σ',H',I,q⟩:=h;exact ⟨σ',H',I.unwish,q⟩
 |cont=>obtain ⟨σ',H',I,q⟩:=h;exact ⟨σ',H',I.unwish,q⟩
 |ret u=>obtain ⟨v,σ',H',I,r,q⟩:=h;exact ⟨v,σ',H',I.unwish,r,q⟩
end
section
variable {X:Cx} {st:Stmt} {rest:List Stmt} {t u:TS} {e:Expr} {te:TE} {pos:Pos}
def qKC:TS:=fun D σ H=>D.nx σ H
def qLD (t u:TS):TS:=fun D σ H=>t { D with nx:=u D } σ H
theorem qFk:PSs X [] qKC:=fun _ _ σ H _ I h=>wpAny_execs_nil ⟨σ,H,I,h⟩
theorem qE6 (h1:PS X st t) (h2:PSs X rest u):PSs X (st::rest) (qLD t u):=by
 intro pins s σ H D I h
 refine wpAny_execs_cons (thn (h1 pins s σ H { D with nx:=u D } I h) fun f s1 q => ?_)
 cases f with
 |next =>
  obtain ⟨σ',H',I',q⟩:=q
  exact h2 pins s1 σ' H' D I' q
 |ret v=>exact q
 |brk=>exact q
 |cont=>exact q
theorem qF3 (h1:PS X st t):PSs X [st] t:=by
 intro pins s σ H D I h
 refine wpAny_execs_cons (thn (h1 pins s σ H D I h) fun f s1 q => ?_)
 cases f with
 |next=>exact wpAny_execs_nil q
 |ret v=>exact q
 |brk=>exact q
 |cont=>exact q
theorem Inv.quiet {pins:List (Addr×Obj)} {σ:St} {H:Hp} {s:Shared} (I:Inv X pins σ H s):interactive X.env=false:=by simp [interactive,I.ok.kind]
def qJ7 (te:TE):TS:=fun D σ H=>te σ H fun _ H1=>D.nx σ H1
theorem qCV (he:PE X e te) (hs:swapsWith e none pos.line X.env=pure false:=by rfl):PS X (.Expr e pos) (qJ7 te):=by
 intro pins s σ H D I h
 exact wpAny_Expr_any (thn (he pins s σ H _ I h) fun v s1 ⟨x,H1,I1,r1,q1⟩=>⟨σ,H1,I1,q1⟩) I.quiet hs
def qK1 (te:TE):TS:=fun D σ H=>te σ H D.rt
theorem qE3 (he:PE X e te):PS X (.Return (some e) pos) (qK1 te):=by
 intro pins s σ H D I h
 exact wpAny_Return_some (thn (he pins s σ H _ I h) fun v s1 ⟨x,H1,I1,r1,q1⟩=>⟨x,σ,H1,I1,r1,q1⟩)
def qLN (c:TT) (t u:TS):TS:=fun D σ H=>c σ H fun b H1=>if b=true then t D σ H1 else u D σ H1
theorem qKi {c:Expr} {a b:List Stmt} {tc:TT} (hc:PT X c tc) (ha:PSs X a t) (hb:PSs X b u):PS X (.If c a b pos) (qLN tc t u):=by
 intro pins s σ H D I h
 refine wpAny_If (thn (hc pins s σ H _ I h) fun d s1 ⟨H1,I1,q1⟩ => ?_)
 cases d with
 |true=>exact ha pins s1 σ H1 D I1 q1
 |false=>exact hb pins s1 σ H1 D I1 q1
end
abbrev TG:=V->St->Hp->(St->Hp->Prop)->Prop
abbrev TGs:=List V->St->Hp->(St->Hp->Prop)->Prop
def PG (X:Cx) (target:Expr) (t:TG):Prop :=
 ∀ (pins:List (Addr×Obj)) (s:Shared) (σ:St) (H:Hp) (v:V) (u:Value) (Q:St->Hp->Prop),Inv X pins σ H s->RelV v u->t v σ H Q ->
  wpAny (model X.prog X.w) X.A (assign target X.env u) (fun _ s' => ∃ σ' H',Inv X pins σ' H' s'∧Q σ' H') X.xe s
def PGs (X:Cx) (ts:List Expr) (t:TGs):Prop :=
 ∀ (pins:List (Addr×Obj)) (s:Shared) (σ:St) (H:Hp) (vs:List V) (us:List Value) (Q:St->Hp->Prop),Inv X pins σ H s->Vals vs us->t vs σ H Q ->
  wpAny (model X.prog X.w) X.A (assignInOrder ((assignEach ts X.env).map (·.2)) us) (fun _ s' => ∃ σ' H',Inv X pins σ' H' s'∧Q σ' H') X.xe s
abbrev qHp:=V->V->V->Hp->(Hp->Prop)->Prop
def qKj (X:Cx) (t:qHp):Prop :=
 ∀ (pins:List (Addr×Obj)) (s:Shared) (σ:St) (H:Hp) (o i v:V) (ov iv u:Value) (Q:Hp->Prop),Inv X pins σ H s->RelV o ov->RelV i iv->RelV v u->t o i v H Q ->
  wpAny (model X.prog X.w) X.A (setItem ov iv u) (fun _ s' => ∃ H',Inv X pins σ H' s'∧Q H') X.xe s
abbrev TIp:=V->V->Hp->VK->Prop
def PIp (X:Cx) (op:Operator) (t:TIp):Prop :=
 ∀ (pins:List (Addr×Obj)) (s:Shared) (σ:St) (H:Hp) (x y:V) (v u:Value) (Q:VK),Inv X pins σ H s->RelV x v->RelV y u->t x y H Q ->
  wpAny (model X.prog X.w) X.A (inplaceOp op v u) (EP X pins σ Q) X.xe s
section
variable {X:Cx} {pos:Pos}
def qEZ (i:Nat):TG:=fun v σ H Q=>Q (σ.set i (some v)) H
theorem qFu {i:Nat} {x:Str} (hN:X.N.Nodup) (hi:X.N[i]? = some x) (hx:Loc X.env.scope x) (hf:X.fn x=true∨X.env.scope.names.lookup x=some .local:=by first |exact .inl rfl |exact .inr rfl |assumption):PG X (.Name x pos) (qEZ i):=by
 intro pins s σ H v u Q I r h
 exact wpAny_assign_Name (wX I hN hi hx r (fun s' I'=>⟨_,H,I',h⟩) hf)
def qLH:TGs:=fun vs σ H Q=>vs=[]∧Q σ H
def qJ1 (t:TG) (u:TGs):TGs:=fun vs σ H Q => ∃ v r,vs=v::r∧t v σ H fun σ' H'=>u r σ' H' Q
theorem qCS:PGs X [] qLH:=by
 intro pins s σ H vs us Q I r h
 obtain ⟨e,h⟩:=h
 subst e
 cases r
 exact assignInOrder_nil ⟨σ,H,I,h⟩
theorem YW {e:Expr} {es:List Expr} {t:TG} {u:TGs} (h1:PG X e t) (h2:PGs X es u)
  (hs:(assignEach (e::es) X.env).map (·.2)=assign e X.env::(assignEach es X.env).map (·.2):=by rfl):PGs X (e::es) (qJ1 t u):=by
 intro pins s σ H vs us Q I r h
 obtain ⟨v,vr,e1,h⟩:=h
 subst e1
 cases r with
 |cons r rr =>
  rw [hs]
  refine assignInOrder_cons (thn (h1 pins s σ H _ _ _ I r h) fun _ s1 ⟨σ1,H1,I1,q1⟩ => ?_)
  exact h2 pins s1 σ1 H1 _ _ Q I1 rr q1
def qKy (K:W.Frag) (n:Nat) (t:TGs):TG:=fun v σ H Q => ∃ a xs,v = .ref a∧SqT K H a xs∧xs.length=n∧t xs σ H Q
theorem qDl {es:List Expr} {k:Nat} {t:TGs} {n:Nat} (hc:X.calm=true) (h:PGs X es t)
  (hn:(assignEach es X.env).length=n:=by rfl) (hst:(assignEach es X.env).findIdx? (·.1)=none:=by rfl):PG X (.Tuple es k pos) (qKy X.K n t):=by
 intro pins s σ H v u Q I r hw
 obtain ⟨a,xs,e1,hq,hl,hw⟩:=hw
 subst e1
 cases r
 obtain ⟨its,rv,ht,hz⟩:=I.tuple hq
 refine assign_Tuple_tuple (I.ok.hd hc) ht (by simp [hn,← hl,rv.length]) hst fun h' hx => ?_
 have I1:Inv X pins σ H { s with heap:=h' }:=I.kept (t':=s.toks) fun b o e=>hx b o (Nat.ne_of_lt (Heap.lt_size e)) e
 exact h pins _ σ H xs _ Q I1 (by simpa using rv) hw
def wV (to ti:TE) (t:qHp):TG:=fun v σ H Q=>to σ H fun o H1=>ti σ H1 fun i H2=>t o i v H2 fun H3=>Q σ H3
theorem qBd {o i:Expr} {to ti:TE} {t:qHp} (ho:PE X o to) (hi:PE X i ti) (hs:qKj X t)
  (ha:∀ v,assign (.Subscript o i pos) X.env v=(do
   let ov ← holding [v] (eval o X.env)
   let iv ← holding [v,ov] (eval i X.env)
   standAt pos
   holding [v,ov,iv] (setItem ov iv v)
   release [v,ov,iv] []):=by intro _;rfl):PG X (.Subscript o i pos) (wV to ti t):=by
 intro pins s σ H v u Q I r h
 rw [ha]
 refine wpAny_bind (wpAny_holding (thn (ho pins s σ H _ I h) fun ov s1 ⟨x,H1,I1,r1,q1⟩ => ?_))
 refine wpAny_bind (wpAny_holding (thn (hi pins s1 σ H1 _ I1 q1) fun iv s2 ⟨y,H2,I2,r2,q2⟩ => ?_))
 refine wpAny_bind (wpAny_standAt (wpAny_bind (wpAny_holding (thn (hs pins s2 σ H2 x y v ov iv u _ I2 r1 r2 r q2) fun _ s3 ⟨H3,I3,q3⟩ => ?_))))
 exact wpAny_release ⟨σ,H3,I3,q3⟩
def qI6 (te:TE) (g:TG):TS:=fun D σ H=>te σ H fun x H1=>g x σ H1 D.nx
theorem qBD {tg e:Expr} {te:TE} {g:TG} (he:PE X e te) (hg:PG X tg g) (hs:swapsWithSole [tg] e pos.line X.env=pure false:=by rfl) (hw:swappedStores [tg] e X.env=pure none:=by rfl)
  (h1:(assignEach [tg] X.env).map (·.2)=[assign tg X.env]:=by rfl):PS X (.Assign [tg] e pos) (qI6 te g):=by
 intro pins s σ H D I h
 refine wpAny_Assign_stores (thn (he pins s σ H _ I h) fun v s1 ⟨x,H1,I1,r1,q1⟩ => ?_) hs hw
 rw [h1]
 exact thn (hg pins s1 σ H1 x v _ I1 r1 q1) fun _ s2 q=>q
theorem qDW {i:Nat} {x:Str} {e:Expr} {te:TE} {pos':Pos} (hN:X.N.Nodup) (hi:X.N[i]? = some x) (hx:Loc X.env.scope x) (he:PE X e te) (hs:swapsWith e (some (.Name x pos')) pos.line X.env=pure false:=by rfl) (hf:X.fn x=true∨X.env.scope.names.lookup x=some .local:=by first |exact .inl rfl |exact .inr rfl |assumption) :
  PS X (.Assign [.Name x pos'] e pos) (qI6 te (qEZ i)):=by
 intro pins s σ H D I h
 refine wpAny_Assign_Name (thn (he pins s σ H _ I h) fun v s1 ⟨y,H1,I1,r1,q1⟩ => ?_) hs
 exact wX I1 hN hi hx r1 (fun s2 I2=>⟨_,H1,I2,q1⟩) hf
def qLM (i j:Nat) (ta:TA):TS:=fun D σ H=>ta σ H fun vs H1 => ∃ v w,vs=[v,w]∧D.nx ((σ.set i (some v)).set j (some w)) H1
theorem qH4 {i j:Nat} {x y:Str} {a b:Expr} {ta:TA} {px py pt:Pos} {kt k2 pt2} (hc:X.calm=true) (hN:X.N.Nodup) (hi:X.N[i]? = some x) (hj:X.N[j]? = some y) (hij:i≠j)
  (hx:X.env.scope.names.lookup x=some .local) (hy:X.env.scope.names.lookup y=some .local) (ha:PA X [a,b] ta)
  (hw:swappedStores [.Tuple [.Name x px,.Name y py] kt pt] (.Tuple [a,b] k2 pt2) X.env=pure (some [x,y]))
  (hs:swapsWithSole [.Tuple [.Name x px,.Name y py] kt pt] (.Tuple [a,b] k2 pt2) pos.line X.env=pure false:=by rfl) :
  PS X (.Assign [.Tuple [.Name x px,.Name y py] kt pt] (.Tuple [a,b] k2 pt2) pos) (qLM i j ta):=by
 intro pins s σ H D I h
 rw [exec_Assign_arm]
 refine wpAny_bind (wpAny_standAt ?_)
 rw [hs]
 refine wpAny_bind (wpAny_pure ?_)
 rw [if_neg (by decide)]
 refine wpAny_bind (Tuple_ (thn (ha _ pins s σ H _ I h) fun us s1 ⟨vs,H1,I1,r1,q1⟩ => ?_))
 obtain ⟨v,w,e1,q1⟩:=q1
 subst e1
 obtain ⟨u1,u2,rfl,rv,rw'⟩:∃ u1 u2,us=[u1,u2]∧RelV v u1∧RelV w u2:=by
  cases r1 with
  |cons p q =>
   cases q with
   |cons p' q' =>
    cases q'
    exact ⟨_,_,rfl,p,p'⟩
 refine wpAny_newObj_type ?_ (by show 2≤sizeLine;decide)
 have I2:Inv X pins σ H1 { s1 with heap:=s1.heap.push { cls := .type "tuple",data := .seq [u1,u2].toArray } }:=I1.kept (t':=s1.toks) fun b o e=>Heap.get?_push_of_some _ e
 rw [hw]
 refine wpAny_bind (wpAny_pure ?_)
 show wpAny (model X.prog X.w) X.A (do rule "assign.swapped-stores";let items ← unpackItems (.ref s1.heap.objs.size) 2 none;assignInOrder [fun v=>bindName X.env y v,fun v=>bindName X.env x v] items.reverse;pure Flow.next) _ _ _
 refine wpAny_bind (wpAny_rule (wpAny_bind (unpackItems_tuple (items := #[u1,u2]) (I.ok.hd hc) (IsTup.new s1.heap _) fun h' hx' => ?_)))
 have I3:=I2.kept (h':=h') (t':=s1.toks) fun b o e=>hx' b o (Nat.ne_of_lt (Heap.lt_size e)) e
 show wpAny _ _ (assignInOrder [fun v=>bindName X.env y v,fun v=>bindName X.env x v] [u2,u1] >>= fun _=>pure Flow.next) _ _ _
 refine wpAny_bind (assignInOrder_cons (wpAny_bindName (wX I3 hN hj (.inl hy) rw' (fun s2 I4 => ?_) (.inr hy))))
 refine assignInOrder_cons (wpAny_bindName (wX I4 hN hi (.inl hx) rv (fun s3 I5=>assignInOrder_nil (wpAny_pure ?_)) (.inr hx)))
 rw [List.set_comm _ _ (Ne.symm hij)] at I5
 exact ⟨_,H1,I5,q1⟩
def qK8 (i:Nat) (te:TE) (ti:TIp):TS:=fun D σ H => ∃ x,σ[i]? = some (some x)∧te σ H fun y H1=>ti x y H1 fun z H2=>D.nx (σ.set i (some z)) H2
theorem qIR {i:Nat} {x:Str} {e:Expr} {te:TE} {op:Operator} {ti:TIp} {pos':Pos} (hN:X.N.Nodup) (hi:X.N[i]? = some x) (hx:Loc X.env.scope x) (he:PE X e te) (ho:PIp X op ti) (hf:X.fn x=true∨X.env.scope.names.lookup x=some .local:=by first |exact .inl rfl |exact .inr rfl |assumption) :
  PS X (.AugAssign (.Name x pos') op e pos) (qK8 i te ti):=by
 intro pins s σ H D I h
 obtain ⟨v,e1,h⟩:=h
 obtain ⟨m,hn,hl⟩:=I.loc
 have vis:Vis X.env.scope x:=by rcases hx with k |k;exact .inl k;exact .inr (.inl k)
 obtain ⟨u,r,l⟩:=hl i x v hi e1 vis
 refine wpAny_AugAssign_Name ?_
 have go:wpAny (model X.prog X.w) X.A (eval e X.env) (fun w s₂=>wpAny (model X.prog X.w) X.A (inplaceOp op u w) (fun r s₃=>wpAny (model X.prog X.w) X.A (storeName X.env x r) (fun _=>SP X pins D .next) X.xe s₃) X.xe s₂) X.xe s:=by
  refine thn (he pins s σ H _ I h) fun w s1 ⟨y,H1,I1,r1,q1⟩ => ?_
  refine thn (ho pins s1 σ H1 v y u w _ I1 r r1 q1) fun z s2 ⟨zv,H2,I2,r2,q2⟩ => ?_
  exact wX I2 hN hi hx r2 (fun s3 I3=>⟨_,H2,I3,q2⟩) hf
 rcases l with ⟨hk,hm⟩ |⟨hk,c,hc,hcell⟩
 ·exact wpAny_loadName_local I.ok.kind hk hn hm go
 ·rcases hk with hk |hk
  ·exact wpAny_loadName_cell I.ok.kind hk hc hcell go
  ·rcases hx with k |k
   ·have:X.env.scope.names.lookup x=some .free:=hk
    rw [k] at this;cases this
   ·have:X.env.scope.names.lookup x=some .free:=hk
    rw [k] at this;cases this
def ipI (f:Int->Int->Int):TIp:=fun x y H Q => ∃ i j,x = .int i∧y = .int j∧Q (.int (f i j)) H
theorem qJP:PIp X .Add (ipI fun i j=>i + j):=by
 intro pins s σ H x y v u Q I r1 r2 h
 obtain ⟨i,j,e1,e2,q⟩:=h
 subst e1;subst e2
 obtain ⟨t,rfl⟩:=r1
 obtain ⟨t',rfl⟩:=r2
 exact iadd_int ⟨.int _,H,I.tok _,⟨_,rfl⟩,q⟩
def qJJ (c:TT) (tb:TS):TS:=fun D σ H => ∃ W:Nat->St->Hp->Prop,(∃ m,W m σ H) ∧ ∀ m σ H,W m σ H ->
 c σ H fun b H1=>if b=true then ∃ N:St->Hp->Prop,(∀ σ' H',N σ' H' -> ∃ m',m' < m∧W m' σ' H')∧tb { D with nx:=N,ct:=N,bk:=D.nx } σ H1 else D.nx σ H1
end
structure It where
 go:Nat->Hp->Prop
 yld:Nat->Hp->V->Hp->Prop
 stop:Nat->Hp->Prop
def ZQ (X:Cx) (pins:List (Addr×Obj)) (H:Hp) (b:Addr):Prop :=
 H b=none∧b≠X.env.locals∧b ∉ X.fs∧(b∈X.ex∨X.s₀.heap.objs.size≤b)∧(∀ x c,X.env.cells.lookup x=some c->c≠b) ∧ ∀ p∈X.pn++pins,p.1≠b
theorem Inv.fpOk {X:Cx} {pins:List (Addr×Obj)} {σ:St} {H H':Hp} {s:Shared} {b:Addr} (I:Inv X pins σ H s) (hb:s.heap.objs.size≤b) (hn:H' b=none):ZQ X pins H' b:=by
 refine ⟨hn,Nat.ne_of_gt (Nat.lt_of_lt_of_le I.lt hb),I.nofs hb,.inr (Nat.le_trans I.sz hb),fun x c e z => ?_,fun p hp z => ?_⟩
 ·obtain ⟨v,q⟩:=I.cell x c e
  exact absurd (Nat.lt_of_lt_of_le q.lt (by rw [z];exact hb)) (Nat.lt_irrefl _)
 ·exact absurd (Nat.lt_of_lt_of_le (Heap.lt_size (I.pin p hp).1) (by rw [z];exact hb)) (Nat.lt_irrefl _)
theorem Inv.hndH {X:Cx} {pins:List (Addr×Obj)} {σ:St} {H:Hp} {s:Shared} (I:Inv X pins σ H s):EX.Hnd X.A s.heap:=fun v hv=>by
 obtain ⟨ea,oe,u,vs,e1,e2,e3⟩:=I.hnd v hv
 exact ⟨ea,oe,vs,e1,(I.hok _ _ e2).1,e3⟩
theorem Inv.hndNe {X:Cx} {pins:List (Addr×Obj)} {σ:St} {H:Hp} {s:Shared} (I:Inv X pins σ H s) {it:Addr} (hn:H it=none):∀ v,X.A.handled=some v->v ≠ .ref it:=fun v hv z=>by
 obtain ⟨ea,oe,u,vs,e1,e2,e3⟩:=I.hnd v hv
 rw [e1] at z;cases z;rw [hn] at e2;cases e2
structure Turn (P:Program) (w:World) (K:W.Frag) (A:Around) (tg:Expr) (J:It) (fp:List Addr) (it:Addr) (tn:Nat->Heap->Prop):Prop where
 mem:it∈fp
 obj:∀ i h,tn i h -> ∀ b∈fp,∃ o,h.get? b=some o ∧ ∀ v,o.data ≠ .cell v
 keep:∀ i h h',tn i h->(∀ b∈fp,∀ o,h.get? b=some o->h'.get? b=some o)->tn i h'
 item:∀ (X:Cx),X.prog=P->X.w=w->X.K=K->X.A=A -> ∀ (i:Nat) (pins:List (Addr×Obj)) (s:Shared) (σ:St) (H:Hp) (E:Value->Shared->Prop),Inv X pins σ H s->(∀ b∈fp,ZQ X pins H b)->tn i s.heap->J.go i H ->
  wpAny (model P w) X.A (pyNext (.ref it)) (fun r s1 => ∃ u,r=some u ∧
   wpAny (model P w) X.A (letOwnedTupleGo tg (.ref it) u) (fun _ s2 => ∃ x H',Inv X pins σ H' s2∧RelV x u∧J.yld i H x H'∧tn (i + 1) s2.heap ∧ ∀ b∈fp,H' b=none) E s1) E s
 done:∀ (X:Cx),X.prog=P->X.w=w->X.K=K->X.A=A -> ∀ (i:Nat) (pins:List (Addr×Obj)) (s:Shared) (σ:St) (H:Hp) (E:Value->Shared->Prop),Inv X pins σ H s->(∀ b∈fp,ZQ X pins H b)->tn i s.heap->J.stop i H ->
  wpAny (model P w) X.A (pyNext (.ref it)) (fun r s1=>r=none∧Inv X pins σ H s1) E s
 self:∀ (A:Around) (i:Nat) (s:Shared) (Q:Value->Shared->Prop) (E:Value->Shared->Prop),tn i s.heap->Q (.ref it) s->wpAny (model P w) A (pyIter (.ref it)) Q E s
abbrev TI:=St->Hp->(It->Hp->Prop)->Prop
def PIE (X:Cx) (pins:List (Addr×Obj)) (σ:St) (tg:Expr) (R:It->Hp->Prop) (itv:Value) (s2:Shared):Prop :=
 ∃ (it:Addr) (fp:List Addr) (tn:Nat->Heap->Prop) (J:It) (H':Hp),itv = .ref it∧Inv X pins σ H' s2∧Turn X.prog X.w X.K X.A tg J fp it tn∧tn 0 s2.heap∧(∀ b∈fp,ZQ X pins H' b)∧R J H'
def PI (X:Cx) (tg iter:Expr) (wi:TI):Prop :=
 ∀ (pins:List (Addr×Obj)) (s:Shared) (σ:St) (H:Hp) (R:It->Hp->Prop),Inv X pins σ H s->wi σ H R ->
  wpAny (model X.prog X.w) X.A (eval iter X.env) (fun v s1=>wpAny (model X.prog X.w) X.A (pyIter v) (PIE X pins σ tg R) X.xe s1) X.xe s
theorem qCL {M : Model} {A : Around} {E : Value->Shared->Prop} {s : Shared} {tg : Expr} {it : Addr} {u : Value} {o : Obj} {n : String} {vs : Array Value} {Q : Unit->Shared->Prop} (ho : s.heap.get? it=some o) (hc : o.cls = .type n) (hd : o.data = .fields vs)
    (hn : ["enumerate", "zip", "dict_itemiterator", "dict_reverseitemiterator", "odict_iterator", "itertools.zip_longest", "itertools.pairwise"].contains n=false) (hQ : Q () s) : wpAny M A (letOwnedTupleGo tg (.ref it) u) Q E s:=by
  unfold letOwnedTupleGo
  cases tg <;> first
    |exact wpAny_pure hQ
    |(cases u <;> first
        |exact wpAny_pure hQ
        | (refine wpAny_bind (wpAny_load ho ?_)
           rw [hc, hd]
           show wpAny M A (if (["enumerate", "zip", "dict_itemiterator", "dict_reverseitemiterator", "odict_iterator", "itertools.zip_longest", "itertools.pairwise"].contains n&&vs[0]? == some (rawInt _))=true then _ else _) Q E s
           rw [if_neg (by intro h; rw [hn, Bool.false_and] at h; cases h)]
           exact wpAny_pure hQ))
def Itl (K:W.Frag) (a:Addr):It :=
 ⟨fun i H => ∃ xs x,SqL K H a xs∧xs[i]? = some x,fun i H x H'=>H'=H ∧ ∀ xs,SqL K H a xs->xs[i]? = some x,fun i H => ∃ xs,SqL K H a xs∧xs.length≤i⟩
def Itt (K:W.Frag) (a:Addr):It :=
 ⟨fun i H => ∃ xs x,SqT K H a xs∧xs[i]? = some x,fun i H x H'=>H'=H ∧ ∀ xs,SqT K H a xs->xs[i]? = some x,fun i H => ∃ xs,SqT K H a xs∧xs.length≤i⟩
def Itr (lo:Int) (n:Nat):It:=⟨fun i _=>i < n,fun i H x H'=>H'=H∧x = .int (lo + i),fun i _=>n≤i⟩
theorem qC6 {P:Program} {w:World} {K:W.Frag} {A:Around} {tg:Expr} (a it:Addr):Turn P w K A tg (Itl K a) [it] it (fun i h=>h.IsListIter it a i) where
 mem:=by simp
 obj:=fun i h st b hb=>by
  have e:b=it:=by simpa using hb
  subst e
  obtain ⟨o,e,c,d⟩:=st
  exact ⟨o,e,fun v z=>by rw [d] at z;cases z⟩
 keep:=fun i h h' st k=>st.at fun o e=>k it (by simp) o e
 item:=by
  intro X hP hw hK _ i pins s σ H E I hf st hg
  subst hP hw hK
  obtain ⟨xs,x,hq,hx⟩:=hg
  obtain ⟨its,rv,p,hz⟩:=I.list hq
  obtain ⟨u,hu,ru⟩:=rv.get hx
  obtain ⟨f0,f1,f2,f3,f4,f5⟩:=hf it (by simp)
  refine wpAny_pyNext_list_item st p.isList (x:=u) (by simpa using hu) fun h' st' sb => ?_
  have I1:Inv X pins σ H { s with heap:=h' }:=I.turned (t':=s.toks) (fun b o hb e=>(sb.2 b hb).trans e) f0 f1 f3 f4 f5
  obtain ⟨o,e,c,d⟩:=id st'
  exact ⟨u,rfl,qCL (s:={ s with heap:=h' }) e c d (by decide) ⟨x,H,I1,ru,⟨rfl,fun ys hy=>by rw [I.list_inj hy hq];exact hx⟩,st',fun b hb=>(hf b hb).1⟩⟩
 done:=by
  intro X hP hw hK _ i pins s σ H E I hf st hg
  subst hP hw hK
  obtain ⟨xs,hq,hx⟩:=hg
  obtain ⟨its,rv,p,hz⟩:=I.list hq
  obtain ⟨f0,f1,f2,f3,f4,f5⟩:=hf it (by simp)
  have hl:=rv.length
  exact EX.list_end I.hndH st p.isList (by simp;omega) (I.hndNe f0) fun h' eb=>⟨rfl,I.turned (t':=s.toks) (fun b o hb e=>eb b o hb e) f0 f1 f3 f4 f5⟩
 self:=fun _ _ _ _ _ st h=>wpAny_pyIter_listiter st h
theorem qBN {P:Program} {w:World} {K:W.Frag} {A:Around} {tg:Expr} (a it:Addr):Turn P w K A tg (Itt K a) [it] it (fun i h=>h.IsTupleIter it a i) where
 mem:=by simp
 obj:=fun i h st b hb=>by
  have e:b=it:=by simpa using hb
  subst e
  obtain ⟨o,e,c,d⟩:=st
  exact ⟨o,e,fun v z=>by rw [d] at z;cases z⟩
 keep:=fun i h h' st k=>st.at fun o e=>k it (by simp) o e
 item:=by
  intro X hP hw hK _ i pins s σ H E I hf st hg
  subst hP hw hK
  obtain ⟨xs,x,hq,hx⟩:=hg
  obtain ⟨its,rv,p,hz⟩:=I.tuple hq
  obtain ⟨u,hu,ru⟩:=rv.get hx
  obtain ⟨f0,f1,f2,f3,f4,f5⟩:=hf it (by simp)
  refine wpAny_pyNext_tuple_item st (show s.heap.IsTuple a its.toArray from p) (x:=u) (by simpa using hu) fun h' st' sb => ?_
  have I1:Inv X pins σ H { s with heap:=h' }:=I.turned (t':=s.toks) (fun b o hb e=>(sb.2 b hb).trans e) f0 f1 f3 f4 f5
  obtain ⟨o,e,c,d⟩:=id st'
  exact ⟨u,rfl,qCL (s:={ s with heap:=h' }) e c d (by decide) ⟨x,H,I1,ru,⟨rfl,fun ys hy=>by rw [I.tuple_inj hy hq];exact hx⟩,st',fun b hb=>(hf b hb).1⟩⟩
 done:=by
  intro X hP hw hK _ i pins s σ H E I hf st hg
  subst hP hw hK
  obtain ⟨xs,hq,hx⟩:=hg
  obtain ⟨its,rv,p,hz⟩:=I.tuple hq
  obtain ⟨f0,f1,f2,f3,f4,f5⟩:=hf it (by simp)
  have hl:=rv.length
  exact EX.tuple_end I.hndH st (show s.heap.IsTuple a its.toArray from p) (by simp;omega) (I.hndNe f0) fun h' eb=>⟨rfl,I.turned (t':=s.toks) (fun b o hb e=>eb b o hb e) f0 f1 f3 f4 f5⟩
 self:=fun _ _ _ _ _ st h=>wpAny_pyIter_tupleiter st h
theorem qA9 {P:Program} {w:World} {K:W.Frag} {A:Around} {tg:Expr} (it:Addr) (lo:Int) (n:Nat):Turn P w K A tg (Itr lo n) [it] it (fun i h=>IsRangeIter h it (lo + (i:Nat) * 1) ((n:Int) - (i:Nat)) 1) where
 mem:=by simp
 obj:=fun i h st b hb=>by
  have e:b=it:=by simpa using hb
  subst e
  exact ⟨_,st,fun v z=>by
   have z':Data.fields _=Data.cell v:=z
   cases z'⟩
 keep:=fun i h h' st k=>k it (by simp) _ st
 item:=by
  intro X hP hw hK _ i pins s σ H E I hf st hg
  subst hP hw hK
  obtain ⟨f0,f1,f2,f3,f4,f5⟩:=hf it (by simp)
  refine wpAny_pyNext_range_item st (by have:i < n:=hg;omega) fun h' st' sb => ?_
  have I1:Inv X pins σ H { s with heap:=h',toks:=s.toks + 1 }:=I.turned (fun b o hb e=>(sb.2 b hb).trans e) f0 f1 f3 f4 f5
  have st2:IsRangeIter h' it (lo + ((i + 1:Nat):Int) * 1) ((n:Int) - ((i + 1:Nat):Int)) 1:=by
   have q1:lo + (i:Int) * 1 + 1=lo + ((i + 1:Nat):Int) * 1:=by omega
   have q2:(n:Int) - (i:Int) - 1=(n:Int) - ((i + 1:Nat):Int):=by omega
   rw [← q1,← q2];exact st'
  refine ⟨_,rfl,qCL (s:={ s with heap:=h',toks:=s.toks + 1 }) (n := "range_iterator") st2 rfl rfl (by decide) ⟨.int (lo + i),H,I1,⟨s.toks,?_⟩,⟨rfl,rfl⟩,st2,fun b hb=>(hf b hb).1⟩⟩
  rw [Int.mul_one]
 done:=by
  intro X hP hw hK _ i pins s σ H E I hf st hg
  subst hP hw hK
  obtain ⟨f0,f1,f2,f3,f4,f5⟩:=hf it (by simp)
  exact EX.range_end I.hndH st (by have:n≤i:=hg;omega) fun h' eb=>⟨rfl,I.turned (t':=s.toks) (fun b o hb e=>eb b o e) f0 f1 f3 f4 f5⟩
 self:=fun _ _ _ _ _ st h=>wpAny_pyIter_rangeiter st h
end L2
namespace L2
open PySem PySem.Spec PyProof.Rows
section
variable {X:Cx} {tg:Expr}
theorem qAS {pins:List (Addr×Obj)} {σ:St} {H:Hp} {s:Shared} {R:It->Hp->Prop} {E:Value->Shared->Prop} {lo hi:Int} {t u v:Tok} {tk:Nat} (I:Inv X pins σ H s) (h1:-(2 ^ 62)≤lo) (h2:lo < 2 ^ 62) (h3:-(2 ^ 62)≤hi) (h4:hi < 2 ^ 62)
  (q:R (Itr lo (hi - lo).toNat) H):wpAny (model X.prog X.w) X.A (pyIter (.ref s.heap.objs.size)) (PIE X pins σ tg R) E { s with heap:=s.heap.push { cls := .type "range",data := .fields #[.int lo t,.int hi u,.int 1 v] },toks:=tk }:=by
 refine wpAny_pyIter_range (IsRange.new ..) (small_one h1 h2 h3 h4) ?_
 have I1:Inv X pins σ H { s with heap:=s.heap.push { cls := .type "range",data := .fields #[.int lo t,.int hi u,.int 1 v] },toks:=tk }:=I.kept fun b o e=>Heap.get?_push_of_some _ e
 refine ⟨(s.heap.push { cls := .type "range",data := .fields #[.int lo t,.int hi u,.int 1 v] }).objs.size,[(s.heap.push { cls := .type "range",data := .fields #[.int lo t,.int hi u,.int 1 v] }).objs.size],_,_,H,rfl,
  I1.kept (t':=tk) fun b o e=>Heap.get?_push_of_some _ e,qA9 _ lo (hi - lo).toNat,?_,fun b hb => ?_,q⟩
 ·have e1:lo + ((0:Nat):Int) * 1=lo:=by simp
  have e2:(((hi - lo).toNat:Nat):Int) - ((0:Nat):Int)=Builtin.Range.rangeSize lo hi 1:=by rw [rangeSize_one];split <;> omega
  show IsRangeIter _ _ (lo + ((0:Nat):Int) * 1) ((((hi - lo).toNat:Nat):Int) - ((0:Nat):Int)) 1
  rw [e1,e2]
  exact Heap.get?_push_size _ rfl
 ·have e:b=(s.heap.push { cls := .type "range",data := .fields #[.int lo t,.int hi u,.int 1 v] }).objs.size:=by simpa using hb
  subst e
  exact I1.fpOk (Nat.le_refl _) (I1.hok.fresh (Nat.le_refl _))
def qKQ (ta:TA):TI:=fun σ H R=>ta σ H fun vs H1 => ∃ j:Int,vs=[.int j] ∧ -(2 ^ 62)≤j∧j < 2 ^ 62∧R (Itr 0 j.toNat) H1
def qKV (ta:TA):TI:=fun σ H R=>ta σ H fun vs H1 => ∃ i j:Int,vs=[.int i,.int j]∧(-(2 ^ 62)≤i∧i < 2 ^ 62 ∧ -(2 ^ 62)≤j∧j < 2 ^ 62)∧R (Itr i (j - i).toNat) H1
theorem qDN {a:Expr} {ta:TA} {p pos:Pos} (hg:Gl X "range") (hm:X.mg "range" = none) (ha:PA X [a] ta) (hs:starEach [a] X.env=[(false,eval a X.env)]:=by rfl):PI X tg (.Call (.Name "range" p) [a] [] pos) (qKQ ta):=by
 intro pins s σ H R I h
 refine Call_ (Za I hg hm boot_range (PyProof.Rows.callWith_type1 (thn (ha pos pins s σ H _ I h) fun us s1 ⟨vs,H1,I1,r1,q1⟩ => ?_) hs rfl))
 obtain ⟨j,e,q1,q2,q⟩:=q1
 subst e
 cases r1 with
 |cons r rr =>
  cases rr
  obtain ⟨t,rfl⟩:=r
  exact call_range_1 (qAS I1 (by omega) (by omega) q1 q2 (by simpa using q))
theorem qDF {a b:Expr} {ta:TA} {p pos:Pos} (hg:Gl X "range") (hm:X.mg "range" = none) (ha:PA X [a,b] ta) (hs:starEach [a,b] X.env=[(false,eval a X.env),(false,eval b X.env)]:=by rfl) (hs2:starEach [b] X.env=[(false,eval b X.env)]:=by rfl) :
  PI X tg (.Call (.Name "range" p) [a,b] [] pos) (qKV ta):=by
 intro pins s σ H R I h
 refine Call_ (Za I hg hm boot_range (PyProof.Rows.callWith_type1 (thn (ha pos pins s σ H _ I h) fun us s1 ⟨vs,H1,I1,r1,q1⟩ => ?_) (by rw [hs,hs2]) (by rw [hs2];rfl)))
 obtain ⟨i,j,e,⟨q1,q2,q3,q4⟩,q⟩:=q1
 subst e
 cases r1 with
 |cons r rr =>
  cases rr with
  |cons r' rr =>
   cases rr
   obtain ⟨t,rfl⟩:=r
   obtain ⟨t',rfl⟩:=r'
   exact call_range_2 (qAS I1 q1 q2 q3 q4 q)
def qLR (wi:TI) (g:TG) (tb:TS):TS:=fun D σ H=>wi σ H fun J H1 => ∃ W:Nat->Nat->St->Hp->Prop,(∃ m,W 0 m σ H1) ∧ ∀ i m σ H,W i m σ H ->
 (J.stop i H∧D.nx σ H)∨(J.go i H ∧ ∃ N:St->Hp->Prop,(∀ σ' H',N σ' H' -> ∃ m',m' < m∧W (i + 1) m' σ' H') ∧ ∀ x H',J.yld i H x H'->g x σ H' fun σ2 H2=>tb { D with nx:=N,ct:=N,bk:=D.nx } σ2 H2)
def Ze (fp:List Addr) (h:Heap):List (Addr×Obj):=fp.filterMap fun b=>(h.get? b).map fun o=>(b,o)
theorem zD {fp:List Addr} {h:Heap} {b:Addr} {o:Obj} (hb:b∈fp) (e:h.get? b=some o):(b,o)∈Ze fp h:=List.mem_filterMap.mpr ⟨b,hb,by rw [e];rfl⟩
theorem qC8 {fp:List Addr} {h:Heap} {p:Addr×Obj} (hp:p∈Ze fp h):p.1∈fp∧h.get? p.1=some p.2:=by
 obtain ⟨b,hb,e⟩:=List.mem_filterMap.mp hp
 cases q:h.get? b with
 |none=>rw [q] at e;cases e
 |some o =>
  rw [q] at e
  have e':(b,o)=p:=Option.some.inj e
  subst e'
  exact ⟨hb,q⟩
theorem Inv.pinned {pins:List (Addr×Obj)} {σ:St} {H:Hp} {s:Shared} {fp:List Addr} (I:Inv X pins σ H s) (hf:∀ b∈fp,ZQ X pins H b) (ho:∀ b∈fp,∃ o,s.heap.get? b=some o ∧ ∀ v,o.data ≠ .cell v):Inv X (pins++Ze fp s.heap) σ H s :=
 I.pins_of fun p hp=>(List.mem_append.mp hp).elim (fun z=>I.pin p (List.mem_append_right _ z)) fun z=>by
  obtain ⟨hb,e⟩:=qC8 z
  obtain ⟨f0,f1,f2,_⟩:=hf p.1 hb
  obtain ⟨o,e',d⟩:=ho p.1 hb
  rw [e] at e';cases e'
  exact ⟨e,f0,f1,f2,d⟩
theorem Inv.unpinned {pins pl:List (Addr×Obj)} {σ:St} {H:Hp} {s:Shared} (I:Inv X (pins++pl) σ H s):Inv X pins σ H s:=I.pins_of fun p hp=>I.pin p (List.mem_append_right _ (List.mem_append_left _ hp))
end
end L2
namespace L2
open PySem PySem.Spec PyProof.Rows
abbrev R2:=V->V->Hp->VK->Prop
def OpR (X:Cx) (f:Value->Value->Sem Value) (r:R2):Prop :=
 ∀ (pins:List (Addr×Obj)) (s:Shared) (σ:St) (H:Hp) (x y:V) (v u:Value) (Q:VK),Inv X pins σ H s->RelV x v->RelV y u->r x y H Q ->
  wpAny (model X.prog X.w) X.A (f v u) (EP X pins σ Q) X.xe s
def UnR (X:Cx) (f:Value->Sem Value) (r:V->Hp->VK->Prop):Prop :=
 ∀ (pins:List (Addr×Obj)) (s:Shared) (σ:St) (H:Hp) (x:V) (v:Value) (Q:VK),Inv X pins σ H s->RelV x v->r x H Q ->
  wpAny (model X.prog X.w) X.A (f v) (EP X pins σ Q) X.xe s
def Ws (X:Cx) (f:Value) (r:List V->Hp->VK->Prop):Prop :=
 ∀ (pins:List (Addr×Obj)) (s:Shared) (σ:St) (H:Hp) (xs:List V) (us:List Value) (Q:VK),Inv X pins σ H s->Vals xs us->r xs H Q ->
  wpAny (model X.prog X.w) X.A (call f us) (EP X pins σ Q) X.xe s
def qLO (X:Cx) (r:V->Hp->(Bool->Hp->Prop)->Prop):Prop :=
 ∀ (pins:List (Addr×Obj)) (s:Shared) (σ:St) (H:Hp) (x:V) (v:Value) (Q:Bool->Hp->Prop),Inv X pins σ H s->RelV x v->r x H Q ->
  wpAny (model X.prog X.w) X.A (truthy v) (TP X pins σ Q) X.xe s
def tOp (r:R2) (ta tb:TE):TE:=fun σ H Q=>ta σ H fun x H1=>tb σ H1 fun y H2=>r x y H2 Q
def tUn (r:V->Hp->VK->Prop) (ta:TE):TE:=fun σ H Q=>ta σ H fun x H1=>r x H1 Q
def rI (C:Int->Int->Prop) (g:Int->Int->V):R2:=fun x y H Q => ∃ i j,x = .int i∧y = .int j∧C i j∧Q (g i j) H
def rI0 (g:Int->Int->V):R2:=fun x y H Q => ∃ i j,x = .int i∧y = .int j∧Q (g i j) H
def rU (g:Int->V):V->Hp->VK->Prop:=fun x H Q => ∃ i,x = .int i∧Q (g i) H
section
variable {X:Cx} {a b c:Expr} {ta tb tc:TE} {pos:Pos}
theorem qI7 (ha:PE X a ta) (hb:PE X b tb) {pins:List (Addr×Obj)} {s:Shared} {σ:St} {H:Hp} {R:V->V->Hp->Prop} (I:Inv X pins σ H s)
  (h:ta σ H fun x H1=>tb σ H1 fun y H2=>R x y H2) {Q:Value->Shared->Prop} {f:Value->Value->Sem Value}
  (hf:∀ v u s2 x y H2,Inv X pins σ H2 s2->RelV x v->RelV y u->R x y H2->wpAny (model X.prog X.w) X.A (f v u) Q X.xe s2) :
  wpAny (model X.prog X.w) X.A (eval a X.env) (fun v s₁=>wpAny (model X.prog X.w) X.A (eval b X.env) (fun u s₂=>wpAny (model X.prog X.w) X.A (f v u) Q X.xe s₂) X.xe s₁) X.xe s:=by
 refine thn (ha pins s σ H _ I h) fun v s1 ⟨x,H1,I1,r1,q1⟩ => ?_
 refine thn (hb pins s1 σ H1 _ I1 q1) fun u s2 ⟨y,H2,I2,r2,q2⟩ => ?_
 exact hf v u s2 x y H2 I2 r1 r2 q2
theorem qEo {op:Operator} {r:R2} (ho:OpR X (binaryOp op) r) (ha:PE X a ta) (hb:PE X b tb):PE X (.BinOp a op b pos) (tOp r ta tb):=by
 intro pins s σ H Q I h
 exact wpAny_BinOp (qI7 ha hb I h fun v u s2 x y H2 I2 rx ry q=>ho pins s2 σ H2 x y v u Q I2 rx ry q)
theorem qKt {op:UnaryOp} {r:V->Hp->VK->Prop} (ho:UnR X (unaryOp op) r) (ha:PE X a ta):PE X (.UnaryOp op a pos) (tUn r ta):=by
 intro pins s σ H Q I h
 exact UnaryOp_ (thn (ha pins s σ H _ I h) fun v s1 ⟨x,H1,I1,r1,q1⟩=>ho pins s1 σ H1 x v Q I1 r1 q1)
theorem opI {f:Value->Value->Sem Value} {C:Int->Int->Prop} {g:Int->Int->Int}
  (rule:∀ (i j:Int) (t u:Tok) (s:Shared) (Q:Value->Shared->Prop) (E:Value->Shared->Prop),C i j->Q (.int (g i j) s.toks) { s with toks:=s.toks + 1 }->wpAny (model X.prog X.w) X.A (f (.int i t) (.int j u)) Q E s) :
  OpR X f (rI C fun i j => .int (g i j)):=by
 intro pins s σ H x y v u Q I rx ry h
 obtain ⟨i,j,rfl,rfl,hc,q⟩:=h
 obtain ⟨t,rfl⟩:=rx
 obtain ⟨t',rfl⟩:=ry
 exact rule i j t t' s _ _ hc ⟨.int (g i j),H,I.tok _,⟨_,rfl⟩,q⟩
theorem qKq {f:Value->Value->Sem Value} {g:Int->Int->Int}
  (rule:∀ (i j:Int) (t u:Tok) (s:Shared) (Q:Value->Shared->Prop) (E:Value->Shared->Prop),Q (.int (g i j) s.toks) { s with toks:=s.toks + 1 }->wpAny (model X.prog X.w) X.A (f (.int i t) (.int j u)) Q E s) :
  OpR X f (rI0 fun i j => .int (g i j)):=by
 intro pins s σ H x y v u Q I rx ry h
 obtain ⟨i,j,rfl,rfl,q⟩:=h
 obtain ⟨t,rfl⟩:=rx
 obtain ⟨t',rfl⟩:=ry
 exact rule i j t t' s _ _ ⟨.int (g i j),H,I.tok _,⟨_,rfl⟩,q⟩
theorem qJU {f:Value->Value->Sem Value} {g:Int->Int->Bool}
  (rule:∀ (i j:Int) (t u:Tok) (s:Shared) (Q:Value->Shared->Prop) (E:Value->Shared->Prop),Q (.bool (g i j)) s->wpAny (model X.prog X.w) X.A (f (.int i t) (.int j u)) Q E s) :
  OpR X f (rI0 fun i j => .bl (g i j)):=by
 intro pins s σ H x y v u Q I rx ry h
 obtain ⟨i,j,rfl,rfl,q⟩:=h
 obtain ⟨t,rfl⟩:=rx
 obtain ⟨t',rfl⟩:=ry
 exact rule i j t t' s _ _ ⟨.bl (g i j),H,I,rfl,q⟩
def qLW (i j:Int):Prop:=0 < j∧j < 1073741824
def qJs (i j:Int):Prop:=j≠0∧j.natAbs < 1073741824
def qK7 (i j:Int):Prop:=0≤j∧j≤1000000∧i.natAbs < 2 ^ 64
def CMul (i j:Int):Prop:=(-(2 ^ 64) < i∧i < 2 ^ 64)∨(-(2 ^ 64) < j∧j < 2 ^ 64)
theorem CMul.ok {i j:Int} (h:CMul i j):IntMulOk i j:=by
 rcases h with ⟨h1,h2⟩ |⟨h1,h2⟩
 ·exact .of_left (intBits_le_64 h1 h2)
 ·exact .of_right (intBits_le_64 h1 h2)
theorem qJY:OpR X (binaryOp .Add) (rI0 fun i j => .int (i + j)):=qKq fun _ _ _ _ _ _ _ q=>add_int q
theorem qI8:OpR X (binaryOp .Sub) (rI0 fun i j => .int (i - j)):=qKq fun _ _ _ _ _ _ _ q=>sub_int q
theorem qHy:OpR X (binaryOp .Mult) (rI CMul fun i j => .int (i * j)):=opI fun _ _ _ _ _ _ _ hc q=>mul_int q hc.ok
theorem qGt:OpR X (binaryOp .FloorDiv) (rI qLW fun i j => .int (i / j)):=opI fun i j _ _ _ _ _ hc q=>by
 have h1:(0:Int) < j:=hc.1
 have h2:j < 1073741824:=hc.2
 exact floordiv_int (by omega) (by rw [Int.fdiv_eq_ediv_of_nonneg i (by omega)];exact q) (.inl (PyProof.noPylong_small (by omega)))
theorem qDT:OpR X (binaryOp .FloorDiv) (rI qJs fun i j => .int (i.fdiv j)):=opI fun _ _ _ _ _ _ _ hc q=>floordiv_int hc.1 q (.inl (PyProof.noPylong_small hc.2))
theorem qJR:OpR X (binaryOp .Mod) (rI (fun _ j=>0 < j) fun i j => .int (i % j)):=opI fun i j _ _ _ _ _ hc q=>by
 have h1:(0:Int) < j:=hc
 exact mod_int' (by omega) (by rw [Int.fmod_eq_emod_of_nonneg i (by omega)];exact q)
theorem qIj:OpR X (binaryOp .Pow) (rI qK7 fun i j => .int (i ^ j.toNat)):=opI fun _ _ _ _ _ _ _ hc q=>pow_int_small hc.1 hc.2.1 hc.2.2 q
theorem unI {f:Value->Sem Value} {g:Int->Int}
  (rule:∀ (i:Int) (t:Tok) (s:Shared) (Q:Value->Shared->Prop) (E:Value->Shared->Prop),Q (.int (g i) s.toks) { s with toks:=s.toks + 1 }->wpAny (model X.prog X.w) X.A (f (.int i t)) Q E s) :
  UnR X f (rU fun i => .int (g i)):=by
 intro pins s σ H x v Q I rx h
 obtain ⟨i,rfl,q⟩:=h
 obtain ⟨t,rfl⟩:=rx
 exact rule i t s _ _ ⟨.int (g i),H,I.tok _,⟨_,rfl⟩,q⟩
theorem qH0:UnR X (unaryOp .USub) (rU fun i => .int (-i)):=unI fun _ _ _ _ _ q=>neg_int q
theorem qKc:OpR X (compareOp .Lt) (rI0 fun i j => .bl (decide (i < j))):=qJU fun _ _ _ _ _ _ _ q=>lt_int q
theorem qAE:OpR X (compareOp .LtE) (rI0 fun i j => .bl (decide (i≤j))):=qJU fun _ _ _ _ _ _ _ q=>le_int q
theorem qED:OpR X (compareOp .Gt) (rI0 fun i j => .bl (decide (j < i))):=qJU fun _ _ _ _ _ _ _ q=>gt_int q
theorem QZ (b:Expr) {op:CmpOp} (h:op ≠ .In:=by decide) (h2:op ≠ .NotIn:=by decide):behindInMarks op b=false:=by
 have e1:(op==CmpOp.In)=false:=by cases op <;> first |rfl |exact absurd rfl h
 have e2:(op==CmpOp.NotIn)=false:=by cases op <;> first |rfl |exact absurd rfl h2
 cases b <;> simp [behindInMarks,e1,e2]
theorem qGS {op:CmpOp} {r:R2} (ho:OpR X (compareOp op) r) (ha:PE X a ta) (hb:PE X b tb) (hm:behindInMarks op b=false):PE X (.Compare a [op] [b] pos) (tOp r ta tb):=by
 intro pins s σ H Q I h
 exact wpAny_Compare1 (qI7 ha hb I h fun v u s2 x y H2 I2 rx ry q=>ho pins s2 σ H2 x y v u Q I2 rx ry q) hm
def qHQ (t:TE):TT:=fun σ H Q=>t σ H fun x H' => ∃ k,x = .bl k∧Q k H'
theorem qF4 {op:CmpOp} {r:R2} (ho:OpR X (compareOp op) r) (ha:PE X a ta) (hb:PE X b tb) (hm:behindInMarks op b=false):PT X (.Compare a [op] [b] pos) (qHQ (tOp r ta tb)):=by
 intro pins s σ H Q I h
 refine wpAny_isTrue_Compare1 (thn (ha pins s σ H _ I h) fun v s1 ⟨x,H1,I1,r1,q1⟩=>thn (hb pins s1 σ H1 _ I1 q1) fun u s2 ⟨y,H2,I2,r2,q2⟩ =>
  thn (ho pins s2 σ H2 x y v u _ I2 r1 r2 q2) fun c s3 ⟨z,H3,I3,r3,k,e,q3⟩ => ?_) hm
 subst e
 cases r3
 exact wpAny_truthy_bool ⟨H3,I3,q3⟩
def qFO (r r':R2) (ta tb tc:TE):TE:=fun σ H Q=>ta σ H fun x H1=>tb σ H1 fun y H2=>r x y H2 fun z H3 => ∃ k,z = .bl k ∧
 (if k=true then tc σ H3 fun w' H4=>r' y w' H4 Q else Q (.bl false) H3)
theorem qEp {op op':CmpOp} {r r':R2} (ho:OpR X (compareOp op) r) (ho':OpR X (compareOp op') r') (ha:PE X a ta) (hb:PE X b tb) (hc:PE X c tc)
  (hm:lastMarks [op,op'] [b,c]=false:=by with_unfolding_all rfl):PE X (.Compare a [op,op'] [b,c] pos) (qFO r r' ta tb tc):=by
 intro pins s σ H Q I h
 refine Compare_chain (thn (ha pins s σ H _ I h) fun v s1 ⟨x,H1,I1,r1,q1⟩=>chain_link (thn (hb pins s1 σ H1 _ I1 q1) fun u s2 ⟨y,H2,I2,r2,q2⟩ =>
  thn (ho pins s2 σ H2 x y v u _ I2 r1 r2 q2) fun d s3 ⟨z,H3,I3,r3,k,e,q3⟩ => ?_)) hm
 subst e
 cases r3
 refine wpAny_truthy_bool ?_
 cases k with
 |false=>exact ite_ff ⟨.bl false,H3,I3,rfl,q3⟩
 |true=>exact ite_tt (chain_last (thn (hc pins s3 σ H3 _ I3 q3) fun w' s4 ⟨z',H4,I4,r4,q4⟩=>ho' pins s4 σ H4 y z' u w' Q I4 r2 r4 q4))
theorem qDw {op op':CmpOp} {r r':R2} (ho:OpR X (compareOp op) r) (ho':OpR X (compareOp op') r') (ha:PE X a ta) (hb:PE X b tb) (hc:PE X c tc)
  (hm:lastMarks [op,op'] [b,c]=false:=by with_unfolding_all rfl):PT X (.Compare a [op,op'] [b,c] pos) (qHQ (qFO r r' ta tb tc)):=by
 intro pins s σ H Q I h
 refine isTrue_chain (thn (ha pins s σ H _ I h) fun v s1 ⟨x,H1,I1,r1,q1⟩=>test_link (thn (hb pins s1 σ H1 _ I1 q1) fun u s2 ⟨y,H2,I2,r2,q2⟩ =>
  thn (ho pins s2 σ H2 x y v u _ I2 r1 r2 q2) fun d s3 ⟨z,H3,I3,r3,k,e,q3⟩ => ?_)) hm
 subst e
 cases r3
 refine wpAny_truthy_bool ?_
 cases k with
 |false =>
  obtain ⟨k',e',q'⟩:=q3
  cases e'
  exact ite_ff ⟨H3,I3,q'⟩
 |true =>
  refine ite_tt (test_last (thn (hc pins s3 σ H3 _ I3 q3) fun w' s4 ⟨z',H4,I4,r4,q4⟩=>thn (ho' pins s4 σ H4 y z' u w' _ I4 r2 r4 q4) fun d' s5 ⟨z2,H5,I5,r5,k2,e2,q5⟩ => ?_))
  subst e2
  cases r5
  exact wpAny_truthy_bool ⟨H5,I5,q5⟩
def qGU (K:W.Frag) (x:V) (H:Hp) (k:Bool):Prop :=
 match x with
 | .non=>k=false
 | .bl b=>k=b
 | .int i=>k=(i != 0)
 | .str y=>y.length≤sizeLine∧k=((y.length:Int) != 0)
 | .byt y=>y.size≤sizeLine∧k=((y.size:Int) != 0)
 | .ref p=>(∃ xs,SqL K H p xs∧k = !xs.isEmpty)∨(∃ xs,SqT K H p xs∧k = !xs.isEmpty) ∨ ∃ kvs,H p=some (.dK kvs)∧k = !kvs.isEmpty
 |_=>False
theorem qBO {κ:Type} {kvs:List (κ×V)} {vs:List (κ×Value)} (r:KV kvs vs):(!vs.isEmpty) = !kvs.isEmpty:=by
 cases r <;> rfl
theorem y0 {xs:List V} {its:List Value} (r:Vals xs its):(!its.toArray.isEmpty) = !xs.isEmpty:=by
 cases r <;> simp
theorem yF:(sizeLine:Nat) < 2 ^ 63:=by rw [sizeLine_eq];decide
theorem qHs:qLO X (fun x H Q => ∃ k,qGU X.K x H k∧Q k H):=by
 intro pins s σ H x v Q I rx h
 obtain ⟨k,e,q⟩:=h
 have hl:=yF
 have hs:sizeLine=16777216:=sizeLine_eq
 cases x with
 |non =>
  cases rx
  have e':k=false:=e
  subst e'
  exact truthy_none ⟨H,I,q⟩
 |bl b =>
  cases rx
  have e':k=b:=e
  subst e'
  exact wpAny_truthy_bool ⟨H,I,q⟩
 |int i =>
  obtain ⟨t,rfl⟩:=rx
  have e':k=(i != 0):=e
  subst e'
  exact PySem.P.truthy_int ⟨H,I,q⟩
 |str y =>
  obtain ⟨t,rfl⟩:=rx
  obtain ⟨hy,e'⟩:y.length≤sizeLine∧k=((y.length:Int) != 0):=e
  subst e'
  exact PySem.P.truthy_str (by omega) ⟨H,I.tok _,q⟩
 |byt y =>
  obtain ⟨t,rfl⟩:=rx
  obtain ⟨hy,e'⟩:y.size≤sizeLine∧k=((y.size:Int) != 0):=e
  subst e'
  exact PySem.W.truthy_bytes (by omega) ⟨H,I.tok _,q⟩
 |ref p =>
  cases rx
  have e':(∃ xs,SqL X.K H p xs∧k = !xs.isEmpty)∨(∃ xs,SqT X.K H p xs∧k = !xs.isEmpty) ∨ ∃ kvs,H p=some (.dK kvs)∧k = !kvs.isEmpty:=e
  rcases e' with ⟨xs,hx,e'⟩ |⟨xs,hx,e'⟩ |⟨kvs,hx,e'⟩
  ·subst e'
   obtain ⟨its,r,pl,hz⟩:=I.list hx
   have hlen:=r.length
   exact wpAny_truthy_list pl.isList (by simp only [List.size_toArray];omega) ⟨H,I.tok _,by rw [y0 r];exact q⟩
  ·subst e'
   obtain ⟨its,r,pl,hz⟩:=I.tuple hx
   have hlen:=r.length
   exact truthy_tuple pl (by simp only [List.size_toArray];omega) ⟨H,I.tok _,by rw [y0 r];exact q⟩
  ·subst e'
   obtain ⟨hz,hS,vs,r,m⟩:kvs.length≤sizeLine∧(p==sysModules)=false ∧ ∃ vs,KV kvs vs∧s.heap.DictOf (Qe X.prog X.w) p vs:=I.hok p _ hx
   have hlen:kvs.length=vs.length:=Paired.length r
   exact wpAny_truthy_dict hS m (by omega) ⟨H,I.tok _,by rw [qBO r];exact q⟩
 |_=>exact (show False from e).elim
theorem qEe (ha:PE X a ta) (he:∀ whole,isTrue a X.env whole=(do let v ← whole;standAt a.pos;holding [v] (truthy v))) :
  PT X a (fun σ H Q=>ta σ H fun x H' => ∃ k,qGU X.K x H' k∧Q k H'):=by
 intro pins s σ H Q I h
 exact isTrue_plain (thn (ha pins s σ H _ I h) fun v s1 ⟨x,H1,I1,r1,q1⟩=>qHs pins s1 σ H1 x v Q I1 r1 q1) (he _)
theorem qBo:OpR X (binaryOp .Add) (fun x y H Q => ∃ i j,x = .str i∧y = .str j∧i.length + j.length≤sizeLine∧Q (.str (i++j)) H):=by
 intro pins s σ H x y v u Q I rx ry h
 obtain ⟨i,j,rfl,rfl,hz,q⟩:=h
 obtain ⟨t,rfl⟩:=rx
 obtain ⟨t',rfl⟩:=ry
 exact add_str (fun t' tk=>⟨.str (i++j),H,I.tok _,⟨_,rfl⟩,q⟩) hz
theorem yJ {x:V} {us:List Value} (r:Vals [x] us):∃ u,us=[u]∧RelV x u:=by
 cases r with
 |cons r1 r2=>cases r2;exact ⟨_,rfl,r1⟩
theorem qCN {x y:V} {us:List Value} (r:Vals [x,y] us):∃ u w',us=[u,w']∧RelV x u∧RelV y w':=by
 cases r with
 |cons r1 r2 =>
  cases r2 with
  |cons r3 r4=>cases r4;exact ⟨_,_,rfl,r1,r3⟩
theorem qDr:Ws X (.builtin "abs") (fun xs H Q => ∃ i,xs=[.int i]∧Q (.int (if i < 0 then -i else i)) H):=by
 intro pins s σ H xs us Q I r h
 obtain ⟨i,rfl,q⟩:=h
 obtain ⟨u,rfl,t,rfl⟩:=yJ r
 exact call_abs_int fun u tk=>⟨.int (if i < 0 then -i else i),H,I.tok _,⟨_,rfl⟩,q⟩
theorem qC4 (hc:X.calm=true):Ws X (.builtin "max") (fun xs H Q => ∃ i j,xs=[.int i,.int j]∧Q (.int (if j > i then j else i)) H):=by
 intro pins s σ H xs us Q I r h
 obtain ⟨i,j,rfl,q⟩:=h
 obtain ⟨u,w',rfl,⟨t,rfl⟩,⟨t',rfl⟩⟩:=qCN r
 refine max_two_ints (I.ok.hd hc) fun h' tk k=>⟨_,H,I.kept k,?_,q⟩
 by_cases hj:j > i
 ·rw [if_pos hj,if_pos hj];exact ⟨_,rfl⟩
 ·rw [if_neg hj,if_neg hj];exact ⟨_,rfl⟩
theorem qDA (hc:X.calm=true):Ws X (.builtin "min") (fun xs H Q => ∃ i j,xs=[.int i,.int j]∧Q (.int (if j < i then j else i)) H):=by
 intro pins s σ H xs us Q I r h
 obtain ⟨i,j,rfl,q⟩:=h
 obtain ⟨u,w',rfl,⟨t,rfl⟩,⟨t',rfl⟩⟩:=qCN r
 refine min_two_ints (I.ok.hd hc) fun h' tk k=>⟨_,H,I.kept k,?_,q⟩
 by_cases hj:j < i
 ·rw [if_pos hj,if_pos hj];exact ⟨_,rfl⟩
 ·rw [if_neg hj,if_neg hj];exact ⟨_,rfl⟩
theorem qC1:Ws X (.type "int") (fun xs H Q=>(∃ i,xs=[.int i]∧Q (.int i) H) ∨ ∃ k,xs=[.bl k]∧Q (.int (if k then 1 else 0)) H):=by
 intro pins s σ H xs us Q I r h
 rcases h with ⟨i,rfl,q⟩ |⟨k,rfl,q⟩
 ·obtain ⟨u,rfl,t,rfl⟩:=yJ r
  exact call_int_int ⟨.int i,H,I,⟨_,rfl⟩,q⟩
 ·obtain ⟨u,rfl,r1⟩:=yJ r
  cases r1
  exact call_int_bool ⟨.int (if k then 1 else 0),H,I.tok _,⟨_,rfl⟩,q⟩
end
end L2
namespace L2
open PySem PySem.Spec PyProof.Rows
theorem RelO.some_of {v:V} {o:Option Value} (r:RelO (some v) o):∃ u,o=some u∧RelV v u:=by
 cases o with
 |none=>exact (show False from r).elim
 |some u=>exact ⟨u,rfl,r⟩
end L2
namespace L2
open PySem PySem.Spec PyProof.Rows
structure Room (k:Nat) (A:Around):Prop where
 hd:1 < k->A.handled=none
 dp:A.depth + 3 * k + 5 < recursionLimit
 un:A.units + 16 * k + 200 < cLine
theorem Room.mono {j k:Nat} {A:Around} (r:Room k A) (h:j≤k):Room j A:=⟨fun z=>r.hd (by omega),by have:=r.dp;omega,by have:=r.un;omega⟩
theorem Room.deeper {k:Nat} {A:Around} (r:Room (k + 1) A) (env:Env):Room k (A.deeper env) :=
 ⟨fun z=>r.hd (by omega),by have:=r.dp;show A.depth + 1 + 3 * k + 5 < _;omega,by have:=r.un;show A.units + 3 + 16 * k + 200 < _;omega⟩
theorem Room.depth {k:Nat} {A:Around} (r:Room k A):A.depth < recursionLimit:=by have:=r.dp;omega
theorem Room.units {k:Nat} {A:Around} (r:Room k A):A.units + 64 < cLine:=by have:=r.un;omega
def qLC:TA:=fun _ H Q=>Q [] H
def qKT (ta:TE) (tr:TA):TA:=fun σ H Q=>ta σ H fun x H1=>tr σ H1 fun xs H2=>Q (x::xs) H2
section
variable {X:Cx} {e:Expr} {es:List Expr} {te:TE} {t:TA} {pos:Pos}
theorem qAv:PA X [] qLC:=fun _ _ _ _ H Q I h=>Calls.spliced_nil ⟨[],H,I,.nil,h⟩
theorem JL (ha:PE X e te) (hr:PA X es t) (hs:starEach (e::es) X.env=(false,eval e X.env)::starEach es X.env:=by rfl):PA X (e::es) (qKT te t):=by
 intro pos pins s σ H Q I h
 rw [hs]
 show wpAny _ _ (spliced ((false,eval e X.env)::backTo pos (starEach es X.env))) _ _ s
 refine Calls.spliced_cons (thn (ha pins s σ H _ I h) fun u s1 ⟨x,H1,I1,r1,q1⟩ => ?_)
 exact thn (hr pos pins s1 σ H1 _ I1 q1) fun us s2 ⟨xs,H2,I2,r2,q2⟩=>⟨x::xs,H2,I2,.cons r1 r2,q2⟩
def qLJ (t:TA):TE:=fun σ H Q=>t σ H fun xs H1=>xs.length≤sizeLine ∧ ∀ p,H1 p=none->Q (.ref p) (upd H1 p (.tup xs))
def qLU (t:TA):TE:=fun σ H Q=>t σ H fun xs H1=>xs.length≤sizeLine ∧ ∀ p,H1 p=none->Q (.ref p) (upd H1 p (.lst xs))
theorem qIh {x1} (h:PA X es t):PE X (.Tuple es x1 pos) (qLJ t):=by
 intro pins s σ H Q I hq
 refine wpAny_Tuple_spliced (thn (h pos pins s σ H _ I hq) fun us s1 ⟨xs,H1,I1,r,z,q⟩=>⟨by rw [← r.length];exact z,?_⟩)
 have hf:H1 s1.heap.objs.size=none:=I1.hok.fresh (Nat.le_refl _)
 refine ⟨.ref s1.heap.objs.size,upd H1 s1.heap.objs.size (.tup xs),I1.laid (t':=s1.toks) (fun b u e=>Heap.get?_push_of_some _ e) (Nat.le_refl _) ?_,rfl,q _ hf⟩
 exact ⟨z,us,r,⟨_,Heap.get?_push_size _ rfl,rfl,_,rfl⟩⟩
theorem qJe (h:PA X es t):PE X (.List es pos) (qLU t):=by
 intro pins s σ H Q I hq
 refine wpAny_List_spliced (thn (h pos pins s σ H _ I hq) fun us s1 ⟨xs,H1,I1,r,z,q⟩=>⟨by rw [← r.length];exact z,?_⟩)
 have hf:H1 s1.heap.objs.size=none:=I1.hok.fresh (Nat.le_refl _)
 refine ⟨.ref s1.heap.objs.size,upd H1 s1.heap.objs.size (.lst xs),I1.laid (t':=s1.toks) (fun b u e=>Heap.get?_push_of_some _ e) (Nat.le_refl _) ?_,rfl,q _ hf⟩
 exact ⟨z,us,0,r,Heap.get?_push_size _ rfl⟩
end
abbrev Sp:=List V->Hp->VK->XK->Prop
abbrev CXT:=List Env->Hp->Shared->XK->Value->Shared->Prop
structure Env0 (P:Program) (w:World) (K:W.Frag) (mg:Str->Option Value) (base:Heap) (A:Around) (outer:List Env) (s:Shared) (H:Hp):Prop where
 frames:A.frames=some outer
 mod:Mod K mg base
 bs:∀ b o,base.get? b=some o->s.heap.get? b=some o∧H b=none
 bsz:base.objs.size≤s.heap.objs.size
 funs:s.heap.FunFrames base outer
 frf:∀ b∈frs outer,H b=none
 hok:HOk P w H s.heap
 bare:AllBare s.gens
 hnd:HndH A H
def CE (outer:List Env) (P:Program) (w:World) (H:Hp) (s:Shared) (Q:VK) (u:Value) (s':Shared):Prop :=
 ∃ v H',s'.os=s.os∧AllBare s'.gens∧Un (frs outer) [] H H' s.heap s'.heap∧HOk P w H' s'.heap∧RelV v u∧Q v H'
def CR (CX:CXT) (outer:List Env) (P:Program) (w:World) (H:Hp) (s:Shared) (Q:VK) (E:XK) (r:Result) (s':Shared):Prop :=
 match r with
 | .ok (.ret u)=>CE outer P w H s Q u s'
 | .ok _=>False
 | .error e=>CX outer H s E e s'
structure FnOk (P:Program) (w:World) (K:W.Frag) (mg:Str->Option Value) (base:Heap) (CX:CXT) (k:Nat) (f:Addr) (fd:FuncData) (ps:List Str) (sp:Sp):Prop where
 len:∀ vs H Q E,sp vs H Q E->vs.length=ps.length
 run:∀ (A:Around) (outer:List Env) (s:Shared) (H:Hp) (args:Args) (us:List Value) (vs:List V) (Q:VK) (E:XK),Room k A->Env0 P w K mg base A outer s H->BindsTo s fd args (ps.zip us)->Vals vs us->sp vs H Q E ->
  codeAny (model P w) A (.call (.ref f) args) (CR CX outer P w H s Q E) s
section
variable {X:Cx} {pins:List (Addr×Obj)} {σ:St} {H:Hp} {s s':Shared}
theorem Inv.env0 (I:Inv X pins σ H s):Env0 X.prog X.w X.K X.mg X.base X.A X.stack s H :=
 ⟨I.ok.frames,I.ok.mod,I.bs,Nat.le_trans I.ok.bsz I.sz,I.stack,I.stkFree,I.hok,I.bare,I.hnd⟩
theorem Inv.after {Q:VK} {u:Value} (I:Inv X pins σ H s) (h:CE X.stack X.prog X.w H s Q u s'):EP X pins σ Q u s':=by
 obtain ⟨v,H',os,bare,un,hok,r,q⟩:=h
 obtain ⟨hh,g,d,t,os'⟩:=s'
 obtain rfl:os'=s.os:=os
 exact ⟨v,H',I.call (h':=hh) (g':=g) (d':=d) (t':=t) (ch:=[]) un hok bare (fun b z=>absurd z (by simp)),r,q⟩
end
def qKF (sp:Sp) (dvs:List V) (E:XK) (t:TA):TE:=fun σ H Q=>t σ H fun vs H1=>sp (vs++dvs) H1 Q E
def Binds (K:W.Frag) (fd:FuncData) (ps:List Str) (ds:List Value):Prop :=
 ∀ (s:Shared) (us:List Value),K.In s.heap->(us++ds).length=ps.length->BindsTo s fd ⟨us,[]⟩ (ps.zip (us++ds))
theorem Binds.all {K:W.Frag} {fd:FuncData} {ps:List Str} (h:∀ us:List Value,us.length=ps.length->bindArgs fd ⟨us,[]⟩=pure (ps.zip us)):Binds K fd ps []:=fun s us _ hl=>by
 rw [List.append_nil] at hl ⊢
 exact .of_eq (h us hl)
def zX (CX:CXT) (X:Cx) (E:XK):Prop := ∀ (pins:List (Addr×Obj)) (σ:St) (H:Hp) (s:Shared) (e:Value) (s':Shared),Inv X pins σ H s->CX X.stack H s E e s'->X.xe e s'
section
variable {X:Cx} {CX:CXT} {k:Nat} {f C:Addr} {fd:FuncData} {ps:List Str} {sp:Sp} {dvs:List V} {ds:List Value} {E:XK} {x m:Str} {p pos apos:Pos} {e o:Expr} {es:List Expr} {ta:TE} {t:TA}
theorem qJh {pins:List (Addr×Obj)} {σ:St} {H:Hp} {s:Shared} {Q:VK} {us:List Value} {vs:List V} (F:FnOk X.prog X.w X.K X.mg X.base CX k f fd ps sp) (hr:Room k X.A) (hb:Binds X.K fd ps ds) (hd:Vals dvs ds) (hx:zX CX X E)
  (I:Inv X pins σ H s) (r:Vals vs us) (h:sp (vs++dvs) H Q E):wpAny (model X.prog X.w) X.A (call (.ref f) us) (EP X pins σ Q) X.xe s:=by
 have r2:Vals (vs++dvs) (us++ds):=r.append hd
 have hl:(us++ds).length=ps.length:=by rw [← r2.length];exact F.len _ _ _ _ h
 refine wpAny_call (codeAny_mono (F.run X.A X.stack s H ⟨us,[]⟩ (us++ds) (vs++dvs) Q E hr I.env0 (hb s us I.kIn hl) r2 h) fun r s' hq => ?_)
 cases r with
 |error e=>exact hx pins σ H s e s' I hq
 |ok fl =>
  cases fl with
  |ret u=>exact I.after hq
  |next=>exact False.elim hq
  |brk=>exact False.elim hq
  |cont=>exact False.elim hq
theorem qFq (F:FnOk X.prog X.w X.K X.mg X.base CX k f fd ps sp) (hr:Room k X.A) (hg:Gl X x) (hm:X.mg x=some (.ref f)) (hk:PySem.W.keepIn X.K (.ref f)=true) (hb:Binds X.K fd ps ds) (hd:Vals dvs ds) (hx:zX CX X E)
  (ha:PA X (e::es) t) (hdb:(x==("__debug__":Str))=false:=by decide) (he:starEach (e::es) X.env=(false,eval e X.env)::starEach es X.env:=by rfl) (hpl:(backTo pos (starEach es X.env)).any (·.1)=false:=by rfl) :
  PE X (.Call (.Name x p) (e::es) [] pos) (qKF sp dvs E t):=by
 intro pins s σ H Q I h
 refine wpAny_Call_Name_kw (JU I hg hm ?_ hdb)
 refine PySem.W.callWith_K (h₀:=X.base) I.ok.mod.kin hk (thn (ha pos pins s σ H _ I h) fun us s1 ⟨vs,H1,I1,r,q⟩=>⟨I1.kIn,?_⟩) he hpl
 exact qJh F hr hb hd hx I1 r q
end
structure FnScope (N P:List Str) (sc:Scope):Prop where
 kind:sc.kind = .function
 co:sc.isCoroutine=false
 gen:sc.isGenerator=false
 nd:N.Nodup
 pre:N.take P.length=P
 par:∀ x∈P,sc.names.lookup x=some .local∨sc.names.lookup x=some .cell
 nofree:∀ y∈sc.names,y.2 ≠ .free
theorem jP {kindOf:Str->Option NameKind} {x:Str}:∀ {binds:List (Str×Value)} {m:Str->Option Value},(∀ v,(x,v) ∉ binds)->bindL kindOf binds m x=m x
 |[],_,_=>rfl
 |(n,v)::r,m,h=>by
  unfold bindL
  rw [jP fun w hw=>h w (List.mem_cons_of_mem _ hw)]
  split
  ·have:x≠n:=by rintro rfl;exact h v List.mem_cons_self
   simp [this]
  ·rfl
theorem jS {kindOf:Str->Option NameKind} {x:Str}:∀ {binds:List (Str×Value)} {m:Str->Option Value},(∀ v,(x,v) ∉ binds)->bindC kindOf binds m x=m x
 |[],_,_=>rfl
 |(n,v)::r,m,h=>by
  unfold bindC
  rw [jS fun w hw=>h w (List.mem_cons_of_mem _ hw)]
  split
  ·rfl
  ·have:x≠n:=by rintro rfl;exact h v List.mem_cons_self
   simp [this]
theorem Y1 {kindOf:Str->Option NameKind} {x:Str} {v:Value}:∀ {P:List Str} {vs:List Value} {i:Nat} {m:Str->Option Value},P.Nodup->P[i]? = some x->vs[i]? = some v->kindOf x=some .local ->
  bindL kindOf (P.zip vs) m x=some v
 |[],_,_,_,_,h,_,_=>by simp at h
 |_::_,[],_,_,_,_,h,_=>by simp at h
 |p::P,w::vs,0,m,nd,h1,h2,hk=>by
  simp at h1 h2;subst h1;subst h2
  show bindL kindOf ((p,w)::P.zip vs) m p=_
  unfold bindL
  rw [jP fun v hv=>(List.nodup_cons.mp nd).1 (List.of_mem_zip hv).1,if_pos hk]
  simp
 |p::P,w::vs,i + 1,m,nd,h1,h2,hk=>by
  show bindL kindOf ((p,w)::P.zip vs) m x=_
  unfold bindL
  exact Y1 (i:=i) (List.nodup_cons.mp nd).2 (by simpa using h1) (by simpa using h2) hk
theorem Y6 {kindOf:Str->Option NameKind} {x:Str} {v:Value}:∀ {P:List Str} {vs:List Value} {i:Nat} {m:Str->Option Value},P.Nodup->P[i]? = some x->vs[i]? = some v->kindOf x≠some .local ->
  bindC kindOf (P.zip vs) m x=some v
 |[],_,_,_,_,h,_,_=>by simp at h
 |_::_,[],_,_,_,_,h,_=>by simp at h
 |p::P,w::vs,0,m,nd,h1,h2,hk=>by
  simp at h1 h2;subst h1;subst h2
  show bindC kindOf ((p,w)::P.zip vs) m p=_
  unfold bindC
  rw [jS fun v hv=>(List.nodup_cons.mp nd).1 (List.of_mem_zip hv).1,if_neg hk]
  simp
 |p::P,w::vs,i + 1,m,nd,h1,h2,hk=>by
  show bindC kindOf ((p,w)::P.zip vs) m x=_
  unfold bindC
  exact Y6 (i:=i) (List.nodup_cons.mp nd).2 (by simpa using h1) (by simpa using h2) hk
def start (N:List Str) (vs:List V):St:=vs.map some++List.replicate (N.length - vs.length) none
def we (CX:CXT) (P:Program) (w:World) (K:W.Frag) (mg:Str->Option Value) (base:Heap) (N:List Str) (qual:Str) (scope:Scope) (f:Addr) (cd:Value) (A:Around) (outer:List Env) (s:Shared) (H:Hp) (E:XK):Cx where
 prog:=P
 w:=w
 K:=K
 mg:=mg
 base:=base
 A:=A.deeper (envOfC qual scope s.heap.objs.size f cd)
 N:=N
 s₀:=s
 H₀:=H
 env:=envOfC qual scope s.heap.objs.size f cd
 outer:=outer
 stack:=envOfC qual scope s.heap.objs.size f cd::outer
 ex:=[]
 calm:=A.handled.isNone
 fn:=fun _=>true
 pn:=[]
 xe:=fun e s'=>wpAny (model P w) (A.deeper (envOfC qual scope s.heap.objs.size f cd)) (leaving (envOfC qual scope s.heap.objs.size f cd) e) (fun _ s''=>CX outer H s E e s'') (fun e' s''=>CX outer H s E e' s'') s'
theorem qAZ {sc:Scope} {n:Nat} {x:Str} (h:sc.names.lookup x=some .cell):∃ c,(cellsFrom n sc.names []).lookup x=some c:=by
 have q:=PySem.W.cellsFrom_some sc.names n [] (.inl h)
 exact Option.isSome_iff_exists.mp q
theorem qCv {CX:CXT} {P:Program} {w:World} {K:W.Frag} {mg:Str->Option Value} {base:Heap} {N ps:List Str} {qual:Str} {scope:Scope} {f:Addr} {cd:Value} {A:Around} {outer:List Env} {s s1:Shared} {H:Hp} {E:XK} {us:List Value} {vs:List V}
  (S:FnScope N ps scope) (e0:Env0 P w K mg base A outer s H) (hl:vs.length=ps.length) (r:Vals vs us)
  (x:InCallC s s.heap.objs.size (bindL (envOfC qual scope s.heap.objs.size f cd).kindOf (ps.zip us) fun _=>none) (cellsFrom (s.heap.objs.size + 1) scope.names []) (bindC (envOfC qual scope s.heap.objs.size f cd).kindOf (ps.zip us) fun _=>none) s1) :
  Inv (we CX P w K mg base N qual scope f cd A outer s H E) [] (start N vs) H s1:=by
 have hpl:ps.length≤N.length:=by have:=congrArg List.length S.pre;rw [List.length_take] at this;omega
 obtain ⟨h1,tk,rfl,hk⟩:=x.done
 have noA:∀ b:Addr,b ∉ (we CX P w K mg base N qual scope f cd A outer s H E).ex:=fun b z=>absurd (show b∈([]:List Addr) from z) (by simp)
 refine ⟨⟨e0.mod,S.kind,rfl,rfl,Nat.le_refl _,fun y z c h1 h2 => ?_,fun y hy => ?_,fun y c _ h => ?_,fun z=>Option.isNone_iff_eq_none.mp z,Around.frames_deeper e0.frames,.inr ⟨rfl,rfl⟩,fun b z=>absurd z (noA b),e0.bs,e0.bsz,fun b _ _=>noA b,fun b z=>absurd z (noA b),e0.funs,e0.frf⟩,
  rfl,e0.bare,Un.kept hk,⟨_,x.toInCall.ns,fun i y v h1 h2 h3 => ?_⟩,fun y c h=>⟨_,x.cell y c h⟩,e0.hok.fresh (Nat.le_refl _),fun y c h => ?_,fun p hp=>absurd (show p∈([]:List (Addr×Obj)) from hp) (by simp),e0.hok.kept hk,?_,e0.hnd⟩
 ·exact name_of_addr x.apart (PySem.mem_of_lookup h1) (PySem.mem_of_lookup h2)
 ·have hy:scope.names.lookup y=some .cell∨scope.names.lookup y=some .free:=hy
  rcases hy with hy |hy
  ·exact qAZ hy
  ·exact absurd rfl (S.nofree _ (PySem.mem_of_lookup hy))
 ·exact Nat.le_of_lt (x.above y c (PySem.mem_of_lookup h))
 ·have hi:i < vs.length:=by
   unfold start at h2
   by_cases hi:i < vs.length
   ·exact hi
   ·rw [List.getElem?_append_right (by simpa using hi)] at h2
    rw [List.getElem?_replicate] at h2
    split at h2 <;> cases h2
  have ha:vs[i]? = some v:=by
   unfold start at h2
   rw [List.getElem?_append_left (by simpa using hi),List.getElem?_map] at h2
   cases e:vs[i]? with
   |none=>rw [e] at h2;cases h2
   |some a=>rw [e] at h2;cases h2;rfl
  obtain ⟨u,hu,rv⟩:=r.get ha
  have hp:ps[i]? = some y:=by
   rw [← S.pre,List.getElem?_take_of_lt (by omega)];exact h1
  have ndP:ps.Nodup:=by rw [← S.pre];exact S.nd.sublist (List.take_sublist _ _)
  refine ⟨u,rv,?_⟩
  rcases S.par y (List.mem_of_getElem? hp) with k |k
  ·exact .inl ⟨k,Y1 ndP hp hu k⟩
  ·obtain ⟨c,e⟩:=qAZ (n:=s.heap.objs.size + 1) k
   refine .inr ⟨.inl k,c,e,?_⟩
   have q:=x.cell y c e
   rw [Y6 ndP hp hu (by show scope.names.lookup y≠_;rw [k];decide)] at q
   exact q
 ·exact e0.hok.fresh (Nat.le_of_lt (x.above y c (PySem.mem_of_lookup h)))
 ·unfold start
  show _=N.length
  rw [List.length_append,List.length_map,List.length_replicate]
  omega
theorem qKm {CX:CXT} {P:Program} {w:World} {K:W.Frag} {mg:Str->Option Value} {base:Heap} {k:Nat} {f:Addr} {name qual:Str} {params:Arguments} {body:List Stmt} {scope:Scope} {dV kV doc pm cdv ct oc:Value} {an od:Option Addr}
  {osl:Array (Option Value)} {N ps:List Str} {sp:Sp} (lk:K.lookup f=some ⟨oc,od,.func (PySem.W.fnOf name qual params body scope dV kV doc pm an cdv ct),osl⟩) (hcd:PySem.W.codeIn K cdv qual=true) (S:FnScope N ps scope)
  (len:∀ vs H Q E,sp vs H Q E->vs.length=ps.length)
  (hbody:∀ (A:Around) (outer:List Env) (s:Shared) (H:Hp) (vs:List V) (Q:VK) (E:XK),Room k (A.deeper (envOfC qual scope s.heap.objs.size f cdv))->(0 < k->A.handled=none)->sp vs H Q E ->
   ∃ t,PSs (we CX P w K mg base N qual scope f cdv A outer s H E) body t∧t { nx:=fun _ H'=>Q .non H',rt:=Q } (start N vs) H) :
  FnOk P w K mg base CX (k + 1) f (PySem.W.fnOf name qual params body scope dV kV doc pm an cdv ct) ps sp:=by
 refine ⟨len,fun A outer s H args us vs Q E hr e0 hb r hsp => ?_⟩
 have hl:=len _ _ _ _ hsp
 have KX:K.In s.heap:=e0.mod.kin.keeps fun b o e=>(e0.bs b o e).1
 have lim:s.heap.NoLimit:=e0.mod.nolimit.keeps fun b o e=>(e0.bs b o e).1
 have hkind:∀ y∈ps.zip us,scope.names.lookup y.1=some .local∨(scope.names.lookup y.1=some .cell∧((cellsFrom (s.heap.objs.size + 1) scope.names []).lookup y.1).isSome=true):=fun ⟨n,v⟩ hy=>by
  rcases S.par n (List.of_mem_zip hy).1 with q |q
  ·exact .inl q
  ·exact .inr ⟨q,PySem.W.cellsFrom_some _ _ _ (.inl q)⟩
 refine codeAny_call_function hr.depth (KX _ _ lk) rfl S.co S.gen rfl (PySem.W.codeRec_of KX hcd) (hb _ _ _ _ ?_)
 refine wpAny_newFunctionEnv_cells S.kind hkind fun env he s1 x => ?_
 subst he
 refine ⟨lim.keeps x.toInCall.keep,codeAny_func ?_⟩
 obtain ⟨t,ht,hq⟩:=hbody A outer s H vs Q E (hr.deeper _) (fun z=>hr.hd (by omega)) hsp
 have I:Inv (we CX P w K mg base N qual scope f cdv A outer s H E) [] (start N vs) H s1:=qCv S e0 hl r x
 refine wpAny_mono (ht [] s1 (start N vs) H _ I hq) (fun fl s' hs => ?_) fun e s' hs=>hs
 have fin:∀ {σ':St} {H':Hp} {v:V} {u:Value},Inv (we CX P w K mg base N qual scope f cdv A outer s H E) [] σ' H' s'->RelV v u->Q v H'->CE outer P w H s Q u s' :=
  fun {σ' H' v u} J rv q=>⟨v,H',J.os,J.bare,J.base,J.hok,rv,q⟩
 cases fl with
 |ret u =>
  obtain ⟨v,σ',H',J,rv,q⟩:=hs
  exact fin J rv q
 |next =>
  obtain ⟨σ',H',J,q⟩:=hs
  exact fin (v:=V.non) (u:=Value.none) J rfl q
 |brk =>
  obtain ⟨_,_,_,q⟩:=hs
  exact False.elim q
 |cont =>
  obtain ⟨_,_,_,q⟩:=hs
  exact False.elim q
end L2
namespace L2
open PySem PySem.Spec PyProof.Rows
section
variable {X:Cx} {x:Str} {p pos:Pos} {e:Expr} {es:List Expr} {t:TA} {id T:String} {r:List V->Hp->VK->Prop}
def tCB (r:List V->Hp->VK->Prop) (t:TA):TE:=fun σ H Q=>t σ H fun vs H1=>r vs H1 Q
theorem qEc (hc:Ws X (.builtin id) r) (hg:Gl X x) (hm:X.mg x=none) (hv:bootBuiltins x=some (.builtin id)) (ha:PA X (e::es) t) (hn:x ≠ "__name__" := by decide) (hdb:(x==("__debug__":Str))=false:=by decide)
  (he:starEach (e::es) X.env=(false,eval e X.env)::starEach es X.env:=by rfl) (hpl:(backTo pos (starEach es X.env)).any (·.1)=false:=by rfl):PE X (.Call (.Name x p) (e::es) [] pos) (tCB r t):=by
 intro pins s σ H Q I h
 refine wpAny_Call_Name_kw (Za I hg hm hv ?_ hn hdb)
 exact PyProof.Rows.callWith_builtin1 (thn (ha pos pins s σ H _ I h) fun us s1 ⟨vs,H1,I1,r1,q1⟩=>hc pins s1 σ H1 vs us Q I1 r1 q1) he hpl
theorem qDO (hc:Ws X (.type T) r) (hg:Gl X x) (hm:X.mg x=none) (hv:bootBuiltins x=some (.type T)) (ha:PA X (e::es) t) (hn:x ≠ "__name__" := by decide) (hdb:(x==("__debug__":Str))=false:=by decide)
  (he:starEach (e::es) X.env=(false,eval e X.env)::starEach es X.env:=by rfl) (hpl:(backTo pos (starEach es X.env)).any (·.1)=false:=by rfl):PE X (.Call (.Name x p) (e::es) [] pos) (tCB r t):=by
 intro pins s σ H Q I h
 refine wpAny_Call_Name_kw (Za I hg hm hv ?_ hn hdb)
 exact PyProof.Rows.callWith_type1 (thn (ha pos pins s σ H _ I h) fun us s1 ⟨vs,H1,I1,r1,q1⟩=>hc pins s1 σ H1 vs us Q I1 r1 q1) he hpl
end
end L2
namespace HT
open PySem PyProof.Rows
section
variable {prog:Program} {w:World} {A:Around} {E:Value->Shared->Prop} {s:Shared}
theorem cat_tup {t b:Addr} {vs ws:List Value} {Q:Value->Shared->Prop} (ht:IsTup s.heap t vs.toArray) (hb:IsTup s.heap b ws.toArray) (hv:vs≠[])
  (h1:ws=[]->Q (.ref t) s) (h2:ws≠[]->Q (.ref s.heap.objs.size) { s with heap:=s.heap.push { cls := .type "tuple",data := .seq (vs++ws).toArray } })
  (hsz:vs.length + ws.length≤sizeLine):wpAny (model prog w) A (binaryOp .Add (.ref t) (.ref b)) Q E s:=by
 obtain ⟨⟨cls,dd,data,sl⟩,ho,hc,n,hd⟩:=id ht
 obtain ⟨⟨cls2,dd2,data2,sl2⟩,ho2,hc2,n2,hd2⟩:=id hb
 simp only at hc hd hc2 hd2
 subst hc hd hc2 hd2
 have e:vs.toArray++ws.toArray=(vs++ws).toArray:=by simp
 by_cases hw:ws=[]
 ·exact concat_meets ⟨_,ho,rfl⟩ ⟨_,ho2,rfl⟩ noFill_tuple_add seq_tuple_add PySem.F.slot_tuple_add PySem.F.entry_tuple_add (PySem.F.args_tuple_add_2 _ _)
   (tuple_addW1 t b vs.toArray ws.toArray n n2 dd dd2 sl sl2 (by simpa using hv) (by simp [hw])) ⟨ho,ho2,h1 hw⟩
 ·refine concat_meets ⟨_,ho,rfl⟩ ⟨_,ho2,rfl⟩ noFill_tuple_add seq_tuple_add PySem.F.slot_tuple_add PySem.F.entry_tuple_add (PySem.F.args_tuple_add_2 _ _)
   (tuple_addW2 t b vs.toArray ws.toArray n n2 dd dd2 sl sl2 (by simpa using hv) (by simpa using hw) (by rw [List.size_toArray,List.size_toArray];exact hsz)) ⟨ho,ho2,?_⟩
  rw [e]
  exact h2 hw
def sIx (n d:Nat):Option Int->Nat
 |none=>d
 |some v=>if v < 0 then (v + (n:Int)).toNat else min v.toNat n
theorem qJG (n d:Nat) (hd:d≤n) (o:Option Int):sIx n d o≤n:=by
 cases o with
 |none=>exact hd
 |some v =>
  show (if v < 0 then (v + (n:Int)).toNat else min v.toNat n)≤n
  by_cases hv:v < 0
  ·rw [if_pos hv];omega
  ·rw [if_neg hv];exact Nat.min_le_right _ _
theorem qB0 (v:Int) (n d:Nat):(if v < 0 then max (v + (n:Int)) 0 else min v (n:Int))=((sIx n d (some v):Nat):Int):=by
 show (if v < 0 then max (v + (n:Int)) 0 else min v (n:Int))=(((if v < 0 then (v + (n:Int)).toNat else min v.toNat n):Nat):Int)
 by_cases hv:v < 0
 ·simp only [if_pos hv];omega
 ·simp only [if_neg hv];omega
theorem qA5 (lo hi:Option Int) (n:Nat):Builtin.Slice.sliceAdjust lo hi 1 (n:Int)=(((sIx n 0 lo:Nat):Int),((sIx n n hi:Nat):Int)):=by
 have h1:¬ ((1:Int) < 0):=by omega
 unfold Builtin.Slice.sliceAdjust
 simp only [h1,if_false]
 refine Prod.ext ?_ ?_
 ·cases lo with
  |none=>rfl
  |some v=>exact qB0 v n 0
 ·cases hi with
  |none=>rfl
  |some v=>exact qB0 v n n
theorem qBM (i j:Nat):Builtin.Slice.slicePlaces (i:Int) (j:Int) 1=j - i:=by
 unfold Builtin.Slice.slicePlaces
 have h1:(1:Int) > 0:=by omega
 simp only [h1,if_true,Int.ediv_one]
 split <;> omega
theorem YS {v:Value} {o:Option Int} {Q:Option Int->Shared->Prop} (p:IsPart v o) (h:Q o s):wpAny (model prog w) A (Builtin.Slice.slicePartIndex v) Q E s:=by
 cases p with
 |none=>exact slicePart_none h
 |int i t=>exact slicePart_int h
theorem sliceApplied_gen {sl:Addr} {vl vu:Value} {lo hi:Option Int} {n:Nat} {Q:Int×Int×Nat->Shared->Prop} (hs:s.heap.IsSliceOf sl vl vu .none) (pl:IsPart vl lo) (pu:IsPart vu hi)
  (h:Q (((sIx n 0 lo:Nat):Int),1,sIx n n hi - sIx n 0 lo) s):wpAny (model prog w) A (Builtin.Slice.sliceApplied (.ref sl) (pure (n:Int))) Q E s:=by
 obtain ⟨os,hos,hcs,hds⟩:=id hs
 unfold Builtin.Slice.sliceApplied Builtin.Slice.sliceFields
 refine wpAny_bind (wpAny_bind (wpAny_field hos hds (x:=vl) rfl (wpAny_bind (wpAny_field hos hds (x:=vu) rfl (wpAny_bind (wpAny_field hos hds (x := .none) rfl (wpAny_pure ?_)))))))
 refine wpAny_bind (slicePart_none ?_)
 show wpAny _ _ (if ((1:Int)==0)=true then _ else _) _ _ s
 rw [if_neg (by decide)]
 refine wpAny_bind (YS pl (wpAny_bind (YS pu (wpAny_bind (wpAny_pure ?_)))))
 show wpAny _ _ (match Builtin.Slice.sliceAdjust lo hi 1 (n:Int) with |(lo,hi)=>pure (lo,(1:Int),Builtin.Slice.slicePlaces lo hi 1)) _ _ s
 rw [qA5 lo hi n]
 show wpAny _ _ (pure (((sIx n 0 lo:Nat):Int),(1:Int),Builtin.Slice.slicePlaces ((sIx n 0 lo:Nat):Int) ((sIx n n hi:Nat):Int) 1)) _ _ s
 rw [qBM]
 exact wpAny_pure h
theorem qDk (xs:Array Value) (i k:Nat):((List.range k).filterMap fun (m:Nat)=>xs[((i:Int) + (m:Int) * 1).toNat]?).toArray=((xs.toList.drop i).take k).toArray:=by
 have e:(fun (m:Nat)=>xs[((i:Int) + (m:Int) * 1).toNat]?)=fun m=>xs[i + m]? := by
  funext m
  have:((i:Int) + (m:Int) * 1).toNat=i + m:=by omega
  rw [this]
 rw [e]
 have:=pick_run xs i k
 rw [List.filterMap_map] at this
 have e2:((fun x=>xs[x]?) ∘ fun x=>i + x)=fun m=>xs[i + m]? := rfl
 rw [e2] at this
 rw [this]
theorem getItem_tuple_cut {t sl:Addr} {items:Array Value} {vl vu:Value} {lo hi:Option Int} {Q:Value->Shared->Prop} (ht:IsTup s.heap t items) (hs:s.heap.IsSliceOf sl vl vu .none) (pl:IsPart vl lo) (pu:IsPart vu hi)
  (hw:¬ (sIx items.size 0 lo=0∧sIx items.size items.size hi=items.size))
  (h:Q (.ref s.heap.objs.size) { s with heap:=s.heap.push { cls := .type "tuple",data := .seq ((items.toList.drop (sIx items.size 0 lo)).take (sIx items.size items.size hi - sIx items.size 0 lo)).toArray } })
  (hsz:items.size≤sizeLine):wpAny (model prog w) A (getItem (.ref t) (.ref sl)) Q E s:=by
 have htake:sizeOk (.seq ((items.toList.drop (sIx items.size 0 lo)).take (sIx items.size items.size hi - sIx items.size 0 lo)).toArray):=by
  show ((items.toList.drop (sIx items.size 0 lo)).take (sIx items.size items.size hi - sIx items.size 0 lo)).toArray.size≤sizeLine
  rw [List.size_toArray,List.length_take,List.length_drop,Array.length_toList]
  omega
 have hj:sIx items.size items.size hi≤items.size:=qJG _ _ (Nat.le_refl _) hi
 obtain ⟨os,hos,hcs,hds⟩:=id hs
 have hTs:s.TypeIs (.ref sl) "slice" := ⟨os,hos,hcs⟩
 unfold getItem
 try with_reducible refine wpAny_holding ?_
 first |refine wpAny_bind (wpAny_pure ?_) |skip
 refine wpAny_bind (wpAny_sequenceKey ht.typeIs (by decide) ?_)
 refine wpAny_bind (wpAny_callSpecial?_slot (name:=Str.ofString "__getitem__") ht.typeIs PyProof.Rows.slot_tuple_getitem
  (wpAny_call_entry PyProof.Rows.slot_tuple_getitem ht.typeIs entry_tuple_getitem ?_ (args_tuple_getitem _ _)))
 show wpAny _ _ (Builtin.Tuple.tupleItemsOf (.ref t) >>= _) _ _ s
 refine wpAny_bind (tupleItemsOf_ ht ?_)
 refine wpAny_bind (wpAny_typeOf hTs ?_)
 rw [if_pos (by decide)]
 refine wpAny_bind (sliceApplied_gen hs pl pu ?_)
 have hno:¬ ((((sIx items.size 0 lo:Nat):Int)==0&&(1:Int)==1&&(sIx items.size items.size hi - sIx items.size 0 lo)==items.size)=true):=by
  intro q
  rw [Bool.and_eq_true,Bool.and_eq_true] at q
  have q1:((sIx items.size 0 lo:Nat):Int)=0:=eq_of_beq q.1.1
  have q2:sIx items.size items.size hi - sIx items.size 0 lo=items.size:=eq_of_beq q.2
  exact hw ⟨by omega,by omega⟩
 show wpAny _ _ (if (((sIx items.size 0 lo:Nat):Int)==0&&(1:Int)==1&&(sIx items.size items.size hi - sIx items.size 0 lo)==items.size)=true then _ else _) _ _ s
 rw [if_neg hno,qDk]
 first
  |exact wpAny_bind (m:=Builtin.Tuple.tupleExact _) (wpAny_newObj_type (wpAny_pure ⟨_,rfl,wpAny_pure h⟩) htake)
  |exact wpAny_bind (m:=Builtin.Tuple.tupleExact _) (wpAny_newObj_type (wpAny_bind (wpAny_pure (wpAny_pure ⟨_,rfl,wpAny_pure h⟩))) htake)
  |exact wpAny_bind (wpAny_bind (m:=Builtin.Tuple.tupleExact _) (wpAny_newObj_type (wpAny_pure (wpAny_pure ⟨_,rfl,wpAny_pure h⟩)) htake))
  |exact wpAny_bind (wpAny_bind (m:=Builtin.Tuple.tupleExact _) (wpAny_newObj_type (wpAny_pure ⟨_,rfl,wpAny_pure h⟩) htake))
end
end HT
namespace L2
open PySem PySem.Spec PyProof.Rows
abbrev TO:=St->Hp->(Option Int->Hp->Prop)->Prop
def PO (X:Cx) (e:Option Expr) (t:TO):Prop :=
 ∀ (pins:List (Addr×Obj)) (s:Shared) (σ:St) (H:Hp) (Q:Option Int->Hp->Prop),Inv X pins σ H s->t σ H Q ->
  wpAny (model X.prog X.w) X.A (evalPart e X.env) (fun u s' => ∃ o H',Inv X pins σ H' s'∧IsPart u o∧Q o H') X.xe s
def qFg:TO:=fun _ H Q=>Q none H
def qJu (t:TE):TO:=fun σ H Q=>t σ H fun x H1 => ∃ i,x = .int i∧Q (some i) H1
section
variable {X:Cx} {e:Expr} {te:TE} {lo hi:Option Expr} {tl th:TO} {pos p2:Pos}
theorem qFl:PO X none qFg:=by
 intro pins s σ H Q I h
 rw [evalPart_none]
 exact wpAny_pure ⟨none,H,I,.none,h⟩
theorem qGz (h:PE X e te):PO X (some e) (qJu te):=by
 intro pins s σ H Q I hw
 rw [evalPart_some]
 refine thn (h pins s σ H _ I hw) fun u s1 ⟨x,H1,I1,r1,q1⟩ => ?_
 obtain ⟨i,rfl,q⟩:=q1
 obtain ⟨t,rfl⟩:=r1
 exact ⟨some i,H1,I1,.int i t,q⟩
def SlR (X:Cx) (r:V->Option Int->Option Int->Hp->VK->Prop):Prop :=
 ∀ (pins:List (Addr×Obj)) (s:Shared) (σ:St) (H:Hp) (x:V) (v vl vu:Value) (lo hi:Option Int) (sl:Addr) (Q:VK),Inv X pins σ H s->RelV x v->s.heap.IsSliceOf sl vl vu .none->IsPart vl lo->IsPart vu hi->r x lo hi H Q ->
  ∃ T id,typeLookup (.type T) "__getitem__" = pure (some (.builtin id))∧s.TypeIs v T∧wpAny (model X.prog X.w) X.A (getItem v (.ref sl)) (EP X pins σ Q) X.xe s
theorem SlR.or {r r':V->Option Int->Option Int->Hp->VK->Prop} (h:SlR X r) (h':SlR X r'):SlR X (fun x lo hi H Q=>r x lo hi H Q∨r' x lo hi H Q):=by
 intro pins s σ H x v vl vu lo hi sl Q I rx hs pl pu q
 rcases q with q |q
 ·exact h pins s σ H x v vl vu lo hi sl Q I rx hs pl pu q
 ·exact h' pins s σ H x v vl vu lo hi sl Q I rx hs pl pu q
def tSl (r:V->Option Int->Option Int->Hp->VK->Prop) (te:TE) (tl th:TO):TE:=fun σ H Q=>te σ H fun x H1=>tl σ H1 fun l H2=>th σ H2 fun u H3=>r x l u H3 Q
theorem J6 {r:V->Option Int->Option Int->Hp->VK->Prop} (hr:SlR X r) (he:PE X e te) (hl:PO X lo tl) (hu:PO X hi th):PE X (.Subscript e (.Slice lo hi none p2) pos) (tSl r te tl th):=by
 intro pins s σ H Q I h
 refine Subscript_ (thn (he pins s σ H _ I h) fun v s1 ⟨x,H1,I1,r1,q1⟩ => ?_)
 refine wpAny_Slice (thn (hl pins s1 σ H1 _ I1 q1) fun vl s2 ⟨l,H2,I2,pl,q2⟩=>thn (hu pins s2 σ H2 _ I2 q2) fun vu s3 ⟨u,H3,I3,pu,q3⟩ => ?_)
 rw [evalPart_none]
 refine wpAny_pure ?_
 have I4:Inv X pins σ H3 { s3 with heap:=s3.heap.push { cls := .type "slice",data := .fields #[vl,vu,.none] } }:=I3.kept (t':=s3.toks) fun b ob q=>Heap.get?_push_of_some _ q
 obtain ⟨T,id,hT,ht,hg⟩:=hr pins { s3 with heap:=s3.heap.push { cls := .type "slice",data := .fields #[vl,vu,.none] } } σ H3 x v vl vu l u s3.heap.objs.size Q I4 r1 (Heap.IsSliceOf.new ..) pl pu q3
 show wpAny (model X.prog X.w) X.A (subscriptTail e (.Slice lo hi none p2) v (.ref s3.heap.objs.size)) (EP X pins σ Q) X.xe { s3 with heap:=s3.heap.push { cls := .type "slice",data := .fields #[vl,vu,.none] } }
 exact tail_any (ops:=[.ref s3.heap.objs.size,v]) ht hT hg (by with_unfolding_all rfl)
def Ys (xs:List V) (lo hi:Option Int):List V:=(xs.drop (HT.sIx xs.length 0 lo)).take (HT.sIx xs.length xs.length hi - HT.sIx xs.length 0 lo)
theorem yO (xs:List V) (lo hi:Option Int):(Ys xs lo hi).length≤xs.length:=by
 unfold Ys
 rw [List.length_take,List.length_drop]
 omega
def qLF (K:W.Frag):V->Option Int->Option Int->Hp->VK->Prop:=fun x lo hi H Q => ∃ a xs,x = .ref a∧SqT K H a xs ∧
 ¬ (HT.sIx xs.length 0 lo=0∧HT.sIx xs.length xs.length hi=xs.length) ∧ ∀ p,H p=none->Q (.ref p) (upd H p (.tup (Ys xs lo hi)))
theorem sl_tup:SlR X (qLF X.K):=by
 intro pins s σ H x v vl vu lo hi sl Q I rx hs pl pu h
 obtain ⟨a,xs,rfl,hx,hw,q⟩:=h
 cases rx
 obtain ⟨its,r,ht,hz⟩:=I.tuple hx
 have hlen:its.toArray.size=xs.length:=by rw [List.size_toArray];exact r.length.symm
 refine ⟨"tuple",_,PyProof.Rows.slot_tuple_getitem.lookup,ht.typeIs,?_⟩
 refine HT.getItem_tuple_cut ht hs pl pu (by rw [hlen];exact hw) ?_ (by rw [hlen];exact hz)
 rw [hlen]
 refine ⟨.ref s.heap.objs.size,_,I.laid (t':=s.toks) (o := .tup (Ys xs lo hi)) (fun b ob q=>Heap.get?_push_of_some _ q) (Nat.le_refl _) ?_,rfl,q _ (I.hok.fresh (Nat.le_refl _))⟩
 exact ⟨Nat.le_trans (yO xs lo hi) hz,_,(r.drop (HT.sIx xs.length 0 lo)).take (HT.sIx xs.length xs.length hi - HT.sIx xs.length 0 lo),IsTup.new _ _⟩
def qKb (K:W.Frag):R2:=fun x y H Q => ∃ a b xs ys,x = .ref a∧y = .ref b∧SqT K H a xs∧SqT K H b ys∧xs≠[]∧xs.length + ys.length≤sizeLine ∧
 (ys=[]->Q (.ref a) H)∧(ys≠[] -> ∀ p,H p=none->Q (.ref p) (upd H p (.tup (xs++ys))))
theorem Vals.nil_iff {xs:List V} {us:List Value} (r:Vals xs us):us=[] ↔ xs=[]:=by
 cases r with
 |nil=>simp
 |cons _ _=>simp
theorem qFr:OpR X (binaryOp .Add) (qKb X.K):=by
 intro pins s σ H x y v u Q I rx ry h
 obtain ⟨a,b,xs,ys,rfl,rfl,ha,hb,hx,hz,q1,q2⟩:=h
 cases rx
 cases ry
 obtain ⟨its,r1,p1,_⟩:=I.tuple ha
 obtain ⟨its2,r2,p2,_⟩:=I.tuple hb
 refine HT.cat_tup p1 p2 (fun z=>hx (r1.nil_iff.mp z)) (fun z=>⟨.ref a,H,I,rfl,q1 (r2.nil_iff.mp z)⟩) (fun z => ?_) (by rw [← r1.length,← r2.length];exact hz)
 refine ⟨.ref s.heap.objs.size,_,I.laid (t':=s.toks) (o := .tup (xs++ys)) (fun b ob q=>Heap.get?_push_of_some _ q) (Nat.le_refl _) ?_,rfl,q2 (fun w=>z (r2.nil_iff.mpr w)) _ (I.hok.fresh (Nat.le_refl _))⟩
 exact ⟨by rw [List.length_append];exact hz,_,r1.append r2,IsTup.new _ _⟩
end
end L2
namespace L2
open PySem PySem.Spec PyProof.Rows
def ixN (n:Nat) (i:Int):Option Nat:=if 0≤i then (if i < n then some i.toNat else none) else if -(n:Int)≤i then some (i + n).toNat else none
def atI {α:Type} (xs:List α) (i:Int):Option α:=(ixN xs.length i).bind fun j=>xs[j]?
theorem qB5 {n:Nat} {i:Int} {j:Nat} (h:ixN n i=some j):seqIndex? i n=some j∧j < n ∧ -(n:Int)≤i∧i < n:=by
 unfold ixN at h
 by_cases h0:0≤i
 ·rw [if_pos h0] at h
  by_cases h1:i < n
  ·rw [if_pos h1] at h
   have e:i.toNat=j:=Option.some.inj h
   exact ⟨by rw [seqIndex_of h0 h1,e],by omega,by omega,h1⟩
  ·rw [if_neg h1] at h;cases h
 ·rw [if_neg h0] at h
  by_cases h1:-(n:Int)≤i
  ·rw [if_pos h1] at h
   have e:(i + n).toNat=j:=Option.some.inj h
   exact ⟨by rw [seqIndex_neg (by omega) h1,e],by omega,h1,by omega⟩
  ·rw [if_neg h1] at h;cases h
theorem jX {α:Type} {xs:List α} {i:Int} {v:α} (h:atI xs i=some v):∃ j,seqIndex? i xs.length=some j∧xs[j]? = some v∧j < xs.length ∧ -(xs.length:Int)≤i∧i < xs.length:=by
 unfold atI at h
 cases e:ixN xs.length i with
 |none=>rw [e] at h;cases h
 |some j =>
  rw [e] at h
  obtain ⟨h1,h2,h3,h4⟩:=qB5 e
  exact ⟨j,h1,h,h2,h3,h4⟩
def qCH (b:Expr):Prop := ∀ o i,subscripted b false o i=operate [o,i] (getItem o i)
def IxR (X:Cx) (r:R2):Prop :=
 ∀ (value slice:Expr) (pins:List (Addr×Obj)) (s:Shared) (σ:St) (H:Hp) (x y:V) (v u:Value) (Q:VK),Inv X pins σ H s->RelV x v->RelV y u->r x y H Q ->
  subscripted slice false v u=operate [v,u] (getItem v u)->wpAny (model X.prog X.w) X.A (subscriptTail value slice v u) (EP X pins σ Q) X.xe s
def MtR (X:Cx) (id:String) (r:V->List V->Hp->VK->Prop):Prop :=
 ∀ (pins:List (Addr×Obj)) (s:Shared) (σ:St) (H:Hp) (x:V) (xs:List V) (v:Value) (us:List Value) (Q:VK),Inv X pins σ H s->RelV x v->Vals xs us->r x xs H Q ->
  wpAny (model X.prog X.w) X.A (call (.builtin id) (v::us)) (EP X pins σ Q) X.xe s
section
variable {X:Cx} {a b:Expr} {ta tb:TE} {pos:Pos}
theorem IxR.or {r r':R2} (h:IxR X r) (h':IxR X r'):IxR X (fun x y H Q=>r x y H Q∨r' x y H Q):=by
 intro value slice pins s σ H x y v u Q I rx ry q hs
 rcases q with q |q
 ·exact h value slice pins s σ H x y v u Q I rx ry q hs
 ·exact h' value slice pins s σ H x y v u Q I rx ry q hs
theorem qKw {r:R2} (hr:IxR X r) (ha:PE X a ta) (hb:PE X b tb) (hs:qCH b):PE X (.Subscript a b pos) (tOp r ta tb):=by
 intro pins s σ H Q I h
 exact Subscript_ (qI7 ha hb I h fun v u s2 x y H2 I2 rx ry q=>hr a b pins s2 σ H2 x y v u Q I2 rx ry q (hs _ _))
def qKS (K:W.Frag):R2:=fun x y H Q => ∃ p xs i v,x = .ref p∧y = .int i∧SqL K H p xs∧atI xs i=some v∧Q v H
def qKR (K:W.Frag):R2:=fun x y H Q => ∃ p xs i v,x = .ref p∧y = .int i∧SqT K H p xs∧atI xs i=some v∧Q v H
def qKU:R2:=fun x y H Q => ∃ z i c,x = .str z∧y = .int i∧z.length≤sizeLine∧atI z.cps.toList i=some c∧Q (.str ⟨#[c]⟩) H
theorem ix_list:IxR X (qKS X.K):=by
 intro value slice pins s σ H x y v u Q I rx ry h hs
 obtain ⟨p,xs,i,z,rfl,rfl,hq,he,q⟩:=h
 cases rx
 obtain ⟨t,rfl⟩:=ry
 obtain ⟨its,r,pl,hz⟩:=I.list hq
 obtain ⟨j,h1,h2,h3,h4,h5⟩:=jX he
 obtain ⟨w,ew,rw'⟩:=r.get h2
 have hl:=r.length
 have hn:=yF
 have fin:EP X pins σ Q w s:=⟨z,H,I,rw',q⟩
 by_cases h0:0≤i
 ·have hj:i.toNat=j:=by
   rw [seqIndex_of h0 h5] at h1
   exact Option.some.inj h1
  exact item_listR pl.isList h0 (by omega) (by rw [hj];simpa using ew) fin hs
 ·have hj:(i + (its.toArray.size:Int)).toNat=j:=by
   rw [seqIndex_neg (by omega) h4] at h1
   rw [List.size_toArray,← hl]
   exact Option.some.inj h1
  exact subscriptTail_builtinR (x:=w) pl.isList.typeIs slot_list_getitem.lookup
   (wpAny_getItem_list_neg (Q:=fun r s'=>r=w∧EP X pins σ Q r s') pl.isList (by omega) (by rw [List.size_toArray] <;> omega) (by omega) (by rw [hj];simpa using ew) ⟨rfl,fin⟩) hs
theorem ix_tup:IxR X (qKR X.K):=by
 intro value slice pins s σ H x y v u Q I rx ry h hs
 obtain ⟨p,xs,i,z,rfl,rfl,hq,he,q⟩:=h
 cases rx
 obtain ⟨t,rfl⟩:=ry
 obtain ⟨its,r,pl,hz⟩:=I.tuple hq
 obtain ⟨j,h1,h2,h3,h4,h5⟩:=jX he
 obtain ⟨w,ew,rw'⟩:=r.get h2
 have hl:=r.length
 have hn:=yF
 have fin:EP X pins σ Q w s:=⟨z,H,I,rw',q⟩
 exact subscriptTail_builtinR (x:=w) pl.typeIs slot_tuple_getitem.lookup
  (getItem_tuple (j:=j) (Q:=fun r s'=>r=w∧EP X pins σ Q r s') pl (by omega) (by omega) (by rw [List.size_toArray,← hl];exact h1) (by simpa using ew) ⟨rfl,fin⟩) hs
theorem qIp:IxR X qKU:=by
 intro value slice pins s σ H x y v u Q I rx ry h hs
 obtain ⟨z,i,c,rfl,rfl,hz,he,q⟩:=h
 obtain ⟨t,rfl⟩:=rx
 obtain ⟨t',rfl⟩:=ry
 obtain ⟨j,h1,h2,h3,h4,h5⟩:=jX he
 have hl:z.cps.toList.length=z.length:=by simp [Str.length]
 rw [hl] at h1 h4 h5
 have hn:=yF
 exact tail_any (typeIs_str s z t) slot_str_getitem.lookup (getItem_str (c:=c) (by
  have e1:decide (i < -(2 ^ 63:Int))=false:=decide_eq_false (by omega)
  have e2:decide (i ≥ 2 ^ 63)=false:=decide_eq_false (by omega)
  rw [e1,e2,Bool.or_false]) (by rw [h1];simpa using h2) ⟨.str ⟨#[c]⟩,H,I.tok _,⟨_,rfl⟩,q⟩) hs
def rIx (K:W.Frag):R2:=fun x y H Q=>qKS K x y H Q∨qKR K x y H Q∨qKU x y H Q
theorem qHw:IxR X (rIx X.K):=ix_list.or (ix_tup.or qIp)
theorem qAx (its:List Value) (n j:Nat) (u:Value):Obj.mapSeq (·.setIfInBounds j u) { cls := .type "list",data := .seq its.toArray n }={ cls := .type "list",data := .seq (its.set j u).toArray n }:=by
 simp [Obj.mapSeq]
theorem Inv.lst {pins:List (Addr×Obj)} {σ:St} {H:Hp} {s:Shared} {p:Addr} {xs:List V} (I:Inv X pins σ H s) (h:H p=some (.lst xs)) :
  ∃ (its:List Value) (n:Nat),Vals xs its∧s.heap.get? p=some { cls := .type "list",data := .seq its.toArray n }∧xs.length≤sizeLine:=by
 obtain ⟨z,its,n,r,e⟩:=I.hok p _ h
 exact ⟨its,n,r,e,z⟩
theorem Inv.lstUpd {pins:List (Addr×Obj)} {σ:St} {H:Hp} {s:Shared} {p:Addr} {xs ys:List V} {its its':List Value} {n n':Nat} {f:Obj->Obj} (I:Inv X pins σ H s) (h:H p=some (.lst xs))
  (ho:s.heap.get? p=some { cls := .type "list",data := .seq its.toArray n }) (hf:f { cls := .type "list",data := .seq its.toArray n }={ cls := .type "list",data := .seq its'.toArray n' }) (r:Vals ys its') (hz:ys.length≤sizeLine) (t:Nat) :
  Inv X pins σ (upd H p (.lst ys)) { s with heap:=s.heap.update p f,toks:=t }:=by
 have e:(s.heap.update p f).get? p=some { cls := .type "list",data := .seq its'.toArray n' }:=by
  rw [Heap.get?_update_self f ho (by rw [hf] <;> rfl),hf]
 refine I.write (x:=p) (e:=p) (by rw [h];trivial) (.inl rfl) (fun b u hb q=>(Heap.get?_update_other _ _ (Ne.symm hb)).trans q) ⟨_,e⟩ ?_
 exact ⟨hz,its',n',r,e⟩
def qHC:V->V->V->Hp->(Hp->Prop)->Prop:=fun o i v H Q => ∃ p xs k j,o = .ref p∧i = .int k∧H p=some (.lst xs)∧ixN xs.length k=some j∧Q (upd H p (.lst (xs.set j v)))
theorem Ym:qKj X qHC:=by
 intro pins s σ H o i v ov iv u Q I ro ri rv h
 obtain ⟨p,xs,k,j,rfl,rfl,hp,hj,q⟩:=h
 cases ro
 obtain ⟨t,rfl⟩:=ri
 obtain ⟨its,n,r,ho,hz⟩:=I.lst hp
 obtain ⟨h1,h2,h3,h4⟩:=qB5 hj
 have hl:=r.length
 have hn:=yF
 have I':Inv X pins σ (upd H p (.lst (xs.set j v))) { s with heap:=s.heap.update p (Obj.mapSeq (·.setIfInBounds j u)) } :=
  I.lstUpd hp ho (qAx its n j u) (r.set rv j) (by rw [List.length_set];exact hz) s.toks
 by_cases h0:0≤k
 ·have hk:k.toNat=j:=by
   rw [seqIndex_of h0 h4] at h1
   exact Option.some.inj h1
  exact PySem.W.ki_setAt ho h0 (by omega) (by rw [List.size_toArray,← hl];exact h4) (by rw [hk];exact ⟨_,I',q⟩)
 ·have hk:(k + (its.toArray.size:Int)).toNat=j:=by
   rw [seqIndex_neg (by omega) h3] at h1
   rw [List.size_toArray,← hl]
   exact Option.some.inj h1
  exact PySem.W.ki_setBack ho (by omega) (by rw [List.size_toArray,← hl];exact h3) (by omega) (by rw [hk];exact ⟨_,I',q⟩)
theorem jx (lo hi:Option Int) (n:Nat):(sliceBounds lo hi none n).1=((HT.sIx n 0 lo:Nat):Int)∧(sliceBounds lo hi none n).2.1=((HT.sIx n n hi:Nat):Int)∧(sliceBounds lo hi none n).2.2=1:=by
 refine ⟨?_,?_,rfl⟩
 ·cases lo with
  |none=>simp [sliceBounds,HT.sIx]
  |some i =>
   simp only [sliceBounds,HT.sIx,Option.getD_none,show (1:Int) > 0 by decide,if_true]
   by_cases h:i < 0
   ·simp only [h,if_true] <;> omega
   ·simp only [h,if_false] <;> omega
 ·cases hi with
  |none=>simp [sliceBounds,HT.sIx]
  |some i =>
   simp only [sliceBounds,HT.sIx,Option.getD_none,show (1:Int) > 0 by decide,if_true]
   by_cases h:i < 0
   ·simp only [h,if_true] <;> omega
   ·simp only [h,if_false] <;> omega
theorem Yx (its:List Value) (lo hi:Option Int):slicePick its.toArray lo hi none=((its.drop (HT.sIx its.length 0 lo)).take (HT.sIx its.length its.length hi - HT.sIx its.length 0 lo)).toArray:=by
 obtain ⟨h1,h2,h3⟩:=jx lo hi its.toArray.size
 unfold slicePick
 rw [h1,h2,h3]
 simp only [sliceRange_one,pick_run,List.size_toArray] <;> rfl
def qK2 (K:W.Frag):V->Option Int->Option Int->Hp->VK->Prop:=fun x lo hi H Q => ∃ a xs,x = .ref a∧SqL K H a xs ∧ ∀ p,H p=none->Q (.ref p) (upd H p (.lst (Ys xs lo hi)))
theorem qGE:SlR X (qK2 X.K):=by
 intro pins s σ H x v vl vu lo hi sl Q I rx hs pl pu h
 obtain ⟨a,xs,rfl,hx,q⟩:=h
 cases rx
 obtain ⟨its,r,ht,hz⟩:=I.list hx
 have hlen:=r.length
 refine ⟨"list",_,slot_list_getitem.lookup,ht.isList.typeIs,?_⟩
 refine wpAny_getItem_list_slice ht.isList hs pl pu .none (by simp) ?_ (by rw [List.size_toArray] <;> omega)
 rw [Yx,← hlen]
 refine ⟨.ref s.heap.objs.size,_,I.laid (t':=s.toks) (o := .lst (Ys xs lo hi)) (fun b ob q=>Heap.get?_push_of_some _ q) (Nat.le_refl _) ?_,rfl,q _ (I.hok.fresh (Nat.le_refl _))⟩
 exact ⟨Nat.le_trans (yO xs lo hi) hz,_,0,(r.drop (HT.sIx xs.length 0 lo)).take (HT.sIx xs.length xs.length hi - HT.sIx xs.length 0 lo),Heap.get?_push_size _ rfl⟩
theorem jo:Ws X (.builtin "len") (fun xs H Q => ∃ p ys,xs=[.ref p]∧(SqL X.K H p ys∨SqT X.K H p ys)∧Q (.int ys.length) H):=by
 intro pins s σ H xs us Q I r h
 obtain ⟨p,ys,rfl,hq,q⟩:=h
 obtain ⟨u,rfl,rx⟩:=yJ r
 cases rx
 have hn:=yF
 rcases hq with hq |hq
 ·obtain ⟨its,r',pl,hz⟩:=I.list hq
  have hlen:=r'.length
  exact Calls.call_len_list pl.isList (by simp only [List.size_toArray] <;> omega) ⟨.int ys.length,H,I.tok _,⟨s.toks + 1,by rw [List.size_toArray,hlen]⟩,q⟩
 ·obtain ⟨its,r',pl,hz⟩:=I.tuple hq
  have hlen:=r'.length
  exact len_tuple pl (by simp only [List.size_toArray] <;> omega) ⟨.int ys.length,H,I.tok _,⟨s.toks + 1,by rw [List.size_toArray,hlen]⟩,q⟩
theorem Yw:Ws X (.type "tuple") (fun xs H Q => ∃ p ys,xs=[.ref p]∧((SqL X.K H p ys ∧ ∀ l,H l=none->Q (.ref l) (upd H l (.tup ys)))∨(SqT X.K H p ys∧Q (.ref p) H))):=by
 intro pins s σ H xs us Q I r h
 obtain ⟨p,ys,rfl,h⟩:=h
 obtain ⟨u,rfl,rx⟩:=yJ r
 cases rx
 rcases h with ⟨hq,q⟩ |⟨hq,q⟩
 ·obtain ⟨its,r',pl,hz⟩:=I.list hq
  have hlen:=r'.length
  refine call_tuple_list pl.isList (fun h' kp => ?_) (by simp only [List.size_toArray] <;> omega)
  have I1:Inv X pins σ H { s with heap:=h' }:=I.kept (t':=s.toks) kp
  have I2:Inv X pins σ (upd H h'.objs.size (.tup ys)) { s with heap:=h'.push { cls := .type "tuple",data := .seq its.toArray } } :=
   I1.laid (t':=s.toks) (fun b o e=>Heap.get?_push_of_some _ e) (Nat.le_refl _) (show ObjOk X.prog X.w _ _ _ (.tup ys) from ⟨hz,its,r',IsTup.new _ _⟩)
  exact ⟨.ref h'.objs.size,_,I2,rfl,q _ (I1.hok.fresh (Nat.le_refl _))⟩
 ·obtain ⟨its,r',pl,hz⟩:=I.tuple hq
  exact call_tuple_same pl ⟨.ref p,H,I,rfl,q⟩
def tyV (K:W.Frag) (T:String) (x:V) (H:Hp):Prop:=match x with
 | .str _=>T = "str"
 | .int _=>T = "int"
 | .ref p=>(T = "list" ∧ ∃ xs,SqL K H p xs)∨(T = "tuple" ∧ ∃ o,K.lookup p=some o∧o.cls = .type "tuple" ∧ o.dict=none) ∨
   (T = "dict" ∧ ((∃ kvs,H p=some (.dK kvs)) ∨ ∃ kvs,H p=some (.dT kvs)))∨(T = "set" ∧ ∃ S n,H p=some (.set S n))
 |_=>False
theorem qEQ {pins:List (Addr×Obj)} {σ:St} {H:Hp} {s:Shared} {T:String} {x:V} {v:Value} (I:Inv X pins σ H s) (r:RelV x v) (ty:tyV X.K T x H) :
  s.TypeIs v T ∧ ∀ a,v = .ref a -> ∃ ob,s.heap.get? a=some ob∧ob.dict=none:=by
 cases x with
 |str z =>
  obtain ⟨t,rfl⟩:=r
  cases (show T = "str" from ty)
  exact ⟨typeIs_str s z t,fun _ e=>nomatch e⟩
 |int i =>
  obtain ⟨t,rfl⟩:=r
  cases (show T = "int" from ty)
  exact ⟨typeIs_int s i t,fun _ e=>nomatch e⟩
 |ref p =>
  cases r
  rcases ty with ⟨rfl,xs,hq⟩ |⟨rfl,o,hk,hc,hd⟩ |⟨rfl,hk⟩ |⟨rfl,S,n,hk⟩
  ·obtain ⟨its,_,pl,_⟩:=I.list hq
   refine ⟨pl.isList.typeIs,fun a e => ?_⟩
   cases e
   obtain ⟨o,n,e,c,hd,_⟩:=pl
   exact ⟨o,e,hd⟩
  ·refine ⟨⟨o,I.kIn p o hk,hc⟩,fun a e => ?_⟩
   cases e
   exact ⟨o,I.kIn _ o hk,hd⟩
  ·have z:∃ o,s.heap.get? p=some o∧o.ExactDict:=by
    rcases hk with ⟨kvs,hk⟩ |⟨kvs,hk⟩
    ·obtain ⟨_,_,_,_,o,_,_,e,ex,_⟩:=I.hok p _ hk
     exact ⟨o,e,ex⟩
    ·obtain ⟨_,_,_,_,o,_,_,e,ex,_⟩:=I.hok p _ hk
     exact ⟨o,e,ex⟩
   obtain ⟨o,e,ex⟩:=z
   refine ⟨⟨o,e,ex.1⟩,fun a e2 => ?_⟩
   cases e2
   exact ⟨o,e,ex.2.1⟩
  ·obtain ⟨o,_,_,_,e,ex,_⟩:=I.hok p _ hk
   refine ⟨⟨o,e,ex.1⟩,fun a e2 => ?_⟩
   cases e2
   exact ⟨o,e,ex.2.1⟩
 |_=>exact False.elim ty
def qLZ (K:W.Frag) (T:String) (r:V->List V->Hp->VK->Prop) (to:TE):TE:=fun σ H Q=>to σ H fun x H1=>tyV K T x H1∧r x [] H1 Q
def tBM (K:W.Frag) (T:String) (r:V->List V->Hp->VK->Prop) (to:TE) (t:TA):TE:=fun σ H Q=>to σ H fun x H1=>tyV K T x H1∧t σ H1 fun xs H2=>r x xs H2 Q
variable {o e:Expr} {es:List Expr} {to:TE} {t:TA} {name:Str} {apos cpos:Pos} {T id:String} {r:V->List V->Hp->VK->Prop}
theorem qJM (pa:PlainAttrs T) (slot:Slot T name id) (hty:typeOf (.builtin id)=pure (.type "method_descriptor")) (hm:MtR X id r) (ho:PE X o to)
  (hbase:attributeBase o name X.env (eval o X.env)=eval o X.env:=by rfl) (hline:(apos.endLine==cpos.line)=true:=by rfl):PE X (.Call (.Attribute o name apos) [] [] cpos) (qLZ X.K T r to):=by
 intro pins s σ H Q I h
 refine wpAny_Call_method0_late hbase hline (thn (ho pins s σ H _ I h) fun v s1 ⟨x,H1,I1,r1,ty,q1⟩ => ?_)
 obtain ⟨h1,h2⟩:=qEQ I1 r1 ty
 exact ⟨T,id,pa,slot,hty,h1,h2,Calls.callWith_builtin rfl (PySem.evalArgs_none (hm pins s1 σ H1 x [] v [] Q I1 r1 .nil q1))⟩
theorem qHN (pa:PlainAttrs T) (slot:Slot T name id) (hty:typeOf (.builtin id)=pure (.type "method_descriptor")) (hm:MtR X id r) (ho:PE X o to) (ha:PA X (e::es) t)
  (hbase:attributeBase o name X.env (eval o X.env)=eval o X.env:=by rfl)
  (hfew:((backTo cpos (starEach (e::es) X.env)).all (fun x => !x.1)&&(backToKw cpos (keywordEach [] X.env)).all (fun x=>x.1.isSome)
   && decide ((e::es).length + ([]:List Keyword).length + (if ([]:List Keyword).isEmpty then 0 else 1) < 30))=true:=by rfl)
  (hline:(apos.endLine==cpos.line)=true:=by rfl) (hs:starEach (e::es) X.env=(false,eval e X.env)::starEach es X.env:=by rfl) (hplain:(backTo cpos (starEach es X.env)).any (·.1)=false:=by rfl) :
  PE X (.Call (.Attribute o name apos) (e::es) [] cpos) (tBM X.K T r to t):=by
 intro pins s σ H Q I h
 refine wpAny_Call_method_late hbase hfew hline rfl (thn (ho pins s σ H _ I h) fun v s1 ⟨x,H1,I1,r1,ty,q1⟩ => ?_)
 obtain ⟨h1,h2⟩:=qEQ I1 r1 ty
 refine ⟨T,id,pa,slot,hty,h1,h2,?_⟩
 have hA:=ha cpos pins s1 σ H1 _ I1 q1
 rw [hs] at hA ⊢
 refine Calls.callWith_builtin (by show (false || (backTo cpos (starEach es X.env)).any (·.1))=false;rw [hplain] <;> rfl) (Calls.evalArgs_plain ?_)
 exact thn hA fun us s2 ⟨vs,H2,I2,r2,q2⟩=>hm pins s2 σ H2 x vs v us Q I2 r1 r2 q2
end
end L2
namespace L2
open PySem PySem.Spec PyProof.Rows
def MtM (X:Cx) (id:String) (r:V->List V->Hp->VK->Prop):Prop :=
 ∀ (pins:List (Addr×Obj)) (s:Shared) (σ:St) (H:Hp) (x:V) (xs:List V) (v:Value) (us:List Value) (Q:VK),Inv X pins σ H s->RelV x v->Vals xs us->r x xs H Q ->
  wpAny (model X.prog X.w) X.A (call (.builtin id) (v::us)) (EP X pins σ Q) X.xe s
theorem Vals.one:∀ {x:V} {us:List Value},Vals [x] us -> ∃ u,us=[u]∧RelV x u
 |_,_,.cons r .nil=>⟨_,rfl,r⟩
theorem Vals.zero:∀ {us:List Value},Vals [] us->us=[]
 |_,.nil=>rfl
theorem Vals.dropLast {xs:List V} {us:List Value} (h:Vals xs us):Vals xs.dropLast us.dropLast:=by
 induction h with
 |nil=>exact .nil
 |cons r t ih =>
  cases t with
  |nil=>exact .nil
  |cons q t'=>exact .cons r ih
theorem Vals.rep {xs:List V} {us:List Value} (h:Vals xs us):∀ k:Nat,Vals (List.replicate k xs).flatten (List.replicate k us).flatten
 |0 => .nil
 |k + 1=>by
  rw [List.replicate_succ,List.replicate_succ,List.flatten_cons,List.flatten_cons]
  exact Vals.append h (Vals.rep h k)
theorem qBI {α:Type} (l:List α):l.eraseIdx (l.length - 1)=l.dropLast:=by
 induction l with
 |nil=>rfl
 |cons a r ih =>
  cases r with
  |nil=>rfl
  |cons b r =>
   have e:(a::b::r).length - 1=((b::r).length - 1) + 1:=by
    have h1:(a::b::r).length=r.length + 2:=rfl
    have h2:(b::r).length=r.length + 1:=rfl
    omega
   rw [e,List.eraseIdx_cons_succ,ih]
   all_goals rfl
theorem yD (its:List Value):∀ (k:Nat) (acc:List Value),
  List.foldl (fun x1 x2=>x1++x2) acc.toArray (List.replicate k its.toArray)=(acc++(List.replicate k its).flatten).toArray
 |0,acc=>by simp
 |k + 1,acc=>by
  have e:acc.toArray++its.toArray=(acc++its).toArray:=by simp
  have e2:(acc++its)++(List.replicate k its).flatten=acc++(List.replicate (k + 1) its).flatten:=by
   rw [List.replicate_succ,List.flatten_cons,List.append_assoc]
  rw [← e2,← yD its k (acc++its),← e,List.replicate_succ,List.foldl_cons]
section
variable {X:Cx} {pins:List (Addr×Obj)} {σ:St} {H:Hp} {s:Shared} {l b:Addr} {xs ys zs:List V}
theorem Inv.lset {its its':List Value} {n:Nat} {f:Array Value->Array Value} {t':Nat} (I:Inv X pins σ H s) (hH:H l=some (.lst xs))
  (e:s.heap.get? l=some { cls := .type "list",data := .seq its.toArray n }) (hf:f its.toArray=its'.toArray) (hv:Vals ys its') (hz:ys.length≤sizeLine) :
  Inv X pins σ (upd H l (.lst ys)) { s with heap:=s.heap.update l (Obj.mapSeq f),toks:=t' }:=by
 have q:=PySem.IsL.update e f
 rw [hf] at q
 refine I.write (x:=l) (e:=l) (by rw [hH];exact trivial) (.inl rfl) (fun b' u hb hu=>(Heap.get?_update_other s.heap (Obj.mapSeq f) (Ne.symm hb)).trans hu) ⟨_,q⟩ ?_
 exact ⟨hz,its',_,hv,q⟩
theorem Inv.lnew {its:List Value} {t':Nat} (I:Inv X pins σ H s) (hv:Vals ys its) (hz:ys.length≤sizeLine) :
  Inv X pins σ (upd H s.heap.objs.size (.lst ys)) { s with heap:=s.heap.push { cls := .type "list",data := .seq its.toArray },toks:=t' } :=
 I.laid (fun _ _ q=>Heap.get?_push_of_some _ q) (Nat.le_refl _) ⟨hz,its,0,hv,Heap.get?_push_size _ rfl⟩
theorem Inv.fresh (I:Inv X pins σ H s):H s.heap.objs.size=none:=I.hok.fresh (Nat.le_refl _)
theorem Inv.lstM (I:Inv X pins σ H s) (hH:H l=some (.lst xs)):xs.length≤sizeLine ∧ ∃ (its:List Value) (n:Nat),Vals xs its∧xs.length=its.length∧s.heap.get? l=some { cls := .type "list",data := .seq its.toArray n }:=by
 obtain ⟨z,its,n,r,e⟩:=I.hok l _ hH
 exact ⟨z,its,n,r,r.length,e⟩
theorem qDU {n:Nat} (h:n≤sizeLine):Builtin.List.listTooLong n=false:=by
 unfold Builtin.List.listTooLong
 exact decide_eq_false (by omega)
end
section
variable {X:Cx}
def qGQ:V->List V->Hp->VK->Prop:=fun x vs H Q => ∃ l xs y,x = .ref l∧vs=[y]∧H l=some (.lst xs)∧xs.length < sizeLine∧Q .non (upd H l (.lst (xs++[y])))
theorem jN:MtM X "list.append" qGQ:=by
 intro pins s σ H x vs v us Q I rx rv h
 obtain ⟨l,xs,y,rfl,rfl,hH,hz,q⟩:=h
 cases rx
 obtain ⟨u,rfl,ru⟩:=rv.one
 obtain ⟨z,its,n,r,hl,e⟩:=I.lstM hH
 refine call_meets F.slot_list_append ⟨_,e,rfl⟩ F.entry_list_append (F.args_list_append_2 _ _) (PySem.list_append l its.toArray n u (by rw [List.size_toArray];omega)) ⟨e,?_⟩
 refine ⟨.non,_,I.lset (its':=its++[u]) hH e (by simp) (r.append (.cons ru .nil)) ?_,rfl,q⟩
 rw [List.length_append,List.length_singleton]
 omega
def qLB:V->List V->Hp->VK->Prop:=fun x vs H Q => ∃ l xs y,x = .ref l∧vs=[]∧H l=some (.lst xs)∧xs[xs.length - 1]? = some y∧Q y (upd H l (.lst xs.dropLast))
theorem qHf:MtM X "list.pop" qLB:=by
 intro pins s σ H x vs v us Q I rx rv h
 obtain ⟨l,xs,y,rfl,rfl,hH,hy,q⟩:=h
 cases rx
 have hus:=rv.zero
 subst hus
 obtain ⟨z,its,n,r,hl,e⟩:=I.lstM hH
 obtain ⟨u,hu,ru⟩:=r.get hy
 have hy':its.toArray[its.toArray.size - 1]? = some u:=by
  show its.toArray[its.length - 1]? = some u
  rw [← Array.getElem?_toList,← hl]
  exact hu
 refine call_meets F.slot_list_pop ⟨_,e,rfl⟩ F.entry_list_pop (F.args_list_pop_1 _) (MeetsSeq.list_pop_last l its.toArray n u hy' (by rw [List.size_toArray];omega)) ⟨e,?_⟩
 refine ⟨y,_,I.lset (its':=its.dropLast) hH e ?_ r.dropLast ?_,ru,q⟩
 ·show its.toArray.eraseIdxIfInBounds (its.toArray.size - 1)=its.dropLast.toArray
  rw [List.size_toArray,List.eraseIdxIfInBounds_toArray,qBI]
 ·rw [List.length_dropLast]
  omega
def qLV:R2:=fun x y H Q => ∃ l k xs,x = .ref l∧y = .int k∧H l=some (.lst xs) ∧ -(2 ^ 63)≤k∧k < 2 ^ 63∧xs.length * k.toNat≤sizeLine ∧
 ∀ p,H p=none->Q (.ref p) (upd H p (.lst (List.replicate k.toNat xs).flatten))
theorem JQ {α:Type} (xs:List α) (k:Nat):(List.replicate k xs).flatten.length=k * xs.length:=by
 induction k with
 |zero=>simp
 |succ k ih=>rw [List.replicate_succ,List.flatten_cons,List.length_append,ih,Nat.succ_mul,Nat.add_comm]
theorem qJg:OpR X (binaryOp .Mult) qLV:=by
 intro pins s σ H x y v u Q I rx ry h
 obtain ⟨l,k,xs,rfl,rfl,hH,h1,h2,hz,q⟩:=h
 cases rx
 obtain ⟨t,rfl⟩:=ry
 obtain ⟨z,its,n,r,hl,e⟩:=I.lstM hH
 have hlen:its.toArray.size * k.toNat≤sizeLine:=by rw [List.size_toArray,← hl];exact hz
 have hcap:¬ its.toArray.size * k.toNat > (2 ^ 63 - 1) / 8:=by
  have:(sizeLine:Nat)≤(2 ^ 63 - 1) / 8:=by decide
  omega
 have hfit:¬ (!Builtin.List.listFitsIndex k)=true:=by
  rw [fitsIndex_both h1 h2]
  exact Bool.false_ne_true
 have hlong:¬ Builtin.List.listTooLong (its.toArray.size * k.toNat)=true:=by
  rw [qDU hlen]
  exact Bool.false_ne_true
 have hnew:List.foldl (fun x1 x2=>x1++x2) #[] (List.replicate (if its.toArray.isEmpty=true then 0 else k.toNat) its.toArray)=(List.replicate k.toNat its).flatten.toArray:=by
  have f0:∀ m:Nat,List.foldl (fun x1 x2=>x1++x2) #[] (List.replicate m its.toArray)=(List.replicate m its).flatten.toArray:=fun m=>by
   have:=yD its m []
   rw [List.nil_append] at this
   exact this
  rw [f0]
  cases its with
  |nil=>simp
  |cons a r'=>rw [if_neg (by simp)]
 refine wpAny_binaryOp_repeat_ref (T := "list") (U := "int") (by decide) ⟨_,e,rfl⟩ (fun s'=>typeIs_int s' k t) noFill_list_mul F.fills_int_mul F.slot_int_rmul repeat_list F.slot_int_index.lookup
  (call_meets F.slot_int_rmul (typeIs_int s k t) F.entry_int_rmul (F.args_int_rmul_2 _ _) (int___rmul___int_list k t l its.toArray n)
   ⟨e,rfl,⟨_,e,rfl⟩,call_meets F.slot_list_mul ⟨_,e,rfl⟩ F.entry_list_mul (F.args_list_mul_2 _ _) (AutoListH.list___mul___list_int_3 l its.toArray n k t hfit hcap hlong) ⟨e,?_⟩⟩)
 rw [hnew]
 exact ⟨.ref _,_,I.lnew (t':=s.toks) (r.rep k.toNat) (by rw [JQ,Nat.mul_comm];exact hz),rfl,q _ I.fresh⟩
end
end L2
namespace Att
open PySem PySem.W PySem.Calls PyProof.Rows
theorem yS {P:Params} {h:Heap}:∀ (ns:List Int) (vs:List Value),WellAll P h vs (ns.map WData.int)->IntsAre vs ns:=by
 intro ns
 induction ns with
 |nil =>
  intro vs w
  rw [List.map_nil] at w
  cases w
  exact .nil
 |cons n ns ih =>
  intro vs w
  rw [List.map_cons] at w
  cases w with
  |cons a b =>
   cases a
   exact .cons _ _ (ih _ b)
theorem qCe {l:OpenLaw} {n:Nat} (hn:l.most=some n) {P:Params} {h:Heap} {args:List WData} {vals:List Value}
  (hpre:l.row.toRowW.claim.pre args=true) (hwl:WellAll P h vals args) :
  ∃ a vs ns,vals=[Value.ref a]∧args=[WData.list (ns.map WData.int)]∧h.get? a=some { cls := .type "list",data := .seq vs.toArray }∧IntsAre vs ns∧ns.length≤n:=by
 have hsh:WShape.hasAll [] args [.list .int]=true:=(pre_splitW hpre).1
 have hc:l.pre.holds [] { args:=args }=true:=(pre_splitW hpre).2
 obtain ⟨d,r,rfl,h1,h2⟩:=hasAllW_cons hsh
 obtain rfl:=hasAllW_nil h2
 obtain ⟨xs,rfl,h3⟩:=hasW_list h1
 obtain ⟨ns,rfl⟩:=items_int h3
 have hlen:ns.length≤n:=by
  unfold OpenLaw.pre at hc
  have h4:(WTm.not (.lt (.lit (.int (n:Int))) (.len (.arg 0)))).holds [] { args:=[.list (ns.map .int)] }=true:=by
   have h4:=(holds_andW hc).1
   rw [hn] at h4
   exact h4
  have h5:=condW_of h4 (w_not (w_lt w_lit (w_len_list (w_arg rfl))))
  rw [List.length_map] at h5
  refine Nat.le_of_not_lt fun q => ?_
  have q':(n:Int) < ((ns.length:Nat):Int):=by omega
  first
   |(rw [decide_eq_true q'] at h5;exact absurd h5 (by decide))
   |(simp at h5;omega)
 cases hwl with
 |cons w1 w2 =>
  cases w2
  cases w1 with
  |list ho hall=>exact ⟨_,_,ns,rfl,rfl,ho,yS ns _ hall,hlen⟩
theorem qCw (l:OpenLaw) (args:List WData):l.row.toRowW.claim.post args (.bool true) args=true :=
 postW_of (r:=l.row.toRowW) (X:=(true==true))
  (show WShape.has [] (.bool true) .bool=true by first |rfl |decide |simp [WShape.has,WShape.arms,WShape.armsAll])
  (show (WTm.eq .res (.lit (.bool true))).value [] { args:=args,res:=some (.bool true),after:=args }=some (.bool (true==true)) from w_eq_bool (w_res rfl) w_lit) rfl
end Att
namespace L2
open PySem PySem.Spec PyProof.Rows
theorem Y9:∀ {vs:List Value} {ns:List Int},IntsAre vs ns->Vals (ns.map V.int) vs
 |_,_,.nil => .nil
 |_,_,.cons n t h => .cons ⟨t,rfl⟩ (Y9 h)
def qH3 (H:Hp):Prop := ∀ b,H b=none ∨ ∃ o xs,H b=some (.frz o (.lst xs))
theorem qEY {P:Program} {w:World} {K:W.Frag} {mg mb:Str->Option Value} {CX:CXT} {k:Nat} {fa a:Addr} {fd:FuncData} {x:Str} {sp:Sp} {s₁:Shared} {vs:List Value} {ns:List Int}
  (KX:K.In s₁.heap) (hns:s₁.heap.Ns mainGlobals mg) (hb:s₁.heap.Ns builtinsNs mb) (hbb:∀ x:Str,x ≠ "__name__" -> mb x=bootBuiltins x) (hlim:s₁.heap.NoLimit) (hg:s₁.gens = #[])
  (ha:s₁.heap.get? a=some { cls := .type "list",data := .seq vs.toArray }) (hi:IntsAre vs ns) (hl:ns.length≤sizeLine) (hr:Room k callerA)
  (F:∀ base:Heap,K.In base->base.Ns mainGlobals mg->FnOk P w K mg base CX k fa fd [x] sp) (hbind:∀ (s:Shared) (u:Value),BindsTo s fd ⟨[u],[]⟩ [(x,u)])
  (hsp:∀ H:Hp,qH3 H->SqL K H a (ns.map V.int)->sp [.ref a] H (fun v _=>v = .bl true) fun _ _ _=>False)
  (hCX:∀ H e s',CX [] H s₁ (fun _ _ _=>False) e s'->False) :
  codeAny (model P w) callerA (.call (.ref fa) ⟨[.ref a],[]⟩) (fun r s'=>r = .ok (.ret (.bool true))∧OldK s₁.heap s'.heap∧s'.os=s₁.os∧AllBare s'.gens) s₁:=by
 have rv:=Y9 hi
 have lenV:=hi.length
 -- from an abstract heap in which nothing but the script may be tracked
 have core:∀ H:Hp,qH3 H->SqL K H a (ns.map V.int)->HOk P w H s₁.heap->(∀ b,H b≠none->b=a)->(H a≠none->K.lookup a=none) ->
   codeAny (model P w) callerA (.call (.ref fa) ⟨[.ref a],[]⟩) (fun r s'=>r = .ok (.ret (.bool true))∧OldK s₁.heap s'.heap∧s'.os=s₁.os∧AllBare s'.gens) s₁:=by
  intro H hO hS hok hA hK
  have base_of:∀ {b:Addr} {o:Obj},s₁.heap.get? b=some o->H b=none->(jd s₁.heap H).get? b=some o:=fun e n=>qFD e n
  have noA:∀ {b:Addr} {o:Obj} {es:Array DictEntry} {ep:Nat},s₁.heap.get? b=some o->o.data = .dict es ep->H b=none:=fun {b o es ep} e d=>by
   cases q:H b with
   |none=>rfl
   |some u =>
    have e':b=a:=hA b (by rw [q];simp)
    subst e'
    rw [ha] at e;cases e
    have d':Data.seq vs.toArray _=Data.dict es ep:=d
    cases d'
  have nsK:∀ {b:Addr} {m:Str->Option Value},s₁.heap.Ns b m->(jd s₁.heap H).Ns b m:=fun {b m} ⟨o,es,ep,e,d,r⟩=>⟨o,es,ep,base_of e (noA e d),d,r⟩
  have hKb:K.In (jd s₁.heap H):=fun b o e=>base_of (KX b o e) (by
   cases q:H b with
   |none=>rfl
   |some u =>
    have e':b=a:=hA b (by rw [q];simp)
    subst e'
    rw [hK (by rw [q];simp)] at e;cases e)
  have hM:Mod K mg (jd s₁.heap H):=⟨hKb,nsK hns,⟨mb,nsK hb,hbb⟩,let ⟨mc,h1,h2⟩:=hlim;⟨mc,nsK h1,h2⟩⟩
  have e0:Env0 P w K mg (jd s₁.heap H) callerA [] s₁ H:=⟨rfl,hM,fun b o e=>qGR e,Nat.le_of_eq (qDE _ _),trivial,fun b hb=>absurd (show b∈([]:List Addr) from hb) (by simp),hok,.of_eq hg,HndH.none rfl⟩
  refine codeAny_mono ((F _ hKb (nsK hns)).run callerA [] s₁ H ⟨[.ref a],[]⟩ [.ref a] [.ref a] _ _ hr e0 (hbind s₁ (.ref a)) (.cons rfl .nil) (hsp H hO hS)) fun r s' h => ?_
  cases r with
  |error e=>exact (hCX H e s' h).elim
  |ok fl =>
   cases fl with
   |next=>exact False.elim h
   |brk=>exact False.elim h
   |cont=>exact False.elim h
   |ret u =>
    obtain ⟨v,H',os,bare,un,hok',r',q⟩:=h
    have q':v = .bl true:=q
    subst q'
    obtain rfl:u=Value.bool true:=r'
    refine ⟨rfl,OldK.of_keep fun b o e => ?_,os,bare⟩
    cases q:H b with
    |none=>exact un.keep b o e q (by intro z;exact absurd (show b∈([]:List Addr) from z) (by simp)) (by simp)
    |some u =>
     rcases hO b with z |⟨ob,xs,z⟩
     ·rw [q] at z;cases z
     ·have z2:=un.frzs b ob _ z
      obtain ⟨e1,_⟩:=hok b _ z
      obtain ⟨e2,_⟩:=hok' b _ z2
      rw [e] at e1;cases e1
      exact e2
 cases hk:K.lookup a with
 |some o =>
  -- the script is one of the module's own objects
  have e:=KX a o hk
  rw [ha] at e
  cases e
  refine core (fun _=>none) (fun _ => .inl rfl) (.inr ⟨_,vs.toArray,_,hk,rfl,rfl,rfl,by rw [List.size_toArray,lenV];exact hl,by simpa using rv⟩) (fun b u z=>by have z':(none:Option HO)=some u:=z;cases z') (fun b z=>absurd rfl z) fun z=>absurd rfl z
 |none =>
  refine core (fun b=>if b=a then some (.frz { cls := .type "list",data := .seq vs.toArray } (.lst (ns.map V.int))) else none) (fun b => ?_) (.inl (.inr ⟨{ cls := .type "list",data := .seq vs.toArray },if_pos rfl⟩)) (fun b u z => ?_) (fun b z => ?_) fun _=>hk
  ·by_cases hb:b=a
   ·exact .inr ⟨_,_,if_pos hb⟩
   ·exact .inl (if_neg hb)
  ·by_cases hb:b=a
   ·have z':=(if_pos hb).symm.trans z
    cases z'
    subst hb
    exact ⟨ha,by rw [List.length_map];exact hl,vs,_,rv,ha⟩
   ·have z':=(if_neg hb).symm.trans z
    cases z'
  ·by_cases hb:b=a
   ·exact hb
   ·exact absurd (if_neg hb) z
end L2
namespace L2
open PySem PySem.Spec PyProof.Rows
end L2
namespace L2
open PySem PySem.Spec PyProof.Rows
def qc (s:Stmt):Arguments:=match s with
 | .FunctionDef _ a _ _ _ _ _ _ _ _=>a
 |_=>{ posonlyargs:=[],args:=[],vararg:=none,kwonlyargs:=[],kw_defaults:=[],kwarg:=none,defaults:=[] }
def qZ (s:Stmt):List Stmt:=match s with
 | .FunctionDef _ _ b _ _ _ _ _ _ _=>b
 |_=>[]
def qK (s:Stmt):Scope:=match s with
 | .FunctionDef _ _ _ _ _ _ sc _ _ _=>sc
 |_=>{ kind := .function,names:=[],isGenerator:=false,isCoroutine:=false }
abbrev E0:XK:=fun _ _ _=>False
structure Fun (K:W.Frag) (x qual:Str) (st:Stmt) (f:Addr) (fd:FuncData):Prop where
 ex:∃ (oc:Value) (od:Option Addr) (kV doc pm:Value) (an:Option Addr) (cdv ct:Value) (osl:Array (Option Value)),
  fd=PySem.W.fnOf x qual (qc st) (qZ st) (qK st) .none kV doc pm an cdv ct∧K.lookup f=some ⟨oc,od,.func fd,osl⟩∧PySem.W.codeIn K cdv qual=true
 kp:PySem.W.keepIn K (.ref f)=true
section
variable {P:Program} {w:World} {K:W.Frag} {mg:Str->Option Value} {base:Heap}
theorem Fun.binds {x qual:Str} {st:Stmt} {f:Addr} {fd:FuncData} {ps:List Str} (F:Fun K x qual st f fd)
  (h:∀ (kV doc pm:Value) (an:Option Addr) (cdv ct:Value) (us:List Value),us.length=ps.length->bindArgs (PySem.W.fnOf x qual (qc st) (qZ st) (qK st) .none kV doc pm an cdv ct) ⟨us,[]⟩=pure (ps.zip us)):Binds K fd ps []:=by
 obtain ⟨oc,od,kV,doc,pm,an,cdv,ct,osl,rfl,lk,hcd⟩:=F.ex
 exact .all (h kV doc pm an cdv ct)
theorem qx {x qual:Str} {st:Stmt} {f:Addr} {oc:Value} {od an:Option Addr} {osl:Array (Option Value)} {kV doc pm cdv ct:Value} (l:K.lookup f=some ⟨oc,od,.func (PySem.W.fnOf x qual (qc st) (qZ st) (qK st) .none kV doc pm an cdv ct),osl⟩)
  (c:PySem.W.codeIn K cdv qual=true) (k:PySem.W.keepIn K (.ref f)=true):Fun K x qual st f (PySem.W.fnOf x qual (qc st) (qZ st) (qK st) .none kV doc pm an cdv ct):=⟨⟨oc,od,kV,doc,pm,an,cdv,ct,osl,rfl,l,c⟩,k⟩
end
section
variable {X:Cx}
theorem pv (i:Nat) {x:Str} {pos:Pos} (hN:X.N[i]? = some x:=by rfl) (hv:Vis X.env.scope x:=by first |exact Or.inl rfl |exact Or.inr (Or.inl rfl) |exact Or.inr (Or.inr rfl)) (hd:(x==("__debug__":Str))=false:=by decide)
  (hcd:(x==("__classdict__":Str))=false:=by decide):PE X (.Name x pos) (qJZ i):=qIO hN hv hd hcd
end
theorem qBa {A B:Prop} (h:B):if false=true then A else B:=by
 rw [if_neg Bool.false_ne_true]
 exact h
theorem qBQ {A B:Prop} (h:A):if true=true then A else B:=by
 rw [if_pos rfl]
 exact h
def Same (H H':Hp):Prop := ∀ b o,H b=some o->H' b=some o
theorem Same.refl (H:Hp):Same H H:=fun _ _ h=>h
end L2
end
section
namespace L2
open PySem PySem.Spec PyProof.Rows
section
variable {κ:Type} [DecidableEq κ]
def ZT (kvs:List (κ×V)) (k:κ):Option V:=(kvs.find? fun kv=>decide (kv.1=k)).map (·.2)
def ZV (kvs:List (κ×V)) (k:κ) (v:V):List (κ×V) :=
 if (kvs.any fun kv=>decide (kv.1=k))=true then kvs.map (fun kv=>if kv.1=k then (kv.1,v) else kv) else kvs++[(k,v)]
theorem Yg {p:κ×V} {r:List (κ×V)} {k:κ} (e:p.1=k):ZT (p::r) k=some p.2:=by simp [ZT,List.find?_cons,e]
theorem YH {p:κ×V} {r:List (κ×V)} {k:κ} (e:¬ p.1=k):ZT (p::r) k=ZT r k:=by simp [ZT,List.find?_cons,e]
theorem qAH (k:κ):∀ kvs:List (κ×V),(kvs.any fun kv=>decide (kv.1=k))=(ZT kvs k).isSome
 |[]=>rfl
 |p::r=>by
  rw [List.any_cons]
  by_cases e:p.1=k
  ·simp only [Yg e,decide_eq_true e,Bool.true_or,Option.isSome_some]
  ·rw [YH e,decide_eq_false e,Bool.false_or];exact qAH k r
theorem yK (kvs:List (κ×V)) (k:κ) (v:V):(ZV kvs k v).length≤kvs.length + 1:=by
 unfold ZV
 split
 ·rw [List.length_map];omega
 ·rw [List.length_append,List.length_cons,List.length_nil];omega
theorem RelO.isSome_eq {o:Option V} {u:Option Value} (r:RelO o u):o.isSome=u.isSome:=by
 cases o with
 |none=>cases u with
  |none=>rfl
  |some _=>exact (show False from r).elim
 |some _=>cases u with
  |none=>exact (show False from r).elim
  |some _=>rfl
theorem RelO.getD {o:Option V} {u:Option Value} {d:V} {d':Value} (r:RelO o u) (rd:RelV d d'):RelV (o.getD d) (u.getD d'):=by
 cases o with
 |none=>cases u with
  |none=>exact rd
  |some _=>exact (show False from r).elim
 |some _=>cases u with
  |none=>exact (show False from r).elim
  |some _=>exact r
theorem KV.val {kvs:List (κ×V)} {vs:List (κ×Value)} (r:KV kvs vs) (k:κ):RelO (ZT kvs k) (valueAt vs k):=by
 unfold KV at r
 induction r with
 |nil=>exact True.intro
 | @cons p q ps qs h t ih =>
  obtain ⟨h1,h2⟩:=h
  by_cases e:p.1=k
  ·have e':q.1=k:=h1.symm.trans e
   have b:valueAt (q::qs) k=some q.2:=by simp [valueAt,List.find?_cons,e']
   rw [Yg e,b];exact h2
  ·have e':¬ q.1=k:=fun z=>e (h1.trans z)
   have b:valueAt (q::qs) k=valueAt qs k:=by simp [valueAt,List.find?_cons,e']
   rw [YH e,b];exact ih
theorem KV.any {kvs:List (κ×V)} {vs:List (κ×Value)} (r:KV kvs vs) (k:κ):(kvs.any fun kv=>decide (kv.1=k))=vs.any fun kv=>decide (kv.1=k):=by
 unfold KV at r
 induction r with
 |nil=>rfl
 |cons h t ih=>rw [List.any_cons,List.any_cons,ih,h.1]
theorem KV.repl {kvs:List (κ×V)} {vs:List (κ×Value)} (r:KV kvs vs) (k:κ) {y:V} {u:Value} (ry:RelV y u) :
  KV (kvs.map fun kv=>if kv.1=k then (kv.1,y) else kv) (vs.map fun kv=>if kv.1=k then (kv.1,u) else kv):=by
 unfold KV at r ⊢
 induction r with
 |nil=>exact .nil
 | @cons p q ps qs h t ih =>
  rw [List.map_cons,List.map_cons]
  refine .cons ?_ ih
  obtain ⟨h1,h2⟩:=h
  by_cases e:p.1=k
  ·rw [if_pos e,if_pos (h1.symm.trans e)];exact ⟨h1,ry⟩
  ·rw [if_neg e,if_neg (fun z=>e (h1.trans z))];exact ⟨h1,h2⟩
theorem KV.put {kvs:List (κ×V)} {vs:List (κ×Value)} (r:KV kvs vs) (k:κ) {y:V} {u:Value} (ry:RelV y u):KV (ZV kvs k y) (stored vs k u):=by
 unfold ZV stored
 rw [r.any k]
 by_cases e:(vs.any fun kv=>decide (kv.1=k))=true
 ·rw [if_pos e,if_pos e];exact r.repl k ry
 ·rw [if_neg e,if_neg e];exact Paired.snoc r ⟨rfl,ry⟩
theorem KV.length {kvs:List (κ×V)} {vs:List (κ×Value)} (r:KV kvs vs):kvs.length=vs.length:=Paired.length r
end
theorem qCM {P:Program} {w:World} {k:Key} {u:Value} (r:RelV (kV k) u):(Qe P w).is k u=true:=by
 cases k with
 |inl i=>obtain ⟨t,e⟩:=(show ∃ t,u=Value.int i t from r);subst e;exact qAO P w i t
 |inr x=>obtain ⟨t,e⟩:=(show ∃ t,u=Value.str x t from r);subst e;exact J1 P w x t
theorem jB {P:Program} {w:World}:∀ {ks:List Key} {us:List Value},Vals (ks.map kV) us->ItemsAre (Qe P w) ks us
 |[],_,r=>by rw [List.map_nil] at r;cases r;exact .nil
 |k::ks,_,r=>by
  rw [List.map_cons] at r
  cases r with
  |cons h t=>exact .cons (qCM h) (jB t)
abbrev KT (H:Hp):List (List Key×V)->List (List Key×Addr×Value)->Prop:=Paired fun p q=>p.1=q.1∧H q.2.1=some (.tup (p.1.map kV))∧RelV p.2 q.2.2
theorem KT.val {H:Hp} {kvs:List (List Key×V)} {xs:List (List Key×Addr×Value)} (r:KT H kvs xs) (k:List Key):RelO (ZT kvs k) ((atKey xs k).map (·.2)):=by
 induction r with
 |nil=>exact True.intro
 | @cons p q ps qs h t ih =>
  obtain ⟨h1,_,h2⟩:=h
  by_cases e:p.1=k
  ·have e':q.1=k:=h1.symm.trans e
   have b:atKey (q::qs) k=some q.2:=by simp [atKey,List.find?_cons,e']
   rw [Yg e,b];exact h2
  ·have e':¬ q.1=k:=fun z=>e (h1.trans z)
   have b:atKey (q::qs) k=atKey qs k:=by simp [atKey,List.find?_cons,e']
   rw [YH e,b];exact ih
theorem KT.repl {H:Hp} {kvs:List (List Key×V)} {xs:List (List Key×Addr×Value)} (r:KT H kvs xs) (k:List Key) {y:V} {u:Value} (ry:RelV y u) :
  KT H (kvs.map fun kv=>if kv.1=k then (kv.1,y) else kv) (xs.map (putAt k u)):=by
 induction r with
 |nil=>exact .nil
 | @cons p q ps qs h t ih =>
  rw [List.map_cons,List.map_cons]
  refine .cons ?_ ih
  obtain ⟨h1,h2,h3⟩:=h
  unfold putAt
  by_cases e:p.1=k
  ·rw [if_pos e,if_pos (h1.symm.trans e)];exact ⟨h1,h2,ry⟩
  ·rw [if_neg e,if_neg (fun z=>e (h1.trans z))];exact ⟨h1,h2,h3⟩
theorem KT.put {H:Hp} {kvs:List (List Key×V)} {xs:List (List Key×Addr×Value)} (r:KT H kvs xs) (k:List Key) {b:Addr} {y:V} {u:Value} (hb:H b=some (.tup (k.map kV))) (ry:RelV y u) :
  KT H (ZV kvs k y) (storedH xs k b u):=by
 have e:(kvs.any fun kv=>decide (kv.1=k))=(atKey xs k).isSome:=by
  rw [qAH,(r.val k).isSome_eq,Option.isSome_map]
 unfold ZV storedH
 rw [e]
 by_cases q:(atKey xs k).isSome=true
 ·rw [if_pos q,if_pos q];exact r.repl k ry
 ·rw [if_neg q,if_neg q];exact Paired.snoc r ⟨rfl,hb,ry⟩
theorem KT.keeps {H H':Hp} {kvs:List (List Key×V)} {xs:List (List Key×Addr×Value)} (r:KT H kvs xs) (ht:∀ b ys,H b=some (.tup ys)->H' b=some (.tup ys)):KT H' kvs xs :=
 Paired.mapP r fun _ _ z=>⟨z.1,ht _ _ z.2.1,z.2.2⟩
section
variable {P:Program} {w:World} {H:Hp} {h:Heap} {a:Addr}
theorem qHL {u:HO} (ok:HOk P w H h) (e:Rd H a u):ObjOk P w H h a u:=e.ok ok
theorem Jm {kvs:List (Key×V)} (ok:HOk P w H h) (e:Rd H a (.dK kvs)):kvs.length≤sizeLine∧(a==sysModules)=false ∧ ∃ vs,KV kvs vs∧h.DictOf (Qe P w) a vs :=
 show ObjOk P w H h a (.dK kvs) from qHL ok e
theorem qJ6 {kvs:List (Key×V)} (ok:HOk P w H h) (e:H a=some (.dK kvs)):kvs.length≤sizeLine∧(a==sysModules)=false ∧ ∃ vs,KV kvs vs∧h.DictOf (Qe P w) a vs:=Jm ok (.inl e)
theorem YV {ks:List Key} (ok:HOk P w H h) (e:H a=some (.tup (ks.map kV))):(tupleKind (Qe P w)).is h ks a:=by
 obtain ⟨_,its,r,o,h1,h2,n,h3⟩:=(show ObjOk P w H h a (.tup (ks.map kV)) from ok a _ e)
 exact ⟨o,its.toArray,n,h1,h2,h3,by simpa using jB r⟩
theorem qAX {kvs:List (List Key×V)} (ok:HOk P w H h) (e:Rd H a (.dT kvs)):kvs.length≤sizeLine∧(a==sysModules)=false ∧
  ∃ xs,KT H kvs xs∧h.DictOfH (tupleKind (Qe P w)) a xs:=by
 obtain ⟨z,y,xs,r,o,es,ep,h1,h2,h3,h4,h5⟩:=(show ObjOk P w H h a (.dT kvs) from qHL ok e)
 refine ⟨z,y,xs,r,o,es,ep,h1,h2,h3,h4,fun x hx => ?_,h5⟩
 have all:∀ {l:List (List Key×V)} {m:List (List Key×Addr×Value)},KT H l m -> ∀ x∈m,(tupleKind (Qe P w)).is h x.1 x.2.1:=by
  intro l m q
  induction q with
  |nil=>intro x hx;exact nomatch hx
  | @cons p q ps qs hq t ih =>
   intro x hx
   rcases List.mem_cons.mp hx with e |hx
   ·subst e
    exact YV ok (by rw [← hq.1];exact hq.2.1)
   ·exact ih x hx
 exact all r x hx
theorem qHJ {kvs:List (List Key×V)} (ok:HOk P w H h) (e:H a=some (.dT kvs)):kvs.length≤sizeLine∧(a==sysModules)=false ∧
  ∃ xs,KT H kvs xs∧h.DictOfH (tupleKind (Qe P w)) a xs:=qAX ok (.inl e)
end
def qFR (H:Hp) (a:Addr) (y:V) (r:Option V):Prop :=
 (∃ kvs k,Rd H a (.dK kvs)∧y=kV k∧r=ZT kvs k) ∨ ∃ kvs k b,Rd H a (.dT kvs)∧y = .ref b∧H b=some (.tup (k.map kV))∧r=ZT kvs k
def DPut (H:Hp) (a:Addr) (y v:V) (H':Hp):Prop :=
 (∃ kvs k,H a=some (.dK kvs)∧y=kV k∧kvs.length < sizeLine∧H'=upd H a (.dK (ZV kvs k v))) ∨
 ∃ kvs k b,H a=some (.dT kvs)∧y = .ref b∧H b=some (.tup (k.map kV))∧kvs.length < sizeLine∧H'=upd H a (.dT (ZV kvs k v))
theorem DPut.t {H:Hp} {a b:Addr} {kvs:List (List Key×V)} {k:List Key} {v:V} (e:H a=some (.dT kvs)) (eb:H b=some (.tup (k.map kV))) (hl:kvs.length < sizeLine) :
  DPut H a (.ref b) v (upd H a (.dT (ZV kvs k v))) := .inr ⟨kvs,k,b,e,rfl,eb,hl,rfl⟩
section
variable {X:Cx} {pins:List (Addr×Obj)} {σ:St} {H:Hp} {s:Shared} {a:Addr} {y v:V} {u r:Value} {o:Option V} {A:Around} {E:Value->Shared->Prop}
theorem Inv.big (I:Inv X pins σ H s):sysModules < s.heap.objs.size:=by
 have h:mainGlobals < s.heap.objs.size:=(I.mod.glob.keeps I.bk).lt
 exact Nat.lt_trans (by decide) h
theorem qCk {Q:Value->Shared->Prop} (hu:A.units + 1 < cLine) (I:Inv X pins σ H s) (g:qFR H a y (some v)) (ry:RelV y u) (h:∀ w' s',Inv X pins σ H s'->RelV v w'->Q w' s') :
  wpAny (model X.prog X.w) A (getItem (.ref a) u) Q E s:=by
 rcases g with ⟨kvs,k,e,ey,l⟩ |⟨kvs,k,b,e,ey,eb,l⟩
 ·subst ey
  obtain ⟨z,hd,vs,rel,dd⟩:=Jm I.hok e
  obtain ⟨w',hw,rw'⟩:=RelO.some_of (v:=v) (o:=valueAt vs k) (by rw [l];exact rel.val k)
  exact wpAny_getItem_of (qCM ry) dd.mapOf hw (h w' _ (I.tok _) rw')
 ·subst ey
  cases (show u=Value.ref b from ry)
  obtain ⟨z,hd,xs,rel,dd⟩:=qAX I.hok e
  obtain ⟨w',hw,rw'⟩:=RelO.some_of (v:=v) (o:=(atKey xs k).map (·.2)) (by rw [l];exact rel.val k)
  obtain ⟨p,hp,hp2⟩:=Option.map_eq_some_iff.mp hw
  refine wpAny_getItem_heap (tupleKind_room_in1 hu) (YV I.hok eb) dd hp ?_
  rw [hp2]
  exact h w' _ (I.tok _) rw'
theorem JK {h':Heap} {t':Nat} {ob:HO} (I:Inv X pins σ H s) (mu:Mut (H a)) (hs:Heap.SameBut a s.heap h') (he:∃ q,h'.get? a=some q) (new:ObjOk X.prog X.w (upd H a ob) h' a ob) :
  Inv X pins σ (upd H a ob) { s with heap:=h',toks:=t' } :=
 I.write (x:=a) (e:=a) mu (.inl rfl) (fun b q hb z=>(hs.2 b hb).trans z) he new
theorem qID {P:Program} {w:World} {H':Hp} {h':Heap} {kvs:List (Key×V)} {vs:List (Key×Value)} (z:kvs.length≤sizeLine) (hd:(a==sysModules)=false) (rel:KV kvs vs) (dd:h'.DictOf (Qe P w) a vs) :
  ObjOk P w H' h' a (.dK kvs):=⟨z,hd,vs,rel,dd⟩
theorem qCg {H':Hp} {Q:Unit->Shared->Prop} (hu:A.units + 1 < cLine) (I:Inv X pins σ H s) (g:DPut H a y v H') (ry:RelV y u) (rv:RelV v r) (h:∀ s',Inv X pins σ H' s'->Q () s') :
  wpAny (model X.prog X.w) A (setItem (.ref a) u r) Q E s:=by
 rcases g with ⟨kvs,k,e,ey,l,eH⟩ |⟨kvs,k,b,e,ey,eb,l,eH⟩
 ·subst ey eH
  obtain ⟨z,hd,vs,rel,dd⟩:=qJ6 I.hok e
  have hz:vs.length≤sizeLine:=by rw [← rel.length];exact z
  have hl:(ZV kvs k v).length≤sizeLine:=by have:=yK kvs k v;omega
  refine wpAny_setItem_pairs (hsz:=hz) (qCM ry) dd fun h' dd' hs=>h _ ?_
  have he:∃ q,h'.get? a=some q:=let ⟨q,_,_,hq,_⟩:=dd';⟨q,hq⟩
  exact JK I (by rw [e];exact True.intro) hs he (qID hl hd (rel.put k rv) dd')
 ·subst ey eH
  cases (show u=Value.ref b from ry)
  obtain ⟨z,hd,xs,rel,dd⟩:=qHJ I.hok e
  have hz:xs.length≤sizeLine:=by rw [← Paired.length rel];exact z
  have hl:(ZV kvs k v).length≤sizeLine:=by have:=yK kvs k v;omega
  refine wpAny_setItem_heap (hsz:=hz) (tupleKind_room_in1 hu) (YV I.hok eb) dd fun h' dd' hs=>h _ ?_
  obtain ⟨q,es,ep,hq,h2,h3,h4,_,h5⟩:=dd'
  refine JK I (by rw [e];exact True.intro) hs ⟨q,hq⟩ ⟨hl,hd,_,(rel.put k eb rv).keeps fun c ys ec => ?_,q,es,ep,hq,h2,h3,h4,h5⟩
  rw [qL (qCC ec e (fun z=>nomatch z))]
  exact ec
end
def qJN (i:Expr):Prop := ∀ ov iv,subscripted i false ov iv=operate [ov,iv] (getItem ov iv)
theorem qGl {prog:Program} {w:World} {A:Around} {E:Value->Shared->Prop} {s:Shared} {env:Env} {value slice:Expr} {pos:Pos} {T id:String} {Q:Value->Shared->Prop}
  (hl:typeLookup (.type T) "__getitem__" = pure (some (.builtin id))) (hs:qJN slice)
  (h:wpAny (model prog w) A (eval value env) (fun o s₁=>wpAny (model prog w) A (eval slice env) (fun i s₂=>s₂.TypeIs o T∧wpAny (model prog w) A (getItem o i) Q E s₂) E s₁) E s) :
  wpAny (model prog w) A (eval (.Subscript value slice pos) env) Q E s:=by
 refine Subscript_ (wpAny_mono h (fun o s₁ h₁=>wpAny_mono h₁ (fun i s₂ h₂ => ?_) fun _ _ x=>x) fun _ _ x=>x)
 obtain ⟨hT,h₂⟩:=h₂
 unfold subscriptTail
 refine wpAny_bind ?_
 rw [getitemInPython_of_ne hT.not_modules]
 refine wpAny_bind (wpAny_specialOf hT hl ?_)
 have fin:wpAny (model prog w) A (subscripted slice false o i) (fun r s₃=>wpAny (model prog w) A (letTemporaryGo value o r >>= fun _=>pure r) Q E s₃) E s₂:=by
  rw [hs o i]
  exact wpAny_operating (wpAny_mono h₂ (fun r s₃ h₃=>wpAny_bind (wpAny_letTemporaryGo (wpAny_pure h₃))) fun _ _ x=>x)
 first
  |exact wpAny_pure (wpAny_bind fin)
  |exact wpAny_bind (wpAny_pure (wpAny_bind fin))
  |exact wpAny_bind fin
theorem qAc {X:Cx} {pins:List (Addr×Obj)} {σ:St} {H:Hp} {s:Shared} {a:Addr} {y:V} {o:Option V} (I:Inv X pins σ H s) (g:qFR H a y o):s.TypeIs (.ref a) "dict" := by
 rcases g with ⟨kvs,k,e,_,_⟩ |⟨kvs,k,b,e,_,_,_⟩
 ·obtain ⟨_,_,vs,_,dd⟩:=Jm I.hok e
  exact dd.typeIs
 ·obtain ⟨_,_,xs,_,dd⟩:=qAX I.hok e
  exact dd.typeIs
def qKD (td ty:TE):TE:=fun σ H Q=>td σ H fun x H1=>ty σ H1 fun y H2 => ∃ a v,x = .ref a∧qFR H2 a y (some v)∧Q v H2
def qKv (td ty tv:TE):TS:=fun D σ H=>tv σ H fun v H1=>td σ H1 fun x H2=>ty σ H2 fun y H3 => ∃ a H4,x = .ref a∧DPut H3 a y v H4∧D.nx σ H4
section
variable {X:Cx} {o i e value:Expr} {pos pos' tpos:Pos} {td ty tv:TE}
theorem qFo (hu:X.A.units + 1 < cLine) (ho:PE X o td) (hi:PE X i ty) (hs:qJN i):PE X (.Subscript o i pos) (qKD td ty):=by
 intro pins s σ H Q I h
 refine qGl PySem.F.slot_dict_getitem.lookup hs (thn (ho pins s σ H _ I h) fun u s1 ⟨x,H1,I1,rx,q1⟩=>thn (hi pins s1 σ H1 _ I1 q1) fun iv s2 ⟨y,H2,I2,ry,a,v,ex,g,q2⟩ => ?_)
 subst ex
 obtain rfl:u=Value.ref a:=rx
 exact ⟨qAc I2 g,qCk hu I2 g ry fun w' s3 I3 rw'=>⟨v,H2,I3,rw',q2⟩⟩
theorem qGq (hu:X.A.units + 1 < cLine) (ho:PE X o td) (hi:PE X i ty) (hv:PE X value tv) (hs:swapsWith value (some (.Subscript o i pos')) pos.line X.env=pure false) :
  PS X (.Assign [.Subscript o i pos'] value pos) (qKv td ty tv):=by
 intro pins s σ H D I h
 refine wpAny_Assign_Subscript (thn (hv pins s σ H _ I h) fun r s1 ⟨v,H1,I1,rv,q1⟩=>thn (ho pins s1 σ H1 _ I1 q1) fun u s2 ⟨x,H2,I2,rx,q2⟩=>thn (hi pins s2 σ H2 _ I2 q2) fun iv s3 ⟨y,H3,I3,ry,a,H4,ex,g,q3⟩ => ?_) hs
 subst ex
 obtain rfl:u=Value.ref a:=rx
 exact qCg hu I3 g ry rv fun s4 I4=>⟨σ,H4,I4,q3⟩
end
theorem qAn {P:Program} {w:World} {H:Hp} (h:Heap) (hb:sysModules < h.objs.size):ObjOk P w H (h.push { cls := .type "dict",data := .dict #[] }) h.objs.size (.dT []) :=
 ⟨Nat.zero_le _,beq_eq_false_iff_ne.mpr (Ne.symm (Nat.ne_of_lt hb)),[],.nil,_,#[],0,Heap.get?_push_size _ rfl,⟨rfl,rfl,rfl⟩,rfl,rfl,List.nodup_nil⟩
def qIc:TE:=fun _ H Q => ∀ p,H p=none->Q (.ref p) (upd H p (.dT []))
section
variable {X:Cx} {pos:Pos}
theorem qEk:PE X (.Dict [] [] pos) qIc:=fun pins s σ H Q I h =>
 wpAny_Dict_empty ⟨.ref s.heap.objs.size,_,I.laid (a:=s.heap.objs.size) (o := .dT []) (t':=s.toks) (fun _ _ q=>Heap.get?_push_of_some _ q) (Nat.le_refl _) (qAn s.heap I.big),rfl,h _ (I.hok.fresh (Nat.le_refl _))⟩
end
def qFU:List (TE×TE)->St->Hp->(List (V×V)->Hp->Prop)->Prop
 |[],_,H,Q=>Q [] H
 |(tk,tv)::r,σ,H,Q=>tk σ H fun x H1=>tv σ H1 fun y H2=>qFU r σ H2 fun ps H3=>Q ((x,y)::ps) H3
abbrev VV:List (V×V)->List (Value×Value)->Prop:=Paired fun p q=>RelV p.1 q.1∧RelV p.2 q.2
def PPs (X:Cx) (pos:Pos) (keys:List (Option Expr)) (values:List Expr) (trs:List (TE×TE)):Prop :=
 ∀ (pins:List (Addr×Obj)) (s:Shared) (σ:St) (H:Hp) (Q:List (V×V)->Hp->Prop),Inv X pins σ H s->qFU trs σ H Q ->
  wpAny (model X.prog X.w) X.A (evalPairs (pairTrees keys values X.env pos)) (fun vs s' => ∃ ps H',Inv X pins σ H' s'∧VV ps vs∧Q ps H') X.xe s
theorem qGf {X:Cx} {pos:Pos}:PPs X pos [] [] []:=fun pins s σ H Q I h=>pairTrees_nil_walk ⟨[],H,I,.nil,h⟩
theorem qFA {X:Cx} {pos:Pos} {k v:Expr} {ks:List (Option Expr)} {vs:List Expr} {tk tv:TE} {trs:List (TE×TE)} (hk:PE X k tk) (hv:PE X v tv) (hr:PPs X pos ks vs trs) :
  PPs X pos (some k::ks) (v::vs) ((tk,tv)::trs):=fun pins s σ H Q I h =>
 pairTrees_cons_walk (thn (hk pins s σ H _ I h) fun u s1 ⟨x,H1,I1,rx,q1⟩=>thn (hv pins s1 σ H1 _ I1 q1) fun w2 s2 ⟨y,H2,I2,ry,q2⟩ =>
  thn (hr pins s2 σ H2 _ I2 q2) fun ws s3 ⟨ps,H3,I3,rel,q3⟩=>⟨(x,y)::ps,H3,I3,.cons ⟨rx,ry⟩ rel,q3⟩)
structure M2 (X:Cx) (o:Expr) (m:Str) (apos:Pos) (e f:Expr) (cpos:Pos):Prop where
 base:attributeBase o m X.env (eval o X.env)=eval o X.env
 few:((backTo cpos (starEach [e,f] X.env)).all (fun x => !x.1)&&(backToKw cpos (keywordEach [] X.env)).all (fun x=>x.1.isSome)
  && decide (([e,f]:List Expr).length + ([]:List Keyword).length + (if ([]:List Keyword).isEmpty then 0 else 1) < 30))=true
 line:(apos.endLine==cpos.line)=true
 trees:backTo cpos (starEach [e,f] X.env)=[(false,eval e X.env),(false,eval f X.env)]
def IsD (H:Hp) (a:Addr):Prop:=(∃ kvs,Rd H a (.dK kvs)) ∨ ∃ kvs,Rd H a (.dT kvs)
theorem qD1 {X:Cx} {pins:List (Addr×Obj)} {σ:St} {H:Hp} {s:Shared} {a:Addr} (I:Inv X pins σ H s) (d:IsD H a) :
  s.TypeIs (.ref a) "dict" ∧ (∀ b,Value.ref a = .ref b -> ∃ ob,s.heap.get? b=some ob∧ob.dict=none)∧(a==sysModules)=false:=by
 rcases d with ⟨kvs,e⟩ |⟨kvs,e⟩
 ·obtain ⟨_,hd,vs,_,dd⟩:=Jm I.hok e
  refine ⟨dd.typeIs,fun b q => ?_,hd⟩
  cases q
  obtain ⟨ob,_,_,h1,h2,_⟩:=dd
  exact ⟨ob,h1,h2.2.1⟩
 ·obtain ⟨_,hd,xs,_,dd⟩:=qAX I.hok e
  refine ⟨dd.typeIs,fun b q => ?_,hd⟩
  cases q
  obtain ⟨ob,_,_,h1,h2,_⟩:=dd
  exact ⟨ob,h1,h2.2.1⟩
section
variable {X:Cx} {pins:List (Addr×Obj)} {σ:St} {H:Hp} {s:Shared} {a:Addr} {y d:V} {u r:Value} {o:Option V} {A:Around} {E:Value->Shared->Prop}
theorem qJf {Q:Value->Shared->Prop} (hu:A.units + 1 < cLine) (I:Inv X pins σ H s) (g:qFR H a y o) (ry:RelV y u) (rd:RelV d r) (h:∀ w' s',Inv X pins σ H s'->RelV (o.getD d) w'->Q w' s') :
  wpAny (model X.prog X.w) A (call (.builtin "dict.get") [.ref a,u,r]) Q E s:=by
 rcases g with ⟨kvs,k,e,ey,l⟩ |⟨kvs,k,b,e,ey,eb,l⟩
 ·subst ey
  obtain ⟨z,hd,vs,rel,dd⟩:=Jm I.hok e
  refine call_meetsIn PySem.F.slot_dict_get dd.typeIs PySem.F.entry_dict_get (PySem.F.args_dict_get_3 _ _ _) (meets_dict_get_default (Qe X.prog X.w) a (qCM ry) hd r) ⟨_,dd.mapOf,h _ _ (I.tok _) ?_⟩
  rw [l]
  exact (rel.val k).getD rd
 ·subst ey
  cases (show u=Value.ref b from ry)
  obtain ⟨z,hd,xs,rel,dd⟩:=qAX I.hok e
  refine call_meetsIn PySem.F.slot_dict_get dd.typeIs PySem.F.entry_dict_get (PySem.F.args_dict_get_3 _ _ _) (meetsH_dict_get_default (tupleKind (Qe X.prog X.w)) a b hd r) ⟨tupleKind_room_in1 hu,k,xs,YV I.hok eb,dd,h _ _ (I.tok _) ?_⟩
  rw [l]
  exact (rel.val k).getD rd
end
def qIk (td ty tx:TE):TE:=fun σ H Q=>td σ H fun x H1 => ∃ a,x = .ref a∧IsD H1 a∧ty σ H1 fun y H2=>tx σ H2 fun z H3 => ∃ o,qFR H3 a y o∧Q (o.getD z) H3
section
variable {X:Cx} {o e f:Expr} {apos cpos:Pos} {td ty tx:TE}
theorem qEO (hu:X.A.units + 1 < cLine) (ho:PE X o td) (he:PE X e ty) (hf:PE X f tx) (m:M2 X o "get" apos e f cpos):PE X (.Call (.Attribute o "get" apos) [e,f] [] cpos) (qIk td ty tx):=by
 intro pins s σ H Q I h
 refine wpAny_Call_method m.base m.few m.line PySem.F.plainAttrs_dict PySem.F.slot_dict_get PySem.F.type_dict_get (thn (ho pins s σ H _ I h) fun u s1 ⟨x,H1,I1,rx,a,ex,d,q1⟩ => ?_)
 subst ex
 obtain rfl:u=Value.ref a:=rx
 obtain ⟨t1,t2,_⟩:=qD1 I1 d
 refine ⟨t1,t2,?_⟩
 rw [m.trees]
 refine Calls.callWith_builtin rfl (Calls.evalArgs_plain (Calls.spliced_cons (thn (he pins s1 σ H1 _ I1 q1) fun iv s2 ⟨y,H2,I2,ry,q2⟩ =>
  Calls.spliced_cons (thn (hf pins s2 σ H2 _ I2 q2) fun fv s3 ⟨z,H3,I3,rz,ov,g,q3⟩=>Calls.spliced_nil ?_))))
 exact qJf hu I3 g ry rz fun w' s4 I4 rw'=>⟨_,H3,I4,rw',q3⟩
end
end L2
namespace L2
open PySem PySem.Spec PyProof.Rows
end L2
end
section
namespace EX
open PySem PySem.Spec PyProof.Rows
def Trc (h B:Heap) (e:Addr) (cls:Value) (dd:Option Addr) (fl:Value):Prop :=
 ∃ oe vs T oT ts,h.get? e=some oe∧oe.cls=cls∧oe.dict=dd∧oe.data = .fields vs∧vs[1]? = some (Value.ref T)∧vs[2]? = some Value.none∧B.get? T=none∧T≠e∧h.get? T=some oT∧oT.data = .fields ts∧ts[3]? = some fl
def Fly (B:Heap) (l:List Env) (e:Addr) (cls:Value) (dd:Option Addr) (fl:Value) (h:Heap):Prop:=B.StaysIn h∧B.get? e=none∧h.FunFrames B l∧Trc h B e cls dd fl
theorem Fly.tail {B h:Heap} {env:Env} {l:List Env} {e:Addr} {cls fl:Value} {dd:Option Addr} (x:Fly B (env::l) e cls dd fl h):Fly B l e cls dd fl h:=⟨x.1,x.2.1,x.2.2.1.2.2,x.2.2.2⟩
section
variable {M:Model} {A:Around} {E:Value->Shared->Prop} {s:Shared} {B:Heap} {env:Env} {outer:List Env} {L e:Addr} {cls:Value} {dd:Option Addr} {Q:Unit->Shared->Prop}
theorem qAb {oe:Obj} {vs:Array Value} {head:Value} {nx:Bool} (f1:A.frames=some (env::outer)) (f2:s.heap.FunFrames B (env::outer)) (f3:env.frame=some L) (k1:B.StaysIn s.heap) (k2:B.get? e=none)
  (g1:s.heap.get? e=some oe) (g2:oe.data = .fields vs) (g3:1 < vs.size) (g4:vs[2]? = some Value.none) (h:∀ h',Fly B (env::outer) e oe.cls oe.dict (rawInt L) h'->s.heap.UpToSlots h'->Q () { s with heap:=h' }) :
  wpAny M A (do let a ← frameOf env;let pl ← entryPlaceOf L nx;let b ← EntryCells.newEntry head a .none (rawInt L) .none pl;setField (.ref e) 1 b) Q E s:=by
 have nfr:e ∉ (env::outer).filterMap (·.frame):=fun hm=>by
  obtain ⟨_,o,ho,hnf⟩:=f2.mem hm
  rw [g1] at ho;cases ho;exact hnf vs g2
 refine wpAny_bind (wpAny_frameOf_fun f1 f2 f3 fun h1 so=>wpAny_bind (wpAny_entryPlaceOf fun pl hpl => ?_))
 unfold EntryCells.newEntry newFields
 refine wpAny_bind (wpAny_newObj_type ?_ (hpl.sizeOk5 _ _ _ _ _))
 generalize hts:([head,Value.ref L,.none,rawInt L,.none]++(if pl.isEmpty then List.replicate 6 Value.none else pl)).toArray=ts
 have ht3:ts[3]? = some (rawInt L):=by rw [← hts];first |(simp;done) |(rcases hpl with rfl |⟨_,_,_,_,_,_,_,rfl⟩ <;> simp)
 have a1:h1.get? e=some oe:=(so.2.1 e nfr).trans g1
 have kb:B.StaysIn h1:=fun b o q=>(so.2.1 b fun hm=>by rw [(f2.mem hm).1] at q;cases q).trans (k1 b o q)
 have a2:=Heap.get?_push_of_some (h:=h1) { cls := .type "traceback",dict:=none,data := .fields ts } a1
 refine wpAny_setField a2 g2 g3 (h _ ?_ ?_)
 ·have ne1:h1.objs.size≠e:=Nat.ne_of_gt (Heap.lt_size a1)
  have d3:=Obj.data_mapFields g2 (·.setIfInBounds 1 (Value.ref h1.objs.size))
  have a3:=Heap.get?_update_self (Obj.mapFields (·.setIfInBounds 1 (Value.ref h1.objs.size))) a2 (Obj.isFreed_of_fields d3)
  have a4:=(Heap.get?_update_other (h1.push { cls := .type "traceback",dict:=none,data := .fields ts }) (Obj.mapFields (·.setIfInBounds 1 (Value.ref h1.objs.size))) (Ne.symm ne1)).trans (Heap.get?_push_size h1 rfl)
  have kp:∀ b o,b≠e->h1.get? b=some o->((h1.push { cls := .type "traceback",dict:=none,data := .fields ts }).update e (Obj.mapFields (·.setIfInBounds 1 (Value.ref h1.objs.size)))).get? b=some o:=fun b o hb q =>
   (Heap.get?_update_other _ _ (Ne.symm hb)).trans (Heap.get?_push_of_some _ q)
  refine ⟨fun b o q=>kp b o (fun z=>by rw [z,k2] at q;cases q) (kb b o q),k2,f2.of_keeps fun b o q nf => ?_,_,_,h1.objs.size,_,ts,a3,Obj.cls_mapFields _ _,?_,d3,?_,?_,kb.fresh,ne1,a4,rfl,ht3⟩
  ·obtain ⟨sl,q2⟩:=so.2.2 b o q
   exact ⟨_,kp b _ (fun z=>by rw [z,g1] at q;cases q;exact nf vs g2) q2,rfl⟩
  ·obtain ⟨c,d,dt,sl⟩:=oe
   have g2:dt = .fields vs:=g2
   subst g2;rfl
  ·simp [g3]
  ·rw [Array.getElem?_setIfInBounds_ne (by decide)];exact g4
 ·intro b o q nf
  have hb:b≠e:=fun z=>by rw [z,g1] at q;cases q;exact nf vs g2
  obtain ⟨sl,q2⟩:=so.2.2 b o q
  exact ⟨sl,(Heap.get?_update_other _ _ (Ne.symm hb)).trans (Heap.get?_push_of_some _ q2)⟩
theorem qA4 {oe:Obj} {vs:Array Value} (f1:A.frames=some (env::outer)) (f2:s.heap.FunFrames B (env::outer)) (f3:env.frame=some L) (k1:B.StaysIn s.heap) (k2:B.get? e=none)
  (g1:s.heap.get? e=some oe) (g2:oe.data = .fields vs) (g3:vs[1]? = some Value.none) (g4:vs[2]? = some Value.none) (h:∀ h',Fly B (env::outer) e oe.cls oe.dict (rawInt L) h'->s.heap.UpToSlots h'->Q () { s with heap:=h' }) :
  wpAny M A (noteFrame (.ref e) env) Q E s:=by
 unfold noteFrame
 simp only [f3]
 refine wpAny_bind (wpAny_field g1 g2 g3 ?_)
 rw [if_neg (show ¬ ((Value.none != Value.none)=true) by decide)]
 exact qAb f1 f2 f3 k1 k2 g1 g2 (Array.getElem?_eq_some_iff.mp g3).1 g4 h
theorem Y8 (f1:A.frames=some (env::outer)) (f3:env.frame=some L) (x:Fly B (env::outer) e cls dd .none s.heap) (h:∀ h',Fly B (env::outer) e cls dd (rawInt L) h'->s.heap.UpToSlots h'->Q () { s with heap:=h' }) :
  wpAny M A (noteFrame (.ref e) env) Q E s:=by
 obtain ⟨k1,k2,f2,oe,vs,T,oT,ts,g1,rfl,rfl,g2,g3,g4,t1,t2,t3,t4,t5⟩:=x
 unfold noteFrame
 simp only [f3]
 refine wpAny_bind (wpAny_field g1 g2 g3 ?_)
 rw [if_pos (show (Value.ref T != Value.none)=true by simp)]
 refine wpAny_bind (wpAny_field t3 t4 t5 ?_)
 rw [if_neg (show ¬ ((Value.none==rawInt L)=true) by simp [rawInt])]
 refine wpAny_bind (wpAny_setField t3 t4 (Array.getElem?_eq_some_iff.mp t5).1 ?_)
 have ot:∀ b,b≠T->(s.heap.update T (Obj.mapFields (·.setIfInBounds 3 Value.none))).get? b=s.heap.get? b:=fun b hb=>Heap.get?_update_other _ _ (Ne.symm hb)
 have nr:∀ b o,s.heap.get? b=some o->(∀ us,o.data ≠ .fields us)->b≠T:=fun b o q nf z=>by rw [z,t3] at q;cases q;exact nf ts t4
 refine qAb f1 (f2.of_keeps fun b o q nf=>⟨o,(ot b (nr b o q nf)).trans q,rfl⟩) f3 (fun b o q=>(ot b fun z=>by rw [z,t1] at q;cases q).trans (k1 b o q)) k2 ((ot e (Ne.symm t2)).trans g1) g2 (Array.getElem?_eq_some_iff.mp g3).1 g4 fun h' x u=>h h' x fun b o q nf => ?_
 exact u b o ((ot b (nr b o q nf)).trans q) nf
theorem qBs {l:List Env} {fl:Value} (x:Fly B l e cls dd fl s.heap) (h:∀ h',Fly B l e cls dd .none h'->s.heap.UpToSlots h'->Q () { s with heap:=h' }):wpAny M A (setFlight (.ref e) none) Q E s:=by
 obtain ⟨k1,k2,f2,oe,vs,T,oT,ts,g1,g0,g00,g2,g3,g4,t1,t2,t3,t4,t5⟩:=x
 have t6:3 < ts.size:=(Array.getElem?_eq_some_iff.mp t5).1
 have ot:∀ b,b≠T->(s.heap.update T (Obj.mapFields (·.setIfInBounds 3 ((none:Option Addr).elim Value.none fun f=>rawInt f)))).get? b=s.heap.get? b:=fun b hb=>Heap.get?_update_other _ _ (Ne.symm hb)
 have nr:∀ b o,s.heap.get? b=some o->(∀ us,o.data ≠ .fields us)->b≠T:=fun b o q nf z=>by rw [z,t3] at q;cases q;exact nf ts t4
 unfold setFlight
 refine wpAny_bind (wpAny_field g1 g2 g3 ?_)
 rw [if_pos (show (Value.ref T != Value.none)=true by simp)]
 refine wpAny_setField t3 t4 t6 (h _ ⟨fun b o q=>(ot b fun z=>by rw [z,t1] at q;cases q).trans (k1 b o q),k2,f2.of_keeps fun b o q nf=>⟨o,(ot b (nr b o q nf)).trans q,rfl⟩,?_⟩ fun b o q nf=>⟨o.slots,(ot b (nr b o q nf)).trans q⟩)
 exact ⟨oe,vs,T,_,_,(ot e (Ne.symm t2)).trans g1,g0,g00,g2,g3,g4,t1,t2,Heap.get?_update_self _ t3 (Obj.isFreed_of_fields (Obj.data_mapFields t4 _)),Obj.data_mapFields t4 _,by simp [t6]⟩
theorem JS {oe:Obj} {vs:Array Value} (f1:A.frames=some (env::outer)) (f2:s.heap.FunFrames B (env::outer)) (f3:env.frame=some L) (k1:B.StaysIn s.heap) (k2:B.get? e=none)
  (g1:s.heap.get? e=some oe) (g2:oe.data = .fields vs) (g3:vs[1]? = some Value.none) (g4:vs[2]? = some Value.none) (h:∀ h',Fly B outer e oe.cls oe.dict .none h'->s.heap.UpToSlots h'->Q () { s with heap:=h' }) :
  wpAny M A (leaving env (.ref e)) Q E s:=by
 unfold leaving
 exact wpAny_bind (qA4 f1 f2 f3 k1 k2 g1 g2 g3 g4 fun h1 x1 u1=>qBs x1 fun h2 x2 u2=>h h2 x2.tail (u1.trans u2))
theorem qAj (f1:A.frames=some (env::outer)) (f3:env.frame=some L) (x:Fly B (env::outer) e cls dd .none s.heap) (h:∀ h',Fly B outer e cls dd .none h'->s.heap.UpToSlots h'->Q () { s with heap:=h' }) :
  wpAny M A (leaving env (.ref e)) Q E s:=by
 unfold leaving
 exact wpAny_bind (Y8 f1 f3 x fun h1 x1 u1=>qBs x1 fun h2 x2 u2=>h h2 x2.tail (u1.trans u2))
end
end EX
end
section
namespace EX
open PySem PySem.Spec PyProof.Rows L2
structure UnB (fs:List Addr) (H H1:Hp) (h B:Heap):Prop where
 keep:∀ b o,h.get? b=some o->H b=none->b ∉ fs->B.get? b=some o
 free:∀ b o,h.get? b=some o->H b=none->H1 b=none
 there:∀ b o,h.get? b=some o->b ∉ fs -> ∃ o',B.get? b=some o'
 tups:∀ b xs,H b=some (.tup xs)->H1 b=some (.tup xs)
 frzs:∀ b o u,H b=some (.frz o u)->H1 b=some (.frz o u)
 tbls:∀ b ps,H b=some (.tbl ps) -> ∃ more,H1 b=some (.tbl (ps++more))
def CXF (P:Program) (w:World):CXT:=fun outer H s E e s' =>
 ∃ ea cls dd B H1,e=Value.ref ea∧Fly B outer ea cls dd .none s'.heap∧HOk P w H1 B∧s'.os=s.os∧AllBare s'.gens∧UnB (frs outer) H H1 s.heap B ∧
  (∀ b∈frs outer,∀ o,s.heap.get? b=some o -> ∃ sl,s'.heap.get? b=some { o with slots:=sl })∧E cls dd H1
theorem Jh {env:Env} {outer:List Env} {L:Addr} (h:env.frame=some L):frs (env::outer)=L::frs outer:=by
 unfold frs;rw [List.filterMap_cons,h]
theorem CXF.un {P:Program} {w:World} {outer:List Env} {H H1:Hp} {s s':Shared} {B:Heap} (hs:B.StaysIn s'.heap) (un:UnB (frs outer) H H1 s.heap B) (sl:∀ b∈frs outer,∀ o,s.heap.get? b=some o -> ∃ sl,s'.heap.get? b=some { o with slots:=sl }) :
  Un (frs outer) [] H H1 s.heap s'.heap where
 keep:=fun b o e n hb _=>hs b o (un.keep b o e n hb)
 slot:=fun b o e n hb _=>sl b hb o e
 free:=fun b o e n _=>un.free b o e n
 there:=fun b o e _=>by
  by_cases hb:b∈frs outer
  ·obtain ⟨x,q⟩:=sl b hb o e;exact ⟨_,q⟩
  ·obtain ⟨o',q⟩:=un.there b o e hb;exact ⟨o',hs b o' q⟩
 tups:=un.tups
 frzs:=un.frzs
 tbls:=un.tbls
section
variable {P:Program} {w:World} {K:W.Frag} {mg:Str->Option Value} {base:Heap} {N:List Str} {qual:Str} {scope:Scope} {f:Addr} {cd:Value} {A:Around} {outer:List Env} {s₀:Shared} {H₀:Hp} {E:XK}
theorem qv:zX (CXF P w) (we (CXF P w) P w K mg base N qual scope f cd A outer s₀ H₀ E) E:=by
 intro pins σ H s e s' I c
 obtain ⟨ea,cls,dd,B,H1,rfl,fl,hok,os,bare,un,sl,q⟩:=c
 have hfr:(envOfC qual scope s₀.heap.objs.size f cd).frame=some s₀.heap.objs.size:=rfl
 have ef:frs (we (CXF P w) P w K mg base N qual scope f cd A outer s₀ H₀ E).stack=s₀.heap.objs.size::frs outer:=Jh hfr
 have Ib:Un (frs outer) [] H₀ H s₀.heap s.heap:=I.base
 have ne:∀ b o,s₀.heap.get? b=some o->b≠s₀.heap.objs.size:=fun b o e=>Nat.ne_of_lt (Heap.lt_size e)
 refine qAj I.ok.frames hfr fl fun h' x u=>⟨ea,cls,dd,B,H1,rfl,x,hok,os.trans I.os,bare,?_,fun b hb o e => ?_,q⟩
 ·refine ⟨fun b o e n hb => ?_,fun b o e n => ?_,fun b o e hb => ?_,fun b xs e=>un.tups b xs (Ib.tups b xs e),fun b o u e=>un.frzs b o u (Ib.frzs b o u e),fun b ps e => ?_⟩
  ·exact un.keep b o (Ib.keep b o e n hb (by simp)) (Ib.free b o e n (by simp)) (by rw [ef];intro z;exact (List.mem_cons.mp z).elim (ne b o e) hb)
  ·obtain ⟨o',e'⟩:=Ib.there b o e (by simp)
   exact un.free b o' e' (Ib.free b o e n (by simp))
  ·obtain ⟨o',e'⟩:=Ib.there b o e (by simp)
   exact un.there b o' e' (by rw [ef];intro z;exact (List.mem_cons.mp z).elim (ne b o e) hb)
  ·obtain ⟨m1,e1⟩:=Ib.tbls b ps e
   obtain ⟨m2,e2⟩:=un.tbls b _ e1
   exact ⟨m1++m2,by rw [e2,Array.append_assoc]⟩
 ·obtain ⟨sl1,e1⟩:=Ib.slot b o e (I.ok.frf b hb) hb (by simp)
  obtain ⟨sl2,e2⟩:=sl b (by rw [ef];exact List.mem_cons_of_mem _ hb) _ e1
  have nf:∀ vs,o.data ≠ .fields vs:=by
   obtain ⟨_,o2,ho2,nf⟩:=I.ok.funs.mem hb
   have e:(we (CXF P w) P w K mg base N qual scope f cd A outer s₀ H₀ E).s₀.heap.get? b=some o:=e
   rw [e] at ho2;cases ho2;exact nf
  obtain ⟨sl3,e3⟩:=u b _ e2 nf
  exact ⟨sl3,e3⟩
theorem qCh {pins:List (Addr×Obj)} {σ:L2.St} {H:Hp} {s:Shared} {h':Heap} {e:Addr} {oe:Obj} {vs:Array Value} {H1:Hp} {B0:Heap} (I:L2.Inv (we (CXF P w) P w K mg base N qual scope f cd A outer s₀ H₀ E) pins σ H s) (k:∀ b o,s.heap.get? b=some o->h'.get? b=some o) (hn:s.heap.get? e=none)
  (g1:h'.get? e=some oe) (g2:oe.data = .fields vs) (g3:vs[1]? = some Value.none) (g4:vs[2]? = some Value.none) (q:E oe.cls oe.dict H):(we (CXF P w) P w K mg base N qual scope f cd A outer s₀ H₀ E).xe (.ref e) { s with heap:=h' }:=by
 have hfr:(envOfC qual scope s₀.heap.objs.size f cd).frame=some s₀.heap.objs.size:=rfl
 have ef:frs (we (CXF P w) P w K mg base N qual scope f cd A outer s₀ H₀ E).stack=s₀.heap.objs.size::frs outer:=Jh hfr
 have Ib:Un (frs outer) [] H₀ H s₀.heap s.heap:=I.base
 have ne:∀ b o,s₀.heap.get? b=some o->b≠s₀.heap.objs.size:=fun b o e=>Nat.ne_of_lt (Heap.lt_size e)
 generalize hB:PySem.W.hideAll s.heap (frs (we (CXF P w) P w K mg base N qual scope f cd A outer s₀ H₀ E).stack)=B
 have toB:∀ b o,s.heap.get? b=some o->b ∉ frs (we (CXF P w) P w K mg base N qual scope f cd A outer s₀ H₀ E).stack->B.get? b=some o:=fun b o e hb=>by rw [← hB];exact PySem.W.hideAll_get _ e hb
 have ofB:∀ b o,B.get? b=some o->s.heap.get? b=some o:=fun b o e=>by rw [← hB] at e;exact PySem.W.of_hideAll _ e
 have trk:∀ b u,H b=some u->b ∉ frs (we (CXF P w) P w K mg base N qual scope f cd A outer s₀ H₀ E).stack:=fun b u e z=>by rw [I.stkFree b z] at e;cases e
 have fun1:h'.FunFrames B (we (CXF P w) P w K mg base N qual scope f cd A outer s₀ H₀ E).stack:=by
  have:=PySem.W.funFrames_hide (as:=frs (we (CXF P w) P w K mg base N qual scope f cd A outer s₀ H₀ E).stack) I.stack fun env he a ha=>List.mem_filterMap.mpr ⟨env,he,ha⟩
  rw [hB] at this
  exact this.of_keeps fun b o e _=>⟨o,k b o e,rfl⟩
 have eB:B.get? e=none:=by
  cases z:B.get? e with
  |none=>rfl
  |some o=>have:=ofB e o z;rw [hn] at this;cases this
 refine JS (s:={ s with heap:=h' }) I.ok.frames fun1 hfr (fun b o z=>k b o (ofB b o z)) eB g1 g2 g3 g4 fun h2 x u=>⟨e,oe.cls,oe.dict,B,H,rfl,x,?_,I.os,I.bare,?_,fun b hb o e1 => ?_,q⟩
 ·exact fun b u e1=>(I.hok b u e1).stay (fun c v hc z=>toB c v z (hc.elim (fun z=>by rw [z];exact trk b u e1) fun z=>trk c _ z)) (fun _ z=>z) fun _ _ z=>z
 ·refine ⟨fun b o e n hb => ?_,fun b o e n=>Ib.free b o e n (by simp),fun b o e hb => ?_,fun b xs e=>Ib.tups b xs e,fun b o u e=>Ib.frzs b o u e,fun b ps e=>Ib.tbls b ps e⟩
  ·exact toB b o (Ib.keep b o e n hb (by simp)) (by rw [ef];intro z;exact (List.mem_cons.mp z).elim (ne b o e) hb)
  ·obtain ⟨o',e'⟩:=Ib.there b o e (by simp)
   exact ⟨o',toB b o' e' (by rw [ef];intro z;exact (List.mem_cons.mp z).elim (ne b o e) hb)⟩
 ·obtain ⟨sl1,e2⟩:=Ib.slot b o e1 (I.ok.frf b hb) hb (by simp)
  have nf:∀ vs,o.data ≠ .fields vs:=by
   obtain ⟨_,o2,ho2,nf⟩:=I.ok.funs.mem hb
   have e1:(we (CXF P w) P w K mg base N qual scope f cd A outer s₀ H₀ E).s₀.heap.get? b=some o:=e1
   rw [e1] at ho2;cases ho2;exact nf
  obtain ⟨sl3,e3⟩:=u b _ (k b _ e2) nf
  exact ⟨sl3,e3⟩
end
section
variable {prog:Program} {w:World} {A:Around} {E:Value->Shared->Prop} {s:Shared} {K:W.Frag} {x D:Addr} {ox:Obj} {od:Option Obj}
structure ExcK (K:W.Frag) (D:Addr):Prop where
 ga:PySem.W.findIn K (.ref D) "__getattribute__" = some (some (.builtin "BaseException.__getattribute__"))
 gn:PySem.W.findIn K (.ref D) "__getattr__" = some none
 fo:∀ od,PySem.W.findObj K D od "__class__" = some (.bind (.builtin "getset_descriptor.__get__") (.builtin "object.__class__"))
 mo:PySem.W.mroIn K D (.type "object")=some true
 mb:PySem.W.mroIn K D (.type "BaseException")=some true
theorem qCs {Q:Option Value->Shared->Prop} (C:ExcK K D) (X:K.In s.heap) (I:PySem.W.InstAt s.heap x ox D od) (h:Q (some (.ref D)) { s with toks:=s.toks + 1 }):wpAny (model prog w) A (getAttr? (.ref x) "__class__") Q E s:=by
 obtain ⟨hh,g,d,t,os⟩:=s
 have L0:=I.type (M:=model prog w)
 have L1:=PySem.W.looks_findIn (M:=model prog w) X C.ga
 have L2:=PySem.W.looks_findIn (M:=model prog w) X C.gn
 have L3:=PySem.W.looks_find (M:=model prog w) X I (C.fo od)
 have L4:=PySem.W.looks_mroIn (M:=model prog w) X C.mb
 have LI:PySem.W.Looks (model prog w) hh (isInstance (.ref x) (.type "BaseException")) true:=L0.andThen L4
 have f3:=F.attr_ValueError.ga.bind (.ref x)
 unfold getAttr? getAttrBy? getAttrBy
 refine wpAny_bind (wpAny_mkText (wpAny_bind (wpAny_attempt (wpAny_holding (wpAny_bind (L0.at (wpAny_bind (L1.at ?_))))))))
 show wpAny _ _ (getAttrByItsOwn _ _ _ _ _ _) _ _ _
 unfold getAttrByItsOwn
 refine wpAny_bind (L2.at (wpAny_bind (wpAny_attempt (wpAny_holding ?_))))
 show wpAny _ _ (boundAndCalled _ _ _) _ _ _
 unfold boundAndCalled
 refine wpAny_bind (wpAny_of_eq f3 ?_)
 refine wpAny_call (codeAny_call_builtin F.attr_ValueError.ga.plain F.entry_bexc_ga ?_)
 have hk:builtinKind "BaseException.__getattribute__" = some .slot:=by decide +kernel
 have hsp:splitId "BaseException.__getattribute__" = some ("BaseException","__getattribute__"):=by decide +kernel
 have ha:=F.args_bexc_ga (.ref x) (.str "__class__" t)
 simp only [checkBuiltinCall,hk,hsp]
 refine wpAny_bind (LI.at ?_)
 rw [if_neg (show ¬ ((!true)=true) by decide)]
 refine wpAny_of_eq (a:=()) ha ?_
 show wpAny _ A.in1 (Builtin.«object.__getattribute__» ⟨[.ref x,.str "__class__" t],[]⟩) _ _ _
 unfold Builtin.«object.__getattribute__»
 refine wpAny_bind (wpAny_pure ?_)
 refine wpAny_bind (wpAny_pure ?_)
 refine wpAny_bind (L0.at (wpAny_bind (L3.at ?_)))
 show wpAny _ A.in1 (holding [Value.builtin "object.__class__"] (call (.builtin "getset_descriptor.__get__") [.builtin "object.__class__",.ref x,.ref D]) >>= ret) _ _ _
 refine wpAny_bind (wpAny_holding (wpAny_call (PySem.W.class_get X I C.mo ?_)))
 exact wpAny_pure (wpAny_pure (wpAny_pure h))
end
theorem qGg {K:W.Frag} {h:Heap} {C:Addr} {bmB:List Value} {newId:String} (X:K.In h) (q:PySem.W.excIn K C bmB newId=true) :
  ∃ bm N nm qn bs hd sn sb ab co dd k0 k1 k2 k3 k5 mN,h.get? C=some (excClassObj nm qn C N bs bm hd sn sb ab co dd k0 k1 k2 k3 k5 newId)∧h.Ns N mN∧mN "__init__" = none∧OwnTail h bmB bm:=by
 unfold PySem.W.excIn at q
 split at q
 ·rename_i dd cd sl ho
  split at q
  ·rename_i C' bm k0 k1 k2 k3 n k5 hm hs
   simp only [Bool.and_eq_true,beq_iff_eq,Bool.not_eq_true'] at q
   obtain ⟨⟨⟨⟨⟨e1,e2⟩,e3⟩,e4⟩,e5⟩,e6⟩:=q
   subst e1;subst e2
   cases cd with
   |mk nm bs mro ns qn hd sn sb ab co del =>
    have hm:mro=_:=hm
    have e3:del=false:=e3
    subst hm;subst e3
    have hsl:sl = #[k0,k1,k2,k3,some (.builtin n),k5]:=by cases sl with |mk l=>rw [show l=_ from hs]
    subst hsl
    exact ⟨bm,ns,nm,qn,bs,hd,sn,sb,ab,co,dd,k0,k1,k2,k3,k5,_,X _ _ ho,.of_isNs (PySem.W.isNs_of_in X e5),PySem.W.nsMap_none_of_in X e5 e6,PySem.W.tail_of_in X e4⟩
  ·cases q
 ·cases q
def Rz (X:Cx) (E:XK):Prop := ∀ (pins:List (Addr×Obj)) (σ:L2.St) (H:Hp) (s:Shared) (h':Heap) (e:Addr) (oe:Obj) (vs:Array Value),L2.Inv X pins σ H s->(∀ b o,s.heap.get? b=some o->h'.get? b=some o)->s.heap.get? e=none ->
 h'.get? e=some oe->oe.data = .fields vs->vs[1]? = some Value.none->vs[2]? = some Value.none->E oe.cls oe.dict H->X.xe (.ref e) { s with heap:=h' }
theorem qHH {P:Program} {w:World} {K:W.Frag} {mg:Str->Option Value} {base:Heap} {N:List Str} {qual:Str} {scope:Scope} {f:Addr} {cd:Value} {A:Around} {outer:List Env} {s₀:Shared} {H₀:Hp} {E:XK} :
  Rz (we (CXF P w) P w K mg base N qual scope f cd A outer s₀ H₀ E) E:=fun _ _ _ _ _ _ _ _ I k hn g1 g2 g3 g4 q=>qCh (H1:=H₀) (B0:=base) I k hn g1 g2 g3 g4 q
abbrev bmV:List Value:=[.type "ValueError",.type "Exception",.type "BaseException",.type "object"]
section
variable {X:Cx} {E:XK} {x:Str} {C:Addr} {e:Expr} {es:List Expr} {t:TA} {np cpos pos:Pos}
theorem qEP (hz:Rz X E) (hc:X.calm=true) (hg:Gl X x) (hm:X.mg x=some (.ref C)) (q:PySem.W.excIn X.K C bmV "ValueError.__new__" = true) (ha:PA X (e::es) t) (hdb:(x==("__debug__":Str))=false:=by decide)
  (he:starEach (e::es) X.env=(false,eval e X.env)::starEach es X.env:=by rfl) (hpl:(backTo cpos (starEach es X.env)).any (·.1)=false:=by rfl) :
  PS X (.Raise (some (.Call (.Name x np) (e::es) [] cpos)) none pos) (fun D σ H=>t σ H fun vs H1=>vs.length≤sizeLine∧E (.ref C) none H1):=by
 intro pins s σ H D I h
 obtain ⟨bm,N,nm,qn,bs,hd,sn,sb,ab,co,dd,k0,k1,k2,k3,k5,mN,o1,o2,o3,o4⟩:=qGg I.ok.mod.kin q
 refine wpAny_Raise_call_subU (C:=C) (nm:=nm) (q:=qn) (N:=N) (bs:=bs) (bm:=bm) (hdct:=hd) (sn:=sn) (sub:=sb) (ab:=ab) (col:=co) (dd:=dd) (k0:=k0) (k1:=k1) (k2:=k2) (k3:=k3) (k5:=k5) (mN:=mN)
  F.excBase_ValueError F.excBase_ValueError.hasB F.excBase_ValueError (o4.hasType F.excBase_ValueError.hasBase) (I.ok.hd hc) (by rw [he];show (false || (backTo cpos (starEach es X.env)).any (·.1))=false;rw [hpl];rfl) o3 (JU I hg hm ⟨rfl,?_⟩ hdb)
 have ha':=ha cpos pins s σ H _ I h
 rw [he] at ha' ⊢
 refine Calls.evalArgs_plain (thn ha' fun us s1 ⟨vs,H1,I1,r1,q1,q2⟩=>⟨rfl,by rw [← r1.length];exact q1,I1.bk _ _ o1,o2.keeps I1.bk,o4.keeps I1.bk,fun h' ea hx => ?_⟩)
 obtain ⟨tt,h1,_,_⟩:=hx.there
 exact hz pins σ H1 s1 h' ea _ _ I1 hx.keeps hx.new h1 rfl rfl rfl q2
end
section
variable {M:Model} {A:Around} {E:Value->Shared->Prop} {K:W.Frag} {h:Heap} {g:Array GenState} {d:Drawn} {t:Nat} {os:OsState} {e Bx C:Addr} {oe:Obj} {dd:Option Addr} {cd:ClassData} {sl:Array (Option Value)} {Q:Bool->Shared->Prop}
theorem qAN (X:K.In h) (o1:K.lookup Bx=some ⟨.type "type",dd,.cls cd,sl⟩) (m1:PySem.W.mroIn K Bx (.type "BaseException")=some true) (he:h.get? e=some oe) (hc:oe.cls = .ref C) (m2:PySem.W.mroIn K C (.ref Bx)=some true)
  (hq:Q true ⟨h,g,d,t,os⟩):wpAny M A (excMatches (.ref e) (.ref Bx)) Q E ⟨h,g,d,t,os⟩:=by
 have hB:=X _ _ o1
 have L4:=PySem.W.looks_mroIn (M:=M) X m1
 have L5:=PySem.W.looks_mroIn (M:=M) X m2
 have f:=tc_notTuple
 unfold excMatches
 repeat (first |(with_reducible refine wpAny_loadPart_at he ?_;rw [hc]) |with_reducible refine wpAny_loadPart_at hB ?_ |with_reducible refine L4.at ?_ |with_reducible refine L5.at ?_ |wp_step)
 exact hq
end
def Jb (X:Cx) (pins:List (Addr×Obj)) (xe:Value->Shared->Prop):Cx:={ X with xe:=xe,pn:=X.pn++pins }
def suX (X:Cx) (ea:Addr):Cx:={ X with A:=X.A.mark (some (.ref ea)),calm:=false,xe:=fun _ _=>False }
abbrev qE7:HO := .ext fun _=>True
section
variable {X:Cx} {pins:List (Addr×Obj)} {σ:L2.St} {H:Hp} {s:Shared} {xe:Value->Shared->Prop}
theorem qF7 (I:L2.Inv X pins σ H s):L2.Inv (Jb X pins xe) [] σ H s :=
 ⟨⟨I.ok.mod,I.ok.kind,I.ok.glob,I.ok.blt,I.ok.above,I.ok.inj,I.ok.has,I.ok.cab,I.ok.hd,I.ok.frames,I.ok.stk,I.ok.exf,I.ok.bs,I.ok.bsz,I.ok.noex,I.ok.exfs,I.ok.funs,I.ok.frf⟩,I.os,I.bare,I.base,I.loc,I.cell,I.free,I.freeC,
  fun p hp=>I.pin p (by simpa [Jb] using hp),I.hok,I.len,I.hnd⟩
theorem zA {pins':List (Addr×Obj)} (I:L2.Inv (Jb X pins xe) pins' σ H s):L2.Inv X pins σ H s :=
 ⟨⟨I.ok.mod,I.ok.kind,I.ok.glob,I.ok.blt,I.ok.above,I.ok.inj,I.ok.has,I.ok.cab,I.ok.hd,I.ok.frames,I.ok.stk,I.ok.exf,I.ok.bs,I.ok.bsz,I.ok.noex,I.ok.exfs,I.ok.funs,I.ok.frf⟩,I.os,I.bare,I.base,I.loc,I.cell,I.free,I.freeC,
  fun p hp=>I.pin p (List.mem_append_left _ hp),I.hok,I.len,I.hnd⟩
theorem qE5 {D:Ends} {f:Flow} (q:SP (Jb X pins xe) [] D f s):SP X pins D f s:=by
 cases f with
 |next=>obtain ⟨a,b,c,d⟩:=q;exact ⟨a,b,zA c,d⟩
 |brk=>obtain ⟨a,b,c,d⟩:=q;exact ⟨a,b,zA c,d⟩
 |cont=>obtain ⟨a,b,c,d⟩:=q;exact ⟨a,b,zA c,d⟩
 |ret u=>obtain ⟨v,a,b,c,d⟩:=q;exact ⟨v,a,b,zA c,d⟩
theorem qCi (I:L2.Inv X pins σ H s) {ea:Addr} {oe:Obj} (hn:H ea=none) (ho:s.heap.get? ea=some oe) (h0:X.s₀.heap.get? ea=none) (hL:ea≠X.env.locals) (hC:∀ x c,X.env.cells.lookup x=some c->c≠ea) (hP:∀ p∈X.pn++pins,p.1≠ea) :
  L2.Inv X pins σ (upd H ea (.frz oe qE7)) s:=by
 have ne:∀ b u,H b=some u->b≠ea:=fun b u e z=>by rw [z,hn] at e;cases e
 have nb:∀ b o,X.s₀.heap.get? b=some o->b≠ea:=fun b o e z=>by rw [z,h0] at e;cases e
 refine ⟨I.ok,I.os,I.bare,⟨I.base.keep,I.base.slot,fun b o e n hx => ?_,I.base.there,fun b xs e => ?_,fun b o u e => ?_,fun b ps e => ?_⟩,I.loc,I.cell,?_,fun x c e => ?_,fun p hp => ?_,fun b u e => ?_,I.len,fun v hv => ?_⟩
 ·rw [qL (nb b o e)];exact I.base.free b o e n hx
 ·have:=I.base.tups b xs e;rw [qL (ne b _ this)];exact this
 ·have:=I.base.frzs b o u e;rw [qL (ne b _ this)];exact this
 ·obtain ⟨m,this⟩:=I.base.tbls b ps e;exact ⟨m,by rw [qL (ne b _ this)];exact this⟩
 ·rw [qL (Ne.symm hL)];exact I.free
 ·rw [qL (hC x c e)];exact I.freeC x c e
 ·obtain ⟨a,b,c,d⟩:=I.pin p hp
  exact ⟨a,by rw [qL (hP p hp)];exact b,c,d⟩
 ·by_cases hb:b=ea
  ·subst hb
   rw [qd] at e;cases e
   exact ⟨ho,trivial,⟨oe,ho⟩,fun _ _ z _=>z⟩
  ·rw [qL hb] at e
   exact (I.hok b u e).stay (fun _ _ _ z=>z) (fun c z=>by rw [qL (ne c _ z)];exact z) fun c xs z=>by rw [qL (ne c _ z)];exact z
 ·obtain ⟨a,o,u,vs,e1,e2,e3⟩:=I.hnd v hv
  exact ⟨a,o,u,vs,e1,by rw [qL (ne a _ e2)];exact e2,e3⟩
theorem qDB (I:L2.Inv X pins σ H s) {ea:Addr} {oe:Obj} {u:HO} {vs:Array Value} (h1:H ea=some (.frz oe u)) (h2:oe.data = .fields vs) (h3:vs[2]? = some Value.none):L2.Inv (suX X ea) pins σ H s :=
 ⟨⟨I.ok.mod,I.ok.kind,I.ok.glob,I.ok.blt,I.ok.above,I.ok.inj,I.ok.has,I.ok.cab,(fun z=>absurd (show false=true from z) Bool.false_ne_true),I.ok.frames,I.ok.stk,I.ok.exf,I.ok.bs,I.ok.bsz,I.ok.noex,I.ok.exfs,I.ok.funs,I.ok.frf⟩,I.os,I.bare,I.base,I.loc,I.cell,I.free,I.freeC,
  I.pin,I.hok,I.len,fun v hv=>by
   have hv:some (Value.ref ea)=some v:=hv
   cases hv
   exact ⟨ea,oe,u,vs,rfl,h1,h2,h3⟩⟩
theorem Jf {ea:Addr} (ok:X.Ok) (hc:X.calm=true) (I:L2.Inv (suX X ea) pins σ H s):L2.Inv X pins σ H s :=
 ⟨ok,I.os,I.bare,I.base,I.loc,I.cell,I.free,I.freeC,I.pin,I.hok,I.len,HndH.none (ok.hd hc)⟩
theorem qDs (I:L2.Inv X pins σ H s) (hN:X.N.Nodup) {i:Nat} {n:Str} (hi:X.N[i]? = some n) {m:Str->Option Value} {v:Option Value} {h':Heap} {tk:Nat} (hm:∀ (j:Nat) (x:Str) (w:V),X.N[j]? = some x->σ[j]? = some (some w)->Vis X.env.scope x -> ∃ u,RelV w u∧qJt X.env s.heap m x u)
  (hn:h'.Ns X.env.locals (fun x=>if x=n then v else m x)) (hs:Heap.SameBut X.env.locals s.heap h'):L2.Inv X pins (σ.set i none) H { s with heap:=h',toks:=tk }:=by
 have cne:=I.cne
 refine ⟨I.ok,I.os,I.bare,⟨fun b o e n hb hx => ?_,fun b o e n hb hx => ?_,I.base.free,fun b o e hx => ?_,I.base.tups,I.base.frzs,I.base.tbls⟩,⟨_,hn,fun j y w e1 e2 e3 => ?_⟩,fun y c e => ?_,I.free,I.freeC,fun p hp => ?_,fun b ob e => ?_,by simpa using I.len,I.hnd⟩
 ·exact (hs.2 b (Nat.ne_of_lt (Nat.lt_of_lt_of_le (Heap.lt_size e) I.ok.above))).trans (I.base.keep b o e n hb hx)
 ·obtain ⟨sl,e1⟩:=I.base.slot b o e n hb hx
  exact ⟨sl,(hs.2 b (Nat.ne_of_lt (Nat.lt_of_lt_of_le (Heap.lt_size e) I.ok.above))).trans e1⟩
 ·obtain ⟨o',e1⟩:=I.base.there b o e hx
  exact ⟨o',(hs.2 b (Nat.ne_of_lt (Nat.lt_of_lt_of_le (Heap.lt_size e) I.ok.above))).trans e1⟩
 ·have hj:j≠i:=fun z=>by
   subst z
   by_cases hl:j < σ.length
   ·rw [List.getElem?_set_self hl] at e2;cases e2
   ·rw [List.getElem?_eq_none (by simpa using hl)] at e2;cases e2
  rw [List.getElem?_set_ne (Ne.symm hj)] at e2
  obtain ⟨u,r,l⟩:=hm j y w e1 e2 e3
  refine ⟨u,r,?_⟩
  rcases l with ⟨k,l⟩ |⟨k,c,e,z⟩
  ·refine .inl ⟨k,?_⟩
   have:y≠n:=fun e=>hj (YK hN e1 (e ▸ hi))
   simp [this,l]
  ·exact .inr ⟨k,c,e,z.sameBut hs (cne y c e)⟩
 ·obtain ⟨w',z⟩:=I.cell y c e
  exact ⟨w',z.sameBut hs (cne y c e)⟩
 ·obtain ⟨e,n,ne,nf,d⟩:=I.pin p hp
  exact ⟨(hs.2 p.1 ne).trans e,n,ne,nf,d⟩
 ·refine (I.hok b ob e).stay (fun c w' hc q=>(hs.2 c ?_).trans q) (fun _ q=>q) fun _ _ q=>q
  rintro rfl
  rcases hc with rfl |hc
  ·rw [I.free] at e;cases e
  ·rw [I.free] at hc;cases hc
def qLP (i k:Nat) (ok:Value->Prop) (tb:XK->TS) (th:TS):TS:=fun D σ H=>tb (fun cls dd H1=>ok cls ∧ ∀ (σ':L2.St) (ea:Addr) (oe:Obj),σ'.length=k->H1 ea=none->oe.cls=cls->oe.dict=dd->(∃ vs,oe.data = .fields vs) ->
 th { nx:=fun σ2 H2=>D.nx (σ2.set i none) H2,rt:=D.rt,bk:=fun σ2 H2=>D.bk (σ2.set i none) H2,ct:=fun σ2 H2=>D.ct (σ2.set i none) H2 } (σ'.set i (some (.ref ea))) (upd H1 ea (.frz oe qE7))) D σ H
structure FrameX (X:Cx):Prop where
 stk:X.stack=X.env::X.outer
 fr:X.env.frame=some X.env.locals
 ex:X.ex=[]
theorem got {P:Program} {w:World} {H:Hp} {h:Heap} {a:Addr} {o:HO} (x:ObjOk P w H h a o):∃ u,h.get? a=some u:=by
 cases o with
 |lst xs=>obtain ⟨_,_,_,_,e⟩:=x;exact ⟨_,e⟩
 |tup xs=>obtain ⟨_,_,_,o,e,_⟩:=x;exact ⟨_,e⟩
 |dK kvs=>obtain ⟨_,_,_,_,o,_,_,e,_⟩:=x;exact ⟨_,e⟩
 |dT kvs=>obtain ⟨_,_,_,_,o,_,_,e,_⟩:=x;exact ⟨_,e⟩
 |set S n=>obtain ⟨o,_,_,_,e,_⟩:=x;exact ⟨_,e⟩
 |ins C dx fs=>obtain ⟨_,_,_,e,_⟩:=x;exact ⟨_,e⟩
 |own y=>exact x
 |xd fs=>obtain ⟨_,⟨_,_,_,e,_⟩,_⟩:=x;exact ⟨_,e⟩
 |rng lo hi=>obtain ⟨_,_,_,e⟩:=x;exact ⟨_,e⟩
 |frz ob u=>obtain ⟨e,_⟩:=x;exact ⟨_,e⟩
 |tbl ps=>exact ⟨_,x⟩
 |met f y=>exact ⟨_,x⟩
 |ext φ=>obtain ⟨_,e,_⟩:=x;exact e
theorem qId {X:Cx} {x n:Str} {i:Nat} {Bx:Addr} {dd:Option Addr} {cd:ClassData} {sl:Array (Option Value)} {body:List Stmt} {b0:Stmt} {suite:List Stmt} {np hpos pos:Pos} {ok:Value->Prop} {tb:XK->TS} {th:TS} (FX:FrameX X) (hc:X.calm=true) (hN:X.N.Nodup) (hi:X.N[i]? = some n) (hl:X.env.scope.names.lookup n=some .local)
  (hg:Gl X x) (hm:X.mg x=some (.ref Bx)) (o1:X.K.lookup Bx=some ⟨.type "type",dd,.cls cd,sl⟩) (m1:PySem.W.mroIn X.K Bx (.type "BaseException")=some true) (hok:∀ v,ok v -> ∃ C,v = .ref C∧PySem.W.mroIn X.K C (.ref Bx)=some true)
  (hb:∀ (pins:List (Addr×Obj)) (xe:Value->Shared->Prop) (E':XK),zX (CXF X.prog X.w) (Jb X pins xe) E'->PSs (Jb X pins xe) body (tb E')) (hh:∀ ea,PSs (suX X ea) (b0::suite) th) (hdb:(x==("__debug__":Str))=false:=by decide) :
  PS X (.Try body [.ExceptHandler (some (.Name x np)) (some n) (b0::suite) hpos] [] [] pos) (qLP i X.N.length ok tb th):=by
 intro pins s σ H D I h
 refine wpAny_Try_except ?_
 generalize hE:(fun (cls:Value) (dd:Option Addr) (H1:Hp)=>ok cls ∧ ∀ (σ':L2.St) (ea:Addr) (oe:Obj),σ'.length=X.N.length->H1 ea=none->oe.cls=cls->oe.dict=dd->(∃ vs,oe.data = .fields vs) ->
  th { nx:=fun σ2 H2=>D.nx (σ2.set i none) H2,rt:=D.rt,bk:=fun σ2 H2=>D.bk (σ2.set i none) H2,ct:=fun σ2 H2=>D.ct (σ2.set i none) H2 } (σ'.set i (some (.ref ea))) (upd H1 ea (.frz oe qE7)))=E'
 have h:tb E' D σ H:=by rw [← hE];exact h
 refine wpAny_mono (hb pins _ E' ?_ [] s σ H D (qF7 I) h) (fun f s1 q => ?_) fun e s1 q=>q
 rotate_left
 ·have q:=qE5 q
  cases f with
  |next=>exact wpAny_execs_nil q
  |brk=>exact q
  |cont=>exact q
  |ret u=>exact q
 ·intro pins' σ' H' s1 e s2 J c
  obtain ⟨ea,cls,d2,B,H1,rfl,fl,hok1,os,bare,un,sl1,qE⟩:=c
  have J':=zA J
  rw [← hE] at qE
  obtain ⟨q1,q2⟩:=qE
  obtain ⟨C,rfl,m2⟩:=hok cls q1
  have fr':X.A.frames=some (X.env::X.outer):=by rw [← FX.stk];exact I.ok.frames
  have fl':Fly B (X.env::X.outer) ea (.ref C) d2 .none s2.heap:=by rw [← FX.stk];exact fl
  have un:UnB (frs X.stack) H' H1 s1.heap B:=un
  have sl1:∀ b∈frs X.stack,∀ o,s1.heap.get? b=some o -> ∃ sl,s2.heap.get? b=some { o with slots:=sl }:=sl1
  have stk1:s1.heap.FunFrames X.base X.stack:=J'.stack
  have baseB:∀ b o,X.base.get? b=some o->B.get? b=some o:=fun b o z=>un.keep b o (J'.bs b o z).1 (J'.bs b o z).2 fun hm=>by rw [(stk1.mem hm).1] at z;cases z
  refine Y8 (A:=X.A) fr' FX.fr fl' fun h4 x4 u4=>qBs x4 fun h5 x5 u5 => ?_
  have ns5:h5.Ns X.env.globals X.mg:=by rw [I.ok.glob];exact I.mod.glob.keeps fun b o z=>x5.1 b o (baseB b o z)
  have k5:X.K.In h5:=I.ok.mod.kin.keeps fun b o z=>x5.1 b o (baseB b o z)
  obtain ⟨_,_,_,oe5,_,_,_,_,he5,hc5,_⟩:=id x5
  refine wpAny_handleBy_cons (codeAny_handlers_test (Calls.Name_function_global I.ok.kind hg (Calls.loadGlobal_global ns5 hm ?_) hdb)) (by intro q;cases q)
  refine qAN k5 o1 m1 he5 hc5 m2 (codeAny_handlers_suite_as (qBs x5 fun h6 x6 u6 => ?_))
  have u26:s2.heap.UpToSlots h6:=(u4.trans u5).trans u6
  obtain ⟨k1,k2,k3,oe,vs,T,oT,ts,g1,g2,g3,g4,g5,g6,g7⟩:=x6
  have nf:∀ b∈frs X.stack,∀ o,s1.heap.get? b=some o -> ∀ vs,o.data ≠ .fields vs:=fun b hb o z=>by
   obtain ⟨_,o2,ho2,nf⟩:=stk1.mem hb
   rw [z] at ho2;cases ho2;exact nf
  have slN:∀ b∈frs X.stack,∀ o,s1.heap.get? b=some o -> ∃ sl,h6.get? b=some { o with slots:=sl }:=fun b hb o z=>by
   obtain ⟨sl2,z2⟩:=sl1 b hb o z
   obtain ⟨sl3,z3⟩:=u26 b _ z2 (nf b hb o z)
   exact ⟨sl3,z3⟩
  have I6:L2.Inv X pins σ' H1 { s2 with heap:=h6 }:=J'.call' (s':={ s2 with heap:=h6 }) (ch:=[]) os (CXF.un (P:=X.prog) (w:=X.w) (s:=s1) (s':={ s2 with heap:=h6 }) k1 un slN) (hok1.kept k1) bare fun b z=>by cases z
  have neW:∀ b o,s1.heap.get? b=some o->b≠ea:=fun b o z hz=>by
   subst hz
   by_cases hb:b∈frs X.stack
   ·obtain ⟨sl2,z2⟩:=slN b hb o z
    rw [g1] at z2;cases z2
    exact nf b hb o z vs g4
   ·obtain ⟨o',z'⟩:=un.there b o z hb
    rw [k2] at z';cases z'
  have hn1:H1 ea=none:=by
   cases z:H1 ea with
   |none=>rfl
   |some u=>obtain ⟨o',z'⟩:=got (hok1 ea u z);rw [k2] at z';cases z'
  have I7:L2.Inv X pins σ' (upd H1 ea (.frz oe qE7)) { s2 with heap:=h6 }:=by
   refine qCi I6 hn1 g1 ?_ ?_ (fun x c z => ?_) fun p hp => ?_
   ·cases z:X.s₀.heap.get? ea with
    |none=>rfl
    |some o=>obtain ⟨o',z'⟩:=J'.base.there ea o z (by rw [FX.ex];simp);exact (neW ea o' z' rfl).elim
   ·obtain ⟨m,⟨o,_,_,z,_⟩,_⟩:=J'.loc
    exact Ne.symm (neW _ o z)
   ·obtain ⟨v,o,z',_⟩:=J'.cell x c z
    exact neW c o z'
   ·exact neW p.1 p.2 (J'.pin p hp).1
  have I8:=qDB I7 qd g4 g6
  refine wX (X:=suX X ea) (v := .ref ea) I8 hN hi (.inl hl) (show RelV (.ref ea) (.ref ea) from rfl) (fun s7 I9 => ?_) (.inr hl)
  have hlen:σ'.length=X.N.length:=J'.len
  refine wpAny_noRaise (thn (hh ea pins s7 _ _ _ I9 (q2 σ' ea oe hlen hn1 g2 g3 ⟨vs,g4⟩)) fun f s8 q => ?_)
  have hp:(X.env.scope.kind == .class || (X.env.scope.kind == .module&&X.env.locals != X.env.globals))=false:=by rw [I.ok.kind];rfl
  have goes:∀ {σ8:L2.St} {H8:Hp} {Q:Shared->Prop},L2.Inv (suX X ea) pins σ8 H8 s8->(∀ s9,L2.Inv X pins (σ8.set i none) H8 s9->Q s9)->wpAny (model X.prog X.w) X.A (do bindName X.env n .none;unbindBehindTheSuite X.env n hpos) (fun _ s9=>Q s9) X.xe s8:=fun {σ8 H8 Q} I8 hQ=>by
   have I9:=Jf I.ok hc I8
   obtain ⟨m,hn,hl'⟩:=id I9.loc
   exact wpAny_nameGoes_keeps hl hn hp fun h9 v hn9 hs9=>hQ _ (qDs I9 hN hi hl' hn9 hs9)
  cases f with
  |next=>obtain ⟨σ8,H8,I8,q8⟩:=q;exact goes I8 fun s9 I9=>⟨_,H8,I9,q8⟩
  |brk=>obtain ⟨σ8,H8,I8,q8⟩:=q;exact goes I8 fun s9 I9=>⟨_,H8,I9,q8⟩
  |cont=>obtain ⟨σ8,H8,I8,q8⟩:=q;exact goes I8 fun s9 I9=>⟨_,H8,I9,q8⟩
  |ret u=>obtain ⟨v,σ8,H8,I8,r8,q8⟩:=q;exact goes I8 fun s9 I9=>⟨v,_,H8,I9,r8,q8⟩
end
def Zl (A:Around):List Addr:=match A.handled with
 |some (.ref ea)=>[ea]
 |_=>[]
theorem Hnd.frame {A:Around} {h h':Heap} (x:Hnd A h) (k:∀ b∈Zl A,∀ o,h.get? b=some o->h'.get? b=some o):Hnd A h':=fun v hv=>by
 obtain ⟨ea,oe,vs,e1,e2,e3⟩:=x v hv
 subst e1
 exact ⟨ea,oe,vs,rfl,k ea (by unfold Zl;rw [hv];simp) oe e2,e3⟩
theorem qHV {A:Around} {I:Addr} (hI:∀ ea∈Zl A,ea≠I):∀ v,A.handled=some v->v ≠ .ref I:=fun v hv z=>by
 subst z
 exact hI I (by unfold Zl;rw [hv];simp) rfl
theorem qA0 {prog:Program} {w:World} {A:Around} (I ax:Addr) (hne:ax≠I) (items:Array Value) (hI:∀ ea∈Zl A,ea≠I) :
  Walks prog w A I (I::ax::Zl A) [I] items.size (fun i v=>items[i]? = some v) (fun i h=>(h.IsListIter I ax i∧h.IsList ax items)∧Hnd A h) where
 sub:=fun b hb=>by simp at hb;simp [hb]
 frame:=fun _ _ _ st hk=>⟨⟨st.1.1.at fun o e=>hk I (by simp) o e,st.1.2.at fun o e=>hk ax (by simp) o e⟩,st.2.frame fun b hb o e=>hk b (by simp [hb]) o e⟩
 item:=fun i s Q E hi st hQ=>wpAny_pyNext_list_item st.1.1 st.1.2 (x:=items[i]) (by simp [hi]) fun h' z1 z2 =>
  hQ _ h' s.toks (by simp [hi]) ⟨⟨z1,st.1.2.extBut z2.extBut hne⟩,st.2.frame fun b hb o e=>(z2.2 b (hI b hb)).trans e⟩ fun b o hb e=>z2.extBut b o (fun h=>hb (by simp [h])) e
 done:=fun s Q E st hQ=>list_end st.2 st.1.1 st.1.2 (by simp) (qHV hI) fun h' z=>hQ h' s.toks fun b o hb e=>z b o (fun h=>hb (by simp [h])) e
 self:=fun _ _ _ _ st hQ=>wpAny_pyIter_listiter st.1.1 hQ
theorem Ju {prog:Program} {w:World} {A:Around} (I ax:Addr) (hne:ax≠I) (items:Array Value) (hI:∀ ea∈Zl A,ea≠I) :
  Walks prog w A I (I::ax::Zl A) [I] items.size (fun i v=>items[i]? = some v) (fun i h=>(h.IsTupleIter I ax i∧h.IsTuple ax items)∧Hnd A h) where
 sub:=fun b hb=>by simp at hb;simp [hb]
 frame:=fun _ _ _ st hk=>⟨⟨st.1.1.at fun o e=>hk I (by simp) o e,st.1.2.at fun o e=>hk ax (by simp) o e⟩,st.2.frame fun b hb o e=>hk b (by simp [hb]) o e⟩
 item:=fun i s Q E hi st hQ=>wpAny_pyNext_tuple_item st.1.1 st.1.2 (x:=items[i]) (by simp [hi]) fun h' z1 z2 =>
  hQ _ h' s.toks (by simp [hi]) ⟨⟨z1,st.1.2.extBut z2.extBut hne⟩,st.2.frame fun b hb o e=>(z2.2 b (hI b hb)).trans e⟩ fun b o hb e=>z2.extBut b o (fun h=>hb (by simp [h])) e
 done:=fun s Q E st hQ=>tuple_end st.2 st.1.1 st.1.2 (by simp) (qHV hI) fun h' z=>hQ h' s.toks fun b o hb e=>z b o (fun h=>hb (by simp [h])) e
 self:=fun _ _ _ _ st hQ=>wpAny_pyIter_tupleiter st.1.1 hQ
section
variable {X:Cx} {pins:List (Addr×Obj)} {σ:L2.St} {H:Hp} {s:Shared}
theorem qHU (I:L2.Inv X pins σ H s):∀ ea∈Zl X.A,ea≠s.heap.objs.size:=fun ea hea=>by
 have hd:X.A.handled=some (.ref ea):=by
  unfold Zl at hea
  split at hea
  ·rename_i a ha;rw [List.mem_singleton.mp hea];exact ha
  ·cases hea
 obtain ⟨a,oe,vs,e1,e2,_⟩:=I.hndH _ hd
 cases e1
 exact Nat.ne_of_lt (Heap.lt_size e2)
theorem jA (I:L2.Inv X pins σ H s) {p:Addr} {its:List Value} (pl:PlainL s.heap p its.toArray) {E:Value->Shared->Prop} {Q:Value->Shared->Prop}
  (h:Walks X.prog X.w X.A.in1 s.heap.objs.size (s.heap.objs.size::p::Zl X.A) [s.heap.objs.size] its.toArray.size (fun i v=>its.toArray[i]? = some v) (fun i h=>(h.IsListIter s.heap.objs.size p i∧h.IsList p its.toArray)∧Hnd X.A.in1 h) ->
   ((s.heap.push { cls := .type "list_iterator",data := .fields #[.ref p,.int 0 0] }).IsListIter s.heap.objs.size p 0∧(s.heap.push { cls := .type "list_iterator",data := .fields #[.ref p,.int 0 0] }).IsList p its.toArray)∧Hnd X.A.in1 (s.heap.push { cls := .type "list_iterator",data := .fields #[.ref p,.int 0 0] }) ->
   (∀ b∈s.heap.objs.size::p::Zl X.A,b < (s.heap.push { cls := .type "list_iterator",data := .fields #[.ref p,.int 0 0] }).objs.size) ->
   (∀ h':Heap,(∀ b o,b ∉ [s.heap.objs.size]->(s.heap.push { cls := .type "list_iterator",data := .fields #[.ref p,.int 0 0] }).get? b=some o->h'.get? b=some o) -> ∀ b o,s.heap.get? b=some o->h'.get? b=some o) ->
   Q (.ref s.heap.objs.size) { s with heap:=s.heap.push { cls := .type "list_iterator",data := .fields #[.ref p,.int 0 0] } }) :
  wpAny (model X.prog X.w) X.A.in1 (pyIter (.ref p)) Q E s:=by
 obtain ⟨ob,po,_⟩:=id pl.isList
 have hlt:p < s.heap.objs.size:=Heap.lt_size po
 refine wpAny_pyIter_list pl.isList (h (qA0 _ p (Nat.ne_of_lt hlt) _ (qHU I)) ⟨⟨⟨_,Heap.get?_push_size _ rfl,rfl,rfl⟩,pl.isList.at fun o e=>Heap.get?_push_of_some _ e⟩,?_⟩ (fun b hb => ?_) fun h' k b o e => ?_)
 ·exact Hnd.frame (show Hnd X.A.in1 s.heap from I.hndH) fun b _ o e=>Heap.get?_push_of_some _ e
 ·rw [Heap.size_push]
  rcases List.mem_cons.mp hb with rfl |hb
  ·exact Nat.lt_succ_self _
  ·rcases List.mem_cons.mp hb with rfl |hb
   ·exact Nat.lt_succ_of_lt hlt
   ·have hd:X.A.handled=some (.ref b):=by
     unfold Zl at hb
     split at hb
     ·rename_i a ha;rw [List.mem_singleton.mp hb];exact ha
     ·cases hb
    obtain ⟨a,oe,vs,e1,e2,_⟩:=I.hndH _ hd
    cases e1
    exact Nat.lt_succ_of_lt (Heap.lt_size e2)
 ·exact k b o (by simp;exact Nat.ne_of_lt (Heap.lt_size e)) (Heap.get?_push_of_some _ e)
theorem qCP:∀ {bs:List Bool} {us:List Value},Vals (bs.map V.bl) us->us=bs.map Value.bool
 |[],_,.nil=>rfl
 |b::bs,_,.cons r t=>by rw [show _=Value.bool b from r,qCP t];rfl
theorem Zj:∀ {ns:List Int} {us:List Value} {i:Nat} {v:Value},Vals (ns.map V.int) us->us[i]? = some v -> ∃ t,v=Value.int (ns.getD i 0) t
 |[],_,_,_,.nil,e=>by simp at e
 |n::ns,_,0,_,.cons r t,e=>by simp at e;subst e;exact r
 |n::ns,_,i + 1,v,.cons r t,e=>by simpa using Zj (i:=i) t (by simpa using e)
theorem qEr {prog:Program} {w:World} {A:Around} {bs:List Bool}:TruthOf prog w A (fun i v=>(bs.map Value.bool).toArray[i]? = some v) (fun i=>bs.getD i false):=fun i v s Q E hP hQ=>by
 have hP:(bs.map Value.bool).toArray[i]? = some v:=hP
 rw [List.getElem?_toArray,List.getElem?_map] at hP
 cases e:bs[i]? with
 |none=>rw [e] at hP;cases hP
 |some b =>
  rw [e] at hP;cases hP
  have hQ:Q (bs.getD i false) s:=hQ
  rw [List.getD_eq_getElem?_getD,e] at hQ
  exact wpAny_pure hQ
theorem qDJ (bs:List Bool):(List.range bs.length).all (fun i=>bs.getD i false)=bs.all id:=by
 induction bs with
 |nil=>rfl
 |cons b bs ih =>
  rw [List.length_cons,List.range_succ_eq_map,List.all_cons,List.all_map,List.all_cons]
  have:(((fun i=>(b::bs).getD i false) ∘ Nat.succ))=fun i=>bs.getD i false:=by funext i;simp
  rw [this,ih];simp
theorem qDQ:Ws X (.builtin "all") (fun xs H Q => ∃ (p:Addr) (bs:List Bool),xs=[.ref p]∧SqL X.K H p (bs.map V.bl)∧Q (.bl (bs.all id)) H):=by
 intro pins s σ H xs us Q I r h
 obtain ⟨p,bs,rfl,hq,q⟩:=h
 obtain ⟨u,rfl,rx⟩:=yJ r
 cases rx
 obtain ⟨its,r',pl,hz⟩:=I.list hq
 have e:=qCP r'
 subst e
 refine call_all_walk (jA I pl fun W st fp k=>⟨_,_,_,_,_,_,_,rfl,W,st,qEr,fun h' tk hk => ?_⟩)
 rw [show (bs.map Value.bool).toArray.size=bs.length by simp,qDJ]
 exact ⟨.bl _,H,I.kept (k h' hk),rfl,q⟩
theorem yH (ns:List Int):∀ k,k≤ns.length->preSum (fun i=>ns.getD i 0) k=(ns.take k).sum
 |0,_=>by simp [preSum]
 |k + 1,h=>by
  have hk:k < ns.length:=h
  rw [preSum,yH ns k (Nat.le_of_lt hk),List.take_succ_eq_append_getElem hk,List.sum_append]
  simp [List.getD_eq_getElem?_getD,hk]
theorem qDK:Ws X (.builtin "sum") (fun xs H Q => ∃ (p:Addr) (ns:List Int),xs=[.ref p]∧SqL X.K H p (ns.map V.int)∧Q (.int ns.sum) H):=by
 intro pins s σ H xs us Q I r h
 obtain ⟨p,ns,rfl,hq,q⟩:=h
 obtain ⟨u,rfl,rx⟩:=yJ r
 cases rx
 obtain ⟨its,r',pl,hz⟩:=I.list hq
 have hl:=r'.length
 refine call_sum_walkAnyS (jA I pl fun W st fp k=>⟨_,_,_,_,_,_,_,fun i=>ns.getD i 0,rfl,W.toS,st,fp,fun i v hv=>Zj r' (by simpa using hv),fun s' t' m => ?_⟩)
 have hsz:its.toArray.size=ns.length:=by rw [List.size_toArray,← hl,List.length_map]
 rw [hsz,yH ns _ (Nat.le_refl _),List.take_length]
 obtain ⟨hh,g,d,t,o⟩:=s'
 have g1:g=s.gens:=m.gens
 have d1:d=s.drawn:=m.drawn
 have o1:o=s.os:=m.os
 subst g1;subst d1;subst o1
 exact ⟨.int _,H,I.kept (k hh fun b o hb e=>m.heap b o hb e),⟨t',rfl⟩,q⟩
end
theorem qFW {K:W.Frag} {x D:Addr} (C:ExcK K D):PySem.W.KitX K (.ref x) (.ref D) (fun h => ∃ ox od,PySem.W.InstAt h x ox D od):=by
 obtain ⟨cd,hcd,_⟩:=Option.bind_eq_some_iff.mp (C.fo none)
 unfold PySem.W.clsIn at hcd
 split at hcd
 ·rename_i c' d' cd' sl' ho
  refine ⟨fun _ _ _ ⟨ox,od,I⟩=>I.type,fun M h X p => ?_,fun h tp dd its n sl X htp => ?_,fun {prog w A E Q s} X ⟨ox,od,I⟩ k=>qCs C X I k⟩
  ·intro A' Q' E' s' k q
   unfold isType loadHead
   exact wpAny_bind (wpAny_loadPart (k _ _ (X _ _ ho)) (wpAny_pure q))
  ·refine Bool.eq_false_iff.mpr fun q => ?_
   have e:D=tp:=Value.ref.inj (beq_iff_eq.mp q)
   subst e
   have z:=(X _ _ ho).symm.trans htp
   cases z
 ·cases hcd
end EX
end
section
namespace EV
open PySem PySem.Spec PyProof.Rows L2
inductive PV where
 |non |bl (b:Bool) |int (i:Int) |str (x:Str) |tup (l:List PV) |lst (l:List PV) |ref (i:Nat) |dct |ty (n:String) |fn (a:Addr) |exc (c:Addr) (fs:List (Str×Int))
inductive SO where
 |l (xs:List PV)
 |d (kvs:List (List L2.Key×PV))
 |z (kvs:List (List L2.Key×PV))
abbrev qC:=List SO
structure Exc where
 cls:Addr
 fs:List (Str×Int)
inductive Rs (α:Type) where
 |ok (a:α) (st:qC) |ex (x:Exc) (st:qC) |no
def Rs.bind {α β:Type} (r:Rs α) (k:α->qC->Rs β):Rs β:=match r with
 | .ok a st=>k a st
 | .ex x st => .ex x st
 | .no => .no
abbrev qf:=List (Option PV)
abbrev FE:=qf->qC->Rs PV
abbrev FA:=qf->qC->Rs (List PV)
abbrev FT:=qf->qC->Rs Bool
inductive RS where
 |nx (e:qf) (st:qC) |rt (v:PV) (st:qC) |bk (e:qf) (st:qC) |ct (e:qf) (st:qC) |ex (x:Exc) (st:qC) |no
abbrev FS:=qf->qC->RS
structure Bz where
 b:List Addr
 z:List Addr
def Bz.out (b:Bz) (a:Addr):Prop:=a ∉ b.b∧a ∉ b.z
def KL (K:W.Frag) (a:Addr) (xs:List V):Prop :=
 ∃ (o:Obj) (its:Array Value) (n:Nat),K.lookup a=some o∧o.cls = .type "list" ∧ o.dict=none∧o.data = .seq its n∧its.size≤sizeLine∧Vals xs its.toList
def KT (K:W.Frag) (a:Addr) (xs:List V):Prop :=
 ∃ (o:Obj) (its:Array Value) (n:Nat),K.lookup a=some o∧o.cls = .type "tuple" ∧ o.data = .seq its n∧its.size≤sizeLine∧Vals xs its.toList
def LA (K:W.Frag) (H:Hp) (b:Bz) (a:Addr) (xs:List V):Prop:=(Rd H a (.lst xs)∧b.out a)∨KL K a xs
def TA' (K:W.Frag) (H:Hp) (b:Bz) (a:Addr) (xs:List V):Prop:=(H a=some (.tup xs)∧b.out a)∨KT K a xs
mutual
def RV (K:W.Frag) (H:Hp) (b:Bz):PV->V->Prop
 | .non,v=>v = .non
 | .bl x,v=>v = .bl x
 | .int i,v=>v = .int i
 | .str x,v=>v = .str x
 | .tup l,v => ∃ a xs,v = .ref a∧TA' K H b a xs∧RVs K H b l xs
 | .lst l,v => ∃ a xs,v = .ref a∧LA K H b a xs∧RVs K H b l xs
 | .ref i,v => ∃ a,v = .ref a∧b.b[i]? = some a
 | .dct,v => ∃ a,v = .ref a∧H a=some (.dK [])∧b.out a
 | .ty n,v=>v = .ty n
 | .fn a,v=>v = .ref a
 | .exc c fs,v => ∃ a o u,v = .ref a∧H a=some (.frz o u)∧b.out a∧o.cls = .ref c∧(∃ vs,o.data = .fields vs)∧((fs=[]∧o.dict=none) ∨ ∃ d,o.dict=some d∧H d=some (.xd (fs.map fun p=>(p.1,V.int p.2)))∧b.out d)
def RVs (K:W.Frag) (H:Hp) (b:Bz):List PV->List V->Prop
 |[],xs=>xs=[]
 |p::ps,xs => ∃ x r,xs=x::r∧RV K H b p x∧RVs K H b ps r
end
def SOk (K:W.Frag) (H:Hp) (b:Bz):SO->HO->Prop
 | .l xs,o => ∃ vs,o = .lst vs∧RVs K H b xs vs
 | .d kvs,o => ∃ vs,o = .dT vs∧kvs.map (·.1)=vs.map (·.1)∧RVs K H b (kvs.map (·.2)) (vs.map (·.2))
 | .z kvs,o => ∃ od vs,o = .frz od (.dT vs)∧kvs.map (·.1)=vs.map (·.1)∧RVs K H b (kvs.map (·.2)) (vs.map (·.2))
structure SR (K:W.Frag) (H:Hp) (b:Bz) (st:qC):Prop where
 len:b.b.length=st.length
 nd:b.b.Nodup
 at_:∀ (i:Nat) (x:SO),st[i]? = some x -> ∃ a o,b.b[i]? = some a∧H a=some o∧SOk K H b x o
 zo:∀ a∈b.z,∃ xs,H a=some (.lst xs)
 zb:∀ a∈b.z,a ∉ b.b
structure WE (H:Hp) (b:Bz) (H':Hp) (b':Bz):Prop where
 more:∃ n,b'.b=b.b++n ∧ ∀ a∈n,H a=none
 zm:∃ y,b'.z=y++b.z ∧ ∀ a∈y,H a=none
 keep:∀ a o,H a=some o->b.out a->H' a=some o
 dom:∀ a o,H a=some o -> ∃ o',H' a=some o'
theorem WE.refl (H:Hp) (b:Bz):WE H b H b:=⟨⟨[],by simp,by simp⟩,⟨[],rfl,by simp⟩,fun _ _ h _=>h,fun _ o h=>⟨o,h⟩⟩
theorem WE.none_of {H H':Hp} {b b':Bz} (e:WE H b H' b') {a:Addr} (h:H' a=none):H a=none:=by
 cases q:H a with
 |none=>rfl
 |some o=>obtain ⟨o',e'⟩:=e.dom a o q;rw [h] at e';cases e'
theorem WE.not_in {H H':Hp} {b b':Bz} (e:WE H b H' b') {a:Addr} {o:HO} (h:H a=some o) (hn:b.out a):b'.out a:=by
 obtain ⟨n,hb,hh⟩:=e.more
 obtain ⟨y,hz,hy⟩:=e.zm
 refine ⟨fun hm => ?_,fun hm => ?_⟩
 ·rw [hb] at hm
  rcases List.mem_append.mp hm with hm |hm
  ·exact hn.1 hm
  ·rw [hh a hm] at h;cases h
 ·rw [hz] at hm
  rcases List.mem_append.mp hm with hm |hm
  ·rw [hy a hm] at h;cases h
  ·exact hn.2 hm
theorem WE.trans {H H1 H2:Hp} {b b1 b2:Bz} (e:WE H b H1 b1) (f:WE H1 b1 H2 b2):WE H b H2 b2:=by
 obtain ⟨n,hn,hh⟩:=e.more
 obtain ⟨m,hm,hk⟩:=f.more
 obtain ⟨y,hz,hy⟩:=e.zm
 obtain ⟨x,hx,hw⟩:=f.zm
 refine ⟨⟨n++m,by rw [hm,hn,List.append_assoc],fun a ha => ?_⟩,⟨x++y,by rw [hx,hz,List.append_assoc],fun a ha => ?_⟩,fun a o h hb=>f.keep a o (e.keep a o h hb) (e.not_in h hb),fun a o h => ?_⟩
 ·rcases List.mem_append.mp ha with ha |ha
  ·exact hh a ha
  ·exact e.none_of (hk a ha)
 ·rcases List.mem_append.mp ha with ha |ha
  ·exact e.none_of (hw a ha)
  ·exact hy a ha
 ·obtain ⟨o',h'⟩:=e.dom a o h
  exact f.dom a o' h'
theorem WE.ix {H H':Hp} {b b':Bz} (e:WE H b H' b') {i:Nat} {a:Addr} (h:b.b[i]? = some a):b'.b[i]? = some a:=by
 obtain ⟨n,hb,_⟩:=e.more
 have hi:i < b.b.length:=(List.getElem?_eq_some_iff.mp h).1
 rw [hb,List.getElem?_append_left hi];exact h
theorem WE.new {H:Hp} {b:Bz} {p:Addr} {o:HO} (h:H p=none):WE H b (upd H p o) b :=
 ⟨⟨[],by simp,by simp⟩,⟨[],rfl,by simp⟩,fun a u e _=>by rw [qL (qM e h)];exact e,fun a u e=>⟨u,by rw [qL (qM e h)];exact e⟩⟩
theorem WE.hide {H:Hp} {b:Bz} {p:Addr} {o:HO} (h:H p=none):WE H b (upd H p o) ⟨b.b,p::b.z⟩ :=
 ⟨⟨[],by simp,by simp⟩,⟨[p],rfl,fun a ha=>by rw [List.mem_singleton.mp ha];exact h⟩,fun a u e _=>by rw [qL (qM e h)];exact e,fun a u e=>⟨u,by rw [qL (qM e h)];exact e⟩⟩
theorem WE.wr {H:Hp} {b:Bz} {p:Addr} {o:HO} (h:p∈b.b∨p∈b.z):WE H b (upd H p o) b :=
 ⟨⟨[],by simp,by simp⟩,⟨[],rfl,by simp⟩,fun a u e hb=>by rw [qL (fun z=>h.elim (fun q=>hb.1 (by rw [z];exact q)) fun q=>hb.2 (by rw [z];exact q))];exact e,fun a u e=>by
  by_cases hz:a=p
  ·exact ⟨o,by rw [hz];exact qd⟩
  ·exact ⟨u,by rw [qL hz];exact e⟩⟩
theorem Rd.some_of {H:Hp} {a:Addr} {u:HO} (h:Rd H a u):∃ o,H a=some o:=h.elim (fun h=>⟨_,h⟩) fun ⟨_,h⟩=>⟨_,h⟩
theorem Rd.wext {H H':Hp} {b b':Bz} {a:Addr} {u:HO} (e:WE H b H' b') (h:Rd H a u∧b.out a):Rd H' a u∧b'.out a:=by
 obtain ⟨o,ho⟩:=Rd.some_of h.1
 refine ⟨?_,e.not_in ho h.2⟩
 rcases h.1 with q |⟨o',q⟩
 ·exact .inl (e.keep _ _ q h.2)
 ·exact .inr ⟨o',e.keep _ _ q h.2⟩
theorem LA.wext {K:W.Frag} {H H':Hp} {b b':Bz} {a:Addr} {xs:List V} (e:WE H b H' b') (h:LA K H b a xs):LA K H' b' a xs:=h.elim (fun h => .inl (Rd.wext e h)) .inr
theorem TA'.wext {K:W.Frag} {H H':Hp} {b b':Bz} {a:Addr} {xs:List V} (e:WE H b H' b') (h:TA' K H b a xs):TA' K H' b' a xs:=h.elim (fun h => .inl ⟨e.keep _ _ h.1 h.2,e.not_in h.1 h.2⟩) .inr
theorem LA.sq {K:W.Frag} {H:Hp} {b:Bz} {a:Addr} {xs:List V} (h:LA K H b a xs):SqL K H a xs:=h.elim (fun h => .inl h.1) .inr
theorem TA'.sq {K:W.Frag} {H:Hp} {b:Bz} {a:Addr} {xs:List V} (h:TA' K H b a xs):SqT K H a xs:=h.elim (fun h => .inl (.inl h.1)) .inr
mutual
theorem RV.wext {K:W.Frag} {H H':Hp} {b b':Bz} (e:WE H b H' b'):∀ (p:PV) {v:V},RV K H b p v->RV K H' b' p v
 | .non,_,h=>by unfold RV at h ⊢;exact h
 | .bl _,_,h=>by unfold RV at h ⊢;exact h
 | .int _,_,h=>by unfold RV at h ⊢;exact h
 | .str _,_,h=>by unfold RV at h ⊢;exact h
 | .tup l,_,h=>by
  unfold RV at h ⊢
  obtain ⟨a,xs,h1,h2,h3⟩:=h
  exact ⟨a,xs,h1,h2.wext e,RVs.wext e l h3⟩
 | .lst l,_,h=>by
  unfold RV at h ⊢
  obtain ⟨a,xs,h1,h2,h3⟩:=h
  exact ⟨a,xs,h1,h2.wext e,RVs.wext e l h3⟩
 | .ref i,_,h=>by
  unfold RV at h ⊢
  obtain ⟨a,h1,h2⟩:=h
  exact ⟨a,h1,e.ix h2⟩
 | .ty _,_,h=>by unfold RV at h ⊢;exact h
 | .fn _,_,h=>by unfold RV at h ⊢;exact h
 | .exc _ _,_,h=>by
  unfold RV at h ⊢
  obtain ⟨a,o,u,h1,h2,h3,h4,h6,h5⟩:=h
  exact ⟨a,o,u,h1,e.keep _ _ h2 h3,e.not_in h2 h3,h4,h6,h5.imp id fun ⟨d,q1,q2,q3⟩=>⟨d,q1,e.keep _ _ q2 q3,e.not_in q2 q3⟩⟩
 | .dct,_,h=>by
  unfold RV at h ⊢
  obtain ⟨a,h1,h2,h3⟩:=h
  exact ⟨a,h1,e.keep _ _ h2 h3,e.not_in h2 h3⟩
theorem RVs.wext {K:W.Frag} {H H':Hp} {b b':Bz} (e:WE H b H' b'):∀ (l:List PV) {xs:List V},RVs K H b l xs->RVs K H' b' l xs
 |[],_,h=>by unfold RVs at h ⊢;exact h
 |p::ps,_,h=>by
  unfold RVs at h ⊢
  obtain ⟨x,r,h1,h2,h3⟩:=h
  exact ⟨x,r,h1,RV.wext e p h2,RVs.wext e ps h3⟩
end
structure Ext (H:Hp) (b:Bz) (H':Hp) (b':Bz):Prop extends WE H b H' b' where
 same:b'.z=b.z
 hid:∀ a o,a∈b.z->H a=some o->H' a=some o
 fz:∀ a o u,H a=some (.frz o u)->H' a=some (.frz o u)
theorem Ext.refl (H:Hp) (b:Bz):Ext H b H b:=⟨WE.refl H b,rfl,fun _ _ _ h=>h,fun _ _ _ h=>h⟩
theorem Ext.none_of {H H':Hp} {b b':Bz} (e:Ext H b H' b') {a:Addr} (h:H' a=none):H a=none:=e.toWE.none_of h
theorem Ext.not_in {H H':Hp} {b b':Bz} (e:Ext H b H' b') {a:Addr} {o:HO} (h:H a=some o) (hn:b.out a):b'.out a:=e.toWE.not_in h hn
theorem Ext.trans {H H1 H2:Hp} {b b1 b2:Bz} (e:Ext H b H1 b1) (f:Ext H1 b1 H2 b2):Ext H b H2 b2:=⟨e.toWE.trans f.toWE,f.same.trans e.same,fun a o ha h=>f.hid a o (by rw [e.same];exact ha) (e.hid a o ha h),fun a o u h=>f.fz a o u (e.fz a o u h)⟩
theorem Ext.ix {H H':Hp} {b b':Bz} (e:Ext H b H' b') {i:Nat} {a:Addr} (h:b.b[i]? = some a):b'.b[i]? = some a:=e.toWE.ix h
theorem Ext.new {H:Hp} {b:Bz} {p:Addr} {o:HO} (h:H p=none):Ext H b (upd H p o) b:=⟨WE.new h,rfl,fun a u _ e=>by rw [qL (qM e h)];exact e,fun a u _ e=>by rw [qL (qM e h)];exact e⟩
theorem Ext.wr {H:Hp} {b:Bz} {p:Addr} {o:HO} (h:p∈b.b) (hz:∀ a∈b.z,a ∉ b.b) (hf:∀ o u,H p≠some (.frz o u)):Ext H b (upd H p o) b:=⟨WE.wr (.inl h),rfl,fun a u ha e=>by rw [qL (fun z=>hz a ha (by rw [z];exact h))];exact e,fun a u v e=>by rw [qL (fun z=>hf u v (by rw [← z];exact e))];exact e⟩
theorem nfz {H:Hp} {p:Addr} {u:HO} (h:H p=some u) (hu:∀ o v,u ≠ .frz o v):∀ o v,H p≠some (.frz o v):=fun o v z=>by rw [h] at z;cases z;exact hu _ _ rfl
theorem qF2 {H:Hp} {p:Addr} {xs:List V} (h:H p=some (.lst xs)):∀ o v,H p≠some (.frz o v):=nfz h fun _ _ z=>nomatch z
theorem Ext.of_same {H H':Hp} {b:Bz} (h:Same H H'):Ext H b H' b:=⟨⟨⟨[],by simp,by simp⟩,⟨[],rfl,by simp⟩,fun a o e _=>h a o e,fun a o e=>⟨o,h a o e⟩⟩,rfl,fun a o _ e=>h a o e,fun a o u e=>h a _ e⟩
theorem RV.ext {K:W.Frag} {H H':Hp} {b b':Bz} (e:Ext H b H' b') (p:PV) {v:V} (h:RV K H b p v):RV K H' b' p v:=RV.wext e.toWE p h
theorem RVs.ext {K:W.Frag} {H H':Hp} {b b':Bz} (e:Ext H b H' b') (l:List PV) {xs:List V} (h:RVs K H b l xs):RVs K H' b' l xs:=RVs.wext e.toWE l h
theorem RVs.length {K:W.Frag} {H:Hp} {b:Bz}:∀ {l:List PV} {xs:List V},RVs K H b l xs->l.length=xs.length
 |[],_,h=>by unfold RVs at h;rw [h];rfl
 |p::ps,_,h=>by
  unfold RVs at h
  obtain ⟨x,r,rfl,_,h3⟩:=h
  rw [List.length_cons,List.length_cons,RVs.length h3]
theorem RVs.nil {K:W.Frag} {H:Hp} {b:Bz}:RVs K H b [] []:=by unfold RVs;rfl
theorem RVs.cons {K:W.Frag} {H:Hp} {b:Bz} {p:PV} {ps:List PV} {x:V} {r:List V} (h:RV K H b p x) (t:RVs K H b ps r):RVs K H b (p::ps) (x::r):=by
 unfold RVs;exact ⟨x,r,rfl,h,t⟩
theorem RVs.get {K:W.Frag} {H:Hp} {b:Bz}:∀ {l:List PV} {xs:List V} {i:Nat} {p:PV},RVs K H b l xs->l[i]? = some p -> ∃ x,xs[i]? = some x∧RV K H b p x
 |[],_,_,_,_,h=>by simp at h
 |q::ps,_,0,p,r,h=>by
  unfold RVs at r
  obtain ⟨x,t,rfl,h2,h3⟩:=r
  simp at h;subst h
  exact ⟨x,rfl,h2⟩
 |q::ps,_,i + 1,p,r,h=>by
  unfold RVs at r
  obtain ⟨x,t,rfl,h2,h3⟩:=r
  obtain ⟨y,e,hy⟩:=RVs.get (i:=i) h3 (by simpa using h)
  exact ⟨y,by simpa using e,hy⟩
theorem RVs.append {K:W.Frag} {H:Hp} {b:Bz}:∀ {l m:List PV} {xs ys:List V},RVs K H b l xs->RVs K H b m ys->RVs K H b (l++m) (xs++ys)
 |[],_,_,_,h,g=>by unfold RVs at h;subst h;exact g
 |p::ps,_,_,_,h,g=>by
  unfold RVs at h
  obtain ⟨x,r,rfl,h2,h3⟩:=h
  exact RVs.cons h2 (RVs.append h3 g)
theorem RVs.take {K:W.Frag} {H:Hp} {b:Bz}:∀ {l:List PV} {xs:List V} (n:Nat),RVs K H b l xs->RVs K H b (l.take n) (xs.take n)
 |_,_,0,_=>RVs.nil
 |[],_,_ + 1,h=>by unfold RVs at h;subst h;exact RVs.nil
 |p::ps,_,n + 1,h=>by
  unfold RVs at h
  obtain ⟨x,r,rfl,h2,h3⟩:=h
  exact RVs.cons h2 (RVs.take n h3)
theorem RVs.drop {K:W.Frag} {H:Hp} {b:Bz}:∀ {l:List PV} {xs:List V} (n:Nat),RVs K H b l xs->RVs K H b (l.drop n) (xs.drop n)
 |_,_,0,h=>h
 |[],_,_ + 1,h=>by unfold RVs at h;subst h;exact RVs.nil
 |p::ps,_,n + 1,h=>by
  unfold RVs at h
  obtain ⟨x,r,rfl,h2,h3⟩:=h
  exact RVs.drop n h3
theorem RVs.set {K:W.Frag} {H:Hp} {b:Bz} {p:PV} {x:V} (hp:RV K H b p x):∀ {l:List PV} {xs:List V} (n:Nat),RVs K H b l xs->RVs K H b (l.set n p) (xs.set n x)
 |[],_,_,h=>by unfold RVs at h;subst h;exact RVs.nil
 |q::ps,_,0,h=>by
  unfold RVs at h
  obtain ⟨y,r,rfl,h2,h3⟩:=h
  exact RVs.cons hp h3
 |q::ps,_,n + 1,h=>by
  unfold RVs at h
  obtain ⟨y,r,rfl,h2,h3⟩:=h
  exact RVs.cons h2 (RVs.set hp n h3)
theorem SOk.wext {K:W.Frag} {H H':Hp} {b b':Bz} (e:WE H b H' b'):∀ {x:SO} {o:HO},SOk K H b x o->SOk K H' b' x o
 | .l xs,_,⟨vs,h,r⟩=>⟨vs,h,RVs.wext e xs r⟩
 | .d kvs,_,⟨vs,h,q,r⟩=>⟨vs,h,q,RVs.wext e _ r⟩
 | .z kvs,_,⟨od,vs,h,q,r⟩=>⟨od,vs,h,q,RVs.wext e _ r⟩
theorem SOk.ext {K:W.Frag} {H H':Hp} {b b':Bz} (e:Ext H b H' b') {x:SO} {o:HO} (h:SOk K H b x o):SOk K H' b' x o:=h.wext e.toWE
theorem SR.mem {K:W.Frag} {H:Hp} {b:Bz} {st:qC} (S:SR K H b st) {a:Addr} (h:a∈b.b):∃ o,H a=some o:=by
 obtain ⟨i,hi⟩:=List.getElem?_of_mem h
 have hl:i < b.b.length:=(List.getElem?_eq_some_iff.mp hi).1
 have hs:st[i]? = some (st[i]'(by rw [← S.len];exact hl)):=List.getElem?_eq_getElem _
 obtain ⟨a',o,h1,h2,_⟩:=S.at_ i _ hs
 rw [hi] at h1;cases h1
 exact ⟨o,h2⟩
theorem SR.new_notin {K:W.Frag} {H:Hp} {b:Bz} {st:qC} (S:SR K H b st) {p:Addr} (h:H p=none):b.out p :=
 ⟨fun hm=>(by obtain ⟨o,e⟩:=S.mem hm;rw [h] at e;cases e),fun hm=>(by obtain ⟨o,e⟩:=S.zo p hm;rw [h] at e;cases e)⟩
theorem SR.new {K:W.Frag} {H:Hp} {b:Bz} {st:qC} (S:SR K H b st) {p:Addr} {o:HO} (h:H p=none):SR K (upd H p o) b st :=
 ⟨S.len,S.nd,fun i x hx=>by
  obtain ⟨a,u,h1,h2,h3⟩:=S.at_ i x hx
  exact ⟨a,u,h1,by rw [qL (qM h2 h)];exact h2,h3.ext (Ext.new h)⟩,fun a ha=>by
  obtain ⟨u,e⟩:=S.zo a ha
  exact ⟨u,by rw [qL (qM e h)];exact e⟩,S.zb⟩
theorem qKx {b:List Addr} (nd:b.Nodup) {i j:Nat} {x:Addr} (h1:b[i]? = some x) (h2:b[j]? = some x):i=j:=by
 obtain ⟨hi,e1⟩:=List.getElem?_eq_some_iff.mp h1
 obtain ⟨hj,e2⟩:=List.getElem?_eq_some_iff.mp h2
 exact (List.getElem_inj nd).mp (e1.trans e2.symm)
theorem SR.wr {K:W.Frag} {H:Hp} {b:Bz} {st:qC} (S:SR K H b st) {i:Nat} {p:Addr} {x:SO} {o:HO} (hp:b.b[i]? = some p) (hx:SOk K (upd H p o) b x o):SR K (upd H p o) b (st.set i x):=by
 have hm:p∈b.b:=List.mem_of_getElem? hp
 refine ⟨by simp [S.len],S.nd,fun j y hy => ?_,fun a ha => ?_,S.zb⟩
 ·have hl:i < b.b.length:=(List.getElem?_eq_some_iff.mp hp).1
  by_cases hj:j=i
  ·subst hj
   rw [List.getElem?_set_self (by rw [← S.len];exact hl)] at hy
   cases hy
   exact ⟨p,o,hp,qd,hx⟩
  ·rw [List.getElem?_set_ne (Ne.symm hj)] at hy
   obtain ⟨a,u,h1,h2,h3⟩:=S.at_ j y hy
   have hne:a≠p:=fun z=>hj (by subst z;exact qKx S.nd h1 hp)
   exact ⟨a,u,h1,by rw [qL hne];exact h2,h3.wext (WE.wr (.inl hm))⟩
 ·obtain ⟨u,e⟩:=S.zo a ha
  have hz:a≠p:=fun z=>S.zb a ha (by rw [z];exact hm)
  exact ⟨u,by rw [qL hz];exact e⟩
theorem SR.wrz {K:W.Frag} {H:Hp} {b:Bz} {st:qC} (S:SR K H b st) {p:Addr} {ys:List V} (hp:p∈b.z):SR K (upd H p (.lst ys)) b st:=by
 refine ⟨S.len,S.nd,fun j y hy => ?_,fun a ha => ?_,S.zb⟩
 ·obtain ⟨a,u,h1,h2,h3⟩:=S.at_ j y hy
  have hne:a≠p:=fun z=>by subst z;exact S.zb a hp (List.mem_of_getElem? h1)
  exact ⟨a,u,h1,by rw [qL hne];exact h2,h3.wext (WE.wr (.inr hp))⟩
 ·obtain ⟨u,e⟩:=S.zo a ha
  by_cases hz:a=p
  ·exact ⟨ys,by rw [hz];exact qd⟩
  ·exact ⟨u,by rw [qL hz];exact e⟩
structure Sh (b b':Bz):Prop where
 ix:∀ (i:Nat) (a:Addr),b.b[i]? = some a->b'.b[i]? = some a
 out:∀ a,b.out a->b'.out a
mutual
theorem RV.sh {K:W.Frag} {H:Hp} {b b':Bz} (e:Sh b b'):∀ (p:PV) {v:V},RV K H b p v->RV K H b' p v
 | .non,_,h=>by unfold RV at h ⊢;exact h
 | .bl _,_,h=>by unfold RV at h ⊢;exact h
 | .int _,_,h=>by unfold RV at h ⊢;exact h
 | .str _,_,h=>by unfold RV at h ⊢;exact h
 | .tup l,_,h=>by
  unfold RV at h ⊢
  obtain ⟨a,xs,h1,h2,h3⟩:=h
  exact ⟨a,xs,h1,h2.elim (fun q => .inl ⟨q.1,e.out a q.2⟩) .inr,RVs.sh e l h3⟩
 | .lst l,_,h=>by
  unfold RV at h ⊢
  obtain ⟨a,xs,h1,h2,h3⟩:=h
  exact ⟨a,xs,h1,h2.elim (fun q => .inl ⟨q.1,e.out a q.2⟩) .inr,RVs.sh e l h3⟩
 | .ref i,_,h=>by
  unfold RV at h ⊢
  obtain ⟨a,h1,h2⟩:=h
  exact ⟨a,h1,e.ix i a h2⟩
 | .ty _,_,h=>by unfold RV at h ⊢;exact h
 | .fn _,_,h=>by unfold RV at h ⊢;exact h
 | .exc _ _,_,h=>by
  unfold RV at h ⊢
  obtain ⟨a,o,u,h1,h2,h3,h4,h6,h5⟩:=h
  exact ⟨a,o,u,h1,h2,e.out a h3,h4,h6,h5.imp id fun ⟨d,q1,q2,q3⟩=>⟨d,q1,q2,e.out d q3⟩⟩
 | .dct,_,h=>by
  unfold RV at h ⊢
  obtain ⟨a,h1,h2,h3⟩:=h
  exact ⟨a,h1,h2,e.out a h3⟩
theorem RVs.sh {K:W.Frag} {H:Hp} {b b':Bz} (e:Sh b b'):∀ (l:List PV) {xs:List V},RVs K H b l xs->RVs K H b' l xs
 |[],_,h=>by unfold RVs at h ⊢;exact h
 |p::ps,_,h=>by
  unfold RVs at h ⊢
  obtain ⟨x,r,h1,h2,h3⟩:=h
  exact ⟨x,r,h1,RV.sh e p h2,RVs.sh e ps h3⟩
end
theorem SOk.sh {K:W.Frag} {H:Hp} {b b':Bz} (e:Sh b b'):∀ {x:SO} {o:HO},SOk K H b x o->SOk K H b' x o
 | .l xs,_,⟨vs,h,r⟩=>⟨vs,h,RVs.sh e xs r⟩
 | .d kvs,_,⟨vs,h,q,r⟩=>⟨vs,h,q,RVs.sh e _ r⟩
 | .z kvs,_,⟨od,vs,h,q,r⟩=>⟨od,vs,h,q,RVs.sh e _ r⟩
theorem Sh.bare {b:List Addr} {p:Addr} {z:List Addr}:Sh ⟨b,p::z⟩ ⟨b,z⟩:=⟨fun _ _ h=>h,fun a h=>⟨h.1,fun q=>h.2 (List.mem_cons_of_mem _ q)⟩⟩
theorem Sh.slot {b:List Addr} {p:Addr} {z:List Addr}:Sh ⟨b,p::z⟩ ⟨b++[p],z⟩:=⟨fun i a h=>by
  rw [List.getElem?_append_left (List.getElem?_eq_some_iff.mp h).1];exact h,fun a h=>⟨fun q=>(List.mem_append.mp q).elim h.1 fun q=>h.2 (by rw [List.mem_singleton.mp q];exact List.mem_cons_self),fun q=>h.2 (List.mem_cons_of_mem _ q)⟩⟩
theorem RV.hide {K:W.Frag} {H:Hp} {b z:List Addr} {p:Addr} {o:HO} (hp:H p=none) (q:PV) {v:V} (h:RV K H ⟨b,z⟩ q v):RV K (upd H p o) ⟨b,p::z⟩ q v:=hd q h
where
 outp {a:Addr} {u:HO} (e:H a=some u) (h:Bz.out ⟨b,z⟩ a):Bz.out ⟨b,p::z⟩ a:=⟨h.1,fun q=>(List.mem_cons.mp q).elim (fun q=>by subst q;rw [hp] at e;cases e) h.2⟩
 rdd {a:Addr} {u:HO} (h:Rd H a u∧Bz.out ⟨b,z⟩ a):Rd (upd H p o) a u∧Bz.out ⟨b,p::z⟩ a:=by
  obtain ⟨w,hw⟩:=Rd.some_of h.1
  refine ⟨?_,outp hw h.2⟩
  rcases h.1 with q |⟨o',q⟩
  ·exact .inl (by rw [qL (qM q hp)];exact q)
  ·exact .inr ⟨o',by rw [qL (qM q hp)];exact q⟩
 hd:∀ (q:PV) {v:V},RV K H ⟨b,z⟩ q v->RV K (upd H p o) ⟨b,p::z⟩ q v
 | .non,_,h=>by unfold RV at h ⊢;exact h
 | .bl _,_,h=>by unfold RV at h ⊢;exact h
 | .int _,_,h=>by unfold RV at h ⊢;exact h
 | .str _,_,h=>by unfold RV at h ⊢;exact h
 | .tup l,_,h=>by
  unfold RV at h ⊢
  obtain ⟨a,xs,h1,h2,h3⟩:=h
  exact ⟨a,xs,h1,h2.elim (fun q => .inl ⟨by rw [qL (qM q.1 hp)];exact q.1,outp q.1 q.2⟩) .inr,hds l h3⟩
 | .lst l,_,h=>by
  unfold RV at h ⊢
  obtain ⟨a,xs,h1,h2,h3⟩:=h
  exact ⟨a,xs,h1,h2.elim (fun q => .inl (rdd q)) .inr,hds l h3⟩
 | .ref i,_,h=>by
  unfold RV at h ⊢
  exact h
 | .ty _,_,h=>by unfold RV at h ⊢;exact h
 | .fn _,_,h=>by unfold RV at h ⊢;exact h
 | .exc _ _,_,h=>by
  unfold RV at h ⊢
  obtain ⟨a,o',u,h1,h2,h3,h4,h6,h5⟩:=h
  exact ⟨a,o',u,h1,by rw [qL (qM h2 hp)];exact h2,outp h2 h3,h4,h6,h5.imp id fun ⟨d,q1,q2,q3⟩=>⟨d,q1,by rw [qL (qM q2 hp)];exact q2,outp q2 q3⟩⟩
 | .dct,_,h=>by
  unfold RV at h ⊢
  obtain ⟨a,h1,h2,h3⟩:=h
  exact ⟨a,h1,by rw [qL (qM h2 hp)];exact h2,outp h2 h3⟩
 hds:∀ (l:List PV) {xs:List V},RVs K H ⟨b,z⟩ l xs->RVs K (upd H p o) ⟨b,p::z⟩ l xs
 |[],_,h=>by unfold RVs at h ⊢;exact h
 |q::ps,_,h=>by
  unfold RVs at h ⊢
  obtain ⟨x,r,h1,h2,h3⟩:=h
  exact ⟨x,r,h1,hd q h2,hds ps h3⟩
theorem SR.hide {K:W.Frag} {H:Hp} {b z:List Addr} {st:qC} (S:SR K H ⟨b,z⟩ st) {p:Addr} {ys:List V} (hp:H p=none):SR K (upd H p (.lst ys)) ⟨b,p::z⟩ st:=by
 have hn:=S.new_notin hp
 refine ⟨S.len,S.nd,fun i x hx => ?_,fun a ha => ?_,fun a ha => ?_⟩
 ·obtain ⟨a,u,h1,h2,h3⟩:=S.at_ i x hx
  refine ⟨a,u,h1,by rw [qL (qM h2 hp)];exact h2,?_⟩
  cases x with
  |l xs =>
   obtain ⟨vs,e1,e2⟩:=h3
   exact ⟨vs,e1,RV.hide.hds hp xs e2⟩
  |d kvs =>
   obtain ⟨vs,e1,e2,e3⟩:=h3
   exact ⟨vs,e1,e2,RV.hide.hds hp _ e3⟩
  |z kvs =>
   obtain ⟨od,vs,e1,e2,e3⟩:=h3
   exact ⟨od,vs,e1,e2,RV.hide.hds hp _ e3⟩
 ·rcases List.mem_cons.mp ha with rfl |ha
  ·exact ⟨ys,qd⟩
  ·obtain ⟨u,e⟩:=S.zo a ha
   exact ⟨u,by rw [qL (qM e hp)];exact e⟩
 ·rcases List.mem_cons.mp ha with rfl |ha
  ·exact hn.1
  ·exact S.zb a ha
theorem SR.bare {K:W.Frag} {H:Hp} {b z:List Addr} {st:qC} {p:Addr} (S:SR K H ⟨b,p::z⟩ st):SR K H ⟨b,z⟩ st :=
 ⟨S.len,S.nd,fun i x hx=>by
  obtain ⟨a,u,h1,h2,h3⟩:=S.at_ i x hx
  exact ⟨a,u,h1,h2,h3.sh Sh.bare⟩,fun a ha=>S.zo a (List.mem_cons_of_mem _ ha),fun a ha=>S.zb a (List.mem_cons_of_mem _ ha)⟩
theorem SR.slot {K:W.Frag} {H:Hp} {b z:List Addr} {st:qC} {p:Addr} {x:SO} {o:HO} (S:SR K H ⟨b,p::z⟩ st) (hz:p ∉ z) (ho:H p=some o) (hx:SOk K H ⟨b,p::z⟩ x o):SR K H ⟨b++[p],z⟩ (st++[x]):=by
 have hp:p ∉ b:=S.zb p List.mem_cons_self
 refine ⟨by simp [show b.length=st.length from S.len],?_,fun i y hy => ?_,fun a ha=>S.zo a (List.mem_cons_of_mem _ ha),fun a ha hm => ?_⟩
 ·exact List.nodup_append.mpr ⟨S.nd,by simp,fun a ha c hc=>by rw [List.mem_singleton.mp hc];intro z;subst z;exact hp ha⟩
 ·by_cases hi:i < st.length
  ·rw [List.getElem?_append_left hi] at hy
   obtain ⟨a,u,h1,h2,h3⟩:=S.at_ i y hy
   exact ⟨a,u,Sh.slot.ix i a h1,h2,h3.sh Sh.slot⟩
  ·have hi':i=st.length:=by
    have:=(List.getElem?_eq_some_iff.mp hy).1
    rw [List.length_append,List.length_singleton] at this;omega
   subst hi'
   have e1:(st++[x])[st.length]? = some x:=by simp
   rw [e1] at hy;cases hy
   have hl:b.length=st.length:=S.len
   exact ⟨p,o,by show (b++[p])[st.length]? = some p;rw [← hl];simp,ho,hx.sh Sh.slot⟩
 ·rcases List.mem_append.mp hm with q |q
  ·exact S.zb a (List.mem_cons_of_mem _ ha) q
  ·rw [List.mem_singleton.mp q] at ha;exact hz ha
def REnv (K:W.Frag) (H:Hp) (b:Bz) (r:qf) (s:L2.St):Prop:=r.length=s.length ∧ ∀ (i:Nat) (p:PV),r[i]? = some (some p) -> ∃ v,s[i]? = some (some v)∧RV K H b p v
theorem REnv.wext {K:W.Frag} {H H':Hp} {b b':Bz} {r:qf} {s:L2.St} (h:REnv K H b r s) (e:WE H b H' b'):REnv K H' b' r s:=⟨h.1,fun i p q=>by
 obtain ⟨v,h1,h2⟩:=h.2 i p q
 exact ⟨v,h1,RV.wext e p h2⟩⟩
theorem REnv.ext {K:W.Frag} {H H':Hp} {b b':Bz} {r:qf} {s:L2.St} (h:REnv K H b r s) (e:Ext H b H' b'):REnv K H' b' r s:=⟨h.1,fun i p q=>by
 obtain ⟨v,h1,h2⟩:=h.2 i p q
 exact ⟨v,h1,RV.ext e p h2⟩⟩
theorem REnv.set {K:W.Frag} {H:Hp} {b:Bz} {r:qf} {s:L2.St} {p:PV} {v:V} (h:REnv K H b r s) (hv:RV K H b p v) (i:Nat):REnv K H b (r.set i (some p)) (s.set i (some v)):=by
 refine ⟨by simp [h.1],fun j q hq => ?_⟩
 by_cases hj:i=j
 ·subst hj
  have hl:i < r.length:=by
   have:=(List.getElem?_eq_some_iff.mp hq).1
   simpa using this
  rw [List.getElem?_set_self hl] at hq
  cases hq
  exact ⟨v,by rw [List.getElem?_set_self (by rw [← h.1];exact hl)],hv⟩
 ·rw [List.getElem?_set_ne hj] at hq
  obtain ⟨w,h1,h2⟩:=h.2 j q hq
  exact ⟨w,by rw [List.getElem?_set_ne hj];exact h1,h2⟩
def RX (K:W.Frag) (H:Hp) (b:Bz) (x:Exc) (c:Value) (d:Option Addr):Prop :=
 c = .ref x.cls∧((x.fs=[]∧d=none) ∨ ∃ a,d=some a∧H a=some (.xd (x.fs.map fun p=>(p.1,V.int p.2)))∧b.out a)
def XP (K:W.Frag) (E:XK) (H:Hp) (b:Bz) (x:Exc) (st:qC):Prop := ∀ c d H' b',Ext H b H' b'->SR K H' b' st->RX K H' b' x c d->E c d H'
theorem XP.ext {K:W.Frag} {E:XK} {H H1:Hp} {b b1:Bz} {x:Exc} {st:qC} (h:XP K E H b x st) (e:Ext H b H1 b1):XP K E H1 b1 x st:=fun c d H' b' e' S r=>h c d H' b' (e.trans e') S r
def PostE (K:W.Frag) (E:XK) (H:Hp) (b:Bz) (r:Rs PV) (Q:VK):Prop:=match r with
 | .ok p st => ∀ v H' b',Ext H b H' b'->SR K H' b' st->RV K H' b' p v->Q v H'
 | .ex x st=>XP K E H b x st
 | .no=>False
def PostA (K:W.Frag) (E:XK) (H:Hp) (b:Bz) (r:Rs (List PV)) (Q:List V->Hp->Prop):Prop:=match r with
 | .ok ps st => ∀ vs H' b',Ext H b H' b'->SR K H' b' st->RVs K H' b' ps vs->Q vs H'
 | .ex x st=>XP K E H b x st
 | .no=>False
def PostT (K:W.Frag) (E:XK) (H:Hp) (b:Bz) (r:Rs Bool) (Q:Bool->Hp->Prop):Prop:=match r with
 | .ok k st => ∀ H' b',Ext H b H' b'->SR K H' b' st->Q k H'
 | .ex x st=>XP K E H b x st
 | .no=>False
def PostS (K:W.Frag) (E:XK) (H:Hp) (b:Bz) (r:RS) (D:Ends):Prop:=match r with
 | .nx e st => ∀ s H' b',Ext H b H' b'->SR K H' b' st->REnv K H' b' e s->D.nx s H'
 | .bk e st => ∀ s H' b',Ext H b H' b'->SR K H' b' st->REnv K H' b' e s->D.bk s H'
 | .ct e st => ∀ s H' b',Ext H b H' b'->SR K H' b' st->REnv K H' b' e s->D.ct s H'
 | .rt p st => ∀ v H' b',Ext H b H' b'->SR K H' b' st->RV K H' b' p v->D.rt v H'
 | .ex x st=>XP K E H b x st
 | .no=>False
theorem PostE.ext {K:W.Frag} {E:XK} {H H1:Hp} {b b1:Bz} {r:Rs PV} {Q:VK} (h:PostE K E H b r Q) (e:Ext H b H1 b1):PostE K E H1 b1 r Q:=by
 cases r with
 |ok p st=>exact fun v H' b' e'=>h v H' b' (e.trans e')
 |ex x st=>exact XP.ext h e
 |no=>exact h
theorem PostA.ext {K:W.Frag} {E:XK} {H H1:Hp} {b b1:Bz} {r:Rs (List PV)} {Q:List V->Hp->Prop} (h:PostA K E H b r Q) (e:Ext H b H1 b1):PostA K E H1 b1 r Q:=by
 cases r with
 |ok p st=>exact fun v H' b' e'=>h v H' b' (e.trans e')
 |ex x st=>exact XP.ext h e
 |no=>exact h
theorem PostT.ext {K:W.Frag} {E:XK} {H H1:Hp} {b b1:Bz} {r:Rs Bool} {Q:Bool->Hp->Prop} (h:PostT K E H b r Q) (e:Ext H b H1 b1):PostT K E H1 b1 r Q:=by
 cases r with
 |ok p st=>exact fun H' b' e'=>h H' b' (e.trans e')
 |ex x st=>exact XP.ext h e
 |no=>exact h
theorem PostS.ext {K:W.Frag} {E:XK} {H H1:Hp} {b b1:Bz} {r:RS} {D:Ends} (h:PostS K E H b r D) (e:Ext H b H1 b1):PostS K E H1 b1 r D:=by
 cases r with
 |nx p st=>exact fun v H' b' e'=>h v H' b' (e.trans e')
 |bk p st=>exact fun v H' b' e'=>h v H' b' (e.trans e')
 |ct p st=>exact fun v H' b' e'=>h v H' b' (e.trans e')
 |rt p st=>exact fun v H' b' e'=>h v H' b' (e.trans e')
 |ex x st=>exact XP.ext h e
 |no=>exact h
def rd (K:W.Frag) (E:XK) (f:FE):TE:=fun s H Q => ∃ b r st,SR K H b st∧REnv K H b r s∧PostE K E H b (f r st) Q
def rdA (K:W.Frag) (E:XK) (f:FA):L2.TA:=fun s H Q => ∃ b r st,SR K H b st∧REnv K H b r s∧PostA K E H b (f r st) Q
def rdT (K:W.Frag) (E:XK) (f:FT):TT:=fun s H Q => ∃ b r st,SR K H b st∧REnv K H b r s∧PostT K E H b (f r st) Q
def rdS (K:W.Frag) (E:XK) (f:FS):TS:=fun D s H => ∃ b r st,SR K H b st∧REnv K H b r s∧PostS K E H b (f r st) D
abbrev VE (X:Cx) (E:XK) (e:Expr) (f:FE):Prop:=PE X e (rd X.K E f)
abbrev VA (X:Cx) (E:XK) (e:List Expr) (f:FA):Prop:=PA X e (rdA X.K E f)
abbrev VT (X:Cx) (E:XK) (e:Expr) (f:FT):Prop:=PT X e (rdT X.K E f)
abbrev VS (X:Cx) (E:XK) (e:Stmt) (f:FS):Prop:=PS X e (rdS X.K E f)
abbrev VSs (X:Cx) (E:XK) (e:List Stmt) (f:FS):Prop:=PSs X e (rdS X.K E f)
theorem PE.imp {X:Cx} {e:Expr} {t t':TE} (h:PE X e t) (i:∀ s H Q,t' s H Q->t s H Q):PE X e t':=fun pins s σ H Q I q=>h pins s σ H Q I (i _ _ _ q)
theorem PT.imp {X:Cx} {e:Expr} {t t':TT} (h:PT X e t) (i:∀ s H Q,t' s H Q->t s H Q):PT X e t':=fun pins s σ H Q I q=>h pins s σ H Q I (i _ _ _ q)
theorem PA.imp {X:Cx} {e:List Expr} {t t':L2.TA} (h:PA X e t) (i:∀ s H Q,t' s H Q->t s H Q):PA X e t':=fun pos pins s σ H Q I q=>h pos pins s σ H Q I (i _ _ _ q)
theorem PS.imp {X:Cx} {e:Stmt} {t t':TS} (h:PS X e t) (i:∀ D s H,t' D s H->t D s H):PS X e t':=fun pins s σ H D I q=>h pins s σ H D I (i _ _ _ q)
theorem PSs.imp {X:Cx} {e:List Stmt} {t t':TS} (h:PSs X e t) (i:∀ D s H,t' D s H->t D s H):PSs X e t':=fun pins s σ H D I q=>h pins s σ H D I (i _ _ _ q)
theorem PostE.bind {K:W.Frag} {E:XK} {H:Hp} {b:Bz} {r:Rs PV} {k:PV->qC->Rs PV} {Q R:VK} (P:PostE K E H b (r.bind k) Q)
  (h:∀ p st v H1 b1,Ext H b H1 b1->SR K H1 b1 st->RV K H1 b1 p v->PostE K E H1 b1 (k p st) Q->R v H1):PostE K E H b r R:=by
 cases r with
 |ok p st=>exact fun v H1 b1 e S r=>h p st v H1 b1 e S r (PostE.ext (show PostE K E H b (k p st) Q from P) e)
 |ex x st=>exact P
 |no=>exact P
theorem PostE.bindT {K:W.Frag} {E:XK} {H:Hp} {b:Bz} {r:Rs PV} {k:PV->qC->Rs Bool} {Q:Bool->Hp->Prop} {R:VK} (P:PostT K E H b (r.bind k) Q)
  (h:∀ p st v H1 b1,Ext H b H1 b1->SR K H1 b1 st->RV K H1 b1 p v->PostT K E H1 b1 (k p st) Q->R v H1):PostE K E H b r R:=by
 cases r with
 |ok p st=>exact fun v H1 b1 e S r=>h p st v H1 b1 e S r (PostT.ext (show PostT K E H b (k p st) Q from P) e)
 |ex x st=>exact P
 |no=>exact P
theorem PostT.bindT {K:W.Frag} {E:XK} {H:Hp} {b:Bz} {r:Rs Bool} {k:Bool->qC->Rs Bool} {Q R:Bool->Hp->Prop} (P:PostT K E H b (r.bind k) Q)
  (h:∀ p st H1 b1,Ext H b H1 b1->SR K H1 b1 st->PostT K E H1 b1 (k p st) Q->R p H1):PostT K E H b r R:=by
 cases r with
 |ok p st=>exact fun H1 b1 e S=>h p st H1 b1 e S (PostT.ext (show PostT K E H b (k p st) Q from P) e)
 |ex x st=>exact P
 |no=>exact P
theorem PostA.bind {K:W.Frag} {E:XK} {H:Hp} {b:Bz} {r:Rs (List PV)} {k:List PV->qC->Rs PV} {Q:VK} {R:List V->Hp->Prop} (P:PostE K E H b (r.bind k) Q)
  (h:∀ p st v H1 b1,Ext H b H1 b1->SR K H1 b1 st->RVs K H1 b1 p v->PostE K E H1 b1 (k p st) Q->R v H1):PostA K E H b r R:=by
 cases r with
 |ok p st=>exact fun v H1 b1 e S r=>h p st v H1 b1 e S r (PostE.ext (show PostE K E H b (k p st) Q from P) e)
 |ex x st=>exact P
 |no=>exact P
theorem PostE.bindA {K:W.Frag} {E:XK} {H:Hp} {b:Bz} {r:Rs PV} {k:PV->qC->Rs (List PV)} {Q:List V->Hp->Prop} {R:VK} (P:PostA K E H b (r.bind k) Q)
  (h:∀ p st v H1 b1,Ext H b H1 b1->SR K H1 b1 st->RV K H1 b1 p v->PostA K E H1 b1 (k p st) Q->R v H1):PostE K E H b r R:=by
 cases r with
 |ok p st=>exact fun v H1 b1 e S r=>h p st v H1 b1 e S r (PostA.ext (show PostA K E H b (k p st) Q from P) e)
 |ex x st=>exact P
 |no=>exact P
theorem PostA.bindA {K:W.Frag} {E:XK} {H:Hp} {b:Bz} {r:Rs (List PV)} {k:List PV->qC->Rs (List PV)} {Q R:List V->Hp->Prop} (P:PostA K E H b (r.bind k) Q)
  (h:∀ p st v H1 b1,Ext H b H1 b1->SR K H1 b1 st->RVs K H1 b1 p v->PostA K E H1 b1 (k p st) Q->R v H1):PostA K E H b r R:=by
 cases r with
 |ok p st=>exact fun v H1 b1 e S r=>h p st v H1 b1 e S r (PostA.ext (show PostA K E H b (k p st) Q from P) e)
 |ex x st=>exact P
 |no=>exact P
def Rs.bindS {α:Type} (r:Rs α) (k:α->qC->RS):RS:=match r with
 | .ok a st=>k a st
 | .ex x st => .ex x st
 | .no => .no
theorem PostE.bindS {K:W.Frag} {E:XK} {H:Hp} {b:Bz} {r:Rs PV} {k:PV->qC->RS} {D:Ends} {R:VK} (P:PostS K E H b (r.bindS k) D)
  (h:∀ p st v H1 b1,Ext H b H1 b1->SR K H1 b1 st->RV K H1 b1 p v->PostS K E H1 b1 (k p st) D->R v H1):PostE K E H b r R:=by
 cases r with
 |ok p st=>exact fun v H1 b1 e S r=>h p st v H1 b1 e S r (PostS.ext (show PostS K E H b (k p st) D from P) e)
 |ex x st=>exact P
 |no=>exact P
theorem PostT.bindS {K:W.Frag} {E:XK} {H:Hp} {b:Bz} {r:Rs Bool} {k:Bool->qC->RS} {D:Ends} {R:Bool->Hp->Prop} (P:PostS K E H b (r.bindS k) D)
  (h:∀ p st H1 b1,Ext H b H1 b1->SR K H1 b1 st->PostS K E H1 b1 (k p st) D->R p H1):PostT K E H b r R:=by
 cases r with
 |ok p st=>exact fun H1 b1 e S=>h p st H1 b1 e S (PostS.ext (show PostS K E H b (k p st) D from P) e)
 |ex x st=>exact P
 |no=>exact P
theorem PostA.bindS {K:W.Frag} {E:XK} {H:Hp} {b:Bz} {r:Rs (List PV)} {k:List PV->qC->RS} {D:Ends} {R:List V->Hp->Prop} (P:PostS K E H b (r.bindS k) D)
  (h:∀ p st v H1 b1,Ext H b H1 b1->SR K H1 b1 st->RVs K H1 b1 p v->PostS K E H1 b1 (k p st) D->R v H1):PostA K E H b r R:=by
 cases r with
 |ok p st=>exact fun v H1 b1 e S r=>h p st v H1 b1 e S r (PostS.ext (show PostS K E H b (k p st) D from P) e)
 |ex x st=>exact P
 |no=>exact P
def asL (st:qC):PV->Option (List PV)
 | .lst l=>some l
 | .ref i=>match st[i]? with
  |some (.l xs)=>some xs
  |_=>none
 |_=>none
def asT:PV->Option (List PV)
 | .tup l=>some l
 |_=>none
def wt (st:qC) (p:PV):Option (List PV):=match p with
 | .tup l=>some l
 |p=>asL st p
section
variable {K:W.Frag} {H:Hp} {b:Bz} {st:qC} {p:PV} {v:V} {l:List PV}
theorem wQ (S:SR K H b st) (r:RV K H b p v) (h:asL st p=some l):∃ a xs,v = .ref a∧SqL K H a xs∧RVs K H b l xs:=by
 cases p with
 |lst m =>
  unfold RV at r
  obtain ⟨a,xs,h1,h2,h3⟩:=r
  have e:m=l:=Option.some.inj h
  subst e
  exact ⟨a,xs,h1,h2.sq,h3⟩
 |ref i =>
  unfold RV at r
  obtain ⟨a,h1,h2⟩:=r
  unfold asL at h
  dsimp only at h
  cases q:st[i]? with
  |none=>rw [q] at h;cases h
  |some o =>
   cases o with
   |l ys =>
    rw [q] at h
    have e:ys=l:=Option.some.inj h
    subst e
    obtain ⟨a',o,e1,e2,vs,e3,e4⟩:=S.at_ i _ q
    rw [h2] at e1;cases e1
    subst e3
    exact ⟨a,vs,h1,SqL.of e2,e4⟩
   |d ys=>rw [q] at h;cases h
   |z ys=>rw [q] at h;cases h
 |_=>cases h
theorem qB2 (S:SR K H b st) (r:RV K H b p v) (h:wt st p=some l):∃ a xs,v = .ref a∧(SqL K H a xs∨SqT K H a xs)∧RVs K H b l xs:=by
 cases p with
 |tup m =>
  unfold RV at r
  obtain ⟨a,xs,h1,h2,h3⟩:=r
  have e:m=l:=Option.some.inj h
  subst e
  exact ⟨a,xs,h1,.inr h2.sq,h3⟩
 |lst m =>
  obtain ⟨a,xs,h1,h2,h3⟩:=wQ S r h
  exact ⟨a,xs,h1,.inl h2,h3⟩
 |ref i =>
  obtain ⟨a,xs,h1,h2,h3⟩:=wQ S r h
  exact ⟨a,xs,h1,.inl h2,h3⟩
 |_=>cases h
end
abbrev FL:=qf->qC->Rs (List PV)
def PostN (K:W.Frag) (E:XK) (H:Hp) (b:Bz) (r:Rs (List PV)) (Q:VK):Prop:=match r with
 | .ok l st => ∀ p xs H' b',Ext H b H' b'->H p=none->H' p=some (.lst xs)->p ∉ b'.z->SR K H' ⟨b'.b,p::b'.z⟩ st->RVs K H' ⟨b'.b,p::b'.z⟩ l xs->Q (.ref p) H'
 | .ex x st=>XP K E H b x st
 | .no=>False
def rdN (K:W.Frag) (E:XK) (f:FL):TE:=fun s H Q => ∃ b r st,SR K H b st∧REnv K H b r s∧PostN K E H b (f r st) Q
abbrev VN (X:Cx) (E:XK) (e:Expr) (f:FL):Prop:=PE X e (rdN X.K E f)
def vFz (f:FL):FE:=fun r st=>(f r st).bind fun l s => .ok (.lst l) s
theorem PostN.of {K:W.Frag} {E:XK} {H:Hp} {b:Bz} {r:Rs (List PV)} {Q:VK} (P:PostE K E H b (r.bind fun l s => .ok (.lst l) s) Q):PostN K E H b r Q:=by
 cases r with
 |ok l st=>exact fun p xs H' b' e hn hp hz S r=>P _ H' b' e S.bare (by unfold RV;exact ⟨p,xs,rfl,.inl ⟨.inl hp,S.zb p List.mem_cons_self,hz⟩,RVs.sh Sh.bare l r⟩)
 |ex x st=>exact P
 |no=>exact P
theorem PostN.ext {K:W.Frag} {E:XK} {H H1:Hp} {b b1:Bz} {r:Rs (List PV)} {Q:VK} (h:PostN K E H b r Q) (e:Ext H b H1 b1):PostN K E H1 b1 r Q:=by
 cases r with
 |ok p st=>exact fun p xs H' b' e' hn=>h p xs H' b' (e.trans e') (e.none_of hn)
 |ex x st=>exact XP.ext h e
 |no=>exact h
theorem PostN.lay {K:W.Frag} {E:XK} {H:Hp} {b:Bz} {st:qC} {l:List PV} {xs:List V} {Q:VK} (P:PostN K E H b (.ok l st) Q) (S:SR K H b st) (r:RVs K H b l xs) {p:Addr} (h:H p=none):Q (.ref p) (upd H p (.lst xs)) :=
 P p xs _ b (Ext.new h) h qd (S.new_notin h).2 (SR.hide S h) (RV.hide.hds h l r)
theorem PostE.layT {K:W.Frag} {E:XK} {H:Hp} {b:Bz} {st:qC} {l:List PV} {xs:List V} {Q:VK} (P:PostE K E H b (.ok (.tup l) st) Q) (S:SR K H b st) (r:RVs K H b l xs) {p:Addr} (h:H p=none):Q (.ref p) (upd H p (.tup xs)) :=
 P _ _ b (Ext.new h) (S.new h) (by unfold RV;exact ⟨p,xs,rfl,.inl ⟨qd,S.new_notin h⟩,RVs.ext (Ext.new h) l r⟩)
theorem PostE.here {K:W.Frag} {E:XK} {H:Hp} {b:Bz} {st:qC} {p:PV} {v:V} {Q:VK} (P:PostE K E H b (.ok p st) Q) (S:SR K H b st) (r:RV K H b p v):Q v H:=P v H b (Ext.refl H b) S r
section
variable {X:Cx} {E:XK} {e a c d:Expr} {es:List Expr} {f fa fb fc:FE} {pos:Pos}
theorem QX {f:FL} (h:VN X E e f):VE X E e (vFz f):=PE.imp h fun s H Q ⟨b,r,st,S,R,P⟩=>⟨b,r,st,S,R,PostN.of P⟩
def vC (p:PV):FE:=fun _ st => .ok p st
def qB (i:Nat):FE:=fun r st=>match r[i]? with
 |some (some p) => .ok p st
 |_ => .no
theorem qBF {p:PV} {v:V} (h:PE X e (tC v)) (hv:∀ H b,RV X.K H b p v):VE X E e (vC p):=PE.imp h fun s H Q ⟨b,r,st,S,R,P⟩=>PostE.here P S (hv H b)
theorem qN {i:Int} {j pos}:VE X E (.Constant (.int i) j pos) (vC (.int i)):=qBF qH5 fun _ _=>by unfold RV;rfl
theorem W9 {i:Bool} {j pos}:VE X E (.Constant (.bool i) j pos) (vC (.bl i)):=qBF qKf fun _ _=>by unfold RV;rfl
theorem qEg {j pos}:VE X E (.Constant .none j pos) (vC .non):=qBF qIH fun _ _=>by unfold RV;rfl
theorem Qb {x:Str} {j pos}:VE X E (.Constant (.str x) j pos) (vC (.str x)):=qBF qIB fun _ _=>by unfold RV;rfl
theorem zL {x:Str} {i:Int} {t:Tok} {pos:Pos} (hg:Gl X x) (hm:X.mg x=some (.int i t)) (hd:(x==("__debug__":Str))=false:=by decide):VE X E (.Name x pos) (vC (.int i)) :=
 qBF (qB7 (v := .int i) hg hm ⟨t,rfl⟩ hd) fun _ _=>by unfold RV;rfl
theorem qKY {i:Nat} (h:PE X e (qJZ i)):VE X E e (qB i):=PE.imp h fun s H Q ⟨b,r,st,S,R,P⟩=>by
 unfold qB at P
 cases q:r[i]? with
 |none=>rw [q] at P;exact False.elim P
 |some o =>
  cases o with
  |none=>rw [q] at P;exact False.elim P
  |some p =>
   rw [q] at P
   obtain ⟨v,h1,h2⟩:=R.2 i p q
   exact ⟨v,h1,PostE.here P S h2⟩
def qH (g:PV->PV->qC->Rs PV) (fa fb:FE):FE:=fun r st=>(fa r st).bind fun p s1=>(fb r s1).bind fun q s2=>g p q s2
def OpG (X:Cx) (E:XK) (t:R2) (g:PV->PV->qC->Rs PV):Prop :=
 ∀ (H:Hp) (b:Bz) (st:qC) (p q:PV) (u v:V) (Q:VK),SR X.K H b st->RV X.K H b p u->RV X.K H b q v->PostE X.K E H b (g p q st) Q->t u v H Q
theorem jj {t:R2} {g:PV->PV->qC->Rs PV} (hg:OpG X E t g):∀ s H Q,rd X.K E (qH g fa fb) s H Q->tOp t (rd X.K E fa) (rd X.K E fb) s H Q:=fun s H Q ⟨b,r,st,S,R,P⟩ =>
 ⟨b,r,st,S,R,PostE.bind P fun p s1 u H1 b1 e1 S1 r1 P1=>⟨b1,r,s1,S1,R.ext e1,PostE.bind P1 fun q s2 v H2 b2 e2 S2 r2 P2=>hg H2 b2 s2 p q u v Q S2 (RV.ext e2 p r1) r2 P2⟩⟩
theorem ZN {op:Operator} {t:R2} {g:PV->PV->qC->Rs PV} (ho:OpR X (binaryOp op) t) (hg:OpG X E t g) (ha:VE X E a fa) (hb:VE X E c fb):VE X E (.BinOp a op c pos) (qH g fa fb):=PE.imp (qEo ho ha hb) (jj hg)
theorem qH1 {op:CmpOp} {t:R2} {g:PV->PV->qC->Rs PV} (ho:OpR X (compareOp op) t) (hg:OpG X E t g) (ha:VE X E a fa) (hb:VE X E c fb) (hm:behindInMarks op c=false:=by first |exact QZ _ |with_unfolding_all rfl):VE X E (.Compare a [op] [c] pos) (qH g fa fb):=PE.imp (qGS ho ha hb hm) (jj hg)
def gI (g:Int->Int->Option PV):PV->PV->qC->Rs PV:=fun p q st=>match p,q with
 | .int i,.int j=>match g i j with
  |some z => .ok z st
  |none => .no
 |_,_ => .no
theorem qDo {C:Int->Int->Prop} {h:Int->Int->V} {g:Int->Int->Option PV} (hg:∀ i j z,g i j=some z->C i j ∧ ∀ H b,RV X.K H b z (h i j)):OpG X E (rI C h) (gI g):=by
 intro H b st p q u v Q S rp rq P
 unfold gI at P
 split at P
 ·rename_i i j
  unfold RV at rp rq
  split at P
  ·rename_i z e
   obtain ⟨c,r⟩:=hg i j z e
   exact ⟨i,j,rp,rq,c,PostE.here P S (r H b)⟩
  ·exact P.elim
 ·exact P.elim
theorem J8 {h:Int->Int->V} {g:Int->Int->PV} (hg:∀ i j H b,RV X.K H b (g i j) (h i j)):OpG X E (rI0 h) (gI fun i j=>some (g i j)):=by
 intro H b st p q u v Q S rp rq P
 unfold gI at P
 split at P
 ·rename_i i j
  unfold RV at rp rq
  exact ⟨i,j,rp,rq,PostE.here P S (hg i j H b)⟩
 ·exact P.elim
theorem Qk {K:W.Frag} {H:Hp} {b:Bz} {i:Int}:RV K H b (.int i) (.int i):=by unfold RV;rfl
theorem zZ {K:W.Frag} {H:Hp} {b:Bz} {i:Bool}:RV K H b (.bl i) (.bl i):=by unfold RV;rfl
def wV:=gI fun i j=>some (.int (i - j))
def wI:=gI fun i j=>if (-(2 ^ 64) < i∧i < 2 ^ 64)∨(-(2 ^ 64) < j∧j < 2 ^ 64) then some (.int (i * j)) else none
def qEG:=gI fun i j=>if 0 < j∧j < 1073741824 then some (.int (i / j)) else none
def YD:=gI fun i j=>if 0 < j then some (.int (i % j)) else none
def qJn:=gI fun i j=>if 0≤j∧j≤1000000∧i.natAbs < 2 ^ 64 then some (.int (i ^ j.toNat)) else none
theorem WV (ha:VE X E a fa) (hb:VE X E c fb):VE X E (.BinOp a .Sub c pos) (qH wV fa fb):=ZN qI8 (J8 fun _ _ _ _=>Qk) ha hb
theorem WW (ha:VE X E a fa) (hb:VE X E c fb):VE X E (.BinOp a .Mult c pos) (qH wI fa fb):=ZN qHy (qDo fun i j z e=>by
 split at e
 ·rename_i h;cases e;exact ⟨h,fun _ _=>Qk⟩
 ·cases e) ha hb
theorem qFI (ha:VE X E a fa) (hb:VE X E c fb):VE X E (.BinOp a .FloorDiv c pos) (qH qEG fa fb):=ZN qGt (qDo fun i j z e=>by
 split at e
 ·rename_i h;cases e;exact ⟨h,fun _ _=>Qk⟩
 ·cases e) ha hb
theorem YC (ha:VE X E a fa) (hb:VE X E c fb):VE X E (.BinOp a .Mod c pos) (qH YD fa fb):=ZN qJR (qDo fun i j z e=>by
 split at e
 ·rename_i h;cases e;exact ⟨h,fun _ _=>Qk⟩
 ·cases e) ha hb
theorem qDn (ha:VE X E a fa) (hb:VE X E c fb):VE X E (.BinOp a .Pow c pos) (qH qJn fa fb):=ZN qIj (qDo fun i j z e=>by
 split at e
 ·rename_i h;cases e;exact ⟨h,fun _ _=>Qk⟩
 ·cases e) ha hb
def qk:=gI fun i j=>some (.int (i + j))
theorem QV (ha:VE X E a fa) (hb:VE X E c fb):VE X E (.BinOp a .Add c pos) (qH qk fa fb):=ZN qJY (J8 fun _ _ _ _=>Qk) ha hb
def qJI:PV->PV->qC->Rs PV:=fun p q st=>match p,q with
 | .str x,.str y=>if x.length + y.length≤sizeLine then .ok (.str (x++y)) st else .no
 |_,_ => .no
theorem qF0 (ha:VE X E a fa) (hb:VE X E c fb):VE X E (.BinOp a .Add c pos) (qH qJI fa fb):=ZN qBo (fun H b st p q u v Q S rp rq P=>by
 unfold qJI at P
 split at P
 ·rename_i x y
  unfold RV at rp rq
  split at P
  ·rename_i h;exact ⟨x,y,rp,rq,h,PostE.here P S (by unfold RV;rfl)⟩
  ·exact P.elim
 ·exact P.elim) ha hb
def gLt:=gI fun i j=>some (.bl (decide (i < j)))
def gLe:=gI fun i j=>some (.bl (decide (i≤j)))
def gGt:=gI fun i j=>some (.bl (decide (j < i)))
theorem qKn:OpG X E (rI0 fun i j => .bl (decide (i < j))) gLt:=J8 fun _ _ _ _=>zZ
theorem qAC:OpG X E (rI0 fun i j => .bl (decide (i≤j))) gLe:=J8 fun _ _ _ _=>zZ
theorem qET:OpG X E (rI0 fun i j => .bl (decide (j < i))) gGt:=J8 fun _ _ _ _=>zZ
def ZO (g g':PV->PV->qC->Rs PV) (fa fb fc:FE):FE:=fun r st=>(fa r st).bind fun p s1=>(fb r s1).bind fun q s2=>(g p q s2).bind fun z s3=>match z with
 | .bl true=>(fc r s3).bind fun w s4=>g' q w s4
 | .bl false => .ok (.bl false) s3
 |_ => .no
theorem qFN {op op':CmpOp} {t t':R2} {g g':PV->PV->qC->Rs PV} (ho:OpR X (compareOp op) t) (ho':OpR X (compareOp op') t') (hg:OpG X E t g) (hg':OpG X E t' g') (ha:VE X E a fa) (hb:VE X E c fb) (hc:VE X E d fc)
  (hm:lastMarks [op,op'] [c,d]=false:=by with_unfolding_all rfl):VE X E (.Compare a [op,op'] [c,d] pos) (ZO g g' fa fb fc):=by
 refine PE.imp (qEp ho ho' ha hb hc hm) fun s H Q ⟨b,r,st,S,R,P⟩ => ?_
 refine ⟨b,r,st,S,R,PostE.bind P fun p s1 u H1 b1 e1 S1 r1 P1=>⟨b1,r,s1,S1,R.ext e1,PostE.bind P1 fun q s2 v H2 b2 e2 S2 r2 P2 => ?_⟩⟩
 refine hg H2 b2 s2 p q u v _ S2 (RV.ext e2 p r1) r2 (PostE.bind P2 fun z s3 zv H3 b3 e3 S3 r3 P3 => ?_)
 split at P3
 ·unfold RV at r3
  refine ⟨true,r3,qBQ ⟨b3,r,s3,S3,((R.ext e1).ext e2).ext e3,PostE.bind P3 fun w s4 wv H4 b4 e4 S4 r4 P4 => ?_⟩⟩
  exact hg' H4 b4 s4 q w v wv Q S4 (RV.ext e4 q (RV.ext e3 q r2)) r4 P4
 ·unfold RV at r3
  exact ⟨false,r3,qBa (PostE.here P3 S3 zZ)⟩
 ·exact P3.elim
def qAM (st:qC):PV->Option Bool
 | .non=>some false
 | .bl x=>some x
 | .int i=>some (i != 0)
 | .tup l=>some (!l.isEmpty)
 | .lst l=>some (!l.isEmpty)
 | .ref i=>(asL st (.ref i)).map fun l => !l.isEmpty
 |_=>none
theorem qEM {K:W.Frag} {H:Hp} {b:Bz} {st:qC} {p:PV} {v:V} {k:Bool} (S:SR K H b st) (r:RV K H b p v) (h:qAM st p=some k):qGU K v H k:=by
 have emp:∀ {l:List PV} {xs:List V},RVs K H b l xs->(!l.isEmpty) = !xs.isEmpty:=fun {l xs} q=>by
  have:=q.length
  cases l <;> cases xs <;> first |rfl |(simp at this)
 cases p with
 |non=>unfold RV at r;subst r;exact (Option.some.inj h).symm
 |bl x=>unfold RV at r;subst r;exact (Option.some.inj h).symm
 |int x=>unfold RV at r;subst r;exact (Option.some.inj h).symm
 |tup l =>
  unfold RV at r
  obtain ⟨a,xs,rfl,h2,h3⟩:=r
  exact .inr (.inl ⟨xs,h2.sq,by rw [← emp h3];exact (Option.some.inj h).symm⟩)
 |lst l =>
  obtain ⟨a,xs,rfl,h2,h3⟩:=wQ S r rfl
  exact .inl ⟨xs,h2,by rw [← emp h3];exact (Option.some.inj h).symm⟩
 |ref i =>
  unfold qAM at h
  dsimp only at h
  cases q:asL st (.ref i) with
  |none=>rw [q] at h;cases h
  |some l =>
   rw [q] at h
   obtain ⟨a,xs,rfl,h2,h3⟩:=wQ S r q
   exact .inl ⟨xs,h2,by rw [← emp h3];exact (Option.some.inj h).symm⟩
 |_=>cases h
def QO (f:FE):FT:=fun r st=>(f r st).bind fun p s=>match qAM s p with
 |some k => .ok k s
 |none => .no
theorem qFY {R:Bool->Hp->Prop} {s:L2.St} {H:Hp} (h:rdT X.K E (QO f) s H R):rd X.K E f s H fun x H' => ∃ k,qGU X.K x H' k∧R k H':=by
 obtain ⟨b,r,st,S,RE,P⟩:=h
 refine ⟨b,r,st,S,RE,PostE.bindT P fun p s1 u H1 b1 e1 S1 r1 P1 => ?_⟩
 split at P1
 ·rename_i k e;exact ⟨k,qEM S1 r1 e,P1 H1 b1 (Ext.refl _ _) S1⟩
 ·exact P1.elim
theorem Wz (h:VE X E e f) (he:∀ whole,isTrue e X.env whole=(do let v ← whole;standAt e.pos;holding [v] (truthy v)):=by intro _;rfl):VT X E e (QO f):=PT.imp (qEe h he) fun s H Q q=>qFY q
def vTB (f:FE):FT:=fun r st=>(f r st).bind fun p s=>match p with
 | .bl k => .ok k s
 |_ => .no
theorem qHD {R:Bool->Hp->Prop} {s:L2.St} {H:Hp} (h:rdT X.K E (vTB f) s H R):rd X.K E f s H fun x H' => ∃ k,x = .bl k∧R k H':=by
 obtain ⟨b,r,st,S,RE,P⟩:=h
 refine ⟨b,r,st,S,RE,PostE.bindT P fun p s1 u H1 b1 e1 S1 r1 P1 => ?_⟩
 split at P1
 ·rename_i k;unfold RV at r1;exact ⟨k,r1,P1 H1 b1 (Ext.refl _ _) S1⟩
 ·exact P1.elim
theorem Qs {op:CmpOp} {t:R2} {g:PV->PV->qC->Rs PV} (ho:OpR X (compareOp op) t) (hg:OpG X E t g) (ha:VE X E a fa) (hb:VE X E c fb) (hm:behindInMarks op c=false:=by first |exact QZ _ |with_unfolding_all rfl):VT X E (.Compare a [op] [c] pos) (vTB (qH g fa fb)) :=
 PT.imp (qF4 ho ha hb hm) fun s H Q q=>jj hg s H _ (qHD q)
theorem qEK {op op':CmpOp} {t t':R2} {g g':PV->PV->qC->Rs PV} (ho:OpR X (compareOp op) t) (ho':OpR X (compareOp op') t') (hg:OpG X E t g) (hg':OpG X E t' g') (ha:VE X E a fa) (hb:VE X E c fb) (hc:VE X E d fc)
  (hm:lastMarks [op,op'] [c,d]=false:=by with_unfolding_all rfl):VT X E (.Compare a [op,op'] [c,d] pos) (vTB (ZO g g' fa fb fc)):=by
 refine PT.imp (qDw ho ho' ha hb hc hm) fun s H Q q => ?_
 obtain ⟨b,r,st,S,R,P⟩:=qHD q
 refine ⟨b,r,st,S,R,PostE.bind P fun p s1 u H1 b1 e1 S1 r1 P1=>⟨b1,r,s1,S1,R.ext e1,PostE.bind P1 fun q s2 v H2 b2 e2 S2 r2 P2 => ?_⟩⟩
 refine hg H2 b2 s2 p q u v _ S2 (RV.ext e2 p r1) r2 (PostE.bind P2 fun z s3 zv H3 b3 e3 S3 r3 P3 => ?_)
 split at P3
 ·unfold RV at r3
  refine ⟨true,r3,qBQ ⟨b3,r,s3,S3,((R.ext e1).ext e2).ext e3,PostE.bind P3 fun w s4 wv H4 b4 e4 S4 r4 P4 => ?_⟩⟩
  exact hg' H4 b4 s4 q w v wv _ S4 (RV.ext e4 q (RV.ext e3 q r2)) r4 P4
 ·unfold RV at r3
  exact ⟨false,r3,qBa (PostE.here P3 S3 zZ)⟩
 ·exact P3.elim
def w8 (f:FT):FT:=fun r st=>(f r st).bind fun k s => .ok (!k) s
theorem zR {f:FT} (h:VT X E a f):VT X E (.UnaryOp .Not a pos) (w8 f):=PT.imp (qHc h) fun s H Q ⟨b,r,st,S,R,P⟩=>⟨b,r,st,S,R,PostT.bindT P fun k s1 H1 b1 e1 S1 P1=>P1 H1 b1 (Ext.refl _ _) S1⟩
abbrev VW (X:Cx) (E:XK) (e:Expr) (f:FT):Prop:=PW X e (rdT X.K E f)
theorem PW.imp {X:Cx} {e:Expr} {t t':TT} (h:PW X e t) (i:∀ s H Q,t' s H Q->t s H Q):PW X e t':=fun w pins s σ H Q I q=>h w pins s σ H Q I (i _ _ _ q)
def yq (f g:FT):FT:=fun r st=>(f r st).bind fun k s=>if k=true then g r s else .ok false s
def Z1 (f g:FT):FT:=fun r st=>(f r st).bind fun k s=>if k=true then .ok true s else g r s
theorem qFz {f:FT} (h:VT X E a f):VW X E (.BoolOp .And [a] pos) f:=qFv h
theorem YX {f:FT} (h:VT X E a f):VW X E (.BoolOp .Or [a] pos) f:=qIe h
theorem qHd {f g:FT} {rest:List Expr} (h:VT X E a f) (h2:VW X E (.BoolOp .And (c::rest) pos) g):VW X E (.BoolOp .And (a::c::rest) pos) (yq f g):=PW.imp (qIw h h2) fun s H Q ⟨b,r,st,S,R,P⟩ =>
 ⟨b,r,st,S,R,PostT.bindT P fun k s1 H1 b1 e1 S1 P1=>by
  cases k with
  |true=>exact qBQ ⟨b1,r,s1,S1,R.ext e1,P1⟩
  |false=>exact qBa (P1 H1 b1 (Ext.refl _ _) S1)⟩
theorem jF {f g:FT} {rest:List Expr} (h:VT X E a f) (h2:VW X E (.BoolOp .Or (c::rest) pos) g):VW X E (.BoolOp .Or (a::c::rest) pos) (Z1 f g):=PW.imp (qKP h h2) fun s H Q ⟨b,r,st,S,R,P⟩ =>
 ⟨b,r,st,S,R,PostT.bindT P fun k s1 H1 b1 e1 S1 P1=>by
  cases k with
  |true=>exact qBQ (P1 H1 b1 (Ext.refl _ _) S1)
  |false=>exact qBa ⟨b1,r,s1,S1,R.ext e1,P1⟩⟩
theorem qC2 {f:FT} (h:VW X E e f):VT X E e f:=h.pt
def qIP (f:FE):FE:=fun r st=>(f r st).bind fun p s=>match p with
 | .bl k => .ok (.bl (!k)) s
 |_ => .no
theorem qEz (h:VE X E a fa):VE X E (.UnaryOp .Not a pos) (qIP fa):=PE.imp (qJb h) fun s H Q ⟨b,r,st,S,R,P⟩ =>
 ⟨b,r,st,S,R,PostE.bind P fun p s1 u H1 b1 e1 S1 r1 P1=>by
  split at P1
  ·rename_i k;unfold RV at r1;exact ⟨k,r1,PostE.here P1 S1 zZ⟩
  ·exact P1.elim⟩
def JY (f g:FE):FE:=fun r st=>(f r st).bind fun p s=>match p with
 | .bl true=>g r s
 | .bl false => .ok (.bl false) s
 |_ => .no
theorem Ye {op} (h:VE X E a fa):VE X E (.BoolOp op [a] pos) fa:=qJL h
theorem yi {rest:List Expr} (h:VE X E a fa) (h2:VE X E (.BoolOp .And (c::rest) pos) fb):VE X E (.BoolOp .And (a::c::rest) pos) (JY fa fb):=PE.imp (qH2 h h2) fun s H Q ⟨b,r,st,S,R,P⟩ =>
 ⟨b,r,st,S,R,PostE.bind P fun p s1 u H1 b1 e1 S1 r1 P1=>by
  split at P1
  ·unfold RV at r1;exact ⟨true,r1,qBQ ⟨b1,r,s1,S1,R.ext e1,P1⟩⟩
  ·unfold RV at r1;exact ⟨false,r1,qBa (PostE.here P1 S1 zZ)⟩
  ·exact P1.elim⟩
def qD:FA:=fun _ st => .ok [] st
def qA (f:FE) (g:FA):FA:=fun r st=>(f r st).bind fun p s=>(g r s).bind fun ps s' => .ok (p::ps) s'
theorem qF:VA X E [] qD:=PA.imp qAv fun s H Q ⟨b,r,st,S,R,P⟩=>P [] H b (Ext.refl _ _) S RVs.nil
theorem Qz {f:FE} {g:FA} (h:VE X E e f) (h2:VA X E es g) (hs:starEach (e::es) X.env=(false,eval e X.env)::starEach es X.env:=by rfl):VA X E (e::es) (qA f g):=PA.imp (JL h h2 hs) fun s H Q ⟨b,r,st,S,R,P⟩ =>
 ⟨b,r,st,S,R,PostE.bindA P fun p s1 u H1 b1 e1 S1 r1 P1=>⟨b1,r,s1,S1,R.ext e1,PostA.bindA P1 fun ps s2 us H2 b2 e2 S2 r2 P2=>P2 (u::us) H2 b2 (Ext.refl _ _) S2 (RVs.cons (RV.ext e2 p r1) r2)⟩⟩
def wY (g:FA):FE:=fun r st=>(g r st).bind fun ps s=>if ps.length≤sizeLine then .ok (.tup ps) s else .no
theorem wH {g:FA} {x1} (h:VA X E es g):VE X E (.Tuple es x1 pos) (wY g):=PE.imp (qIh h) fun s H Q ⟨b,r,st,S,R,P⟩ =>
 ⟨b,r,st,S,R,PostA.bind P fun ps s1 us H1 b1 e1 S1 r1 P1=>by
  split at P1
  ·rename_i hl;exact ⟨by rw [← r1.length];exact hl,fun p hp=>PostE.layT P1 S1 r1 hp⟩
  ·exact P1.elim⟩
def w5 (g:FA):FL:=fun r st=>(g r st).bind fun ps s=>if ps.length≤sizeLine then .ok ps s else .no
theorem PostA.bindN {K:W.Frag} {E:XK} {H:Hp} {b:Bz} {r:Rs (List PV)} {k:List PV->qC->Rs (List PV)} {Q:VK} {R:List V->Hp->Prop} (P:PostN K E H b (r.bind k) Q)
  (h:∀ p st v H1 b1,Ext H b H1 b1->SR K H1 b1 st->RVs K H1 b1 p v->PostN K E H1 b1 (k p st) Q->R v H1):PostA K E H b r R:=by
 cases r with
 |ok p st=>exact fun v H1 b1 e S r=>h p st v H1 b1 e S r (PostN.ext (show PostN K E H b (k p st) Q from P) e)
 |ex x st=>exact P
 |no=>exact P
theorem PostE.bindN {K:W.Frag} {E:XK} {H:Hp} {b:Bz} {r:Rs PV} {k:PV->qC->Rs (List PV)} {Q:VK} {R:VK} (P:PostN K E H b (r.bind k) Q)
  (h:∀ p st v H1 b1,Ext H b H1 b1->SR K H1 b1 st->RV K H1 b1 p v->PostN K E H1 b1 (k p st) Q->R v H1):PostE K E H b r R:=by
 cases r with
 |ok p st=>exact fun v H1 b1 e S r=>h p st v H1 b1 e S r (PostN.ext (show PostN K E H b (k p st) Q from P) e)
 |ex x st=>exact P
 |no=>exact P
theorem Qq {g:FA} (h:VA X E es g):VN X E (.List es pos) (w5 g):=PE.imp (qJe h) fun s H Q ⟨b,r,st,S,R,P⟩ =>
 ⟨b,r,st,S,R,PostA.bindN P fun ps s1 us H1 b1 e1 S1 r1 P1=>by
  split at P1
  ·rename_i hl;exact ⟨by rw [← r1.length];exact hl,fun p hp=>PostN.lay P1 S1 r1 hp⟩
  ·exact P1.elim⟩
theorem qGb {K:W.Frag} {H:Hp} {b:Bz} {l:List PV} {xs:List V} {i:Int} {p:PV} (r:RVs K H b l xs) (h:atI l i=some p):∃ x,atI xs i=some x∧RV K H b p x:=by
 unfold atI at h ⊢
 rw [← r.length]
 cases q:ixN l.length i with
 |none=>rw [q] at h;cases h
 |some j=>rw [q] at h;exact r.get h
def gIx:PV->PV->qC->Rs PV:=fun p q st=>match q with
 | .int i=>match wt st p with
  |some l=>match atI l i with
   |some z => .ok z st
   |none => .no
  |none => .no
 |_ => .no
theorem QT (ha:VE X E a fa) (hb:VE X E c fb) (hs:qCH c:=by exact fun _ _=>rfl):VE X E (.Subscript a c pos) (qH gIx fa fb):=PE.imp (qKw qHw ha hb hs) (jj fun H b st p q u v Q S rp rq P=>by
 unfold gIx at P
 split at P
 ·rename_i i
  unfold RV at rq
  split at P
  ·rename_i l e
   split at P
   ·rename_i z ez
    obtain ⟨x1,xs,h1,h2,h3⟩:=qB2 S rp e
    obtain ⟨x,h4,h5⟩:=qGb h3 ez
    rcases h2 with h2 |h2
    ·exact .inl ⟨x1,xs,i,x,h1,rq,h2,h4,PostE.here P S h5⟩
    ·exact .inr (.inl ⟨x1,xs,i,x,h1,rq,h2,h4,PostE.here P S h5⟩)
   ·exact P.elim
  ·exact P.elim
 ·exact P.elim)
def qJ (g:List PV->qC->Rs PV) (t:FA):FE:=fun r st=>(t r st).bind fun ps s=>g ps s
def spG (K:W.Frag) (n:Nat) (g:List PV->qC->Rs PV):Sp:=fun vs H Q E=>vs.length=n ∧ ∃ b ps st,SR K H b st∧RVs K H b ps vs∧PostE K E H b (g ps st) Q
def qJp (X:Cx) (E:XK) (x:Str) (g:List PV->qC->Rs PV):Prop := ∀ (p pos:Pos) (e:Expr) (es:List Expr) (t:FA),VA X E (e::es) t->starEach (e::es) X.env=(false,eval e X.env)::starEach es X.env->(backTo pos (starEach es X.env)).any (·.1)=false->VE X E (.Call (.Name x p) (e::es) [] pos) (qJ g t)
theorem qV {x:Str} {g:List PV->qC->Rs PV} {t:FA} {p:Pos} (hc:qJp X E x g) (ha:VA X E (e::es) t) (he:starEach (e::es) X.env=(false,eval e X.env)::starEach es X.env:=by rfl) (hpl:(backTo pos (starEach es X.env)).any (·.1)=false:=by rfl):VE X E (.Call (.Name x p) (e::es) [] pos) (qJ g t):=hc p pos e es t ha he hpl
theorem qLa {CX:CXT} {k n:Nat} {fa:Addr} {fd:FuncData} {ps:List Str} {x:Str} {g:List PV->qC->Rs PV} (F:FnOk X.prog X.w X.K X.mg X.base CX k fa fd ps (spG X.K ps.length g)) (hr:Room k X.A) (hg:Gl X x) (hm:X.mg x=some (.ref fa)) (hk:PySem.W.keepIn X.K (.ref fa)=true)
  (hb:Binds X.K fd ps []) (hx:zX CX X E) (hlen:∀ l st,g l st ≠ .no->l.length=ps.length) (hdb:(x==("__debug__":Str))=false:=by decide):qJp X E x g:=fun p pos e es t ha he hpl =>
 PE.imp (qFq F hr hg hm hk hb .nil hx ha hdb he hpl) fun s H Q ⟨b,r,st,S,R,P⟩=>⟨b,r,st,S,R,PostA.bind P fun l s1 us H1 b1 e1 S1 r1 P1=>by
  have hne:g l s1 ≠ .no:=fun z=>by rw [z] at P1;exact P1
  rw [List.append_nil]
  exact ⟨by rw [← r1.length];exact hlen l s1 hne,b1,l,s1,S1,r1,P1⟩⟩
def ZJ (X:Cx) (E:XK) (t:List V->Hp->VK->Prop) (g:List PV->qC->Rs PV):Prop :=
 ∀ (H:Hp) (b:Bz) (st:qC) (ps:List PV) (vs:List V) (Q:VK),SR X.K H b st->RVs X.K H b ps vs->PostE X.K E H b (g ps st) Q->t vs H Q
theorem WR {x:Str} {id:String} {t:List V->Hp->VK->Prop} {g:List PV->qC->Rs PV} {ta:FA} {p:Pos} (hc:Ws X (.builtin id) t) (hG:ZJ X E t g) (hg:Gl X x) (hm:X.mg x=none) (hv:bootBuiltins x=some (.builtin id)) (ha:VA X E (e::es) ta) (hn:x ≠ "__name__" := by decide) (hdb:(x==("__debug__":Str))=false:=by decide)
  (he:starEach (e::es) X.env=(false,eval e X.env)::starEach es X.env:=by rfl) (hpl:(backTo pos (starEach es X.env)).any (·.1)=false:=by rfl):VE X E (.Call (.Name x p) (e::es) [] pos) (qJ g ta) :=
 PE.imp (qEc hc hg hm hv ha hn hdb he hpl) fun s H Q ⟨b,r,st,S,R,P⟩=>⟨b,r,st,S,R,PostA.bind P fun l s1 us H1 b1 e1 S1 r1 P1=>hG H1 b1 s1 l us Q S1 r1 P1⟩
theorem jL {x:Str} {T:String} {t:List V->Hp->VK->Prop} {g:List PV->qC->Rs PV} {ta:FA} {p:Pos} (hc:Ws X (.type T) t) (hG:ZJ X E t g) (hg:Gl X x) (hm:X.mg x=none) (hv:bootBuiltins x=some (.type T)) (ha:VA X E (e::es) ta) (hn:x ≠ "__name__" := by decide) (hdb:(x==("__debug__":Str))=false:=by decide)
  (he:starEach (e::es) X.env=(false,eval e X.env)::starEach es X.env:=by rfl) (hpl:(backTo pos (starEach es X.env)).any (·.1)=false:=by rfl):VE X E (.Call (.Name x p) (e::es) [] pos) (qJ g ta) :=
 PE.imp (qDO hc hg hm hv ha hn hdb he hpl) fun s H Q ⟨b,r,st,S,R,P⟩=>⟨b,r,st,S,R,PostA.bind P fun l s1 us H1 b1 e1 S1 r1 P1=>hG H1 b1 s1 l us Q S1 r1 P1⟩
theorem RVs.one {K:W.Frag} {H:Hp} {b:Bz} {p:PV} {vs:List V} (h:RVs K H b [p] vs):∃ v,vs=[v]∧RV K H b p v:=by
 unfold RVs at h
 obtain ⟨x,r,rfl,h2,h3⟩:=h
 unfold RVs at h3;subst h3
 exact ⟨x,rfl,h2⟩
theorem RVs.two {K:W.Frag} {H:Hp} {b:Bz} {p q:PV} {vs:List V} (h:RVs K H b [p,q] vs):∃ v w,vs=[v,w]∧RV K H b p v∧RV K H b q w:=by
 unfold RVs at h
 obtain ⟨x,r,rfl,h2,h3⟩:=h
 obtain ⟨y,rfl,h4⟩:=RVs.one h3
 exact ⟨x,y,rfl,h2,h4⟩
def QN:List PV->qC->Rs PV:=fun ps st=>match ps with
 |[p]=>match wt st p with
  |some l => .ok (.int l.length) st
  |none => .no
 |_ => .no
theorem qJr:ZJ X E (fun xs H Q => ∃ p ys,xs=[.ref p]∧(SqL X.K H p ys∨SqT X.K H p ys)∧Q (.int ys.length) H) QN:=by
 intro H b st ps vs Q S r P
 unfold QN at P
 split at P
 ·rename_i p
  obtain ⟨v,rfl,r1⟩:=RVs.one r
  split at P
  ·rename_i l e
   obtain ⟨a,xs,rfl,h2,h3⟩:=qB2 S r1 e
   refine ⟨a,xs,rfl,h2,?_⟩
   rw [← h3.length]
   exact PostE.here P S Qk
  ·exact P.elim
 ·exact P.elim
def za:List PV->qC->Rs PV:=fun ps st=>match ps with
 |[p]=>match wt st p with
  |some l => .ok (.tup l) st
  |none => .no
 |_ => .no
theorem qDV:ZJ X E (fun xs H Q => ∃ p ys,xs=[.ref p]∧((SqL X.K H p ys ∧ ∀ l,H l=none->Q (.ref l) (upd H l (.tup ys)))∨(SqT X.K H p ys∧Q (.ref p) H))) za:=by
 intro H b st ps vs Q S r P
 unfold za at P
 split at P
 ·rename_i p
  obtain ⟨v,rfl,r1⟩:=RVs.one r
  split at P
  ·rename_i l e
   cases p with
   |tup m =>
    have e':m=l:=Option.some.inj e
    subst e'
    have r0:=r1
    unfold RV at r1
    obtain ⟨a,xs,rfl,h2,h3⟩:=r1
    exact ⟨a,xs,rfl,.inr ⟨h2.sq,PostE.here P S r0⟩⟩
   |lst m =>
    obtain ⟨a,xs,rfl,h2,h3⟩:=wQ S r1 e
    exact ⟨a,xs,rfl,.inl ⟨h2,fun p hp=>PostE.layT P S h3 hp⟩⟩
   |ref i =>
    obtain ⟨a,xs,rfl,h2,h3⟩:=wQ S r1 e
    exact ⟨a,xs,rfl,.inl ⟨h2,fun p hp=>PostE.layT P S h3 hp⟩⟩
   |_=>cases e
  ·exact P.elim
 ·exact P.elim
def qDt:List PV->qC->Rs PV:=fun ps st=>match ps with
 |[.int i] => .ok (.int i) st
 |[.bl k] => .ok (.int (if k then 1 else 0)) st
 |_ => .no
theorem qJW:ZJ X E (fun xs H Q=>(∃ i,xs=[.int i]∧Q (.int i) H) ∨ ∃ k,xs=[.bl k]∧Q (.int (if k then 1 else 0)) H) qDt:=by
 intro H b st ps vs Q S r P
 unfold qDt at P
 split at P
 ·obtain ⟨v,rfl,r1⟩:=RVs.one r
  unfold RV at r1;subst r1
  exact .inl ⟨_,rfl,PostE.here P S Qk⟩
 ·obtain ⟨v,rfl,r1⟩:=RVs.one r
  unfold RV at r1;subst r1
  exact .inr ⟨_,rfl,PostE.here P S Qk⟩
 ·exact P.elim
def qBU:List PV->qC->Rs PV:=fun ps st=>match ps with
 |[.int i] => .ok (.int (if i < 0 then -i else i)) st
 |_ => .no
theorem qIV:ZJ X E (fun xs H Q => ∃ i,xs=[.int i]∧Q (.int (if i < 0 then -i else i)) H) qBU:=by
 intro H b st ps vs Q S r P
 unfold qBU at P
 split at P
 ·obtain ⟨v,rfl,r1⟩:=RVs.one r
  unfold RV at r1;subst r1
  exact ⟨_,rfl,PostE.here P S Qk⟩
 ·exact P.elim
def JA:List PV->qC->Rs PV:=fun ps st=>match ps with
 |[.int i,.int j] => .ok (.int (if j > i then j else i)) st
 |_ => .no
def qFH:List PV->qC->Rs PV:=fun ps st=>match ps with
 |[.int i,.int j] => .ok (.int (if j < i then j else i)) st
 |_ => .no
theorem qIX:ZJ X E (fun xs H Q => ∃ i j,xs=[.int i,.int j]∧Q (.int (if j > i then j else i)) H) JA:=by
 intro H b st ps vs Q S r P
 unfold JA at P
 split at P
 ·obtain ⟨v,w,rfl,r1,r2⟩:=RVs.two r
  unfold RV at r1 r2;subst r1;subst r2
  exact ⟨_,_,rfl,PostE.here P S Qk⟩
 ·exact P.elim
theorem qHr:ZJ X E (fun xs H Q => ∃ i j,xs=[.int i,.int j]∧Q (.int (if j < i then j else i)) H) qFH:=by
 intro H b st ps vs Q S r P
 unfold qFH at P
 split at P
 ·obtain ⟨v,w,rfl,r1,r2⟩:=RVs.two r
  unfold RV at r1 r2;subst r1;subst r2
  exact ⟨_,_,rfl,PostE.here P S Qk⟩
 ·exact P.elim
end
def QQ:FS:=fun r st => .nx r st
def qO (F G:FS):FS:=fun r st=>match F r st with
 | .nx r' st'=>G r' st'
 |o=>o
section
variable {X:Cx} {E:XK} {e a c d:Expr} {es:List Expr} {f fa fb fc:FE} {pos:Pos} {F G:FS} {s1:Stmt} {ss:List Stmt}
theorem QK:VSs X E [] QQ:=PSs.imp qFk fun D s H ⟨b,r,st,S,R,P⟩=>P s H b (Ext.refl _ _) S R
theorem PostS.seq {K:W.Frag} {E:XK} {H:Hp} {b:Bz} {o:RS} {G:FS} {D:Ends} (P:PostS K E H b (match o with | .nx r' st'=>G r' st' |o=>o) D):PostS K E H b o { D with nx:=rdS K E G D }:=by
 cases o with
 |nx r st=>exact fun s H' b' e S R=>⟨b',r,st,S,R,PostS.ext (show PostS K E H b (G r st) D from P) e⟩
 |rt p st=>exact P
 |bk p st=>exact P
 |ct p st=>exact P
 |ex x st=>exact P
 |no=>exact P
theorem qI (h1:VS X E s1 F) (h2:VSs X E ss G):VSs X E (s1::ss) (qO F G):=PSs.imp (qE6 h1 h2) fun D s H ⟨b,r,st,S,R,P⟩=>⟨b,r,st,S,R,PostS.seq P⟩
theorem qP (h1:VS X E s1 F):VSs X E [s1] F:=qF3 h1
def Wv (f:FE):FS:=fun r st=>(f r st).bindS fun _ s => .nx r s
theorem jr (h:VE X E e f) (hs:swapsWith e none pos.line X.env=pure false:=by rfl):VS X E (.Expr e pos) (Wv f):=PS.imp (qCV h hs) fun D s H ⟨b,r,st,S,R,P⟩ =>
 ⟨b,r,st,S,R,PostE.bindS P fun p s1 u H1 b1 e1 S1 r1 P1=>P1 s H1 b1 (Ext.refl _ _) S1 (R.ext e1)⟩
def qg (f:FE):FS:=fun r st=>(f r st).bindS fun p s => .rt p s
theorem qh (h:VE X E e f):VS X E (.Return (some e) pos) (qg f):=PS.imp (qE3 h) fun D s H ⟨b,r,st,S,R,P⟩ =>
 ⟨b,r,st,S,R,PostE.bindS P fun p s1 u H1 b1 e1 S1 r1 P1=>P1 u H1 b1 (Ext.refl _ _) S1 r1⟩
def yx (f:FL):FS:=fun r st=>(f r st).bindS fun l s => .rt (.ref s.length) (s++[.l l])
def QW (t:FT) (F G:FS):FS:=fun r st=>(t r st).bindS fun k s=>if k=true then F r s else G r s
theorem wU {t:FT} {bs cs:List Stmt} (hc:VT X E e t) (ha:VSs X E bs F) (hb:VSs X E cs G):VS X E (.If e bs cs pos) (QW t F G):=PS.imp (qKi hc ha hb) fun D s H ⟨b,r,st,S,R,P⟩ =>
 ⟨b,r,st,S,R,PostT.bindS P fun k s1 H1 b1 e1 S1 P1=>by
  cases k with
  |true=>exact qBQ ⟨b1,r,s1,S1,R.ext e1,P1⟩
  |false=>exact qBa ⟨b1,r,s1,S1,R.ext e1,P1⟩⟩
def qS (i:Nat) (f:FE):FS:=fun r st=>(f r st).bindS fun p s => .nx (r.set i (some p)) s
theorem qa (i:Nat) {x:Str} {p':Pos} (hN:X.N.Nodup) (h:VE X E e f) (hi:X.N[i]? = some x:=by rfl) (hx:Loc X.env.scope x:=by first |exact Or.inl rfl |exact Or.inr rfl) (hs:swapsWith e (some (.Name x p')) pos.line X.env=pure false:=by rfl) (hf:X.fn x=true∨X.env.scope.names.lookup x=some .local:=by first |exact .inl rfl |exact .inr rfl |assumption) :
  VS X E (.Assign [.Name x p'] e pos) (qS i f):=PS.imp (qDW hN hi hx h hs hf) fun D s H ⟨b,r,st,S,R,P⟩ =>
 ⟨b,r,st,S,R,PostE.bindS P fun p s1 u H1 b1 e1 S1 r1 P1=>P1 _ H1 b1 (Ext.refl _ _) S1 ((R.ext e1).set r1 i)⟩
def zk (i:Nat) (f:FL):FS:=fun r st=>(f r st).bindS fun l s => .nx (r.set i (some (.ref s.length))) (s++[.l l])
theorem Ext.adopt {H H':Hp} {b b':Bz} {p:Addr} (e:Ext H b H' b') (hn:H p=none):Ext H b H' ⟨b'.b++[p],b'.z⟩:=by
 obtain ⟨n,hb,hh⟩:=e.more
 refine ⟨⟨⟨n++[p],by rw [hb,List.append_assoc],fun a ha => ?_⟩,e.zm,e.keep,e.dom⟩,e.same,e.hid,e.fz⟩
 rcases List.mem_append.mp ha with ha |ha
 ·exact hh a ha
 ·rw [List.mem_singleton.mp ha];exact hn
theorem PostN.bindS {K:W.Frag} {E:XK} {H:Hp} {b:Bz} {r:Rs (List PV)} {k:PV->qC->RS} {D:Ends} {R:VK} (P:PostS K E H b (r.bindS fun l s=>k (.ref s.length) (s++[.l l])) D)
  (h:∀ q st v H1 b1,Ext H b H1 b1->SR K H1 b1 st->RV K H1 b1 q v->PostS K E H1 b1 (k q st) D->R v H1):PostN K E H b r R:=by
 cases r with
 |ok l st =>
  intro p xs H' b' e hn hp hz S rs
  have e':=e.adopt hn
  have hl:b'.b.length=st.length:=S.len
  refine h (.ref st.length) (st++[.l l]) (.ref p) H' ⟨b'.b++[p],b'.z⟩ e' (S.slot (x := .l l) hz hp ⟨xs,rfl,rs⟩) ?_ (PostS.ext (show PostS K E H b (k (.ref st.length) (st++[.l l])) D from P) e')
  unfold RV
  exact ⟨p,rfl,by show (b'.b++[p])[st.length]? = some p;rw [← hl];simp⟩
 |ex x st=>exact P
 |no=>exact P
theorem yf (i:Nat) {f:FL} {x:Str} {p':Pos} (hN:X.N.Nodup) (h:VN X E e f) (hi:X.N[i]? = some x:=by rfl) (hx:Loc X.env.scope x:=by first |exact Or.inl rfl |exact Or.inr rfl) (hs:swapsWith e (some (.Name x p')) pos.line X.env=pure false:=by rfl) (hf:X.fn x=true∨X.env.scope.names.lookup x=some .local:=by first |exact .inl rfl |exact .inr rfl |assumption) :
  VS X E (.Assign [.Name x p'] e pos) (zk i f):=PS.imp (qDW hN hi hx h hs hf) fun D s H ⟨b,r,st,S,R,P⟩ =>
 ⟨b,r,st,S,R,PostN.bindS (k:=fun q s => .nx (r.set i (some q)) s) P fun p s1 u H1 b1 e1 S1 r1 P1=>P1 _ H1 b1 (Ext.refl _ _) S1 ((R.ext e1).set r1 i)⟩
theorem qCO {f:FL} (h:VN X E e f):VS X E (.Return (some e) pos) (yx f):=PS.imp (qE3 h) fun D s H ⟨b,r,st,S,R,P⟩ =>
 ⟨b,r,st,S,R,PostN.bindS (k:=fun q s => .rt q s) P fun p s1 u H1 b1 e1 S1 r1 P1=>P1 u H1 b1 (Ext.refl _ _) S1 r1⟩
abbrev FG:=PV->qf->Option qf
abbrev FGs:=List PV->qf->Option qf
def rdG (K:W.Frag) (g:FG):TG:=fun v s H Q => ∃ b r p st,SR K H b st∧REnv K H b r s∧RV K H b p v ∧ ∃ r',g p r=some r' ∧ ∀ s',REnv K H b r' s'->Q s' H
def qK3 (K:W.Frag) (g:FGs):TGs:=fun v s H Q => ∃ b r p st,SR K H b st∧REnv K H b r s∧RVs K H b p v ∧ ∃ r',g p r=some r' ∧ ∀ s',REnv K H b r' s'->Q s' H
abbrev VG (X:Cx) (e:Expr) (g:FG):Prop:=PG X e (rdG X.K g)
abbrev VGs (X:Cx) (e:List Expr) (g:FGs):Prop:=PGs X e (qK3 X.K g)
theorem PG.imp {X:Cx} {e:Expr} {t t':TG} (h:PG X e t) (i:∀ v s H Q,t' v s H Q->t v s H Q):PG X e t':=fun pins s σ H v u Q I r q=>h pins s σ H v u Q I r (i _ _ _ _ q)
theorem PGs.imp {X:Cx} {e:List Expr} {t t':TGs} (h:PGs X e t) (i:∀ v s H Q,t' v s H Q->t v s H Q):PGs X e t':=fun pins s σ H v u Q I r q=>h pins s σ H v u Q I r (i _ _ _ _ q)
def qz (i:Nat):FG:=fun p r=>some (r.set i (some p))
theorem Qd (i:Nat) {x:Str} (hN:X.N.Nodup) (hi:X.N[i]? = some x:=by rfl) (hx:Loc X.env.scope x:=by first |exact Or.inl rfl |exact Or.inr rfl) (hf:X.fn x=true∨X.env.scope.names.lookup x=some .local:=by first |exact .inl rfl |exact .inr rfl |assumption):VG X (.Name x pos) (qz i) :=
 PG.imp (qFu hN hi hx hf) fun v s H Q ⟨b,r,p,st,S,R,rv,r',e,q⟩=>q _ (by cases e;exact R.set rv i)
def Zt:FGs:=fun l r=>match l with
 |[]=>some r
 |_=>none
def Q5 (g:FG) (gs:FGs):FGs:=fun l r=>match l with
 |p::ps=>match g p r with
  |some r'=>gs ps r'
  |none=>none
 |[]=>none
theorem Zs:VGs X [] Zt:=PGs.imp qCS fun v s H Q ⟨b,r,p,st,S,R,rv,r',e,q⟩=>by
 cases p with
 |nil=>unfold RVs at rv;subst rv;cases e;exact ⟨rfl,q s R⟩
 |cons _ _=>cases e
theorem wT {g:FG} {gs:FGs} (h1:VG X e g) (h2:VGs X es gs) (hs:(assignEach (e::es) X.env).map (·.2)=assign e X.env::(assignEach es X.env).map (·.2):=by rfl):VGs X (e::es) (Q5 g gs) :=
 PGs.imp (YW h1 h2 hs) fun v s H Q ⟨b,r,p,st,S,R,rv,r',e,q⟩=>by
  cases p with
  |nil=>cases e
  |cons p ps =>
   unfold RVs at rv
   obtain ⟨x,xr,rfl,h3,h4⟩:=rv
   unfold Q5 at e
   dsimp only at e
   cases e2:g p r with
   |none=>rw [e2] at e;cases e
   |some r2 =>
    rw [e2] at e
    exact ⟨x,xr,rfl,b,r,p,st,S,R,h3,r2,e2,fun s' R'=>⟨b,r2,ps,st,S,R',h4,r',e,q⟩⟩
def Zo (n:Nat) (gs:FGs):FG:=fun p r=>match p with
 | .tup l=>if l.length=n then gs l r else none
 |_=>none
theorem YG {k:Nat} {n:Nat} {gs:FGs} (hc:X.calm=true) (h:VGs X es gs) (hn:(assignEach es X.env).length=n:=by rfl) (hst:(assignEach es X.env).findIdx? (·.1)=none:=by rfl):VG X (.Tuple es k pos) (Zo n gs) :=
 PG.imp (qDl hc h hn hst) fun v s H Q ⟨b,r,p,st,S,R,rv,r',e,q⟩=>by
  unfold Zo at e
  split at e
  ·rename_i l
   split at e
   ·rename_i hl
    unfold RV at rv
    obtain ⟨a,xs,rfl,h2,h3⟩:=rv
    exact ⟨a,xs,rfl,h2.sq,by rw [← h3.length];exact hl,b,r,l,st,S,R,h3,r',e,q⟩
   ·cases e
  ·cases e
def qAh (f:FE) (g:FG):FS:=fun r st=>(f r st).bindS fun p s=>match g p r with
 |some r' => .nx r' s
 |none => .no
theorem qH8 {g:FG} (h:VE X E e f) (hg:VG X d g) (hs:swapsWithSole [d] e pos.line X.env=pure false:=by rfl) (hw:swappedStores [d] e X.env=pure none:=by rfl)
  (h1:(assignEach [d] X.env).map (·.2)=[assign d X.env]:=by rfl):VS X E (.Assign [d] e pos) (qAh f g):=PS.imp (qBD h hg hs hw h1) fun D s H ⟨b,r,st,S,R,P⟩ =>
 ⟨b,r,st,S,R,PostE.bindS P fun p s1 u H1 b1 e1 S1 r1 P1=>by
  cases e2:g p r with
  |none=>rw [e2] at P1;exact P1.elim
  |some r'=>rw [e2] at P1;exact ⟨b1,r,p,s1,S1,R.ext e1,r1,r',e2,fun s' R'=>P1 s' H1 b1 (Ext.refl _ _) S1 R'⟩⟩
def ZE (i j:Nat) (t:FA):FS:=fun r st=>(t r st).bindS fun l s=>match l with
 |[p,q] => .nx ((r.set i (some p)).set j (some q)) s
 |_ => .no
theorem qBS (i j:Nat) {x y:Str} {t:FA} {px py pt:Pos} {kt k2 pt2} (hc:X.calm=true) (hN:X.N.Nodup) (ha:VA X E [a,c] t) (hw:swappedStores [.Tuple [.Name x px,.Name y py] kt pt] (.Tuple [a,c] k2 pt2) X.env=pure (some [x,y]):=by rfl)
  (hi:X.N[i]? = some x:=by rfl) (hj:X.N[j]? = some y:=by rfl) (hij:i≠j:=by decide) (hx:X.env.scope.names.lookup x=some .local:=by rfl) (hy:X.env.scope.names.lookup y=some .local:=by rfl)
  (hs:swapsWithSole [.Tuple [.Name x px,.Name y py] kt pt] (.Tuple [a,c] k2 pt2) pos.line X.env=pure false:=by rfl):VS X E (.Assign [.Tuple [.Name x px,.Name y py] kt pt] (.Tuple [a,c] k2 pt2) pos) (ZE i j t) :=
 PS.imp (qH4 hc hN hi hj hij hx hy ha hw hs) fun D s H ⟨b,r,st,S,R,P⟩=>⟨b,r,st,S,R,PostA.bindS P fun l s1 us H1 b1 e1 S1 r1 P1=>by
  split at P1
  ·obtain ⟨u,v,rfl,h1,h2⟩:=RVs.two r1
   exact ⟨u,v,rfl,P1 _ H1 b1 (Ext.refl _ _) S1 (((R.ext e1).set h1 i).set h2 j)⟩
  ·exact P1.elim⟩
def w9 (st:qC) (o i v:PV):Option qC:=match o,i with
 | .ref n,.int k=>match st[n]? with
  |some (.l xs)=>match ixN xs.length k with
   |some j=>some (st.set n (.l (xs.set j v)))
   |none=>none
  |_=>none
 |_,_=>none
def YN (fo fi f:FE):FS:=fun r st=>(f r st).bindS fun p s1=>(fo r s1).bindS fun o s2=>(fi r s2).bindS fun i s3=>match w9 s3 o i p with
 |some s4 => .nx r s4
 |none => .no
theorem YE {K:W.Frag} {H:Hp} {b:Bz} {st st':qC} {o i p:PV} {ov iv v:V} {Q:Hp->Prop} (S:SR K H b st) (ro:RV K H b o ov) (ri:RV K H b i iv) (rp:RV K H b p v) (e:w9 st o i p=some st')
  (q:∀ H' b',Ext H b H' b'->SR K H' b' st'->Q H'):qHC ov iv v H Q:=by
 unfold w9 at e
 split at e
 ·rename_i n k
  split at e
  ·rename_i xs e1
   split at e
   ·rename_i j e2
    cases e
    unfold RV at ro ri
    obtain ⟨a,rfl,ha⟩:=ro
    obtain ⟨a',o',h1,h2,vs,rfl,h4⟩:=S.at_ n _ e1
    rw [ha] at h1;cases h1
    have hm:a∈b.b:=List.mem_of_getElem? ha
    refine ⟨a,vs,k,j,rfl,ri,h2,by rw [← h4.length];exact e2,q _ b (Ext.wr hm S.zb (qF2 h2)) (S.wr (x := .l (xs.set j p)) ha ⟨_,rfl,?_⟩)⟩
    have ew:Ext H b (upd H a (.lst (vs.set j v))) b:=Ext.wr hm S.zb (qF2 h2)
    exact RVs.set (RV.ext ew p rp) j (RVs.ext ew xs h4)
   ·cases e
  ·cases e
 ·cases e
theorem qFe {fo fi:FE} {o i:Expr} {tpos:Pos} (ho:VE X E o fo) (hi:VE X E i fi) (h:VE X E e f)
  (hs:swapsWithSole [.Subscript o i tpos] e pos.line X.env=pure false:=by rfl) (hw:swappedStores [.Subscript o i tpos] e X.env=pure none:=by rfl) (h1:(assignEach [.Subscript o i tpos] X.env).map (·.2)=[assign (.Subscript o i tpos) X.env]:=by rfl)
  (ha:∀ v,assign (.Subscript o i tpos) X.env v=(do
   let ov ← holding [v] (eval o X.env)
   let iv ← holding [v,ov] (eval i X.env)
   standAt tpos
   holding [v,ov,iv] (setItem ov iv v)
   release [v,ov,iv] []):=by intro _;rfl):VS X E (.Assign [.Subscript o i tpos] e pos) (YN fo fi f) :=
 PS.imp (qBD h (qBd ho hi Ym ha) hs hw h1) fun D s H ⟨b,r,st,S,R,P⟩=>⟨b,r,st,S,R,PostE.bindS P fun p s1 u H1 b1 e1 S1 r1 P1 =>
  ⟨b1,r,s1,S1,R.ext e1,PostE.bindS P1 fun o s2 ou H2 b2 e2 S2 r2 P2=>⟨b2,r,s2,S2,(R.ext e1).ext e2,PostE.bindS P2 fun i s3 iu H3 b3 e3 S3 r3 P3=>by
   split at P3
   ·rename_i s4 e4
    exact YE S3 (RV.ext e3 o r2) r3 (RV.ext e3 p (RV.ext e2 p r1)) e4 fun H' b' e' S'=>P3 s H' b' e' S' ((((R.ext e1).ext e2).ext e3).ext e')
   ·exact P3.elim⟩⟩⟩
structure ItP where
 l:List PV
 G:qC->Prop
def yX (K:W.Frag) (H0:Hp) (b0:Bz) (J:It) (w:ItP):Prop := ∀ H1 b1 st1,WE H0 b0 H1 b1->SR K H1 b1 st1->w.G st1 ->
 (∀ (i:Nat) (p:PV),w.l[i]? = some p->J.go i H1 ∧ ∀ x H2,J.yld i H1 x H2->Same H1 H2∧SR K H2 b1 st1∧RV K H2 b1 p x) ∧ ∀ i,w.l.length≤i->J.stop i H1
def PostI (K:W.Frag) (E:XK) (H:Hp) (b:Bz) (r:Rs ItP) (R:It->Hp->Prop):Prop:=match r with
 | .ok w st => ∀ J H' b',Ext H b H' b'->SR K H' b' st->yX K H' b' J w->R J H'
 | .ex x st=>XP K E H b x st
 | .no=>False
abbrev FI:=qf->qC->Rs ItP
def rdI (K:W.Frag) (E:XK) (f:FI):TI:=fun s H R => ∃ b r st,SR K H b st∧REnv K H b r s∧PostI K E H b (f r st) R
abbrev VI (X:Cx) (E:XK) (tg e:Expr) (f:FI):Prop:=PI X tg e (rdI X.K E f)
theorem PostI.ext {K:W.Frag} {E:XK} {H H1:Hp} {b b1:Bz} {r:Rs ItP} {R:It->Hp->Prop} (h:PostI K E H b r R) (e:Ext H b H1 b1):PostI K E H1 b1 r R:=by
 cases r with
 |ok p st=>exact fun J H' b' e'=>h J H' b' (e.trans e')
 |ex x st=>exact XP.ext h e
 |no=>exact h
theorem PostE.bindI {K:W.Frag} {E:XK} {H:Hp} {b:Bz} {r:Rs PV} {k:PV->qC->Rs ItP} {Q:It->Hp->Prop} {R:VK} (P:PostI K E H b (r.bind k) Q)
  (h:∀ p st v H1 b1,Ext H b H1 b1->SR K H1 b1 st->RV K H1 b1 p v->PostI K E H1 b1 (k p st) Q->R v H1):PostE K E H b r R:=by
 cases r with
 |ok p st=>exact fun v H1 b1 e S r=>h p st v H1 b1 e S r (PostI.ext (show PostI K E H b (k p st) Q from P) e)
 |ex x st=>exact P
 |no=>exact P
theorem PostA.bindI {K:W.Frag} {E:XK} {H:Hp} {b:Bz} {r:Rs (List PV)} {k:List PV->qC->Rs ItP} {Q:It->Hp->Prop} {R:List V->Hp->Prop} (P:PostI K E H b (r.bind k) Q)
  (h:∀ p st v H1 b1,Ext H b H1 b1->SR K H1 b1 st->RVs K H1 b1 p v->PostI K E H1 b1 (k p st) Q->R v H1):PostA K E H b r R:=by
 cases r with
 |ok p st=>exact fun v H1 b1 e S r=>h p st v H1 b1 e S r (PostI.ext (show PostI K E H b (k p st) Q from P) e)
 |ex x st=>exact P
 |no=>exact P
def qGC (p:PV) (st:qC):Rs ItP:=match p with
 | .ref i=>match asL st (.ref i) with
  |some l => .ok ⟨l,fun s=>s[i]? = some (.l l)⟩ st
  |none => .no
 |p=>match wt st p with
  |some l => .ok ⟨l,fun _=>True⟩ st
  |none => .no
def Q9 (f:FE):FI:=fun r st=>(f r st).bind qGC
theorem qIa {l tg:Expr} {tl:TE} (hl:PE X l tl):PI X tg l (fun σ H R=>tl σ H fun x H1 => ∃ a,x = .ref a∧(((∃ xs,SqL X.K H1 a xs)∧R (Itl X.K a) H1)∨((∃ xs,SqT X.K H1 a xs)∧R (Itt X.K a) H1))):=by
 intro pins s σ H R I h
 refine thn (hl pins s σ H _ I h) fun v s1 ⟨x,H1,I1,r1,q1⟩ => ?_
 obtain ⟨a,e,q⟩:=q1
 subst e
 cases r1
 rcases q with ⟨⟨xs,hq⟩,q⟩ |⟨⟨xs,hq⟩,q⟩
 ·obtain ⟨its,rv,p,hz⟩:=I1.list hq
  refine wpAny_pyIter_list p.isList ?_
  refine ⟨s1.heap.objs.size,[s1.heap.objs.size],_,_,H1,rfl,I1.kept (t':=s1.toks) fun b o e=>Heap.get?_push_of_some _ e,qC6 a _,⟨_,Heap.get?_push_size _ rfl,rfl,rfl⟩,fun b hb => ?_,q⟩
  have e:b=s1.heap.objs.size:=by simpa using hb
  subst e
  exact I1.fpOk (Nat.le_refl _) (I1.hok.fresh (Nat.le_refl _))
 ·obtain ⟨its,rv,p,hz⟩:=I1.tuple hq
  refine wpAny_pyIter_tuple (show s1.heap.IsTuple a its.toArray from p) ?_
  refine ⟨s1.heap.objs.size,[s1.heap.objs.size],_,_,H1,rfl,I1.kept (t':=s1.toks) fun b o e=>Heap.get?_push_of_some _ e,qBN a _,⟨_,Heap.get?_push_size _ rfl,rfl,rfl⟩,fun b hb => ?_,q⟩
  have e:b=s1.heap.objs.size:=by simpa using hb
  subst e
  exact I1.fpOk (Nat.le_refl _) (I1.hok.fresh (Nat.le_refl _))
theorem jR {K:W.Frag} {H0:Hp} {b0:Bz} {a:Addr} {l:List PV} {G:qC->Prop}
  (h:∀ H1 b1 st1,WE H0 b0 H1 b1->SR K H1 b1 st1->G st1 -> ∃ xs,SqL K H1 a xs∧RVs K H1 b1 l xs):yX K H0 b0 (Itl K a) ⟨l,G⟩:=by
 intro H1 b1 st1 e S g
 obtain ⟨xs,hq,r⟩:=h H1 b1 st1 e S g
 refine ⟨fun i p hp => ?_,fun i hi=>⟨xs,hq,by rw [← r.length];exact hi⟩⟩
 obtain ⟨x,hx,rx⟩:=r.get hp
 exact ⟨⟨xs,x,hq,hx⟩,fun y H2 ⟨e2,hy⟩=>by
  subst e2
  have:=hy xs hq
  rw [hx] at this;cases this
  exact ⟨Same.refl _,S,rx⟩⟩
theorem qFC {K:W.Frag} {H0:Hp} {b0:Bz} {a:Addr} {l:List PV} {G:qC->Prop}
  (h:∀ H1 b1 st1,WE H0 b0 H1 b1->SR K H1 b1 st1->G st1 -> ∃ xs,SqT K H1 a xs∧RVs K H1 b1 l xs):yX K H0 b0 (Itt K a) ⟨l,G⟩:=by
 intro H1 b1 st1 e S g
 obtain ⟨xs,hq,r⟩:=h H1 b1 st1 e S g
 refine ⟨fun i p hp => ?_,fun i hi=>⟨xs,hq,by rw [← r.length];exact hi⟩⟩
 obtain ⟨x,hx,rx⟩:=r.get hp
 exact ⟨⟨xs,x,hq,hx⟩,fun y H2 ⟨e2,hy⟩=>by
  subst e2
  have:=hy xs hq
  rw [hx] at this;cases this
  exact ⟨Same.refl _,S,rx⟩⟩
theorem W2 {tg:Expr} (h:VE X E e f):VI X E tg e (Q9 f):=fun pins s σ H R I q=>qIa h pins s σ H R I (by
 obtain ⟨b,r,st,S,RE,P⟩:=q
 refine ⟨b,r,st,S,RE,PostE.bindI P fun p s1 u H1 b1 e1 S1 r1 P1 => ?_⟩
 unfold qGC at P1
 split at P1
 ·rename_i i
  split at P1
  ·rename_i l el
   have r0:=r1
   unfold RV at r1
   obtain ⟨a,rfl,ha⟩:=r1
   obtain ⟨a',xs,e2,hq,hr⟩:=wQ S1 r0 el
   cases e2
   refine ⟨a,rfl,.inl ⟨⟨xs,hq⟩,P1 _ H1 b1 (Ext.refl _ _) S1 (jR fun H2 b2 st2 e2 S2 g2 => ?_)⟩⟩
   obtain ⟨a'',o,k1,k2,vs,rfl,k4⟩:=S2.at_ i _ g2
   rw [e2.ix ha] at k1;cases k1
   exact ⟨vs,SqL.of k2,k4⟩
  ·exact P1.elim
 ·split at P1
  ·rename_i l el
   cases p with
   |tup m =>
    have em:m=l:=Option.some.inj el
    subst em
    unfold RV at r1
    obtain ⟨a,xs,rfl,h2,h3⟩:=r1
    exact ⟨a,rfl,.inr ⟨⟨xs,h2.sq⟩,P1 _ H1 b1 (Ext.refl _ _) S1 (qFC fun H2 b2 st2 e2 S2 _=>⟨xs,(h2.wext e2).sq,RVs.wext e2 m h3⟩)⟩⟩
   |lst m =>
    have em:m=l:=Option.some.inj el
    subst em
    unfold RV at r1
    obtain ⟨a,xs,rfl,h2,h3⟩:=r1
    exact ⟨a,rfl,.inl ⟨⟨xs,h2.sq⟩,P1 _ H1 b1 (Ext.refl _ _) S1 (jR fun H2 b2 st2 e2 S2 _=>⟨xs,(h2.wext e2).sq,RVs.wext e2 m h3⟩)⟩⟩
   |ref i=>rename_i hx;exact (hx i rfl).elim
   |_=>cases el
  ·exact P1.elim)
def yt (lo hi:Int):List PV:=(List.range (hi - lo).toNat).map fun (i:Nat)=>PV.int (lo + (i:Int))
def zd (l:List PV) (st:qC):Rs ItP:=match l with
 |[.int j]=>if -(2 ^ 62)≤j∧j < 2 ^ 62 then .ok ⟨yt 0 j,fun _=>True⟩ st else .no
 |_ => .no
def ja (l:List PV) (st:qC):Rs ItP:=match l with
 |[.int i,.int j]=>if -(2 ^ 62)≤i∧i < 2 ^ 62 ∧ -(2 ^ 62)≤j∧j < 2 ^ 62 then .ok ⟨yt i j,fun _=>True⟩ st else .no
 |_ => .no
theorem qAr {K:W.Frag} {H0:Hp} {b0:Bz} {lo hi:Int}:yX K H0 b0 (Itr lo (hi - lo).toNat) ⟨yt lo hi,fun _=>True⟩:=by
 intro H1 b1 st1 e S g
 have hl:(yt lo hi).length=(hi - lo).toNat:=by simp [yt]
 refine ⟨fun i p hp => ?_,fun i hi'=>by rw [show (ItP.mk (yt lo hi) fun _=>True).l.length=(hi - lo).toNat from hl] at hi';exact hi'⟩
 have hi':i < (hi - lo).toNat:=by
  have:=(List.getElem?_eq_some_iff.mp hp).1
  rw [← hl];exact this
 unfold yt at hp
 dsimp only at hp
 rw [List.getElem?_map,List.getElem?_range hi'] at hp
 cases hp
 exact ⟨hi',fun x H2 ⟨e1,e2⟩=>by subst e1;subst e2;exact ⟨Same.refl _,S,Qk⟩⟩
def wg (t:FA):FI:=fun r st=>(t r st).bind zd
def ZM (t:FA):FI:=fun r st=>(t r st).bind ja
theorem wM {tg:Expr} {t:FA} {p:Pos} (hg:Gl X "range") (hm:X.mg "range" = none) (ha:VA X E [a] t) (hs:starEach [a] X.env=[(false,eval a X.env)]:=by rfl):VI X E tg (.Call (.Name "range" p) [a] [] pos) (wg t):=fun pins s σ H R I q=>qDN hg hm ha hs pins s σ H R I (by
 obtain ⟨b,r,st,S,RE,P⟩:=q
 refine ⟨b,r,st,S,RE,PostA.bindI P fun l s1 us H1 b1 e1 S1 r1 P1 => ?_⟩
 unfold zd at P1
 split at P1
 ·obtain ⟨u,rfl,h1⟩:=RVs.one r1
  unfold RV at h1;subst h1
  split at P1
  ·rename_i j hj
   refine ⟨j,rfl,hj.1,hj.2,?_⟩
   have:=P1 (Itr 0 (j - 0).toNat) H1 b1 (Ext.refl _ _) S1 qAr
   rw [Int.sub_zero] at this
   exact this
  ·exact P1.elim
 ·exact P1.elim)
theorem yC {tg:Expr} {t:FA} {p:Pos} (hg:Gl X "range") (hm:X.mg "range" = none) (ha:VA X E [a,c] t) (hs:starEach [a,c] X.env=[(false,eval a X.env),(false,eval c X.env)]:=by rfl) (hs2:starEach [c] X.env=[(false,eval c X.env)]:=by rfl):VI X E tg (.Call (.Name "range" p) [a,c] [] pos) (ZM t):=fun pins s σ H R I q=>qDF hg hm ha hs hs2 pins s σ H R I (by
 obtain ⟨b,r,st,S,RE,P⟩:=q
 refine ⟨b,r,st,S,RE,PostA.bindI P fun l s1 us H1 b1 e1 S1 r1 P1 => ?_⟩
 unfold ja at P1
 split at P1
 ·obtain ⟨u,v,rfl,h1,h2⟩:=RVs.two r1
  unfold RV at h1 h2;subst h1;subst h2
  split at P1
  ·rename_i i j hj
   exact ⟨i,j,rfl,hj,P1 _ H1 b1 (Ext.refl _ _) S1 qAr⟩
  ·exact P1.elim
 ·exact P1.elim)
theorem PSs.unbare {X:Cx} {st:List Stmt} {t:TS} (h:PSs X.nox st t) {pins:List (Addr×Obj)} {s:Shared} {σ:L2.St} {H:Hp} {D:Ends} {E:Value->Shared->Prop} (I:L2.Inv X pins σ H s) (q:t D σ H):wpAny (model X.prog X.w) X.A (execs st X.env) (SP X pins D) E s :=
 wpAny_noRaise (thn (h pins s σ H D (I.wish _) q) fun f s' hs=>hs.unwish)
theorem PT.unbare {X:Cx} {e:Expr} {t:TT} (h:PT X.nox e t) {pins:List (Addr×Obj)} {s:Shared} {σ:L2.St} {H:Hp} {Q:Bool->Hp->Prop} {E:Value->Shared->Prop} (I:L2.Inv X pins σ H s) (q:t σ H Q):wpAny (model X.prog X.w) X.A (isTrue e X.env (eval e X.env)) (TP X pins σ Q) E s :=
 wpAny_noRaise (thn (h pins s σ H Q (I.wish _) q) fun f s' ⟨H',I',q'⟩=>⟨H',I'.unwish,q'⟩)
theorem PG.unbare {X:Cx} {tg:Expr} {t:TG} (h:PG X.nox tg t) {pins:List (Addr×Obj)} {s:Shared} {σ:L2.St} {H:Hp} {v:V} {u:Value} {Q:L2.St->Hp->Prop} {E:Value->Shared->Prop} (I:L2.Inv X pins σ H s) (r:RelV v u) (q:t v σ H Q):wpAny (model X.prog X.w) X.A (assign tg X.env u) (fun _ s' => ∃ σ' H',L2.Inv X pins σ' H' s'∧Q σ' H') E s :=
 wpAny_noRaise (thn (h pins s σ H v u Q (I.wish _) r q) fun f s' ⟨σ',H',I',q'⟩=>⟨σ',H',I'.unwish,q'⟩)
theorem jv {tg iter:Expr} {body:List Stmt} {wi:TI} {g:TG} {tb:TS} {pos:Pos} (hi:PI X tg iter wi) (hg:PG X.nox tg g) (hb:PSs X.nox body tb)
  (hs:∀ x,foldedSetIterable iter X.env x=pure x:=by intro _;rfl):PS X (.For tg iter body [] pos) (qLR wi g tb):=by
 intro pins s σ H D I h
 refine wpAny_For (thn (hi pins s σ H _ I h) fun v s1 h1=>thn h1 fun itv s2 h2 => ?_) hs
 obtain ⟨it,fp,tn,J,H2,e,I2,T,st2,f2,W,⟨m0,w0⟩,turn⟩:=h2
 subst e
 have stat:∀ {H':Hp},(∀ b∈fp,H' b=none) -> ∀ b∈fp,ZQ X pins H' b:=fun hn b hb=>⟨hn b hb,(f2 b hb).2⟩
 refine codeAny_forLoop_any (fun n s' => ∃ i σ' H',L2.Inv X pins σ' H' s'∧tn i s'.heap∧(∀ b∈fp,H' b=none)∧W i n σ' H') ?_ m0 ⟨0,σ,H2,I2,st2,fun b hb=>(f2 b hb).1,w0⟩
 rintro n s3 ⟨i,σ3,H3,I3,st3,fr3,w3⟩
 rcases turn i n σ3 H3 w3 with ⟨stop,qn⟩ |⟨go,N,hN,step⟩
 ·refine thn (T.done X rfl rfl rfl rfl i pins s3 σ3 H3 _ I3 (stat fr3) st3 stop) fun r s4 ⟨hr,I4⟩ => ?_
  subst hr
  exact wpAny_execs_nil ⟨σ3,H3,I4,qn⟩
 ·refine thn (T.item X rfl rfl rfl rfl i pins s3 σ3 H3 _ I3 (stat fr3) st3 go) fun r s4 ⟨u,hr,h4⟩ => ?_
  subst hr
  refine thn h4 fun _ s5 ⟨x,H5,I5,r5,y5,st5,fr5⟩ => ?_
  have I5':=I5.pinned (stat fr5) (T.obj _ _ st5)
  refine thn (PG.unbare hg I5' r5 (step x H5 y5)) fun _ s6 ⟨σ6,H6,I6,q6⟩ => ?_
  refine thn (PSs.unbare hb I6 q6) fun f s7 q7 => ?_
  have again:∀ {σ7:L2.St} {H7:Hp},L2.Inv X (pins++Ze fp s5.heap) σ7 H7 s7->N σ7 H7 -> ∃ m,m < n ∧ ∃ i σ' H',L2.Inv X pins σ' H' s7∧tn i s7.heap∧(∀ b∈fp,H' b=none)∧W i m σ' H':=fun {σ7 H7} I7 n7=>by
   obtain ⟨m',hm,w7⟩:=hN σ7 H7 n7
   refine ⟨m',hm,i + 1,σ7,H7,I7.unpinned,T.keep _ _ _ st5 fun b hb o e=>(I7.pin (b,o) (List.mem_append_right _ (List.mem_append_right _ (zD hb e)))).1,fun b hb => ?_,w7⟩
   obtain ⟨o,e,d⟩:=T.obj _ _ st5 b hb
   exact (I7.pin (b,o) (List.mem_append_right _ (List.mem_append_right _ (zD hb e)))).2.1
  cases f with
  |next=>obtain ⟨σ7,H7,I7,n7⟩:=q7;exact again I7 n7
  |cont=>obtain ⟨σ7,H7,I7,n7⟩:=q7;exact again I7 n7
  |brk=>obtain ⟨σ7,H7,I7,q7⟩:=q7;exact ⟨σ7,H7,I7.unpinned,q7⟩
  |ret v=>obtain ⟨x7,σ7,H7,I7,r7,q7⟩:=q7;exact ⟨x7,σ7,H7,I7.unpinned,r7,q7⟩
theorem qDD {c:Expr} {body:List Stmt} {tc:TT} {tb:TS} (hc:PT X.nox c tc) (hb:PSs X.nox body tb):PS X (.While c body [] pos) (qJJ tc tb):=by
 intro pins s σ H D I h
 obtain ⟨W,⟨m0,w0⟩,turn⟩:=h
 refine wpAny_While (codeAny_whileLoop (fun n s' => ∃ σ' H',L2.Inv X pins σ' H' s'∧W n σ' H') ?_ m0 ⟨σ,H,I,w0⟩)
 rintro n s1 ⟨σ1,H1,I1,w1⟩
 refine thn (PT.unbare hc I1 (turn n σ1 H1 w1)) fun b s2 ⟨H2,I2,q2⟩ => ?_
 cases b with
 |true =>
  obtain ⟨N,hN,q2⟩:=q2
  rw [if_pos rfl]
  refine thn (PSs.unbare hb I2 q2) fun f s3 q3 => ?_
  cases f with
  |next =>
   obtain ⟨σ3,H3,I3,n3⟩:=q3
   obtain ⟨m',hm,w3⟩:=hN σ3 H3 n3
   exact ⟨m',hm,σ3,H3,I3,w3⟩
  |cont =>
   obtain ⟨σ3,H3,I3,n3⟩:=q3
   obtain ⟨m',hm,w3⟩:=hN σ3 H3 n3
   exact ⟨m',hm,σ3,H3,I3,w3⟩
  |brk=>exact q3
  |ret v=>exact q3
 |false =>
  rw [if_neg Bool.false_ne_true]
  exact wpAny_execs_nil ⟨σ1,H2,I2,q2⟩
open Classical in
noncomputable def qy (G:qC->Prop) (g:FG) (F:FS):List PV->qf->qC->RS
 |[],r,st=>if G st then .nx r st else .no
 |p::ps,r,st=>if G st then
   match g p r with
   |none => .no
   |some r1=>match F r1 st with
    | .nx r2 s2=>qy G g F ps r2 s2
    | .ct r2 s2=>qy G g F ps r2 s2
    | .bk r2 s2 => .nx r2 s2
    | .rt v s2 => .rt v s2
    | .ex _ _ => .no
    | .no => .no
  else .no
noncomputable def wm (fi:FI) (g:FG) (F:FS):FS:=fun r st=>(fi r st).bindS fun w s=>qy w.G g F w.l r s
theorem PostI.bindS {K:W.Frag} {E:XK} {H:Hp} {b:Bz} {r:Rs ItP} {k:ItP->qC->RS} {D:Ends} {R:It->Hp->Prop} (P:PostS K E H b (r.bindS k) D)
  (h:∀ w st J H1 b1,Ext H b H1 b1->SR K H1 b1 st->yX K H1 b1 J w->PostS K E H1 b1 (k w st) D->R J H1):PostI K E H b r R:=by
 cases r with
 |ok p st=>exact fun J H1 b1 e S r=>h p st J H1 b1 e S r (PostS.ext (show PostS K E H b (k p st) D from P) e)
 |ex x st=>exact P
 |no=>exact P
theorem Wj {tg iter:Expr} {body:List Stmt} {fi:FI} {g:FG} (hi:VI X E tg iter fi) (hg:VG X.nox tg g) (hb:VSs X.nox E0 body F) (hs:∀ x,foldedSetIterable iter X.env x=pure x:=by intro _;rfl):VS X E (.For tg iter body [] pos) (wm fi g F):=by
 refine PS.imp (jv hi hg hb hs) fun D s H ⟨b,r,st,S,R,P⟩ => ?_
 refine ⟨b,r,st,S,R,PostI.bindS P fun w st1 J H1 b1 e1 S1 it P1 => ?_⟩
 refine ⟨fun i m σ' H' => ∃ b2 r2 st2,Ext H1 b1 H' b2∧SR X.K H' b2 st2∧REnv X.K H' b2 r2 σ'∧m=w.l.length + 1 - i∧i≤w.l.length∧PostS X.K E H' b2 (qy w.G g F (w.l.drop i) r2 st2) D,⟨w.l.length + 1,b1,r,st1,Ext.refl _ _,S1,R.ext e1,by omega,Nat.zero_le _,by simpa using P1⟩,?_⟩
 rintro i m σ' H' ⟨b2,r2,st2,e2,S2,R2,hm,hi',P2⟩
 by_cases hlt:i < w.l.length
 ·have hd:w.l.drop i=w.l[i]::w.l.drop (i + 1):=List.drop_eq_getElem_cons hlt
  rw [hd] at P2
  unfold qy at P2
  by_cases hG:w.G st2
  ·rw [if_pos hG] at P2
   obtain ⟨h1,h2⟩:=it H' b2 st2 e2.toWE S2 hG
   obtain ⟨go,yl⟩:=h1 i w.l[i] (List.getElem?_eq_getElem hlt)
   refine .inr ⟨go,fun σ3 H3 => ∃ b3 r3 st3,Ext H1 b1 H3 b3∧SR X.K H3 b3 st3∧REnv X.K H3 b3 r3 σ3∧PostS X.K E H3 b3 (qy w.G g F (w.l.drop (i + 1)) r3 st3) D,?_,?_⟩
   ·rintro σ3 H3 ⟨b3,r3,st3,k1,k2,k3,k4⟩
    exact ⟨w.l.length + 1 - (i + 1),by omega,b3,r3,st3,k1,k2,k3,rfl,hlt,k4⟩
   ·intro x H3 hx
    obtain ⟨e3',S3,r3⟩:=yl x H3 hx
    have e3:Ext H' b2 H3 b2:=Ext.of_same e3'
    cases eg:g w.l[i] r2 with
    |none=>rw [eg] at P2;exact P2.elim
    |some r4 =>
     rw [eg] at P2
     refine ⟨b2,r2,w.l[i],st2,S3,R2.ext e3,r3,r4,eg,fun s4 R4=>⟨b2,r4,st2,S3,R4,?_⟩⟩
     have P3:=PostS.ext P2 e3
     dsimp only at P3
     have e13:=e2.trans e3
     cases eF:F r4 st2 with
     |nx r5 s5=>rw [eF] at P3;exact fun s6 H6 b6 e6 S6 R6=>⟨b6,r5,s5,e13.trans e6,S6,R6,PostS.ext P3 e6⟩
     |ct r5 s5=>rw [eF] at P3;exact fun s6 H6 b6 e6 S6 R6=>⟨b6,r5,s5,e13.trans e6,S6,R6,PostS.ext P3 e6⟩
     |bk r5 s5=>rw [eF] at P3;exact P3
     |rt v s5=>rw [eF] at P3;exact P3
     |ex x s5=>rw [eF] at P3;exact P3.elim
     |no=>rw [eF] at P3;exact P3.elim
  ·rw [if_neg hG] at P2;exact P2.elim
 ·have hl:i=w.l.length:=by omega
  subst hl
  rw [List.drop_length] at P2
  unfold qy at P2
  by_cases hG:w.G st2
  ·rw [if_pos hG] at P2
   obtain ⟨h1,h2⟩:=it H' b2 st2 e2.toWE S2 hG
   exact .inl ⟨h2 _ (Nat.le_refl _),P2 σ' H' b2 (Ext.refl _ _) S2 R2⟩
  ·rw [if_neg hG] at P2;exact P2.elim
def wb (c:FT) (F:FS):Nat->qf->qC->RS
 |0,_,_ => .no
 |n + 1,r,st=>match c r st with
  | .ok true s=>match F r s with
   | .nx r2 s2=>wb c F n r2 s2
   | .ct r2 s2=>wb c F n r2 s2
   | .bk r2 s2 => .nx r2 s2
   | .rt v s2 => .rt v s2
   | .ex _ _ => .no
   | .no => .no
  | .ok false s => .nx r s
  | .ex _ _ => .no
  | .no => .no
theorem qAm (n:Nat) {body:List Stmt} {c:FT} (hc:VT X.nox E0 e c) (hb:VSs X.nox E0 body F):VS X E (.While e body [] pos) (wb c F n):=by
 refine PS.imp (qDD hc hb) fun D s H ⟨b,r,st,S,R,P⟩ => ?_
 refine ⟨fun m σ' H' => ∃ b2 r2 st2,SR X.K H' b2 st2∧REnv X.K H' b2 r2 σ'∧PostS X.K E H' b2 (wb c F m r2 st2) D,⟨n,b,r,st,S,R,P⟩,?_⟩
 rintro m σ' H' ⟨b2,r2,st2,S2,R2,P2⟩
 cases m with
 |zero=>exact P2.elim
 |succ m =>
  unfold wb at P2
  refine ⟨b2,r2,st2,S2,R2,?_⟩
  cases ec:c r2 st2 with
  |no=>rw [ec] at P2;exact P2.elim
  |ex x s3=>rw [ec] at P2;exact P2.elim
  |ok k s3 =>
   rw [ec] at P2
   intro H3 b3 e3 S3
   cases k with
   |false=>exact qBa (P2 σ' H3 b3 e3 S3 (R2.ext e3))
   |true =>
    refine qBQ ⟨fun σ4 H4 => ∃ b4 r4 st4,SR X.K H4 b4 st4∧REnv X.K H4 b4 r4 σ4∧PostS X.K E H4 b4 (wb c F m r4 st4) D,fun σ4 H4 h4=>⟨m,Nat.lt_succ_self m,h4⟩,b3,r2,s3,S3,R2.ext e3,?_⟩
    have P3:=PostS.ext P2 e3
    dsimp only at P3
    cases eF:F r2 s3 with
    |nx r5 s5=>rw [eF] at P3;exact fun s6 H6 b6 e6 S6 R6=>⟨b6,r5,s5,S6,R6,PostS.ext P3 e6⟩
    |ct r5 s5=>rw [eF] at P3;exact fun s6 H6 b6 e6 S6 R6=>⟨b6,r5,s5,S6,R6,PostS.ext P3 e6⟩
    |bk r5 s5=>rw [eF] at P3;exact P3
    |rt v s5=>rw [eF] at P3;exact P3
    |ex x s5=>rw [eF] at P3;exact P3.elim
    |no=>rw [eF] at P3;exact P3.elim
end
theorem QE {x n:Str} {a c:Addr} {r:List (Str×Addr)} (h:List.lookup x ((n,a)::r)=some c):(x=n∧a=c)∨(x≠n∧List.lookup x r=some c):=by
 rw [List.lookup_cons] at h
 cases hb:x==n with
 |true=>rw [hb] at h;exact .inl ⟨beq_iff_eq.mp hb,Option.some.inj h⟩
 |false=>rw [hb] at h;exact .inr ⟨fun z=>(by rw [beq_iff_eq.mpr z] at hb;cases hb),h⟩
theorem Q0 {x:Str} {c:Addr}:∀ {names:List (Str×NameKind)} {n:Nat} {acc:List (Str×Addr)},(cellsFrom n names acc).lookup x=some c->(n≤c∧(x,NameKind.cell)∈names)∨acc.lookup x=some c
 |[],_,_,h => .inr h
 |(nm,k)::r,n,acc,h=>by
  unfold cellsFrom at h
  split at h
  ·rename_i hk
   have hk':k = .cell:=by simpa using hk
   rcases Q0 h with ⟨h1,h2⟩ |h1
   ·exact .inl ⟨Nat.le_of_succ_le h1,List.mem_cons_of_mem _ h2⟩
   ·rcases QE h1 with ⟨e1,e2⟩ |⟨_,e2⟩
    ·exact .inl ⟨Nat.le_of_eq e2,by rw [e1,hk'];exact List.mem_cons_self⟩
    ·exact .inr e2
  ·rcases Q0 h with ⟨h1,h2⟩ |h1
   ·exact .inl ⟨h1,List.mem_cons_of_mem _ h2⟩
   ·exact .inr h1
theorem Wx {x:Str} {c:Addr} {n0:Nat}:∀ {names:List (Str×NameKind)} {n:Nat} {acc:List (Str×Addr)},n0≤n->((∃ a,acc.lookup x=some a∧n0≤a)∨(x,NameKind.cell)∈names)->(cellsFrom n names acc).lookup x=some c->n0≤c
 |[],_,acc,_,h,e=>by
  rcases h with ⟨a,h1,h2⟩ |h
  ·have:acc.lookup x=some c:=e
   rw [h1] at this;cases this;exact h2
  ·exact absurd h (by simp)
 |(nm,k)::r,n,acc,hn,h,e=>by
  unfold cellsFrom at e
  split at e
  ·rename_i hk
   refine Wx (n:=n + 1) (Nat.le_succ_of_le hn) ?_ e
   by_cases hx:x=nm
   ·exact .inl ⟨n,by rw [List.lookup_cons,hx,beq_self_eq_true],hn⟩
   ·rcases h with ⟨a,h1,h2⟩ |h
    ·exact .inl ⟨a,by rw [List.lookup_cons,beq_false_of_ne hx];exact h1,h2⟩
    ·rcases List.mem_cons.mp h with q |q
     ·exact absurd (Prod.mk.inj q).1 hx
     ·exact .inr q
  ·rename_i hk
   refine Wx hn ?_ e
   rcases h with h |h
   ·exact .inl h
   ·rcases List.mem_cons.mp h with q |q
    ·exact absurd (by rw [← (Prod.mk.inj q).2];rfl) hk
    ·exact .inr q
theorem W0 {x y:Str} {c:Addr}:∀ {names:List (Str×NameKind)} {n:Nat} {acc:List (Str×Addr)},(∀ z a,acc.lookup z=some a->a < n)->(cellsFrom n names acc).lookup x=some c->(cellsFrom n names acc).lookup y=some c ->
  x=y∨(acc.lookup x=some c∧acc.lookup y=some c)
 |[],_,_,_,h1,h2 => .inr ⟨h1,h2⟩
 |(nm,k)::r,n,acc,hb,h1,h2=>by
  unfold cellsFrom at h1 h2
  split at h1
  ·rename_i hk
   rw [if_pos hk] at h2
   have hb':∀ z a,List.lookup z ((nm,n)::acc)=some a->a < n + 1:=fun z a h=>by
    rcases QE h with ⟨_,e⟩ |⟨_,e⟩
    ·rw [← e];exact Nat.lt_succ_self _
    ·exact Nat.lt_succ_of_lt (hb z a e)
   rcases W0 hb' h1 h2 with e |⟨e1,e2⟩
   ·exact .inl e
   ·rcases QE e1 with ⟨p1,p2⟩ |⟨p1,p2⟩ <;> rcases QE e2 with ⟨q1,q2⟩ |⟨q1,q2⟩
    ·exact .inl (p1.trans q1.symm)
    ·exact absurd (hb y c q2) (by rw [← p2];exact Nat.lt_irrefl _)
    ·exact absurd (hb x c p2) (by rw [← q2];exact Nat.lt_irrefl _)
    ·exact .inr ⟨p2,q2⟩
  ·rename_i hk
   rw [if_neg hk] at h2
   exact W0 hb h1 h2
theorem WO {x:Str}:∀ {names:List (Str×NameKind)} {n:Nat} {acc:List (Str×Addr)},((∃ a,acc.lookup x=some a)∨(x,NameKind.cell)∈names) -> ∃ c,(cellsFrom n names acc).lookup x=some c
 |[],_,_,h=>h.elim (fun h=>h) fun h=>absurd h (by simp)
 |(nm,k)::r,n,acc,h=>by
  unfold cellsFrom
  split
  ·rename_i hk
   refine WO ?_
   by_cases hx:x=nm
   ·exact .inl ⟨n,by rw [List.lookup_cons,hx,beq_self_eq_true]⟩
   ·rcases h with ⟨a,h1⟩ |h
    ·exact .inl ⟨a,by rw [List.lookup_cons,beq_false_of_ne hx];exact h1⟩
    ·rcases List.mem_cons.mp h with q |q
     ·exact absurd (Prod.mk.inj q).1 hx
     ·exact .inr q
  ·rename_i hk
   refine WO ?_
   rcases h with h |h
   ·exact .inl h
   ·rcases List.mem_cons.mp h with q |q
    ·exact absurd (by rw [← (Prod.mk.inj q).2];rfl) hk
    ·exact .inr q
theorem Wh {x:Str} {c:Addr}:∀ {names:List (Str×NameKind)} {h:Heap} {acc:List (Str×Addr)},(cellsFrom h.objs.size names acc).lookup x=some c->(∃ o,acc.lookup x=some c∧o=())∨(pushCells h names).IsCell c none
 |[],_,_,e => .inl ⟨(),e,rfl⟩
 |(nm,k)::r,h,acc,e=>by
  unfold cellsFrom at e
  unfold pushCells
  split at e
  ·rename_i hk
   rw [if_pos hk]
   have e':(cellsFrom (h.push { cls := .type "cell",data := .cell none }).objs.size r ((nm,h.objs.size)::acc)).lookup x=some c:=by rw [Heap.size_push];exact e
   rcases Wh e' with ⟨_,q,_⟩ |q
   ·rcases QE q with ⟨_,e2⟩ |⟨_,e2⟩
    ·subst e2
     exact .inr ⟨_,pushCells_keeps _ _ _ _ (Heap.get?_push_size _ rfl),rfl⟩
    ·exact .inl ⟨(),e2,rfl⟩
   ·exact .inr q
  ·rename_i hk
   rw [if_neg hk]
   exact Wh e
def clF (env:Env):List (Str×NameKind)->List (Str×Addr)->List (Str×Addr)
 |[],acc=>acc
 |(n,k)::r,acc=>if k == .free then clF env r ((n,(env.cells.lookup n).getD 0)::acc) else clF env r acc
theorem qEI {env:Env} (f:Str×NameKind->List (Str×Addr)->Sem (ForInStep (List (Str×Addr))))
  (hf:∀ n k acc,f (n,k) acc=if k == .free then (do let a ← cellOf env n;pure (.yield ((n,a)::acc))) else pure (.yield acc)) :
  ∀ (names:List (Str×NameKind)) (acc:List (Str×Addr)),(∀ x∈names,x.2 = .free -> ∃ c,env.cells.lookup x.1=some c)->forIn names acc f=(pure (clF env names acc):Sem _)
 |[],acc,_=>by rw [List.forIn_nil];rfl
 |(n,k)::r,acc,h=>by
  rw [List.forIn_cons,hf]
  unfold clF
  have ih:=fun a=>qEI f hf r a fun x hx=>h x (List.mem_cons_of_mem _ hx)
  split
  ·rename_i hk
   have hk':k = .free:=by simpa using hk
   obtain ⟨c,e⟩:=h (n,k) List.mem_cons_self hk'
   have ec:cellOf env n=pure c:=by unfold cellOf;rw [show env.cells.lookup n=some c from e]
   rw [ec]
   simp only [pure_bind]
   rw [ih,show env.cells.lookup n=some c from e];rfl
  ·simp only [pure_bind]
   exact ih acc
theorem yo {scope:Scope} {env:Env} (h:∀ x∈scope.names,x.2 = .free -> ∃ c,env.cells.lookup x.1=some c):closureFor scope env=pure (clF env scope.names []):=by
 unfold closureFor
 dsimp only
 rw [qEI _ (fun n k acc=>by cases hk:k==NameKind.free <;> simp [hk]) _ _ h]
 rfl
theorem YF {env:Env} {x:Str} {c:Addr}:∀ {names:List (Str×NameKind)} {acc:List (Str×Addr)},(∀ y∈names,y.2 = .free -> ∃ c,env.cells.lookup y.1=some c)->(clF env names acc).lookup x=some c->env.cells.lookup x=some c∨acc.lookup x=some c
 |[],_,_,e => .inr e
 |(n,k)::r,acc,h,e=>by
  unfold clF at e
  have h':=fun y hy=>h y (List.mem_cons_of_mem _ hy)
  split at e
  ·rename_i hk
   have hk':k = .free:=by simpa using hk
   obtain ⟨a,ea⟩:=h (n,k) List.mem_cons_self hk'
   rcases YF h' e with q |q
   ·exact .inl q
   ·rcases QE q with ⟨e1,e2⟩ |⟨_,e2⟩
    ·rw [show env.cells.lookup n=some a from ea] at e2
     exact .inl (by rw [e1,show env.cells.lookup n=some a from ea];exact congrArg some e2)
    ·exact .inr e2
  ·exact YF h' e
theorem ye {env:Env} {x:Str}:∀ {names:List (Str×NameKind)} {acc:List (Str×Addr)},((x,NameKind.free)∈names ∨ ∃ a,acc.lookup x=some a) -> ∃ c,(clF env names acc).lookup x=some c
 |[],_,h=>h.elim (fun h=>absurd h (by simp)) fun h=>h
 |(n,k)::r,acc,h=>by
  unfold clF
  split
  ·refine ye ?_
   by_cases hx:x=n
   ·exact .inr ⟨_,by rw [List.lookup_cons,hx,beq_self_eq_true]⟩
   ·rcases h with h |⟨a,h⟩
    ·rcases List.mem_cons.mp h with q |q
     ·exact absurd (Prod.mk.inj q).1 hx
     ·exact .inl q
    ·exact .inr ⟨a,by rw [List.lookup_cons,beq_false_of_ne hx];exact h⟩
  ·rename_i hk
   refine ye ?_
   rcases h with h |h
   ·rcases List.mem_cons.mp h with q |q
    ·exact absurd (by rw [← (Prod.mk.inj q).2];rfl) hk
    ·exact .inl q
   ·exact .inr h
def qLI (X:Cx) (scope:Scope) (C:Addr):Env :=
 { scope:=relabel scope X.env,locals:=C,globals:=X.env.globals,cells:=cellsFrom (C + 1) scope.names (clF X.env scope.names []),qual:=X.env.qual,func:=none,code:=X.env.code,frame:=X.env.frame,builtins:=X.env.builtins }
def cCx (X:Cx) (scope:Scope) (N:List Str) (s:Shared) (H:Hp) (fp:List Addr) (pn:List (Addr×Obj)):Cx where
 prog:=X.prog
 w:=X.w
 K:=X.K
 mg:=X.mg
 base:=X.base
 A:=X.A
 N:=N
 s₀:=s
 H₀:=H
 env:=qLI X scope s.heap.objs.size
 outer:=X.stack
 stack:=X.stack
 ex:=fp
 fn:=fun x=>scope.names.lookup x==some .cell
 calm:=X.calm
 pn:=pn
 xe:=fun _ _=>False
structure CSc (X:Cx) (scope:Scope) (capN locN:List Str) (caps:List Nat):Prop where
 kind:scope.kind = .function
 nd:(scope.names.map (·.1)).Nodup
 fr:∀ x∈scope.names,x.2 = .free->(X.env.kindOf x.1=some .cell∨X.env.kindOf x.1=some .free)
 len:capN.length=caps.length
 cap:∀ (i:Nat) (x:Str) (j:Nat),capN[i]? = some x->caps[i]? = some j->X.N[j]? = some x∧(x,NameKind.free)∈scope.names
theorem Wf {x:Str} {k:NameKind}:∀ {names:List (Str×NameKind)},(names.map (·.1)).Nodup->(x,k)∈names->names.lookup x=some k
 |(n,k')::r,nd,h=>by
  rw [List.map_cons,List.nodup_cons] at nd
  rw [List.lookup_cons]
  rcases List.mem_cons.mp h with q |q
  ·obtain ⟨rfl,rfl⟩:=Prod.mk.inj q
   rw [beq_self_eq_true]
  ·have hne:x≠n:=fun z=>nd.1 (by rw [← z];exact List.mem_map.mpr ⟨(x,k),q,rfl⟩)
   rw [beq_false_of_ne hne]
   exact Wf nd.2 q
theorem wn {env:Env} {x:Str}:∀ {names:List (Str×NameKind)},
  (names.map fun (n,k)=>if (k==NameKind.free&&env.scope.kind == .function&&env.kindOf n==some .cell) then (n,NameKind.cell) else (n,k)).lookup x=(names.lookup x).map fun k=>if (k==NameKind.free&&env.scope.kind == .function&&env.kindOf x==some .cell) then NameKind.cell else k
 |[]=>rfl
 |(n,k)::r=>by
  rw [List.map_cons,List.lookup_cons]
  show List.lookup x ((if (k==NameKind.free&&env.scope.kind == .function&&env.kindOf n==some .cell)=true then (n,NameKind.cell) else (n,k))::_)=_
  cases hx:x==n with
  |true =>
   have hx':x=n:=beq_iff_eq.mp hx
   subst hx'
   by_cases hc:(k==NameKind.free&&env.scope.kind == .function&&env.kindOf x==some .cell)=true
   ·rw [if_pos hc]
    simp only [List.lookup_cons,beq_self_eq_true,Option.map_some]
    rw [if_pos hc]
   ·rw [if_neg hc]
    simp only [List.lookup_cons,beq_self_eq_true,Option.map_some]
    rw [if_neg hc]
  |false =>
   by_cases hc:(k==NameKind.free&&env.scope.kind == .function&&env.kindOf n==some .cell)=true
   ·rw [if_pos hc]
    simp only [List.lookup_cons,hx]
    exact wn
   ·rw [if_neg hc]
    simp only [List.lookup_cons,hx]
    exact wn
theorem Yb {X:Cx} {scope:Scope} {capN locN:List Str} {caps:List Nat} (cs:CSc X scope capN locN caps) {pins:List (Addr×Obj)} {σ:L2.St} {H:Hp} {s s4:Shared} {fp:List Addr} (I:L2.Inv X pins σ H s) (hf:∀ b∈fp,ZQ X pins H b) (hlt:∀ b∈fp,b < s.heap.objs.size)
  (h4:s4={ s with heap:=pushCells (s.heap.push { cls := .type "dict",data := .dict #[] }) scope.names }) :
  L2.Inv (cCx X scope (capN++locN) s H fp (X.pn++pins)) [] ((caps.map fun j=>(σ[j]?).join)++List.replicate locN.length none) H s4:=by
 have hfree:∀ x∈scope.names,x.2 = .free -> ∃ c,X.env.cells.lookup x.1=some c:=fun x hx hk=>I.ok.has x.1 (cs.fr x hx hk)
 have keep:∀ b o,s.heap.get? b=some o->s4.heap.get? b=some o:=fun b o e=>by subst h4;exact pushCells_keeps _ _ _ _ (Heap.get?_push_of_some _ e)
 have clook:∀ x c,(clF X.env scope.names []).lookup x=some c->X.env.cells.lookup x=some c:=fun x c e=>(YF hfree e).elim (fun q=>q) fun q=>by cases q
 have clt:∀ x c,(clF X.env scope.names []).lookup x=some c->c < s.heap.objs.size:=fun x c e=>by
  obtain ⟨v,q⟩:=I.cell x c (clook x c e)
  exact q.lt
 have cases':∀ x c,(cellsFrom (s.heap.objs.size + 1) scope.names (clF X.env scope.names [])).lookup x=some c->(s.heap.objs.size + 1≤c)∨(c < s.heap.objs.size∧X.env.cells.lookup x=some c):=fun x c e=>by
  rcases Q0 e with ⟨q,_⟩ |q
  ·exact .inl q
  ·exact .inr ⟨clt x c q,clook x c q⟩
 have isfree:∀ x,(X.env.kindOf x=some .cell∨X.env.kindOf x=some .free)->True:=fun _ _=>trivial
 refine ⟨⟨I.ok.mod,cs.kind,I.ok.glob,I.ok.blt,Nat.le_refl _,fun x y c h1 h2 => ?_,fun x hx => ?_,fun x c hx e => ?_,I.ok.hd,I.ok.frames,.inl rfl,fun b hb=>⟨Nat.ne_of_lt (hlt b hb),fun x c e => ?_⟩,fun b o e=>I.bs b o e,Nat.le_trans I.ok.bsz I.sz,fun b o e hb => ?_,fun b hb hm => ?_,I.stack,I.stkFree⟩,
  by subst h4;rfl,by subst h4;exact I.bare,Un.kept keep,?_,fun x c e => ?_,I.hok.fresh (Nat.le_refl _),fun x c e => ?_,fun p hp => ?_,I.hok.kept keep,?_,I.hnd⟩
 ·rcases W0 (fun z a e=>Nat.lt_succ_of_lt (clt z a e)) h1 h2 with e |⟨e1,e2⟩
  ·exact e
  ·exact I.ok.inj x y c (clook x c e1) (clook y c e2)
 ·refine WO ?_
  have hx':(relabel scope X.env).names.lookup x=some .cell∨(relabel scope X.env).names.lookup x=some .free:=hx
  have e:(relabel scope X.env).names.lookup x=(scope.names.lookup x).map fun k=>if (k==NameKind.free&&X.env.scope.kind == .function&&X.env.kindOf x==some .cell) then NameKind.cell else k:=wn
  rw [e] at hx'
  cases q:scope.names.lookup x with
  |none=>rw [q] at hx';rcases hx' with z |z <;> cases z
  |some k =>
   rw [q] at hx'
   have hm:=PySem.mem_of_lookup q
   by_cases hk:k = .free
   ·subst hk
    exact .inl (ye (.inl hm))
   ·have hkf:(k==NameKind.free)=false:=by simpa using hk
    simp only [Option.map_some,hkf,Bool.false_and,Bool.false_eq_true,if_false] at hx'
    rcases hx' with z |z
    ·cases z;exact .inr hm
    ·cases z;exact absurd rfl hk
 ·have hx':scope.names.lookup x=some .cell:=by simpa [cCx] using hx
  exact Nat.le_of_succ_le (Wx (n0:=s.heap.objs.size + 1) (Nat.le_refl _) (.inr (PySem.mem_of_lookup hx')) e)
 ·rcases cases' x c e with q |⟨q,q'⟩
  ·exact fun z=>by rw [z] at q;exact absurd (hlt b hb) (Nat.not_lt.mpr (Nat.le_of_succ_le q))
  ·exact (hf b hb).2.2.2.2.1 x c q'
 ·obtain ⟨_,_,_,h3,_⟩:=hf b hb
  rcases h3 with q |q
  ·exact I.ok.noex b o e q
  ·exact absurd (Heap.lt_size e) (Nat.not_lt.mpr (Nat.le_trans I.ok.bsz q))
 ·obtain ⟨_,h1,h2,_⟩:=hf b hb
  exact (List.mem_cons.mp (I.stkSub b hm)).elim h1 h2
 ·refine ⟨fun _=>none,?_,fun i x v e1 e2 e3 => ?_⟩
  ·subst h4
   exact (Heap.Ns.new s.heap (.type "dict")).keeps (pushCells_keeps _ _)
  ·have hi:i < caps.length:=by
    by_cases hi:i < caps.length
    ·exact hi
    ·rw [List.getElem?_append_right (by simpa using hi),List.getElem?_replicate] at e2
     split at e2 <;> cases e2
   rw [List.getElem?_append_left (by simpa using hi),List.getElem?_map] at e2
   have e1':(capN++locN)[i]? = some x:=e1
   rw [List.getElem?_append_left (by rw [cs.len];exact hi)] at e1'
   cases ej:caps[i]? with
   |none=>rw [ej] at e2;cases e2
   |some j =>
    rw [ej] at e2
    obtain ⟨k1,k2⟩:=cs.cap i x j e1' ej
    have e2':σ[j]? = some (some v):=by
     have e2'':(σ[j]?).join=some v:=Option.some.inj e2
     cases q:σ[j]? with
     |none=>rw [q] at e2'';cases e2''
     |some o=>rw [q] at e2'';exact congrArg some e2''
    have hk:=cs.fr _ k2 rfl
    obtain ⟨m,hn,hl⟩:=I.loc
    obtain ⟨u,ru,lu⟩:=hl j x v k1 e2' (hk.elim (fun z => .inr (.inl z)) fun z => .inr (.inr z))
    refine ⟨u,ru,.inr ?_⟩
    have hc:∃ c,X.env.cells.lookup x=some c∧s.heap.IsCell c (some u):=by
     rcases lu with ⟨z,_⟩ |⟨_,z⟩
     ·rcases hk with y |y <;> · rw [z] at y;cases y
     ·exact z
    obtain ⟨c,c1,c2⟩:=hc
    obtain ⟨c',e'⟩:=ye (env:=X.env) (acc:=[]) (.inl k2)
    have e2:=clook x c' e'
    rw [c1] at e2;cases e2
    have hlk:scope.names.lookup x=some .free:=Wf cs.nd k2
    refine ⟨?_,c,?_,c2.keeps keep⟩
    ·show (relabel scope X.env).names.lookup x=some .cell∨(relabel scope X.env).names.lookup x=some .free
     have e:(relabel scope X.env).names.lookup x=(scope.names.lookup x).map fun k=>if (k==NameKind.free&&X.env.scope.kind == .function&&X.env.kindOf x==some .cell) then NameKind.cell else k:=wn
     rw [e,hlk]
     simp only [Option.map_some]
     split
     ·exact .inl rfl
     ·exact .inr rfl
    ·obtain ⟨d,hd⟩:=WO (names:=scope.names) (n:=s.heap.objs.size + 1) (acc:=clF X.env scope.names []) (x:=x) (.inl ⟨c,e'⟩)
     rcases Q0 hd with ⟨q,q'⟩ |q
     ·have:=Wf cs.nd q'
      rw [hlk] at this;cases this
     ·rw [e'] at q;cases q;exact hd
 ·rcases Q0 e with ⟨q,_⟩ |q
  ·have e':(cellsFrom (s.heap.push { cls := .type "dict",data := .dict #[] }).objs.size scope.names (clF X.env scope.names [])).lookup x=some c:=by rw [Heap.size_push];exact e
   rcases Wh e' with ⟨_,z,_⟩ |z
   ·obtain ⟨v,y⟩:=I.cell x c (clook x c z)
    exact ⟨v,y.keeps keep⟩
   ·subst h4;exact ⟨none,z⟩
  ·obtain ⟨v,y⟩:=I.cell x c (clook x c q)
   exact ⟨v,y.keeps keep⟩
 ·rcases cases' x c e with q |⟨q,q'⟩
  ·exact I.hok.fresh (Nat.le_of_succ_le q)
  ·exact I.freeC x c q'
 ·have hp':p∈X.pn++pins:=by simpa [cCx] using hp
  obtain ⟨k1,k2,k3,k4,k5⟩:=I.pin p hp'
  exact ⟨keep _ _ k1,k2,Nat.ne_of_lt (Heap.lt_size k1),fun z=>(List.mem_cons.mp (I.stkSub p.1 z)).elim k3 k4,k5⟩
 ·show ((caps.map fun j=>(σ[j]?).join)++List.replicate locN.length none).length=(capN++locN).length
  rw [List.length_append,List.length_map,List.length_replicate,List.length_append,cs.len]
theorem qAp {X:Cx} {scope:Scope} {N:List Str} {pins:List (Addr×Obj)} {σ σ':L2.St} {H H':Hp} {s s':Shared} {h'':Heap} {fp:List Addr} (I:L2.Inv X pins σ H s) (hf:∀ b∈fp,ZQ X pins H b)
  (J:L2.Inv (cCx X scope N s H fp (X.pn++pins)) [] σ' H' s') (sb:Heap.SameBut s.heap.objs.size s'.heap h''):L2.Inv X pins σ H' { s' with heap:=h'' }:=by
 have hos:s'.os=s.os:=J.os
 have hC:∀ b o,s.heap.get? b=some o->b≠s.heap.objs.size:=fun b o e=>Nat.ne_of_lt (Heap.lt_size e)
 have u:Un (frs X.stack) fp H H' s.heap h'':=by
  have u0:=J.base
  exact ⟨fun b o e n h1 h2=>sb.extBut b o (hC b o e) (u0.keep b o e n h1 h2),fun b o e n h1 h2=>(u0.slot b o e n h1 h2).elim fun sl q=>⟨sl,sb.extBut b _ (hC b o e) q⟩,u0.free,fun b o e h2=>(u0.there b o e h2).elim fun o' q=>⟨o',sb.extBut b o' (hC b o e) q⟩,u0.tups,u0.frzs,u0.tbls⟩
 have hok:HOk X.prog X.w H' h'':=fun a o e=>by
  refine (J.hok a o e).stay (fun b v hb q=>sb.extBut b v ?_ q) (fun _ q=>q) fun _ _ q=>q
  have hn:H' s.heap.objs.size=none:=J.free
  rcases hb with z |z
  ·rw [z];exact qM e hn
  ·exact qM z hn
 obtain ⟨hh,g,d,t,os'⟩:=s'
 obtain rfl:os'=s.os:=hos
 have fin:=L2.Inv.call (s:=s) (h':=h'') (g':=g) (d':=d) (t':=t) (ch:=fp) I u hok J.bare fun b hb=>by
  obtain ⟨k0,k1,k2,k3,k4,k5⟩:=hf b hb
  exact ⟨k3,k1,k4,k5⟩
 exact fin
theorem Yu {elt:Expr} {gens:List Comprehension} {scope:Scope} {pos:Pos} {d:Nat} {it acc:Value} {env:Env} {g:Comprehension} (hg:gens[d]? = some g) (ha:g.is_async=0) (hn:gens[d + 1]? = none) :
  compTurn (.ListComp elt gens scope pos) d it acc env=(standAt g.iter.pos >>= fun _=>pyNext it >>= fun r=>match r with
   |none=>pure (.done .next)
   |some v=>letOwnedTupleGo g.target it v >>= fun _=>assign g.target env v >>= fun _ =>
    (forIn g.ifs true fun c r=>if r=true then do let ok ← isTrue c env (eval c env);pure (ForInStep.yield ok) else pure (ForInStep.yield r)) >>= fun ok =>
    if ok=true then (eval elt env >>= fun x=>call (.builtin "list.append") [acc,x] >>= fun _=>pure ()) >>= fun _=>again (.compLoop (.ListComp elt gens scope pos) d it acc env)
    else again (.compLoop (.ListComp elt gens scope pos) d it acc env)):=by
 unfold compTurn
 dsimp only
 rw [hg]
 dsimp only
 rw [hn,ha]
 rfl
theorem Yz {elt:Expr} {gens:List Comprehension} {scope:Scope} {pos:Pos} {d:Nat} {it acc:Value} {env:Env} {g g':Comprehension} (hg:gens[d]? = some g) (ha:g.is_async=0) (hn:gens[d + 1]? = some g') (ha':g'.is_async=0) :
  compTurn (.ListComp elt gens scope pos) d it acc env=(standAt g.iter.pos >>= fun _=>pyNext it >>= fun r=>match r with
   |none=>pure (.done .next)
   |some v=>letOwnedTupleGo g.target it v >>= fun _=>assign g.target env v >>= fun _ =>
    (forIn g.ifs true fun c r=>if r=true then do let ok ← isTrue c env (eval c env);pure (ForInStep.yield ok) else pure (ForInStep.yield r)) >>= fun ok =>
    if ok=true then (eval g'.iter env >>= fun x=>standAt g'.iter.pos >>= fun _=>foldedSetIterable g'.iter env x >>= fun x=>holding [x] (pyIter x) >>= fun it'=>runOwn (.compStart (.ListComp elt gens scope pos) (d + 1) it' acc env) env >>= fun _=>again (.compLoop (.ListComp elt gens scope pos) d it acc env))
    else again (.compLoop (.ListComp elt gens scope pos) d it acc env)):=by
 unfold compTurn
 dsimp only
 rw [hg]
 dsimp only
 rw [hn,ha]
 dsimp only
 rw [ha']
 rfl
theorem zH {prog:Program} {w:World} {A:Around} {R:Result->Shared->Prop} {s:Shared} {elt:Expr} {gens:List Comprehension} {scope:Scope} {pos:Pos} {d:Nat} {it acc:Value} {env:Env} {g:Comprehension} (hg:gens[d]? = some g) (ha:g.is_async=0)
  (h0:codeAny (model prog w) A (.compLoop (.ListComp elt gens scope pos) d it acc env) R s)
  (h:wpAny (model prog w) A (pyIter it) (fun it' s'=>codeAny (model prog w) A (.compLoop (.ListComp elt gens scope pos) d it' acc env) R s') (notedBy (model prog w) A env fun x s'=>R (.error x) s') s) :
  codeAny (model prog w) A (.compStart (.ListComp elt gens scope pos) d it acc env) R s:=by
 refine codeAny_of_tree ?_
 show wpAny _ _ ((compStart (.ListComp elt gens scope pos) d it acc env).onRaise (fun x=>do noteFrame x env;standAt theWindowsPlace)) _ _ s
 refine wpAny_notedAt ?_
 unfold compStart
 have e1:(clausesOf (.ListComp elt gens scope pos))[d]? = some g:=hg
 rw [e1]
 simp only [Option.elim_some,ha]
 refine wpAny_bind (wpAny_askSetting (wpAny_ite ?_))
 split
 ·exact wpAny_bind (wpAny_pure (wpAny_pure (And.intro rfl h0)))
 ·exact wpAny_bind (wpAny_rule (wpAny_bind (wpAny_standAt (wpAny_bind (wpAny_mono h (fun it' s' h'=>wpAny_pure (And.intro rfl h')) fun _ _ x=>x)))))
structure GenF where
 fi:FI
 g:FG
 ts:List FT
def WM:List FT->FT
 |[],_,st => .ok true st
 |t::ts,r,st=>(t r st).bind fun k s=>if k=true then WM ts r s else .ok false s
open Classical in
noncomputable def qj (G:qC->Prop) (k:PV->qC->Rs (List PV)):List PV->qC->Rs (List PV)
 |[],st=>if G st then .ok [] st else .no
 |p::ps,st=>if G st then (k p st).bind fun l s=>(qj G k ps s).bind fun m s' => .ok (l++m) s' else .no
def Q8 (g:GenF) (rest:FL) (r:qf) (p:PV) (s:qC):Rs (List PV):=match g.g p r with
 |none => .no
 |some r'=>(WM g.ts r' s).bind fun k s1=>if k=true then rest r' s1 else .ok [] s1
noncomputable def wl:List GenF->FE->FL
 |[],f=>fun r st=>(f r st).bind fun p s => .ok [p] s
 |g::gs,f=>fun r st=>(g.fi r st).bind fun w s=>qj w.G (Q8 g (wl gs f) r) w.l s
def Le (r r':qf):Prop:=r.length=r'.length ∧ ∀ (i:Nat) (p:PV),r[i]? = some (some p)->r'[i]? = some (some p)
theorem REnv.le {K:W.Frag} {H:Hp} {b:Bz} {r r':qf} {s:L2.St} (h:REnv K H b r' s) (l:Le r r'):REnv K H b r s:=⟨l.1.trans h.1,fun i p e=>h.2 i p (l.2 i p e)⟩
def qBu (g:FG):Prop := ∀ p r r',g p r=some r'->Le r r'
inductive TsOk (X:Cx):List Expr->List FT->Prop where
 |nil:TsOk X [] []
 |cons {e:Expr} {t:FT} {es:List Expr} {ts:List FT} (h:VT X E0 e t) (r:TsOk X es ts):TsOk X (e::es) (t::ts)
theorem qAa {X:Cx} (hx:∀ e s,X.xe e s->False):∀ {es:List Expr} {ts:List FT},TsOk X es ts -> ∀ {pins:List (Addr×Obj)} {s:Shared} {σ:L2.St} {H:Hp} {b:Bz} {r:qf} {st st':qC} {k:Bool} {Q:Bool->Shared->Prop} {E:Value->Shared->Prop},L2.Inv X pins σ H s->SR X.K H b st->REnv X.K H b r σ->WM ts r st = .ok k st' ->
  (∀ s' H' b',L2.Inv X pins σ H' s'->Ext H b H' b'->SR X.K H' b' st'->Q k s') ->
  wpAny (model X.prog X.w) X.A (forIn es true fun c r=>if r=true then do let ok ← isTrue c X.env (eval c X.env);pure (ForInStep.yield ok) else pure (ForInStep.yield r)) Q E s
 |_,_,.nil,pins,s,σ,H,b,r,st,st',k,Q,E,I,S,R,e,q=>by
  cases e
  exact wpAny_tests_nil (q s H b I (Ext.refl _ _) S)
 |_,_,@TsOk.cons _ c t es ts h hr,pins,s,σ,H,b,r,st,st',k,Q,E,I,S,R,e,q=>by
  rw [List.forIn_cons]
  simp only [if_true]
  unfold WM at e
  cases et:t r st with
  |no=>rw [et] at e;cases e
  |ex x s1=>rw [et] at e;cases e
  |ok k1 s1 =>
   rw [et] at e
   have e:(if k1=true then WM ts r s1 else .ok false s1) = .ok k st':=e
   refine wpAny_bind (wpAny_bind (wpAny_mono (h pins s σ H (fun k' H'=>k'=k1 ∧ ∃ b',Ext H b H' b'∧SR X.K H' b' s1) I ⟨b,r,st,S,R,by rw [et];exact fun H' b' e' S'=>⟨rfl,b',e',S'⟩⟩) (fun k' s2 hq => ?_) fun e' s' z=>(hx e' s' z).elim))
   obtain ⟨H2,I2,rfl,b2,e2,S2⟩:=hq
   refine wpAny_pure ?_
   dsimp only
   cases k' with
   |true =>
    rw [if_pos rfl] at e
    exact qAa hx hr I2 S2 (R.ext e2) e fun s' H' b' I' e' S'=>q s' H' b' I' (e2.trans e') S'
   |false =>
    rw [if_neg Bool.false_ne_true] at e
    cases e
    have skip:∀ (es:List Expr),wpAny (model X.prog X.w) X.A (forIn es false fun c r=>if r=true then do let ok ← isTrue c X.env (eval c X.env);pure (ForInStep.yield ok) else pure (ForInStep.yield r)) Q E s2:=by
     intro es
     induction es with
     |nil=>rw [List.forIn_nil];exact wpAny_pure (q s2 H2 b2 I2 e2 S2)
     |cons c es ih =>
      rw [List.forIn_cons]
      simp only [Bool.false_eq_true,if_false]
      exact wpAny_bind (wpAny_pure ih)
    exact skip es
structure GOk (X:Cx) (c:Comprehension) (g:GenF):Prop where
 tg:VG X c.target g.g
 fr:qBu g.g
 ts:TsOk X c.ifs g.ts
 asy:c.is_async=0
structure GOk' (X:Cx) (c:Comprehension) (g:GenF):Prop extends GOk X c g where
 it:VI X E0 c.target c.iter g.fi
 fold:∀ x,foldedSetIterable c.iter X.env x=pure x
inductive GsOk (X:Cx):List Comprehension->List GenF->Prop where
 |nil:GsOk X [] []
 |cons {c:Comprehension} {g:GenF} {cs:List Comprehension} {gs:List GenF} (h:GOk' X c g) (r:GsOk X cs gs):GsOk X (c::cs) (g::gs)
theorem qC7 {X:Cx} (hx:∀ e s,X.xe e s->False) {pins:List (Addr×Obj)} {s:Shared} {σ:L2.St} {H:Hp} {D:Addr} {xs:List V} {y:V} {u:Value} {Q:Value->Shared->Prop} {E:Value->Shared->Prop} (I:L2.Inv X pins σ H s) (hD:H D=some (.lst xs)) (hl:xs.length < sizeLine) (ry:RelV y u)
  (q:∀ v s',L2.Inv X pins σ (upd H D (.lst (xs++[y]))) s'->Q v s'):wpAny (model X.prog X.w) X.A (call (.builtin "list.append") [.ref D,u]) Q E s :=
 wpAny_mono (jN pins s σ H (.ref D) [y] (.ref D) [u] (fun v H'=>H'=upd H D (.lst (xs++[y]))) I rfl (.cons ry .nil) ⟨D,xs,y,rfl,rfl,hD,hl,rfl⟩) (fun v s' ⟨x,H',I',r',e⟩=>by subst e;exact q v s' I') fun e' s' z=>(hx e' s' z).elim
structure DE (D:Addr) (H:Hp) (b:Bz) (H':Hp) (b':Bz):Prop extends WE H b H' b' where
 same:b'.z=b.z
 hid:∀ a o,a∈b.z->a≠D->H a=some o->H' a=some o
 fz:∀ a o u,a≠D->H a=some (.frz o u)->H' a=some (.frz o u)
theorem DE.of {D:Addr} {H H':Hp} {b b':Bz} (e:Ext H b H' b'):DE D H b H' b':=⟨e.toWE,e.same,fun a o ha _ h=>e.hid a o ha h,fun a o u _ h=>e.fz a o u h⟩
theorem DE.trans {D:Addr} {H H1 H2:Hp} {b b1 b2:Bz} (e:DE D H b H1 b1) (f:DE D H1 b1 H2 b2):DE D H b H2 b2:=⟨e.toWE.trans f.toWE,f.same.trans e.same,fun a o ha hn h=>f.hid a o (by rw [e.same];exact ha) hn (e.hid a o ha hn h),fun a o u n h=>f.fz a o u n (e.fz a o u n h)⟩
theorem DE.wr {D:Addr} {H:Hp} {b:Bz} {o:HO} (h:D∈b.z):DE D H b (upd H D o) b:=⟨WE.wr (.inr h),rfl,fun a u ha hn e=>by rw [qL hn];exact e,fun a u v hn e=>by rw [qL hn];exact e⟩
def qLG (X:Cx) (D:Addr) (c:Code) (inner:Sem Fin) (rest:FL):Prop :=
 ∀ (pins:List (Addr×Obj)) (s:Shared) (σ:L2.St) (H:Hp) (b:Bz) (r:qf) (st st':qC) (l:List PV) (accV:List V) (QF:Fin->Shared->Prop) (E:Value->Shared->Prop),L2.Inv X pins σ H s->SR X.K H b st->REnv X.K H b r σ->D∈b.z->H D=some (.lst accV) ->
  rest r st = .ok l st'->accV.length + l.length≤sizeLine ->
  (∀ s' σ' H' b' lV,L2.Inv X pins σ' H' s'->DE D H b H' b'->SR X.K H' b' st'->REnv X.K H' b' r σ'->H' D=some (.lst (accV++lV))->RVs X.K H' b' l lV->QF (.again c) s')->wpAny (model X.prog X.w) X.A inner QF E s
theorem qAs {X:Cx} (hx:∀ e s,X.xe e s->False) {elt:Expr} {gens:List Comprehension} {scope:Scope} {pos:Pos} {d:Nat} {it D:Addr} {c:Comprehension} {g:GenF} (hg:GOk X c g) {inner:Sem Fin} {rest:FL} (hin:qLG X D (.compLoop (.ListComp elt gens scope pos) d (.ref it) (.ref D) X.env) inner rest)
  (hturn:compTurn (.ListComp elt gens scope pos) d (.ref it) (.ref D) X.env=(standAt c.iter.pos >>= fun _=>pyNext (.ref it) >>= fun r=>match r with
   |none=>pure (.done .next)
   |some v=>letOwnedTupleGo c.target (.ref it) v >>= fun _=>assign c.target X.env v >>= fun _ =>
    (forIn c.ifs true fun c r=>if r=true then do let ok ← isTrue c X.env (eval c X.env);pure (ForInStep.yield ok) else pure (ForInStep.yield r)) >>= fun ok =>
    if ok=true then inner else again (.compLoop (.ListComp elt gens scope pos) d (.ref it) (.ref D) X.env)))
  {pins:List (Addr×Obj)} {s:Shared} {σ:L2.St} {H:Hp} {b:Bz} {r:qf} {st st':qC} {fp:List Addr} {tn:Nat->Heap->Prop} {J:It} {w:ItP} {accV:List V} {l:List PV} {R:Result->Shared->Prop}
  (I:L2.Inv X pins σ H s) (S:SR X.K H b st) (RE:REnv X.K H b r σ) (hDz:D∈b.z) (hD:H D=some (.lst accV)) (T:Turn X.prog X.w X.K X.A c.target J fp it tn) (t0:tn 0 s.heap) (hf:∀ a∈fp,ZQ X pins H a)
  (hit:yX X.K H b J w)
  (hv:qj w.G (Q8 g rest r) w.l st = .ok l st') (hsz:accV.length + l.length≤sizeLine)
  (hR:∀ s' σ' H' b' lV,L2.Inv X pins σ' H' s'->DE D H b H' b'->SR X.K H' b' st'->REnv X.K H' b' r σ'->H' D=some (.lst (accV++lV))->RVs X.K H' b' l lV->R (.ok .next) s') :
  codeAny (model X.prog X.w) X.A (.compLoop (.ListComp elt gens scope pos) d (.ref it) (.ref D) X.env) R s:=by
 have stat:∀ {H':Hp},(∀ a∈fp,H' a=none) -> ∀ a∈fp,ZQ X pins H' a:=fun hn a ha=>⟨hn a ha,(hf a ha).2⟩
 refine codeAny_loop rfl (fun n s1 => ∃ i σ1 H1 b1 st1 done doneV m,n=w.l.length + 1 - i∧i≤w.l.length∧L2.Inv X pins σ1 H1 s1∧DE D H b H1 b1∧SR X.K H1 b1 st1∧REnv X.K H1 b1 r σ1∧H1 D=some (.lst (accV++doneV))∧RVs X.K H1 b1 done doneV∧tn i s1.heap∧(∀ a∈fp,H1 a=none) ∧
  qj w.G (Q8 g rest r) (w.l.drop i) st1 = .ok m st'∧done++m=l) ?_ (w.l.length + 1)
  ⟨0,σ,H,b,st,[],[],l,by omega,Nat.zero_le _,I,DE.of (Ext.refl _ _),S,RE,by simpa using hD,RVs.nil,t0,fun a ha=>(hf a ha).1,by simpa using hv,rfl⟩
 rintro n s1 ⟨i,σ1,H1,b1,st1,done,doneV,m,hn,hi,I1,e1,S1,R1,hD1,rd1,t1,fr1,hv1,hm⟩
 show wpAny _ X.A ((compTurn (.ListComp elt gens scope pos) d (.ref it) (.ref D) X.env).onRaise (fun x=>do noteFrame x X.env;theTreesLotGoes x)) _ _ s1
 refine wpAny_noted ?_
 rw [hturn]
 refine wpAny_bind (wpAny_standAt (wpAny_bind ?_))
 have hz1:D∈b1.z:=by rw [e1.same];exact hDz
 by_cases hlt:i < w.l.length
 ·have hd:w.l.drop i=w.l[i]::w.l.drop (i + 1):=List.drop_eq_getElem_cons hlt
  rw [hd] at hv1
  unfold qj at hv1
  by_cases hG:w.G st1
  ·rw [if_pos hG] at hv1
   obtain ⟨h1,h2⟩:=hit H1 b1 st1 e1.toWE S1 hG
   obtain ⟨go,yl⟩:=h1 i w.l[i] (List.getElem?_eq_getElem hlt)
   cases ek:Q8 g rest r w.l[i] st1 with
   |no=>rw [ek] at hv1;cases hv1
   |ex x s5=>rw [ek] at hv1;cases hv1
   |ok l1 s5 =>
    rw [ek] at hv1
    have hv1:(qj w.G (Q8 g rest r) (w.l.drop (i + 1)) s5).bind (fun m s' => .ok (l1++m) s') = .ok m st':=hv1
    cases ek2:qj w.G (Q8 g rest r) (w.l.drop (i + 1)) s5 with
    |no=>rw [ek2] at hv1;cases hv1
    |ex x s6=>rw [ek2] at hv1;cases hv1
    |ok m2 s6 =>
     rw [ek2] at hv1
     have hv1:Rs.ok (l1++m2) s6 = .ok m st':=hv1
     injection hv1 with hv1a hv1b
     subst hv1a;subst hv1b
     refine thn (T.item X rfl rfl rfl rfl i pins s1 σ1 H1 _ I1 (stat fr1) t1 go) fun rr s2 ⟨u,hr,h4⟩ => ?_
     subst hr
     refine wpAny_bind (thn h4 fun _ s3 ⟨x,H3,I3,r3,y3,t3,fr3⟩ => ?_)
     obtain ⟨sm3,S3,rx3⟩:=yl x H3 y3
     have e3:Ext H1 b1 H3 b1:=Ext.of_same sm3
     have hD3:=sm3 _ _ hD1
     unfold Q8 at ek
     cases eg:g.g w.l[i] r with
     |none=>rw [eg] at ek;cases ek
     |some r' =>
      rw [eg] at ek
      have ek:(WM g.ts r' st1).bind (fun k s1=>if k=true then rest r' s1 else .ok [] s1) = .ok l1 s5:=ek
      cases et:WM g.ts r' st1 with
      |no=>rw [et] at ek;cases ek
      |ex x s7=>rw [et] at ek;cases ek
      |ok k s7 =>
       rw [et] at ek
       have ek:(if k=true then rest r' s7 else .ok [] s7) = .ok l1 s5:=ek
       have I3':=I3.pinned (stat fr3) (T.obj _ _ t3)
       refine wpAny_bind (wpAny_mono (hg.tg _ s3 σ1 H3 x u (fun σ' H'=>H'=H3∧REnv X.K H3 b1 r' σ') I3' r3 ⟨b1,r,w.l[i],st1,S3,R1.ext e3,rx3,r',eg,fun s' R'=>⟨rfl,R'⟩⟩) (fun _ s4 hq => ?_) fun e' s' z=>(hx e' s' z).elim)
       obtain ⟨σ4,H4,I4,rfl,R4⟩:=hq
       refine wpAny_bind (qAa hx hg.ts I4 S3 R4 et fun s5' H5 b5 I5 e5 S5 => ?_)
       have hz5:D∈b5.z:=by rw [e5.same];exact hz1
       have hD5:=e5.hid _ _ hz1 hD3
       have e15:DE D H b H5 b5:=(e1.trans (DE.of e3)).trans (DE.of e5)
       have back:∀ {s7':Shared} {σ7:L2.St} {H7:Hp} {b7:Bz} {l1V:List V},L2.Inv X (pins++Ze fp s3.heap) σ7 H7 s7'->DE D H5 b5 H7 b7->SR X.K H7 b7 s5->REnv X.K H7 b7 r' σ7->H7 D=some (.lst (accV++doneV++l1V))->RVs X.K H7 b7 l1 l1V ->
         ∃ m,m < n ∧ ∃ i σ1 H1 b1 st1 done doneV mm,m=w.l.length + 1 - i∧i≤w.l.length∧L2.Inv X pins σ1 H1 s7'∧DE D H b H1 b1∧SR X.K H1 b1 st1∧REnv X.K H1 b1 r σ1∧H1 D=some (.lst (accV++doneV))∧RVs X.K H1 b1 done doneV∧tn i s7'.heap∧(∀ a∈fp,H1 a=none) ∧
         qj w.G (Q8 g rest r) (w.l.drop i) st1 = .ok mm s6∧done++mm=l:=fun {s7' σ7 H7 b7 l1V} I7 e7 S7 R7 hD7 rl7=>by
        refine ⟨w.l.length + 1 - (i + 1),by omega,i + 1,σ7,H7,b7,s5,done++l1,doneV++l1V,m2,rfl,hlt,I7.unpinned,e15.trans e7,S7,R7.le (hg.fr _ _ _ eg),by rw [hD7,List.append_assoc],?_,T.keep _ _ _ t3 fun a ha o e=>(I7.pin (a,o) (List.mem_append_right _ (List.mem_append_right _ (zD ha e)))).1,fun a ha => ?_,ek2,by rw [List.append_assoc];exact hm⟩
        ·exact RVs.append (RVs.wext e7.toWE done (RVs.ext e5 done (RVs.ext e3 done rd1))) rl7
        ·obtain ⟨o,e,_⟩:=T.obj _ _ t3 a ha
         exact (I7.pin (a,o) (List.mem_append_right _ (List.mem_append_right _ (zD ha e)))).2.1
       cases k with
       |false =>
        rw [if_neg Bool.false_ne_true] at ek ⊢
        injection ek with ek1 ek2'
        subst ek1;subst ek2'
        refine wpAny_pure ⟨rfl,back I5 (DE.of (Ext.refl _ _)) S5 (R4.ext e5) (by rw [List.append_nil];exact hD5) RVs.nil⟩
       |true =>
        rw [if_pos rfl] at ek ⊢
        refine hin _ s5' σ4 H5 b5 r' s7 s5 l1 (accV++doneV) _ _ I5 S5 (R4.ext e5) hz5 hD5 ek ?_ fun s8 σ8 H8 b8 lV I8 e8 S8 R8 hD8 r8=>⟨rfl,back I8 e8 S8 R8 hD8 r8⟩
        have h1:=rd1.length
        have h2:l.length=done.length + (l1.length + m2.length):=by rw [← hm,List.length_append,List.length_append]
        rw [List.length_append];omega
  ·rw [if_neg hG] at hv1;cases hv1
 ·have hl:i=w.l.length:=by omega
  subst hl
  rw [List.drop_length] at hv1
  unfold qj at hv1
  by_cases hG:w.G st1
  ·rw [if_pos hG] at hv1
   injection hv1 with k1 k2
   subst k1;subst k2
   obtain ⟨h1,h2⟩:=hit H1 b1 st1 e1.toWE S1 hG
   refine thn (T.done X rfl rfl rfl rfl _ pins s1 σ1 H1 _ I1 (stat fr1) t1 (h2 _ (Nat.le_refl _))) fun r2 s2 ⟨hr,I2⟩ => ?_
   subst hr
   rw [List.append_nil] at hm
   subst hm
   exact wpAny_pure (hR s2 σ1 H1 b1 doneV I2 e1 S1 R1 hD1 rd1)
  ·rw [if_neg hG] at hv1;cases hv1
theorem jI {X:Cx} (hx:∀ e s,X.xe e s->False) {elt:Expr} {gens:List Comprehension} {scope:Scope} {pos:Pos} {f:FE} {D:Addr} (he:VE X E0 elt f) :
  ∀ (gs:List GenF) (cs:List Comprehension) (d:Nat) (c:Comprehension) (g:GenF),gens.drop d=c::cs->GOk X c g->GsOk X cs gs ->
  ∀ (pins:List (Addr×Obj)) (s:Shared) (σ:L2.St) (H:Hp) (b:Bz) (r:qf) (st st':qC) (it:Addr) (fp:List Addr) (tn:Nat->Heap->Prop) (J:It) (w:ItP) (accV:List V) (l:List PV) (R:Result->Shared->Prop),
  L2.Inv X pins σ H s->SR X.K H b st->REnv X.K H b r σ->D∈b.z->H D=some (.lst accV)->Turn X.prog X.w X.K X.A c.target J fp it tn->tn 0 s.heap->(∀ a∈fp,ZQ X pins H a)->yX X.K H b J w ->
  qj w.G (Q8 g (wl gs f) r) w.l st = .ok l st'->accV.length + l.length≤sizeLine ->
  (∀ s' σ' H' b' lV,L2.Inv X pins σ' H' s'->DE D H b H' b'->SR X.K H' b' st'->REnv X.K H' b' r σ'->H' D=some (.lst (accV++lV))->RVs X.K H' b' l lV->R (.ok .next) s') ->
  codeAny (model X.prog X.w) X.A (.compLoop (.ListComp elt gens scope pos) d (.ref it) (.ref D) X.env) R s:=by
 intro gs
 induction gs with
 |nil =>
  intro cs d c g hdr hg hgs pins s σ H b r st st' it fp tn J w accV l R I S RE hDz hD T t0 hf hit hv hsz hR
  cases hgs
  have hgd:gens[d]? = some c:=by
   have:(gens.drop d)[0]? = some c:=by rw [hdr];rfl
   simpa using this
  have hgn:gens[d + 1]? = none:=by
   have:(gens.drop d)[1]? = none:=by rw [hdr];rfl
   simpa using this
  refine qAs hx hg ?_ (Yu hgd hg.asy hgn) I S RE hDz hD T t0 hf hit hv hsz hR
  intro pins s σ H b r st st' l accV QF E I S RE hDz hD hv hsz q
  have hv:(f r st).bind (fun p s => .ok [p] s) = .ok l st':=hv
  cases ef:f r st with
  |no=>rw [ef] at hv;cases hv
  |ex x s1=>rw [ef] at hv;cases hv
  |ok p s1 =>
   rw [ef] at hv
   have hv:Rs.ok [p] s1 = .ok l st':=hv
   injection hv with h1 h2
   subst h1;subst h2
   refine wpAny_bind (wpAny_bind (wpAny_mono (he pins s σ H (fun v H' => ∃ b',Ext H b H' b'∧SR X.K H' b' s1∧RV X.K H' b' p v) I ⟨b,r,st,S,RE,by rw [ef];exact fun v H' b' e' S' r'=>⟨b',e',S',r'⟩⟩) (fun u s2 hq => ?_) fun e' s' z=>(hx e' s' z).elim))
   obtain ⟨v,H2,I2,rv,b2,e2,S2,r2⟩:=hq
   have hz2:D∈b2.z:=by rw [e2.same];exact hDz
   refine wpAny_bind (qC7 hx I2 (e2.hid _ _ hDz hD) (by rw [List.length_singleton] at hsz;omega) rv fun _ s3 I3=>wpAny_pure (wpAny_pure ?_))
   have dw:DE D H2 b2 (upd H2 D (.lst (accV++[v]))) b2:=DE.wr hz2
   exact q s3 σ _ b2 [v] I3 ((DE.of e2).trans dw) (SR.wrz S2 hz2) ((RE.ext e2).wext dw.toWE) qd (RVs.cons (RV.wext dw.toWE p r2) RVs.nil)
 |cons g2 gs ih =>
  intro cs d c g hdr hg hgs pins s σ H b r st st' it fp tn J w accV l R I S RE hDz hD T t0 hf hit hv hsz hR
  cases hgs with
  | @cons c2 _ cs _ h2 hr2 =>
   have hgd:gens[d]? = some c:=by
    have:(gens.drop d)[0]? = some c:=by rw [hdr];rfl
    simpa using this
   have hgn:gens[d + 1]? = some c2:=by
    have:(gens.drop d)[1]? = some c2:=by rw [hdr];rfl
    simpa using this
   have hdr2:gens.drop (d + 1)=c2::cs:=by
    have:(gens.drop d).drop 1=c2::cs:=by rw [hdr];rfl
    rwa [List.drop_drop] at this
   refine qAs hx hg ?_ (Yz hgd hg.asy hgn h2.asy) I S RE hDz hD T t0 hf hit hv hsz hR
   intro pins s σ H b r st st' l accV QF E I S RE hDz hD hv hsz q
   have hv:(g2.fi r st).bind (fun w s=>qj w.G (Q8 g2 (wl gs f) r) w.l s) = .ok l st':=hv
   cases ef:g2.fi r st with
   |no=>rw [ef] at hv;cases hv
   |ex x s1=>rw [ef] at hv;cases hv
   |ok w2 s1 =>
    rw [ef] at hv
    have hv:qj w2.G (Q8 g2 (wl gs f) r) w2.l s1 = .ok l st':=hv
    have hi:=h2.it pins s σ H (fun J H' => ∃ b',Ext H b H' b'∧SR X.K H' b' s1∧yX X.K H' b' J w2) I ⟨b,r,st,S,RE,by rw [ef];exact fun J H' b' e' S' i'=>⟨b',e',S',i'⟩⟩
    refine wpAny_bind (wpAny_mono hi (fun u s2 hq => ?_) fun e' s' z=>(hx e' s' z).elim)
    refine wpAny_bind (wpAny_standAt (wpAny_bind (wpAny_of_eq (h2.fold u) (wpAny_bind (wpAny_holding (wpAny_mono hq (fun itv s3 hq3 => ?_) fun e' s' z=>(hx e' s' z).elim))))))
    obtain ⟨it2,fp2,tn2,J2,H3,rfl,I3,T2,t2,f2,b3,e3,S3,i3⟩:=hq3
    have hz3:D∈b3.z:=by rw [e3.same];exact hDz
    have hD3:=e3.hid _ _ hDz hD
    refine wpAny_bind (wpAny_runOwn ?_)
    have loop:=ih cs (d + 1) c2 g2 hdr2 h2.toGOk hr2 pins s3 σ H3 b3 r s1 st' it2 fp2 tn2 J2 w2 accV l (fun r s'=>match r with
     | .ok f=>wpAny (model X.prog X.w) X.A (again (.compLoop (.ListComp elt gens scope pos) d (.ref it) (.ref D) X.env)) QF E s'
     | .error e=>cameBackBy (model X.prog X.w) X.A X.env E e s') I3 S3 (RE.ext e3) hz3 hD3 T2 t2 f2 i3 hv hsz
     fun s' σ' H' b' lV I' e' S' R' hD' r'=>wpAny_pure (q s' σ' H' b' lV I' ((DE.of e3).trans e') S' R' hD' r')
    exact zH hgn h2.asy loop (T2.self X.A 0 s3 _ _ t2 loop)
theorem qAP {M:Model} {A:Around} {E:Value->Shared->Prop} {s:Shared} {scope:Scope} {env:Env} {cl:List (Str×Addr)} {Q:Env->Shared->Prop}
  (h:Q { scope:=scope,locals:=s.heap.objs.size,globals:=env.globals,cells:=cellsFrom (s.heap.objs.size + 1) scope.names cl,qual:=env.qual,func:=none,code:=env.code,frame:=env.frame,builtins:=env.builtins } { s with heap:=pushCells (s.heap.push { cls := .type "dict",data := .dict #[] }) scope.names }) :
  wpAny M A (newFunctionEnv scope env.globals cl [] env.qual none .none (some env)) Q E s:=by
 simp only [newFunctionEnv,Option.isSome_some,if_true]
 refine wpAny_bind (wpAny_alloc ?_)
 refine wpAny_bind (wpAny_layCells _ (fun name kind cells=>by cases hkc:kind==NameKind.cell <;> simp [hkc]) _ _ _ _ ?_)
 rw [show ({ s with heap:=s.heap.push { cls := .type "dict",data := .dict #[] } }:Shared).heap.objs.size=s.heap.objs.size + 1 from Heap.size_push ..]
 exact wpAny_bind (wpAny_pure (wpAny_pure h))
def Ww (caps:List Nat) (n:Nat) (r:qf):qf:=(caps.map fun j=>(r[j]?).join)++List.replicate n none
noncomputable def qw (caps:List Nat) (n:Nat) (fi:FI) (g:FG) (ts:List FT) (gs:List GenF) (f:FE):FL:=fun r st=>(fi r st).bind fun w s=>match qj w.G (Q8 ⟨fi,g,ts⟩ (wl gs f) (Ww caps n r)) w.l s with
 | .ok l s'=>if l.length≤sizeLine then .ok l s' else .no
 |_ => .no
theorem qAD {K:W.Frag} {H:Hp} {b:Bz} {r:qf} {σ:L2.St} {caps:List Nat} {n:Nat} (R:REnv K H b r σ):REnv K H b (Ww caps n r) ((caps.map fun j=>(σ[j]?).join)++List.replicate n none):=by
 refine ⟨by simp [Ww],fun i p e => ?_⟩
 unfold Ww at e
 by_cases hi:i < caps.length
 ·rw [List.getElem?_append_left (by simpa using hi),List.getElem?_map] at e
  rw [List.getElem?_append_left (by simpa using hi),List.getElem?_map]
  cases ej:caps[i]? with
  |none=>rw [ej] at e;cases e
  |some j =>
   rw [ej] at e
   have e':(r[j]?).join=some p:=Option.some.inj e
   have e2:r[j]? = some (some p):=by
    cases q:r[j]? with
    |none=>rw [q] at e';cases e'
    |some o=>rw [q] at e';exact congrArg some e'
   obtain ⟨v,h1,h2⟩:=R.2 j p e2
   refine ⟨v,?_,h2⟩
   show some (σ[j]?).join=some (some v)
   rw [h1];rfl
 ·rw [List.getElem?_append_right (by simpa using hi),List.getElem?_replicate] at e
  split at e <;> cases e
theorem jE {K:W.Frag} {H:Hp} {b:Bz} {J:It} {w:ItP} {D:Addr} {o:HO} (h:yX K H b J w) (hD:H D=none):yX K (upd H D o) ⟨b.b,D::b.z⟩ J w:=fun H1 b1 st1 e S g=>h H1 b1 st1 ((WE.hide hD).trans e) S g
theorem ww {X:Cx} {E:XK} {elt:Expr} {c:Comprehension} {cs:List Comprehension} {scope:Scope} {pos:Pos} {capN locN:List Str} {caps:List Nat} {fi:FI} {g:FG} {ts:List FT} {gs:List GenF} {f:FE} (hcs:CSc X scope capN locN caps)
  (hi:VI X E c.target c.iter fi) (sub:∀ s H fp pn,VE (cCx X scope (capN++locN) s H fp pn) E0 elt f∧GOk (cCx X scope (capN++locN) s H fp pn) c ⟨fi,g,ts⟩∧GsOk (cCx X scope (capN++locN) s H fp pn) cs gs)
  (hs:∀ x,foldedSetIterable c.iter X.env x=pure x:=by intro _;rfl):VN X E (.ListComp elt (c::cs) scope pos) (qw caps locN.length fi g ts gs f):=by
 intro pins s σ H Q I hq
 obtain ⟨b,r,st,S,RE,P⟩:=hq
 have hfree:∀ x∈scope.names,x.2 = .free -> ∃ c,X.env.cells.lookup x.1=some c:=fun x hx hk=>I.ok.has x.1 (hcs.fr x hx hk)
 obtain ⟨c1,c2,c3,c4⟩:=c
 have hasy:c4=0:=(sub s H [] []).2.1.asy
 subst hasy
 rw [eval_ListComp]
 refine wpAny_comprehension_free (use:=none) rfl hs (yo hfree) hcs.kind (fun x hx hl=>Wf hcs.nd (by rw [← hl];exact hx)) ?_
 show wpAny _ _ (eval c2 X.env) _ _ s
 unfold qw at P
 cases ef:fi r st with
 |no=>rw [ef] at P;exact P.elim
 |ex x s1 =>
  rw [ef] at P
  refine thn (hi pins s σ H (fun _ _=>False) I ⟨b,r,st,S,RE,by rw [ef];exact P⟩) fun v s2 h2=>thn h2 fun itv s3 h3 => ?_
  obtain ⟨_,_,_,_,_,_,_,_,_,_,z⟩:=h3
  exact z.elim
 |ok w s1 =>
  rw [ef] at P
  refine thn (hi pins s σ H (fun J H' => ∃ b',Ext H b H' b'∧SR X.K H' b' s1∧yX X.K H' b' J w) I ⟨b,r,st,S,RE,by rw [ef];exact fun J H' b' e' S' i'=>⟨b',e',S',i'⟩⟩) fun v s2 h2=>thn h2 fun itv s3 h3 => ?_
  obtain ⟨it,fp,tn,J,H2,rfl,I2,T,t2,f2,b2,e2,S2,i2⟩:=h3
  have P:PostN X.K E H b (match qj w.G (Q8 ⟨fi,g,ts⟩ (wl gs f) (Ww caps locN.length r)) w.l s1 with | .ok l s'=>if l.length≤sizeLine then .ok l s' else .no |_ => .no) Q:=P
  cases ev:qj w.G (Q8 ⟨fi,g,ts⟩ (wl gs f) (Ww caps locN.length r)) w.l s1 with
  |no=>rw [ev] at P;exact P.elim
  |ex x s4=>rw [ev] at P;exact P.elim
  |ok l st' =>
   rw [ev] at P
   have P:PostN X.K E H b (if l.length≤sizeLine then .ok l st' else .no) Q:=P
   by_cases hl:l.length≤sizeLine
   ·rw [if_pos hl] at P
    have hfr:H2 s3.heap.objs.size=none:=I2.hok.fresh (Nat.le_refl _)
    refine wpAny_newList ?_
    generalize hs3:({ s3 with heap:=s3.heap.push { cls := .type "list",data := .seq ([]:List Value).toArray } }:Shared)=s3'
    have I3:L2.Inv X pins σ (upd H2 s3.heap.objs.size (.lst [])) s3':=by
     rw [← hs3]
     exact I2.laid (t':=s3.toks) (fun a u e=>Heap.get?_push_of_some _ e) (Nat.le_refl _) (show ObjOk X.prog X.w _ _ _ (.lst []) from ⟨Nat.zero_le _,[],0,.nil,Heap.get?_push_size _ rfl⟩)
    have k3:∀ a o,s3.heap.get? a=some o->s3'.heap.get? a=some o:=fun a o e=>by rw [← hs3];exact Heap.get?_push_of_some _ e
    have hlt:∀ a∈fp,a < s3.heap.objs.size:=fun a ha=>by
     obtain ⟨o,e,_⟩:=T.obj _ _ t2 a ha
     exact Heap.lt_size e
    have f3:∀ a∈fp,ZQ X pins (upd H2 s3.heap.objs.size (.lst [])) a:=fun a ha=>⟨by rw [qL (Nat.ne_of_lt (hlt a ha))];exact (f2 a ha).1,(f2 a ha).2⟩
    have hlt3:∀ a∈fp,a < s3'.heap.objs.size:=fun a ha=>by
     obtain ⟨o,e,_⟩:=T.obj _ _ t2 a ha
     exact Heap.lt_size (k3 a o e)
    generalize hD:s3.heap.objs.size=D at I3 f3 hfr
    refine qAP ?_
    have J0:=Yb hcs I3 f3 hlt3 rfl
    obtain ⟨he,hg,hgs⟩:=sub s3' (upd H2 D (.lst [])) fp (X.pn++pins)
    have k4:∀ a o,s3'.heap.get? a=some o->(pushCells (s3'.heap.push { cls := .type "dict",data := .dict #[] }) scope.names).get? a=some o:=fun a o e=>pushCells_keeps _ _ _ _ (Heap.get?_push_of_some _ e)
    have hDz:D ∉ b2.z:=(S2.new_notin hfr).2
    have loop:=jI (X:=cCx X scope (capN++locN) s3' (upd H2 D (.lst [])) fp (X.pn++pins)) (fun _ _ z=>z) (gens:=⟨c1,c2,c3,0⟩::cs) (scope:=scope) (pos:=pos) (D:=D) he gs cs 0 ⟨c1,c2,c3,0⟩ ⟨fi,g,ts⟩ rfl hg hgs [] _ _ _ ⟨b2.b,D::b2.z⟩ (Ww caps locN.length r) s1 st' it fp tn J w [] l
     (compPost (model X.prog X.w) X.A X.xe none (EP X pins σ Q) (.ref D) s3'.heap.objs.size) J0 (SR.hide S2 hfr) (qAD ((RE.ext e2).wext (WE.hide hfr))) List.mem_cons_self qd T (T.keep _ _ _ t2 fun a ha o e=>k4 a o (k3 a o e))
     (fun a ha=>⟨(f3 a ha).1,(J0.ok.exf a ha).1,J0.ok.exfs a ha,.inl ha,(J0.ok.exf a ha).2,fun p hp=>(f3 a ha).2.2.2.2.2 p (by simpa [cCx] using hp)⟩) (jE i2 hfr) ev (by simpa using hl)
     (fun s' σ' H' b' lV I' e' S' R' hD' r'=>by
      obtain ⟨m,hn,_⟩:=I'.loc
      refine ⟨m,hn,fun h'' sb => ?_⟩
      have fin:=qAp I3 f3 I' sb
      have hz':b'.z=D::b2.z:=e'.same
      refine ⟨.ref D,H',fin,rfl,?_⟩
      have ex:Ext H2 b2 H' ⟨b'.b,b2.z⟩:=by
       refine ⟨⟨?_,⟨[],rfl,by simp⟩,fun a o ha ho => ?_,fun a o ha => ?_⟩,rfl,fun a o hz ha => ?_,fun a o u ha=>e'.fz a o u (qM ha hfr) (by rw [qL (qM ha hfr)];exact ha)⟩
       ·obtain ⟨n,hb,hh⟩:=e'.more
        exact ⟨n,hb,fun a ha=>by
         have:=hh a ha
         by_cases q:a=D
         ·rw [q];exact hfr
         ·rwa [qL q] at this⟩
       ·have hne:a≠D:=qM ha hfr
        exact e'.keep a o (by rw [qL hne];exact ha) ⟨ho.1,fun z=>(List.mem_cons.mp z).elim hne ho.2⟩
       ·have hne:a≠D:=qM ha hfr
        exact e'.dom a o (by rw [qL hne];exact ha)
       ·have hne:a≠D:=qM ha hfr
        exact e'.hid a o (List.mem_cons_of_mem _ hz) hne (by rw [qL hne];exact ha)
      have hb':(⟨b'.b,D::b2.z⟩:Bz)=b':=by rw [← hz']
      refine P D lV H' ⟨b'.b,b2.z⟩ (e2.trans ex) (e2.none_of hfr) (by simpa using hD') hDz ?_ ?_
      ·show SR X.K H' ⟨b'.b,D::b2.z⟩ st'
       rw [hb'];exact S'
      ·show RVs X.K H' ⟨b'.b,D::b2.z⟩ l lV
       rw [hb'];exact r')
    exact zH rfl rfl loop (T.self X.A 0 _ _ _ (T.keep _ _ _ t2 fun a ha o e=>k4 a o (k3 a o e)) loop)
   ·rw [if_neg hl] at P;exact P.elim
def Qv (n:Nat) (l:List PV):qf:=l.map some++List.replicate (n - l.length) none
def qGy:RS->Rs PV
 | .nx _ st => .ok .non st
 | .rt v st => .ok v st
 | .ex x st => .ex x st
 |_ => .no
def Refn (n:Nat) (r r':Rs PV):Prop := ∀ (K:W.Frag) (E:XK) (H:Hp) (b:Bz) (Q:VK),b.b.length=n->PostE K E H b r' Q->PostE K E H b r Q
theorem Refn.refl {n:Nat} {r:Rs PV}:Refn n r r:=fun _ _ _ _ _ _ h=>h
theorem REnv.init {K:W.Frag} {H:Hp} {b:Bz} {N:List Str} {l:List PV} {vs:List V} (h:RVs K H b l vs):REnv K H b (Qv N.length l) (start N vs):=by
 have hl:=h.length
 refine ⟨by simp [Qv,L2.start,hl],fun i p e => ?_⟩
 unfold Qv at e
 unfold L2.start
 by_cases hi:i < l.length
 ·rw [List.getElem?_append_left (by simpa using hi),List.getElem?_map] at e
  rw [List.getElem?_append_left (by simpa [← hl] using hi),List.getElem?_map]
  cases q:l[i]? with
  |none=>rw [q] at e;cases e
  |some p' =>
   rw [q] at e
   cases e
   obtain ⟨v,h1,h2⟩:=h.get q
   exact ⟨v,by rw [h1];rfl,h2⟩
 ·rw [List.getElem?_append_right (by simpa using hi),List.getElem?_replicate] at e
  split at e <;> cases e
section
variable {P:Program} {w:World} {K:W.Frag} {mg:Str->Option Value} {base:Heap}
theorem okV {CX:CXT} {x qual:Str} {st:Stmt} {f:Addr} {fd:FuncData} {N ps:List Str} {k:Nat} {g:List PV->qC->Rs PV} (F:Fun K x qual st f fd) (S:FnScope N ps (qK st))
  (body:∀ (cdv:Value) (A:Around) (outer:List Env) (s:Shared) (H:Hp) (E:XK),Room k (A.deeper (envOfC qual (qK st) s.heap.objs.size f cdv))->(0 < k->A.handled=none) ->
   ∃ B:FS,VSs (we CX P w K mg base N qual (qK st) f cdv A outer s H E) E (qZ st) B ∧ ∀ l s0,l.length=ps.length->g l s0 ≠ .no->Refn s0.length (qGy (B (Qv N.length l) s0)) (g l s0)):FnOk P w K mg base CX (k + 1) f fd ps (spG K ps.length g):=by
 obtain ⟨oc,od,kV,doc,pm,an,cdv,ct,osl,rfl,lk,hcd⟩:=F.ex
 refine qKm lk hcd S (fun vs H Q E h=>h.1) fun A outer s H vs Q E hr hcm hsp => ?_
 obtain ⟨B,hB,hg⟩:=body cdv A outer s H E hr hcm
 obtain ⟨hl,b,l,st0,S0,r0,P0⟩:=hsp
 refine ⟨_,hB,b,Qv N.length l,st0,S0,REnv.init r0,?_⟩
 have hne:g l st0 ≠ .no:=fun z=>by rw [z] at P0;exact P0
 have P1:=hg l st0 (by rw [r0.length];exact hl) hne K E H b Q S0.len P0
 cases e:B (Qv N.length l) st0 with
 |nx r st=>rw [e] at P1;exact fun s H' b' e' S' R'=>P1 .non H' b' e' S' (by unfold RV;rfl)
 |rt v st=>rw [e] at P1;exact P1
 |bk r st=>rw [e] at P1;exact P1.elim
 |ct r st=>rw [e] at P1;exact P1.elim
 |ex x st=>rw [e] at P1;exact P1
 |no=>rw [e] at P1;exact P1.elim
end
mutual
def peq:PV->PV->Bool
 | .non,.non=>true
 | .bl a,.bl c=>a==c
 | .int a,.int c=>a==c
 | .bl a,.int c=>(if a then 1 else 0)==c
 | .int a,.bl c=>a==(if c then 1 else 0)
 | .str a,.str c=>a==c
 | .tup l,.tup m=>peqs l m
 | .lst l,.lst m=>peqs l m
 |_,_=>false
def peqs:List PV->List PV->Bool
 |[],[]=>true
 |p::ps,q::qs=>peq p q&&peqs ps qs
 |_,_=>false
end
mutual
def nr:PV->Bool
 | .tup l=>nrs l
 | .lst l=>nrs l
 | .ref _=>false
 | .dct=>false
 | .ty _=>false
 | .fn _=>false
 | .exc _ _=>false
 |_=>true
def nrs:List PV->Bool
 |[]=>true
 |p::ps=>nr p&&nrs ps
end
mutual
def dep:PV->Nat
 | .tup l=>deps l + 1
 | .lst l=>deps l + 1
 |_=>0
def deps:List PV->Nat
 |[]=>0
 |p::ps=>max (dep p) (deps ps)
end
mutual
def RW (K:W.Frag) (H:Hp):PV->V->Prop
 | .non,v=>v = .non
 | .bl x,v=>v = .bl x
 | .int i,v=>v = .int i
 | .str x,v=>v = .str x
 | .tup l,v => ∃ a xs,v = .ref a∧SqT K H a xs∧RWs K H l xs
 | .lst l,v => ∃ a xs,v = .ref a∧SqL K H a xs∧RWs K H l xs
 |_,_=>False
def RWs (K:W.Frag) (H:Hp):List PV->List V->Prop
 |[],xs=>xs=[]
 |p::ps,xs => ∃ x r,xs=x::r∧RW K H p x∧RWs K H ps r
end
mutual
theorem RV.rw {K:W.Frag} {H:Hp} {b:Bz}:∀ (p:PV) {v:V},nr p=true->RV K H b p v->RW K H p v
 | .non,_,_,h=>by unfold RV at h;unfold RW;exact h
 | .bl _,_,_,h=>by unfold RV at h;unfold RW;exact h
 | .int _,_,_,h=>by unfold RV at h;unfold RW;exact h
 | .str _,_,_,h=>by unfold RV at h;unfold RW;exact h
 | .tup l,_,n,h=>by
  unfold RV at h;unfold RW;unfold nr at n
  obtain ⟨a,xs,h1,h2,h3⟩:=h
  exact ⟨a,xs,h1,h2.sq,RVs.rws l n h3⟩
 | .lst l,_,n,h=>by
  unfold RV at h;unfold RW;unfold nr at n
  obtain ⟨a,xs,h1,h2,h3⟩:=h
  exact ⟨a,xs,h1,h2.sq,RVs.rws l n h3⟩
 | .ref _,_,n,_=>by unfold nr at n;cases n
 | .dct,_,n,_=>by unfold nr at n;cases n
 | .ty _,_,n,_=>by unfold nr at n;cases n
 | .fn _,_,n,_=>by unfold nr at n;cases n
 | .exc _ _,_,n,_=>by unfold nr at n;cases n
theorem RVs.rws {K:W.Frag} {H:Hp} {b:Bz}:∀ (l:List PV) {xs:List V},nrs l=true->RVs K H b l xs->RWs K H l xs
 |[],_,_,h=>by unfold RVs at h;unfold RWs;exact h
 |p::ps,_,n,h=>by
  unfold RVs at h;unfold RWs;unfold nrs at n
  rw [Bool.and_eq_true] at n
  obtain ⟨x,r,h1,h2,h3⟩:=h
  exact ⟨x,r,h1,RV.rw p n.1 h2,RVs.rws ps n.2 h3⟩
end
theorem RWs.length {K:W.Frag} {H:Hp}:∀ {l:List PV} {xs:List V},RWs K H l xs->l.length=xs.length
 |[],_,h=>by unfold RWs at h;rw [h];rfl
 |p::ps,_,h=>by
  unfold RWs at h
  obtain ⟨x,r,rfl,_,h3⟩:=h
  rw [List.length_cons,List.length_cons,RWs.length h3]
section
variable {X:Cx} {pins:List (Addr×Obj)} {σ:L2.St} {H:Hp} {s:Shared}
theorem Zn (I:L2.Inv X pins σ H s) {a:Addr} {xs ys:List V} (h1:SqL X.K H a xs) (h2:SqT X.K H a ys):False:=by
 obtain ⟨its,_,p,_⟩:=I.list h1
 obtain ⟨its',_,q,_⟩:=I.tuple h2
 obtain ⟨o,ho,hc,n,hd⟩:=p.isList
 obtain ⟨o',ho',hc',_⟩:=q
 rw [ho] at ho';cases ho'
 rw [hc] at hc'
 injection hc' with z
 exact absurd z (by decide)
mutual
theorem RW.same (I:L2.Inv X pins σ H s):∀ (p q:PV) {v:V},RW X.K H p v->RW X.K H q v->peq p q=true
 | .non,q,v,h,g=>by
  unfold RW at h;subst h
  cases q <;> unfold RW at g <;> first |rfl |exact (g:False).elim |(obtain ⟨_,_,e,_⟩:=g;cases e) |cases g
 | .bl x,q,v,h,g=>by
  unfold RW at h;subst h
  cases q <;> unfold RW at g <;> first |(obtain ⟨_,_,e,_⟩:=g;cases e) |(cases g;simp [peq];done) |exact (g:False).elim |cases g
 | .int x,q,v,h,g=>by
  unfold RW at h;subst h
  cases q <;> unfold RW at g <;> first |(obtain ⟨_,_,e,_⟩:=g;cases e) |(cases g;simp [peq];done) |exact (g:False).elim |cases g
 | .str x,q,v,h,g=>by
  unfold RW at h;subst h
  cases q <;> unfold RW at g <;> first |(obtain ⟨_,_,e,_⟩:=g;cases e) |(cases g;simp [peq];done) |exact (g:False).elim |cases g
 | .tup l,q,v,h,g=>by
  unfold RW at h
  obtain ⟨a,xs,rfl,h2,h3⟩:=h
  cases q with
  |tup m =>
   unfold RW at g
   obtain ⟨a',ys,e,g2,g3⟩:=g
   cases e
   have:=I.tuple_inj h2 g2
   subst this
   unfold peq
   exact RWs.same I l m h3 g3
  |lst m =>
   unfold RW at g
   obtain ⟨a',ys,e,g2,g3⟩:=g
   cases e
   exact (Zn I g2 h2).elim
  |ref _=>unfold RW at g;exact g.elim
  |dct=>unfold RW at g;exact g.elim
  |ty _=>unfold RW at g;exact g.elim
  |fn _=>unfold RW at g;exact g.elim
  |exc _ _=>unfold RW at g;exact g.elim
  |non=>unfold RW at g;cases g
  |bl _=>unfold RW at g;cases g
  |int _=>unfold RW at g;cases g
  |str _=>unfold RW at g;cases g
 | .lst l,q,v,h,g=>by
  unfold RW at h
  obtain ⟨a,xs,rfl,h2,h3⟩:=h
  cases q with
  |lst m =>
   unfold RW at g
   obtain ⟨a',ys,e,g2,g3⟩:=g
   cases e
   have:=I.list_inj h2 g2
   subst this
   unfold peq
   exact RWs.same I l m h3 g3
  |tup m =>
   unfold RW at g
   obtain ⟨a',ys,e,g2,g3⟩:=g
   cases e
   exact (Zn I h2 g2).elim
  |ref _=>unfold RW at g;exact g.elim
  |dct=>unfold RW at g;exact g.elim
  |ty _=>unfold RW at g;exact g.elim
  |fn _=>unfold RW at g;exact g.elim
  |exc _ _=>unfold RW at g;exact g.elim
  |non=>unfold RW at g;cases g
  |bl _=>unfold RW at g;cases g
  |int _=>unfold RW at g;cases g
  |str _=>unfold RW at g;cases g
 | .ref _,_,_,h,_=>by unfold RW at h;exact h.elim
 | .dct,_,_,h,_=>by unfold RW at h;exact h.elim
 | .ty _,_,_,h,_=>by unfold RW at h;exact h.elim
 | .fn _,_,_,h,_=>by unfold RW at h;exact h.elim
 | .exc _ _,_,_,h,_=>by unfold RW at h;exact h.elim
theorem RWs.same (I:L2.Inv X pins σ H s):∀ (l m:List PV) {xs:List V},RWs X.K H l xs->RWs X.K H m xs->peqs l m=true
 |[],m,xs,h,g=>by
  unfold RWs at h;subst h
  cases m with
  |nil=>rfl
  |cons _ _=>unfold RWs at g;obtain ⟨_,_,e,_⟩:=g;cases e
 |p::ps,m,xs,h,g=>by
  unfold RWs at h
  obtain ⟨x,r,rfl,h2,h3⟩:=h
  cases m with
  |nil=>unfold RWs at g;cases g
  |cons q qs =>
   unfold RWs at g
   obtain ⟨y,t,e,g2,g3⟩:=g
   cases e
   unfold peqs
   rw [RW.same I p q h2 g2,RWs.same I ps qs h3 g3];rfl
end
def eqN (l m:List PV) (j:Nat):Bool:=match l[j]?,m[j]? with
 |some p,some q=>peq p q
 |_,_=>false
theorem zN:∀ (l m:List PV),l.length=m.length->(List.range l.length).all (eqN l m)=peqs l m
 |[],[],_=>rfl
 |p::ps,q::qs,h=>by
  have ih:=zN ps qs (by simpa using h)
  rw [List.length_cons,List.range_succ_eq_map,List.all_cons,List.all_map]
  unfold peqs
  have e0:eqN (p::ps) (q::qs) 0=peq p q:=rfl
  have e1:(eqN (p::ps) (q::qs) ∘ Nat.succ)=eqN ps qs:=by funext j;rfl
  rw [e0,e1,ih]
 |[],_::_,h=>by simp at h
 |_::_,[],h=>by simp at h
theorem Wg:∀ (l m:List PV),l.length≠m.length->peqs l m=false
 |[],[],h=>absurd rfl h
 |[],_::_,_=>rfl
 |_::_,[],_=>rfl
 |p::ps,q::qs,h=>by
  unfold peqs
  rw [Wg ps qs (by intro z;apply h;rw [List.length_cons,List.length_cons,z]),Bool.and_false]
theorem RWs.get' {K:W.Frag} {H:Hp}:∀ {l:List PV} {xs:List V} {i:Nat} {x:V},RWs K H l xs->xs[i]? = some x -> ∃ p,l[i]? = some p∧RW K H p x
 |[],_,_,_,h,e=>by unfold RWs at h;subst h;simp at e
 |p::ps,_,0,x,h,e=>by
  unfold RWs at h
  obtain ⟨y,r,rfl,h2,h3⟩:=h
  simp at e;subst e
  exact ⟨p,rfl,h2⟩
 |p::ps,_,i + 1,x,h,e=>by
  unfold RWs at h
  obtain ⟨y,r,rfl,h2,h3⟩:=h
  obtain ⟨q,e1,e2⟩:=RWs.get' (i:=i) h3 (by simpa using e)
  exact ⟨q,by simpa using e1,e2⟩
theorem Vals.get2:∀ {xs:List V} {us:List Value} {i:Nat} {u:Value},Vals xs us->us[i]? = some u -> ∃ x,xs[i]? = some x∧RelV x u
 |_,_,_,_,.nil,e=>by simp at e
 |_,_,0,_,.cons r _,e=>by simp at e;subst e;exact ⟨_,rfl,r⟩
 |_,_,i + 1,u,.cons _ t,e=>by
  obtain ⟨x,h1,h2⟩:=Vals.get2 (i:=i) (u:=u) t (by simpa using e)
  exact ⟨x,by simpa using h1,h2⟩
theorem Q4 (I:L2.Inv X pins σ H s) (p q:PV) {v u:V} {uv uu:Value} {A:Around} (hd:dep p=0) (hu':A.units < cLine) (hp:RW X.K H p v) (hq:RW X.K H q u) (rv:RelV v uv) (ru:RelV u uu):SeqAt.EqAt A s uv uu (peq p q):=by
 cases p with
 |tup l=>unfold dep at hd;omega
 |lst l=>unfold dep at hd;omega
 |ref _=>unfold RW at hp;exact hp.elim
 |dct=>unfold RW at hp;exact hp.elim
 |ty _=>unfold RW at hp;exact hp.elim
 |fn _=>unfold RW at hp;exact hp.elim
 |exc _ _=>unfold RW at hp;exact hp.elim
 |non =>
  unfold RW at hp;subst hp;cases rv
  cases q with
  |non=>unfold RW at hq;subst hq;cases ru;exact SeqAt.EqAt.same _
  |bl _=>unfold RW at hq;subst hq;cases ru;exact SeqAt.EqAt.none_bool _
  |int _=>unfold RW at hq;subst hq;obtain ⟨t,rfl⟩:=ru;exact SeqAt.EqAt.none_int _ _
  |str _=>unfold RW at hq;subst hq;obtain ⟨t,rfl⟩:=ru;exact SeqAt.EqAt.none_str _ _
  |tup _=>unfold RW at hq;obtain ⟨a,xs,rfl,h2,_⟩:=hq;cases ru;obtain ⟨its,_,t,_⟩:=I.tuple h2;exact SeqAt.EqAt.none_tuple t hu'
  |lst _=>unfold RW at hq;obtain ⟨a,xs,rfl,h2,_⟩:=hq;cases ru;obtain ⟨its,_,t,_⟩:=I.list h2;exact SeqAt.EqAt.none_list t.isList hu'
  |ref _=>unfold RW at hq;exact hq.elim
  |dct=>unfold RW at hq;exact hq.elim
  |ty _=>unfold RW at hq;exact hq.elim
  |fn _=>unfold RW at hq;exact hq.elim
  |exc _ _=>unfold RW at hq;exact hq.elim
 |bl x =>
  unfold RW at hp;subst hp;cases rv
  cases q with
  |non=>unfold RW at hq;subst hq;cases ru;exact SeqAt.EqAt.bool_none _
  |bl _=>unfold RW at hq;subst hq;cases ru;exact SeqAt.EqAt.bool_bool _ _
  |int _=>unfold RW at hq;subst hq;obtain ⟨t,rfl⟩:=ru;exact SeqAt.EqAt.bool_int _ _ _
  |str _=>unfold RW at hq;subst hq;obtain ⟨t,rfl⟩:=ru;exact SeqAt.EqAt.bool_str _ _ _
  |tup _=>unfold RW at hq;obtain ⟨a,xs,rfl,h2,_⟩:=hq;cases ru;obtain ⟨its,_,t,_⟩:=I.tuple h2;exact SeqAt.EqAt.bool_tuple _ t hu'
  |lst _=>unfold RW at hq;obtain ⟨a,xs,rfl,h2,_⟩:=hq;cases ru;obtain ⟨its,_,t,_⟩:=I.list h2;exact SeqAt.EqAt.bool_list _ t.isList hu'
  |ref _=>unfold RW at hq;exact hq.elim
  |dct=>unfold RW at hq;exact hq.elim
  |ty _=>unfold RW at hq;exact hq.elim
  |fn _=>unfold RW at hq;exact hq.elim
  |exc _ _=>unfold RW at hq;exact hq.elim
 |int x =>
  unfold RW at hp;subst hp;obtain ⟨t0,rfl⟩:=rv
  cases q with
  |non=>unfold RW at hq;subst hq;cases ru;exact SeqAt.EqAt.int_none _ _
  |bl _=>unfold RW at hq;subst hq;cases ru;exact SeqAt.EqAt.int_bool _ _ _
  |int _=>unfold RW at hq;subst hq;obtain ⟨t,rfl⟩:=ru;exact SeqAt.EqAt.int_int _ _ _ _
  |str _=>unfold RW at hq;subst hq;obtain ⟨t,rfl⟩:=ru;exact SeqAt.EqAt.int_str _ _ _ _
  |tup _=>unfold RW at hq;obtain ⟨a,xs,rfl,h2,_⟩:=hq;cases ru;obtain ⟨its,_,t,_⟩:=I.tuple h2;exact SeqAt.EqAt.int_tuple _ _ t hu'
  |lst _=>unfold RW at hq;obtain ⟨a,xs,rfl,h2,_⟩:=hq;cases ru;obtain ⟨its,_,t,_⟩:=I.list h2;exact SeqAt.EqAt.int_list _ _ t.isList hu'
  |ref _=>unfold RW at hq;exact hq.elim
  |dct=>unfold RW at hq;exact hq.elim
  |ty _=>unfold RW at hq;exact hq.elim
  |fn _=>unfold RW at hq;exact hq.elim
  |exc _ _=>unfold RW at hq;exact hq.elim
 |str x =>
  unfold RW at hp;subst hp;obtain ⟨t0,rfl⟩:=rv
  cases q with
  |non=>unfold RW at hq;subst hq;cases ru;exact SeqAt.EqAt.str_none _ _
  |bl _=>unfold RW at hq;subst hq;cases ru;exact SeqAt.EqAt.str_bool _ _ _
  |int _=>unfold RW at hq;subst hq;obtain ⟨t,rfl⟩:=ru;exact SeqAt.EqAt.str_int _ _ _ _
  |str _=>unfold RW at hq;subst hq;obtain ⟨t,rfl⟩:=ru;exact SeqAt.EqAt.str_str _ _ _ _
  |tup _=>unfold RW at hq;obtain ⟨a,xs,rfl,h2,_⟩:=hq;cases ru;obtain ⟨its,_,t,_⟩:=I.tuple h2;exact SeqAt.EqAt.str_tuple _ _ t hu'
  |lst _=>unfold RW at hq;obtain ⟨a,xs,rfl,h2,_⟩:=hq;cases ru;obtain ⟨its,_,t,_⟩:=I.list h2;exact SeqAt.EqAt.str_list _ _ t.isList hu'
  |ref _=>unfold RW at hq;exact hq.elim
  |dct=>unfold RW at hq;exact hq.elim
  |ty _=>unfold RW at hq;exact hq.elim
  |fn _=>unfold RW at hq;exact hq.elim
  |exc _ _=>unfold RW at hq;exact hq.elim
theorem ze:∀ {l:List PV} {i:Nat} {p:PV},l[i]? = some p->dep p≤deps l
 |[],_,_,h=>by simp at h
 |q::qs,0,p,h=>by simp at h;subst h;unfold deps;exact Nat.le_max_left _ _
 |q::qs,i + 1,p,h=>by unfold deps;exact Nat.le_trans (ze (l:=qs) (i:=i) (by simpa using h)) (Nat.le_max_right _ _)
theorem qDv (I:L2.Inv X pins σ H s):∀ (n:Nat) (p q:PV) (v u:V) (uv uu:Value) (A:Around),dep p≤n->A.units + n < cLine->RW X.K H p v->RW X.K H q u->RelV v uv->RelV u uu->SeqAt.EqAt A s uv uu (peq p q):=by
 intro n
 induction n with
 |zero=>intro p q v u uv uu A hd hu hp hq rv ru;exact Q4 I p q (Nat.le_zero.mp hd) hu hp hq rv ru
 |succ n ih =>
  intro p q v u uv uu A hd hu hp hq rv ru
  have hu':A.units < cLine:=Nat.lt_of_le_of_lt (Nat.le_add_right _ _) hu
  have hin:A.in1.units + n < cLine:=by show A.units + 1 + n < cLine;omega
  have elt:∀ {l m:List PV} {xs ys:List V} {its its2:List Value},deps l≤n->RWs X.K H l xs->RWs X.K H m ys->Vals xs its->Vals ys its2 -> ∀ j (h1:j < its.toArray.size) (h2:j < its2.toArray.size),SeqAt.EqAt A.in1 s its.toArray[j] its2.toArray[j] (eqN l m j):=fun {l m xs ys its its2} hdl hl hm vl vm j h1 h2=>by
   have e1:its[j]? = some its.toArray[j]:=by simp
   have e2:its2[j]? = some its2.toArray[j]:=by simp
   obtain ⟨x,hx,rx⟩:=Vals.get2 vl e1
   obtain ⟨y,hy,ry⟩:=Vals.get2 vm e2
   obtain ⟨p',hp',rp'⟩:=RWs.get' hl hx
   obtain ⟨q',hq',rq'⟩:=RWs.get' hm hy
   have:eqN l m j=peq p' q':=by unfold eqN;rw [hp',hq']
   rw [this]
   exact ih p' q' x y _ _ A.in1 (Nat.le_trans (ze hp') hdl) hin rp' rq' rx ry
  cases p with
  |tup l =>
   have hp0:=hp
   unfold RW at hp
   unfold dep at hd
   obtain ⟨a,xs,rfl,h2,h3⟩:=hp
   cases rv
   obtain ⟨its,vl,tl,_⟩:=I.tuple h2
   cases q with
   |non=>unfold RW at hq;subst hq;cases ru;exact SeqAt.EqAt.tuple_none tl hu'
   |bl _=>unfold RW at hq;subst hq;cases ru;exact SeqAt.EqAt.tuple_bool _ tl hu'
   |int _=>unfold RW at hq;subst hq;obtain ⟨t,rfl⟩:=ru;exact SeqAt.EqAt.tuple_int _ _ tl hu'
   |str _=>unfold RW at hq;subst hq;obtain ⟨t,rfl⟩:=ru;exact SeqAt.EqAt.tuple_str _ _ tl hu'
   |lst _=>unfold RW at hq;obtain ⟨a,xs,rfl,h2,_⟩:=hq;cases ru;obtain ⟨its,_,t,_⟩:=I.list h2;exact SeqAt.EqAt.tuple_list tl t.isList hu'
   |ref _=>unfold RW at hq;exact hq.elim
   |dct=>unfold RW at hq;exact hq.elim
   |ty _=>unfold RW at hq;exact hq.elim
   |fn _=>unfold RW at hq;exact hq.elim
   |exc _ _=>unfold RW at hq;exact hq.elim
   |tup m =>
    have hq0:=hq
    unfold RW at hq
    obtain ⟨a2,ys,rfl,g2,g3⟩:=hq
    cases ru
    obtain ⟨its2,vm,tm,_⟩:=I.tuple g2
    by_cases ha:a=a2
    ·subst ha
     rw [RW.same I _ _ hp0 hq0]
     exact SeqAt.EqAt.same _
    ·refine SeqAt.EqAt.of_refs ha ?_
     have rc:=SeqAt.RcAt.tuples (e:=eqN l m) tl tm hu' (elt (by omega) h3 g3 vl vm)
     have hl1:its.toArray.size=l.length:=by rw [List.size_toArray,← vl.length,h3.length]
     have hl2:its2.toArray.size=m.length:=by rw [List.size_toArray,← vm.length,g3.length]
     rw [hl1,hl2] at rc
     have e:((List.range (min l.length m.length)).all (eqN l m)&&l.length==m.length)=peq (.tup l) (.tup m):=by
      unfold peq
      by_cases hlm:l.length=m.length
      ·rw [← hlm,Nat.min_self,zN l m hlm,beq_self_eq_true,Bool.and_true]
      ·rw [Wg l m hlm,beq_false_of_ne hlm,Bool.and_false]
     rw [e] at rc
     exact rc
  |lst l =>
   have hp0:=hp
   unfold RW at hp
   unfold dep at hd
   obtain ⟨a,xs,rfl,h2,h3⟩:=hp
   cases rv
   obtain ⟨its,vl,tl',_⟩:=I.list h2
   have tl:=tl'.isList
   cases q with
   |non=>unfold RW at hq;subst hq;cases ru;exact SeqAt.EqAt.list_none tl hu'
   |bl _=>unfold RW at hq;subst hq;cases ru;exact SeqAt.EqAt.list_bool _ tl hu'
   |int _=>unfold RW at hq;subst hq;obtain ⟨t,rfl⟩:=ru;exact SeqAt.EqAt.list_int _ _ tl hu'
   |str _=>unfold RW at hq;subst hq;obtain ⟨t,rfl⟩:=ru;exact SeqAt.EqAt.list_str _ _ tl hu'
   |tup _=>unfold RW at hq;obtain ⟨a,xs,rfl,h2,_⟩:=hq;cases ru;obtain ⟨its,_,t,_⟩:=I.tuple h2;exact SeqAt.EqAt.list_tuple tl t hu'
   |ref _=>unfold RW at hq;exact hq.elim
   |dct=>unfold RW at hq;exact hq.elim
   |ty _=>unfold RW at hq;exact hq.elim
   |fn _=>unfold RW at hq;exact hq.elim
   |exc _ _=>unfold RW at hq;exact hq.elim
   |lst m =>
    have hq0:=hq
    unfold RW at hq
    obtain ⟨a2,ys,rfl,g2,g3⟩:=hq
    cases ru
    obtain ⟨its2,vm,tm',_⟩:=I.list g2
    have tm:=tm'.isList
    by_cases ha:a=a2
    ·subst ha
     rw [RW.same I _ _ hp0 hq0]
     exact SeqAt.EqAt.same _
    ·refine SeqAt.EqAt.of_refs ha ?_
     have hl1:its.toArray.size=l.length:=by rw [List.size_toArray,← vl.length,h3.length]
     have hl2:its2.toArray.size=m.length:=by rw [List.size_toArray,← vm.length,g3.length]
     unfold peq
     by_cases hlm:l.length=m.length
     ·have rc:=SeqAt.RcAt.lists (e:=eqN l m) tl tm (by rw [hl1,hl2,hlm]) hu' (elt (by omega) h3 g3 vl vm)
      rw [hl1,zN l m hlm] at rc
      exact rc
     ·rw [Wg l m hlm]
      exact SeqAt.RcAt.lists_lengths tl tm (by rw [hl1,hl2];exact bne_iff_ne.mpr hlm) hu'
  |non=>exact Q4 I _ q rfl hu' hp hq rv ru
  |bl _=>exact Q4 I _ q rfl hu' hp hq rv ru
  |int _=>exact Q4 I _ q rfl hu' hp hq rv ru
  |str _=>exact Q4 I _ q rfl hu' hp hq rv ru
  |ref _=>exact Q4 I _ q rfl hu' hp hq rv ru
  |dct=>exact Q4 I _ q rfl hu' hp hq rv ru
  |ty _=>exact Q4 I _ q rfl hu' hp hq rv ru
  |fn _=>exact Q4 I _ q rfl hu' hp hq rv ru
  |exc _ _=>exact Q4 I _ q rfl hu' hp hq rv ru
end
section
variable {X:Cx} {pins:List (Addr×Obj)} {σ:L2.St} {H:Hp} {s:Shared}
mutual
theorem RW.det (I:L2.Inv X pins σ H s):∀ (p q:PV) {v:V},RW X.K H p v->RW X.K H q v->p=q
 | .non,q,v,h,g=>by
  unfold RW at h;subst h
  cases q <;> unfold RW at g <;> first |rfl |exact (g:False).elim |(obtain ⟨_,_,e,_⟩:=g;cases e) |cases g
 | .bl x,q,v,h,g=>by
  unfold RW at h;subst h
  cases q <;> unfold RW at g <;> first |(obtain ⟨_,_,e,_⟩:=g;cases e) |(cases g;rfl) |exact (g:False).elim |cases g
 | .int x,q,v,h,g=>by
  unfold RW at h;subst h
  cases q <;> unfold RW at g <;> first |(obtain ⟨_,_,e,_⟩:=g;cases e) |(cases g;rfl) |exact (g:False).elim |cases g
 | .str x,q,v,h,g=>by
  unfold RW at h;subst h
  cases q <;> unfold RW at g <;> first |(obtain ⟨_,_,e,_⟩:=g;cases e) |(cases g;rfl) |exact (g:False).elim |cases g
 | .tup l,q,v,h,g=>by
  unfold RW at h
  obtain ⟨a,xs,rfl,h2,h3⟩:=h
  cases q with
  |tup m =>
   unfold RW at g
   obtain ⟨a',ys,e,g2,g3⟩:=g
   cases e
   have:=I.tuple_inj h2 g2
   subst this
   rw [RWs.det I l m h3 g3]
  |lst m =>
   unfold RW at g
   obtain ⟨a',ys,e,g2,g3⟩:=g
   cases e
   exact (Zn I g2 h2).elim
  |ref _=>unfold RW at g;exact g.elim
  |dct=>unfold RW at g;exact g.elim
  |ty _=>unfold RW at g;exact g.elim
  |fn _=>unfold RW at g;exact g.elim
  |exc _ _=>unfold RW at g;exact g.elim
  |non=>unfold RW at g;cases g
  |bl _=>unfold RW at g;cases g
  |int _=>unfold RW at g;cases g
  |str _=>unfold RW at g;cases g
 | .lst l,q,v,h,g=>by
  unfold RW at h
  obtain ⟨a,xs,rfl,h2,h3⟩:=h
  cases q with
  |lst m =>
   unfold RW at g
   obtain ⟨a',ys,e,g2,g3⟩:=g
   cases e
   have:=I.list_inj h2 g2
   subst this
   rw [RWs.det I l m h3 g3]
  |tup m =>
   unfold RW at g
   obtain ⟨a',ys,e,g2,g3⟩:=g
   cases e
   exact (Zn I h2 g2).elim
  |ref _=>unfold RW at g;exact g.elim
  |dct=>unfold RW at g;exact g.elim
  |ty _=>unfold RW at g;exact g.elim
  |fn _=>unfold RW at g;exact g.elim
  |exc _ _=>unfold RW at g;exact g.elim
  |non=>unfold RW at g;cases g
  |bl _=>unfold RW at g;cases g
  |int _=>unfold RW at g;cases g
  |str _=>unfold RW at g;cases g
 | .ref _,_,_,h,_=>by unfold RW at h;exact h.elim
 | .dct,_,_,h,_=>by unfold RW at h;exact h.elim
 | .ty _,_,_,h,_=>by unfold RW at h;exact h.elim
 | .fn _,_,_,h,_=>by unfold RW at h;exact h.elim
 | .exc _ _,_,_,h,_=>by unfold RW at h;exact h.elim
theorem RWs.det (I:L2.Inv X pins σ H s):∀ (l m:List PV) {xs:List V},RWs X.K H l xs->RWs X.K H m xs->l=m
 |[],m,xs,h,g=>by
  unfold RWs at h;subst h
  cases m with
  |nil=>rfl
  |cons _ _=>unfold RWs at g;obtain ⟨_,_,e,_⟩:=g;cases e
 |p::ps,m,xs,h,g=>by
  unfold RWs at h
  obtain ⟨x,r,rfl,h2,h3⟩:=h
  cases m with
  |nil=>unfold RWs at g;cases g
  |cons q qs =>
   unfold RWs at g
   obtain ⟨y,t,e,g2,g3⟩:=g
   cases e
   rw [RW.det I p q h2 g2,RWs.det I ps qs h3 g3]
end
theorem wL (I:L2.Inv X pins σ H s) (p q:PV) {v u:V} {uv uu:Value} {A:Around} (hd:dep p=0) (hu':A.units < cLine) (hp:RW X.K H p v) (hq:RW X.K H q u) (rv:RelV v uv) (ru:RelV u uu):SeqAt.RcAt A s uv uu (peq p q):=by
 cases p with
 |tup l=>unfold dep at hd;omega
 |lst l=>unfold dep at hd;omega
 |ref _=>unfold RW at hp;exact hp.elim
 |dct=>unfold RW at hp;exact hp.elim
 |ty _=>unfold RW at hp;exact hp.elim
 |fn _=>unfold RW at hp;exact hp.elim
 |exc _ _=>unfold RW at hp;exact hp.elim
 |non =>
  unfold RW at hp;subst hp;cases rv
  cases q with
  |non=>unfold RW at hq;subst hq;cases ru;exact SeqAt.RcAt.none_none
  |bl _=>unfold RW at hq;subst hq;cases ru;exact SeqAt.RcAt.none_bool _
  |int _=>unfold RW at hq;subst hq;obtain ⟨t,rfl⟩:=ru;exact SeqAt.RcAt.none_int _ _
  |str _=>unfold RW at hq;subst hq;obtain ⟨t,rfl⟩:=ru;exact SeqAt.RcAt.none_str _ _
  |tup _=>unfold RW at hq;obtain ⟨a,xs,rfl,h2,_⟩:=hq;cases ru;obtain ⟨its,_,t,_⟩:=I.tuple h2;exact SeqAt.RcAt.none_tuple t hu'
  |lst _=>unfold RW at hq;obtain ⟨a,xs,rfl,h2,_⟩:=hq;cases ru;obtain ⟨its,_,t,_⟩:=I.list h2;exact SeqAt.RcAt.none_list t.isList hu'
  |ref _=>unfold RW at hq;exact hq.elim
  |dct=>unfold RW at hq;exact hq.elim
  |ty _=>unfold RW at hq;exact hq.elim
  |fn _=>unfold RW at hq;exact hq.elim
  |exc _ _=>unfold RW at hq;exact hq.elim
 |bl x =>
  unfold RW at hp;subst hp;cases rv
  cases q with
  |non=>unfold RW at hq;subst hq;cases ru;exact SeqAt.RcAt.bool_none _
  |bl _=>unfold RW at hq;subst hq;cases ru;exact SeqAt.RcAt.bool_bool _ _
  |int _=>unfold RW at hq;subst hq;obtain ⟨t,rfl⟩:=ru;exact SeqAt.RcAt.bool_int _ _ _
  |str _=>unfold RW at hq;subst hq;obtain ⟨t,rfl⟩:=ru;exact SeqAt.RcAt.bool_str _ _ _
  |tup _=>unfold RW at hq;obtain ⟨a,xs,rfl,h2,_⟩:=hq;cases ru;obtain ⟨its,_,t,_⟩:=I.tuple h2;exact SeqAt.RcAt.bool_tuple _ t hu'
  |lst _=>unfold RW at hq;obtain ⟨a,xs,rfl,h2,_⟩:=hq;cases ru;obtain ⟨its,_,t,_⟩:=I.list h2;exact SeqAt.RcAt.bool_list _ t.isList hu'
  |ref _=>unfold RW at hq;exact hq.elim
  |dct=>unfold RW at hq;exact hq.elim
  |ty _=>unfold RW at hq;exact hq.elim
  |fn _=>unfold RW at hq;exact hq.elim
  |exc _ _=>unfold RW at hq;exact hq.elim
 |int x =>
  unfold RW at hp;subst hp;obtain ⟨t0,rfl⟩:=rv
  cases q with
  |non=>unfold RW at hq;subst hq;cases ru;exact SeqAt.RcAt.int_none _ _
  |bl _=>unfold RW at hq;subst hq;cases ru;exact SeqAt.RcAt.int_bool _ _ _
  |int _=>unfold RW at hq;subst hq;obtain ⟨t,rfl⟩:=ru;exact SeqAt.RcAt.int_int _ _ _ _
  |str _=>unfold RW at hq;subst hq;obtain ⟨t,rfl⟩:=ru;exact SeqAt.RcAt.int_str _ _ _ _
  |tup _=>unfold RW at hq;obtain ⟨a,xs,rfl,h2,_⟩:=hq;cases ru;obtain ⟨its,_,t,_⟩:=I.tuple h2;exact SeqAt.RcAt.int_tuple _ _ t hu'
  |lst _=>unfold RW at hq;obtain ⟨a,xs,rfl,h2,_⟩:=hq;cases ru;obtain ⟨its,_,t,_⟩:=I.list h2;exact SeqAt.RcAt.int_list _ _ t.isList hu'
  |ref _=>unfold RW at hq;exact hq.elim
  |dct=>unfold RW at hq;exact hq.elim
  |ty _=>unfold RW at hq;exact hq.elim
  |fn _=>unfold RW at hq;exact hq.elim
  |exc _ _=>unfold RW at hq;exact hq.elim
 |str x =>
  unfold RW at hp;subst hp;obtain ⟨t0,rfl⟩:=rv
  cases q with
  |non=>unfold RW at hq;subst hq;cases ru;exact SeqAt.RcAt.str_none _ _
  |bl _=>unfold RW at hq;subst hq;cases ru;exact SeqAt.RcAt.str_bool _ _ _
  |int _=>unfold RW at hq;subst hq;obtain ⟨t,rfl⟩:=ru;exact SeqAt.RcAt.str_int _ _ _ _
  |str _=>unfold RW at hq;subst hq;obtain ⟨t,rfl⟩:=ru;exact SeqAt.RcAt.str_str _ _ _ _
  |tup _=>unfold RW at hq;obtain ⟨a,xs,rfl,h2,_⟩:=hq;cases ru;obtain ⟨its,_,t,_⟩:=I.tuple h2;exact SeqAt.RcAt.str_tuple _ _ t hu'
  |lst _=>unfold RW at hq;obtain ⟨a,xs,rfl,h2,_⟩:=hq;cases ru;obtain ⟨its,_,t,_⟩:=I.list h2;exact SeqAt.RcAt.str_list _ _ t.isList hu'
  |ref _=>unfold RW at hq;exact hq.elim
  |dct=>unfold RW at hq;exact hq.elim
  |ty _=>unfold RW at hq;exact hq.elim
  |fn _=>unfold RW at hq;exact hq.elim
  |exc _ _=>unfold RW at hq;exact hq.elim
theorem wO (I:L2.Inv X pins σ H s) (p q:PV) {v u:V} {uv uu:Value} {A:Around} (hd:dep p=0) (hu':A.units < cLine) (hp:RW X.K H p v) (hq:RW X.K H q u) (rv:RelV v uv) (ru:RelV u uu):SeqAt.RcNeAt A s uv uu (!peq p q):=by
 cases p with
 |tup l=>unfold dep at hd;omega
 |lst l=>unfold dep at hd;omega
 |ref _=>unfold RW at hp;exact hp.elim
 |dct=>unfold RW at hp;exact hp.elim
 |ty _=>unfold RW at hp;exact hp.elim
 |fn _=>unfold RW at hp;exact hp.elim
 |exc _ _=>unfold RW at hp;exact hp.elim
 |non =>
  unfold RW at hp;subst hp;cases rv
  cases q with
  |non=>unfold RW at hq;subst hq;cases ru;exact SeqAt.RcNeAt.none_none
  |bl _=>unfold RW at hq;subst hq;cases ru;exact SeqAt.RcNeAt.none_bool _
  |int _=>unfold RW at hq;subst hq;obtain ⟨t,rfl⟩:=ru;exact SeqAt.RcNeAt.none_int _ _
  |str _=>unfold RW at hq;subst hq;obtain ⟨t,rfl⟩:=ru;exact SeqAt.RcNeAt.none_str _ _
  |tup _=>unfold RW at hq;obtain ⟨a,xs,rfl,h2,_⟩:=hq;cases ru;obtain ⟨its,_,t,_⟩:=I.tuple h2;exact SeqAt.RcNeAt.none_tuple t hu'
  |lst _=>unfold RW at hq;obtain ⟨a,xs,rfl,h2,_⟩:=hq;cases ru;obtain ⟨its,_,t,_⟩:=I.list h2;exact SeqAt.RcNeAt.none_list t.isList hu'
  |ref _=>unfold RW at hq;exact hq.elim
  |dct=>unfold RW at hq;exact hq.elim
  |ty _=>unfold RW at hq;exact hq.elim
  |fn _=>unfold RW at hq;exact hq.elim
  |exc _ _=>unfold RW at hq;exact hq.elim
 |bl x =>
  unfold RW at hp;subst hp;cases rv
  cases q with
  |non=>unfold RW at hq;subst hq;cases ru;exact SeqAt.RcNeAt.bool_none _
  |bl _=>unfold RW at hq;subst hq;cases ru;exact SeqAt.RcNeAt.bool_bool _ _
  |int _=>unfold RW at hq;subst hq;obtain ⟨t,rfl⟩:=ru;exact SeqAt.RcNeAt.bool_int _ _ _
  |str _=>unfold RW at hq;subst hq;obtain ⟨t,rfl⟩:=ru;exact SeqAt.RcNeAt.bool_str _ _ _
  |tup _=>unfold RW at hq;obtain ⟨a,xs,rfl,h2,_⟩:=hq;cases ru;obtain ⟨its,_,t,_⟩:=I.tuple h2;exact SeqAt.RcNeAt.bool_tuple _ t hu'
  |lst _=>unfold RW at hq;obtain ⟨a,xs,rfl,h2,_⟩:=hq;cases ru;obtain ⟨its,_,t,_⟩:=I.list h2;exact SeqAt.RcNeAt.bool_list _ t.isList hu'
  |ref _=>unfold RW at hq;exact hq.elim
  |dct=>unfold RW at hq;exact hq.elim
  |ty _=>unfold RW at hq;exact hq.elim
  |fn _=>unfold RW at hq;exact hq.elim
  |exc _ _=>unfold RW at hq;exact hq.elim
 |int x =>
  unfold RW at hp;subst hp;obtain ⟨t0,rfl⟩:=rv
  cases q with
  |non=>unfold RW at hq;subst hq;cases ru;exact SeqAt.RcNeAt.int_none _ _
  |bl _=>unfold RW at hq;subst hq;cases ru;exact SeqAt.RcNeAt.int_bool _ _ _
  |int _=>unfold RW at hq;subst hq;obtain ⟨t,rfl⟩:=ru;exact SeqAt.RcNeAt.int_int _ _ _ _
  |str _=>unfold RW at hq;subst hq;obtain ⟨t,rfl⟩:=ru;exact SeqAt.RcNeAt.int_str _ _ _ _
  |tup _=>unfold RW at hq;obtain ⟨a,xs,rfl,h2,_⟩:=hq;cases ru;obtain ⟨its,_,t,_⟩:=I.tuple h2;exact SeqAt.RcNeAt.int_tuple _ _ t hu'
  |lst _=>unfold RW at hq;obtain ⟨a,xs,rfl,h2,_⟩:=hq;cases ru;obtain ⟨its,_,t,_⟩:=I.list h2;exact SeqAt.RcNeAt.int_list _ _ t.isList hu'
  |ref _=>unfold RW at hq;exact hq.elim
  |dct=>unfold RW at hq;exact hq.elim
  |ty _=>unfold RW at hq;exact hq.elim
  |fn _=>unfold RW at hq;exact hq.elim
  |exc _ _=>unfold RW at hq;exact hq.elim
 |str x =>
  unfold RW at hp;subst hp;obtain ⟨t0,rfl⟩:=rv
  cases q with
  |non=>unfold RW at hq;subst hq;cases ru;exact SeqAt.RcNeAt.str_none _ _
  |bl _=>unfold RW at hq;subst hq;cases ru;exact SeqAt.RcNeAt.str_bool _ _ _
  |int _=>unfold RW at hq;subst hq;obtain ⟨t,rfl⟩:=ru;exact SeqAt.RcNeAt.str_int _ _ _ _
  |str _=>unfold RW at hq;subst hq;obtain ⟨t,rfl⟩:=ru;exact SeqAt.RcNeAt.str_str _ _ _ _
  |tup _=>unfold RW at hq;obtain ⟨a,xs,rfl,h2,_⟩:=hq;cases ru;obtain ⟨its,_,t,_⟩:=I.tuple h2;exact SeqAt.RcNeAt.str_tuple _ _ t hu'
  |lst _=>unfold RW at hq;obtain ⟨a,xs,rfl,h2,_⟩:=hq;cases ru;obtain ⟨its,_,t,_⟩:=I.list h2;exact SeqAt.RcNeAt.str_list _ _ t.isList hu'
  |ref _=>unfold RW at hq;exact hq.elim
  |dct=>unfold RW at hq;exact hq.elim
  |ty _=>unfold RW at hq;exact hq.elim
  |fn _=>unfold RW at hq;exact hq.elim
  |exc _ _=>unfold RW at hq;exact hq.elim
theorem qJ8 (I:L2.Inv X pins σ H s) (p q:PV) {v u:V} {uv uu:Value} {A:Around} (hu:A.units + (dep p + 1) < cLine) (hp:RW X.K H p v) (hq:RW X.K H q u) (rv:RelV v uv) (ru:RelV u uu):SeqAt.RcAt A s uv uu (peq p q):=by
 have hu':A.units < cLine:=Nat.lt_of_le_of_lt (Nat.le_add_right _ _) hu
 have elt:∀ {n:Nat} {l m:List PV} {xs ys:List V} {its its2:List Value},A.in1.units + n < cLine->deps l≤n->RWs X.K H l xs->RWs X.K H m ys->Vals xs its->Vals ys its2 -> ∀ j (h1:j < its.toArray.size) (h2:j < its2.toArray.size),SeqAt.EqAt A.in1 s its.toArray[j] its2.toArray[j] (eqN l m j):=fun {n l m xs ys its its2} hin hdl hl hm vl vm j h1 h2=>by
  have e1:its[j]? = some its.toArray[j]:=by simp
  have e2:its2[j]? = some its2.toArray[j]:=by simp
  obtain ⟨x,hx,rx⟩:=Vals.get2 vl e1
  obtain ⟨y,hy,ry⟩:=Vals.get2 vm e2
  obtain ⟨p',hp',rp'⟩:=RWs.get' hl hx
  obtain ⟨q',hq',rq'⟩:=RWs.get' hm hy
  have:eqN l m j=peq p' q':=by unfold eqN;rw [hp',hq']
  rw [this]
  exact qDv I n p' q' x y _ _ A.in1 (Nat.le_trans (ze hp') hdl) hin rp' rq' rx ry
 cases p with
 |tup l =>
  have hp0:=hp
  unfold RW at hp
  obtain ⟨a,xs,rfl,h2,h3⟩:=hp
  cases rv
  obtain ⟨its,vl,tl,_⟩:=I.tuple h2
  unfold dep at hu
  cases q with
  |non=>unfold RW at hq;subst hq;cases ru;exact SeqAt.RcAt.tuple_none tl hu'
  |bl _=>unfold RW at hq;subst hq;cases ru;exact SeqAt.RcAt.tuple_bool _ tl hu'
  |int _=>unfold RW at hq;subst hq;obtain ⟨t,rfl⟩:=ru;exact SeqAt.RcAt.tuple_int _ _ tl hu'
  |str _=>unfold RW at hq;subst hq;obtain ⟨t,rfl⟩:=ru;exact SeqAt.RcAt.tuple_str _ _ tl hu'
  |lst _=>unfold RW at hq;obtain ⟨a,xs,rfl,h2,_⟩:=hq;cases ru;obtain ⟨its,_,t,_⟩:=I.list h2;exact SeqAt.RcAt.tuple_list tl t.isList hu'
  |ref _=>unfold RW at hq;exact hq.elim
  |dct=>unfold RW at hq;exact hq.elim
  |ty _=>unfold RW at hq;exact hq.elim
  |fn _=>unfold RW at hq;exact hq.elim
  |exc _ _=>unfold RW at hq;exact hq.elim
  |tup m =>
   unfold RW at hq
   obtain ⟨a2,ys,rfl,g2,g3⟩:=hq
   cases ru
   obtain ⟨its2,vm,tm,_⟩:=I.tuple g2
   have rc:=SeqAt.RcAt.tuples (e:=eqN l m) tl tm hu' (elt (n:=deps l) (by show A.units + 1 + deps l < cLine;omega) (Nat.le_refl _) h3 g3 vl vm)
   have hl1:its.toArray.size=l.length:=by rw [List.size_toArray,← vl.length,h3.length]
   have hl2:its2.toArray.size=m.length:=by rw [List.size_toArray,← vm.length,g3.length]
   rw [hl1,hl2] at rc
   have e:((List.range (min l.length m.length)).all (eqN l m)&&l.length==m.length)=peq (.tup l) (.tup m):=by
    unfold peq
    by_cases hlm:l.length=m.length
    ·rw [← hlm,Nat.min_self,zN l m hlm,beq_self_eq_true,Bool.and_true]
    ·rw [Wg l m hlm,beq_false_of_ne hlm,Bool.and_false]
   rw [e] at rc
   exact rc
 |lst l =>
  have hp0:=hp
  unfold RW at hp
  obtain ⟨a,xs,rfl,h2,h3⟩:=hp
  cases rv
  obtain ⟨its,vl,tl',_⟩:=I.list h2
  have tl:=tl'.isList
  unfold dep at hu
  cases q with
  |non=>unfold RW at hq;subst hq;cases ru;exact SeqAt.RcAt.list_none tl hu'
  |bl _=>unfold RW at hq;subst hq;cases ru;exact SeqAt.RcAt.list_bool _ tl hu'
  |int _=>unfold RW at hq;subst hq;obtain ⟨t,rfl⟩:=ru;exact SeqAt.RcAt.list_int _ _ tl hu'
  |str _=>unfold RW at hq;subst hq;obtain ⟨t,rfl⟩:=ru;exact SeqAt.RcAt.list_str _ _ tl hu'
  |tup _=>unfold RW at hq;obtain ⟨a,xs,rfl,h2,_⟩:=hq;cases ru;obtain ⟨its,_,t,_⟩:=I.tuple h2;exact SeqAt.RcAt.list_tuple tl t hu'
  |ref _=>unfold RW at hq;exact hq.elim
  |dct=>unfold RW at hq;exact hq.elim
  |ty _=>unfold RW at hq;exact hq.elim
  |fn _=>unfold RW at hq;exact hq.elim
  |exc _ _=>unfold RW at hq;exact hq.elim
  |lst m =>
   unfold RW at hq
   obtain ⟨a2,ys,rfl,g2,g3⟩:=hq
   cases ru
   obtain ⟨its2,vm,tm',_⟩:=I.list g2
   have tm:=tm'.isList
   have hl1:its.toArray.size=l.length:=by rw [List.size_toArray,← vl.length,h3.length]
   have hl2:its2.toArray.size=m.length:=by rw [List.size_toArray,← vm.length,g3.length]
   unfold peq
   by_cases hlm:l.length=m.length
   ·have rc:=SeqAt.RcAt.lists (e:=eqN l m) tl tm (by rw [hl1,hl2,hlm]) hu' (elt (n:=deps l) (by show A.units + 1 + deps l < cLine;omega) (Nat.le_refl _) h3 g3 vl vm)
    rw [hl1,zN l m hlm] at rc
    exact rc
   ·rw [Wg l m hlm]
    exact SeqAt.RcAt.lists_lengths tl tm (by rw [hl1,hl2];exact bne_iff_ne.mpr hlm) hu'
 |non=>exact wL I _ q rfl hu' hp hq rv ru
 |bl _=>exact wL I _ q rfl hu' hp hq rv ru
 |int _=>exact wL I _ q rfl hu' hp hq rv ru
 |str _=>exact wL I _ q rfl hu' hp hq rv ru
 |ref _=>exact wL I _ q rfl hu' hp hq rv ru
 |dct=>exact wL I _ q rfl hu' hp hq rv ru
 |ty _=>exact wL I _ q rfl hu' hp hq rv ru
 |fn _=>exact wL I _ q rfl hu' hp hq rv ru
 |exc _ _=>exact wL I _ q rfl hu' hp hq rv ru
theorem qKK (I:L2.Inv X pins σ H s) (p q:PV) {v u:V} {uv uu:Value} {A:Around} (hu:A.units + (dep p + 1) < cLine) (hp:RW X.K H p v) (hq:RW X.K H q u) (rv:RelV v uv) (ru:RelV u uu):SeqAt.RcNeAt A s uv uu (!peq p q):=by
 have hu':A.units < cLine:=Nat.lt_of_le_of_lt (Nat.le_add_right _ _) hu
 have elt:∀ {n:Nat} {l m:List PV} {xs ys:List V} {its its2:List Value},A.in1.units + n < cLine->deps l≤n->RWs X.K H l xs->RWs X.K H m ys->Vals xs its->Vals ys its2 -> ∀ j (h1:j < its.toArray.size) (h2:j < its2.toArray.size),SeqAt.EqAt A.in1 s its.toArray[j] its2.toArray[j] (eqN l m j):=fun {n l m xs ys its its2} hin hdl hl hm vl vm j h1 h2=>by
  have e1:its[j]? = some its.toArray[j]:=by simp
  have e2:its2[j]? = some its2.toArray[j]:=by simp
  obtain ⟨x,hx,rx⟩:=Vals.get2 vl e1
  obtain ⟨y,hy,ry⟩:=Vals.get2 vm e2
  obtain ⟨p',hp',rp'⟩:=RWs.get' hl hx
  obtain ⟨q',hq',rq'⟩:=RWs.get' hm hy
  have:eqN l m j=peq p' q':=by unfold eqN;rw [hp',hq']
  rw [this]
  exact qDv I n p' q' x y _ _ A.in1 (Nat.le_trans (ze hp') hdl) hin rp' rq' rx ry
 cases p with
 |tup l =>
  have hp0:=hp
  unfold RW at hp
  obtain ⟨a,xs,rfl,h2,h3⟩:=hp
  cases rv
  obtain ⟨its,vl,tl,_⟩:=I.tuple h2
  unfold dep at hu
  cases q with
  |non=>unfold RW at hq;subst hq;cases ru;exact SeqAt.RcNeAt.tuple_none tl hu'
  |bl _=>unfold RW at hq;subst hq;cases ru;exact SeqAt.RcNeAt.tuple_bool _ tl hu'
  |int _=>unfold RW at hq;subst hq;obtain ⟨t,rfl⟩:=ru;exact SeqAt.RcNeAt.tuple_int _ _ tl hu'
  |str _=>unfold RW at hq;subst hq;obtain ⟨t,rfl⟩:=ru;exact SeqAt.RcNeAt.tuple_str _ _ tl hu'
  |lst _=>unfold RW at hq;obtain ⟨a,xs,rfl,h2,_⟩:=hq;cases ru;obtain ⟨its,_,t,_⟩:=I.list h2;exact SeqAt.RcNeAt.tuple_list tl t.isList hu'
  |ref _=>unfold RW at hq;exact hq.elim
  |dct=>unfold RW at hq;exact hq.elim
  |ty _=>unfold RW at hq;exact hq.elim
  |fn _=>unfold RW at hq;exact hq.elim
  |exc _ _=>unfold RW at hq;exact hq.elim
  |tup m =>
   unfold RW at hq
   obtain ⟨a2,ys,rfl,g2,g3⟩:=hq
   cases ru
   obtain ⟨its2,vm,tm,_⟩:=I.tuple g2
   have rc:=SeqAt.RcNeAt.tuples (e:=eqN l m) tl tm hu' (elt (n:=deps l) (by show A.units + 1 + deps l < cLine;omega) (Nat.le_refl _) h3 g3 vl vm)
   have hl1:its.toArray.size=l.length:=by rw [List.size_toArray,← vl.length,h3.length]
   have hl2:its2.toArray.size=m.length:=by rw [List.size_toArray,← vm.length,g3.length]
   rw [hl1,hl2] at rc
   have e:((List.range (min l.length m.length)).all (eqN l m)&&l.length==m.length)=peq (.tup l) (.tup m):=by
    unfold peq
    by_cases hlm:l.length=m.length
    ·rw [← hlm,Nat.min_self,zN l m hlm,beq_self_eq_true,Bool.and_true]
    ·rw [Wg l m hlm,beq_false_of_ne hlm,Bool.and_false]
   rw [e] at rc
   exact rc
 |lst l =>
  have hp0:=hp
  unfold RW at hp
  obtain ⟨a,xs,rfl,h2,h3⟩:=hp
  cases rv
  obtain ⟨its,vl,tl',_⟩:=I.list h2
  have tl:=tl'.isList
  unfold dep at hu
  cases q with
  |non=>unfold RW at hq;subst hq;cases ru;exact SeqAt.RcNeAt.list_none tl hu'
  |bl _=>unfold RW at hq;subst hq;cases ru;exact SeqAt.RcNeAt.list_bool _ tl hu'
  |int _=>unfold RW at hq;subst hq;obtain ⟨t,rfl⟩:=ru;exact SeqAt.RcNeAt.list_int _ _ tl hu'
  |str _=>unfold RW at hq;subst hq;obtain ⟨t,rfl⟩:=ru;exact SeqAt.RcNeAt.list_str _ _ tl hu'
  |tup _=>unfold RW at hq;obtain ⟨a,xs,rfl,h2,_⟩:=hq;cases ru;obtain ⟨its,_,t,_⟩:=I.tuple h2;exact SeqAt.RcNeAt.list_tuple tl t hu'
  |ref _=>unfold RW at hq;exact hq.elim
  |dct=>unfold RW at hq;exact hq.elim
  |ty _=>unfold RW at hq;exact hq.elim
  |fn _=>unfold RW at hq;exact hq.elim
  |exc _ _=>unfold RW at hq;exact hq.elim
  |lst m =>
   unfold RW at hq
   obtain ⟨a2,ys,rfl,g2,g3⟩:=hq
   cases ru
   obtain ⟨its2,vm,tm',_⟩:=I.list g2
   have tm:=tm'.isList
   have hl1:its.toArray.size=l.length:=by rw [List.size_toArray,← vl.length,h3.length]
   have hl2:its2.toArray.size=m.length:=by rw [List.size_toArray,← vm.length,g3.length]
   unfold peq
   by_cases hlm:l.length=m.length
   ·have rc:=SeqAt.RcNeAt.lists (e:=eqN l m) tl tm (by rw [hl1,hl2,hlm]) hu' (elt (n:=deps l) (by show A.units + 1 + deps l < cLine;omega) (Nat.le_refl _) h3 g3 vl vm)
    rw [hl1,zN l m hlm] at rc
    exact rc
   ·rw [Wg l m hlm]
    exact SeqAt.RcNeAt.lists_lengths tl tm (by rw [hl1,hl2];exact bne_iff_ne.mpr hlm) hu'
 |non=>exact wO I _ q rfl hu' hp hq rv ru
 |bl _=>exact wO I _ q rfl hu' hp hq rv ru
 |int _=>exact wO I _ q rfl hu' hp hq rv ru
 |str _=>exact wO I _ q rfl hu' hp hq rv ru
 |ref _=>exact wO I _ q rfl hu' hp hq rv ru
 |dct=>exact wO I _ q rfl hu' hp hq rv ru
 |ty _=>exact wO I _ q rfl hu' hp hq rv ru
 |fn _=>exact wO I _ q rfl hu' hp hq rv ru
 |exc _ _=>exact wO I _ q rfl hu' hp hq rv ru
end
def res (st:qC) (p:PV):PV:=match asL st p with
 |some l => .lst l
 |none=>p
theorem j8 {K:W.Frag} {H:Hp} {b:Bz} {st:qC} {p:PV} {v:V} (S:SR K H b st) (r:RV K H b p v) (h:nr (res st p)=true):RW K H (res st p) v:=by
 unfold res at h ⊢
 cases e:asL st p with
 |none=>rw [e] at h;exact RV.rw p h r
 |some l =>
  rw [e] at h
  obtain ⟨a,xs,rfl,h2,h3⟩:=wQ S r e
  dsimp only at h ⊢
  unfold nr at h
  unfold RW
  exact ⟨a,xs,rfl,h2,RVs.rws l h h3⟩
abbrev qDC:Nat:=60
def qBn (p q:PV):Bool:=nr p&&nr q&&decide (dep p≤qDC)
def gEq:PV->PV->qC->Rs PV:=fun p q st=>if qBn (res st p) (res st q)=true then .ok (.bl (peq (res st p) (res st q))) st else .no
def gNe:PV->PV->qC->Rs PV:=fun p q st=>if qBn (res st p) (res st q)=true then .ok (.bl (!peq (res st p) (res st q))) st else .no
section
variable {X:Cx} {E:XK} {e a c d:Expr} {es:List Expr} {f fa fb fc:FE} {pos:Pos}
def qGX (K:W.Frag) (neg:Bool):R2:=fun u v H Q => ∃ p q,RW K H p u∧RW K H q v∧dep p≤qDC∧Q (.bl (if neg then !peq p q else peq p q)) H
theorem ZX (hr:X.A.units + 64 < cLine):OpR X (compareOp .Eq) (qGX X.K false):=by
 intro pins s σ H x y v u Q I rx ry h
 obtain ⟨p,q,hp,hq,hd,h⟩:=h
 exact qJ8 I p q (by have:dep p≤60:=hd;omega) hp hq rx ry _ _ _ _ ⟨.bl _,H,I,rfl,h⟩
theorem zP (hr:X.A.units + 64 < cLine):OpR X (compareOp .NotEq) (qGX X.K true):=by
 intro pins s σ H x y v u Q I rx ry h
 obtain ⟨p,q,hp,hq,hd,h⟩:=h
 exact qKK I p q (by have:dep p≤60:=hd;omega) hp hq rx ry _ _ _ _ ⟨.bl _,H,I,rfl,h⟩
theorem qAd {p q:PV} (h:qBn p q=true):nr p=true∧nr q=true∧dep p≤qDC:=by
 unfold qBn at h
 rw [Bool.and_eq_true,Bool.and_eq_true] at h
 exact ⟨h.1.1,h.1.2,of_decide_eq_true h.2⟩
theorem yr:OpG X E (qGX X.K false) gEq:=by
 intro H b st p q u v Q S rp rq P
 unfold gEq at P
 split at P
 ·rename_i h
  obtain ⟨h1,h2,h3⟩:=qAd h
  exact ⟨_,_,j8 S rp h1,j8 S rq h2,h3,PostE.here P S zZ⟩
 ·exact P.elim
theorem Zr:OpG X E (qGX X.K true) gNe:=by
 intro H b st p q u v Q S rp rq P
 unfold gNe at P
 split at P
 ·rename_i h
  obtain ⟨h1,h2,h3⟩:=qAd h
  exact ⟨_,_,j8 S rp h1,j8 S rq h2,h3,PostE.here P S zZ⟩
 ·exact P.elim
theorem qDp (hr:X.A.units + 64 < cLine) (ha:VE X E a fa) (hb:VE X E c fb):VE X E (.Compare a [.Eq] [c] pos) (qH gEq fa fb):=qH1 (ZX hr) yr ha hb
end
end EV
end
section
namespace EV
open PySem PySem.Spec PyProof.Rows L2 EX
section
variable {X:Cx} {E:XK} {e a c d:Expr} {es:List Expr} {f fa fb fc:FE} {pos:Pos} {F G:FS}
def ya (C:Addr) (t:FA):FS:=fun r st=>match t r st with
 | .ok ps s=>if ps.length≤sizeLine then .ex ⟨C,[]⟩ s else .no
 | .ex x s => .ex x s
 | .no => .no
theorem qAK {x:Str} {C:Addr} {t:FA} {np cpos:Pos} (hz:Rz X E) (hc:X.calm=true) (hg:Gl X x) (hm:X.mg x=some (.ref C)) (q:PySem.W.excIn X.K C bmV "ValueError.__new__" = true) (ha:VA X E (e::es) t) (hdb:(x==("__debug__":Str))=false:=by decide)
  (he:starEach (e::es) X.env=(false,eval e X.env)::starEach es X.env:=by rfl) (hpl:(backTo cpos (starEach es X.env)).any (·.1)=false:=by rfl):VS X E (.Raise (some (.Call (.Name x np) (e::es) [] cpos)) none pos) (ya C t) :=
 PS.imp (qEP hz hc hg hm q ha hdb he hpl) fun D s H ⟨b,r,st,S,R,P⟩=>⟨b,r,st,S,R,by
  unfold ya at P
  cases ef:t r st with
  |no=>rw [ef] at P;exact P.elim
  |ex x s1=>rw [ef] at P;exact P
  |ok ps s1 =>
   rw [ef] at P
   dsimp only at P
   by_cases hl:ps.length≤sizeLine
   ·rw [if_pos hl] at P
    exact fun vs H' b' e' S' r'=>⟨by rw [← r'.length];exact hl,P (.ref C) none H' b' e' S' ⟨rfl,.inl ⟨rfl,rfl⟩⟩⟩
   ·rw [if_neg hl] at P;exact P.elim⟩
theorem REnv.lose {K:W.Frag} {H:Hp} {b:Bz} {r:qf} {s:L2.St} (h:REnv K H b r s) (i:Nat):REnv K H b (r.set i none) (s.set i none):=by
 refine ⟨by simp [h.1],fun j q hq => ?_⟩
 by_cases hj:i=j
 ·subst hj
  by_cases hl:i < r.length
  ·rw [List.getElem?_set_self hl] at hq;cases hq
  ·rw [List.getElem?_eq_none (by simpa using hl)] at hq;cases hq
 ·rw [List.getElem?_set_ne hj] at hq ⊢
  exact h.2 j q hq
def Jq (i n:Nat) (cs:List Addr) (Fb Fh:FS):FS:=fun r st=>match Fb r st with
 | .ex x s=>if x.cls∈cs then (match Fh ((List.replicate n none).set i (some (.exc x.cls x.fs))) s with
  | .nx r' s' => .nx (r'.set i none) s'
  | .bk r' s' => .bk (r'.set i none) s'
  | .ct r' s' => .ct (r'.set i none) s'
  | .rt v s' => .rt v s'
  | .ex _ _ => .no
  | .no => .no) else .no
 |o=>o
theorem qHv {x n:Str} {Bx:Addr} {dd:Option Addr} {cd:ClassData} {sl:Array (Option Value)} {body:List Stmt} {b0:Stmt} {suite:List Stmt} {np hpos:Pos} {cs:List Addr} {Fb Fh:FS} (i:Nat) (FX:FrameX X) (hc:X.calm=true) (hN:X.N.Nodup)
  (hg:Gl X x) (hm:X.mg x=some (.ref Bx)) (o1:X.K.lookup Bx=some ⟨.type "type",dd,.cls cd,sl⟩) (m1:PySem.W.mroIn X.K Bx (.type "BaseException")=some true) (hcs:∀ C∈cs,PySem.W.mroIn X.K C (.ref Bx)=some true)
  (hb:∀ (pins:List (Addr×Obj)) (xe:Value->Shared->Prop) (E':XK),zX (CXF X.prog X.w) (Jb X pins xe) E'->VSs (Jb X pins xe) E' body Fb) (hh:∀ ea,VSs (suX X ea) E0 (b0::suite) Fh)
  (hi:X.N[i]? = some n:=by rfl) (hl:X.env.scope.names.lookup n=some .local:=by rfl) (hdb:(x==("__debug__":Str))=false:=by decide) :
  VS X E (.Try body [.ExceptHandler (some (.Name x np)) (some n) (b0::suite) hpos] [] [] pos) (Jq i X.N.length cs Fb Fh):=by
 refine PS.imp (qId (ok:=fun v => ∃ C∈cs,v = .ref C) (tb:=fun E'=>rdS X.K E' Fb) (th:=rdS X.K E0 Fh) FX hc hN hi hl hg hm o1 m1 (fun v ⟨C,hC,e⟩=>⟨C,e,hcs C hC⟩) hb hh hdb) fun D σ H ⟨b,r,st,S,R,P⟩=>⟨b,r,st,S,R,?_⟩
 unfold Jq at P
 cases eb:Fb r st with
 |nx r' s'=>rw [eb] at P;exact P
 |rt r' s'=>rw [eb] at P;exact P
 |bk r' s'=>rw [eb] at P;exact P
 |ct r' s'=>rw [eb] at P;exact P
 |no=>rw [eb] at P;exact P
 |ex x s1 =>
  rw [eb] at P
  dsimp only at P
  by_cases hx:x.cls∈cs
  ·rw [if_pos hx] at P
   intro c d H' b' e' S' rx
   obtain ⟨rc,rf⟩:=rx
   refine ⟨⟨x.cls,hx,rc⟩,fun σ' ea oe hlen hn hcls hdict hdata=>⟨b',(List.replicate X.N.length none).set i (some (.exc x.cls x.fs)),s1,S'.new hn,⟨by simp [hlen],fun j p hp => ?_⟩,?_⟩⟩
   ·by_cases hj:i=j
    ·subst hj
     have hl':i < X.N.length:=(List.getElem?_eq_some_iff.mp hi).1
     rw [List.getElem?_set_self (by simpa using hl')] at hp
     cases hp
     refine ⟨.ref ea,by rw [List.getElem?_set_self (by rw [hlen];exact hl')],?_⟩
     unfold RV
     refine ⟨ea,oe,_,rfl,qd,S'.new_notin hn,hcls.trans rc,hdata,rf.imp (fun q=>⟨q.1,hdict.trans q.2⟩) fun ⟨a,q1,q2,q3⟩=>⟨a,hdict.trans q1,by rw [qL (qM q2 hn)];exact q2,q3⟩⟩
    ·rw [List.getElem?_set_ne hj,List.getElem?_replicate] at hp
     split at hp <;> cases hp
   ·have P2:=PostS.ext P (e'.trans (Ext.new (o := .frz oe qE7) hn))
    cases eh:Fh ((List.replicate X.N.length none).set i (some (.exc x.cls x.fs))) s1 with
    |nx r' s'=>rw [eh] at P2;exact fun s2 H2 b2 e2 S2 R2=>P2 _ H2 b2 e2 S2 (R2.lose i)
    |bk r' s'=>rw [eh] at P2;exact fun s2 H2 b2 e2 S2 R2=>P2 _ H2 b2 e2 S2 (R2.lose i)
    |ct r' s'=>rw [eh] at P2;exact fun s2 H2 b2 e2 S2 R2=>P2 _ H2 b2 e2 S2 (R2.lose i)
    |rt v s'=>rw [eh] at P2;exact P2
    |ex y s'=>rw [eh] at P2;exact P2.elim
    |no=>rw [eh] at P2;exact P2.elim
  ·rw [if_neg hx] at P;exact P.elim
def tyP:PV->Option Value
 | .non=>some (.type "NoneType")
 | .bl _=>some (.type "bool")
 | .int _=>some (.type "int")
 | .str _=>some (.type "str")
 | .tup _=>some (.type "tuple")
 | .lst _=>some (.type "list")
 | .ref _=>some (.type "list")
 | .dct=>some (.type "dict")
 | .exc c _=>some (.ref c)
 |_=>none
def clP:PV->Option Value
 | .ty n=>some (.type n)
 | .fn a=>some (.ref a)
 |_=>none
def qCz (kit:Value->Value->Option Bool) (p c:PV):Option Bool:=match tyP p,clP c with
 |some t,some c=>kit t c
 |_,_=>none
def qAq (kit:Value->Value->Option Bool) (p:PV):List PV->Option Bool
 |[]=>some false
 |c::r=>match qCz kit p c with
  |some true=>some true
  |some false=>qAq kit p r
  |none=>none
def qKA (kit:Value->Value->Option Bool) (p:PV):PV->Option Bool
 | .tup cs=>if (tyP p).isSome then qAq kit p cs else none
 |c=>qCz kit p c
structure KitOk (K:W.Frag) (kit:Value->Value->Option Bool):Prop where
 one:∀ t c b,kit t c=some b->PySem.W.kitOne K t c=some b
 exc:∀ a c b,kit (.ref a) c=some b->ExcK K a
end
end EV
end
section
namespace EX
open PySem PySem.Spec PyProof.Rows L2
theorem JP {X:Cx} {pins:List (Addr×Obj)} {σ:L2.St} {H:Hp} {s:Shared} (I:L2.Inv X pins σ H s) {fp:List Addr} (hf:∀ b∈fp,ZQ X pins H b) {h':Heap} {t':Nat} {x y:V} {u v:Value} (rx:RelV x u) (ry:RelV y v)
  (k:∀ b o,b ∉ fp->s.heap.get? b=some o->h'.get? b=some o) (kf:∀ b∈fp,∃ o,h'.get? b=some o) (hT:IsPair h' s.heap.objs.size u v):L2.Inv X pins σ (upd H s.heap.objs.size (.tup [x,y])) { s with heap:=h',toks:=t' }:=by
 have hn:H s.heap.objs.size=none:=I.hok.fresh (Nat.le_refl _)
 have nt:∀ b o,s.heap.get? b=some o->b≠s.heap.objs.size:=fun b o e=>Nat.ne_of_lt (Heap.lt_size e)
 have nf:∀ b u,H b=some u->b ∉ fp:=fun b u e z=>by rw [(hf b z).1] at e;cases e
 have un:Un (frs X.stack) fp H (upd H s.heap.objs.size (.tup [x,y])) s.heap h' :=
  ⟨fun b o e _ _ hb=>k b o hb e,fun b o e _ _ hb=>⟨o.slots,k b o hb e⟩,fun b o e n _=>by rw [qL (nt b o e)];exact n,fun b o e hb=>⟨o,k b o hb e⟩,fun b xs e=>by rw [qL (qM e hn)];exact e,fun b o u e=>by rw [qL (qM e hn)];exact e,fun b ps e=>⟨#[],by rw [qL (qM e hn),e];simp⟩⟩
 refine I.call (g':=s.gens) (d':=s.drawn) (t':=t') (ch:=fp) un (fun b u' e => ?_) I.bare fun b hb=>⟨(hf b hb).2.2.2.1,(hf b hb).2.1,(hf b hb).2.2.2.2.1,(hf b hb).2.2.2.2.2⟩
 by_cases hb:b=s.heap.objs.size
 ·subst hb
  rw [qd] at e;cases e
  exact ⟨by show 2≤sizeLine;decide,[u,v],.cons rx (.cons ry .nil),_,hT,rfl,0,rfl⟩
 ·rw [qL hb] at e
  refine (I.hok b u' e).stay (fun c w hc q=>k c w ?_ q) (fun c q=>by rw [qL (qM q hn)];exact q) fun c xs q=>by rw [qL (qM q hn)];exact q
  rcases hc with rfl |hc
  ·exact nf _ _ e
  ·exact nf _ _ hc
section
variable {X:Cx}
def qJx (K:W.Frag):R2:=fun x y H Q => ∃ l b xs zs,x = .ref l∧y = .ref b∧SqL K H l xs∧SqL K H b zs∧xs.length + zs.length≤sizeLine ∧ ∀ p,H p=none->Q (.ref p) (upd H p (.lst (xs++zs)))
theorem qGo:OpR X (binaryOp .Add) (qJx X.K):=by
 intro pins s σ H x y v u Q I rx ry h
 obtain ⟨l,b,xs,zs,rfl,rfl,h1,h2,hz,q⟩:=h
 cases rx
 cases ry
 obtain ⟨us,r1,p1,_⟩:=I.list h1
 obtain ⟨ws,r2,p2,_⟩:=I.list h2
 obtain ⟨⟨c1,d1,a1,s1⟩,o1,e1,m1,f1⟩:=id p1.isList
 obtain ⟨⟨c2,d2,a2,s2⟩,o2,e2,m2,f2⟩:=id p2.isList
 have e1:c1=_:=e1
 have e2:c2=_:=e2
 have f1:a1=_:=f1
 have f2:a2=_:=f2
 subst e1;subst e2;subst f1;subst f2
 have z:us.length + ws.length≤sizeLine:=by rw [← r1.length,← r2.length];exact hz
 refine concat_meets ⟨_,o1,rfl⟩ ⟨_,o2,rfl⟩ noFill_list_add seq_list_add F.slot_list_add F.entry_list_add (F.args_list_add_2 _ _) (list_addW l b us.toArray ws.toArray m1 m2 d1 d2 s1 s2 (by simpa using z)) ⟨o1,o2,?_⟩
 rw [show us.toArray++ws.toArray=(us++ws).toArray by simp]
 exact ⟨.ref _,_,I.lnew (t':=s.toks) (r1.append r2) (by rw [List.length_append];exact hz),rfl,q _ I.fresh⟩
def qJo (K:W.Frag):R2:=fun x y H Q => ∃ a b xs ys,x = .ref a∧y = .ref b∧SqT K H a xs∧SqT K H b ys∧xs.length + ys.length≤sizeLine ∧
 (xs=[]->Q (.ref b) H)∧(xs≠[]->ys=[]->Q (.ref a) H)∧(xs≠[]->ys≠[] -> ∀ p,H p=none->Q (.ref p) (upd H p (.tup (xs++ys))))
theorem qEN:OpR X (binaryOp .Add) (qJo X.K):=by
 intro pins s σ H x y v u Q I rx ry h
 obtain ⟨a,b,xs,ys,rfl,rfl,ha,hb,hz,q0,q1,q2⟩:=h
 by_cases hx:xs=[]
 ·cases rx
  cases ry
  obtain ⟨us,r1,p1,_⟩:=I.tuple ha
  obtain ⟨ws,r2,p2,_⟩:=I.tuple hb
  obtain ⟨⟨c1,d1,a1,s1⟩,o1,e1,m1,f1⟩:=id p1
  obtain ⟨⟨c2,d2,a2,s2⟩,o2,e2,m2,f2⟩:=id p2
  have e1:c1=_:=e1
  have e2:c2=_:=e2
  have f1:a1=_:=f1
  have f2:a2=_:=f2
  subst e1;subst e2;subst f1;subst f2
  exact concat_meets ⟨_,o1,rfl⟩ ⟨_,o2,rfl⟩ noFill_tuple_add seq_tuple_add F.slot_tuple_add F.entry_tuple_add (F.args_tuple_add_2 _ _) (tuple_addW0 a b us.toArray ws.toArray m1 m2 d1 d2 s1 s2 (by simp [r1.nil_iff.mpr hx])) ⟨o1,o2,.ref b,H,I,rfl,q0 hx⟩
 ·exact qFr pins s σ H _ _ v u Q I rx ry ⟨a,b,xs,ys,rfl,rfl,ha,hb,hx,hz,q1 hx,q2 hx⟩
def qKz (K:W.Frag):V->Option Int->Option Int->Hp->VK->Prop:=fun x lo hi H Q => ∃ a xs,x = .ref a∧SqT K H a xs∧HT.sIx xs.length 0 lo=0∧HT.sIx xs.length xs.length hi=xs.length∧Q (.ref a) H
theorem qD5:SlR X (qKz X.K):=by
 intro pins s σ H x v vl vu lo hi sl Q I rx hs pl pu h
 obtain ⟨a,xs,rfl,hx,w1,w2,q⟩:=h
 cases rx
 obtain ⟨its,r,ht,hz⟩:=I.tuple hx
 have hlen:its.toArray.size=xs.length:=by rw [List.size_toArray];exact r.length.symm
 refine ⟨"tuple",_,PyProof.Rows.slot_tuple_getitem.lookup,ht.typeIs,?_⟩
 obtain ⟨os,hos,hcs,hds⟩:=id hs
 have hTs:s.TypeIs (.ref sl) "slice" := ⟨os,hos,hcs⟩
 unfold getItem
 try with_reducible refine wpAny_holding ?_
 first |refine wpAny_bind (wpAny_pure ?_) |skip
 refine wpAny_bind (wpAny_sequenceKey ht.typeIs (by decide) ?_)
 refine wpAny_bind (wpAny_callSpecial?_slot (name:=Str.ofString "__getitem__") ht.typeIs PyProof.Rows.slot_tuple_getitem (wpAny_call_entry PyProof.Rows.slot_tuple_getitem ht.typeIs PyProof.Rows.entry_tuple_getitem ?_ (PyProof.Rows.args_tuple_getitem _ _)))
 show wpAny _ _ (Builtin.Tuple.tupleItemsOf (.ref a) >>= _) _ _ s
 refine wpAny_bind (tupleItemsOf_ ht ?_)
 refine wpAny_bind (wpAny_typeOf hTs ?_)
 rw [if_pos (by decide)]
 refine wpAny_bind (HT.sliceApplied_gen hs pl pu ?_)
 rw [hlen,w1,w2]
 dsimp only
 rw [if_pos (show ((((0:Nat):Int)==0&&(1:Int)==1&&xs.length - 0==xs.length)=true) by simp)]
 unfold Builtin.Tuple.tupleIsExact
 refine wpAny_bind (wpAny_bind (wpAny_typeOf ht.typeIs (wpAny_pure ?_)))
 rw [if_pos (by simp)]
 exact wpAny_bind (wpAny_rule (wpAny_pure ⟨_,rfl,wpAny_pure ⟨.ref a,H,I,rfl,q⟩⟩))
def PJ (X:Cx) (es:List Expr) (t:Str->L2.St->Hp->(Str->Hp->Prop)->Prop):Prop := ∀ (out:Str) (pins:List (Addr×Obj)) (s:Shared) (σ:L2.St) (H:Hp) (Q:Str->Hp->Prop),L2.Inv X pins σ H s->t out σ H Q ->
 wpAny (model X.prog X.w) X.A (joinParts out (evalEach es X.env)) (fun u s' => ∃ x H',L2.Inv X pins σ H' s'∧(∃ t,u = .str x t)∧Q x H') X.xe s
theorem qHY:PJ X [] (fun out _ H Q=>out.length≤sizeLine∧Q out H):=fun out pins s σ H Q I h=>joinParts_nil ⟨out,H,I.tok _,⟨_,rfl⟩,h.2⟩ h.1
theorem qG7 {e:Expr} {es:List Expr} {te:TE} {t:Str->L2.St->Hp->(Str->Hp->Prop)->Prop} (h1:PE X e te) (h2:PJ X es t):PJ X (e::es) (fun out σ H Q=>te σ H fun v H1 => ∃ y,v = .str y∧(out++y).length≤sizeLine∧t (out++y) σ H1 Q) :=
 fun out pins s σ H Q I h=>joinParts_cons (thn (h1 pins s σ H _ I h) fun u s1 ⟨v,H1,I1,r1,y,e,z,q⟩=>by
  subst e
  obtain ⟨t',rfl⟩:=r1
  exact ⟨z,h2 (out++y) pins s1 σ H1 Q I1 q⟩)
theorem qIY {e:Expr} {te:TE} {pos:Pos} (h:PE X e te):PE X (.FormattedValue e (-1) none pos) (fun σ H Q=>te σ H fun v H1 => ∃ i,v = .int i∧i.natAbs.log2 < 1920∧Q (.str (toString i)) H1) :=
 fun pins s σ H Q I q=>FormattedValue_plain (thn (h pins s σ H _ I q) fun u s1 ⟨v,H1,I1,r1,i,e,z,q⟩=>by
  subst e
  obtain ⟨t',rfl⟩:=r1
  exact wpAny_formatField_int z ⟨.str _,H1,I1.tok _,⟨_,rfl⟩,q⟩)
theorem qGJ {e1 e2:Expr} {es:List Expr} {t:Str->L2.St->Hp->(Str->Hp->Prop)->Prop} {pos:Pos} (h:PJ X (e1::e2::es) t):PE X (.JoinedStr (e1::e2::es) pos) (fun σ H Q=>t Str.empty σ H fun x H1=>Q (.str x) H1) :=
 fun pins s σ H Q I q=>JoinedStr_many (thn (h Str.empty pins s σ H _ I q) fun u s1 ⟨x,H1,I1,r1,q1⟩=>⟨.str x,H1,I1,r1,q1⟩)
end
end EX
end
section
namespace EV
open PySem PySem.Spec PyProof.Rows L2 EX
section
variable {X:Cx} {E:XK} {e a c d:Expr} {es:List Expr} {f fa fb fc:FE} {pos:Pos} {F G:FS}
theorem Wr {x:Str} {n:String} {pos:Pos} (hg:Gl X x) (hm:X.mg x=none) (hv:bootBuiltins x=some (.type n)) (hn:x ≠ "__name__" := by decide) (hd:(x==("__debug__":Str))=false:=by decide):VE X E (.Name x pos) (vC (.ty n)) :=
 qBF (qGs (v := .ty n) hg hm hv rfl hn hd) fun _ _=>by unfold RV;rfl
theorem zc {x:Str} {a:Addr} {pos:Pos} (hg:Gl X x) (hm:X.mg x=some (.ref a)) (hd:(x==("__debug__":Str))=false:=by decide):VE X E (.Name x pos) (vC (.fn a)) :=
 qBF (qB7 (v := .ref a) hg hm rfl hd) fun _ _=>by unfold RV;rfl
def lk (st:qC):PV->Bool
 | .ref i=>match st[i]? with
  |some (.l _)=>true
  |_=>false
 |_=>true
theorem qES {kit:Value->Value->Option Bool} (hk:KitOk X.K kit) {pins:List (Addr×Obj)} {σ:L2.St} {H:Hp} {s:Shared} (I:L2.Inv X pins σ H s) {b:Bz} {st:qC} (S:SR X.K H b st) {p:PV} {v:V} {u t:Value} (r:RV X.K H b p v) (ru:RelV v u) (ht:tyP p=some t) (hlk:lk st p=true) (hx:∀ a,t = .ref a->ExcK X.K a) :
  ∃ Hh,PySem.W.KitX X.K u t Hh∧Hh s.heap∧u ≠ .builtin "__main__.__loader__#opaque" := by
 cases p with
 |non=>unfold RV at r;subst r;cases ht;cases (show u=Value.none from ru);exact ⟨_,PySem.W.kitx_none,trivial,fun z=>nomatch z⟩
 |bl x=>unfold RV at r;subst r;cases ht;cases (show u=Value.bool x from ru);exact ⟨_,PySem.W.kitx_bool,trivial,fun z=>nomatch z⟩
 |int x=>unfold RV at r;subst r;cases ht;obtain ⟨t,rfl⟩:=(show ∃ t,u=Value.int x t from ru);exact ⟨_,PySem.W.kitx_int,trivial,fun z=>nomatch z⟩
 |str x=>unfold RV at r;subst r;cases ht;obtain ⟨t,rfl⟩:=(show ∃ t,u=Value.str x t from ru);exact ⟨_,PySem.W.kitx_str,trivial,fun z=>nomatch z⟩
 |tup l =>
  unfold RV at r
  obtain ⟨a,xs,rfl,h2,h3⟩:=r
  cases ht
  cases (show u=Value.ref a from ru)
  obtain ⟨its,_,⟨o,h4,h5,_⟩,_⟩:=I.tuple h2.sq
  exact ⟨_,PySem.W.kitx_tuple,⟨o,h4,h5⟩,fun z=>nomatch z⟩
 |lst l =>
  unfold RV at r
  obtain ⟨a,xs,rfl,h2,h3⟩:=r
  cases ht
  cases (show u=Value.ref a from ru)
  obtain ⟨its,_,⟨o,n,h4,h5,_⟩,_⟩:=I.list h2.sq
  exact ⟨_,PySem.W.kitx_list,⟨o,h4,h5⟩,fun z=>nomatch z⟩
 |ref i =>
  unfold RV at r
  obtain ⟨a,rfl,h2⟩:=r
  cases ht
  cases (show u=Value.ref a from ru)
  have hl:i < st.length:=by rw [← S.len];exact (List.getElem?_eq_some_iff.mp h2).1
  obtain ⟨a',o,h3,h4,h5⟩:=S.at_ i _ (List.getElem?_eq_getElem hl)
  rw [h2] at h3;cases h3
  have hq:∃ vs,o = .lst vs:=by
   cases hx:st[i] with
   |l xs=>rw [hx] at h5;obtain ⟨vs,e,_⟩:=h5;exact ⟨vs,e⟩
   |z xs=>unfold lk at hlk;dsimp only at hlk;rw [List.getElem?_eq_getElem hl,hx] at hlk;cases hlk
   |d xs=>unfold lk at hlk;dsimp only at hlk;rw [List.getElem?_eq_getElem hl,hx] at hlk;cases hlk
  obtain ⟨vs,rfl⟩:=hq
  obtain ⟨its,_,⟨o,n,h6,h7,_⟩,_⟩:=I.list (SqL.of h4)
  exact ⟨_,PySem.W.kitx_list,⟨o,h6,h7⟩,fun z=>nomatch z⟩
 |dct =>
  unfold RV at r
  obtain ⟨a,rfl,h2,h3⟩:=r
  cases ht
  cases (show u=Value.ref a from ru)
  obtain ⟨_,_,vs,_,o,_,_,h4,h5,_⟩:=(show ObjOk X.prog X.w H s.heap a (.dK []) from I.hok a _ h2)
  exact ⟨_,PySem.W.kitx_dict,⟨o,h4,h5.1⟩,fun z=>nomatch z⟩
 |exc c fs =>
  unfold RV at r
  obtain ⟨a,o,w,rfl,h2,h3,h4,⟨vs,h6⟩,h5⟩:=r
  cases ht
  cases (show u=Value.ref a from ru)
  have ho:s.heap.get? a=some o:=(I.hok a _ h2).1
  have hn:PySem.W.notCls o=true:=by
   obtain ⟨c',d',dt,sl⟩:=o
   have h6:dt=_:=h6
   subst h6;rfl
  refine ⟨_,qFW (hx c rfl),?_,fun z=>nomatch z⟩
  rcases h5 with ⟨_,h5⟩ |⟨d,h5,h7,h8⟩
  ·exact ⟨o,none,ho,h4,hn,by rw [h5];trivial⟩
  ·obtain ⟨od,h9⟩:=got (I.hok d _ h7)
   exact ⟨o,some od,ho,h4,hn,by rw [h5];exact h9⟩
 |ty n=>cases ht
 |fn n=>cases ht
theorem qHE {K:W.Frag} {H:Hp} {b:Bz} {c:PV} {v:V} {u t:Value} (r:RV K H b c v) (ru:RelV v u) (ht:clP c=some t):u=t:=by
 cases c with
 |ty n=>unfold RV at r;subst r;cases ht;exact ru
 |fn a=>unfold RV at r;subst r;cases ht;exact ru
 |_=>cases ht
theorem Jk {kit:Value->Value->Option Bool} (hk:KitOk X.K kit) {H:Hp} {b:Bz} {p:PV} {t:Value} (ht:tyP p=some t):∀ {cs:List PV} {xs:List V} {us:List Value} {k:Bool},RVs X.K H b cs xs->Vals xs us->qAq kit p cs=some k->PySem.W.kitAny X.K t us=some k
 |[],_,_,k,h,r,e=>by
  unfold RVs at h;subst h;cases r;exact e
 |c::cs,_,_,k,h,r,e=>by
  unfold RVs at h
  obtain ⟨x,xs,rfl,h1,h2⟩:=h
  cases r with
  | @cons _ u _ us r1 r2 =>
   unfold qAq qCz at e
   rw [ht] at e
   cases hc:clP c with
   |none=>rw [hc] at e;cases e
   |some c' =>
    rw [hc] at e
    have eu:=qHE h1 r1 hc
    subst eu
    dsimp only at e
    unfold PySem.W.kitAny
    cases q:kit t u with
    |none=>rw [q] at e;cases e
    |some bb =>
     rw [q] at e
     rw [hk.one _ _ _ q]
     cases bb with
     |true=>exact e
     |false=>exact Jk hk ht h2 r2 e
theorem qFF {kit:Value->Value->Option Bool} (hk:KitOk X.K kit) {p:PV} {t:Value} (ht:tyP p=some t):∀ {cs:List PV} {k:Bool},cs≠[]->qAq kit p cs=some k -> ∀ a,t = .ref a->ExcK X.K a
 |[],_,h,_,_,_=>absurd rfl h
 |c::cs,k,_,e,a,ha=>by
  unfold qAq qCz at e
  rw [ht] at e
  cases hc:clP c with
  |none=>rw [hc] at e;cases e
  |some c' =>
   rw [hc] at e
   dsimp only at e
   cases q:kit t c' with
   |none=>rw [q] at e;cases e
   |some bb=>subst ha;exact hk.exc _ _ _ q
theorem qFJ {kit:Value->Value->Option Bool} (hk:KitOk X.K kit):Ws X (.builtin "isinstance") (fun vs H Q => ∃ b st p c k,SR X.K H b st∧RVs X.K H b [p,c] vs∧(∀ cs,c = .tup cs->cs≠[])∧lk st p=true∧qKA kit p c=some k∧Q (.bl k) H):=by
 intro pins s σ H xs us Q I r h
 obtain ⟨b,st,p,c,k,S,rs,hne,hlk,e,q⟩:=h
 obtain ⟨x,y,rfl,r1,r2⟩:=RVs.two rs
 obtain ⟨u,v,rfl,ru,rv⟩:=qCN r
 by_cases hc:∃ cs,c = .tup cs
 ·obtain ⟨cs,rfl⟩:=hc
  have e:(if (tyP p).isSome then qAq kit p cs else none)=some k:=e
  cases ht:tyP p with
  |none=>rw [ht] at e;cases e
  |some t =>
   rw [ht] at e
   have e:qAq kit p cs=some k:=e
   obtain ⟨Hh,Z,hh,hx⟩:=qES hk I S r1 ru ht hlk (qFF hk ht (hne cs rfl) e)
   unfold RV at r2
   obtain ⟨a,ys,rfl,h2,h3⟩:=r2
   cases (show v=Value.ref a from rv)
   obtain ⟨its,r',⟨o,h4,h5,n,h6⟩,_⟩:=I.tuple h2.sq
   obtain ⟨c1,d1,dt,sl⟩:=o
   have h5:c1=_:=h5
   have h6:dt=_:=h6
   subst h5;subst h6
   exact PySem.W.kia_tup Z I.kIn hh h4 (Jk hk ht h3 r' e) hx fun tk=>⟨.bl k,H,I.tok _,rfl,q⟩
 ·have e:qCz kit p c=some k:=by
   cases c <;> first |exact e |exact (hc ⟨_,rfl⟩).elim
  unfold qCz at e
  cases ht:tyP p with
  |none=>rw [ht] at e;cases e
  |some t =>
   cases hc2:clP c with
   |none=>rw [ht,hc2] at e;cases e
   |some c' =>
    rw [ht,hc2] at e
    have eu:=qHE r2 rv hc2
    subst eu
    obtain ⟨Hh,Z,hh,hx⟩:=qES hk I S r1 ru ht hlk (fun a ha=>by subst ha;exact hk.exc _ _ _ e)
    exact PySem.W.kia_one Z I.kIn hh (hk.one _ _ _ e) hx fun tk=>⟨.bl k,H,I.tok _,rfl,q⟩
def Qf (kit:Value->Value->Option Bool):List PV->qC->Rs PV:=fun ps st=>match ps with
 |[p,c]=>match c with
  | .tup [] => .no
  |c=>match qKA kit p c with
   |some b=>if lk st p=true then .ok (.bl b) st else .no
   |none => .no
 |_ => .no
theorem QL {kit:Value->Value->Option Bool} {ta:FA} {p:Pos} (hk:KitOk X.K kit) (hm:X.mg "isinstance" = none) (ha:VA X E (e::es) ta) (hg:Gl X "isinstance" := by rfl)
  (he:starEach (e::es) X.env=(false,eval e X.env)::starEach es X.env:=by rfl) (hpl:(backTo pos (starEach es X.env)).any (·.1)=false:=by rfl):VE X E (.Call (.Name "isinstance" p) (e::es) [] pos) (qJ (Qf kit) ta) :=
 WR (qFJ hk) (fun H b st ps vs Q S r P=>by
  unfold Qf at P
  split at P
  ·rename_i p c
   split at P
   ·exact P.elim
   ·rename_i hc
    split at P
    ·rename_i k hk'
     split at P
     ·rename_i hlk
      exact ⟨b,st,p,c,k,S,r,fun cs e z=>by subst e;subst z;exact hc rfl,hlk,hk',PostE.here P S zZ⟩
     ·exact P.elim
    ·exact P.elim
  ·exact P.elim) hg hm PyProof.Rows.boot_isinstance ha (he:=he) (hpl:=hpl)
end
def pbl:PV->Option Bool
 | .bl b=>some b
 |_=>none
def yn:PV->Option Int
 | .int i=>some i
 |_=>none
def wx {α:Type} (f:PV->Option α):List PV->Option (List α)
 |[]=>some []
 |p::ps=>match f p with
  |some a=>match wx f ps with
   |some r=>some (a::r)
   |none=>none
  |none=>none
section
variable {X:Cx} {E:XK} {e a c d:Expr} {es:List Expr} {f fa fb fc:FE} {pos:Pos} {F G:FS}
theorem qDi {K:W.Frag} {H:Hp} {b:Bz}:∀ {l:List PV} {xs:List V} {bs:List Bool},RVs K H b l xs->wx pbl l=some bs->xs=bs.map V.bl
 |[],_,_,h,e=>by unfold RVs at h;subst h;cases e;rfl
 |p::ps,_,bs,h,e=>by
  unfold RVs at h
  obtain ⟨x,r,rfl,h1,h2⟩:=h
  unfold wx at e
  cases p with
  |bl k =>
   unfold RV at h1;subst h1
   cases q:wx pbl ps with
   |none=>rw [q] at e;cases e
   |some r'=>rw [q] at e;cases e;rw [qDi h2 q];rfl
  |_=>cases e
theorem yb {K:W.Frag} {H:Hp} {b:Bz}:∀ {l:List PV} {xs:List V} {bs:List Int},RVs K H b l xs->wx yn l=some bs->xs=bs.map V.int
 |[],_,_,h,e=>by unfold RVs at h;subst h;cases e;rfl
 |p::ps,_,bs,h,e=>by
  unfold RVs at h
  obtain ⟨x,r,rfl,h1,h2⟩:=h
  unfold wx at e
  cases p with
  |int k =>
   unfold RV at h1;subst h1
   cases q:wx yn ps with
   |none=>rw [q] at e;cases e
   |some r'=>rw [q] at e;cases e;rw [yb h2 q];rfl
  |_=>cases e
def yj {α:Type} (k:PV->Option α) (g:List α->PV):List PV->qC->Rs PV:=fun ps st=>match ps with
 |[p]=>match asL st p with
  |some l=>match wx k l with
   |some r => .ok (g r) st
   |none => .no
  |none => .no
 |_ => .no
def jy:=yj pbl fun bs => .bl (bs.all id)
def Yr:=yj yn fun ns => .int ns.sum
theorem qJd:ZJ X E (fun xs H Q => ∃ (p:Addr) (bs:List Bool),xs=[.ref p]∧SqL X.K H p (bs.map V.bl)∧Q (.bl (bs.all id)) H) jy:=by
 intro H b st ps vs Q S r P
 unfold jy yj at P
 split at P
 ·obtain ⟨v,rfl,r1⟩:=RVs.one r
  split at P
  ·rename_i l e
   split at P
   ·rename_i bs eb
    obtain ⟨a,xs,rfl,h2,h3⟩:=wQ S r1 e
    rw [qDi h3 eb] at h2
    exact ⟨a,bs,rfl,h2,PostE.here P S zZ⟩
   ·exact P.elim
  ·exact P.elim
 ·exact P.elim
theorem qIm:ZJ X E (fun xs H Q => ∃ (p:Addr) (ns:List Int),xs=[.ref p]∧SqL X.K H p (ns.map V.int)∧Q (.int ns.sum) H) Yr:=by
 intro H b st ps vs Q S r P
 unfold Yr yj at P
 split at P
 ·obtain ⟨v,rfl,r1⟩:=RVs.one r
  split at P
  ·rename_i l e
   split at P
   ·rename_i bs eb
    obtain ⟨a,xs,rfl,h2,h3⟩:=wQ S r1 e
    rw [yb h3 eb] at h2
    exact ⟨a,bs,rfl,h2,PostE.here P S Qk⟩
   ·exact P.elim
  ·exact P.elim
 ·exact P.elim
section
variable {ta:FA} {p:Pos} (ha:VA X E (e::es) ta)
include ha
theorem qFX (hm:X.mg "all" = none) (hg:Gl X "all" := by rfl) (he:starEach (e::es) X.env=(false,eval e X.env)::starEach es X.env:=by rfl) (hpl:(backTo pos (starEach es X.env)).any (·.1)=false:=by rfl):VE X E (.Call (.Name "all" p) (e::es) [] pos) (qJ jy ta) :=
 WR qDQ qJd hg hm Boot.«all» ha (he:=he) (hpl:=hpl)
theorem qBR (hm:X.mg "sum" = none) (hg:Gl X "sum" := by rfl) (he:starEach (e::es) X.env=(false,eval e X.env)::starEach es X.env:=by rfl) (hpl:(backTo pos (starEach es X.env)).any (·.1)=false:=by rfl):VE X E (.Call (.Name "sum" p) (e::es) [] pos) (qJ Yr ta) :=
 WR qDK qIm hg hm Boot.«sum» ha (he:=he) (hpl:=hpl)
theorem QP (hm:X.mg "len" = none) (hg:Gl X "len" := by rfl) (he:starEach (e::es) X.env=(false,eval e X.env)::starEach es X.env:=by rfl) (hpl:(backTo pos (starEach es X.env)).any (·.1)=false:=by rfl):VE X E (.Call (.Name "len" p) (e::es) [] pos) (qJ QN ta) :=
 WR jo qJr hg hm Boot.«len» ha (he:=he) (hpl:=hpl)
theorem qCA (hc:X.calm=true) (hm:X.mg "max" = none) (hg:Gl X "max" := by rfl) (he:starEach (e::es) X.env=(false,eval e X.env)::starEach es X.env:=by rfl) (hpl:(backTo pos (starEach es X.env)).any (·.1)=false:=by rfl):VE X E (.Call (.Name "max" p) (e::es) [] pos) (qJ JA ta) :=
 WR (qC4 hc) qIX hg hm Boot.«max» ha (he:=he) (hpl:=hpl)
theorem qGV (hc:X.calm=true) (hm:X.mg "min" = none) (hg:Gl X "min" := by rfl) (he:starEach (e::es) X.env=(false,eval e X.env)::starEach es X.env:=by rfl) (hpl:(backTo pos (starEach es X.env)).any (·.1)=false:=by rfl):VE X E (.Call (.Name "min" p) (e::es) [] pos) (qJ qFH ta) :=
 WR (qDA hc) qHr hg hm Boot.«min» ha (he:=he) (hpl:=hpl)
theorem qCl (hm:X.mg "tuple" = none) (hg:Gl X "tuple" := by rfl) (he:starEach (e::es) X.env=(false,eval e X.env)::starEach es X.env:=by rfl) (hpl:(backTo pos (starEach es X.env)).any (·.1)=false:=by rfl):VE X E (.Call (.Name "tuple" p) (e::es) [] pos) (qJ za ta) :=
 jL Yw qDV hg hm Boot.«tuple» ha (he:=he) (hpl:=hpl)
theorem qG0 (hm:X.mg "int" = none) (hg:Gl X "int" := by rfl) (he:starEach (e::es) X.env=(false,eval e X.env)::starEach es X.env:=by rfl) (hpl:(backTo pos (starEach es X.env)).any (·.1)=false:=by rfl):VE X E (.Call (.Name "int" p) (e::es) [] pos) (qJ qDt ta) :=
 jL qC1 qJW hg hm Boot.«int» ha (he:=he) (hpl:=hpl)
end
def yT (fa fb:FE):FL:=fun r st=>(fa r st).bind fun p s1=>(fb r s1).bind fun q s2=>match asL s2 p with
 |some l=>match asL s2 q with
  |some m=>if l.length + m.length≤sizeLine then .ok (l++m) s2 else .no
  |none => .no
 |none => .no
theorem Z2 (ha:VE X E a fa) (hb:VE X E c fb):VN X E (.BinOp a .Add c pos) (yT fa fb):=PE.imp (qEo qGo ha hb) fun s H Q ⟨b,r,st,S,R,P⟩ =>
 ⟨b,r,st,S,R,PostE.bindN P fun p s1 u H1 b1 e1 S1 r1 P1=>⟨b1,r,s1,S1,R.ext e1,PostE.bindN P1 fun q s2 v H2 b2 e2 S2 r2 P2=>by
  split at P2
  ·rename_i l el
   split at P2
   ·rename_i m em
    split at P2
    ·rename_i hl
     obtain ⟨x,xs,rfl,h2,h3⟩:=wQ S2 (RV.ext e2 p r1) el
     obtain ⟨y,ys,rfl,h4,h5⟩:=wQ S2 r2 em
     exact ⟨x,y,xs,ys,rfl,rfl,h2,h4,by rw [← h3.length,← h5.length];exact hl,fun z hz=>PostN.lay P2 S2 (h3.append h5) hz⟩
    ·exact P2.elim
   ·exact P2.elim
  ·exact P2.elim⟩⟩
theorem RVs.rep {K:W.Frag} {H:Hp} {b:Bz} {l:List PV} {xs:List V} (h:RVs K H b l xs):∀ n,RVs K H b (List.replicate n l).flatten (List.replicate n xs).flatten
 |0=>RVs.nil
 |n + 1=>by rw [List.replicate_succ,List.replicate_succ,List.flatten_cons,List.flatten_cons];exact h.append (RVs.rep h n)
def qAy (fa:FL) (fb:FE):FL:=fun r st=>(fa r st).bind fun l s1=>(fb r s1).bind fun q s2=>match q with
 | .int k=>if -(2 ^ 63)≤k∧k < 2 ^ 63∧l.length * k.toNat≤sizeLine then .ok (List.replicate k.toNat l).flatten s2 else .no
 |_ => .no
end
theorem WE.hid1 {H H':Hp} {b b':Bz} {p:Addr} (e:Ext H b H' b') (hn:H p=none):WE H b H' ⟨b'.b,p::b'.z⟩ :=
 ⟨e.more,⟨[p],by rw [e.same];rfl,fun a ha=>by rw [List.mem_singleton.mp ha];exact hn⟩,e.keep,e.dom⟩
theorem Ext.unhide {H H' H2:Hp} {b b' b4:Bz} {p:Addr} (e:Ext H b H' b') (hn:H p=none) (e4:Ext H' ⟨b'.b,p::b'.z⟩ H2 b4):Ext H b H2 ⟨b4.b,b'.z⟩:=by
 obtain ⟨n,hb,hh⟩:=e.more
 obtain ⟨n4,hb4,hh4⟩:=e4.more
 refine ⟨⟨⟨n++n4,?_,fun a ha => ?_⟩,⟨[],by rw [e.same];rfl,by simp⟩,fun a o ha ho => ?_,fun a o ha => ?_⟩,e.same,fun a o ha ho => ?_,fun a o u ha=>e4.fz a o u (e.fz a o u ha)⟩
 ·show b4.b=b.b++(n++n4)
  rw [hb4];show b'.b++n4=_;rw [hb,List.append_assoc]
 ·rcases List.mem_append.mp ha with ha |ha
  ·exact hh a ha
  ·exact e.none_of (hh4 a ha)
 ·have o2:=e.not_in ha ho
  exact e4.keep a o (e.keep a o ha ho) ⟨o2.1,fun z=>(List.mem_cons.mp z).elim (qM ha hn) o2.2⟩
 ·obtain ⟨o',h'⟩:=e.dom a o ha
  exact e4.dom a o' h'
 ·exact e4.hid a o (List.mem_cons_of_mem _ (by rw [e.same];exact ha)) (e.hid a o ha ho)
theorem qHR {b4:Bz} {z:List Addr} (h:b4.z=z):b4=⟨b4.b,z⟩:=by cases b4;cases h;rfl
section
variable {X:Cx} {E:XK} {e a c d:Expr} {es:List Expr} {f fa fb fc:FE} {fl:FL} {pos:Pos} {F G:FS}
theorem qBf (ha:VN X E a fl) (hb:VE X E c fb):VN X E (.BinOp a .Mult c pos) (qAy fl fb):=PE.imp (qEo qJg ha hb) fun s H Q ⟨b,r,st,S,R,P⟩=>⟨b,r,st,S,R,by
 unfold qAy at P
 cases ef:fl r st with
 |no=>rw [ef] at P;exact P.elim
 |ex x s1=>rw [ef] at P;exact P
 |ok l s1 =>
  rw [ef] at P
  have P:PostN X.K E H b ((fb r s1).bind fun q s2=>match q with | .int k=>if -(2 ^ 63)≤k∧k < 2 ^ 63∧l.length * k.toNat≤sizeLine then .ok (List.replicate k.toNat l).flatten s2 else .no |_ => .no) Q:=P
  intro p xs H' b' e1 hn hp hz S1 r1
  refine ⟨⟨b'.b,p::b'.z⟩,r,s1,S1,R.wext (WE.hid1 e1 hn),?_⟩
  cases eb:fb r s1 with
  |no=>rw [eb] at P;exact P.elim
  |ex x s2 =>
   rw [eb] at P
   intro cc dd H2 b2 e2 S2 rx
   have e3:=Ext.unhide e1 hn e2
   have hb2:b2=⟨b2.b,p::b'.z⟩:=qHR e2.same
   refine P cc dd H2 ⟨b2.b,b'.z⟩ e3 (by rw [hb2] at S2;exact S2.bare) ⟨rx.1,rx.2.imp id fun ⟨a,q1,q2,q3⟩=>⟨a,q1,q2,by rw [hb2] at q3;exact ⟨q3.1,fun z=>q3.2 (List.mem_cons_of_mem _ z)⟩⟩⟩
  |ok q s2 =>
   rw [eb] at P
   intro v H2 b2 e2 S2 rv
   have e3:=Ext.unhide e1 hn e2
   have hb2:b2=⟨b2.b,p::b'.z⟩:=qHR e2.same
   dsimp only [Rs.bind] at P
   split at P
   ·rename_i k
    split at P
    ·rename_i hk
     unfold RV at rv
     have hH2:H2 p=some (.lst xs):=e2.hid p _ List.mem_cons_self hp
     have S3:SR X.K H2 ⟨b2.b,b'.z⟩ s2:=by rw [hb2] at S2;exact S2.bare
     have r3:RVs X.K H2 ⟨b2.b,b'.z⟩ l xs:=RVs.sh Sh.bare l (by have:=RVs.ext e2 l r1;rw [hb2] at this;exact this)
     refine ⟨p,k,xs,rfl,rv,hH2,hk.1,hk.2.1,by rw [← r1.length];exact hk.2.2,fun z hz' => ?_⟩
     exact PostN.lay (PostN.ext (show PostN X.K E H b (.ok (List.replicate k.toNat l).flatten s2) Q from P) e3) S3 (RVs.rep r3 k.toNat) hz'
    ·exact P.elim
   ·exact P.elim⟩
def wz:PV->PV->qC->Rs PV:=fun p q st=>match p,q with
 | .tup l,.tup m=>if l.length + m.length≤sizeLine then .ok (.tup (l++m)) st else .no
 |_,_ => .no
theorem z8 (ha:VE X E a fa) (hb:VE X E c fb):VE X E (.BinOp a .Add c pos) (qH wz fa fb):=ZN qEN (fun H b st p q u v Q S rp rq P=>by
 unfold wz at P
 split at P
 ·rename_i l m
  split at P
  ·rename_i hl
   have rp0:=rp
   have rq0:=rq
   unfold RV at rp rq
   obtain ⟨x,xs,rfl,h2,h3⟩:=rp
   obtain ⟨y,ys,rfl,h4,h5⟩:=rq
   have n1:=h3.length
   have n2:=h5.length
   refine ⟨x,y,xs,ys,rfl,rfl,h2.sq,h4.sq,by rw [← n1,← n2];exact hl,fun z => ?_,fun _ z => ?_,fun _ _ w hw=>PostE.layT P S (h3.append h5) hw⟩
   ·have:l=[]:=List.length_eq_zero_iff.mp (by rw [n1,z];rfl)
    subst this
    exact PostE.here P S rq0
   ·have:m=[]:=List.length_eq_zero_iff.mp (by rw [n2,z];rfl)
    subst this
    rw [List.append_nil] at P
    exact PostE.here P S rp0
  ·exact P.elim
 ·exact P.elim) ha hb
abbrev FO:=qf->qC->Rs (Option Int)
def PostO (K:W.Frag) (E:XK) (H:Hp) (b:Bz) (r:Rs (Option Int)) (Q:Option Int->Hp->Prop):Prop:=match r with
 | .ok k st => ∀ H' b',Ext H b H' b'->SR K H' b' st->Q k H'
 | .ex x st=>XP K E H b x st
 | .no=>False
def rdO (K:W.Frag) (E:XK) (f:FO):TO:=fun s H Q => ∃ b r st,SR K H b st∧REnv K H b r s∧PostO K E H b (f r st) Q
abbrev VO (X:Cx) (E:XK) (e:Option Expr) (f:FO):Prop:=PO X e (rdO X.K E f)
def JW:FO:=fun _ st => .ok none st
def QJ (f:FE):FO:=fun r st=>(f r st).bind fun p s=>match p with
 | .int i => .ok (some i) s
 |_ => .no
theorem qGT:VO X E none JW:=fun pins s σ H Q I ⟨b,r,st,S,R,P⟩=>qFl pins s σ H Q I (P H b (Ext.refl _ _) S)
theorem zQ (h:VE X E e f):VO X E (some e) (QJ f):=fun pins s σ H Q I ⟨b,r,st,S,R,P⟩=>qGz h pins s σ H Q I ⟨b,r,st,S,R,by
 unfold QJ at P
 cases ef:f r st with
 |no=>rw [ef] at P;exact P.elim
 |ex x s1=>rw [ef] at P;exact P
 |ok p s1 =>
  rw [ef] at P
  intro v H1 b1 e1 S1 r1
  dsimp only [Rs.bind] at P
  split at P
  ·rename_i i
   unfold RV at r1
   exact ⟨i,r1,P H1 b1 e1 S1⟩
  ·exact P.elim⟩
def zp (l:List PV) (lo hi:Option Int):List PV:=(l.drop (HT.sIx l.length 0 lo)).take (HT.sIx l.length l.length hi - HT.sIx l.length 0 lo)
def jb (f:FE) (lo hi:FO):FE:=fun r st=>(f r st).bind fun p s1=>(lo r s1).bind fun a s2=>(hi r s2).bind fun c s3=>match p with
 | .tup l => .ok (.tup (zp l a c)) s3
 |_ => .no
theorem PostO.bind {K:W.Frag} {E:XK} {H:Hp} {b:Bz} {r:Rs (Option Int)} {k:Option Int->qC->Rs PV} {Q:VK} {R:Option Int->Hp->Prop} (P:PostE K E H b (r.bind k) Q)
  (h:∀ p st H1 b1,Ext H b H1 b1->SR K H1 b1 st->PostE K E H1 b1 (k p st) Q->R p H1):PostO K E H b r R:=by
 cases r with
 |ok p st=>exact fun H1 b1 e S=>h p st H1 b1 e S (PostE.ext (show PostE K E H b (k p st) Q from P) e)
 |ex x st=>exact P
 |no=>exact P
theorem qD7 {lo hi:Option Expr} {flo fhi:FO} {p2:Pos} (h:VE X E e f) (hl:VO X E lo flo) (hh:VO X E hi fhi):VE X E (.Subscript e (.Slice lo hi none p2) pos) (jb f flo fhi) :=
 PE.imp (J6 (sl_tup.or qD5) h hl hh) fun s H Q ⟨b,r,st,S,R,P⟩=>⟨b,r,st,S,R,PostE.bind P fun p s1 u H1 b1 e1 S1 r1 P1=>⟨b1,r,s1,S1,R.ext e1,PostO.bind P1 fun k s2 H2 b2 e2 S2 P2=>⟨b2,r,s2,S2,(R.ext e1).ext e2,PostO.bind P2 fun m s3 H3 b3 e3 S3 P3=>by
  split at P3
  ·rename_i l
   have r3:=RV.ext e3 _ (RV.ext e2 _ r1)
   have r0:=r3
   unfold RV at r3
   obtain ⟨x,xs,rfl,h2,h3⟩:=r3
   have hlen:=h3.length
   by_cases hw:HT.sIx xs.length 0 k=0∧HT.sIx xs.length xs.length m=xs.length
   ·refine .inr ⟨x,xs,rfl,h2.sq,hw.1,hw.2,?_⟩
    have:zp l k m=l:=by
     unfold zp
     rw [hlen,hw.1,hw.2,List.drop_zero,Nat.sub_zero,← hlen,List.take_length]
    rw [this] at P3
    exact PostE.here P3 S3 r0
   ·refine .inl ⟨x,xs,rfl,h2.sq,hw,fun z hz => ?_⟩
    have hc:RVs X.K H3 b3 (zp l k m) (Ys xs k m):=by
     unfold zp Ys
     rw [hlen]
     exact (h3.drop _).take _
    exact PostE.layT P3 S3 hc hz
  ·exact P3.elim⟩⟩⟩
def q9 (fo f:FE):FS:=fun r st=>(fo r st).bindS fun o s1=>match o with
 | .ref n=>if lk s1 (.ref n)=true then (f r s1).bindS fun p s2=>match s2[n]? with
  |some (.l xs)=>if xs.length < sizeLine then .nx r (s2.set n (.l (xs++[p]))) else .no
  |_ => .no else .no
 |_ => .no
theorem Wb {fo:FE} {o:Expr} {apos cpos:Pos} (ho:VE X E o fo) (h:VE X E e f) (hs:swapsWith (.Call (.Attribute o "append" apos) [e] [] cpos) none pos.line X.env=pure false:=by rfl)
  (hbase:attributeBase o "append" X.env (eval o X.env)=eval o X.env:=by rfl)
  (hfew:((backTo cpos (starEach [e] X.env)).all (fun x => !x.1)&&(backToKw cpos (keywordEach [] X.env)).all (fun x=>x.1.isSome)&&decide ([e].length + ([]:List Keyword).length + (if ([]:List Keyword).isEmpty then 0 else 1) < 30))=true:=by rfl)
  (hline:(apos.endLine==cpos.line)=true:=by rfl) (h1:starEach [e] X.env=(false,eval e X.env)::starEach [] X.env:=by rfl) (hplain:(backTo cpos (starEach [] X.env)).any (·.1)=false:=by rfl) :
  VS X E (.Expr (.Call (.Attribute o "append" apos) [e] [] cpos) pos) (q9 fo f) :=
 PS.imp (qCV (qHN PySem.F.plainAttrs_list PySem.F.slot_list_append PySem.F.type_list_append jN ho (JL h qAv h1) hbase hfew hline h1 hplain) hs) fun D s H ⟨b,r,st,S,R,P⟩=>⟨b,r,st,S,R,PostE.bindS P fun o s1 u H1 b1 e1 S1 r1 P1=>by
  have key:∀ {n:Nat},o = .ref n->lk s1 (.ref n)=true->tyV X.K "list" u H1:=fun {n} ho hlk=>by
   subst ho
   unfold RV at r1
   obtain ⟨x,rfl,hx⟩:=r1
   have hl:n < s1.length:=by rw [← S1.len];exact (List.getElem?_eq_some_iff.mp hx).1
   obtain ⟨a',o',h3,h4,h5⟩:=S1.at_ n _ (List.getElem?_eq_getElem hl)
   rw [hx] at h3;cases h3
   cases hq:s1[n] with
   |l xs=>rw [hq] at h5;obtain ⟨vs,e,_⟩:=h5;subst e;exact .inl ⟨rfl,vs,SqL.of h4⟩
   |z xs=>unfold lk at hlk;dsimp only at hlk;rw [List.getElem?_eq_getElem hl,hq] at hlk;cases hlk
   |d xs=>unfold lk at hlk;dsimp only at hlk;rw [List.getElem?_eq_getElem hl,hq] at hlk;cases hlk
  cases o with
  |ref n =>
   have P1:PostS X.K E H1 b1 (if lk s1 (.ref n)=true then ((f r s1).bindS fun p s2=>match s2[n]? with |some (.l xs)=>if xs.length < sizeLine then .nx r (s2.set n (.l (xs++[p]))) else .no |_ => .no) else .no) D:=P1
   by_cases hlk:lk s1 (.ref n)=true
   rotate_left
   ·rw [if_neg hlk] at P1;exact P1.elim
   rw [if_pos hlk] at P1
   refine ⟨key rfl hlk,b1,r,s1,S1,R.ext e1,?_⟩
   cases eb:f r s1 with
   |no=>rw [eb] at P1;exact P1.elim
   |ex x s2=>rw [eb] at P1;exact P1
   |ok p s2 =>
    rw [eb] at P1
    intro v H2 b2 e2 S2 r2
    have P2:PostS X.K E H1 b1 (match s2[n]? with |some (.l xs)=>if xs.length < sizeLine then .nx r (s2.set n (.l (xs++[p]))) else .no |_ => .no) D:=P1
    split at P2
    ·rename_i xs ex
     split at P2
     ·rename_i hl
      have r1':=RV.ext e2 _ r1
      unfold RV at r1'
      obtain ⟨x,rfl,hx⟩:=r1'
      obtain ⟨x',o',h1,h2,vs,rfl,h4⟩:=S2.at_ n _ ex
      rw [hx] at h1;cases h1
      refine ⟨x,vs,v,rfl,rfl,h2,by rw [← h4.length];exact hl,?_⟩
      have hm:x∈b2.b:=List.mem_of_getElem? hx
      have ew:Ext H2 b2 (upd H2 x (.lst (vs++[v]))) b2:=Ext.wr hm S2.zb (qF2 h2)
      exact P2 s _ b2 (e2.trans ew) (S2.wr (x := .l (xs++[p])) hx ⟨_,rfl,(RVs.ext ew xs h4).append (RVs.cons (RV.ext ew p r2) RVs.nil)⟩) (((R.ext e1).ext e2).ext ew)
     ·exact P2.elim
    ·exact P2.elim
  |_=>exact P1.elim⟩
def qC0 (p:PV):List PV->Option Nat
 |[]=>none
 |q::qs=>if peq q p=true then some 0 else (qC0 p qs).map (· + 1)
theorem Y5 (p:PV):∀ {l:List PV} {j:Nat},qC0 p l=some j->(∃ q,l[j]? = some q∧peq q p=true) ∧ ∀ m,m < j -> ∃ q,l[m]? = some q∧peq q p=false
 |[],_,h=>by cases h
 |q::qs,j,h=>by
  unfold qC0 at h
  split at h
  ·rename_i hq;cases h;exact ⟨⟨q,rfl,hq⟩,fun m hm=>by omega⟩
  ·rename_i hq
   cases e:qC0 p qs with
   |none=>rw [e] at h;cases h
   |some k =>
    rw [e] at h;cases h
    obtain ⟨⟨q',h1,h2⟩,h3⟩:=Y5 p e
    refine ⟨⟨q',by simpa using h1,h2⟩,fun m hm => ?_⟩
    cases m with
    |zero=>exact ⟨q,rfl,by simpa using hq⟩
    |succ m=>obtain ⟨q2,h4,h5⟩:=h3 m (by have hm:m + 1 < k + 1:=hm;omega);exact ⟨q2,by simpa using h4,h5⟩
theorem qJa {pins:List (Addr×Obj)} {σ:L2.St} {H:Hp} {s:Shared} (I:L2.Inv X pins σ H s) {A:Around} {p:PV} {u:V} {uu:Value} (hp:RW X.K H p u) (ru:RelV u uu) (hA:A.units + 60 < cLine)
  {l:List PV} {xs:List V} {its:List Value} (hl:RWs X.K H l xs) (vl:Vals xs its) (hd:deps l≤qDC):∃ g:Value->Bool,(∀ y∈its,SeqAt.EqAt A s y uu (g y)) ∧ ∀ (i:Nat) (q:PV) (y:Value),l[i]? = some q->its[i]? = some y->g y=peq q p:=by
 classical
 have key:∀ (q:PV) (x:V) (y:Value),RW X.K H q x->RelV x y->decide (∃ q x,RW X.K H q x∧RelV x y∧peq q p=true)=peq q p:=fun q x y h1 h2=>by
  by_cases hb:peq q p=true
  ·rw [hb];exact decide_eq_true ⟨q,x,h1,h2,hb⟩
  ·rw [show peq q p=false by simpa using hb]
   refine decide_eq_false fun ⟨q',x',k1,k2,k3⟩=>hb ?_
   have ex:x'=x:=k2.inj h2
   subst ex
   rw [RW.det I q q' h1 k1];exact k3
 refine ⟨fun y=>decide (∃ q x,RW X.K H q x∧RelV x y∧peq q p=true),fun y hy => ?_,fun i q y hq hy => ?_⟩
 ·obtain ⟨i,hi⟩:=List.getElem?_of_mem hy
  obtain ⟨x,hx,rx⟩:=Vals.get2 vl hi
  obtain ⟨q,hq,rq⟩:=RWs.get' hl hx
  dsimp only
  rw [key q x y rq rx]
  exact qDv I 60 q p x u y uu A (Nat.le_trans (ze hq) hd) hA rq hp rx ru
 ·obtain ⟨x,hx,rx⟩:=Vals.get2 vl hy
  obtain ⟨q',hq',rq⟩:=RWs.get' hl hx
  rw [hq] at hq';cases hq'
  exact key q x y rq rx
theorem qDd (hr:X.A.units + 64 < cLine):MtM X "list.index" (fun x vs H Q => ∃ l xs a p v j,x = .ref a∧vs=[v]∧SqL X.K H a xs∧RWs X.K H l xs∧RW X.K H p v∧deps l≤qDC∧qC0 p l=some j∧Q (.int j) H):=by
 intro pins s σ H x vs v us Q I rx rv h
 obtain ⟨l,xs,ad,p,y,j,rfl,rfl,hs,hl,hp,hd,hj,q⟩:=h
 cases rx
 obtain ⟨u,rfl,ru⟩:=rv.one
 obtain ⟨its,r',pl,hz⟩:=I.list hs
 obtain ⟨⟨c1,d1,a1,s1⟩,o1,e1,m1,f1⟩:=id pl.isList
 have e1:c1=_:=e1
 have f1:a1=_:=f1
 subst e1;subst f1
 have hA:X.A.in1.units + 60 < cLine:=by show X.A.units + 1 + 60 < cLine;omega
 obtain ⟨g,g1,g2⟩:=qJa I hp ru hA hl r' hd
 obtain ⟨⟨q1,k1,k2⟩,k3⟩:=Y5 p hj
 have n1:l.length=its.length:=by rw [hl.length,r'.length]
 have jl:j < l.length:=(List.getElem?_eq_some_iff.mp k1).1
 have ji:j < its.length:=by rw [← n1];exact jl
 refine call_meets F.slot_list_index ⟨_,o1,rfl⟩ F.entry_list_index (F.args_list_index_2 _ _) (SeqAt.list_indexAt ad its.toArray m1 d1 s1 u g j (by simpa using ji) ?_ ?_ fun m hm hlt => ?_) ⟨o1,fun y hy=>g1 y (by simpa using hy),⟨.int j,H,I.tok _,⟨_,rfl⟩,q⟩⟩
 ·have:its.length≤sizeLine:=by rw [← r'.length];exact hz
  have h2:(sizeLine:Nat) < 2 ^ 62:=by decide
  omega
 ·rw [show its.toArray[j]=its[j] by simp,g2 j q1 _ k1 (List.getElem?_eq_getElem ji)];exact k2
 ·obtain ⟨q2,k4,k5⟩:=k3 m hlt
  have mi:m < its.length:=by simpa using hm
  rw [show its.toArray[m]=its[m] by simp,g2 m q2 _ k4 (List.getElem?_eq_getElem mi)];exact k5
def qKL (fo f:FE):FE:=fun r st=>(fo r st).bind fun o s1=>match asL s1 o with
 |some _=>(f r s1).bind fun p s2=>match asL s2 o with
  |some l=>if nrs l=true∧nr p=true∧deps l≤qDC then (match qC0 p l with |some j => .ok (.int j) s2 |none => .no) else .no
  |none => .no
 |none => .no
theorem qEA {fo:FE} {o:Expr} {apos cpos:Pos} (hr:X.A.units + 64 < cLine) (ho:VE X E o fo) (h:VE X E e f) (hbase:attributeBase o "index" X.env (eval o X.env)=eval o X.env:=by rfl)
  (hfew:((backTo cpos (starEach [e] X.env)).all (fun x => !x.1)&&(backToKw cpos (keywordEach [] X.env)).all (fun x=>x.1.isSome)&&decide ([e].length + ([]:List Keyword).length + (if ([]:List Keyword).isEmpty then 0 else 1) < 30))=true:=by rfl)
  (hline:(apos.endLine==cpos.line)=true:=by rfl) (h1:starEach [e] X.env=(false,eval e X.env)::starEach [] X.env:=by rfl) (hplain:(backTo cpos (starEach [] X.env)).any (·.1)=false:=by rfl) :
  VE X E (.Call (.Attribute o "index" apos) [e] [] cpos) (qKL fo f) :=
 PE.imp (qHN PySem.F.plainAttrs_list PySem.F.slot_list_index PySem.F.type_list_index (qDd hr) ho (JL h qAv h1) hbase hfew hline h1 hplain) fun s H Q ⟨b,r,st,S,R,P⟩=>⟨b,r,st,S,R,PostE.bind P fun o s1 u H1 b1 e1 S1 r1 P1=>by
  split at P1
  ·rename_i l1 el1
   obtain ⟨x,xs,rfl,h2,h3⟩:=wQ S1 r1 el1
   refine ⟨.inl ⟨rfl,xs,h2⟩,b1,r,s1,S1,R.ext e1,PostE.bind P1 fun p s2 v H2 b2 e2 S2 r2 P2 => ?_⟩
   split at P2
   ·rename_i l el
    split at P2
    ·rename_i hc
     split at P2
     ·rename_i j hj
      obtain ⟨x',ys,ex,h4,h5⟩:=wQ S2 (RV.ext e2 o r1) el
      cases ex
      exact ⟨l,ys,x,p,v,j,rfl,rfl,h4,RVs.rws l hc.1 h5,RV.rw p hc.2.1 r2,hc.2.2,hj,PostE.here P2 S2 Qk⟩
     ·exact P2.elim
    ·exact P2.elim
   ·exact P2.elim
  ·exact P1.elim⟩
def W7:List PV->List PV->List PV
 |x::l,y::m => .tup [x,y]::W7 l m
 |_,_=>[]
theorem qAG:∀ {l m:List PV} {i:Nat} {p:PV},(W7 l m)[i]? = some p -> ∃ x y,l[i]? = some x∧m[i]? = some y∧p = .tup [x,y]
 |[],_,_,_,h=>by simp [W7] at h
 |_::_,[],_,_,h=>by simp [W7] at h
 |x::l,y::m,0,p,h=>⟨x,y,rfl,rfl,by simpa [W7] using h.symm⟩
 |x::l,y::m,i + 1,p,h=>by
  obtain ⟨u,v,h1,h2,h3⟩:=qAG (l:=l) (m:=m) (i:=i) (p:=p) (by simpa [W7] using h)
  exact ⟨u,v,by simpa using h1,by simpa using h2,h3⟩
theorem Jp:∀ (l m:List PV),(W7 l m).length=min l.length m.length
 |[],m=>by simp [W7]
 |_::_,[]=>by simp [W7]
 |x::l,y::m=>by simp [W7,Jp l m]
def qK9 (i:Int):Str:=toString i
def qEB (f:FE):FE:=fun r st=>(f r st).bind fun p s=>match p with
 | .int i=>if i.natAbs.log2 < 1920 then .ok (.str (qK9 i)) s else .no
 |_ => .no
theorem JV (h:VE X E e f):VE X E (.FormattedValue e (-1) none pos) (qEB f):=PE.imp (qIY h) fun s H Q ⟨b,r,st,S,R,P⟩=>⟨b,r,st,S,R,PostE.bind P fun p s1 u H1 b1 e1 S1 r1 P1=>by
 split at P1
 ·rename_i i
  split at P1
  ·rename_i hi
   unfold RV at r1
   exact ⟨i,r1,hi,PostE.here P1 S1 (by unfold RV;rfl)⟩
  ·exact P1.elim
 ·exact P1.elim⟩
def vJ:List FE->Str->qf->qC->Rs PV
 |[],out,_,st=>if out.length≤sizeLine then .ok (.str out) st else .no
 |f::fs,out,r,st=>(f r st).bind fun p s=>match p with
  | .str y=>if (out++y).length≤sizeLine then vJ fs (out++y) r s else .no
  |_ => .no
def VJ (X:Cx) (E:XK) (es:List Expr) (fs:List FE):Prop:=PJ X es (fun out σ H Q => ∃ b r st,SR X.K H b st∧REnv X.K H b r σ∧PostE X.K E H b (vJ fs out r st) (fun v H' => ∃ x,v = .str x∧Q x H'))
theorem qD6:VJ X E [] []:=fun out pins s σ H Q I ⟨b,r,st,S,R,P⟩=>qHY out pins s σ H Q I (by
 unfold vJ at P
 split at P
 ·rename_i h
  obtain ⟨x,e,q⟩:=PostE.here P S (by unfold RV;rfl)
  cases e
  exact ⟨h,q⟩
 ·exact P.elim)
theorem WY {fs:List FE} (h1:VE X E e f) (h2:VJ X E es fs):VJ X E (e::es) (f::fs):=fun out pins s σ H Q I ⟨b,r,st,S,R,P⟩=>qG7 h1 h2 out pins s σ H Q I (by
 unfold vJ at P
 refine ⟨b,r,st,S,R,PostE.bind P fun p s1 u H1 b1 e1 S1 r1 P1 => ?_⟩
 split at P1
 ·rename_i y
  split at P1
  ·rename_i h
   unfold RV at r1
   exact ⟨y,r1,h,b1,r,s1,S1,R.ext e1,P1⟩
  ·exact P1.elim
 ·exact P1.elim)
theorem qCJ {e1 e2:Expr} {fs:List FE} (h:VJ X E (e1::e2::es) fs):VE X E (.JoinedStr (e1::e2::es) pos) (vJ fs Str.empty):=fun pins s σ H Q I ⟨b,r,st,S,R,P⟩=>qGJ h pins s σ H Q I ⟨b,r,st,S,R,by
 cases e:vJ fs Str.empty r st with
 |ex x s1=>rw [e] at P;exact P
 |no=>rw [e] at P;exact P
 |ok p s1 =>
  rw [e] at P
  intro v H' b' e' S' r'
  have q:=P v H' b' e' S' r'
  have hp:∃ y,p = .str y:=by
   have key:∀ (fs:List FE) (out:Str) (st:qC) (p:PV) (s1:qC),vJ fs out r st = .ok p s1 -> ∃ y,p = .str y:=by
    intro fs
    induction fs with
    |nil=>intro out st p s1 h;unfold vJ at h;split at h;(cases h;exact ⟨_,rfl⟩);cases h
    |cons g gs ih =>
     intro out st p s1 h
     unfold vJ at h
     cases eg:g r st with
     |no=>rw [eg] at h;cases h
     |ex x s2=>rw [eg] at h;cases h
     |ok p2 s2 =>
      rw [eg] at h
      dsimp only [Rs.bind] at h
      split at h
      ·split at h
       ·exact ih _ _ _ _ h
       ·cases h
      ·cases h
   exact key _ _ _ _ _ e
  obtain ⟨y,rfl⟩:=hp
  unfold RV at r'
  exact ⟨y,r',by rw [r'] at q;exact q⟩⟩
theorem QC {P:Program} {w:World} (X:Cx):zX (CXF P w) X E0:=fun pins σ H s e s' I h=>by
 obtain ⟨_,_,_,_,_,_,_,_,_,_,_,_,q⟩:=h
 exact q.elim
def Qh (i:Nat):FG:=fun p r=>match r[i]? with
 |some none=>some (r.set i (some p))
 |_=>none
theorem qCT {i:Nat} {p:PV} {r r':qf} (h:Qh i p r=some r'):r[i]? = some none∧r'=r.set i (some p):=by
 unfold Qh at h
 split at h
 ·rename_i e;cases h;exact ⟨e,rfl⟩
 ·cases h
theorem wE (i:Nat) {x:Str} (hN:X.N.Nodup) (hi:X.N[i]? = some x:=by rfl) (hx:Loc X.env.scope x:=by first |exact Or.inl rfl |exact Or.inr rfl) (hf:X.fn x=true∨X.env.scope.names.lookup x=some .local:=by first |exact .inl rfl |exact .inr rfl |assumption):VG X (.Name x pos) (Qh i) :=
 PG.imp (Qd i hN hi hx hf) fun v s H Q ⟨b,r,p,st,S,R,rv,r',e,q⟩=>⟨b,r,p,st,S,R,rv,r',by rw [(qCT e).2];rfl,q⟩
theorem Le.refl (r:qf):Le r r:=⟨rfl,fun _ _ h=>h⟩
theorem Le.trans {r r1 r2:qf} (h:Le r r1) (g:Le r1 r2):Le r r2:=⟨h.1.trans g.1,fun i p e=>g.2 i p (h.2 i p e)⟩
theorem qp (i:Nat):qBu (Qh i):=fun p r r' h=>by
 obtain ⟨h1,rfl⟩:=qCT h
 refine ⟨by simp,fun j q e => ?_⟩
 by_cases hj:i=j
 ·subst hj;rw [h1] at e;cases e
 ·rw [List.getElem?_set_ne hj];exact e
def JF (g:FGs):Prop := ∀ p r r',g p r=some r'->Le r r'
theorem Z4:JF Zt:=fun p r r' h=>by
 unfold Zt at h
 split at h
 ·cases h;exact Le.refl _
 ·cases h
theorem WK {g:FG} {gs:FGs} (h1:qBu g) (h2:JF gs):JF (Q5 g gs):=fun p r r' h=>by
 unfold Q5 at h
 split at h
 ·split at h
  ·rename_i r1 e;exact (h1 _ _ _ e).trans (h2 _ _ _ h)
  ·cases h
 ·cases h
theorem Zx {n:Nat} {gs:FGs} (h1:JF gs):qBu (Zo n gs):=fun p r r' h=>by
 unfold Zo at h
 split at h
 ·split at h
  ·exact h1 _ _ _ h
  ·cases h
 ·cases h
theorem qIf {ns:List Int} {m:Int} {i:Nat} (hm:ns.max? = some m) (hi:i≤ns.length - 1) (h:∀ j,j≤ns.length - 1->ns.getD j 0≤ns.getD i 0):ns.getD i 0=m:=by
 have hne:ns≠[]:=by intro z;subst z;cases hm
 have hl:0 < ns.length:=List.length_pos_iff.mpr hne
 obtain ⟨h1,h2⟩:=List.max?_eq_some_iff.mp hm
 have hil:i < ns.length:=by omega
 have e1:ns.getD i 0=ns[i]:=by simp [List.getD_eq_getElem?_getD,hil]
 have a1:ns.getD i 0≤m:=by rw [e1];exact h2 _ (List.getElem_mem hil)
 obtain ⟨j,hj,rfl⟩:=List.mem_iff_getElem.mp h1
 have:=h j (by omega)
 have e2:ns.getD j 0=ns[j]:=by simp [List.getD_eq_getElem?_getD,hj]
 omega
theorem qC3:Ws X (.builtin "max") (fun xs H Q => ∃ (p:Addr) (ns:List Int) (m:Int),xs=[.ref p]∧SqT X.K H p (ns.map V.int)∧ns.max? = some m∧Q (.int m) H):=by
 intro pins s σ H xs us Q I r h
 obtain ⟨p,ns,m,rfl,hq,hm,q⟩:=h
 obtain ⟨u,rfl,rx⟩:=yJ r
 cases rx
 obtain ⟨its,r',pl,hz⟩:=I.tuple hq
 have hl:=r'.length
 rw [List.length_map] at hl
 obtain ⟨ob,po,_⟩:=id pl
 have hlt:p < s.heap.objs.size:=Heap.lt_size po
 have hne:ns≠[]:=by intro z;subst z;cases hm
 have hpos:0 < ns.length:=List.length_pos_iff.mpr hne
 have hsz:its.toArray.size=ns.length:=by rw [List.size_toArray,← hl]
 refine call_max_walk (wpAny_pyIter_tuple pl ⟨_,_,_,_,_,_,_,rfl,Ju (A:=X.A.in1) _ p (Nat.ne_of_lt hlt) its.toArray (qHU I),⟨⟨⟨_,Heap.get?_push_size _ rfl,rfl,rfl⟩,(show s.heap.IsTuple p its.toArray from pl).at fun o e=>Heap.get?_push_of_some _ e⟩,?_⟩,fun b hb => ?_,by rw [hsz];exact hpos,CmpOf.ints_gt (fun i=>ns.getD i 0) fun i v hv=>Zj r' (by simpa using hv),fun v h' tk hv hk => ?_⟩)
 ·exact Hnd.frame (show Hnd X.A.in1 s.heap from I.hndH) fun b _ o e=>Heap.get?_push_of_some _ e
 ·show b < (s.heap.push _).objs.size
  rw [Heap.size_push]
  rcases List.mem_cons.mp hb with rfl |hb
  ·exact Nat.lt_succ_self _
  ·rcases List.mem_cons.mp hb with rfl |hb
   ·exact Nat.lt_succ_of_lt hlt
   ·have hd:X.A.handled=some (.ref b):=by
     unfold Zl at hb
     split at hb
     ·rename_i a ha;rw [List.mem_singleton.mp hb];exact ha
     ·cases hb
    obtain ⟨a,oe,vs,e1,e2,_⟩:=I.hndH _ hd
    cases e1
    exact Nat.lt_succ_of_lt (Heap.lt_size e2)
 ·rw [hsz] at hv
  rw [List.getElem?_toArray] at hv
  obtain ⟨t,rfl⟩:=Zj r' hv
  obtain ⟨g1,g2⟩:=argBest_gt (fun i=>ns.getD i 0) (ns.length - 1)
  rw [qIf hm g1 g2]
  refine ⟨.int m,H,I.kept (t':=tk) fun b o e=>hk b o (by simp;exact Nat.ne_of_lt (Heap.lt_size e)) (Heap.get?_push_of_some _ e),⟨t,rfl⟩,q⟩
def Y2:List PV->qC->Rs PV:=fun ps st=>match ps with
 |[.tup l]=>match wx yn l with
  |some ns=>match ns.max? with
   |some m => .ok (.int m) st
   |none => .no
  |none => .no
 |_ => .no
theorem qFn {ta:FA} {p:Pos} (ha:VA X E (e::es) ta) (hm:X.mg "max" = none) (hg:Gl X "max" := by rfl) (he:starEach (e::es) X.env=(false,eval e X.env)::starEach es X.env:=by rfl) (hpl:(backTo pos (starEach es X.env)).any (·.1)=false:=by rfl):VE X E (.Call (.Name "max" p) (e::es) [] pos) (qJ Y2 ta) :=
 WR qC3 (fun H b st ps vs Q S r P=>by
  unfold Y2 at P
  split at P
  ·rename_i l
   split at P
   ·rename_i ns en
    split at P
    ·rename_i m em
     obtain ⟨v,rfl,r1⟩:=RVs.one r
     unfold RV at r1
     obtain ⟨x,xs,rfl,h2,h3⟩:=r1
     rw [yb h3 en] at h2
     exact ⟨x,ns,m,rfl,h2.sq,em,PostE.here P S Qk⟩
    ·exact P.elim
   ·exact P.elim
  ·exact P.elim) hg hm Boot.«max» ha (he:=he) (hpl:=hpl)
end
structure DefG (P:Program) (w:World) (K:W.Frag) (mg:Str->Option Value) (base:Heap) (k:Nat) (x:Str) (fa:Addr) (n:Nat) (g:List PV->qC->Rs PV):Prop where
 ok:∃ fd ps,ps.length=n∧FnOk P w K mg base (CXF P w) k fa fd ps (spG K ps.length g)∧L2.Binds K fd ps [] ∧ ∀ l st,g l st ≠ .no->l.length=ps.length
 mg:mg x=some (.ref fa)
 kp:PySem.W.keepIn K (.ref fa)=true
section
variable {X:Cx} {E:XK} {e a c d:Expr} {es:List Expr} {f fa fb fc:FE} {fl:FL} {pos:Pos} {F G:FS}
theorem DefG.call {k n:Nat} {x:Str} {fa:Addr} {g:List PV->qC->Rs PV} (D:DefG X.prog X.w X.K X.mg X.base k x fa n g) (hr:Room k X.A) (hx:zX (CXF X.prog X.w) X E) (hg:Gl X x:=by rfl) (hdb:(x==("__debug__":Str))=false:=by decide):qJp X E x g:=by
 obtain ⟨fd,ps,_,F,B,hl⟩:=D.ok
 exact qLa (n:=n) F hr hg D.mg D.kp B hx hl hdb
end
def qq (n N:Nat) (B:FS):List PV->qC->Rs PV:=fun l st=>if l.length=n then qGy (B (Qv N l) st) else .no
theorem qX {n N:Nat} {B:FS} {l:List PV} {st:qC} (h:qq n N B l st ≠ .no):l.length=n:=by
 unfold qq at h
 split at h
 ·assumption
 ·exact absurd rfl h
section
variable {X:Cx} {E:XK} {e a c d:Expr} {f fa fb fc:FE} {pos:Pos}
def qBh (f:FE):FE:=fun r st=>(f r st).bind fun p s=>match p with
 | .int i => .ok (.int (-i)) s
 |_ => .no
theorem qBb (h:VE X E e f):VE X E (.UnaryOp .USub e pos) (qBh f):=PE.imp (qKt qH0 h) fun s H Q ⟨b,r,st,S,R,P⟩=>⟨b,r,st,S,R,PostE.bind P fun p s1 u H1 b1 e1 S1 r1 P1=>by
 split at P1
 ·rename_i i
  unfold RV at r1
  exact ⟨i,r1,PostE.here P1 S1 Qk⟩
 ·exact P1.elim⟩
end
theorem qG4 {k:Nat} {A:Around} {v:Option Value} (h:Room k A) (hk:1≤k:=by omega):Room 1 (A.mark v) :=
 ⟨fun z=>absurd z (by decide),by have:=h.dp;show A.depth + 3 * 1 + 5 < recursionLimit;omega,by have:=h.un;show A.units + 16 * 1 + 200 < cLine;omega⟩
theorem qU {n N m:Nat} {B:FS} {l:List PV} {s0:qC} (hl:l.length=n):Refn m (qGy (B (Qv N l) s0)) (qq n N B l s0):=by
 unfold qq;rw [if_pos hl];exact Refn.refl
section
variable {P:Program} {w:World} {K:W.Frag} {mg:Str->Option Value} {base:Heap}
theorem Qw {x:Str} {st:Stmt} {fa:Addr} {fd:FuncData} {N ps:List Str} {k:Nat} {B:FS} {g:List PV->qC->Rs PV} (F:Fun K x x st fa fd) (S:FnScope N ps (qK st)) (b:L2.Binds K fd ps []) (m:mg x=some (.ref fa)) (hlen:∀ l s,g l s ≠ .no->l.length=ps.length)
  (body:∀ (cdv:Value) (A:Around) (outer:List Env) (s:Shared) (H:Hp) (E:XK),Room k (A.deeper (envOfC x (qK st) s.heap.objs.size fa cdv))->(0 < k->A.handled=none)->VSs (we (CXF P w) P w K mg base N x (qK st) fa cdv A outer s H E) E (qZ st) B)
  (hg:∀ l s0,l.length=ps.length->g l s0 ≠ .no->Refn s0.length (qGy (B (Qv N.length l) s0)) (g l s0)):DefG P w K mg base (k + 1) x fa ps.length g :=
 ⟨⟨fd,ps,rfl,okV F S fun cdv A outer s H E hr hc=>⟨B,body cdv A outer s H E hr hc,hg⟩,b,hlen⟩,m,F.kp⟩
theorem qE8 {x:Str} {st:Stmt} {fa:Addr} {fd:FuncData} {ps:List Str} {k:Nat} {g:List PV->qC->Rs PV} (F:Fun K x x st fa fd) (b:L2.Binds K fd ps []) (m:mg x=some (.ref fa)) (hg:∀ l s,g l s = .no):DefG P w K mg base k x fa ps.length g:=by
 have no:∀ vs H Q E,¬ spG K ps.length g vs H Q E:=fun vs H Q E ⟨_,b,l,st,_,_,h⟩=>by rw [hg] at h;exact h
 exact ⟨⟨fd,ps,rfl,⟨fun vs H Q E h=>absurd h (no vs H Q E),fun A outer s H args us vs Q E _ _ _ _ h=>absurd h (no vs H Q E)⟩,b,fun l s h=>absurd (hg l s) h⟩,m,F.kp⟩
end
section
variable {X:Cx} {E:XK} {es:List Expr} {f:FE} {g:FA} {pos:Pos}
theorem QI {c:Const} {j:Nat} (h:VE X E (.Constant c j pos) f) (h2:VA X E es g):VA X E (.Constant c j pos::es) (qA f g):=Qz h h2 rfl
theorem qQ {x:Str} (h:VE X E (.Name x pos) f) (h2:VA X E es g):VA X E (.Name x pos::es) (qA f g):=Qz h h2 rfl
theorem W5 {a b c} (h:VE X E (.Call a b c pos) f) (h2:VA X E es g):VA X E (.Call a b c pos::es) (qA f g):=Qz h h2 rfl
theorem ZY {a b c} (h:VE X E (.BinOp a b c pos) f) (h2:VA X E es g):VA X E (.BinOp a b c pos::es) (qA f g):=Qz h h2 rfl
theorem qEn {a b} (h:VE X E (.Tuple a b pos) f) (h2:VA X E es g):VA X E (.Tuple a b pos::es) (qA f g):=Qz h h2 rfl
theorem qLT {a} (h:VE X E (.List a pos) f) (h2:VA X E es g):VA X E (.List a pos::es) (qA f g):=Qz h h2 rfl
theorem qBY {a b} (h:VE X E (.Subscript a b pos) f) (h2:VA X E es g):VA X E (.Subscript a b pos::es) (qA f g):=Qz h h2 rfl
theorem qKE {a b} (h:VE X E (.UnaryOp a b pos) f) (h2:VA X E es g):VA X E (.UnaryOp a b pos::es) (qA f g):=Qz h h2 rfl
theorem qLd {a b c} (h:VE X E (.Compare a b c pos) f) (h2:VA X E es g):VA X E (.Compare a b c pos::es) (qA f g):=Qz h h2 rfl
theorem qBB {a b c} (h:VE X E (.ListComp a b c pos) f) (h2:VA X E es g):VA X E (.ListComp a b c pos::es) (qA f g):=Qz h h2 rfl
theorem qJ0 {a} (h:VE X E (.JoinedStr a pos) f) (h2:VA X E es g):VA X E (.JoinedStr a pos::es) (qA f g):=Qz h h2 rfl
theorem qLf {a b c} (h:VE X E (.IfExp a b c pos) f) (h2:VA X E es g):VA X E (.IfExp a b c pos::es) (qA f g):=Qz h h2 rfl
theorem qLg {a b} (h:VE X E (.BoolOp a b pos) f) (h2:VA X E es g):VA X E (.BoolOp a b pos::es) (qA f g):=Qz h h2 rfl
theorem qLe {a b} (h:VE X E (.Dict a b pos) f) (h2:VA X E es g):VA X E (.Dict a b pos::es) (qA f g):=Qz h h2 rfl
end
end EV
end
section
namespace Att
open PySem PySem.W PySem.Calls PyProof.Rows
theorem yw:∀ {ns:List Int} {n:Int},n∈ns->WData.weight (.int n)≤WData.weightAll (ns.map WData.int)
 |m::ns,n,h=>by
  show _≤WData.weight (.int m) + 1 + WData.weightAll (ns.map WData.int)
  rcases List.mem_cons.mp h with rfl |h
  ·omega
  ·have:=yw h;omega
theorem Jz {ns:List Int} (h:WData.layableAll [WData.list (ns.map WData.int)]=true):∀ n∈ns,Builtin.Int.intBits n≤2 ^ 20:=by
 intro n hn
 unfold WData.layableAll at h
 have h1:WData.layable (WData.list (ns.map WData.int))=true:=by simpa using h
 unfold WData.layable at h1
 rw [Bool.and_eq_true] at h1
 have h2:WData.weight (WData.list (ns.map WData.int))≤2 ^ 20:=of_decide_eq_true h1.2
 have h3:WData.weightAll (ns.map WData.int)≤2 ^ 20:=h2
 exact Nat.le_trans (yw hn) h3
theorem attach_callB {l:OpenLaw} {n:Nat} {q:Program} {loose:List Str} {XP:(Str->Option Value)->Heap->Prop} {YP:World->Heap->Prop} {d:DefRec}
  (hn:l.most=some n) (hdf:d.params.defaults=[])
  (call:∀ (w:World) (s₀ s₁:Shared) (mg mb:Str->Option Value) (fa:Addr) (o:Obj) (pm cd doc:Value) (a:Addr) (vs:List Value) (ns:List Int),
   Ground q loose [] XP w s₀ mg mb s₁.heap->YP w s₁.heap ->
   s₁.heap.get? fa=some o->o.data = .func (docDef d.name d.params d.body d.scope pm cd doc)->s₁.heap.CodeRec cd d.name->mg d.name=some (.ref fa) ->
   s₁.heap.get? a=some { cls := .type "list",data := .seq vs.toArray }->IntsAre vs ns->ns.length≤n->(∀ k∈ns,Builtin.Int.intBits k≤2 ^ 20)->s₁.gens = #[] ->
   codeAny (model l.prog w) callerA (.call (.ref fa) ⟨[.ref a],[]⟩) (fun r s'=>r = .ok (.ret (.bool true))∧OldK s₁.heap s'.heap∧s'.os=s₁.os∧AllBare s'.gens) s₁) :
  WalkO q loose XP YP l.row.toRowW d [] (fun f vs=>PySem.call f vs):=by
 intro w s₀ s₁ mg mb G Y fa o pm cd doc dV kV ho hd hcd hD hmg hg args vals as hpre hlay hrd hwl hlo
 obtain rfl:dV = .none:=Dflts.none hD hdf
 obtain rfl:kV = .none:=Dflts.noKw hD
 obtain ⟨a,vs,ns,rfl,rfl,hobj,hints,hlen⟩:=qCe hn hpre hwl
 refine enter_call (codeAny_mono (call w s₀ s₁ mg mb fa o pm cd doc a vs ns G Y ho (fd_plain hd) hcd hmg hobj hints hlen (Jz hlay) hg) fun r s' hq => ?_)
 obtain ⟨rfl,h2,h3,h4⟩:=hq
 exact ⟨.inl ⟨.bool true,.bool true,[],rfl,fun _=>rfl,.bool true,qCw l _,fun _=>⟨List.Pairwise.nil,fun _ hm=>(nomatch hm)⟩⟩,h2,h3,h4⟩
end Att
end
section
namespace EX
open PySem PySem.Spec PyProof.Rows L2
end EX
namespace EV
open PySem PySem.Spec PyProof.Rows L2 EX
end EV
end
section
namespace HT
open PySem PySem.Spec PyProof.Rows L2
end HT
namespace L2
open PySem PySem.Spec PyProof.Rows
end L2
end
section
namespace EV
open PySem PySem.Spec PyProof.Rows L2
theorem qFj {X:Cx} {E:XK} (i:Nat) {x:Str} {p' pos2:Pos} {elt:Expr} {c:Comprehension} {cs:List Comprehension} {scope:Scope} {pos:Pos} {capN locN:List Str} {caps:List Nat} {fi:FI} {g:FG} {ts:List FT} {gs:List GenF} {f:FE} (hN:X.N.Nodup) (hi':X.N[i]? = some x) (hx:Loc X.env.scope x) (hf:X.fn x=true∨X.env.scope.names.lookup x=some .local) (hsw:swapsWith (.ListComp elt (c::cs) scope pos) (some (.Name x p')) pos2.line X.env=pure true) (hcs:CSc X scope capN locN caps)
  (hi:VI X E c.target c.iter fi) (sub:∀ s H fp pn,VE (cCx X scope (capN++locN) s H fp pn) E0 elt f∧GOk (cCx X scope (capN++locN) s H fp pn) c ⟨fi,g,ts⟩∧GsOk (cCx X scope (capN++locN) s H fp pn) cs gs)
  (hs:∀ x,foldedSetIterable c.iter X.env x=pure x):PS X (.Assign [.Name x p'] (.ListComp elt (c::cs) scope pos) pos2) (qI6 (rdN X.K E (qw caps locN.length fi g ts gs f)) (qEZ i)):=by
 intro pins s σ H D0 I hq
 obtain ⟨b,r,st,S,RE,P⟩:=hq
 have hfree:∀ x∈scope.names,x.2 = .free -> ∃ c,X.env.cells.lookup x.1=some c:=fun x hx hk=>I.ok.has x.1 (hcs.fr x hx hk)
 obtain ⟨c1,c2,c3,c4⟩:=c
 have hasy:c4=0:=(sub s H [] []).2.1.asy
 subst hasy
 rw [exec_Assign_Name_used x p' _ pos2 hsw]
 refine wpAny_bind (wpAny_standAt ?_)
 refine wpAny_bind (wpAny_mono (Q:=fun _ s' => ∃ v H',L2.Inv X pins (σ.set i (some v)) H' s'∧D0.nx (σ.set i (some v)) H') ?_ (fun _ s' ⟨v,H',I',q'⟩=>wpAny_pure ⟨_,H',I',q'⟩) fun _ _ z=>z)
 rw [arm_evalThenUse_ListComp]
 refine wpAny_bind (wpAny_mono (Q:=fun _ s' => ∃ v H',L2.Inv X pins (σ.set i (some v)) H' s'∧D0.nx (σ.set i (some v)) H') ?_ (fun _ s' q'=>wpAny_pure q') fun _ _ z=>z)
 refine wpAny_comprehension_free (e := .ListComp elt (⟨c1,c2,c3,0⟩::cs) scope pos) (use:=some (assign (.Name x p') X.env)) rfl hs (yo hfree) hcs.kind (fun x hx hl=>Wf hcs.nd (by rw [← hl];exact hx)) ?_
 show wpAny _ _ (eval c2 X.env) _ _ s
 unfold qw at P
 cases ef:fi r st with
 |no=>rw [ef] at P;exact P.elim
 |ex xx s1 =>
  rw [ef] at P
  refine thn (hi pins s σ H (fun _ _=>False) I ⟨b,r,st,S,RE,by rw [ef];exact P⟩) fun v s2 h2=>thn h2 fun itv s3 h3 => ?_
  obtain ⟨_,_,_,_,_,_,_,_,_,_,z⟩:=h3
  exact z.elim
 |ok w s1 =>
  rw [ef] at P
  refine thn (hi pins s σ H (fun J H' => ∃ b',Ext H b H' b'∧SR X.K H' b' s1∧yX X.K H' b' J w) I ⟨b,r,st,S,RE,by rw [ef];exact fun J H' b' e' S' i'=>⟨b',e',S',i'⟩⟩) fun v s2 h2=>thn h2 fun itv s3 h3 => ?_
  obtain ⟨it,fp,tn,J,H2,rfl,I2,T,t2,f2,b2,e2,S2,i2⟩:=h3
  have P:PostN X.K E H b (match qj w.G (Q8 ⟨fi,g,ts⟩ (wl gs f) (Ww caps locN.length r)) w.l s1 with | .ok l s'=>if l.length≤sizeLine then .ok l s' else .no |_ => .no) (fun v H'=>D0.nx (σ.set i (some v)) H'):=P
  cases ev:qj w.G (Q8 ⟨fi,g,ts⟩ (wl gs f) (Ww caps locN.length r)) w.l s1 with
  |no=>rw [ev] at P;exact P.elim
  |ex xx s4=>rw [ev] at P;exact P.elim
  |ok l st' =>
   rw [ev] at P
   have P:PostN X.K E H b (if l.length≤sizeLine then .ok l st' else .no) (fun v H'=>D0.nx (σ.set i (some v)) H'):=P
   by_cases hl:l.length≤sizeLine
   ·rw [if_pos hl] at P
    have hfr:H2 s3.heap.objs.size=none:=I2.hok.fresh (Nat.le_refl _)
    refine wpAny_newList ?_
    generalize hs3:({ s3 with heap:=s3.heap.push { cls := .type "list",data := .seq ([]:List Value).toArray } }:Shared)=s3'
    have I3:L2.Inv X pins σ (upd H2 s3.heap.objs.size (.lst [])) s3':=by
     rw [← hs3]
     exact I2.laid (t':=s3.toks) (fun a u e=>Heap.get?_push_of_some _ e) (Nat.le_refl _) (show ObjOk X.prog X.w _ _ _ (.lst []) from ⟨Nat.zero_le _,[],0,.nil,Heap.get?_push_size _ rfl⟩)
    have k3:∀ a o,s3.heap.get? a=some o->s3'.heap.get? a=some o:=fun a o e=>by rw [← hs3];exact Heap.get?_push_of_some _ e
    have hlt:∀ a∈fp,a < s3.heap.objs.size:=fun a ha=>by
     obtain ⟨o,e,_⟩:=T.obj _ _ t2 a ha
     exact Heap.lt_size e
    have f3:∀ a∈fp,ZQ X pins (upd H2 s3.heap.objs.size (.lst [])) a:=fun a ha=>⟨by rw [qL (Nat.ne_of_lt (hlt a ha))];exact (f2 a ha).1,(f2 a ha).2⟩
    have hlt3:∀ a∈fp,a < s3'.heap.objs.size:=fun a ha=>by
     obtain ⟨o,e,_⟩:=T.obj _ _ t2 a ha
     exact Heap.lt_size (k3 a o e)
    generalize hD:s3.heap.objs.size=D at I3 f3 hfr
    refine qAP ?_
    have J0:=Yb hcs I3 f3 hlt3 rfl
    obtain ⟨he,hg,hgs⟩:=sub s3' (upd H2 D (.lst [])) fp (X.pn++pins)
    have k4:∀ a o,s3'.heap.get? a=some o->(pushCells (s3'.heap.push { cls := .type "dict",data := .dict #[] }) scope.names).get? a=some o:=fun a o e=>pushCells_keeps _ _ _ _ (Heap.get?_push_of_some _ e)
    have hDz:D ∉ b2.z:=(S2.new_notin hfr).2
    have loop:=jI (X:=cCx X scope (capN++locN) s3' (upd H2 D (.lst [])) fp (X.pn++pins)) (fun _ _ z=>z) (gens:=⟨c1,c2,c3,0⟩::cs) (scope:=scope) (pos:=pos) (D:=D) he gs cs 0 ⟨c1,c2,c3,0⟩ ⟨fi,g,ts⟩ rfl hg hgs [] _ _ _ ⟨b2.b,D::b2.z⟩ (Ww caps locN.length r) s1 st' it fp tn J w [] l
     (compPost (model X.prog X.w) X.A X.xe (some (assign (.Name x p') X.env)) (fun _ s' => ∃ v H',L2.Inv X pins (σ.set i (some v)) H' s'∧D0.nx (σ.set i (some v)) H') (.ref D) s3'.heap.objs.size) J0 (SR.hide S2 hfr) (qAD ((RE.ext e2).wext (WE.hide hfr))) List.mem_cons_self qd T (T.keep _ _ _ t2 fun a ha o e=>k4 a o (k3 a o e))
     (fun a ha=>⟨(f3 a ha).1,(J0.ok.exf a ha).1,J0.ok.exfs a ha,.inl ha,(J0.ok.exf a ha).2,fun p hp=>(f3 a ha).2.2.2.2.2 p (by simpa [cCx] using hp)⟩) (jE i2 hfr) ev (by simpa using hl)
     (fun s' σ' H' b' lV I' e' S' R' hD' r'=>by
      obtain ⟨m,hn,_⟩:=I'.loc
      have hn:s'.heap.Ns s3'.heap.objs.size m:=hn
      have fin:L2.Inv X pins σ H' s':=qAp I3 f3 I' ⟨rfl,fun _ _=>rfl⟩
      have hC:H' s3'.heap.objs.size=none:=I'.free
      have fpC:ZQ X pins H' s3'.heap.objs.size:=I3.fpOk (Nat.le_refl _) hC
      obtain ⟨oC,esC,epC,hoC,hdC,hkC⟩:=id hn
      have finp:=fin.pinned (fp:=[s3'.heap.objs.size]) (fun b hb=>by rw [List.mem_singleton.mp hb];exact fpC) (fun b hb=>by rw [List.mem_singleton.mp hb];exact ⟨oC,hoC,fun v z=>by rw [hdC] at z;cases z⟩)
      have hz':b'.z=D::b2.z:=e'.same
      show wpAny (model X.prog X.w) X.A (assign (.Name x p') X.env (.ref D)) _ _ s'
      refine wpAny_assign_Name ?_
      refine wX finp hN hi' hx (v := .ref D) rfl (fun s'' I'' => ?_) hf
      have hpin:s''.heap.get? s3'.heap.objs.size=some oC:=by
       have hm:(s3'.heap.objs.size,oC)∈X.pn++(pins++Ze [s3'.heap.objs.size] s'.heap):=by
        unfold Ze
        simp [hoC]
       exact (I''.pin _ hm).1
      refine ⟨m,⟨oC,esC,epC,hpin,hdC,hkC⟩,fun h'' sb=>⟨.ref D,H',(I''.unpinned).turned (t':=s''.toks) (fun b o hb e=>sb.extBut b o hb e) fpC.1 fpC.2.1 fpC.2.2.2.1 fpC.2.2.2.2.1 (fun p hp=>fpC.2.2.2.2.2 p hp),?_⟩⟩
      have ex:Ext H2 b2 H' ⟨b'.b,b2.z⟩:=by
       refine ⟨⟨?_,⟨[],rfl,by simp⟩,fun a o ha ho => ?_,fun a o ha => ?_⟩,rfl,fun a o hz ha => ?_,fun a o u ha=>e'.fz a o u (qM ha hfr) (by rw [qL (qM ha hfr)];exact ha)⟩
       ·obtain ⟨n,hb,hh⟩:=e'.more
        exact ⟨n,hb,fun a ha=>by
         have:=hh a ha
         by_cases q:a=D
         ·rw [q];exact hfr
         ·rwa [qL q] at this⟩
       ·have hne:a≠D:=qM ha hfr
        exact e'.keep a o (by rw [qL hne];exact ha) ⟨ho.1,fun z=>(List.mem_cons.mp z).elim hne ho.2⟩
       ·have hne:a≠D:=qM ha hfr
        exact e'.dom a o (by rw [qL hne];exact ha)
       ·have hne:a≠D:=qM ha hfr
        exact e'.hid a o (List.mem_cons_of_mem _ hz) hne (by rw [qL hne];exact ha)
      have hb':(⟨b'.b,D::b2.z⟩:Bz)=b':=by rw [← hz']
      refine P D lV H' ⟨b'.b,b2.z⟩ (e2.trans ex) (e2.none_of hfr) (by simpa using hD') hDz ?_ ?_
      ·show SR X.K H' ⟨b'.b,D::b2.z⟩ st'
       rw [hb'];exact S'
      ·show RVs X.K H' ⟨b'.b,D::b2.z⟩ l lV
       rw [hb'];exact r')
    exact zH rfl rfl loop (T.self X.A 0 _ _ _ (T.keep _ _ _ t2 fun a ha o e=>k4 a o (k3 a o e)) loop)
   ·rw [if_neg hl] at P;exact P.elim
end EV
namespace EV
open PySem PySem.Spec PyProof.Rows L2
section
variable {X:Cx} {E:XK} {x:Str} {p' pos2:Pos} {elt:Expr} {c:Comprehension} {cs:List Comprehension} {scope:Scope} {pos:Pos} {capN locN:List Str} {caps:List Nat} {fi:FI} {g:FG} {ts:List FT} {gs:List GenF} {f:FE}
theorem JM (i:Nat) (hN:X.N.Nodup) (hcs:CSc X scope capN locN caps)
  (hi:VI X E c.target c.iter fi) (sub:∀ s H fp pn,VE (cCx X scope (capN++locN) s H fp pn) E0 elt f∧GOk (cCx X scope (capN++locN) s H fp pn) c ⟨fi,g,ts⟩∧GsOk (cCx X scope (capN++locN) s H fp pn) cs gs)
  (hi':X.N[i]? = some x:=by rfl) (hx:Loc X.env.scope x:=by first |exact Or.inl rfl |exact Or.inr rfl) (hf:X.fn x=true∨X.env.scope.names.lookup x=some .local:=by first |exact .inl rfl |exact .inr rfl |assumption)
  (hsw:swapsWith (.ListComp elt (c::cs) scope pos) (some (.Name x p')) pos2.line X.env=pure true:=by rfl) (hs:∀ x,foldedSetIterable c.iter X.env x=pure x:=by intro _;rfl) :
  VS X E (.Assign [.Name x p'] (.ListComp elt (c::cs) scope pos) pos2) (qS i (vFz (qw caps locN.length fi g ts gs f))) :=
 PS.imp (qFj i hN hi' hx hf hsw hcs hi sub hs) fun D s H ⟨b,r,st,S,R,P⟩=>⟨b,r,st,S,R,PostN.of (PostE.bindS P fun p s1 u H1 b1 e1 S1 r1 P1=>P1 _ H1 b1 (Ext.refl _ _) S1 ((R.ext e1).set r1 i))⟩
end
end EV
end
section
namespace EX
open PySem PySem.Spec PyProof.Rows L2
def Src (b:Bool) (i l:Addr) (xs:Array Value) (k:Nat) (h:Heap):Prop:=match b with
 |true=>h.IsTupleIter i l k∧h.IsTuple l xs
 |false=>h.IsListIter i l k∧h.IsList l xs
theorem Src.keep {b:Bool} {i l:Addr} {xs:Array Value} {k:Nat} {h h':Heap} (S:Src b i l xs k h) (e1:∀ o,h.get? i=some o->h'.get? i=some o) (e2:∀ o,h.get? l=some o->h'.get? l=some o):Src b i l xs k h':=by
 cases b
 ·exact ⟨S.1.at e1,S.2.at e2⟩
 ·exact ⟨S.1.at e1,S.2.at e2⟩
theorem Src.but {b:Bool} {i l c:Addr} {xs:Array Value} {k:Nat} {h h':Heap} (S:Src b i l xs k h) (e:Heap.ExtBut c h h') (n1:i≠c) (n2:l≠c):Src b i l xs k h':=S.keep (fun o q=>e _ o n1 q) fun o q=>e _ o n2 q
theorem Src.here {b:Bool} {i l:Addr} {xs:Array Value} {k:Nat} {h:Heap} (S:Src b i l xs k h):∃ o,h.get? i=some o∧(∃ vs,o.data = .fields vs):=by
 cases b
 ·obtain ⟨⟨o,e,_,d⟩,_⟩:=S;exact ⟨o,e,_,d⟩
 ·obtain ⟨⟨o,e,_,d⟩,_⟩:=S;exact ⟨o,e,_,d⟩
section
variable {prog:Program} {w:World} {A:Around} {E:Value->Shared->Prop} {s:Shared}
theorem Src.item {b:Bool} {i l:Addr} {xs:Array Value} {k:Nat} {x:Value} {Q:Value->Shared->Prop} (S:Src b i l xs k s.heap) (hne:l≠i) (hx:xs[k]? = some x)
  (hQ:∀ h',Src b i l xs (k + 1) h'->Heap.SameBut i s.heap h'->Q x { s with heap:=h' }):wpAny (model prog w) A (Builtin.SmallTypes.nextOf (.ref i)) Q E s:=by
 cases b
 ·exact wpAny_nextOf_list_item S.1 S.2 hx fun h' a1 a2=>hQ h' ⟨a1,S.2.extBut a2.extBut hne⟩ a2
 ·obtain ⟨hit,ht⟩:=S
  obtain ⟨o,ho,hc,hd⟩:=id hit
  obtain ⟨ol,hol,_,nl,hdl⟩:=id ht
  unfold Builtin.SmallTypes.nextOf
  refine wpAny_bind (wpAny_callSpecial?_slot (name:=Str.ofString "__next__") hit.typeIs F.slot_tuple_iterator_next
   (wpAny_call_entry F.slot_tuple_iterator_next hit.typeIs F.entry_tuple_iterator_next ?_ (F.args_tuple_iterator_next_1 _)))
  show wpAny _ _ (field (.ref i) 0 >>= _) _ _ s
  refine wpAny_bind (wpAny_field ho hd (x := .ref l) rfl ?_)
  show wpAny _ _ (if (Value.ref l==Value.none)=true then _ else _) _ _ s
  rw [if_neg (show ¬ ((Value.ref l==Value.none)=true) from Bool.false_ne_true)]
  show wpAny _ _ (field (.ref i) 1 >>= _) _ _ s
  refine wpAny_bind (wpAny_field ho hd (x := .int k 0) rfl ?_)
  show wpAny _ _ (seqItems? (.ref l) >>= _) _ _ s
  refine wpAny_bind (wpAny_seqItems hol hdl ?_)
  simp only [Int.toNat_natCast,hx]
  refine wpAny_bind (wpAny_setField ho hd (by simp) (wpAny_pure ⟨x,rfl,wpAny_pure (hQ _ ⟨?_,ht.extBut (Heap.SameBut.update ..).extBut hne⟩ (Heap.SameBut.update ..))⟩))
  exact ⟨_,Heap.get?_update_self _ ho (Obj.isFreed_of_fields (Obj.data_mapFields hd _)),(Obj.cls_mapFields ..).trans hc,by
   rw [Obj.data_mapFields hd];simp [rawInt]⟩
theorem Src.over {b:Bool} {i l:Addr} {xs:Array Value} {k:Nat} {Q:Value->Shared->Prop} (hh:A.handled=none) (S:Src b i l xs k s.heap) (hx:xs[k]? = none)
  (hE:∀ h' e,Heap.ExtBut i s.heap h'->(∃ o,h'.get? e=some o∧o.cls = .type "StopIteration")->E (.ref e) { s with heap:=h' }):wpAny (model prog w) A (Builtin.SmallTypes.nextOf (.ref i)) Q E s:=by
 cases b
 ·exact wpAny_nextOf_list_end hh S.1 S.2 hx hE
 ·obtain ⟨hit,ht⟩:=S
  obtain ⟨o,ho,hc,hd⟩:=id hit
  obtain ⟨ol,hol,_,nl,hdl⟩:=ht
  unfold Builtin.SmallTypes.nextOf
  refine wpAny_bind (wpAny_callSpecial?_slot (name:=Str.ofString "__next__") hit.typeIs F.slot_tuple_iterator_next
   (wpAny_call_entry F.slot_tuple_iterator_next hit.typeIs F.entry_tuple_iterator_next ?_ (F.args_tuple_iterator_next_1 _)))
  show wpAny _ _ (field (.ref i) 0 >>= _) _ _ s
  refine wpAny_bind (wpAny_field ho hd (x := .ref l) rfl ?_)
  show wpAny _ _ (if (Value.ref l==Value.none)=true then _ else _) _ _ s
  rw [if_neg (show ¬ ((Value.ref l==Value.none)=true) from Bool.false_ne_true)]
  show wpAny _ _ (field (.ref i) 1 >>= _) _ _ s
  refine wpAny_bind (wpAny_field ho hd (x := .int k 0) rfl ?_)
  show wpAny _ _ (seqItems? (.ref l) >>= _) _ _ s
  refine wpAny_bind (wpAny_seqItems hol hdl ?_)
  simp only [Int.toNat_natCast,hx]
  refine wpAny_bind (wpAny_rule (wpAny_bind (wpAny_setField ho hd (by simp) ?_)))
  show wpAny _ _ (newExc (.type "StopIteration") [] >>= _) _ _ _
  refine wpAny_bind ?_
  simp only [newExc,newTuple]
  refine wpAny_bind (wpAny_newObj_type ?_ (by size_fits))
  refine wpAny_bind (m:=firstArgMember _ _) (wpAny_of_eq (a:=Value.none) (by first |rfl |(simp only [firstArgMember];rfl)) ?_)
  refine wpAny_newObj_type ?_ (by size_fits)
  simp only [raiseNew]
  refine wpAny_bind (wpAny_handled ?_)
  first |rw [show A.in1.handled=none from hh] |rw [hh]
  refine wpAny_bind (wpAny_pure (wpAny_throw ?_))
  exact hE _ _ (((Heap.SameBut.update ..).extBut.push _).push _) ⟨_,Heap.get?_push_size _ rfl,rfl⟩
theorem qDL {b1 b2:Bool} {z TI TO i1 i2 l1 l2:Addr} {k:Nat} {xs ys:Array Value} {x y a b:Value} {Q:Option Value->Shared->Prop} (D:ZipApart z TI TO i1 i2 l1 l2)
  (hz:IsZip s.heap z TI TO .none) (hTI:IsPair s.heap TI (.ref i1) (.ref i2)) (hTO:IsPair s.heap TO a b) (h1:Src b1 i1 l1 xs k s.heap) (h2:Src b2 i2 l2 ys k s.heap) (hx:xs[k]? = some x) (hy:ys[k]? = some y)
  (hQ:∀ h',IsZip h' z TI TO (rawInt s.heap.objs.size)->IsPair h' TO x y->Src b1 i1 l1 xs (k + 1) h'->Src b2 i2 l2 ys (k + 1) h'->IsPair h' s.heap.objs.size x y ->
   (∀ c o,c≠z->c≠TO->c≠i1->c≠i2->s.heap.get? c=some o->h'.get? c=some o)->Q (some (.ref s.heap.objs.size)) { s with heap:=h' }) :
  wpAny (model prog w) A (pyNext (.ref z)) Q E s:=by
 have hT:s.TypeIs (.ref z) "zip" := ⟨_,hz,rfl⟩
 unfold pyNext
 refine wpAny_bind (wpAny_attempt (wpAny_callSpecial?_slot (name:=Str.ofString "__next__") hT F.slot_zip_next (wpAny_call_entry F.slot_zip_next hT F.entry_zip_next ?_ (F.args_zip_next_1 _))))
 show wpAny _ _ (field (.ref z) 2 >>= _) _ _ _
 refine wpAny_bind (wpAny_field hz rfl (x := .bool false) rfl ?_)
 show wpAny _ _ (field (.ref z) 3 >>= _) _ _ _
 refine wpAny_bind (wpAny_field hz rfl (x := .ref TI) rfl ?_)
 refine wpAny_bind (wpAny_seqItems hTI rfl ?_)
 show wpAny _ _ (Builtin.SmallTypes.ownedTupleIsFree (.ref z) >>= _) _ _ _
 refine wpAny_bind ?_
 unfold Builtin.SmallTypes.ownedTupleIsFree
 refine wpAny_bind (wpAny_field hz rfl (x := .none) rfl (wpAny_pure ?_))
 simp only [if_true]
 refine wpAny_bind (wpAny_rule ?_)
 refine wpAny_bind (wpAny_field hz rfl (x := .ref TO) rfl ?_)
 refine wpAny_bind (wpAny_setField_rec hz (by simp) fun g1 hz1 s1 => ?_)
 replace hz1:IsZip g1 z TI TO .ellipsis:=hz1
 refine wpAny_bind ?_
 simp only [List.zipIdx_cons,List.zipIdx_nil,List.forIn_cons,List.forIn_nil]
 refine wpAny_bind (wpAny_bind (wpAny_onRaise ?_))
 show wpAny _ _ (Builtin.SmallTypes.nextOf (.ref i1) >>= _) _ _ _
 refine wpAny_bind ((h1.but s1.extBut D.i1z D.l1z).item D.l1i1 hx fun g2 q1 s2=>wpAny_pure ?_)
 have t2:IsPair g2 TO a b:=s2.extBut _ _ D.TOi1 (s1.extBut _ _ D.TOz hTO)
 refine wpAny_bind (wpAny_seqItems t2 rfl ?_)
 refine wpAny_bind (wpAny_updateSeq_pair t2 fun g3 t3 s3 => ?_)
 replace t3:IsPair g3 TO x b:=t3
 refine wpAny_bind (wpAny_letGo (wpAny_pure ?_))
 refine wpAny_bind (wpAny_bind (wpAny_onRaise ?_))
 show wpAny _ _ (Builtin.SmallTypes.nextOf (.ref i2) >>= _) _ _ _
 refine wpAny_bind ((((h2.but s1.extBut D.i2z D.l2z).but s2.extBut D.i12.symm D.l2i1).but s3.extBut D.TOi2.symm D.l2TO).item D.l2i2 hy fun g4 q2 s4=>wpAny_pure ?_)
 have t4:IsPair g4 TO x b:=s4.extBut _ _ D.TOi2 t3
 refine wpAny_bind (wpAny_seqItems t4 rfl ?_)
 refine wpAny_bind (wpAny_updateSeq_pair t4 fun g5 t5 s5 => ?_)
 replace t5:IsPair g5 TO x y:=t5
 refine wpAny_bind (wpAny_letGo (wpAny_pure (wpAny_pure ?_)))
 refine wpAny_bind (wpAny_seqItems t5 rfl ?_)
 refine wpAny_bind (wpAny_newTuple ?_)
 have hsz:g5.objs.size=s.heap.objs.size:=by rw [s5.1,s4.1,s3.1,s2.1,s1.1]
 have hz5:IsZip g5 z TI TO .ellipsis:=s5.extBut _ _ D.TOz.symm (s4.extBut _ _ D.i2z.symm (s3.extBut _ _ D.TOz.symm (s2.extBut _ _ D.i1z.symm hz1)))
 have k5:∀ c o,c≠z->c≠TO->c≠i1->c≠i2->s.heap.get? c=some o->g5.get? c=some o:=fun c o c1 c2 c3 c4 e =>
  s5.extBut _ _ c2 (s4.extBut _ _ c4 (s3.extBut _ _ c2 (s2.extBut _ _ c3 (s1.extBut _ _ c1 e))))
 have p1:Src b1 i1 l1 xs (k + 1) g5:=((q1.but s3.extBut D.TOi1.symm D.l1TO).but s4.extBut D.i12 D.l1i2).but s5.extBut D.TOi1.symm D.l1TO
 have p2:Src b2 i2 l2 ys (k + 1) g5:=q2.but s5.extBut D.TOi2.symm D.l2TO
 have hzlt:z < g5.objs.size:=Heap.lt_size hz5
 show wpAny _ _ (Builtin.SmallTypes.ownedTupleHandOut (.ref z) (.ref g5.objs.size) >>= _) _ _ _
 refine wpAny_bind ?_
 unfold Builtin.SmallTypes.ownedTupleHandOut
 have hz6:IsZip (g5.push { cls := .type "tuple",data := .seq #[x,y] }) z TI TO .ellipsis:=Heap.get?_push_of_some _ hz5
 refine wpAny_bind (wpAny_setField_rec hz6 (by simp) fun g7 hz7 s7 => ?_)
 replace hz7:IsZip g7 z TI TO (rawInt g5.objs.size):=hz7
 refine wpAny_setField_rec hz7 (by simp) fun g8 hz8 s8 => ?_
 replace hz8:IsZip g8 z TI TO (rawInt g5.objs.size):=hz8
 have up:∀ c o,c≠z->g5.get? c=some o->g8.get? c=some o:=fun c o c1 e=>s8.extBut _ _ c1 (s7.extBut _ _ c1 (Heap.get?_push_of_some _ e))
 have t8:IsPair g8 g5.objs.size x y:=s8.extBut _ _ (Nat.ne_of_gt hzlt) (s7.extBut _ _ (Nat.ne_of_gt hzlt) (Heap.get?_push_size _ rfl))
 rw [hsz] at hz8 t8
 refine wpAny_pure ⟨_,rfl,wpAny_pure ?_⟩
 show Q (some (.ref g5.objs.size)) _
 rw [hsz]
 exact hQ g8 hz8 (up _ _ D.TOz t5) (p1.keep (fun o e=>up _ o D.i1z e) fun o e=>up _ o D.l1z e) (p2.keep (fun o e=>up _ o D.i2z e) fun o e=>up _ o D.l2z e) t8 fun c o c1 c2 c3 c4 e=>up c o c1 (k5 c o c1 c2 c3 c4 e)
theorem qCu {b1 b2:Bool} {z TI TO i1 i2 l1 l2:Addr} {k:Nat} {xs ys:Array Value} {a b:Value} {Q:Fin->Shared->Prop} (hh:A.handled=none) (D:ZipApart z TI TO i1 i2 l1 l2)
  (hz:IsZip s.heap z TI TO .none) (hTI:IsPair s.heap TI (.ref i1) (.ref i2)) (hTO:IsPair s.heap TO a b) (h1:Src b1 i1 l1 xs k s.heap) (h2:Src b2 i2 l2 ys k s.heap) (hend:xs[k]? = none∨ys[k]? = none)
  (stop:∀ h' e,(∀ c o,c≠z->c≠TO->c≠i1->c≠i2->s.heap.get? c=some o->h'.get? c=some o)->(∃ o,h'.get? e=some o∧o.cls = .type "StopIteration")->E (.ref e) { s with heap:=h' }) :
  wpAny (model prog w) A (Builtin.«zip.__next__» ⟨[.ref z],[]⟩) Q E s:=by
 show wpAny _ _ (field (.ref z) 2 >>= _) _ _ _
 refine wpAny_bind (wpAny_field hz rfl (x := .bool false) rfl ?_)
 show wpAny _ _ (field (.ref z) 3 >>= _) _ _ _
 refine wpAny_bind (wpAny_field hz rfl (x := .ref TI) rfl ?_)
 refine wpAny_bind (wpAny_seqItems hTI rfl ?_)
 show wpAny _ _ (Builtin.SmallTypes.ownedTupleIsFree (.ref z) >>= _) _ _ _
 refine wpAny_bind ?_
 unfold Builtin.SmallTypes.ownedTupleIsFree
 refine wpAny_bind (wpAny_field hz rfl (x := .none) rfl (wpAny_pure ?_))
 simp only [if_true]
 refine wpAny_bind (wpAny_rule ?_)
 refine wpAny_bind (wpAny_field hz rfl (x := .ref TO) rfl ?_)
 refine wpAny_bind (wpAny_setField_rec hz (by simp) fun g1 hz1 s1 => ?_)
 replace hz1:IsZip g1 z TI TO .ellipsis:=hz1
 refine wpAny_bind ?_
 simp only [List.zipIdx_cons,List.zipIdx_nil,List.forIn_cons,List.forIn_nil]
 refine wpAny_bind (wpAny_bind (wpAny_onRaise ?_))
 show wpAny _ _ (Builtin.SmallTypes.nextOf (.ref i1) >>= _) _ _ _
 cases hx:xs[k]? with
 |none =>
  refine wpAny_bind ((h1.but s1.extBut D.i1z D.l1z).over hh hx fun g2 e s2 he => ?_)
  obtain ⟨oe,hoe,hce⟩:=he
  have hz2:IsZip g2 z TI TO .ellipsis:=s2 _ _ D.i1z.symm hz1
  have hez:e≠z:=fun x=>by subst x;rw [hz2] at hoe;cases hoe;simp at hce
  exact wpAny_setField_rec hz2 (by simp) fun g3 _ s3=>stop g3 e (fun c o c1 _ c3 _ x=>s3.extBut _ _ c1 (s2 _ _ c3 (s1.extBut _ _ c1 x))) ⟨oe,s3.extBut _ _ hez hoe,hce⟩
 |some x =>
  have hy:ys[k]? = none:=by rcases hend with h |h;rw [hx] at h;cases h;exact h
  refine wpAny_bind ((h1.but s1.extBut D.i1z D.l1z).item D.l1i1 hx fun g2 q1 s2=>wpAny_pure ?_)
  have t2:IsPair g2 TO a b:=s2.extBut _ _ D.TOi1 (s1.extBut _ _ D.TOz hTO)
  refine wpAny_bind (wpAny_seqItems t2 rfl ?_)
  refine wpAny_bind (wpAny_updateSeq_pair t2 fun g3 t3 s3 => ?_)
  refine wpAny_bind (wpAny_letGo (wpAny_pure ?_))
  refine wpAny_bind (wpAny_bind (wpAny_onRaise ?_))
  show wpAny _ _ (Builtin.SmallTypes.nextOf (.ref i2) >>= _) _ _ _
  refine wpAny_bind ((((h2.but s1.extBut D.i2z D.l2z).but s2.extBut D.i12.symm D.l2i1).but s3.extBut D.TOi2.symm D.l2TO).over hh hy fun g4 e s4 he => ?_)
  obtain ⟨oe,hoe,hce⟩:=he
  have hz4:IsZip g4 z TI TO .ellipsis:=s4 _ _ D.i2z.symm (s3.extBut _ _ D.TOz.symm (s2.extBut _ _ D.i1z.symm hz1))
  have hez:e≠z:=fun x=>by subst x;rw [hz4] at hoe;cases hoe;simp at hce
  exact wpAny_setField_rec hz4 (by simp) fun g5 _ s5=>stop g5 e (fun c o c1 c2 c3 c4 x=>s5.extBut _ _ c1 (s4 _ _ c4 (s3.extBut _ _ c2 (s2.extBut _ _ c3 (s1.extBut _ _ c1 x))))) ⟨oe,s5.extBut _ _ hez hoe,hce⟩
theorem qFB {b1 b2:Bool} {z TI TO i1 i2 l1 l2:Addr} {k:Nat} {xs ys:Array Value} {a b:Value} {Q:Option Value->Shared->Prop} (hh:A.handled=none) (D:ZipApart z TI TO i1 i2 l1 l2)
  (hz:IsZip s.heap z TI TO .none) (hTI:IsPair s.heap TI (.ref i1) (.ref i2)) (hTO:IsPair s.heap TO a b) (h1:Src b1 i1 l1 xs k s.heap) (h2:Src b2 i2 l2 ys k s.heap) (hend:xs[k]? = none∨ys[k]? = none)
  (hQ:∀ h',(∀ c o,c≠z->c≠TO->c≠i1->c≠i2->s.heap.get? c=some o->h'.get? c=some o)->Q none { s with heap:=h' }):wpAny (model prog w) A (pyNext (.ref z)) Q E s:=by
 have hT:s.TypeIs (.ref z) "zip" := ⟨_,hz,rfl⟩
 unfold pyNext
 refine wpAny_bind (wpAny_attempt (wpAny_callSpecial?_slot (name:=Str.ofString "__next__") hT F.slot_zip_next (wpAny_call_entry F.slot_zip_next hT F.entry_zip_next (qCu hh D hz hTI hTO h1 h2 hend fun h' e hk he => ?_) (F.args_zip_next_1 _))))
 obtain ⟨o,ho,hc⟩:=he
 refine wpAny_bind (wpAny_isInstance (T := "StopIteration") (b:=true) ⟨o,ho,hc⟩ isSubtype_stop ?_)
 exact wpAny_pure (hQ _ hk)
def Qy (b:Bool) (l:Addr):Obj:={ cls := .type (cond b "tuple_iterator" "list_iterator"),data := .fields #[.ref l,.int 0 0] }
def SqAt (b:Bool) (l:Addr) (xs:Array Value) (h:Heap):Prop:=match b with
 |true=>h.IsTuple l xs
 |false=>h.IsList l xs
theorem SqAt.push {b:Bool} {l:Addr} {xs:Array Value} {h:Heap} (S:SqAt b l xs h) (o:Obj):SqAt b l xs (h.push o):=by
 cases b
 ·exact Heap.IsList.push S o
 ·exact Heap.IsTuple.push S o
theorem SqAt.here {b:Bool} {l:Addr} {xs:Array Value} {h:Heap} (S:SqAt b l xs h):∃ o,h.get? l=some o:=by
 cases b
 ·obtain ⟨o,e,_⟩:=S;exact ⟨o,e⟩
 ·obtain ⟨o,e,_⟩:=S;exact ⟨o,e⟩
theorem SqAt.at {b:Bool} {l:Addr} {xs:Array Value} {h h':Heap} (S:SqAt b l xs h) (e:∀ o,h.get? l=some o->h'.get? l=some o):SqAt b l xs h':=by
 cases b
 ·exact Heap.IsList.at S e
 ·obtain ⟨o,q,r⟩:=S;exact ⟨o,e o q,r⟩
theorem SqAt.iter {b:Bool} {l:Addr} {xs:Array Value} {Q:Value->Shared->Prop} (S:SqAt b l xs s.heap) (hQ:Q (.ref s.heap.objs.size) { s with heap:=s.heap.push (Qy b l) }):wpAny (model prog w) A (pyIter (.ref l)) Q E s:=by
 cases b
 ·exact wpAny_pyIter_list S hQ
 ·exact wpAny_pyIter_tuple S hQ
theorem SqAt.src {b:Bool} {i l:Addr} {xs:Array Value} {h:Heap} (S:SqAt b l xs h) (e:h.get? i=some (Qy b l)):Src b i l xs 0 h:=by
 cases b
 ·exact ⟨⟨_,e,rfl,rfl⟩,S⟩
 ·exact ⟨⟨_,e,rfl,rfl⟩,S⟩
def zH2 (b1 b2:Bool) (h:Heap) (l1 l2:Addr):Heap:=(h.push (Qy b1 l1)).push (Qy b2 l2)
def zH5 (b1 b2:Bool) (h:Heap) (l1 l2:Addr):Heap:=(((zH2 b1 b2 h l1 l2).push { cls := .type "tuple",data := .seq #[.ref h.objs.size,.ref (h.objs.size + 1)] }).push { cls := .type "tuple",data := .seq #[.none,.none] }).push { cls := .type "zip",data := .fields #[.none,.bool false,.bool false,.ref (h.objs.size + 2),.ref (h.objs.size + 3)] }
theorem qBg (b1 b2:Bool) (l1 l2:Addr) (xs ys:Array Value) :
  Meets (Builtin.«zip.__new__» ⟨[.type "zip",.ref l1,.ref l2],[]⟩) (fun _ R s=>SqAt b1 l1 xs s.heap∧SqAt b2 l2 ys s.heap ∧
   R (.ok (.ret (.ref (s.heap.objs.size + 4)))) { s with heap:=zH5 b1 b2 s.heap l1 l2 }) :=
 .of_wp fun prog w A R s h=>by
  obtain ⟨hp,g,d,tk,os⟩:=s;obtain ⟨hl1,hl2,h⟩:=h
  have hsub:=sub_zip
  have hL1:SqAt b1 l1 xs (Shared.heap ⟨hp,g,d,tk,os⟩):=hl1
  have hL2:SqAt b2 l2 ys (Shared.heap ⟨hp.push (Qy b1 l1),g,d,tk,os⟩):=hl2.push _
  wp_walk using SqAt.iter hL1,SqAt.iter hL2
  refine ⟨_,rfl,?_⟩
  have z1:(hp.push (Qy b1 l1)).objs.size=hp.objs.size + 1:=Heap.size_push ..
  unfold zH5 zH2 at h
  simp only [Heap.size_push]
  exact h
theorem qDM {b1 b2:Bool} {l1 l2:Addr} {xs ys:Array Value} {Q:Value->Shared->Prop} (hl1:SqAt b1 l1 xs s.heap) (hl2:SqAt b2 l2 ys s.heap)
  (h:∀ h',IsZip h' (s.heap.objs.size + 4) (s.heap.objs.size + 2) (s.heap.objs.size + 3) .none->IsPair h' (s.heap.objs.size + 2) (.ref s.heap.objs.size) (.ref (s.heap.objs.size + 1)) ->
   IsPair h' (s.heap.objs.size + 3) .none .none->Src b1 s.heap.objs.size l1 xs 0 h'->Src b2 (s.heap.objs.size + 1) l2 ys 0 h' ->
   (∀ c o,s.heap.get? c=some o->h'.get? c=some o)->Q (.ref (s.heap.objs.size + 4)) { s with heap:=h' }) :
  wpAny (model prog w) A (call (.type "zip") [.ref l1,.ref l2]) Q E s:=by
 refine callType_new F.called_zip (by decide) (F.typeCall_zip_2 _ _) (F.newCall_zip_2 _ _) (fun obj=>F.args_object_init_3 obj _ _) F.entry_zip_new
  (qBg b1 b2 l1 l2 xs ys) ⟨hl1,hl2,?_⟩
 have z1:(s.heap.push (Qy b1 l1)).objs.size=s.heap.objs.size + 1:=Heap.size_push ..
 have z2:(zH2 b1 b2 s.heap l1 l2).objs.size=s.heap.objs.size + 2:=by unfold zH2;rw [Heap.size_push,z1]
 have g5:(zH5 b1 b2 s.heap l1 l2).get? (s.heap.objs.size + 4)=some { cls := .type "zip",data := .fields #[.none,.bool false,.bool false,.ref (s.heap.objs.size + 2),.ref (s.heap.objs.size + 3)] }:=by
  have:=Heap.get?_push_size (((zH2 b1 b2 s.heap l1 l2).push { cls := .type "tuple",data := .seq #[.ref s.heap.objs.size,.ref (s.heap.objs.size + 1)] }).push { cls := .type "tuple",data := .seq #[.none,.none] }) (o:={ cls := .type "zip",data := .fields #[.none,.bool false,.bool false,.ref (s.heap.objs.size + 2),.ref (s.heap.objs.size + 3)] }) rfl
  simp only [Heap.size_push,z2] at this
  exact this
 have g4:(zH5 b1 b2 s.heap l1 l2).get? (s.heap.objs.size + 3)=some { cls := .type "tuple",data := .seq #[.none,.none] }:=by
  have:=Heap.get?_push_size ((zH2 b1 b2 s.heap l1 l2).push { cls := .type "tuple",data := .seq #[.ref s.heap.objs.size,.ref (s.heap.objs.size + 1)] }) (o:={ cls := .type "tuple",data := .seq #[.none,.none] }) rfl
  simp only [Heap.size_push,z2] at this
  exact Heap.get?_push_of_some _ this
 have g3:(zH5 b1 b2 s.heap l1 l2).get? (s.heap.objs.size + 2)=some { cls := .type "tuple",data := .seq #[.ref s.heap.objs.size,.ref (s.heap.objs.size + 1)] }:=by
  have:=Heap.get?_push_size (zH2 b1 b2 s.heap l1 l2) (o:={ cls := .type "tuple",data := .seq #[.ref s.heap.objs.size,.ref (s.heap.objs.size + 1)] }) rfl
  rw [z2] at this
  exact Heap.get?_push_of_some _ (Heap.get?_push_of_some _ this)
 have up:∀ c o,(zH2 b1 b2 s.heap l1 l2).get? c=some o->(zH5 b1 b2 s.heap l1 l2).get? c=some o:=fun c o e=>Heap.get?_push_of_some _ (Heap.get?_push_of_some _ (Heap.get?_push_of_some _ e))
 have g2:(zH5 b1 b2 s.heap l1 l2).get? (s.heap.objs.size + 1)=some (Qy b2 l2):=by
  have:=Heap.get?_push_size (s.heap.push (Qy b1 l1)) (o:=Qy b2 l2) rfl
  rw [z1] at this
  exact up _ _ this
 have g1:(zH5 b1 b2 s.heap l1 l2).get? s.heap.objs.size=some (Qy b1 l1):=up _ _ (Heap.get?_push_of_some _ (Heap.get?_push_size _ rfl))
 have old:∀ c o,s.heap.get? c=some o->(zH5 b1 b2 s.heap l1 l2).get? c=some o:=fun c o e=>up _ _ (Heap.get?_push_of_some _ (Heap.get?_push_of_some _ e))
 show _∧_
 exact ⟨⟨_,g5,rfl⟩,h _ g5 g3 g4 ((hl1.at fun o e=>old _ o e).src g1) ((hl2.at fun o e=>old _ o e).src g2) old⟩
end
def SqG (b:Bool) (K:W.Frag) (H:Hp) (l:Addr) (xs:List V):Prop:=match b with
 |true=>SqT K H l xs
 |false=>SqL K H l xs
theorem zC {X:Cx} {pins:List (Addr×Obj)} {σ:L2.St} {H:Hp} {s:Shared} (I:L2.Inv X pins σ H s) {b:Bool} {l:Addr} {xs:List V} (h:SqG b X.K H l xs):∃ us:List Value,Vals xs us∧SqAt b l us.toArray s.heap:=by
 cases b
 ·obtain ⟨us,r,p,_⟩:=I.list h;exact ⟨us,r,p.isList⟩
 ·obtain ⟨us,r,p,_⟩:=I.tuple h;exact ⟨us,r,p⟩
theorem je {X:Cx} {pins:List (Addr×Obj)} {σ:L2.St} {H:Hp} {s:Shared} (I:L2.Inv X pins σ H s) {b:Bool} {l:Addr} {xs ys:List V} (h:SqG b X.K H l xs) (h':SqG b X.K H l ys):xs=ys:=by
 cases b
 ·exact I.list_inj h h'
 ·exact I.tuple_inj h h'
def qJ4 (b1 b2:Bool) (K:W.Frag) (l1 l2:Addr):It :=
 ⟨fun i H => ∃ xs ys x y,SqG b1 K H l1 xs∧SqG b2 K H l2 ys∧xs[i]? = some x∧ys[i]? = some y,
  fun i H v H' => ∃ T x y,H T=none∧v = .ref T∧H'=upd H T (.tup [x,y]) ∧ ∀ xs ys,SqG b1 K H l1 xs->SqG b2 K H l2 ys->xs[i]? = some x∧ys[i]? = some y,
  fun i H => ∃ xs ys,SqG b1 K H l1 xs∧SqG b2 K H l2 ys∧(xs.length≤i∨ys.length≤i)⟩
def IterAt (b:Bool) (i l:Addr) (k:Nat) (h:Heap):Prop:=match b with
 |true=>h.IsTupleIter i l k
 |false=>h.IsListIter i l k
theorem IterAt.at {b:Bool} {i l:Addr} {k:Nat} {h h':Heap} (S:IterAt b i l k h) (e:∀ o,h.get? i=some o->h'.get? i=some o):IterAt b i l k h':=by
 cases b
 ·exact Heap.IsListIter.at S e
 ·exact Heap.IsTupleIter.at S e
theorem IterAt.here {b:Bool} {i l:Addr} {k:Nat} {h:Heap} (S:IterAt b i l k h):∃ o,h.get? i=some o ∧ ∃ vs,o.data = .fields vs:=by
 cases b
 ·obtain ⟨o,e,_,d⟩:=S;exact ⟨o,e,_,d⟩
 ·obtain ⟨o,e,_,d⟩:=S;exact ⟨o,e,_,d⟩
theorem IterAt.src {b:Bool} {i l:Addr} {k:Nat} {xs:Array Value} {h:Heap} (S:IterAt b i l k h) (S2:SqAt b l xs h):Src b i l xs k h:=by
 cases b
 ·exact ⟨S,S2⟩
 ·exact ⟨S,S2⟩
theorem Src.iter {b:Bool} {i l:Addr} {k:Nat} {xs:Array Value} {h:Heap} (S:Src b i l xs k h):IterAt b i l k h:=by
 cases b
 ·exact S.1
 ·exact S.1
def qD4 (b1 b2:Bool) (z TI TO i1 i2 l1 l2:Addr) (i:Nat) (h:Heap):Prop:=IsZip h z TI TO .none∧IsPair h TI (.ref i1) (.ref i2)∧(∃ a b,IsPair h TO a b)∧IterAt b1 i1 l1 i h∧IterAt b2 i2 l2 i h
theorem qDH {P:Program} {w:World} {K:W.Frag} {A:Around} {elts:List Expr} {n:Nat} {pos:Pos} (hA:A.handled=none) (b1 b2:Bool) (z TI TO i1 i2 l1 l2:Addr) (D:ZipApart z TI TO i1 i2 l1 l2) :
  Turn P w K A (.Tuple elts n pos) (qJ4 b1 b2 K l1 l2) [z,TI,TO,i1,i2] z (qD4 b1 b2 z TI TO i1 i2 l1 l2) where
 mem:=by simp
 obj:=fun i h st b hb=>by
  obtain ⟨a1,a2,⟨a,c,a3⟩,s4,s5⟩:=st
  obtain ⟨o4,a4,_,d4⟩:=s4.here
  obtain ⟨o5,a5,_,d5⟩:=s5.here
  simp only [List.mem_cons,List.not_mem_nil,or_false] at hb
  rcases hb with rfl |rfl |rfl |rfl |rfl
  ·exact ⟨_,a1,fun v q=>by cases (show Data.fields _=Data.cell v from q)⟩
  ·exact ⟨_,a2,fun v q=>by cases (show Data.seq _ _=Data.cell v from q)⟩
  ·exact ⟨_,a3,fun v q=>by cases (show Data.seq _ _=Data.cell v from q)⟩
  ·exact ⟨_,a4,fun v q=>by rw [d4] at q;cases q⟩
  ·exact ⟨_,a5,fun v q=>by rw [d5] at q;cases q⟩
 keep:=fun i h h' st k=>by
  obtain ⟨a1,a2,⟨a,c,a3⟩,a4,a5⟩:=st
  exact ⟨k z (by simp) _ a1,k TI (by simp) _ a2,⟨a,c,k TO (by simp) _ a3⟩,a4.at fun o e=>k i1 (by simp) o e,a5.at fun o e=>k i2 (by simp) o e⟩
 item:=by
  intro X hP hw hK hA' i pins s σ H E I hf st hg
  subst hP hw hK
  obtain ⟨xs,ys,x,y,q1,q2,e1,e2⟩:=hg
  obtain ⟨a1,a2,⟨a,c,a3⟩,a4,a5⟩:=st
  obtain ⟨us,r1,p1⟩:=zC I q1
  obtain ⟨vs,r2,p2⟩:=zC I q2
  obtain ⟨u,g1,ru⟩:=r1.get e1
  obtain ⟨v,g2,rv⟩:=r2.get e2
  refine qDL D a1 a2 a3 (a4.src p1) (a5.src p2) (x:=u) (y:=v) (by simpa using g1) (by simpa using g2) fun h' z1 z2 z3 z4 z5 z7=>⟨_,rfl,?_⟩
  refine wpAny_letOwnedTupleGo_zip (s:={ s with heap:=h' }) z1 fun h2 y1 y2 => ?_
  have nz:s.heap.objs.size≠z:=Nat.ne_of_gt (Heap.lt_size a1)
  have oth:∀ b,b≠z->h2.get? b=h'.get? b:=fun b hb=>y2.2 b hb
  have tz:qD4 b1 b2 z TI TO i1 i2 l1 l2 (i + 1) h2:=⟨y1,(oth TI D.TIz).trans (z7 TI _ D.TIz D.TITO D.TIi1 D.TIi2 a2),⟨u,v,(oth TO D.TOz).trans z2⟩,z3.iter.at fun o e=>(oth i1 D.i1z).trans e,z4.iter.at fun o e=>(oth i2 D.i2z).trans e⟩
  have hT:IsPair h2 s.heap.objs.size u v:=(oth _ nz).trans z5
  have I2:=JP (t':=s.toks) (h':=h2) I hf ru rv (fun b o hb e=>(oth b fun q=>hb (by simp [q])).trans (z7 b o (fun q=>hb (by simp [q])) (fun q=>hb (by simp [q])) (fun q=>hb (by simp [q])) (fun q=>hb (by simp [q])) e)) (fun b hb=>by
   obtain ⟨b1,b2,⟨a',c',b3⟩,s4,s5⟩:=tz
   obtain ⟨o4,b4,_⟩:=s4.here
   obtain ⟨o5,b5,_⟩:=s5.here
   simp only [List.mem_cons,List.not_mem_nil,or_false] at hb
   rcases hb with rfl |rfl |rfl |rfl |rfl
   ·exact ⟨_,b1⟩
   ·exact ⟨_,b2⟩
   ·exact ⟨_,b3⟩
   ·exact ⟨_,b4⟩
   ·exact ⟨_,b5⟩) hT
  refine ⟨.ref s.heap.objs.size,_,I2,rfl,⟨_,x,y,I.hok.fresh (Nat.le_refl _),rfl,rfl,fun xs' ys' h1 h2 => ?_⟩,tz,fun b hb => ?_⟩
  ·rw [je I h1 q1,je I h2 q2];exact ⟨e1,e2⟩
  ·have:=(hf b hb).1
   have ne:b≠s.heap.objs.size:=by
    simp only [List.mem_cons,List.not_mem_nil,or_false] at hb
    obtain ⟨o4,b4,_⟩:=a4.here
    obtain ⟨o5,b5,_⟩:=a5.here
    rcases hb with rfl |rfl |rfl |rfl |rfl
    ·exact Nat.ne_of_lt (Heap.lt_size a1)
    ·exact Nat.ne_of_lt (Heap.lt_size a2)
    ·exact Nat.ne_of_lt (Heap.lt_size a3)
    ·exact Nat.ne_of_lt (Heap.lt_size b4)
    ·exact Nat.ne_of_lt (Heap.lt_size b5)
   rw [qL ne];exact this
 done:=by
  intro X hP hw hK hA' i pins s σ H E I hf st hg
  subst hP hw hK
  obtain ⟨xs,ys,q1,q2,e1⟩:=hg
  obtain ⟨a1,a2,⟨a,c,a3⟩,a4,a5⟩:=st
  obtain ⟨us,r1,p1⟩:=zC I q1
  obtain ⟨vs,r2,p2⟩:=zC I q2
  have n1:=r1.length
  have n2:=r2.length
  refine qFB (by rw [hA'];exact hA) D a1 a2 a3 (a4.src p1) (a5.src p2) (e1.imp (fun q=>by simp;omega) fun q=>by simp;omega) fun h' k=>⟨rfl,?_⟩
  have nf:∀ b u,H b=some u->b ∉ [z,TI,TO,i1,i2]:=fun b u e q=>by rw [(hf b q).1] at e;cases e
  have kk:∀ b o,b ∉ [z,TI,TO,i1,i2]->s.heap.get? b=some o->h'.get? b=some o:=fun b o hb e=>k b o (fun q=>hb (by simp [q])) (fun q=>hb (by simp [q])) (fun q=>hb (by simp [q])) (fun q=>hb (by simp [q])) e
  exact I.call (g':=s.gens) (d':=s.drawn) (t':=s.toks) (ch:=[z,TI,TO,i1,i2]) ⟨fun b o e _ _ hb=>kk b o hb e,fun b o e _ _ hb=>⟨o.slots,kk b o hb e⟩,fun b o e n _=>n,fun b o e hb=>⟨o,kk b o hb e⟩,fun b xs e=>e,fun b o u e=>e,fun b ps e=>⟨#[],by rw [e];simp⟩⟩
   (fun b u' e=>(I.hok b u' e).stay (fun c w hc q=>kk c w (hc.elim (fun z=>by rw [z];exact nf _ _ e) fun z=>nf _ _ z) q) (fun c q=>q) fun c xs q=>q) I.bare fun b hb=>⟨(hf b hb).2.2.2.1,(hf b hb).2.1,(hf b hb).2.2.2.2.1,(hf b hb).2.2.2.2.2⟩
 self:=fun _ _ _ _ _ st h=>wpAny_pyIter_zip st.1 h
section
variable {X:Cx} {a b:Expr} {ta:TA} {p pos:Pos} {elts:List Expr} {n:Nat} {tpos:Pos}
def qKN (K:W.Frag) (ta:TA):TI:=fun σ H R=>ta σ H fun vs H1 => ∃ b1 b2 l1 l2,vs=[.ref l1,.ref l2]∧(∃ xs,SqG b1 K H1 l1 xs)∧(∃ ys,SqG b2 K H1 l2 ys)∧R (qJ4 b1 b2 K l1 l2) H1
theorem qGP (hc:X.calm=true) (hg:Gl X "zip") (hm:X.mg "zip" = none) (ha:PA X [a,b] ta) (he:starEach [a,b] X.env=(false,eval a X.env)::starEach [b] X.env:=by rfl) (hpl:(backTo pos (starEach [b] X.env)).any (·.1)=false:=by rfl) :
  PI X (.Tuple elts n tpos) (.Call (.Name "zip" p) [a,b] [] pos) (qKN X.K ta):=by
 intro pins s σ H R I h
 refine wpAny_Call_Name_kw (Za I hg hm PyProof.Rows.boot_zip ?_)
 refine PyProof.Rows.callWith_type1 (thn (ha pos pins s σ H _ I h) fun us s1 ⟨vs,H1,I1,r1,q1⟩ => ?_) he hpl
 obtain ⟨b1,b2,l1,l2,rfl,⟨xs,h1⟩,⟨ys,h2⟩,q⟩:=q1
 obtain ⟨u,v,rfl,ru,rv⟩:=qCN r1
 cases ru
 cases rv
 obtain ⟨ts,r1,p1⟩:=zC I1 h1
 obtain ⟨ws,r2,p2⟩:=zC I1 h2
 refine qDM p1 p2 fun h' c1 c2 c3 c4 c5 c7 => ?_
 refine wpAny_pyIter_zip c1 ?_
 have lt1:l1 < s1.heap.objs.size:=by obtain ⟨_,e⟩:=p1.here;exact Heap.lt_size e
 have lt2:l2 < s1.heap.objs.size:=by obtain ⟨_,e⟩:=p2.here;exact Heap.lt_size e
 have I2:L2.Inv X pins σ H1 { s1 with heap:=h' }:=I1.kept (t':=s1.toks) c7
 refine ⟨_,_,_,_,H1,rfl,I2,qDH (I1.ok.hd hc) b1 b2 _ _ _ _ _ _ _ (PyProof.Rows.zipApart_new lt1 lt2),⟨c1,c2,⟨_,_,c3⟩,c4.iter,c5.iter⟩,fun c hc' => ?_,q⟩
 have hle:s1.heap.objs.size≤c:=by
  simp only [List.mem_cons,List.not_mem_nil,or_false] at hc'
  rcases hc' with rfl |rfl |rfl |rfl |rfl
  ·exact Nat.le_add_right _ _
  ·exact Nat.le_add_right _ _
  ·exact Nat.le_add_right _ _
  ·exact Nat.le_refl _
  ·exact Nat.le_add_right _ _
 exact I1.fpOk hle (I1.hok.fresh hle)
end
end EX
namespace EV
open PySem PySem.Spec PyProof.Rows L2 EX
section
variable {X:Cx} {E:XK} {e a c d:Expr} {es:List Expr} {f fa fb fc:FE} {fl:FL} {pos:Pos} {F G:FS}
def kQ:PV->Bool
 | .tup _=>true
 |_=>false
theorem zB {K:W.Frag} {H:Hp} {b:Bz} {st:qC} {p:PV} {v:V} {l:List PV} (S:SR K H b st) (r:RV K H b p v) (h:wt st p=some l) :
  ∃ x xs,v = .ref x∧SqG (kQ p) K H x xs∧RVs K H b l xs:=by
 unfold wt at h
 split at h
 ·cases h
  unfold RV at r
  obtain ⟨x,xs,rfl,h2,h3⟩:=r
  exact ⟨x,xs,rfl,h2.sq,h3⟩
 ·rename_i hp
  have:kQ p=false:=by unfold kQ;split <;> first |(exact absurd rfl (hp _)) |rfl
  rw [this]
  exact wQ S r h
def qEf (ps:List PV) (st:qC):Rs ItP:=match ps with
 |[p,q]=>match wt st p,wt st q with
  |some l,some m => .ok ⟨W7 l m,fun s=>wt s p=some l∧wt s q=some m⟩ st
  |_,_ => .no
 |_ => .no
def zy (t:FA):FI:=fun r st=>(t r st).bind qEf
theorem qCG {elts:List Expr} {n:Nat} {tpos p:Pos} {t:FA} (hc:X.calm=true) (hm:X.mg "zip" = none) (ha:VA X E [a,c] t) (hg:Gl X "zip" := by rfl) (he:starEach [a,c] X.env=(false,eval a X.env)::starEach [c] X.env:=by rfl) (hpl:(backTo pos (starEach [c] X.env)).any (·.1)=false:=by rfl) :
  VI X E (.Tuple elts n tpos) (.Call (.Name "zip" p) [a,c] [] pos) (zy t):=fun pins s σ H R I q=>qGP hc hg hm ha he hpl pins s σ H R I (by
 obtain ⟨b,r,st,S,RE,P⟩:=q
 refine ⟨b,r,st,S,RE,PostA.bindI P fun l s1 us H1 b1 e1 S1 r1 P1 => ?_⟩
 unfold qEf at P1
 split at P1
 ·rename_i p q
  obtain ⟨u,v,rfl,h1,h2⟩:=RVs.two r1
  split at P1
  ·rename_i l m el em
   obtain ⟨x,xs,rfl,k1,k2⟩:=zB S1 h1 el
   obtain ⟨y,ys,rfl,k3,k4⟩:=zB S1 h2 em
   refine ⟨kQ p,kQ q,x,y,rfl,⟨xs,k1⟩,⟨ys,k3⟩,P1 _ H1 b1 (Ext.refl _ _) S1 fun H2 b2 st2 e2 S2 g2 => ?_⟩
   obtain ⟨x',xs',ex,j1,j2⟩:=zB S2 (RV.wext e2 p h1) g2.1
   cases ex
   obtain ⟨y',ys',ey,j3,j4⟩:=zB S2 (RV.wext e2 q h2) g2.2
   cases ey
   refine ⟨fun i w hw => ?_,fun i hi => ?_⟩
   ·obtain ⟨x1,y1,w1,w2,rfl⟩:=qAG hw
    obtain ⟨v1,z1,z2⟩:=j2.get w1
    obtain ⟨v2,z3,z4⟩:=j4.get w2
    refine ⟨⟨xs',ys',v1,v2,j1,j3,z1,z3⟩,fun z H3 ⟨T,a1,a2,hn,hz,hH,ha⟩ => ?_⟩
    subst hz;subst hH
    obtain ⟨q1,q2⟩:=ha xs' ys' j1 j3
    rw [z1] at q1;cases q1
    rw [z3] at q2;cases q2
    refine ⟨fun b' o h=>by rw [qL (qM h hn)];exact h,S2.new hn,?_⟩
    unfold RV
    exact ⟨T,_,rfl,.inl ⟨qd,S2.new_notin hn⟩,RVs.cons (RV.wext (WE.new hn) _ z2) (RVs.cons (RV.wext (WE.new hn) _ z4) RVs.nil)⟩
   ·have hi:min l.length m.length≤i:=by rw [← Jp];exact hi
    exact ⟨xs',ys',j1,j3,by rw [← j2.length,← j4.length];omega⟩
  ·exact P1.elim
 ·exact P1.elim)
end
end EV
end
section
namespace EV
open PySem PySem.Spec PyProof.Rows L2 EX
section
variable {X:Cx} {E:XK}
def qIK (sc:Scope) (x:Str):Bool:=match sc.names.lookup x with
 |some .local=>true
 |some .cell=>true
 |some .free=>true
 |_=>false
theorem qJO {sc:Scope} {x:Str} (h:qIK sc x=true):Vis sc x:=by
 unfold qIK at h
 unfold Vis
 split at h
 ·rename_i e;exact .inl e
 ·rename_i e;exact .inr (.inl e)
 ·rename_i e;exact .inr (.inr e)
 ·cases h
theorem qG (i:Nat) {x:Str} {pos:Pos} (hN:X.N[i]? = some x:=by rfl) (hv:qIK X.env.scope x=true:=by rfl) (hd:((x==("__debug__":Str)) || (x==("__classdict__":Str)))=false:=by rfl):VE X E (.Name x pos) (qB i):=by
 rw [Bool.or_eq_false_iff] at hd
 exact qKY (pv i hN (qJO hv) hd.1 hd.2)
def frB (X:Cx):List (Str×NameKind)->Bool
 |[]=>true
 |(x,.free)::l=>(match X.env.kindOf x with |some .cell=>true |some .free=>true |_=>false)&&frB X l
 |_::l=>frB X l
theorem qDa:∀ {l:List (Str×NameKind)},frB X l=true -> ∀ x∈l,x.2 = .free->(X.env.kindOf x.1=some .cell∨X.env.kindOf x.1=some .free)
 |[],_,x,hx,_=>by cases hx
 |(y,k)::l,h,x,hx,hk=>by
  rcases List.mem_cons.mp hx with rfl |hx
  ·have hk:k = .free:=hk
   subst hk
   unfold frB at h
   rw [Bool.and_eq_true] at h
   have h:=h.1
   split at h
   ·rename_i e;exact .inl e
   ·rename_i e;exact .inr e
   ·cases h
  ·refine qDa (l:=l) ?_ x hx hk
   unfold frB at h
   split at h
   ·rename_i he;cases he
   ·rename_i he;cases he;rw [Bool.and_eq_true] at h;exact h.2
   ·rename_i he;cases he;exact h
def qG2 (X:Cx) (l:List (Str×NameKind)):List Str->List Nat->Prop
 |x::xs,j::js=>(X.N[j]? = some x∧l.lookup x=some .free)∧qG2 X l xs js
 |_,_=>True
theorem YO {x:Str} {k:NameKind}:∀ {l:List (Str×NameKind)},l.lookup x=some k->(x,k)∈l
 |[],h=>by cases h
 |(y,q)::l,h=>by
  rw [List.lookup_cons] at h
  split at h
  ·rename_i e;cases h;rw [eq_of_beq e];exact List.mem_cons_self
  ·exact List.mem_cons_of_mem _ (YO h)
theorem qBw {l:List (Str×NameKind)}:∀ {xs:List Str} {js:List Nat},qG2 X l xs js -> ∀ (i:Nat) (x:Str) (j:Nat),xs[i]? = some x->js[i]? = some j->X.N[j]? = some x∧(x,NameKind.free)∈l
 |[],_,_,i,x,j,h1,_=>by cases h1
 |_::_,[],_,i,x,j,_,h2=>by cases h2
 |a::xs,b::js,h,i,x,j,h1,h2=>by
  unfold qG2 at h
  cases i with
  |zero=>cases h1;cases h2;exact ⟨h.1.1,YO h.1.2⟩
  |succ i=>exact qBw h.2 i x j h1 h2
theorem wq {scope:Scope} {capN locN:List Str} {caps:List Nat} (h1:scope.kind = .function) (h2:(scope.names.map (·.1)).Nodup) (h3:frB X scope.names=true) (h4:capN.length=caps.length) (h5:qG2 X scope.names capN caps):CSc X scope capN locN caps :=
 ⟨h1,h2,qDa h3,h4,qBw h5⟩
end
end EV
end
section
namespace EX
open PySem PySem.Spec PyProof.Rows L2
end EX
namespace EV
open PySem PySem.Spec PyProof.Rows L2 EX
section
variable {X:Cx} {E:XK} {e a c d:Expr} {pos:Pos}
theorem RVs.three {K:W.Frag} {H:Hp} {b:Bz} {p q z:PV} {vs:List V} (h:RVs K H b [p,q,z] vs):∃ v w y,vs=[v,w,y]∧RV K H b p v∧RV K H b q w∧RV K H b z y:=by
 unfold RVs at h
 obtain ⟨x,r,rfl,h2,h3⟩:=h
 obtain ⟨y,w,rfl,h4,h5⟩:=RVs.two h3
 exact ⟨x,y,w,rfl,h2,h4,h5⟩
end
end EV
end
section
namespace EV
open PySem PySem.Spec PyProof.Rows L2 EX
section
variable {X:Cx} {E:XK} {e:Expr} {es:List Expr} {pos:Pos}
theorem qLc {a:Expr} {n:Str} {f:FE} {g:FA} (h:VE X E (.Attribute a n pos) f) (h2:VA X E es g):VA X E (.Attribute a n pos::es) (qA f g):=Qz h h2 rfl
end
end EV
end
section
namespace EX
open PySem PySem.Spec PyProof.Rows L2
structure RawAt (h:Heap) (d:Addr) (es:Array DictEntry) (ep:Nat):Prop where
 ex:∃ o,h.get? d=some o∧o.ExactDict∧o.data = .dict es ep
section
variable {prog:Program} {w:World} {A:Around} {E:Value->Shared->Prop} {s:Shared} {d it:Addr} {es:Array DictEntry} {ep i:Nat}
theorem RawAt.typeIs (m:RawAt s.heap d es ep):s.TypeIs (.ref d) "dict" := let ⟨o,h,c,_⟩:=m.ex;⟨o,h,c.1⟩
theorem qD3 {Q:Value->Shared->Prop} (hd:(d==sysModules)=false) (m:RawAt s.heap d es ep)
  (hQ:Q (.ref s.heap.objs.size) { s with heap:=s.heap.push { cls := .type "dict_keyiterator",data := .fields #[.ref d,.int 0 0,.int es.size 0,.int ep 0] } }):wpAny (model prog w) A (pyIter (.ref d)) Q E s:=by
 obtain ⟨o,ho,hc,hdat⟩:=m.ex
 refine wpAny_pyIter_slot m.typeIs F.slot_dict_iter (wpAny_call_entry F.slot_dict_iter m.typeIs F.entry_dict_iter ?_ (F.args_dict_iter_1 _))
 unfold Builtin.«dict.__iter__» Builtin.Dict.dictSlotNone Builtin.Dict.showsAll
 refine wpAny_bind (wpAny_bind (wpAny_notOrdered_dict m.typeIs (wpAny_pure ?_)))
 show wpAny _ _ ((if (d==sysModules)=true then _ else _) >>= _) _ _ s
 rw [if_neg (by rw [hd];exact Bool.false_ne_true)]
 refine wpAny_bind (wpAny_pure (wpAny_bind (wpAny_dictEntries ho hdat (wpAny_bind (wpAny_dictEpoch ho hdat ?_)))))
 exact wpAny_bind (wpAny_newObj_type (wpAny_pure ⟨_,rfl,"dict_keyiterator",_,⟨_,Heap.get?_push_size _ rfl,rfl⟩,F.slot_dict_keyiterator_next.lookup,by simpa [rawInt] using hQ⟩))
theorem qEU {Q:Option Value->Shared->Prop} (hit:s.heap.IsKeyIter it d i es.size ep) (m:RawAt s.heap d es ep) {e:DictEntry} (hx:es[i]? = some e)
  (hQ:∀ h',h'.IsKeyIter it d (i + 1) es.size ep->Heap.SameBut it s.heap h'->Q (some e.key) { s with heap:=h' }):wpAny (model prog w) A (pyNext (.ref it)) Q E s:=by
 obtain ⟨o,ho,hc,hd⟩:=id hit
 obtain ⟨od,hod,hcd,hdd⟩:=m.ex
 have hown:Builtin.Dict_items.ownsTuple "dict_keyiterator" = false:=by decide
 obtain ⟨hlt,rfl⟩:=Array.getElem?_eq_some_iff.mp hx
 unfold pyNext
 refine wpAny_bind (wpAny_attempt (wpAny_callSpecial?_slot (name:=Str.ofString "__next__") hit.typeIs F.slot_dict_keyiterator_next (wpAny_call_entry F.slot_dict_keyiterator_next hit.typeIs F.entry_dict_keyiterator_next ?_ (F.args_dict_keyiterator_next_1 _))))
 refine wpAny_bind (wpAny_pure (wpAny_bind (wpAny_bind ?_)))
 first |refine wpAny_bind (wpAny_typeNameOfWhole_keyiter hit.typeIs (wpAny_pure (wpAny_bind (wpAny_fieldsOf ho hd ?_)))) |refine wpAny_bind (wpAny_typeNameOf_keyiter hit.typeIs (wpAny_pure (wpAny_bind (wpAny_fieldsOf ho hd ?_))))
 simp only [hown,Bool.false_eq_true,if_false]
 show wpAny _ _ (if (Value.ref d==Value.none)=true then _ else _) _ _ s
 rw [if_neg (show ¬ ((Value.ref d==Value.none)=true) from Bool.false_ne_true)]
 refine wpAny_bind (wpAny_pure (wpAny_bind (wpAny_dictEntries hod hdd ?_)))
 rw [if_neg (by simp)]
 refine wpAny_bind (wpAny_pure (wpAny_bind (wpAny_dictEpoch hod hdd ?_)))
 rw [if_neg (by simp)]
 refine wpAny_pure ?_
 simp only [show ¬ ((i:Int) < 0) from by omega,if_false,Int.toNat_natCast,Array.getElem?_eq_getElem hlt]
 refine wpAny_bind ?_
 first |refine wpAny_bind (wpAny_typeNameOfWhole_keyiter hit.typeIs (wpAny_pure (wpAny_bind (wpAny_isOneOf_keyiter hit.typeIs ?_)))) |refine wpAny_bind (wpAny_typeNameOf_keyiter hit.typeIs (wpAny_pure (wpAny_bind (wpAny_isOneOf_keyiter hit.typeIs ?_))))
 show wpAny _ _ (setField (.ref it) 1 (rawInt ((i:Int) + 1)) >>= _) _ _ s
 refine wpAny_bind (wpAny_setField ho hd (by simp) ?_)
 have hit':(s.heap.update it (Obj.mapFields (·.setIfInBounds 1 (rawInt ((i:Int) + 1))))).IsKeyIter it d (i + 1) es.size ep:=⟨_,Heap.get?_update_self _ ho (Obj.isFreed_of_fields (Obj.data_mapFields hd _)),(Obj.cls_mapFields ..).trans hc,by rw [Obj.data_mapFields hd];simp [rawInt]⟩
 refine wpAny_bind (wpAny_holding (wpAny_bind (wpAny_isOneOf_keyiter (s:={ s with heap:=s.heap.update it (Obj.mapFields (·.setIfInBounds 1 (rawInt ((i:Int) + 1)))) }) hit'.typeIs ?_)))
 exact wpAny_pure (wpAny_pure ⟨_,rfl,wpAny_pure (hQ _ hit' (Heap.SameBut.update ..))⟩)
theorem qG3 {Q:Option Value->Shared->Prop} (hn:Hnd A s.heap) (z4:∀ v,A.handled=some v->v ≠ .ref it) (hit:s.heap.IsKeyIter it d i es.size ep) (m:RawAt s.heap d es ep) (hx:es.size≤i)
  (hQ:∀ h',(∀ b o,b≠it->s.heap.get? b=some o->h'.get? b=some o)->Q none { s with heap:=h' }):wpAny (model prog w) A (pyNext (.ref it)) Q E s:=by
 obtain ⟨o,ho,hc,hd⟩:=id hit
 obtain ⟨od,hod,hcd,hdd⟩:=m.ex
 have hown:Builtin.Dict_items.ownsTuple "dict_keyiterator" = false:=by decide
 unfold pyNext
 refine wpAny_bind (wpAny_attempt (wpAny_callSpecial?_slot (name:=Str.ofString "__next__") hit.typeIs F.slot_dict_keyiterator_next (wpAny_call_entry F.slot_dict_keyiterator_next hit.typeIs F.entry_dict_keyiterator_next ?_ (F.args_dict_keyiterator_next_1 _))))
 refine wpAny_bind (wpAny_pure (wpAny_bind (wpAny_bind ?_)))
 first |refine wpAny_bind (wpAny_typeNameOfWhole_keyiter hit.typeIs (wpAny_pure (wpAny_bind (wpAny_fieldsOf ho hd ?_)))) |refine wpAny_bind (wpAny_typeNameOf_keyiter hit.typeIs (wpAny_pure (wpAny_bind (wpAny_fieldsOf ho hd ?_))))
 simp only [hown,Bool.false_eq_true,if_false]
 show wpAny _ _ (if (Value.ref d==Value.none)=true then _ else _) _ _ s
 rw [if_neg (show ¬ ((Value.ref d==Value.none)=true) from Bool.false_ne_true)]
 refine wpAny_bind (wpAny_pure (wpAny_bind (wpAny_dictEntries hod hdd ?_)))
 rw [if_neg (by simp)]
 refine wpAny_bind (wpAny_pure (wpAny_bind (wpAny_dictEpoch hod hdd ?_)))
 rw [if_neg (by simp)]
 refine wpAny_pure ?_
 simp only [show ¬ ((i:Int) < 0) from by omega,if_false,Int.toNat_natCast,Array.getElem?_eq_none hx]
 refine wpAny_bind ?_
 first |refine wpAny_bind (wpAny_typeNameOfWhole_keyiter hit.typeIs (wpAny_pure ?_)) |refine wpAny_bind (wpAny_typeNameOf_keyiter hit.typeIs (wpAny_pure ?_))
 show wpAny _ A.in1 (setField (.ref it) 0 .none >>= _) _ _ s
 refine wpAny_bind (wpAny_setField ho hd (by simp) ?_)
 refine Wk (A:=A.in1) ?_ fun h' e k ht => ?_
 ·intro v hv
  obtain ⟨ea,oe,vs,e1,e2,e3⟩:=hn v hv
  refine ⟨ea,oe,vs,e1,?_,e3⟩
  have hne:ea≠it:=fun z=>z4 v hv (by rw [e1,z])
  exact (Heap.get?_update_other _ _ (Ne.symm hne)).trans e2
 ·refine wpAny_bind (wpAny_isInstance (T := "StopIteration") (b:=true) ht isSubtype_stop ?_)
  exact wpAny_pure (hQ _ fun b o' hb q=>k b o' ((Heap.get?_update_other _ _ (Ne.symm hb)).trans q))
theorem qDG {v:Addr} {Q:Value->Shared->Prop} (hv:s.heap.IsItemsView v d) (m:RawAt s.heap d es ep)
  (hQ:Q (.ref s.heap.objs.size) { s with heap:=s.heap.push { cls := .type "dict_itemiterator",data := .fields #[.none,.bool false,.ref d,.int 0 0,.int es.size 0,.int ep 0,.none,.none] } }):wpAny (model prog w) A (pyIter (.ref v)) Q E s:=by
 obtain ⟨ov,hov,hcv,hdv⟩:=id hv
 obtain ⟨o,ho,hc,hdat⟩:=m.ex
 have hown:Builtin.Dict_items.ownsTuple "dict_itemiterator" = true:=by decide
 refine wpAny_pyIter_slot hv.typeIs F.slot_dict_items_iter (wpAny_call_entry F.slot_dict_items_iter hv.typeIs F.entry_dict_items_iter ?_ (F.args_dict_items_iter_1 _))
 unfold Builtin.«dict_items.__iter__» Builtin.Dict_items.dictOf Builtin.Dict_items.newIterator
 refine wpAny_bind (wpAny_pure (wpAny_bind (wpAny_bind (wpAny_field hov hdv (x := .ref d) rfl (wpAny_pure (wpAny_bind (wpAny_bind (wpAny_dictEntries ho hdat (wpAny_bind (wpAny_dictEpoch ho hdat ?_))))))))))
 simp only [hown,if_true]
 refine wpAny_newObj_type (wpAny_pure ⟨_,rfl,"dict_itemiterator",_,⟨_,Heap.get?_push_size _ rfl,rfl⟩,F.slot_dict_itemiterator_next.lookup,?_⟩) (by simp only [sizeOk,Builtin.Dict_items.ownedTupleFields,List.size_toArray,List.length_append,List.length_cons,List.length_nil,sizeLine_eq];omega)
 simpa [rawInt,Builtin.Dict_items.ownedTupleFields] using hQ
theorem qCx {Q:Option Value->Shared->Prop} {ok ov:Value} (hit:IsItemIter s.heap it d i es.size ep ok ov) (m:RawAt s.heap d es ep) {e:DictEntry} (hx:es[i]? = some e)
  (hQ:∀ h',IsItemIterOut h' it d (i + 1) es.size ep e.key e.val s.heap.objs.size->h'.get? s.heap.objs.size=some { cls := .type "tuple",data := .seq #[e.key,e.val] } ->
   (∀ b o,b≠it->s.heap.get? b=some o->h'.get? b=some o)->Q (some (.ref s.heap.objs.size)) { s with heap:=h' }):wpAny (model prog w) A (pyNext (.ref it)) Q E s:=by
 obtain ⟨hp,g,dr,tk,os⟩:=s
 obtain ⟨od,hod,hcd,hdd⟩:=m.ex
 obtain ⟨hlt,rfl⟩:=Array.getElem?_eq_some_iff.mp hx
 have hT:Shared.TypeIs ⟨hp,g,dr,tk,os⟩ (.ref it) "dict_itemiterator" := ⟨_,hit,rfl⟩
 have hown:Builtin.Dict_items.ownsTuple "dict_itemiterator" = true:=by decide
 unfold pyNext
 refine wpAny_bind (wpAny_attempt (wpAny_callSpecial?_slot (name:=Str.ofString "__next__") hT F.slot_dict_itemiterator_next (wpAny_call_entry F.slot_dict_itemiterator_next hT F.entry_dict_itemiterator_next ?_ (F.args_dict_itemiterator_next_1 _))))
 refine wpAny_bind (wpAny_pure (wpAny_bind (wpAny_bind ?_)))
 first |refine wpAny_bind (wpAny_typeNameOfWhole_itemiter hT (wpAny_pure (wpAny_bind (wpAny_fieldsOf hit rfl ?_)))) |refine wpAny_bind (wpAny_typeNameOf_itemiter hT (wpAny_pure (wpAny_bind (wpAny_fieldsOf hit rfl ?_))))
 simp only [hown,if_true]
 show wpAny _ _ (if (Value.ref d==Value.none)=true then _ else _) _ _ _
 rw [if_neg (show ¬ ((Value.ref d==Value.none)=true) from Bool.false_ne_true)]
 refine wpAny_bind (wpAny_pure (wpAny_bind (wpAny_dictEntries hod hdd ?_)))
 rw [if_neg (by simp)]
 refine wpAny_bind (wpAny_pure (wpAny_bind (wpAny_dictEpoch hod hdd ?_)))
 rw [if_neg (by simp)]
 refine wpAny_pure ?_
 simp only [show ¬ ((i:Int) < 0) from by omega,if_false,Int.toNat_natCast,Array.getElem?_eq_getElem hlt]
 refine wpAny_bind ?_
 first |refine wpAny_bind (wpAny_typeNameOfWhole_itemiter hT (wpAny_pure (wpAny_bind (wpAny_isOneOf_itemiter hT ?_)))) |refine wpAny_bind (wpAny_typeNameOf_itemiter hT (wpAny_pure (wpAny_bind (wpAny_isOneOf_itemiter hT ?_))))
 show wpAny _ _ (setField (.ref it) 3 (rawInt ((i:Int) + 1)) >>= _) _ _ ⟨hp,g,dr,tk,os⟩
 refine wpAny_bind (wpAny_setField_rec hit (by simp) fun h1 k1 s1 => ?_)
 have s1:Heap.SameBut it hp h1:=s1
 have k1:IsItemIter h1 it d (i + 1) es.size ep ok ov:=by
  have e:((i + 1:Nat):Int)=(i:Int) + 1:=by omega
  unfold IsItemIter;rw [e];simpa [rawInt] using k1
 have T1:Shared.TypeIs ⟨h1,g,dr,tk,os⟩ (.ref it) "dict_itemiterator" := ⟨_,k1,rfl⟩
 refine wpAny_bind (wpAny_holding (wpAny_bind (wpAny_isOneOf_itemiter T1 (wpAny_bind (wpAny_isOneOf_itemiter T1 ?_)))))
 show wpAny _ _ (Builtin.Dict_items.pairFromOwner (.ref it) 6 es[i].key es[i].val) _ _ ⟨h1,g,dr,tk,os⟩
 unfold Builtin.Dict_items.pairFromOwner Builtin.Dict_items.ownedTupleIsFree
 refine wpAny_bind (wpAny_newTuple ?_)
 have z1:h1.objs.size=hp.objs.size:=s1.1
 have k2:IsItemIter (h1.push { cls := .type "tuple",data := .seq #[es[i].key,es[i].val] }) it d (i + 1) es.size ep ok ov:=Heap.get?_push_of_some _ k1
 have t2:(h1.push { cls := .type "tuple",data := .seq #[es[i].key,es[i].val] }).get? hp.objs.size=some { cls := .type "tuple",data := .seq #[es[i].key,es[i].val] }:=by rw [← z1];exact Heap.get?_push_size _ rfl
 have b2:∀ b o,b≠it->hp.get? b=some o->(h1.push { cls := .type "tuple",data := .seq #[es[i].key,es[i].val] }).get? b=some o:=fun b o hb q=>Heap.get?_push_of_some _ (s1.extBut b o hb q)
 have ne:hp.objs.size≠it:=Nat.ne_of_gt (Heap.lt_size hit)
 generalize h1.push { cls := .type "tuple",data := .seq #[es[i].key,es[i].val] }=h2 at k2 t2 b2 ⊢
 rw [z1]
 refine wpAny_bind (wpAny_bind (wpAny_field k2 rfl (x := .none) rfl (wpAny_pure ?_)))
 simp only [if_true]
 refine wpAny_bind (wpAny_field k2 rfl (x:=ok) rfl (wpAny_bind (wpAny_field k2 rfl (x:=ov) rfl ?_)))
 refine wpAny_bind (wpAny_setField_rec k2 (by simp) fun h3 k3 s3 => ?_)
 have k3:IsItemIter h3 it d (i + 1) es.size ep es[i].key ov:=k3
 have s3:Heap.SameBut it h2 h3:=s3
 refine wpAny_bind (wpAny_setField_rec k3 (by simp) fun h4 k4 s4 => ?_)
 have k4:IsItemIter h4 it d (i + 1) es.size ep es[i].key es[i].val:=k4
 have s4:Heap.SameBut it h3 h4:=s4
 refine wpAny_bind (wpAny_setField_rec k4 (by simp) fun h5 k5 s5 => ?_)
 have k5:IsItemIterOut h5 it d (i + 1) es.size ep es[i].key es[i].val hp.objs.size:=k5
 have s5:Heap.SameBut it h4 h5:=s5
 refine wpAny_bind (wpAny_setField_rec k5 (by simp) fun h6 k6 s6 => ?_)
 have k6:IsItemIterOut h6 it d (i + 1) es.size ep es[i].key es[i].val hp.objs.size:=k6
 have s6:Heap.SameBut it h5 h6:=s6
 have far:∀ b o,b≠it->h2.get? b=some o->h6.get? b=some o:=fun b o hb q=>s6.extBut b o hb (s5.extBut b o hb (s4.extBut b o hb (s3.extBut b o hb q)))
 exact wpAny_bind (wpAny_letGo (wpAny_pure (wpAny_pure ⟨_,rfl,wpAny_pure (hQ h6 k6 (far _ _ ne t2) fun b o hb q=>far b o hb (b2 b o hb q))⟩)))
theorem qDq {Q:Option Value->Shared->Prop} {ok ov:Value} (hn:Hnd A s.heap) (z4:∀ v,A.handled=some v->v ≠ .ref it) (hit:IsItemIter s.heap it d i es.size ep ok ov) (m:RawAt s.heap d es ep) (hx:es.size≤i)
  (hQ:∀ h',(∀ b o,b≠it->s.heap.get? b=some o->h'.get? b=some o)->Q none { s with heap:=h' }):wpAny (model prog w) A (pyNext (.ref it)) Q E s:=by
 obtain ⟨od,hod,hcd,hdd⟩:=m.ex
 have hT:s.TypeIs (.ref it) "dict_itemiterator" := ⟨_,hit,rfl⟩
 have hown:Builtin.Dict_items.ownsTuple "dict_itemiterator" = true:=by decide
 unfold pyNext
 refine wpAny_bind (wpAny_attempt (wpAny_callSpecial?_slot (name:=Str.ofString "__next__") hT F.slot_dict_itemiterator_next (wpAny_call_entry F.slot_dict_itemiterator_next hT F.entry_dict_itemiterator_next ?_ (F.args_dict_itemiterator_next_1 _))))
 refine wpAny_bind (wpAny_pure (wpAny_bind (wpAny_bind ?_)))
 first |refine wpAny_bind (wpAny_typeNameOfWhole_itemiter hT (wpAny_pure (wpAny_bind (wpAny_fieldsOf hit rfl ?_)))) |refine wpAny_bind (wpAny_typeNameOf_itemiter hT (wpAny_pure (wpAny_bind (wpAny_fieldsOf hit rfl ?_))))
 simp only [hown,if_true]
 show wpAny _ _ (if (Value.ref d==Value.none)=true then _ else _) _ _ s
 rw [if_neg (show ¬ ((Value.ref d==Value.none)=true) from Bool.false_ne_true)]
 refine wpAny_bind (wpAny_pure (wpAny_bind (wpAny_dictEntries hod hdd ?_)))
 rw [if_neg (by simp)]
 refine wpAny_bind (wpAny_pure (wpAny_bind (wpAny_dictEpoch hod hdd ?_)))
 rw [if_neg (by simp)]
 refine wpAny_pure ?_
 simp only [show ¬ ((i:Int) < 0) from by omega,if_false,Int.toNat_natCast,Array.getElem?_eq_none hx]
 refine wpAny_bind ?_
 first |refine wpAny_bind (wpAny_typeNameOfWhole_itemiter hT (wpAny_pure ?_)) |refine wpAny_bind (wpAny_typeNameOf_itemiter hT (wpAny_pure ?_))
 show wpAny _ A.in1 (setField (.ref it) 2 .none >>= _) _ _ s
 refine wpAny_bind (wpAny_setField hit rfl (by simp) ?_)
 refine Wk (A:=A.in1) ?_ fun h' e k ht => ?_
 ·intro v hv
  obtain ⟨ea,oe,vs,e1,e2,e3⟩:=hn v hv
  refine ⟨ea,oe,vs,e1,?_,e3⟩
  have hne:ea≠it:=fun z=>z4 v hv (by rw [e1,z])
  exact (Heap.get?_update_other _ _ (Ne.symm hne)).trans e2
 ·refine wpAny_bind (wpAny_isInstance (T := "StopIteration") (b:=true) ht isSubtype_stop ?_)
  exact wpAny_pure (hQ _ fun b o' hb q=>k b o' ((Heap.get?_update_other _ _ (Ne.symm hb)).trans q))
end
structure FrzD (H:Hp) (a:Addr) (od:Obj) (es:Array DictEntry) (ep:Nat) (kvs:List (List Key×V)):Prop where
 at_:H a=some (.frz od (.dT kvs))
 dat:od.data = .dict es ep
def Itd (a:Addr) (od:Obj) (es:Array DictEntry) (ep:Nat) (kvs:List (List Key×V)):It :=
 ⟨fun i H=>FrzD H a od es ep kvs∧i < kvs.length,fun i H x H'=>H'=H ∧ ∃ b k v,kvs[i]? = some (k,v)∧x = .ref b∧H b=some (.tup (k.map kV)),fun i H=>FrzD H a od es ep kvs∧kvs.length≤i⟩
def Iti (a:Addr) (od:Obj) (es:Array DictEntry) (ep:Nat) (kvs:List (List Key×V)):It :=
 ⟨fun i H=>FrzD H a od es ep kvs∧i < kvs.length,fun i H x H' => ∃ T b k v,H T=none∧x = .ref T∧H'=upd H T (.tup [.ref b,v])∧kvs[i]? = some (k,v)∧H b=some (.tup (k.map kV)),fun i H=>FrzD H a od es ep kvs∧kvs.length≤i⟩
theorem Yn {α β:Type} {F:α->β->Prop}:∀ {l:List α} {m:List β} {i:Nat} {x:α},Paired F l m->l[i]? = some x -> ∃ y,m[i]? = some y∧F x y
 |_,_,_,_,.nil,e=>by simp at e
 |_,_,0,_,.cons r _,e=>by simp at e;subst e;exact ⟨_,rfl,r⟩
 |_,_,i + 1,x,.cons _ t,e=>by
  obtain ⟨y,h1,h2⟩:=Yn (i:=i) (x:=x) t (by simpa using e)
  exact ⟨y,by simpa using h1,h2⟩
section
variable {P:Program} {w:World} {H:Hp} {h:Heap} {a:Addr} {od:Obj} {es:Array DictEntry} {ep:Nat} {kvs:List (List Key×V)}
theorem FrzD.raw (ok:HOk P w H h) (z:FrzD H a od es ep kvs):RawAt h a es ep∧es.size=kvs.length ∧
  ∀ (i:Nat) (k:List Key) (v:V),kvs[i]? = some (k,v) -> ∃ (e:DictEntry) (b:Addr) (u:Value),es[i]? = some e∧e.key = .ref b∧e.val=u∧H b=some (.tup (k.map kV))∧RelV v u:=by
 obtain ⟨e1,_,_,xs,r,o,es',ep',e2,ex,ed,el,_⟩:=(show ObjOk P w H h a (.frz od (.dT kvs)) from ok a _ z.at_)
 rw [e1] at e2;cases e2
 have q:=z.dat
 rw [ed] at q;cases q
 have hl:=r.length
 refine ⟨⟨od,e1,ex,ed⟩,?_,fun i k v hk => ?_⟩
 ·rw [← Array.length_toList,el,List.length_map];exact hl.symm
 ·obtain ⟨x,hx,p1,p2,p3⟩:=Yn r hk
  refine ⟨entryOfKey (tupleKind (Qe P w)) x,x.2.1,x.2.2,?_,rfl,rfl,p2,p3⟩
  rw [← Array.getElem?_toList,el,List.getElem?_map,hx];rfl
end
section
variable {P:Program} {w:World} {K:W.Frag} {A:Around} {a it:Addr} {od:Obj} {es:Array DictEntry} {ep:Nat} {kvs:List (List Key×V)}
theorem qCq {tg:Expr}:Turn P w K A tg (Itd a od es ep kvs) [it] it (fun i h=>h.IsKeyIter it a i es.size ep) where
 mem:=by simp
 obj:=fun i h st b hb=>by
  have e:b=it:=by simpa using hb
  subst e
  obtain ⟨o,e,c,d⟩:=st
  exact ⟨o,e,fun v z=>by rw [d] at z;cases z⟩
 keep:=fun i h h' ⟨o,e,r⟩ k=>⟨o,k it (by simp) o e,r⟩
 item:=by
  intro X hP hw hK _ i pins s σ H E I hf st hg
  subst hP hw hK
  obtain ⟨z,hi⟩:=hg
  obtain ⟨m,sz,get⟩:=z.raw I.hok
  obtain ⟨e,b,u,g1,g2,g3,g4,g5⟩:=get i _ _ (List.getElem?_eq_getElem hi)
  obtain ⟨f0,f1,f2,f3,f4,f5⟩:=hf it (by simp)
  refine qEU st m g1 fun h' st' sb => ?_
  have I1:L2.Inv X pins σ H { s with heap:=h' }:=I.turned (t':=s.toks) (fun b o hb e=>(sb.2 b hb).trans e) f0 f1 f3 f4 f5
  obtain ⟨o,e1,c,d⟩:=id st'
  exact ⟨e.key,rfl,qCL (s:={ s with heap:=h' }) e1 c d (by decide) ⟨.ref b,H,I1,by rw [g2];rfl,⟨rfl,b,_,_,List.getElem?_eq_getElem hi,rfl,g4⟩,st',fun b hb=>(hf b hb).1⟩⟩
 done:=by
  intro X hP hw hK _ i pins s σ H E I hf st hg
  subst hP hw hK
  obtain ⟨z,hi⟩:=hg
  obtain ⟨m,sz,get⟩:=z.raw I.hok
  obtain ⟨f0,f1,f2,f3,f4,f5⟩:=hf it (by simp)
  exact qG3 I.hndH (I.hndNe f0) st m (by omega) fun h' eb=>⟨rfl,I.turned (t':=s.toks) (fun b o hb e=>eb b o hb e) f0 f1 f3 f4 f5⟩
 self:=fun _ _ _ _ _ st h=>by
  refine wpAny_pyIter_slot st.typeIs F.slot_dict_keyiterator_iter (wpAny_call_entry F.slot_dict_keyiterator_iter st.typeIs F.entry_dict_keyiterator_iter ?_ (F.args_dict_keyiterator_iter_1 _))
  exact wpAny_bind (wpAny_pure (wpAny_pure ⟨_,rfl,"dict_keyiterator",_,st.typeIs,F.slot_dict_keyiterator_next.lookup,h⟩))
theorem qAu {elts:List Expr} {n:Nat} {pos:Pos}:Turn P w K A (.Tuple elts n pos) (Iti a od es ep kvs) [it] it (fun i h => ∃ ok ov,IsItemIter h it a i es.size ep ok ov) where
 mem:=by simp
 obj:=fun i h ⟨ok,ov,st⟩ b hb=>by
  have e:b=it:=by simpa using hb
  subst e
  exact ⟨_,st,fun v z=>by cases (show Data.fields _=Data.cell v from z)⟩
 keep:=fun i h h' ⟨ok,ov,st⟩ k=>⟨ok,ov,k it (by simp) _ st⟩
 item:=by
  intro X hP hw hK _ i pins s σ H E I hf st hg
  subst hP hw hK
  obtain ⟨z,hi⟩:=hg
  obtain ⟨ok,ov,st⟩:=st
  obtain ⟨m,sz,get⟩:=z.raw I.hok
  obtain ⟨e,b,u,g1,g2,g3,g4,g5⟩:=get i _ _ (List.getElem?_eq_getElem hi)
  refine qCx st m g1 fun h' y1 y2 y3=>⟨_,rfl,?_⟩
  refine wpAny_letOwnedTupleGo_items (s:={ s with heap:=h' }) y1 fun h2 x1 x2 => ?_
  have nt:s.heap.objs.size≠it:=Nat.ne_of_gt (Heap.lt_size st)
  have oth:∀ b o,b≠it->s.heap.get? b=some o->h2.get? b=some o:=fun b o hb q=>(x2.2 b hb).trans (y3 b o hb q)
  have hT:IsPair h2 s.heap.objs.size (.ref b) u:=by
   have:=(x2.2 _ nt).trans y2
   rw [g2,g3] at this;exact this
  have I2:=JP (t':=s.toks) (h':=h2) (x := .ref b) (y:=kvs[i].2) I hf rfl g5 (fun c o hc q=>oth c o (fun y=>hc (by simp [y])) q) (fun c hc=>by
   have e:c=it:=by simpa using hc
   subst e;exact ⟨_,x1⟩) hT
  refine ⟨.ref s.heap.objs.size,_,I2,rfl,⟨_,b,_,_,I.hok.fresh (Nat.le_refl _),rfl,rfl,List.getElem?_eq_getElem hi,g4⟩,⟨_,_,x1⟩,fun c hc => ?_⟩
  have e:c=it:=by simpa using hc
  subst e
  rw [qL (Ne.symm nt)];exact (hf c hc).1
 done:=by
  intro X hP hw hK _ i pins s σ H E I hf st hg
  subst hP hw hK
  obtain ⟨z,hi⟩:=hg
  obtain ⟨ok,ov,st⟩:=st
  obtain ⟨m,sz,get⟩:=z.raw I.hok
  obtain ⟨f0,f1,f2,f3,f4,f5⟩:=hf it (by simp)
  exact qDq I.hndH (I.hndNe f0) st m (by omega) fun h' eb=>⟨rfl,I.turned (t':=s.toks) (fun b o hb e=>eb b o hb e) f0 f1 f3 f4 f5⟩
 self:=fun _ _ _ _ _ ⟨ok,ov,st⟩ h=>by
  have hT:Shared.TypeIs _ (.ref it) "dict_itemiterator" := ⟨_,st,rfl⟩
  refine wpAny_pyIter_slot hT F.slot_dict_itemiterator_iter (wpAny_call_entry F.slot_dict_itemiterator_iter hT PySem.W.kcp_entry ?_ (F.args_dict_itemiterator_iter_1 _))
  exact wpAny_bind (wpAny_pure (wpAny_pure ⟨_,rfl,"dict_itemiterator",_,hT,F.slot_dict_itemiterator_next.lookup,h⟩))
end
section
variable {X:Cx} {pins:List (Addr×Obj)} {σ:L2.St} {H:Hp} {s:Shared} {a:Addr} {kvs:List (List Key×V)}
theorem qEy (I:L2.Inv X pins σ H s) (e:H a=some (.dT kvs)):∃ od es ep,od.data = .dict es ep∧L2.Inv X pins σ (upd H a (.frz od (.dT kvs))) s∧(a==sysModules)=false∧RawAt s.heap a es ep∧es.size=kvs.length:=by
 have ok:ObjOk X.prog X.w H s.heap a (.dT kvs):=I.hok a _ e
 obtain ⟨_,y,xs,r,o,es,ep,e1,ex,ed,el,nd⟩:=id ok
 have hl:=r.length
 refine ⟨o,es,ep,ed,?_,y,⟨o,e1,ex,ed⟩,by rw [← Array.length_toList,el,List.length_map];exact hl.symm⟩
 have:=I.write (x:=a) (e:=a) (o := .frz o (.dT kvs)) (h':=s.heap) (t':=s.toks) (by rw [e];exact True.intro) (.inl rfl) (fun b u _ q=>q) ⟨_,e1⟩ ⟨e1,ok.stay (fun b u _ q=>q) (fun b q=>by rw [qL (qCC q e (by nofun))];exact q) fun b xs q=>by rw [qL (qCC q e (by nofun))];exact q⟩
 exact this
theorem qEq {od:Obj} (I:L2.Inv X pins σ H s) (e:H a=some (.frz od (.dT kvs))) (h0:∀ o u,X.H₀ a≠some (.frz o u)) (hh:∀ v,X.A.handled=some v->v ≠ .ref a):L2.Inv X pins σ (upd H a (.dT kvs)) s:=by
 have ok:=(show ObjOk X.prog X.w H s.heap a (.frz od (.dT kvs)) from I.hok a _ e).2
 have ne:∀ b,H b=none->b≠a:=fun b n z=>by rw [z,e] at n;cases n
 have nt:∀ b u,H b=some u->(∀ o v,u ≠ .frz o v)->b≠a:=fun b u q n z=>by rw [z,e] at q;cases q;exact n _ _ rfl
 have nn:∀ b,H b=none->upd H a (.dT kvs) b=none:=fun b n=>by rw [qL (ne b n)];exact n
 have bs:=I.base
 refine ⟨I.ok,I.os,I.bare,⟨bs.keep,bs.slot,fun b o q n x=>nn b (bs.free b o q n x),bs.there,fun b xs q => ?_,fun b o u q => ?_,fun b ps q => ?_⟩,I.loc,I.cell,nn _ I.free,fun x c q=>nn _ (I.freeC x c q),fun p hp => ?_,fun b u q => ?_,I.len,fun v hv => ?_⟩
 ·have z:=bs.tups b xs q
  rw [qL (nt b _ z fun _ _ h=>nomatch h)];exact z
 ·have z:=bs.frzs b o u q
  rw [qL (fun y=>by rw [y] at q;exact h0 o u q)];exact z
 ·obtain ⟨more,z⟩:=bs.tbls b ps q
  exact ⟨more,by rw [qL (nt b _ z fun _ _ h=>nomatch h)];exact z⟩
 ·obtain ⟨z1,z2,z3,z4,z5⟩:=I.pin p hp
  exact ⟨z1,nn _ z2,z3,z4,z5⟩
 ·by_cases z:b=a
  ·subst z
   rw [qd] at q;cases q
   exact ok.stay (fun c v _ q=>q) (fun c q=>by rw [qL (nt c _ q fun _ _ h=>nomatch h)];exact q) fun c xs q=>by rw [qL (nt c _ q fun _ _ h=>nomatch h)];exact q
  ·rw [qL z] at q
   exact (I.hok b u q).stay (fun c v _ q=>q) (fun c q=>by rw [qL (nt c _ q fun _ _ h=>nomatch h)];exact q) fun c xs q=>by rw [qL (nt c _ q fun _ _ h=>nomatch h)];exact q
 ·obtain ⟨ea,oe,u,vs,z1,z2,z3⟩:=I.hnd v hv
  exact ⟨ea,oe,u,vs,z1,by rw [qL (fun y=>hh v hv (by rw [z1,y]))];exact z2,z3⟩
end
def NF (X:Cx) (a:Addr):Prop:=(∀ o u,X.H₀ a≠some (.frz o u)) ∧ ∀ v,X.A.handled=some v->v ≠ .ref a
section
variable {X:Cx} {tg:Expr}
theorem qHP {pins:List (Addr×Obj)} {σ:L2.St} {H:Hp} {s:Shared} {a:Addr} {kvs:List (List Key×V)} (I:L2.Inv X pins σ H s) (e:H a=some (.dT kvs)):NF X a:=by
 refine ⟨fun o u z => ?_,fun v hv z => ?_⟩
 ·have:=I.base.frzs a o u z
  rw [e] at this;cases this
 ·obtain ⟨ea,oe,u,vs,z1,z2,_⟩:=I.hnd v hv
  rw [z] at z1;cases z1
  rw [e] at z2;cases z2
def qKo (X:Cx) (tl:TE):TI:=fun σ H R=>tl σ H fun x H1 => ∃ a kvs,x = .ref a∧H1 a=some (.dT kvs) ∧ ∀ od es ep,od.data = .dict es ep->NF X a->R (Itd a od es ep kvs) (upd H1 a (.frz od (.dT kvs)))
def qIT (X:Cx) (tl:TE):TI:=fun σ H R=>tl σ H fun x H1 => ∃ a kvs,x = .ref a∧H1 a=some (.dT kvs) ∧ ∀ od es ep,od.data = .dict es ep->NF X a->R (Iti a od es ep kvs) (upd H1 a (.frz od (.dT kvs)))
theorem qFs {l:Expr} {tl:TE} (hl:PE X l tl):PI X tg l (qKo X tl):=by
 intro pins s σ H R I h
 refine thn (hl pins s σ H _ I h) fun v s1 ⟨x,H1,I1,r1,a,kvs,ex,e,q⟩ => ?_
 subst ex
 cases r1
 obtain ⟨od,es,ep,hd,I2,hs,m,sz⟩:=qEy I1 e
 refine qD3 hs m ?_
 have hf:upd H1 a (.frz od (.dT kvs)) s1.heap.objs.size=none:=I2.hok.fresh (Nat.le_refl _)
 refine ⟨s1.heap.objs.size,[s1.heap.objs.size],_,_,_,rfl,I2.kept (t':=s1.toks) fun b o e=>Heap.get?_push_of_some _ e,qCq,⟨_,Heap.get?_push_size _ rfl,rfl,rfl⟩,fun b hb => ?_,q od es ep hd (qHP I1 e)⟩
 have e:b=s1.heap.objs.size:=by simpa using hb
 subst e
 exact I2.fpOk (Nat.le_refl _) hf
theorem qD0 {l:Expr} {tl:TE} {apos cpos:Pos} {elts:List Expr} {n:Nat} {tpos:Pos} (hl:PE X l tl) (hbase:attributeBase l "items" X.env (eval l X.env)=eval l X.env:=by rfl) (hline:(apos.endLine==cpos.line)=true:=by rfl) :
  PI X (.Tuple elts n tpos) (.Call (.Attribute l "items" apos) [] [] cpos) (qIT X tl):=by
 intro pins s σ H R I h
 refine wpAny_Call_method0_late hbase hline (thn (hl pins s σ H _ I h) fun v s1 ⟨x,H1,I1,r1,a,kvs,ex,e,q⟩ => ?_)
 subst ex
 cases r1
 obtain ⟨t1,t2,_⟩:=qD1 I1 (.inr ⟨kvs,.inl e⟩)
 obtain ⟨od,es,ep,hd,I2,hs,m,sz⟩:=qEy I1 e
 refine ⟨"dict","dict.items",PySem.F.plainAttrs_dict,PySem.F.slot_dict_items,PySem.F.type_dict_items,t1,t2,Calls.callWith_builtin rfl (PySem.evalArgs_none ?_)⟩
 refine wpAny_call_entry PySem.F.slot_dict_items t1 PySem.F.entry_dict_items ?_ (PySem.F.args_dict_items_1 _)
 unfold Builtin.«dict.items» Builtin.Dict.noArgs Builtin.Dict.showsAll
 refine wpAny_bind (wpAny_bind (wpAny_notOrdered_dict t1 (wpAny_pure ?_)))
 show wpAny _ _ ((if (a==sysModules)=true then _ else _) >>= _) _ _ s1
 rw [if_neg (by rw [hs];exact Bool.false_ne_true)]
 refine wpAny_bind (wpAny_pure (wpAny_bind (wpAny_newObj_type (wpAny_pure ⟨_,rfl,?_⟩))))
 have k1:∀ b o,s1.heap.get? b=some o->(s1.heap.push { cls := .type "dict_items",data := .fields #[.ref a] }).get? b=some o:=fun b o q=>Heap.get?_push_of_some _ q
 have hv:(s1.heap.push { cls := .type "dict_items",data := .fields #[.ref a] }).IsItemsView s1.heap.objs.size a:=⟨_,Heap.get?_push_size _ rfl,rfl,rfl⟩
 have I3:=I2.kept (t':=s1.toks) (h':=s1.heap.push { cls := .type "dict_items",data := .fields #[.ref a] }) k1
 obtain ⟨oo,mm,mx⟩:=m.ex
 refine qDG (s:={ s1 with heap:=s1.heap.push { cls := .type "dict_items",data := .fields #[.ref a] } }) hv ⟨oo,k1 _ _ mm,mx⟩ ?_
 have hf:upd H1 a (.frz od (.dT kvs)) (s1.heap.push { cls := .type "dict_items",data := .fields #[.ref a] }).objs.size=none:=I3.hok.fresh (Nat.le_refl _)
 refine ⟨(s1.heap.push { cls := .type "dict_items",data := .fields #[.ref a] }).objs.size,[(s1.heap.push { cls := .type "dict_items",data := .fields #[.ref a] }).objs.size],_,_,_,rfl,I3.kept (t':=s1.toks) fun b o e=>Heap.get?_push_of_some _ e,qAu,⟨_,_,Heap.get?_push_size _ rfl⟩,fun b hb => ?_,q od es ep hd (qHP I1 e)⟩
 have e:b=(s1.heap.push { cls := .type "dict_items",data := .fields #[.ref a] }).objs.size:=by simpa using hb
 subst e
 exact I3.fpOk (Nat.le_refl _) hf
def thD (X:Cx) (D:Ends):Ends:={ nx:=fun σ H => ∃ a od kvs,H a=some (.frz od (.dT kvs))∧NF X a∧D.nx σ (upd H a (.dT kvs)),rt:=fun v H => ∃ a od kvs,H a=some (.frz od (.dT kvs))∧NF X a∧D.rt v (upd H a (.dT kvs)),bk:=fun _ _=>False,ct:=fun _ _=>False }
theorem qCE {st:Stmt} {t:TS} (h:PS X st t):PS X st (fun D=>t (thD X D)):=by
 intro pins s σ H D I q
 refine thn (h pins s σ H _ I q) fun f s1 z => ?_
 cases f with
 |next=>obtain ⟨σ',H',I',a,od,kvs,e,nf,q⟩:=z;exact ⟨σ',_,qEq I' e nf.1 nf.2,q⟩
 |ret u=>obtain ⟨v,σ',H',I',r',a,od,kvs,e,nf,q⟩:=z;exact ⟨v,σ',_,qEq I' e nf.1 nf.2,r',q⟩
 |brk=>obtain ⟨_,_,_,q⟩:=z;exact q.elim
 |cont=>obtain ⟨_,_,_,q⟩:=z;exact q.elim
end
theorem Zz:fillsNumberSlot (.type "tuple") "mul" = pure false :=
 PySem.fillsNumberSlot_seq (id := "tuple.__mul__") (r:=some (.builtin "tuple.__rmul__")) F.slot_tuple_mul.lookup (by decide +kernel) F.slot_tuple_rmul.lookup (by decide +kernel)
theorem JC:seqRepeat? (.type "tuple")=pure (some (.builtin "tuple.__mul__")):=by
 unfold seqRepeat?
 rw [PySem.seqSlot_of (T := "tuple") (name := "__mul__") (id := "tuple.__mul__") F.slot_tuple_mul.lookup (by decide +kernel),PySem.seqSlot_of (T := "tuple") (name := "__rmul__") (id := "tuple.__rmul__") F.slot_tuple_rmul.lookup (by decide +kernel)]
 rfl
theorem jV (a:Int) (t:Tok) (l:Addr) (items:Array Value) (n:Nat) (d:Option Addr) (sl:Array (Option Value)) :
  Meets (Builtin.«int.__rmul__» ⟨[.int a t,.ref l],[]⟩) (fun _ R s=>s.heap.get? l=some { cls := .type "tuple",dict:=d,data := .seq items n,slots:=sl }∧R (.ok (.ret Value.notImplemented)) s) :=
 .of_wp fun prog w A R s h=>by obtain ⟨hp,g,d,tk,os⟩:=s;obtain ⟨hl,h⟩:=h;wp_walk;exact ⟨_,rfl,h⟩
theorem Jo (l:Addr) (items:Array Value) (n:Nat) (d:Option Addr) (sl:Array (Option Value)) (u:Tok) :
  Meets (Builtin.«tuple.__mul__» ⟨[.ref l,.int 1 u],[]⟩) (fun _ R s=>s.heap.get? l=some { cls := .type "tuple",dict:=d,data := .seq items n,slots:=sl }∧R (.ok (.ret (.ref l))) s) :=
 .of_wp fun prog w A R s h=>by
  obtain ⟨hp,g,d,tk,os⟩:=s;obtain ⟨hl,h⟩:=h
  have f1:=PySem.AutoSeq1.idx_int
  wp_walk using wpAny_loadPart' hl
  exact ⟨_,rfl,h⟩
theorem qA2 (l:Addr) (items:Array Value) (n:Nat) (d:Option Addr) (sl:Array (Option Value)) (x:Int) (u:Tok) (h0:¬(x < -(2 ^ 63) || x ≥ 2 ^ 63)=true) (h1:¬(items.isEmpty || x==1)=true) (h2:¬(x≤0 || items.isEmpty)=true) (h3:¬items.size * x > (2 ^ 63 - 1) / 8) (h4:¬Builtin.Tuple.tupleTooMany (items.size * x)=true) (hsz:(List.foldl (fun x1 x2=>x1++x2) #[] (List.replicate x.toNat items)).size≤sizeLine) :
  Meets (Builtin.«tuple.__mul__» ⟨[.ref l,.int x u],[]⟩) (fun _ R s=>s.heap.get? l=some { cls := .type "tuple",dict:=d,data := .seq items n,slots:=sl }∧R (.ok (.ret (.ref s.heap.objs.size))) { s with heap:=s.heap.push { cls := .type "tuple",data := .seq (List.foldl (fun x1 x2=>x1++x2) #[] (List.replicate x.toNat items)) } }) :=
 .of_wp fun prog w A R s h=>by
  obtain ⟨hp,g,d,tk,os⟩:=s;obtain ⟨hl,h⟩:=h
  have f1:=PySem.AutoSeq1.idx_int
  wp_walk using wpAny_loadPart' hl
  rw [if_neg h0]
  wp_walk using wpAny_loadPart' hl
  rw [if_neg h3]
  wp_walk
  exact ⟨_,rfl,h⟩
section
variable {X:Cx}
def qKI (K:W.Frag):R2:=fun x y H Q => ∃ l k xs,x = .ref l∧y = .int k∧SqT K H l xs∧1≤k∧k < 2 ^ 40∧xs≠[]∧xs.length * k.toNat≤sizeLine ∧
 (k=1->Q (.ref l) H)∧(k≠1 -> ∀ p,H p=none->Q (.ref p) (upd H p (.tup (List.replicate k.toNat xs).flatten)))
theorem qGM:OpR X (binaryOp .Mult) (qKI X.K):=by
 intro pins s σ H x y v u Q I rx ry h
 obtain ⟨l,k,xs,rfl,rfl,hH,h1,h2,hne,hz,q1,q2⟩:=h
 cases rx
 obtain ⟨t,rfl⟩:=ry
 obtain ⟨its,r,p1,_⟩:=I.tuple hH
 obtain ⟨⟨c1,d1,a1,s1⟩,e,e1,m1,f1⟩:=id p1
 have e1:c1=_:=e1
 have f1:a1=_:=f1
 subst e1;subst f1
 have hl:=r.length
 have hne':its≠[]:=fun z=>hne (List.length_eq_zero_iff.mp (by rw [hl,z];rfl))
 refine wpAny_binaryOp_repeat_ref (T := "tuple") (U := "int") (by decide) ⟨_,e,rfl⟩ (fun s'=>typeIs_int s' k t) Zz F.fills_int_mul F.slot_int_rmul JC F.slot_int_index.lookup
  (call_meets F.slot_int_rmul (typeIs_int s k t) F.entry_int_rmul (F.args_int_rmul_2 _ _) (jV k t l its.toArray m1 d1 s1)
   ⟨e,rfl,⟨_,e,rfl⟩,?_⟩)
 by_cases hk:k=1
 ·subst hk
  exact call_meets F.slot_tuple_mul ⟨_,e,rfl⟩ F.entry_tuple_mul (F.args_tuple_mul_2 _ _) (Jo l its.toArray m1 d1 s1 t) ⟨e,.ref l,H,I,rfl,q1 rfl⟩
 ·have em:its.toArray.isEmpty=false:=by cases its with
   |nil=>exact absurd rfl hne'
   |cons a b=>rfl
  have hlen:its.toArray.size * k.toNat≤sizeLine:=by rw [List.size_toArray,← hl];exact hz
  have hle:(sizeLine:Nat)=2 ^ 24:=sizeLine_eq
  have hc:(its.toArray.size:Int) * k=((its.toArray.size * k.toNat:Nat):Int):=by rw [Int.natCast_mul,Int.toNat_of_nonneg (by omega)]
  have hnew:List.foldl (fun x1 x2=>x1++x2) #[] (List.replicate k.toNat its.toArray)=(List.replicate k.toNat its).flatten.toArray:=by
   have:=yD its k.toNat []
   rw [List.nil_append] at this
   exact this
  have hsz:(List.foldl (fun x1 x2=>x1++x2) #[] (List.replicate k.toNat its.toArray)).size≤sizeLine:=by
   rw [hnew,List.size_toArray,JQ,Nat.mul_comm];rw [List.size_toArray] at hlen;exact hlen
  refine call_meets F.slot_tuple_mul ⟨_,e,rfl⟩ F.entry_tuple_mul (F.args_tuple_mul_2 _ _) (qA2 l its.toArray m1 d1 s1 k t (by simp;omega) (by rw [em];simpa using hk) (by rw [em];simp;omega) (by rw [hc];omega) (by unfold Builtin.Tuple.tupleTooMany;rw [hc];simp only [decide_eq_true_eq];omega) hsz) ⟨e,?_⟩
  have rr:Vals (List.replicate k.toNat xs).flatten (List.replicate k.toNat its).flatten:=r.rep k.toNat
  rw [hnew]
  refine ⟨.ref _,_,I.laid (t':=s.toks) (o := .tup (List.replicate k.toNat xs).flatten) (fun _ _ q=>Heap.get?_push_of_some _ q) (Nat.le_refl _) ⟨by rw [JQ,Nat.mul_comm];exact hz,_,rr,IsTup.new s.heap _⟩,rfl,q2 hk _ I.fresh⟩
end
section
variable {X:Cx} {k v:Expr} {tk tv:TE} {pos:Pos}
def qHn (tk tv:TE):TE:=fun σ H Q => ∀ p,H p=none->tk σ (upd H p (.dT [])) fun x H1=>tv σ H1 fun y H2=>H2 p=some (.dT []) ∧ ∃ b k,x = .ref b∧H2 b=some (.tup (k.map kV))∧Q (.ref p) (upd H2 p (.dT [(k,y)]))
theorem qD2 (hu:X.A.units + 1 < cLine) (hk:PE X k tk) (hv:PE X v tv):PE X (.Dict [some k] [v] pos) (qHn tk tv):=by
 intro pins s σ H Q I q
 have hn:=I.hok.fresh (Nat.le_refl s.heap.objs.size)
 have I1:=I.laid (a:=s.heap.objs.size) (o := .dT []) (h':=s.heap.push { cls := .type "dict",data := .dict #[] }) (t':=s.toks) (fun _ _ q=>Heap.get?_push_of_some _ q) (Nat.le_refl _) (qAn s.heap I.big)
 have hp:PPs X pos [some k] [v] [(tk,tv)]:=qFA hk hv qGf
 rw [arm_eval_Dict,zip_pairTrees [some k] [v] X.env pos rfl rfl,dictDisplay_pairs _ (by simp [pairTrees]) (by simp [pairTrees])]
 refine wpAny_bind (wpAny_standAt (wpAny_bind ?_))
 unfold subDict
 refine wpAny_bind (wpAny_alloc ?_)
 refine wpAny_bind (wpAny_holding ?_)
 rw [if_pos (show (pairTrees [some k] [v] X.env pos).length≤15 by simp [pairTrees])]
 refine wpAny_bind (thn (hp pins _ σ _ (fun ps H2=>match ps with
  |[(x,y)]=>H2 s.heap.objs.size=some (.dT []) ∧ ∃ b k,x = .ref b∧H2 b=some (.tup (k.map kV))∧Q (.ref s.heap.objs.size) (upd H2 s.heap.objs.size (.dT [(k,y)]))
  |_=>False) I1 (q _ hn)) fun ws s2 ⟨ps,H2,I2,rel,q1⟩ => ?_)
 cases rel with
 |nil=>exact q1.elim
 | @cons p u ps us r t =>
  cases t with
  |cons _ _=>exact q1.elim
  |nil =>
   obtain ⟨x,y⟩:=p
   obtain ⟨u,w⟩:=u
   obtain ⟨e,b,kk,ex,eb,q2⟩:=q1
   have ex:x=_:=ex
   subst ex
   obtain ⟨r1,r2⟩:=r
   cases (show u=Value.ref b from r1)
   refine wpAny_holding ?_
   obtain ⟨z,hd,xs,rel,dd⟩:=qHJ I2.hok e
   cases rel
   refine wpAny_bind ?_
   rw [List.forIn_cons]
   refine wpAny_bind (wpAny_bind (wpAny_dictSet_heap (show X.A.units < cLine by omega) (YV I2.hok eb) dd fun h' dd' hs=>wpAny_pure ?_))
   show wpAny _ _ (forIn ([]:List (Value×Value)) PUnit.unit _) _ _ _
   rw [List.forIn_nil]
   refine wpAny_pure (wpAny_pure (wpAny_pure (wpAny_pure ⟨.ref s.heap.objs.size,_,?_,rfl,q2⟩)))
   obtain ⟨q,es,ep,hq,h2,h3,h4,_,h5⟩:=dd'
   refine JK I2 (by rw [e];exact True.intro) hs ⟨q,hq⟩ ⟨(show 1≤sizeLine by decide),hd,_,(KT.put (kvs:=[]) .nil kk eb r2).keeps fun c ys ec => ?_,q,es,ep,hq,h2,h3,h4,h5⟩
   rw [qL (qCC ec e (fun z=>nomatch z))]
   exact ec
end
end EX
end
section
namespace EV
open PySem PySem.Spec PyProof.Rows L2 EX
def wP:PV->Option (List L2.Key)
 | .tup (p::l)=>match wx yn (p::l) with
  |some ns=>some (ns.map Sum.inl)
  |none=>none
 |_=>none
def qBr (K:W.Frag):Prop := ∀ a ns,KT K a (ns.map V.int)->ns=[]
def qJ9 (K:W.Frag):Bool:=K.all fun p=>match p.2.data with
 | .seq its _=>match its.toList with
  | .int _ _::_=>match p.2.cls with
   | .type "tuple" => false
   |_=>true
  |_=>true
 |_=>true
theorem yN {a:Addr} {o:Obj}:∀ {l:List (Addr×Obj)},l.lookup a=some o -> ∃ c,(c,o)∈l
 |[],h=>by cases h
 |(q,k)::l,h=>by
  rw [List.lookup_cons] at h
  split at h
  ·cases h;exact ⟨q,List.mem_cons_self⟩
  ·obtain ⟨c,hc⟩:=yN h;exact ⟨c,List.mem_cons_of_mem _ hc⟩
theorem qGm {K:W.Frag} (h:qJ9 K=true):qBr K:=fun a ns ⟨o,its,n,h1,h2,h3,_,h5⟩=>by
 obtain ⟨c,hc⟩:=yN h1
 cases ns with
 |nil=>rfl
 |cons i ns =>
  have:=List.all_eq_true.mp h _ hc
  dsimp only at this
  rw [h3] at this
  dsimp only at this
  rw [List.map_cons] at h5
  cases hq:its.toList with
  |nil=>rw [hq] at h5;cases h5
  |cons u us =>
   rw [hq] at this h5
   cases h5 with
   |cons r _ =>
    obtain ⟨t,rfl⟩:=(show ∃ t,u=Value.int i t from r)
    rw [h2] at this
    cases this
section
variable {X:Cx} {E:XK} {e a c d o:Expr} {es:List Expr} {f fa fb fc fd fk fx:FE} {pos:Pos} {F G:FS}
theorem jg {K:W.Frag} {H:Hp} {b:Bz} {p:PV} {v:V} {k:List L2.Key} (nk:qBr K) (r:RV K H b p v) (h:wP p=some k):∃ a,v = .ref a∧H a=some (.tup (k.map kV)):=by
 unfold wP at h
 split at h
 ·rename_i p l
  split at h
  ·rename_i ns hn
   cases h
   unfold RV at r
   obtain ⟨a,xs,rfl,h2,h3⟩:=r
   have:=yb h3 hn
   subst this
   refine ⟨a,rfl,?_⟩
   rcases h2 with q |q
   ·rw [q.1];congr 2;simp [kV]
   ·have:=nk a ns q
    subst this
    have:=h3.length
    cases this
  ·cases h
 ·cases h
theorem Ext.newS {H:Hp} {b:Bz} {p:Addr} {o:HO} (h:H p=none):Ext H b (upd H p o) ⟨b.b++[p],b.z⟩ :=
 ⟨⟨⟨[p],rfl,fun a ha=>by rw [List.mem_singleton.mp ha];exact h⟩,⟨[],rfl,by simp⟩,fun a u e _=>by rw [qL (qM e h)];exact e,fun a u e=>⟨u,by rw [qL (qM e h)];exact e⟩⟩,rfl,fun a u _ e=>by rw [qL (qM e h)];exact e,fun a u _ e=>by rw [qL (qM e h)];exact e⟩
theorem SR.newS {K:W.Frag} {H:Hp} {b:Bz} {st:qC} (S:SR K H b st) {p:Addr} {o:HO} {x:SO} (h:H p=none) (hx:SOk K (upd H p o) ⟨b.b++[p],b.z⟩ x o):SR K (upd H p o) ⟨b.b++[p],b.z⟩ (st++[x]):=by
 have hn:=S.new_notin h
 refine ⟨by simp [S.len],?_,fun i y hy => ?_,fun a ha => ?_,fun a ha hm => ?_⟩
 ·exact List.nodup_append.mpr ⟨S.nd,by simp,fun a ha c hc=>by rw [List.mem_singleton.mp hc];intro z;subst z;exact hn.1 ha⟩
 ·by_cases hi:i < st.length
  ·rw [List.getElem?_append_left hi] at hy
   obtain ⟨a,u,h1,h2,h3⟩:=S.at_ i y hy
   exact ⟨a,u,(Ext.newS (b:=b) (o:=o) h).ix h1,by rw [qL (qM h2 h)];exact h2,h3.ext (Ext.newS h)⟩
  ·have hi':i=st.length:=by
    have:=(List.getElem?_eq_some_iff.mp hy).1
    rw [List.length_append,List.length_singleton] at this;omega
   subst hi'
   have e1:(st++[x])[st.length]? = some x:=by simp
   rw [e1] at hy;cases hy
   exact ⟨p,o,by show (b.b++[p])[st.length]? = some p;rw [← S.len];simp,qd,hx⟩
 ·obtain ⟨u,e⟩:=S.zo a ha
  exact ⟨u,by rw [qL (qM e h)];exact e⟩
 ·rcases List.mem_append.mp hm with q |q
  ·exact S.zb a ha q
  ·rw [List.mem_singleton.mp q] at ha;exact hn.2 ha
theorem qFw {K:W.Frag} {H H':Hp} {b:Bz} {st:qC} (S:SR K H b st) {p:Addr}:RV K H' ⟨b.b++[p],b.z⟩ (.ref st.length) (.ref p):=by
 unfold RV
 exact ⟨p,rfl,by show (b.b++[p])[st.length]? = some p;rw [← S.len];simp⟩
def qCa:FE:=fun _ st => .ok (.ref st.length) (st++[.d []])
theorem qCd:VE X E (.Dict [] [] pos) qCa:=PE.imp qEk fun s H Q ⟨b,r,st,S,R,P⟩ p hp =>
 P (.ref p) _ ⟨b.b++[p],b.z⟩ (Ext.newS hp) (S.newS (x := .d []) hp ⟨[],rfl,rfl,RVs.nil⟩) (qFw S)
def Zq (kvs:List (List L2.Key×PV)) (k:List L2.Key):Option PV:=(kvs.find? fun kv=>decide (kv.1=k)).map (·.2)
def Yy (kvs:List (List L2.Key×PV)) (k:List L2.Key) (v:PV):List (List L2.Key×PV) :=
 if (kvs.any fun kv=>decide (kv.1=k))=true then kvs.map (fun kv=>if kv.1=k then (kv.1,v) else kv) else kvs++[(k,v)]
theorem j5 {K:W.Frag} {H:Hp} {b:Bz} {k:List L2.Key}:∀ {kvs:List (List L2.Key×PV)} {vs:List (List L2.Key×V)},kvs.map (·.1)=vs.map (·.1)->RVs K H b (kvs.map (·.2)) (vs.map (·.2)) ->
  (∃ p v,Zq kvs k=some p∧ZT vs k=some v∧RV K H b p v)∨(Zq kvs k=none∧ZT vs k=none)
 |[],[],_,_ => .inr ⟨rfl,rfl⟩
 |[],_::_,h,_=>by cases h
 |_::_,[],h,_=>by cases h
 |(k1,p)::r,(k2,v)::vs,h,hr=>by
  rw [List.map_cons,List.map_cons] at h hr
  obtain ⟨h1,h2⟩:=List.cons.inj h
  unfold RVs at hr
  obtain ⟨x,xs,e1,e2,e3⟩:=hr
  obtain ⟨rfl,rfl⟩:=List.cons.inj e1
  by_cases e:k1=k
  ·exact .inl ⟨p,v,by simp [Zq,List.find?_cons,e],by simp [ZT,List.find?_cons,← e,show k1=k2 from h1],e2⟩
  ·have e':¬ k2=k:=fun z=>e ((show k1=k2 from h1).trans z)
   have:=j5 (k:=k) h2 e3
   simpa [Zq,ZT,List.find?_cons,e,e'] using this
theorem qGi {k:List L2.Key} {kvs:List (List L2.Key×PV)} {vs:List (List L2.Key×V)} (h:kvs.map (·.1)=vs.map (·.1)):(kvs.any fun kv=>decide (kv.1=k))=(vs.any fun kv=>decide (kv.1=k)):=by
 have h1:(kvs.any fun kv=>decide (kv.1=k))=(kvs.map (·.1)).any fun x=>decide (x=k):=by rw [List.any_map];rfl
 have h2:(vs.any fun kv=>decide (kv.1=k))=(vs.map (·.1)).any fun x=>decide (x=k):=by rw [List.any_map];rfl
 rw [h1,h2,h]
theorem qAo {K:W.Frag} {H:Hp} {b:Bz} {k:List L2.Key} {p:PV} {v:V} (rp:RV K H b p v):∀ {kvs:List (List L2.Key×PV)} {vs:List (List L2.Key×V)},kvs.map (·.1)=vs.map (·.1)->RVs K H b (kvs.map (·.2)) (vs.map (·.2)) ->
  (kvs.map (fun kv=>if kv.1=k then (kv.1,p) else kv)).map (·.1)=(vs.map (fun kv=>if kv.1=k then (kv.1,v) else kv)).map (·.1) ∧
  RVs K H b ((kvs.map (fun kv=>if kv.1=k then (kv.1,p) else kv)).map (·.2)) ((vs.map (fun kv=>if kv.1=k then (kv.1,v) else kv)).map (·.2))
 |[],[],_,_=>⟨rfl,RVs.nil⟩
 |[],_::_,h,_=>by cases h
 |_::_,[],h,_=>by cases h
 |(k1,q)::r,(k2,w)::vs,h,hr=>by
  rw [List.map_cons,List.map_cons] at h hr
  obtain ⟨h1,h2⟩:=List.cons.inj h
  unfold RVs at hr
  obtain ⟨x,xs,e1,e2,e3⟩:=hr
  obtain ⟨rfl,rfl⟩:=List.cons.inj e1
  have h1:k1=k2:=h1
  subst h1
  obtain ⟨i1,i2⟩:=qAo (k:=k) rp h2 e3
  by_cases e:k1=k
  ·exact ⟨by simp only [List.map_cons,e,if_true] at i1 ⊢;rw [i1],by simp only [List.map_cons,e,if_true];exact RVs.cons rp i2⟩
  ·exact ⟨by simp only [List.map_cons,e,if_false] at i1 ⊢;rw [i1],by simp only [List.map_cons,e,if_false];exact RVs.cons e2 i2⟩
theorem qGk {K:W.Frag} {H:Hp} {b:Bz} {k:List L2.Key} {p:PV} {v:V} (rp:RV K H b p v) {kvs:List (List L2.Key×PV)} {vs:List (List L2.Key×V)} (h:kvs.map (·.1)=vs.map (·.1)) (hr:RVs K H b (kvs.map (·.2)) (vs.map (·.2))) :
  (Yy kvs k p).map (·.1)=(ZV vs k v).map (·.1)∧RVs K H b ((Yy kvs k p).map (·.2)) ((ZV vs k v).map (·.2)):=by
 unfold Yy ZV
 rw [qGi h]
 by_cases q:(vs.any fun kv=>decide (kv.1=k))=true
 ·rw [if_pos q,if_pos q];exact qAo rp h hr
 ·rw [if_neg q,if_neg q]
  refine ⟨by rw [List.map_append,List.map_append,h];rfl,?_⟩
  rw [List.map_append,List.map_append]
  exact hr.append (RVs.cons rp RVs.nil)
def dAt (st:qC) (i:Nat):Option (List (List L2.Key×PV)):=match st[i]? with
 |some (.d kvs)=>some kvs
 |some (.z kvs)=>some kvs
 |_=>none
theorem qBm {K:W.Frag} {H:Hp} {b:Bz} {st:qC} {i:Nat} {a:Addr} {kvs:List (List L2.Key×PV)} (S:SR K H b st) (ha:b.b[i]? = some a) (h:dAt st i=some kvs):∃ vs,Rd H a (.dT vs)∧kvs.map (·.1)=vs.map (·.1)∧RVs K H b (kvs.map (·.2)) (vs.map (·.2)):=by
 unfold dAt at h
 split at h
 ·rename_i q e
  cases h
  obtain ⟨a',o,h1,h2,vs,rfl,h3,h4⟩:=S.at_ i _ e
  rw [ha] at h1;cases h1
  exact ⟨vs,.inl h2,h3,h4⟩
 ·rename_i q e
  cases h
  obtain ⟨a',o,h1,h2,od,vs,rfl,h3,h4⟩:=S.at_ i _ e
  rw [ha] at h1;cases h1
  exact ⟨vs,.inr ⟨od,h2⟩,h3,h4⟩
 ·cases h
def qBK:PV->PV->qC->Rs PV:=fun p q st=>match p with
 | .ref i=>match wP q,dAt st i with
  |some k,some kvs=>match Zq kvs k with
   |some v => .ok v st
   |none => .no
  |_,_ => .no
 |_ => .no
theorem qI5 (hu:X.A.units + 1 < cLine) (nk:qBr X.K) (ho:VE X E o fd) (hi:VE X E c fk) (hs:qJN c:=by exact fun _ _=>rfl):VE X E (.Subscript o c pos) (qH qBK fd fk) :=
 PE.imp (qFo hu ho hi hs) fun s H Q ⟨b,r,st,S,R,P⟩=>⟨b,r,st,S,R,PostE.bind P fun p s1 u H1 b1 e1 S1 r1 P1=>⟨b1,r,s1,S1,R.ext e1,PostE.bind P1 fun q s2 w H2 b2 e2 S2 r2 P2=>by
  unfold qBK at P2
  split at P2
  ·rename_i i
   split at P2
   ·rename_i k kvs hk hd
    have r1':=RV.ext e2 _ r1
    unfold RV at r1'
    obtain ⟨x,rfl,hx⟩:=r1'
    obtain ⟨y,rfl,hy⟩:=jg nk r2 hk
    obtain ⟨vs,g1,g2,g3⟩:=qBm S2 hx hd
    rcases j5 (k:=k) g2 g3 with ⟨p,v,v1,v2,v3⟩ |⟨v1,_⟩
    ·rw [v1] at P2
     exact ⟨x,v,rfl,.inr ⟨vs,k,y,g1,rfl,hy,v2.symm⟩,PostE.here P2 S2 v3⟩
    ·rw [v1] at P2;exact P2.elim
   ·exact P2.elim
  ·exact P2.elim⟩⟩
def zV (fd fk fx:FE):FE:=fun r st=>(fd r st).bind fun o s1=>match o with
 | .ref i=>match dAt s1 i with
  |some _=>(fk r s1).bind fun q s2=>(fx r s2).bind fun z s3=>match wP q,dAt s3 i with
   |some k,some kvs => .ok ((Zq kvs k).getD z) s3
   |_,_ => .no
  |none => .no
 |_ => .no
theorem Zi {apos cpos:Pos} (hu:X.A.units + 1 < cLine) (nk:qBr X.K) (ho:VE X E o fd) (he:VE X E e fk) (hf:VE X E d fx) (hbase:attributeBase o "get" X.env (eval o X.env)=eval o X.env:=by rfl)
  (hfew:((backTo cpos (starEach [e,d] X.env)).all (fun x => !x.1)&&(backToKw cpos (keywordEach [] X.env)).all (fun x=>x.1.isSome)&&decide ([e,d].length + ([]:List Keyword).length + (if ([]:List Keyword).isEmpty then 0 else 1) < 30))=true:=by rfl)
  (hline:(apos.endLine==cpos.line)=true:=by rfl) (ht:backTo cpos (starEach [e,d] X.env)=[(false,eval e X.env),(false,eval d X.env)]:=by rfl) :
  VE X E (.Call (.Attribute o "get" apos) [e,d] [] cpos) (zV fd fk fx) :=
 PE.imp (qEO hu ho he hf ⟨hbase,hfew,hline,ht⟩) fun s H Q ⟨b,r,st,S,R,P⟩=>⟨b,r,st,S,R,PostE.bind P fun p s1 u H1 b1 e1 S1 r1 P1=>by
  split at P1
  ·rename_i i
   split at P1
   ·rename_i kv0 hd0
    unfold RV at r1
    obtain ⟨x,rfl,hx⟩:=r1
    obtain ⟨vs0,g0,_,_⟩:=qBm S1 hx hd0
    refine ⟨x,rfl,.inr ⟨vs0,g0⟩,b1,r,s1,S1,R.ext e1,PostE.bind P1 fun q s2 w H2 b2 e2 S2 r2 P2=>⟨b2,r,s2,S2,(R.ext e1).ext e2,PostE.bind P2 fun z s3 y H3 b3 e3 S3 r3 P3 => ?_⟩⟩
    split at P3
    ·rename_i k kvs hk hd
     obtain ⟨c1,rfl,hy⟩:=jg nk (RV.ext e3 _ r2) hk
     obtain ⟨vs,g1,g2,g3⟩:=qBm S3 (e3.ix (e2.ix hx)) hd
     refine ⟨ZT vs k,.inr ⟨vs,k,c1,g1,rfl,hy,rfl⟩,?_⟩
     rcases j5 (k:=k) g2 g3 with ⟨p,v,v1,v2,v3⟩ |⟨v1,v2⟩
     ·rw [v1] at P3;rw [v2];exact PostE.here P3 S3 v3
     ·rw [v1] at P3;rw [v2];exact PostE.here P3 S3 r3
    ·exact P3.elim
   ·exact P1.elim
  ·exact P1.elim⟩
def zr (fd fk f:FE):FS:=fun r st=>(f r st).bindS fun p s1=>(fd r s1).bindS fun o s2=>(fk r s2).bindS fun q s3=>match o with
 | .ref i=>match wP q,s3[i]? with
  |some k,some (.d kvs)=>if kvs.length < sizeLine then .nx r (s3.set i (.d (Yy kvs k p))) else .no
  |_,_ => .no
 |_ => .no
theorem qCb {tpos:Pos} (hu:X.A.units + 1 < cLine) (nk:qBr X.K) (ho:VE X E o fd) (hi:VE X E c fk) (h:VE X E e f) (hs:swapsWith e (some (.Subscript o c tpos)) pos.line X.env=pure false:=by rfl) :
  VS X E (.Assign [.Subscript o c tpos] e pos) (zr fd fk f) :=
 PS.imp (qGq hu ho hi h hs) fun D s H ⟨b,r,st,S,R,P⟩=>⟨b,r,st,S,R,PostE.bindS P fun p s1 u H1 b1 e1 S1 r1 P1 =>
  ⟨b1,r,s1,S1,R.ext e1,PostE.bindS P1 fun o s2 w H2 b2 e2 S2 r2 P2=>⟨b2,r,s2,S2,(R.ext e1).ext e2,PostE.bindS P2 fun q s3 y H3 b3 e3 S3 r3 P3=>by
   split at P3
   ·rename_i i
    split at P3
    ·rename_i k kvs hk hd
     split at P3
     ·rename_i hl
      have r2':=RV.ext e3 _ r2
      unfold RV at r2'
      obtain ⟨x,rfl,hx⟩:=r2'
      obtain ⟨c1,rfl,hy⟩:=jg nk r3 hk
      obtain ⟨a',o',g1,g2,vs,rfl,g3,g4⟩:=S3.at_ i _ hd
      rw [hx] at g1;cases g1
      have hlen:kvs.length=vs.length:=by have:=congrArg List.length g3;simpa using this
      have hm:x∈b3.b:=List.mem_of_getElem? hx
      have ew:Ext H3 b3 (upd H3 x (.dT (ZV vs k u))) b3:=Ext.wr hm S3.zb (nfz g2 fun _ _ z=>nomatch z)
      refine ⟨x,_,rfl,DPut.t g2 hy (by rw [← hlen];exact hl),?_⟩
      obtain ⟨q1,q2⟩:=qGk (k:=k) (RV.ext ew _ (RV.ext e3 _ (RV.ext e2 _ r1))) g3 (RVs.ext ew _ g4)
      exact P3 s _ b3 ew (S3.wr (x := .d (Yy kvs k p)) hx ⟨_,rfl,q1,q2⟩) ((((R.ext e1).ext e2).ext e3).ext ew)
     ·exact P3.elim
    ·exact P3.elim
   ·exact P3.elim⟩⟩⟩
def YZ (fk fv:FE):FE:=fun r st=>(fk r (st++[.d []])).bind fun q s1=>(fv r s1).bind fun p s2=>match wP q,s2[st.length]? with
 |some k,some (.d []) => .ok (.ref st.length) (s2.set st.length (.d [(k,p)]))
 |_,_ => .no
theorem Jv (hu:X.A.units + 1 < cLine) (nk:qBr X.K) (hk:VE X E c fk) (hv:VE X E e f):VE X E (.Dict [some c] [e] pos) (YZ fk f) :=
 PE.imp (qD2 hu hk hv) fun s H Q ⟨b,r,st,S,R,P⟩ p hp=>by
  have e0:Ext H b (upd H p (.dT [])) ⟨b.b++[p],b.z⟩:=Ext.newS hp
  have S0:=S.newS (x := .d []) (o := .dT []) hp ⟨[],rfl,rfl,RVs.nil⟩
  have P:=PostE.ext P e0
  refine ⟨_,r,_,S0,R.ext e0,PostE.bind P fun q s1 w H1 b1 e1 S1 r1 P1=>⟨b1,r,s1,S1,(R.ext e0).ext e1,PostE.bind P1 fun z s2 y H2 b2 e2 S2 r2 P2 => ?_⟩⟩
  have hx:b2.b[st.length]? = some p:=e2.ix (e1.ix (by show (b.b++[p])[st.length]? = some p;rw [← S.len];simp))
  split at P2
  ·rename_i k hk hd
   obtain ⟨c1,rfl,hy⟩:=jg nk (RV.ext e2 _ r1) hk
   obtain ⟨a',o',g1,g2,vs,rfl,g3,g4⟩:=S2.at_ st.length _ hd
   rw [hx] at g1;cases g1
   have:vs=[]:=by cases vs with
    |nil=>rfl
    |cons _ _=>cases g3
   subst this
   have hm:p∈b2.b:=List.mem_of_getElem? hx
   have ew:Ext H2 b2 (upd H2 p (.dT [(k,y)])) b2:=Ext.wr hm S2.zb (nfz g2 fun _ _ z=>nomatch z)
   refine ⟨g2,c1,k,rfl,hy,?_⟩
   exact P2 (.ref p) _ b2 ew (S2.wr (x := .d [(k,z)]) hx ⟨_,rfl,rfl,RVs.cons (RV.ext ew _ r2) RVs.nil⟩) (by unfold RV;exact ⟨p,rfl,hx⟩)
  ·exact P2.elim
def qCj (fo:FE):FE:=fun r st=>(fo r st).bind fun o s=>match o with
 | .ref n=>match s[n]? with
  |some (.l xs)=>match xs[xs.length - 1]? with
   |some p => .ok p (s.set n (.l xs.dropLast))
   |none => .no
  |_ => .no
 |_ => .no
theorem RVs.dropLast {K:W.Frag} {H:Hp} {b:Bz} {l:List PV} {xs:List V} (h:RVs K H b l xs):RVs K H b l.dropLast xs.dropLast:=by
 rw [List.dropLast_eq_take,List.dropLast_eq_take,h.length];exact h.take _
theorem qIl {apos cpos:Pos} (ho:VE X E o f) (hbase:attributeBase o "pop" X.env (eval o X.env)=eval o X.env:=by rfl) (hline:(apos.endLine==cpos.line)=true:=by rfl):VE X E (.Call (.Attribute o "pop" apos) [] [] cpos) (qCj f) :=
 PE.imp (qJM PySem.F.plainAttrs_list PySem.F.slot_list_pop PySem.F.type_list_pop qHf ho hbase hline) fun s H Q ⟨b,r,st,S,R,P⟩=>⟨b,r,st,S,R,PostE.bind P fun o s1 u H1 b1 e1 S1 r1 P1=>by
  split at P1
  ·rename_i n
   split at P1
   ·rename_i xs ex
    split at P1
    ·rename_i p hp
     unfold RV at r1
     obtain ⟨x,rfl,hx⟩:=r1
     obtain ⟨x',o',h1,h2,vs,rfl,h4⟩:=S1.at_ n _ ex
     rw [hx] at h1;cases h1
     obtain ⟨y,hy,ry⟩:=h4.get hp
     have hm:x∈b1.b:=List.mem_of_getElem? hx
     have ew:Ext H1 b1 (upd H1 x (.lst vs.dropLast)) b1:=Ext.wr hm S1.zb (qF2 h2)
     exact ⟨.inl ⟨rfl,vs,SqL.of h2⟩,x,vs,y,rfl,rfl,h2,by rw [← h4.length];exact hy,P1 y _ b1 ew (S1.wr (x := .l xs.dropLast) hx ⟨_,rfl,(RVs.ext ew xs h4).dropLast⟩) (RV.ext ew p ry)⟩
    ·exact P1.elim
   ·exact P1.elim
  ·exact P1.elim⟩
def w6:PV->PV->qC->Rs PV:=fun p q st=>match p,q with
 | .tup l,.int k=>if l≠[]∧1≤k∧k < 2 ^ 40∧l.length * k.toNat≤sizeLine then .ok (.tup (List.replicate k.toNat l).flatten) st else .no
 |_,_ => .no
theorem ZA (ha:VE X E a fa) (hb:VE X E c fb):VE X E (.BinOp a .Mult c pos) (qH w6 fa fb):=ZN qGM (fun H b st p q u v Q S rp rq P=>by
 unfold w6 at P
 split at P
 ·rename_i l k
  split at P
  ·rename_i hl
   have rp0:=rp
   unfold RV at rp rq
   obtain ⟨x,xs,rfl,h2,h3⟩:=rp
   subst rq
   have n1:=h3.length
   refine ⟨x,k,xs,rfl,rfl,h2.sq,hl.2.1,hl.2.2.1,fun z=>hl.1 (List.length_eq_zero_iff.mp (by rw [n1,z];rfl)),by rw [← n1];exact hl.2.2.2,fun z => ?_,fun _ w hw=>PostE.layT P S (h3.rep k.toNat) hw⟩
   subst z
   have:(List.replicate (1:Int).toNat l).flatten=l:=by simp
   rw [this] at P
   exact PostE.here P S rp0
  ·exact P.elim
 ·exact P.elim) ha hb
theorem qBy {g:FG} {D:Ends} {J:It} {G:qC->Prop} {l:List PV} {H1:Hp} {b1:Bz} {r:qf} {st1:qC} {s:L2.St} (S1:SR X.K H1 b1 st1) (R1:REnv X.K H1 b1 r s)
  (it:∀ H' b2 st2,Ext H1 b1 H' b2->SR X.K H' b2 st2->G st2->(∀ (i:Nat) (p:PV),l[i]? = some p->J.go i H' ∧ ∀ x H2,J.yld i H' x H2->Same H' H2∧SR X.K H2 b2 st2∧RV X.K H2 b2 p x) ∧ ∀ i,l.length≤i->J.stop i H')
  (P1:PostS X.K E H1 b1 (qy G g F l r st1) D) :
  ∃ W:Nat->Nat->L2.St->Hp->Prop,(∃ m0,W 0 m0 s H1) ∧ ∀ i m σ' H',W i m σ' H'->(J.stop i H'∧D.nx σ' H')∨(J.go i H' ∧ ∃ N:L2.St->Hp->Prop,(∀ σ'' H'',N σ'' H'' -> ∃ m',m' < m∧W (i + 1) m' σ'' H'') ∧ ∀ x H2,J.yld i H' x H2->rdG X.K g x σ' H2 fun σ'' H''=>rdS X.K E0 F { nx:=N,ct:=N,bk:=D.nx,rt:=D.rt } σ'' H''):=by
 refine ⟨fun i m σ' H' => ∃ b2 r2 st2,Ext H1 b1 H' b2∧SR X.K H' b2 st2∧REnv X.K H' b2 r2 σ'∧m=l.length + 1 - i∧i≤l.length∧PostS X.K E H' b2 (qy G g F (l.drop i) r2 st2) D,⟨l.length + 1,b1,r,st1,Ext.refl _ _,S1,R1,by omega,Nat.zero_le _,by simpa using P1⟩,?_⟩
 rintro i m σ' H' ⟨b2,r2,st2,e2,S2,R2,hm,hi',P2⟩
 by_cases hlt:i < l.length
 ·have hd:l.drop i=l[i]::l.drop (i + 1):=List.drop_eq_getElem_cons hlt
  rw [hd] at P2
  unfold qy at P2
  by_cases hG:G st2
  ·rw [if_pos hG] at P2
   obtain ⟨h1,h2⟩:=it H' b2 st2 e2 S2 hG
   obtain ⟨go,yl⟩:=h1 i l[i] (List.getElem?_eq_getElem hlt)
   refine .inr ⟨go,fun σ3 H3 => ∃ b3 r3 st3,Ext H1 b1 H3 b3∧SR X.K H3 b3 st3∧REnv X.K H3 b3 r3 σ3∧PostS X.K E H3 b3 (qy G g F (l.drop (i + 1)) r3 st3) D,?_,?_⟩
   ·rintro σ3 H3 ⟨b3,r3,st3,k1,k2,k3,k4⟩
    exact ⟨l.length + 1 - (i + 1),by omega,b3,r3,st3,k1,k2,k3,rfl,hlt,k4⟩
   ·intro x H3 hx
    obtain ⟨e3',S3,r3⟩:=yl x H3 hx
    have e3:Ext H' b2 H3 b2:=Ext.of_same e3'
    cases eg:g l[i] r2 with
    |none=>rw [eg] at P2;exact P2.elim
    |some r4 =>
     rw [eg] at P2
     refine ⟨b2,r2,l[i],st2,S3,R2.ext e3,r3,r4,eg,fun s4 R4=>⟨b2,r4,st2,S3,R4,?_⟩⟩
     have P3:=PostS.ext P2 e3
     dsimp only at P3
     have e13:=e2.trans e3
     cases eF:F r4 st2 with
     |nx r5 s5=>rw [eF] at P3;exact fun s6 H6 b6 e6 S6 R6=>⟨b6,r5,s5,e13.trans e6,S6,R6,PostS.ext P3 e6⟩
     |ct r5 s5=>rw [eF] at P3;exact fun s6 H6 b6 e6 S6 R6=>⟨b6,r5,s5,e13.trans e6,S6,R6,PostS.ext P3 e6⟩
     |bk r5 s5=>rw [eF] at P3;exact P3
     |rt v s5=>rw [eF] at P3;exact P3
     |ex x s5=>rw [eF] at P3;exact P3.elim
     |no=>rw [eF] at P3;exact P3.elim
  ·rw [if_neg hG] at P2;exact P2.elim
 ·have hl:i=l.length:=by omega
  subst hl
  rw [List.drop_length] at P2
  unfold qy at P2
  by_cases hG:G st2
  ·rw [if_pos hG] at P2
   obtain ⟨h1,h2⟩:=it H' b2 st2 e2 S2 hG
   exact .inl ⟨h2 _ (Nat.le_refl _),P2 σ' H' b2 (Ext.refl _ _) S2 R2⟩
  ·rw [if_neg hG] at P2;exact P2.elim
theorem SR.tup_out {K:W.Frag} {H:Hp} {b:Bz} {st:qC} (S:SR K H b st) {x:Addr} {xs:List V} (h:H x=some (.tup xs)):b.out x:=by
 refine ⟨fun hm => ?_,fun hm => ?_⟩
 ·obtain ⟨i,hi⟩:=List.getElem?_of_mem hm
  have hl:i < b.b.length:=(List.getElem?_eq_some_iff.mp hi).1
  have hs:st[i]? = some (st[i]'(by rw [← S.len];exact hl)):=List.getElem?_eq_getElem _
  obtain ⟨a',o,h1,h2,h3⟩:=S.at_ i _ hs
  rw [hi] at h1;cases h1
  rw [h] at h2;cases h2
  cases hq:st[i]'(by rw [← S.len];exact hl) with
  |l xs=>rw [hq] at h3;obtain ⟨_,e,_⟩:=h3;cases e
  |d xs=>rw [hq] at h3;obtain ⟨_,e,_⟩:=h3;cases e
  |z xs=>rw [hq] at h3;obtain ⟨_,_,e,_⟩:=h3;cases e
 ·obtain ⟨ys,e⟩:=S.zo x hm
  rw [h] at e;cases e
def kp:L2.Key->PV
 | .inl i => .int i
 | .inr x => .str x
def w4 (k:List L2.Key):PV := .tup (k.map kp)
theorem qBL {K:W.Frag} {H:Hp} {b:Bz}:∀ k:List L2.Key,RVs K H b (k.map kp) (k.map kV)
 |[]=>RVs.nil
 | .inl i::k=>RVs.cons (by show RV K H b (.int i) (.int i);unfold RV;rfl) (qBL k)
 | .inr i::k=>RVs.cons (by show RV K H b (.str i) (.str i);unfold RV;rfl) (qBL k)
theorem qDc {K:W.Frag} {H:Hp} {b:Bz} {st:qC} (S:SR K H b st) {x:Addr} {k:List L2.Key} (h:H x=some (.tup (k.map kV))):RV K H b (w4 k) (.ref x):=by
 unfold w4 RV
 exact ⟨x,_,rfl,.inl ⟨h,S.tup_out h⟩,qBL k⟩
def qHI (i:Nat) (kvs:List (List L2.Key×PV)):RS->RS
 | .nx r st => .nx r (st.set i (.d kvs))
 | .rt v st => .rt v (st.set i (.d kvs))
 |_ => .no
def qCt (it:Bool) (kv:List L2.Key×PV):PV:=match it with
 |true => .tup [w4 kv.1,kv.2]
 |false=>w4 kv.1
noncomputable def zY (it:Bool) (fo:FE) (g:FG) (F:FS):FS:=fun r st=>(fo r st).bindS fun o s=>match o with
 | .ref i=>match s[i]? with
  |some (.d kvs)=>qHI i kvs (qy (fun _=>True) g F (kvs.map (qCt it)) r (s.set i (.z kvs)))
  |_ => .no
 |_ => .no
theorem Jy {H1 H':Hp} {b1 b':Bz} {x:Addr} {od:Obj} {vs:List (List L2.Key×V)} (e:Ext (upd H1 x (.frz od (.dT vs))) b1 H' b') (h:H1 x=some (.dT vs)) (hm:x∈b1.b) (hz:∀ y∈b1.z,y ∉ b1.b):Ext H1 b1 (upd H' x (.dT vs)) b':=by
 have nn:∀ y,upd H1 x (.frz od (.dT vs)) y=none->H1 y=none:=fun y hy=>by
  by_cases hx:y=x
  ·subst hx;rw [qd] at hy;cases hy
  ·rw [qL hx] at hy;exact hy
 obtain ⟨n,h1,h2⟩:=e.more
 obtain ⟨y,h3,h4⟩:=e.zm
 refine ⟨⟨⟨n,h1,fun a ha=>nn a (h2 a ha)⟩,⟨y,h3,fun a ha=>nn a (h4 a ha)⟩,fun a o ho hb => ?_,fun a o ho => ?_⟩,e.same,fun a o ha ho => ?_,fun a o u ho => ?_⟩
 ·have hx:a≠x:=fun z=>hb.1 (by rw [z];exact hm)
  rw [qL hx];exact e.keep a o (by rw [qL hx];exact ho) hb
 ·by_cases hx:a=x
  ·exact ⟨_,by rw [hx];exact qd⟩
  ·rw [qL hx];exact e.dom a o (by rw [qL hx];exact ho)
 ·have hx:a≠x:=fun z=>hz a ha (by rw [z];exact hm)
  rw [qL hx];exact e.hid a o ha (by rw [qL hx];exact ho)
 ·have hx:a≠x:=fun z=>by rw [z,h] at ho;cases ho
  rw [qL hx];exact e.fz a o u (by rw [qL hx];exact ho)
theorem Y3 {D:Ends} {H1:Hp} {b1:Bz} {s1:qC} {i:Nat} {x:Addr} {od:Obj} {kvs:List (List L2.Key×PV)} {vs:List (List L2.Key×V)} {o:RS} (S1:SR X.K H1 b1 s1) (hx:b1.b[i]? = some x) (h:H1 x=some (.dT vs)) (g3:kvs.map (·.1)=vs.map (·.1)) (g4:RVs X.K H1 b1 (kvs.map (·.2)) (vs.map (·.2))) (nf:NF X x)
  (P:PostS X.K E H1 b1 (qHI i kvs o) D):PostS X.K E (upd H1 x (.frz od (.dT vs))) b1 o (thD X D):=by
 have hm:x∈b1.b:=List.mem_of_getElem? hx
 cases o with
 |nx r st =>
  intro s H' b' e' S' R'
  have te:=Jy e' h hm S1.zb
  have hm':x∈b'.b:=List.mem_of_getElem? (e'.ix hx)
  exact ⟨x,od,vs,e'.fz x od _ qd,nf,P s _ b' te (S'.wr (x := .d kvs) (e'.ix hx) ⟨vs,rfl,g3,RVs.ext te _ g4⟩) (R'.wext (WE.wr (.inl hm')))⟩
 |rt v st =>
  intro u H' b' e' S' R'
  have te:=Jy e' h hm S1.zb
  have hm':x∈b'.b:=List.mem_of_getElem? (e'.ix hx)
  exact ⟨x,od,vs,e'.fz x od _ qd,nf,P u _ b' te (S'.wr (x := .d kvs) (e'.ix hx) ⟨vs,rfl,g3,RVs.ext te _ g4⟩) (RV.wext (WE.wr (.inl hm')) _ R')⟩
 |bk r st=>exact P.elim
 |ct r st=>exact P.elim
 |ex r st=>exact P.elim
 |no=>exact P.elim
structure Bef (K:W.Frag) (H1:Hp) (b1:Bz) (s1:qC) (i:Nat) (x:Addr) (kvs:List (List L2.Key×PV)) (vs:List (List L2.Key×V)):Prop where
 S:SR K H1 b1 s1
 ix:b1.b[i]? = some x
 h:H1 x=some (.dT vs)
 ks:kvs.map (·.1)=vs.map (·.1)
 rs:RVs K H1 b1 (kvs.map (·.2)) (vs.map (·.2))
theorem Bef.of {K:W.Frag} {H1:Hp} {b1:Bz} {s1:qC} {i:Nat} {u:V} {kvs:List (List L2.Key×PV)} (S:SR K H1 b1 s1) (r:RV K H1 b1 (.ref i) u) (hs:s1[i]? = some (.d kvs)):∃ x vs,u = .ref x∧Bef K H1 b1 s1 i x kvs vs:=by
 unfold RV at r
 obtain ⟨x,rfl,hx⟩:=r
 obtain ⟨a',o,h1,h2,vs,rfl,g3,g4⟩:=S.at_ i _ hs
 rw [hx] at h1;cases h1
 exact ⟨x,vs,rfl,S,hx,h2,g3,g4⟩
theorem Bef.fr {K:W.Frag} {H1:Hp} {b1:Bz} {s1:qC} {i:Nat} {x:Addr} {kvs:List (List L2.Key×PV)} {vs:List (List L2.Key×V)} (B:Bef K H1 b1 s1 i x kvs vs) (od:Obj):SR K (upd H1 x (.frz od (.dT vs))) b1 (s1.set i (.z kvs)) :=
 B.S.wr (x := .z kvs) B.ix ⟨od,vs,rfl,B.ks,RVs.wext (WE.wr (.inl (List.mem_of_getElem? B.ix))) _ B.rs⟩
theorem Bef.len {K:W.Frag} {H1:Hp} {b1:Bz} {s1:qC} {i:Nat} {x:Addr} {kvs:List (List L2.Key×PV)} {vs:List (List L2.Key×V)} (B:Bef K H1 b1 s1 i x kvs vs):kvs.length=vs.length:=by
 have:=congrArg List.length B.ks;simpa using this
theorem Bef.get {K:W.Frag} {H1:Hp} {b1:Bz} {s1:qC} {i:Nat} {x:Addr} {kvs:List (List L2.Key×PV)} {vs:List (List L2.Key×V)} (B:Bef K H1 b1 s1 i x kvs vs) {it:Bool} {j:Nat} {p:PV} (h:(kvs.map (qCt it))[j]? = some p):∃ k q v,p=qCt it (k,q)∧vs[j]? = some (k,v)∧j < vs.length∧(kvs.map (·.2))[j]? = some q:=by
 rw [List.getElem?_map] at h
 cases hk:kvs[j]? with
 |none=>rw [hk] at h;cases h
 |some kv =>
  rw [hk] at h;cases h
  have hj:j < vs.length:=by rw [← B.len];exact (List.getElem?_eq_some_iff.mp hk).1
  have e1:(kvs.map (·.1))[j]? = some kv.1:=by rw [List.getElem?_map,hk];rfl
  rw [B.ks,List.getElem?_map,List.getElem?_eq_getElem hj] at e1
  have e1:vs[j].1=kv.1:=Option.some.inj e1
  exact ⟨kv.1,kv.2,vs[j].2,rfl,by rw [List.getElem?_eq_getElem hj,← e1],hj,by rw [List.getElem?_map,hk];rfl⟩
theorem qGN {tg iter:Expr} {body:List Stmt} {g:FG} (ho:VE X E iter f) (hg:VG X.nox tg g) (hb:VSs X.nox E0 body F) (hs:∀ x,foldedSetIterable iter X.env x=pure x:=by intro _;rfl):VS X E (.For tg iter body [] pos) (zY false f g F):=by
 refine PS.imp (qCE (jv (qFs ho) hg hb hs)) fun D s H ⟨b,r,st,S,R,P⟩ => ?_
 refine ⟨b,r,st,S,R,PostE.bindS P fun p s1 u H1 b1 e1 S1 r1 P1 => ?_⟩
 split at P1
 ·rename_i i
  split at P1
  ·rename_i kvs hd
   obtain ⟨x,vs,rfl,B⟩:=Bef.of S1 r1 hd
   refine ⟨x,vs,rfl,B.h,fun od es ep hdat nf => ?_⟩
   have hm:x∈b1.b:=List.mem_of_getElem? B.ix
   refine qBy (B.fr od) ((R.ext e1).wext (WE.wr (.inl hm))) (fun H' b2 st2 e2 S2 _ => ?_) (Y3 B.S B.ix B.h B.ks B.rs nf P1)
   have fz:FrzD H' x od es ep vs:=⟨e2.fz x od _ qd,hdat⟩
   refine ⟨fun j p hp => ?_,fun j hj=>⟨fz,by rw [List.length_map,B.len] at hj;exact hj⟩⟩
   obtain ⟨k,q,v,rfl,hv,hj,_⟩:=B.get hp
   refine ⟨⟨fz,hj⟩,fun y H2 ⟨eH,c,k',v',h1,h2,h3⟩ => ?_⟩
   subst eH
   rw [hv] at h1;cases h1
   subst h2
   exact ⟨Same.refl _,S2,qDc S2 h3⟩
  ·exact P1.elim
 ·exact P1.elim
theorem qFy {iter:Expr} {body:List Stmt} {elts:List Expr} {n:Nat} {tpos apos cpos:Pos} {g:FG} (ho:VE X E iter f) (hg:VG X.nox (.Tuple elts n tpos) g) (hb:VSs X.nox E0 body F) (hs:∀ x,foldedSetIterable (.Call (.Attribute iter "items" apos) [] [] cpos) X.env x=pure x:=by intro _;rfl)
  (hbase:attributeBase iter "items" X.env (eval iter X.env)=eval iter X.env:=by rfl) (hline:(apos.endLine==cpos.line)=true:=by rfl):VS X E (.For (.Tuple elts n tpos) (.Call (.Attribute iter "items" apos) [] [] cpos) body [] pos) (zY true f g F):=by
 refine PS.imp (qCE (jv (qD0 ho hbase hline) hg hb hs)) fun D s H ⟨b,r,st,S,R,P⟩ => ?_
 refine ⟨b,r,st,S,R,PostE.bindS P fun p s1 u H1 b1 e1 S1 r1 P1 => ?_⟩
 split at P1
 ·rename_i i
  split at P1
  ·rename_i kvs hd
   obtain ⟨x,vs,rfl,B⟩:=Bef.of S1 r1 hd
   refine ⟨x,vs,rfl,B.h,fun od es ep hdat nf => ?_⟩
   have hm:x∈b1.b:=List.mem_of_getElem? B.ix
   refine qBy (B.fr od) ((R.ext e1).wext (WE.wr (.inl hm))) (fun H' b2 st2 e2 S2 _ => ?_) (Y3 B.S B.ix B.h B.ks B.rs nf P1)
   have fz:FrzD H' x od es ep vs:=⟨e2.fz x od _ qd,hdat⟩
   refine ⟨fun j p hp => ?_,fun j hj=>⟨fz,by rw [List.length_map,B.len] at hj;exact hj⟩⟩
   obtain ⟨k,q,v,rfl,hv,hj,hq⟩:=B.get hp
   refine ⟨⟨fz,hj⟩,fun y H2 ⟨T,c,k',v',hT,h1,h2,h3,h4⟩ => ?_⟩
   rw [hv] at h3;cases h3
   subst h1;subst h2
   have en:Ext H' b2 (upd H' T (.tup [.ref c,v])) b2:=Ext.new hT
   obtain ⟨w,hw,rw'⟩:=(RVs.ext e2 _ (RVs.wext (WE.wr (.inl hm)) _ B.rs)).get hq
   rw [List.getElem?_map,hv] at hw;cases hw
   refine ⟨fun a o q=>by rw [qL (qM q hT)];exact q,S2.new hT,?_⟩
   show RV X.K _ b2 (.tup [w4 k,q]) (.ref T)
   unfold RV
   exact ⟨T,_,rfl,.inl ⟨qd,S2.new_notin hT⟩,RVs.cons (RV.ext en _ (qDc S2 h4)) (RVs.cons (RV.ext en _ rw') RVs.nil)⟩
  ·exact P1.elim
 ·exact P1.elim
end
end EV
end
section
namespace EX
open PySem PySem.Spec PyProof.Rows L2
theorem Src.draws {prog:Program} {w:World} {A:Around} (hA:A.handled=none) (b:Bool) (i l:Addr) (hne:l≠i) (xs:Array Value):Draws prog w A i [i,l] xs.size (fun k x=>xs[k]? = some x) (fun k h=>Src b i l xs k h) where
 live:=fun k h S=>let ⟨o,e,_⟩:=S.here;⟨o,e⟩
 frame:=fun k h h' S q=>S.keep (fun o e=>q i (by simp) o e) fun o e=>q l (by simp) o e
 item:=fun k s Q E hk S hQ=>Src.item S hne (Array.getElem?_eq_getElem hk) fun h' S' sb=>hQ _ h' s.toks (Array.getElem?_eq_getElem hk) S' sb
 done:=fun s Q E S hE=>Src.over hA S (by simp) hE
def Y4 (i:Addr):Obj:={ cls := .type "enumerate",data := .fields #[.none,.bool false,.ref i,rawInt 0,.none,.none] }
theorem qAF (b:Bool) (l:Addr) (xs:Array Value) :
  Meets (Builtin.«enumerate.__new__» ⟨[.type "enumerate",.ref l],[]⟩) (fun _ R s=>SqAt b l xs s.heap∧R (.ok (.ret (.ref (s.heap.objs.size + 1)))) { s with heap:=(s.heap.push (Qy b l)).push (Y4 s.heap.objs.size) }) :=
 .of_wp fun prog w A R s h=>by
  obtain ⟨hp,g,d,tk,os⟩:=s;obtain ⟨hl,h⟩:=h
  have hsub:=sub_enumerate
  have hL:SqAt b l xs (Shared.heap ⟨hp,g,d,tk,os⟩):=hl
  have z1:(hp.push (Qy b l)).objs.size=hp.objs.size + 1:=Heap.size_push ..
  wp_walk
  refine wpAny_stack_any fun st=>wpAny_pure ?_
  split
  ·rename_i c _ _ _ _ _
   cases (c==Value.type "enumerate")
   ·wp_walk using SqAt.iter hL
    exact ⟨_,rfl,by simp only [Heap.size_push];exact h⟩
   ·wp_walk using SqAt.iter hL
    exact ⟨_,rfl,by simp only [Heap.size_push];exact h⟩
  ·wp_walk using SqAt.iter hL
   exact ⟨_,rfl,by simp only [Heap.size_push];exact h⟩
section
variable {prog:Program} {w:World} {A:Around} {E:Value->Shared->Prop} {s:Shared}
theorem qBV {b:Bool} {l:Addr} {xs:Array Value} {Q:Value->Shared->Prop} (hl:SqAt b l xs s.heap)
  (h:∀ h',IsEnum h' (s.heap.objs.size + 1) s.heap.objs.size 0 .none->Src b s.heap.objs.size l xs 0 h'->(∀ c o,s.heap.get? c=some o->h'.get? c=some o)->Q (.ref (s.heap.objs.size + 1)) { s with heap:=h' }) :
  wpAny (model prog w) A (call (.type "enumerate") [.ref l]) Q E s:=by
 refine callType_new F.called_enumerate (by decide) (F.typeCall_enumerate_1 _) (F.newCall_enumerate_1 _) (fun obj=>F.args_object_init_2 obj _) F.entry_enumerate_new (qAF b l xs) ⟨hl,?_⟩
 have z1:(s.heap.push (Qy b l)).objs.size=s.heap.objs.size + 1:=Heap.size_push ..
 have g2:((s.heap.push (Qy b l)).push (Y4 s.heap.objs.size)).get? (s.heap.objs.size + 1)=some (Y4 s.heap.objs.size):=by
  have:=Heap.get?_push_size (s.heap.push (Qy b l)) (o:=Y4 s.heap.objs.size) rfl
  rw [z1] at this
  exact this
 have g1:((s.heap.push (Qy b l)).push (Y4 s.heap.objs.size)).get? s.heap.objs.size=some (Qy b l):=Heap.get?_push_of_some _ (Heap.get?_push_size _ rfl)
 have old:∀ c o,s.heap.get? c=some o->((s.heap.push (Qy b l)).push (Y4 s.heap.objs.size)).get? c=some o:=fun c o e=>Heap.get?_push_of_some _ (Heap.get?_push_of_some _ e)
 show _∧_
 exact ⟨⟨_,g2,rfl⟩,h _ g2 ((hl.at fun o e=>old _ o e).src g1) old⟩
end
def ItE (b:Bool) (K:W.Frag) (l:Addr):It :=
 ⟨fun i H => ∃ xs x,SqG b K H l xs∧xs[i]? = some x,fun i H x H' => ∃ T y,H T=none∧x = .ref T∧H'=upd H T (.tup [.int (i:Nat),y]) ∧ ∀ xs,SqG b K H l xs->xs[i]? = some y,fun i H => ∃ xs,SqG b K H l xs∧xs.length≤i⟩
def qKe (b:Bool) (z i1 l:Addr) (i:Nat) (h:Heap):Prop:=(∃ old,IsEnum h z i1 ((i:Nat):Int) old)∧IterAt b i1 l i h
theorem qBi {P:Program} {w:World} {K:W.Frag} {A:Around} {elts:List Expr} {n:Nat} {pos:Pos} (hA:A.handled=none) (b:Bool) (z i1 l:Addr) (h1:z≠i1) (h2:z≠l) (h3:l≠i1) :
  Turn P w K A (.Tuple elts n pos) (ItE b K l) [z,i1] z (qKe b z i1 l) where
 mem:=by simp
 obj:=fun i h st c hc=>by
  obtain ⟨⟨old,a1⟩,s4⟩:=st
  obtain ⟨o4,a4,_,d4⟩:=s4.here
  simp only [List.mem_cons,List.not_mem_nil,or_false] at hc
  rcases hc with rfl |rfl
  ·exact ⟨_,a1,fun v q=>by cases (show Data.fields _=Data.cell v from q)⟩
  ·exact ⟨_,a4,fun v q=>by rw [d4] at q;cases q⟩
 keep:=fun i h h' st k=>by
  obtain ⟨⟨old,a1⟩,a4⟩:=st
  exact ⟨⟨old,k z (by simp) _ a1⟩,a4.at fun o e=>k i1 (by simp) o e⟩
 item:=by
  intro X hP hw hK hA' i pins s σ H E I hf st hg
  subst hP hw hK
  obtain ⟨xs,x,q1,e1⟩:=hg
  obtain ⟨⟨old,a1⟩,a4⟩:=st
  obtain ⟨us,r1,p1⟩:=zC I q1
  obtain ⟨u,g1,ru⟩:=r1.get e1
  have hlt:i < us.toArray.size:=by
   have:=(List.getElem?_eq_some_iff.mp g1).1
   simpa using this
  refine wpAny_pyNext_enum_itemD (Src.draws (by rw [hA'];exact hA) b i1 l h3 us.toArray) a1 (a4.src p1) hlt h1 (by simp [h1,h2]) fun x' h' tk px z1 z4 z5 zs z7=>⟨_,rfl,?_⟩
  have eu:x'=u:=by
   have:us.toArray[i]? = some u:=by simpa using g1
   rw [px] at this;exact Option.some.inj this
  subst eu
  refine wpAny_letOwnedTupleGo_enum (s:={ s with heap:=h',toks:=tk + 1 }) z1 fun hh y1 y2 => ?_
  have nz:s.heap.objs.size≠z:=Nat.ne_of_gt (Heap.lt_size a1)
  have oth:∀ c,c≠z->hh.get? c=h'.get? c:=fun c hc=>y2.2 c hc
  have tz:qKe b z i1 l (i + 1) hh:=⟨⟨x',by exact_mod_cast y1⟩,z4.iter.at fun o e=>(oth i1 (Ne.symm h1)).trans e⟩
  have hT:IsPair hh s.heap.objs.size (.int i tk) x':=(oth _ nz).trans z5
  have I2:=JP (t':=tk + 1) (h':=hh) (x := .int i) (y:=x) I hf ⟨tk,rfl⟩ ru (fun c o hc e=>(oth c fun q=>hc (by simp [q])).trans (z7 c o (fun q=>hc (by simp [q])) (fun q=>hc (by simp [q])) e)) (fun c hc=>by
   obtain ⟨⟨ol,b1⟩,s4⟩:=tz
   obtain ⟨o4,b4,_⟩:=s4.here
   simp only [List.mem_cons,List.not_mem_nil,or_false] at hc
   rcases hc with rfl |rfl
   ·exact ⟨_,b1⟩
   ·exact ⟨_,b4⟩) hT
  refine ⟨.ref s.heap.objs.size,_,I2,rfl,⟨_,x,I.hok.fresh (Nat.le_refl _),rfl,rfl,fun xs' hq => ?_⟩,tz,fun c hc => ?_⟩
  ·rw [je I hq q1];exact e1
  ·have:=(hf c hc).1
   have ne:c≠s.heap.objs.size:=by
    simp only [List.mem_cons,List.not_mem_nil,or_false] at hc
    obtain ⟨o4,b4,_⟩:=a4.here
    rcases hc with rfl |rfl
    ·exact Nat.ne_of_lt (Heap.lt_size a1)
    ·exact Nat.ne_of_lt (Heap.lt_size b4)
   rw [qL ne];exact this
 done:=by
  intro X hP hw hK hA' i pins s σ H E I hf st hg
  subst hP hw hK
  obtain ⟨xs,q1,e1⟩:=hg
  obtain ⟨⟨old,a1⟩,a4⟩:=st
  obtain ⟨us,r1,p1⟩:=zC I q1
  have n1:=r1.length
  have hA2:X.A.in1.handled=none:=by rw [hA'];exact hA
  have D:Draws X.prog X.w X.A.in1 i1 [i1,l] i (fun _ _=>True) (fun k h=>k=i∧Src b i1 l us.toArray i h) :=
   ⟨fun k h S=>let ⟨o,e,_⟩:=S.2.here;⟨o,e⟩,fun k h h' S q=>⟨S.1,S.2.keep (fun o e=>q i1 (by simp) o e) fun o e=>q l (by simp) o e⟩,fun k s Q E hk S hQ=>absurd S.1 (Nat.ne_of_lt hk),
    fun s Q E S hE=>Src.over hA2 S.2 (by simp;omega) hE⟩
  obtain ⟨f0,f1,f2,f3,f4,f5⟩:=hf i1 (by simp)
  exact wpAny_pyNext_enum_endD D a1 ⟨rfl,a4.src p1⟩ fun h' k=>⟨rfl,I.turned (t':=s.toks) (fun b o hb e=>k b o hb e) f0 f1 f3 f4 f5⟩
 self:=fun _ _ _ _ _ st h=>let ⟨⟨_,a1⟩,_⟩:=st;wpAny_pyIter_enum a1 h
section
variable {X:Cx} {a:Expr} {ta:TA} {p pos:Pos} {elts:List Expr} {n:Nat} {tpos:Pos}
def qLb (K:W.Frag) (ta:TA):TI:=fun σ H R=>ta σ H fun vs H1 => ∃ b l,vs=[.ref l]∧(∃ xs,SqG b K H1 l xs)∧R (ItE b K l) H1
theorem qEE (hc:X.calm=true) (hg:Gl X "enumerate") (hm:X.mg "enumerate" = none) (ha:PA X [a] ta) (he:starEach [a] X.env=(false,eval a X.env)::starEach [] X.env:=by rfl) (hpl:(backTo pos (starEach [] X.env)).any (·.1)=false:=by rfl) :
  PI X (.Tuple elts n tpos) (.Call (.Name "enumerate" p) [a] [] pos) (qLb X.K ta):=by
 intro pins s σ H R I h
 refine wpAny_Call_Name_kw (Za I hg hm PyProof.Rows.boot_enumerate ?_)
 refine PyProof.Rows.callWith_type1 (thn (ha pos pins s σ H _ I h) fun us s1 ⟨vs,H1,I1,r1,q1⟩ => ?_) he hpl
 obtain ⟨b,l,rfl,⟨xs,h1⟩,q⟩:=q1
 obtain ⟨u,rfl,ru⟩:=r1.one
 cases ru
 obtain ⟨ts,r1,p1⟩:=zC I1 h1
 refine qBV p1 fun h' c1 c4 c7 => ?_
 refine wpAny_pyIter_enum c1 ?_
 have lt1:l < s1.heap.objs.size:=by obtain ⟨_,e⟩:=p1.here;exact Heap.lt_size e
 have I2:L2.Inv X pins σ H1 { s1 with heap:=h' }:=I1.kept (t':=s1.toks) c7
 refine ⟨_,_,_,_,H1,rfl,I2,qBi (I1.ok.hd hc) b _ _ l (Nat.succ_ne_self _) (Nat.ne_of_gt (Nat.lt_succ_of_lt lt1)) (Nat.ne_of_lt lt1),⟨⟨_,c1⟩,c4.iter⟩,fun c hc' => ?_,q⟩
 have hle:s1.heap.objs.size≤c:=by
  simp only [List.mem_cons,List.not_mem_nil,or_false] at hc'
  rcases hc' with rfl |rfl
  ·exact Nat.le_add_right _ _
  ·exact Nat.le_refl _
 exact I1.fpOk hle (I1.hok.fresh hle)
end
end EX
namespace EV
open PySem PySem.Spec PyProof.Rows L2 EX
section
variable {X:Cx} {E:XK} {e a c d:Expr} {es:List Expr} {f fa fb fc:FE} {fl:FL} {pos:Pos} {F G:FS}
def yU (k:Nat):List PV->List PV
 |[]=>[]
 |p::l => .tup [.int (k:Int),p]::yU (k + 1) l
theorem YY:∀ (l:List PV) (k:Nat),(yU k l).length=l.length
 |[],_=>rfl
 |p::l,k=>by unfold yU;rw [List.length_cons,List.length_cons,YY l]
theorem Yd:∀ {l:List PV} {k i:Nat} {p:PV},(yU k l)[i]? = some p -> ∃ q,l[i]? = some q∧p = .tup [.int ((k + i:Nat):Int),q]
 |[],_,_,_,h=>by simp [yU] at h
 |q::l,k,0,p,h=>by
  unfold yU at h
  simp at h
  exact ⟨q,rfl,h.symm⟩
 |q::l,k,i + 1,p,h=>by
  unfold yU at h
  obtain ⟨r,h1,h2⟩:=Yd (l:=l) (k:=k + 1) (i:=i) (by simpa using h)
  exact ⟨r,by simpa using h1,by rw [h2,show k + 1 + i=k + (i + 1) by omega]⟩
def qJ2 (ps:List PV) (st:qC):Rs ItP:=match ps with
 |[p]=>match wt st p with
  |some l => .ok ⟨yU 0 l,fun s=>wt s p=some l⟩ st
  |none => .no
 |_ => .no
def qDX (t:FA):FI:=fun r st=>(t r st).bind qJ2
theorem qGn {elts:List Expr} {n:Nat} {tpos p:Pos} {t:FA} (hc:X.calm=true) (hm:X.mg "enumerate" = none) (ha:VA X E [a] t) (hg:Gl X "enumerate" := by rfl) (he:starEach [a] X.env=(false,eval a X.env)::starEach [] X.env:=by rfl) (hpl:(backTo pos (starEach [] X.env)).any (·.1)=false:=by rfl) :
  VI X E (.Tuple elts n tpos) (.Call (.Name "enumerate" p) [a] [] pos) (qDX t):=fun pins s σ H R I q=>qEE hc hg hm ha he hpl pins s σ H R I (by
 obtain ⟨b,r,st,S,RE,P⟩:=q
 refine ⟨b,r,st,S,RE,PostA.bindI P fun l s1 us H1 b1 e1 S1 r1 P1 => ?_⟩
 unfold qJ2 at P1
 split at P1
 ·rename_i p
  split at P1
  ·rename_i l el
   obtain ⟨u,rfl,h1⟩:=RVs.one r1
   obtain ⟨x,xs,rfl,hq,hr⟩:=zB S1 h1 el
   refine ⟨kQ p,x,rfl,⟨xs,hq⟩,P1 _ H1 b1 (Ext.refl _ _) S1 ?_⟩
   intro H2 b2 st2 e2 S2 g2
   obtain ⟨y,ys,ey,hq2,hr2⟩:=zB S2 (RV.wext e2 _ h1) g2
   cases ey
   refine ⟨fun i p' hp => ?_,fun i hi=>⟨ys,hq2,by rw [← hr2.length,← YY l 0];exact hi⟩⟩
   obtain ⟨q',hq',rfl⟩:=Yd hp
   obtain ⟨v,hv,rv⟩:=hr2.get hq'
   refine ⟨⟨ys,v,hq2,hv⟩,fun z H3 ⟨T,w,hT,h3,h4,h5⟩ => ?_⟩
   subst h3;subst h4
   have ew:=h5 ys hq2
   rw [hv] at ew;cases ew
   have en:Ext H2 b2 (upd H2 T (.tup [.int (i:Nat),v])) b2:=Ext.new hT
   refine ⟨fun c o q=>by rw [qL (qM q hT)];exact q,S2.new hT,?_⟩
   unfold RV
   exact ⟨T,_,rfl,.inl ⟨qd,S2.new_notin hT⟩,RVs.cons (by rw [Nat.zero_add];exact Qk) (RVs.cons (RV.ext en _ rv) RVs.nil)⟩
  ·exact P1.elim
 ·exact P1.elim)
end
end EV
end
section
namespace EX
open PySem PySem.Spec PyProof.Rows L2
end EX
namespace EV
open PySem PySem.Spec PyProof.Rows L2 EX
end EV
end
section
namespace EX
open PySem PySem.Spec PyProof.Rows L2
end EX
namespace EV
open PySem PySem.Spec PyProof.Rows L2 EX
end EV
end
section
namespace EV
open PySem PySem.Spec PyProof.Rows L2 EX
section
variable {X:Cx} {E:XK} {e a c d:Expr} {es:List Expr} {f fa fb fc:FE} {fl:FL} {pos:Pos} {F G:FS}
def zj:=gI fun i j=>if j≠0∧j.natAbs < 1073741824 then some (.int (i.fdiv j)) else none
theorem JI (ha:VE X E a fa) (hb:VE X E c fb):VE X E (.BinOp a .FloorDiv c pos) (qH zj fa fb):=ZN qDT (qDo fun i j z e=>by
 split at e
 ·rename_i h;cases e;exact ⟨h,fun _ _=>Qk⟩
 ·cases e) ha hb
theorem qIv {ta:FA} {p:Pos} (ha:VA X E (e::es) ta) (hm:X.mg "abs" = none) (hg:Gl X "abs" := by rfl) (he:starEach (e::es) X.env=(false,eval e X.env)::starEach es X.env:=by rfl) (hpl:(backTo pos (starEach es X.env)).any (·.1)=false:=by rfl):VE X E (.Call (.Name "abs" p) (e::es) [] pos) (qJ qBU ta) :=
 WR qDr qIV hg hm PyProof.Rows.boot_abs ha (he:=he) (hpl:=hpl)
def jG (i:Nat) (f:FE):FS:=fun r st=>match r[i]? with
 |some (some (.int k))=>(f r st).bindS fun p s=>match p with
  | .int m => .nx (r.set i (some (.int (k + m)))) s
  |_ => .no
 |_ => .no
theorem qIo (i:Nat) {x:Str} {p':Pos} (hN:X.N.Nodup) (h:VE X E e f) (hi:X.N[i]? = some x:=by rfl) (hx:Loc X.env.scope x:=by first |exact Or.inl rfl |exact Or.inr rfl) (hf:X.fn x=true∨X.env.scope.names.lookup x=some .local:=by first |exact .inl rfl |exact .inr rfl |assumption) :
  VS X E (.AugAssign (.Name x p') .Add e pos) (jG i f):=PS.imp (qIR hN hi hx h qJP hf) fun D s H ⟨b,r,st,S,R,P⟩=>by
 unfold jG at P
 split at P
 ·rename_i k hk
  obtain ⟨v,h1,h2⟩:=R.2 i _ hk
  unfold RV at h2
  subst h2
  refine ⟨_,h1,b,r,st,S,R,PostE.bindS P fun p s1 u H1 b1 e1 S1 r1 P1 => ?_⟩
  split at P1
  ·rename_i m
   unfold RV at r1
   subst r1
   exact ⟨k,m,rfl,rfl,P1 _ H1 b1 (Ext.refl _ _) S1 ((R.ext e1).set Qk i)⟩
  ·exact P1.elim
 ·exact P.elim
def Yt (f:FE) (lo hi:FO):FE:=fun r st=>(f r st).bind fun p s1=>(lo r s1).bind fun k s2=>(hi r s2).bind fun m s3=>match asL s3 p with
 |some l => .ok (.lst (zp l k m)) s3
 |none => .no
theorem qGB {l:List PV} {xs:List V} (h:l.length=xs.length) {K:W.Frag} {H:Hp} {b:Bz} (r:RVs K H b l xs) (k m:Option Int):RVs K H b (zp l k m) (Ys xs k m):=by
 unfold zp Ys
 rw [h]
 exact RVs.take _ (RVs.drop _ r)
theorem qEm {lo hi:Option Expr} {flo fhi:FO} {p2:Pos} (h:VE X E e f) (hl:VO X E lo flo) (hh:VO X E hi fhi):VE X E (.Subscript e (.Slice lo hi none p2) pos) (Yt f flo fhi) :=
 PE.imp (J6 qGE h hl hh) fun s H Q ⟨b,r,st,S,R,P⟩=>⟨b,r,st,S,R,PostE.bind P fun p s1 u H1 b1 e1 S1 r1 P1=>⟨b1,r,s1,S1,R.ext e1,PostO.bind P1 fun k s2 H2 b2 e2 S2 P2=>⟨b2,r,s2,S2,(R.ext e1).ext e2,PostO.bind P2 fun m s3 H3 b3 e3 S3 P3=>by
  split at P3
  ·rename_i l el
   obtain ⟨x,xs,rfl,h2,h3⟩:=wQ S3 (RV.ext e3 _ (RV.ext e2 _ r1)) el
   refine ⟨x,xs,rfl,h2,fun p hp=>PostN.lay (PostN.of (r := .ok (zp l k m) s3) P3) S3 (qGB h3.length h3 k m) hp⟩
  ·exact P3.elim⟩⟩⟩
def vMk (f:FL):FE:=fun r st=>(f r st).bind fun l s => .ok (.ref s.length) (s++[.l l])
theorem PostN.bindE {K:W.Frag} {E:XK} {H:Hp} {b:Bz} {r:Rs (List PV)} {Q:VK} (P:PostE K E H b (r.bind fun l s => .ok (.ref s.length) (s++[.l l])) Q):PostN K E H b r Q:=by
 cases r with
 |ok l st =>
  intro p xs H' b' e hn hp hz S rs
  have hl:b'.b.length=st.length:=S.len
  refine P (.ref p) H' ⟨b'.b++[p],b'.z⟩ (e.adopt hn) (S.slot (x := .l l) hz hp ⟨xs,rfl,rs⟩) ?_
  unfold RV
  exact ⟨p,rfl,by show (b'.b++[p])[st.length]? = some p;rw [← hl];simp⟩
 |ex x st=>exact P
 |no=>exact P
theorem qJv {f:FL} (h:VN X E e f):VE X E e (vMk f):=PE.imp h fun s H Q ⟨b,r,st,S,R,P⟩=>⟨b,r,st,S,R,PostN.bindE P⟩
def yv (f:FE) (o1 i1 o2 i2:FE):FS:=fun r st=>(f r st).bindS fun t s=>match t with
 | .tup [p,q]=>(o1 r s).bindS fun o s1=>(i1 r s1).bindS fun i s2=>match w9 s2 o i p with
  |some s3=>(o2 r s3).bindS fun o' s4=>(i2 r s4).bindS fun i' s5=>match w9 s5 o' i' q with
   |some s6 => .nx r s6
   |none => .no
  |none => .no
 |_ => .no
theorem qGI {o1 i1 o2 i2:Expr} {fo1 fi1 fo2 fi2:FE} {k:Nat} {tp tp1 tp2:Pos} (hc:X.calm=true) (h:VE X E e f) (ho1:VE X E o1 fo1) (hi1:VE X E i1 fi1) (ho2:VE X E o2 fo2) (hi2:VE X E i2 fi2)
  (hs:swapsWithSole [.Tuple [.Subscript o1 i1 tp1,.Subscript o2 i2 tp2] k tp] e pos.line X.env=pure false:=by rfl) (hw:swappedStores [.Tuple [.Subscript o1 i1 tp1,.Subscript o2 i2 tp2] k tp] e X.env=pure none:=by rfl)
  (h1:(assignEach [.Tuple [.Subscript o1 i1 tp1,.Subscript o2 i2 tp2] k tp] X.env).map (·.2)=[assign (.Tuple [.Subscript o1 i1 tp1,.Subscript o2 i2 tp2] k tp) X.env]:=by rfl)
  (hn:(assignEach [.Subscript o1 i1 tp1,.Subscript o2 i2 tp2] X.env).length=2:=by rfl) (hst:(assignEach [.Subscript o1 i1 tp1,.Subscript o2 i2 tp2] X.env).findIdx? (·.1)=none:=by rfl)
  (q1:(assignEach [.Subscript o1 i1 tp1,.Subscript o2 i2 tp2] X.env).map (·.2)=assign (.Subscript o1 i1 tp1) X.env::(assignEach [.Subscript o2 i2 tp2] X.env).map (·.2):=by rfl)
  (q2:(assignEach [.Subscript o2 i2 tp2] X.env).map (·.2)=assign (.Subscript o2 i2 tp2) X.env::(assignEach [] X.env).map (·.2):=by rfl)
  (a1:∀ v,assign (.Subscript o1 i1 tp1) X.env v=(do
   let ov ← holding [v] (eval o1 X.env)
   let iv ← holding [v,ov] (eval i1 X.env)
   standAt tp1
   holding [v,ov,iv] (setItem ov iv v)
   release [v,ov,iv] []):=by intro _;rfl)
  (a2:∀ v,assign (.Subscript o2 i2 tp2) X.env v=(do
   let ov ← holding [v] (eval o2 X.env)
   let iv ← holding [v,ov] (eval i2 X.env)
   standAt tp2
   holding [v,ov,iv] (setItem ov iv v)
   release [v,ov,iv] []):=by intro _;rfl):VS X E (.Assign [.Tuple [.Subscript o1 i1 tp1,.Subscript o2 i2 tp2] k tp] e pos) (yv f fo1 fi1 fo2 fi2) :=
 PS.imp (qBD h (qDl hc (YW (qBd ho1 hi1 Ym a1) (YW (qBd ho2 hi2 Ym a2) qCS q2) q1) hn hst) hs hw h1) fun D s H ⟨b,r,st,S,R,P⟩=>⟨b,r,st,S,R,PostE.bindS P fun t s1 u H1 b1 e1 S1 r1 P1=>by
  split at P1
  ·rename_i p q
   unfold RV at r1
   obtain ⟨x,xs,rfl,h2,h3⟩:=r1
   obtain ⟨y1,y2,rfl,rp,rq⟩:=RVs.two h3
   have R1:=R.ext e1
   refine ⟨x,_,rfl,h2.sq,rfl,y1,[y2],rfl,b1,r,s1,S1,R1,PostE.bindS P1 fun o s2 ou H2 b2 e2 S2 r2 P2=>⟨b2,r,s2,S2,R1.ext e2,PostE.bindS P2 fun i s3 iu H3 b3 e3 S3 r3 P3 => ?_⟩⟩
   split at P3
   ·rename_i s4 e4
    have R3:=(R1.ext e2).ext e3
    refine YE S3 (RV.ext e3 o r2) r3 (RV.ext e3 p (RV.ext e2 p rp)) e4 fun H4 b4 e5 S4 => ?_
    refine ⟨y2,[],rfl,b4,r,s4,S4,R3.ext e5,PostE.bindS (PostS.ext P3 e5) fun o' s5 ou' H5 b5 e6 S5 r5 P5=>⟨b5,r,s5,S5,(R3.ext e5).ext e6,PostE.bindS P5 fun i' s6 iu' H6 b6 e7 S6 r6 P6 => ?_⟩⟩
    split at P6
    ·rename_i s7 e8
     refine YE S6 (RV.ext e7 o' r5) r6 (RV.ext e7 q (RV.ext e6 q (RV.ext e5 q (RV.ext e3 q (RV.ext e2 q rq))))) e8 fun H7 b7 e9 S7=>⟨rfl,?_⟩
     exact P6 s H7 b7 e9 S7 ((((R3.ext e5).ext e6).ext e7).ext e9)
    ·exact P6.elim
   ·exact P3.elim
  ·exact P1.elim⟩
end
end EV
end
section
namespace EX
open PySem PySem.Spec PyProof.Rows L2
section
variable {X:Cx} {pos:Pos}
def qJ5 (i j k:Nat) (ta:TA):TS:=fun D σ H=>ta σ H fun vs H1 => ∃ v w z,vs=[v,w,z]∧D.nx (((σ.set i (some v)).set j (some w)).set k (some z)) H1
theorem qGa {i j k:Nat} {x y z:Str} {a b c:Expr} {ta:TA} {px py pz pt:Pos} {kt k2 pt2} (hc:X.calm=true) (hN:X.N.Nodup) (hi:X.N[i]? = some x) (hj:X.N[j]? = some y) (hk:X.N[k]? = some z) (hij:i≠j) (hik:i≠k) (hjk:j≠k)
  (hx:X.env.scope.names.lookup x=some .local) (hy:X.env.scope.names.lookup y=some .local) (hz:X.env.scope.names.lookup z=some .local) (ha:PA X [a,b,c] ta)
  (hw:swappedStores [.Tuple [.Name x px,.Name y py,.Name z pz] kt pt] (.Tuple [a,b,c] k2 pt2) X.env=pure (some [x,y,z]))
  (hs:swapsWithSole [.Tuple [.Name x px,.Name y py,.Name z pz] kt pt] (.Tuple [a,b,c] k2 pt2) pos.line X.env=pure false:=by rfl) :
  PS X (.Assign [.Tuple [.Name x px,.Name y py,.Name z pz] kt pt] (.Tuple [a,b,c] k2 pt2) pos) (qJ5 i j k ta):=by
 intro pins s σ H D I h
 rw [exec_Assign_arm]
 refine wpAny_bind (wpAny_standAt ?_)
 rw [hs]
 refine wpAny_bind (wpAny_pure ?_)
 rw [if_neg (by decide)]
 refine wpAny_bind (Tuple_ (thn (ha _ pins s σ H _ I h) fun us s1 ⟨vs,H1,I1,r1,q1⟩ => ?_))
 obtain ⟨v,w,z',e1,q1⟩:=q1
 subst e1
 obtain ⟨u1,u2,u3,rfl,rv,rw',rz⟩:∃ u1 u2 u3,us=[u1,u2,u3]∧RelV v u1∧RelV w u2∧RelV z' u3:=by
  cases r1 with
  |cons p q =>
   cases q with
   |cons p' q' =>
    cases q' with
    |cons p'' q'' =>
     cases q''
     exact ⟨_,_,_,rfl,p,p',p''⟩
 refine wpAny_newObj_type ?_ (by show 3≤sizeLine;decide)
 have I2:L2.Inv X pins σ H1 { s1 with heap:=s1.heap.push { cls := .type "tuple",data := .seq [u1,u2,u3].toArray } }:=I1.kept (t':=s1.toks) fun b o e=>Heap.get?_push_of_some _ e
 rw [hw]
 refine wpAny_bind (wpAny_pure ?_)
 show wpAny (model X.prog X.w) X.A (do rule "assign.swapped-stores";let items ← unpackItems (.ref s1.heap.objs.size) 3 none;assignInOrder [fun v=>bindName X.env z v,fun v=>bindName X.env y v,fun v=>bindName X.env x v] items.reverse;pure Flow.next) _ _ _
 refine wpAny_bind (wpAny_rule (wpAny_bind (unpackItems_tuple (items := #[u1,u2,u3]) (I.ok.hd hc) (IsTup.new s1.heap _) fun h' hx' => ?_)))
 have I3:=I2.kept (h':=h') (t':=s1.toks) fun b o e=>hx' b o (Nat.ne_of_lt (Heap.lt_size e)) e
 show wpAny _ _ (assignInOrder [fun v=>bindName X.env z v,fun v=>bindName X.env y v,fun v=>bindName X.env x v] [u3,u2,u1] >>= fun _=>pure Flow.next) _ _ _
 refine wpAny_bind (assignInOrder_cons (wpAny_bindName (wX I3 hN hk (.inl hz) rz (fun s2 I4 => ?_) (.inr hz))))
 refine assignInOrder_cons (wpAny_bindName (wX I4 hN hj (.inl hy) rw' (fun s3 I5 => ?_) (.inr hy)))
 refine assignInOrder_cons (wpAny_bindName (wX I5 hN hi (.inl hx) rv (fun s4 I6=>assignInOrder_nil (wpAny_pure ?_)) (.inr hx)))
 have e6:((σ.set k (some z')).set j (some w)).set i (some v)=((σ.set i (some v)).set j (some w)).set k (some z'):=by
  rw [List.set_comm _ _ (Ne.symm hij),List.set_comm _ _ (Ne.symm hik),List.set_comm _ _ (Ne.symm hjk)]
 rw [e6] at I6
 exact ⟨_,H1,I6,q1⟩
end
end EX
namespace EV
open PySem PySem.Spec PyProof.Rows L2 EX
section
variable {X:Cx} {E:XK} {a c d:Expr} {pos:Pos}
def Zb (i j k:Nat) (t:FA):FS:=fun r st=>(t r st).bindS fun l s=>match l with
 |[p,q,w] => .nx (((r.set i (some p)).set j (some q)).set k (some w)) s
 |_ => .no
theorem qGv (i j k:Nat) {x y z:Str} {t:FA} {px py pz pt:Pos} {kt k2 pt2} (hc:X.calm=true) (hN:X.N.Nodup) (ha:VA X E [a,c,d] t) (hw:swappedStores [.Tuple [.Name x px,.Name y py,.Name z pz] kt pt] (.Tuple [a,c,d] k2 pt2) X.env=pure (some [x,y,z]):=by rfl)
  (hi:X.N[i]? = some x:=by rfl) (hj:X.N[j]? = some y:=by rfl) (hk:X.N[k]? = some z:=by rfl) (hij:i≠j:=by decide) (hik:i≠k:=by decide) (hjk:j≠k:=by decide) (hx:X.env.scope.names.lookup x=some .local:=by rfl) (hy:X.env.scope.names.lookup y=some .local:=by rfl) (hz:X.env.scope.names.lookup z=some .local:=by rfl)
  (hs:swapsWithSole [.Tuple [.Name x px,.Name y py,.Name z pz] kt pt] (.Tuple [a,c,d] k2 pt2) pos.line X.env=pure false:=by rfl):VS X E (.Assign [.Tuple [.Name x px,.Name y py,.Name z pz] kt pt] (.Tuple [a,c,d] k2 pt2) pos) (Zb i j k t) :=
 PS.imp (qGa hc hN hi hj hk hij hik hjk hx hy hz ha hw hs) fun D s H ⟨b,r,st,S,R,P⟩=>⟨b,r,st,S,R,PostA.bindS P fun l s1 us H1 b1 e1 S1 r1 P1=>by
  split at P1
  ·obtain ⟨u,v,w,rfl,h1,h2,h3⟩:=RVs.three r1
   exact ⟨u,v,w,rfl,P1 _ H1 b1 (Ext.refl _ _) S1 ((((R.ext e1).set h1 i).set h2 j).set h3 k)⟩
  ·exact P1.elim⟩
end
end EV
end
section
namespace K73
open PySem PySem.Spec PyProof.Rows L2 EX EV
structure Ad where
 (BarError NoLength NoNumber NoBars NoBox NoWeights NoSorts NoTurn NoPlace NoText NoRow TooMany:Addr)
 (is_whole is_whole_within is_length need_number need_length columns_behind layer_of strip_counts come_to common_divisor mended shortest_numbers rule_of law_cell law_box law_take law_whole law_kind law_same law_no_length law_after law_counts law_no_width law_is_rule law_apart law_asked law:Addr)
def kitTab:List ((String×String)×Bool):=[(("NoneType","int"),false),(("NoneType","bool"),false),(("NoneType","tuple"),false),(("NoneType","list"),false),(("int","int"),true),(("int","bool"),false),(("int","tuple"),false),(("int","list"),false),(("bool","int"),true),(("bool","bool"),true),(("bool","tuple"),false),(("bool","list"),false),(("str","int"),false),(("str","bool"),false),(("str","tuple"),false),(("str","list"),false),(("tuple","int"),false),(("tuple","bool"),false),(("tuple","tuple"),true),(("tuple","list"),false),(("list","int"),false),(("list","bool"),false),(("list","tuple"),false),(("list","list"),true),(("dict","int"),false),(("dict","bool"),false),(("dict","tuple"),false),(("dict","list"),false)]
def qKh (s T:String):Option Bool:=kitTab.lookup (s,T)
def Ad.kinds (a:Ad):List Addr:=[a.NoLength,a.NoNumber,a.NoBars,a.NoBox,a.NoWeights,a.NoSorts,a.NoTurn,a.NoPlace,a.NoText,a.NoRow,a.TooMany]
def Dist (a:Ad):Prop:=a.kinds.Nodup
instance (a:Ad):Decidable (Dist a):=by unfold Dist;infer_instance
theorem Dist.nd {a:Ad} (h:Dist a):a.kinds.Nodup:=h
def Qa (a:Ad):List Addr:=[a.NoLength,a.NoNumber]
def kit (a:Ad):Value->Value->Option Bool
 | .type s,.type T=>qKh s T
 | .ref x,.ref d=>if x∈Qa a∧d∈a.kinds then some (x==d) else none
 | .ref x,.type T=>if x∈Qa a∧T = "ValueError" then some true else none
 |_,_=>none
def top (i:Nat):Stmt:=PySem.Challenge.pw_barfloors_k73_rules_told.main.body.getD i (.Pass ⟨0,0,0,0⟩)
abbrev WJ:Stmt:=top 16
abbrev QH:Stmt:=top 17
abbrev wf:Stmt:=top 18
abbrev Qi:Stmt:=top 19
abbrev Ql:Stmt:=top 20
abbrev QS:Stmt:=top 24
abbrev wc:Stmt:=top 25
abbrev Qt:Stmt:=top 26
abbrev WL:Stmt:=top 28
abbrev QA:Stmt:=top 29
abbrev Wc:Stmt:=top 30
abbrev qm:Stmt:=top 31
abbrev Wa:Stmt:=top 32
abbrev WI:Stmt:=top 34
abbrev WZ:Stmt:=top 35
abbrev WD:Stmt:=top 36
abbrev wj:Stmt:=top 37
abbrev WN:Stmt:=top 38
abbrev wa:Stmt:=top 39
abbrev Qc:Stmt:=top 40
abbrev wk:Stmt:=top 41
abbrev wN:Stmt:=top 42
abbrev Qp:Stmt:=top 43
abbrev Q2:Stmt:=top 44
abbrev wC:Stmt:=top 45
abbrev wJ:Stmt:=top 46
abbrev zU:Stmt:=top 47
noncomputable def Yh (a:Ad):FS:=(qg (JY (qJ (Qf (kit a)) (qA (qB 0) (qA (vC (.ty "int")) qD))) (qIP (qJ (Qf (kit a)) (qA (qB 0) (qA (vC (.ty "bool")) qD))))))
noncomputable def ZW (a:Ad):List PV->qC->Rs PV:=qq 1 1 (Yh a)
noncomputable def wp (a:Ad):FS:=(qg (JY (qJ (ZW a) (qA (qB 0) qD)) (ZO gLe gLe (qB 1) (qB 0) (qB 2))))
noncomputable def wA (a:Ad):List PV->qC->Rs PV:=qq 3 3 (wp a)
noncomputable def zf (a:Ad):FS:=(qg (qJ (wA a) (qA (qB 0) (qA (vC (.int 2)) (qA (vC (.int 5)) qD)))))
noncomputable def zq (a:Ad):List PV->qC->Rs PV:=qq 1 1 (zf a)
noncomputable def W1 (a:Ad):FS:=(QW (w8 (QO (qJ (wA a) (qA (qB 0) (qA (qB 1) (qA (qB 2) qD)))))) (ya a.NoNumber (qA (vJ [(vC (.str "a whole number from ")),(qEB (qB 1)),(vC (.str " to ")),(qEB (qB 2)),(vC (.str " is wanted"))] Str.empty) qD)) QQ)
noncomputable def Qo (a:Ad):List PV->qC->Rs PV:=qq 3 3 (W1 a)
noncomputable def Wy (a:Ad):FS:=(QW (w8 (QO (qJ (zq a) (qA (qB 0) qD)))) (ya a.NoLength (qA (vJ [(vC (.str "a length is a whole number from ")),(qEB (vC (.int 2))),(vC (.str " to ")),(qEB (vC (.int 5)))] Str.empty) qD)) QQ)
noncomputable def Q3 (a:Ad):List PV->qC->Rs PV:=qq 1 1 (Wy a)
noncomputable def WH (a:Ad):FS:=(qO (zk 2 (w5 qD)) (qO (zk 3 (w5 (qA (wY qD) qD))) (qO (wb (QO (qB 3)) (qO (qS 4 (qCj (qB 3))) (qO (qS 5 (qJ QN (qA (qB 4) qD))) (QW (vTB (qH gEq (qB 5) (qJ QN (qA (qB 0) qD)))) (q9 (qB 2) (qB 4)) (QW (vTB (qH gGt (qH gIx (qB 0) (qB 5)) (vC (.int 0)))) (q9 (qB 3) (qH wz (qB 4) (wY (qA (qH wV (qH gIx (qB 0) (qB 5)) (vC (.int 1))) qD)))) (qO (q9 (qB 3) (qH wz (qB 4) (wY (qA (qH wV (qB 1) (vC (.int 1))) qD)))) (QW (vTB (qH gEq (jb (qB 0) (QJ (qB 5)) (QJ (qH qk (qB 5) (qB 1)))) (qH w6 (wY (qA (vC (.int 0)) qD)) (qB 1)))) (q9 (qB 3) (qH wz (qB 4) (qH w6 (wY (qA (vC (.int 0)) qD)) (qB 1)))) QQ)))))) 100) (qg (qB 2)))))
noncomputable def wK (a:Ad):List PV->qC->Rs PV:=qq 2 6 (WH a)
noncomputable def Zc (a:Ad):FS:=(qO (qS 2 qCa) (qO (zY true (qB 0) (Zo 2 (Q5 (qz 3) (Q5 (qz 4) Zt))) (wm (Q9 (qJ (wK a) (qA (qB 3) (qA (qB 1) qD)))) (qz 5) (zr (qB 2) (qB 5) (qH qk (zV (qB 2) (qB 5) (vC (.int 0))) (qB 4))))) (qg (qB 2))))
noncomputable def zM (a:Ad):List PV->qC->Rs PV:=qq 2 6 (Zc a)
noncomputable def wF (a:Ad):FS:=(qO (Wv (qJ (Qo a) (qA (qB 0) (qA (vC (.int 1)) (qA (vC (.int 4)) qD))))) (qO (Wv (qJ (Q3 a) (qA (qB 1) qD))) (qO (Wv (qJ (Qo a) (qA (qB 2) (qA (vC (.int 0)) (qA (vC (.int 200)) qD))))) (qO (qS 3 (qH w6 (wY (qA (vC (.int 0)) qD)) (qB 0))) (qO (qS 4 (YZ (qB 3) (vC (.int 1)))) (qO (zk 5 (w5 (qA (vC (.int 1)) qD))) (qO (wm (wg (qA (qB 2) qD)) (qz 6) (qO (qS 4 (qJ (zM a) (qA (qB 4) (qA (qB 1) qD)))) (q9 (qB 5) (zV (qB 4) (qB 3) (vC (.int 0)))))) (qg (qB 5)))))))))
noncomputable def Qr (a:Ad):List PV->qC->Rs PV:=qq 3 7 (wF a)
noncomputable def jO (a:Ad):FS:=(qg (qJ Yr (qA (vFz (qw [1,2] 2 (qDX (qA (qB 0) qD)) (Zo 2 (Q5 (Qh 2) (Q5 (Qh 3) Zt))) [] [] (qH wI (qB 3) (qH gIx (qB 0) (qH wV (qB 1) (qB 2)))))) qD)))
noncomputable def zz (a:Ad):List PV->qC->Rs PV:=qq 3 3 (jO a)
noncomputable def WA (a:Ad):FS:=(qO (qS 1 (vC (.int 0))) (qO (wm (Q9 (qB 0)) (qz 2) (qO (qS 3 (qJ qBU (qA (qB 2) qD))) (wb (vTB (qH gNe (qB 3) (vC (.int 0)))) (ZE 1 3 (qA (qB 3) (qA (qH YD (qB 1) (qB 3)) qD))) 100))) (qg (qB 1))))
noncomputable def WG (a:Ad):List PV->qC->Rs PV:=qq 1 4 (WA a)
noncomputable def Yl (a:Ad):FS:=(qO (qS 5 (qJ JA (qA (qJ QN (qA (qB 0) qD)) (qA (qH qk (qB 4) (qJ QN (qA (qB 2) qD))) qD)))) (qO (qS 6 (vFz (yT (qB 0) (vFz (qAy (w5 (qA (vC (.int 0)) qD)) (qH wV (qB 5) (qJ QN (qA (qB 0) qD)))))))) (qO (qS 7 (vFz (yT (vFz (yT (vFz (qAy (w5 (qA (vC (.int 0)) qD)) (qB 4))) (qB 2))) (vFz (qAy (w5 (qA (vC (.int 0)) qD)) (qH wV (qH wV (qB 5) (qB 4)) (qJ QN (qA (qB 2) qD)))))))) (qO (qS 8 (vFz (qw [3,1,6,7] 1 (wg (qA (qB 5) qD)) (Qh 4) [] [] (qH wV (qH wI (qB 0) (qH gIx (qB 2) (qB 4))) (qH wI (qB 1) (qH gIx (qB 3) (qB 4))))))) (qO (qS 9 (qJ (WG a) (qA (qB 8) qD))) (qg (vFz (qw [9] 1 (Q9 (qB 8)) (Qh 1) [] [] (qH zj (qB 1) (qB 0))))))))))
noncomputable def zn (a:Ad):List PV->qC->Rs PV:=qq 5 10 (Yl a)
noncomputable def wd (a:Ad):FS:=(qO (qS 1 (vFz (w5 (qA (vC (.int 1)) qD)))) (qO (qS 2 (vFz (w5 (qA (vC (.int 1)) qD)))) (qO (qS 3 (vC (.int 1))) (qO (qS 4 (vC (.int 0))) (qO (wm (wg (qA (qJ QN (qA (qB 0) qD)) qD)) (qz 5) (qO (qS 6 (qJ (zz a) (qA (qB 1) (qA (qB 0) (qA (qB 5) qD))))) (qO (jG 4 (vC (.int 1))) (QW (vTB (qH gNe (qB 6) (vC (.int 0)))) (qO (qS 7 (qJ (zn a) (qA (qB 1) (qA (qB 6) (qA (qB 2) (qA (qB 3) (qA (qB 4) qD))))))) (qO (QW (vTB (qH gGt (qJ QN (qA (qB 7) qD)) (qJ QN (qA (qB 1) qD)))) (Zb 2 3 4 (qA (qB 1) (qA (qB 6) (qA (vC (.int 0)) qD)))) QQ) (qS 1 (qB 7)))) QQ)))) (qg (qB 1)))))))
noncomputable def wZ (a:Ad):List PV->qC->Rs PV:=qq 1 8 (wd a)
noncomputable def Zw (a:Ad):FS:=(qO (qS 2 (qJ (wZ a) (qA (qJ (Qr a) (qA (qB 0) (qA (qB 1) (qA (vC (.int 200)) qD)))) qD))) (qg (qJ za (qA (vFz (qw [2] 1 (Q9 (Yt (qB 2) (QJ (vC (.int 1))) JW)) (Qh 1) [] [] (qH zj (qBh (qB 1)) (qH gIx (qB 0) (vC (.int 0)))))) qD))))
noncomputable def W8 (a:Ad):List PV->qC->Rs PV:=qq 2 3 (Zw a)
noncomputable def zF (a:Ad):FS:=(qO (QW (vTB (qH gLt (qB 1) (qJ QN (qA (qB 0) qD)))) (qg (qH gIx (qB 0) (qB 1))) QQ) (qg (qH qk (qH wI (vC (.int 6151)) (qB 1)) (vC (.int 29)))))
noncomputable def zO (a:Ad):List PV->qC->Rs PV:=qq 2 2 (zF a)
noncomputable def ZB (a:Ad):FS:=(qO (qS 2 (qJ (zO a) (qA (qB 0) (qA (qB 1) qD)))) (qO (QW (vTB (qH gEq (qH YD (qB 2) (vC (.int 2))) (vC (.int 0)))) (yx (w5 (qA (qH qEG (qB 2) (vC (.int 2))) qD))) QQ) (qO (qS 3 (vC (.int 0))) (qO (qS 4 (qH YD (qB 2) (vC (.int 2147483647)))) (qO (wm (wg (qA (vC (.int 24)) qD)) (qz 5) (qO (qS 4 (qH YD (qH qk (qH qk (qH qk (qH wI (qB 4) (vC (.int 48271))) (qH wI (qH wI (vC (.int 7)) (qB 5)) (qB 5))) (qH wI (vC (.int 11)) (qB 1))) (vC (.int 1))) (vC (.int 2147483647)))) (qS 3 (qH qk (qH wI (qB 3) (vC (.int 2147483647))) (qB 4))))) (yx (w5 (qA (qB 3) qD))))))))
noncomputable def z9 (a:Ad):List PV->qC->Rs PV:=qq 2 6 (ZB a)
noncomputable def ZU (a:Ad):FS:=(qO (qS 2 (qH YD (qH gIx (qB 0) (vC (.int 0))) (qB 1))) (qO (YN (qB 0) (vC (.int 0)) (qH qEG (qH gIx (qB 0) (vC (.int 0))) (qB 1))) (qg (qB 2))))
noncomputable def wB (a:Ad):List PV->qC->Rs PV:=qq 2 3 (ZU a)
noncomputable def yM (a:Ad):FS:=(qg (JY (qJ (Qf (kit a)) (qA (qB 0) (qA (vC (.ty "int")) qD))) (qIP (qJ (Qf (kit a)) (qA (qB 0) (qA (vC (.ty "bool")) qD))))))
noncomputable def Wt (a:Ad):List PV->qC->Rs PV:=qq 1 1 (yM a)
noncomputable def zK (a:Ad):FS:=(qO (qS 1 (vFz (w5 (qA (qJ (Qf (kit a)) (qA (qB 0) (qA (vC (.fn a.NoLength)) qD))) (qA (qJ (Qf (kit a)) (qA (qB 0) (qA (vC (.fn a.NoNumber)) qD))) (qA (qJ (Qf (kit a)) (qA (qB 0) (qA (vC (.fn a.NoBars)) qD))) (qA (qJ (Qf (kit a)) (qA (qB 0) (qA (vC (.fn a.NoBox)) qD))) qD))))))) (qO (qS 1 (vFz (yT (qB 1) (vFz (w5 (qA (qJ (Qf (kit a)) (qA (qB 0) (qA (vC (.fn a.NoWeights)) qD))) (qA (qJ (Qf (kit a)) (qA (qB 0) (qA (vC (.fn a.NoSorts)) qD))) (qA (qJ (Qf (kit a)) (qA (qB 0) (qA (vC (.fn a.NoTurn)) qD))) (qA (qJ (Qf (kit a)) (qA (qB 0) (qA (vC (.fn a.NoPlace)) qD))) qD))))))))) (qO (qS 1 (vFz (yT (qB 1) (vFz (w5 (qA (qJ (Qf (kit a)) (qA (qB 0) (qA (vC (.fn a.NoText)) qD))) (qA (qJ (Qf (kit a)) (qA (qB 0) (qA (vC (.fn a.NoRow)) qD))) (qA (qJ (Qf (kit a)) (qA (qB 0) (qA (vC (.fn a.TooMany)) qD))) qD)))))))) (qO (QW (Z1 (w8 (QO (qJ (Qf (kit a)) (qA (qB 0) (qA (vC (.ty "ValueError")) qD))))) (vTB (qH gNe (qJ Yr (qA (vFz (qw [] 1 (Q9 (qB 1)) (Qh 0) [] [] (qJ qDt (qA (qB 0) qD)))) qD)) (vC (.int 1))))) (qg (vC (.str "! none of the classes"))) QQ) (qO (qS 2 (vFz (w5 (qA (vC (.str "length")) (qA (vC (.str "number")) (qA (vC (.str "bars")) (qA (vC (.str "box")) (qA (vC (.str "weights")) (qA (vC (.str "sorts")) (qA (vC (.str "turn")) (qA (vC (.str "place")) (qA (vC (.str "text")) (qA (vC (.str "row")) (qA (vC (.str "many")) qD)))))))))))))) (qg (qH qJI (vC (.str "! ")) (qH gIx (qB 2) (qKL (qB 1) (vC (.bl true)))))))))))
noncomputable def We (a:Ad):List PV->qC->Rs PV:=qq 1 3 (zK a)
noncomputable def WF (a:Ad) (rec:List PV->qC->Rs PV):FS:=(qO (QW (QO (qJ (Qf (kit a)) (qA (qB 1) (qA (wY (qA (vC (.ty "tuple")) (qA (vC (.ty "list")) qD))) qD)))) (qO (QW (Z1 (vTB (qH gNe (qJ (Qf (kit a)) (qA (qB 0) (qA (vC (.ty "tuple")) qD))) (qJ (Qf (kit a)) (qA (qB 1) (qA (vC (.ty "tuple")) qD))))) (vTB (qH gNe (qJ (Qf (kit a)) (qA (qB 0) (qA (vC (.ty "list")) qD))) (qJ (Qf (kit a)) (qA (qB 1) (qA (vC (.ty "list")) qD)))))) (qg (vC (.bl false))) QQ) (qg (JY (qH gEq (qJ QN (qA (qB 0) qD)) (qJ QN (qA (qB 1) qD))) (qJ jy (qA (vFz (qw [] 2 (zy (qA (qB 0) (qA (qB 1) qD))) (Zo 2 (Q5 (Qh 0) (Q5 (Qh 1) Zt))) [] [] (qJ rec (qA (qB 0) (qA (qB 1) qD))))) qD))))) QQ) (qg (JY (qH gEq (qB 0) (qB 1)) (qH gEq (qJ (Qf (kit a)) (qA (qB 0) (qA (vC (.ty "bool")) qD))) (qJ (Qf (kit a)) (qA (qB 1) (qA (vC (.ty "bool")) qD)))))))
noncomputable def Qm:Nat->Ad->List PV->qC->Rs PV
 |0,_=>fun _ _ => .no
 |n + 1,a=>qq 2 2 (WF a (Qm n a))
noncomputable def WU (a:Ad):FS:=(qg (qH gIx (vFz (w5 (qA (vC (.int 1)) (qA (vC (.int 6)) (qA (vC (.int 0)) (qA (qBh (vC (.int 2))) (qA (vC (.bl true)) (qA (vC .non) (qA (vC (.str "3")) (qA (wY (qA (vC (.int 2)) qD)) (qA (vFz (w5 (qA (vC (.int 3)) qD))) (qA (qH qJn (vC (.int 10)) (vC (.int 39))) qD)))))))))))) (qJ (wB a) (qA (qB 0) (qA (vC (.int 10)) qD)))))
noncomputable def Q1 (a:Ad):List PV->qC->Rs PV:=qq 1 1 (WU a)
noncomputable def zw (a:Ad) (rec:List PV->qC->Rs PV):FS:=(qO (QW (vTB (qH gEq (qB 2) (qJ QN (qA (qB 0) qD)))) (qg (vFz (w5 (qA (wY qD) qD)))) QQ) (qO (QW (vTB (qH gGt (qH gIx (qB 0) (qB 2)) (vC (.int 0)))) (qg (vFz (qw [0,2] 1 (Q9 (qJ rec (qA (qB 0) (qA (qB 1) (qA (qH qk (qB 2) (vC (.int 1))) qD))))) (Qh 2) [] [] (qH wz (wY (qA (qH wV (qH gIx (qB 0) (qB 1)) (vC (.int 1))) qD)) (qB 2))))) QQ) (qO (qS 3 (vFz (qw [1] 1 (Q9 (qJ rec (qA (qB 0) (qA (qB 1) (qA (qH qk (qB 2) (vC (.int 1))) qD))))) (Qh 1) [] [] (qH wz (wY (qA (qH wV (qB 0) (vC (.int 1))) qD)) (qB 1))))) (qO (QW (yq (vTB (qH gLe (qH qk (qB 2) (qB 1)) (qJ QN (qA (qB 0) qD)))) (vTB (qH gEq (qJ Y2 (qA (jb (qB 0) (QJ (qB 2)) (QJ (qH qk (qB 2) (qB 1)))) qD)) (vC (.int 0))))) (qS 3 (vFz (yT (qB 3) (vFz (qw [1] 1 (Q9 (qJ rec (qA (qB 0) (qA (qB 1) (qA (qH qk (qB 2) (qB 1)) qD))))) (Qh 1) [] [] (qH wz (qH w6 (wY (qA (vC (.int 0)) qD)) (qB 0)) (qB 1))))))) QQ) (qg (qB 3))))))
noncomputable def Qx:Nat->Ad->List PV->qC->Rs PV
 |0,_=>fun _ _ => .no
 |n + 1,a=>qq 3 4 (zw a (Qx n a))
noncomputable def zS (a:Ad):FS:=(qO (qS 3 (YZ (qH w6 (wY (qA (vC (.int 0)) qD)) (qB 0)) (vC (.int 1)))) (qO (zk 4 (w5 (qA (vC (.int 1)) qD))) (qO (wm (wg (qA (qB 2) qD)) (qz 5) (qO (qS 6 qCa) (qO (zY false (qB 3) (qz 7) (wm (Q9 (qJ (Qx 6 a) (qA (qB 7) (qA (qB 1) (qA (vC (.int 0)) qD))))) (qz 8) (zr (qB 6) (qB 8) (qH qk (zV (qB 6) (qB 8) (vC (.int 0))) (qH qBK (qB 3) (qB 7)))))) (qO (qS 3 (qB 6)) (q9 (qB 4) (zV (qB 3) (qH w6 (wY (qA (vC (.int 0)) qD)) (qB 0)) (vC (.int 0)))))))) (qg (qB 4)))))
noncomputable def WX (a:Ad):List PV->qC->Rs PV:=qq 3 9 (zS a)
noncomputable def zu (a:Ad):FS:=(qg (qH gIx (vFz (w5 (qA (vC (.int 0)) (qA (vC (.int 5)) (qA (qBh (vC (.int 1))) (qA (vC (.bl true)) (qA (vC .non) (qA (vC (.str "2")) (qA (wY (qA (vC (.int 1)) qD)) (qA (qH qJn (vC (.int 10)) (vC (.int 39))) qD)))))))))) (qJ (wB a) (qA (qB 0) (qA (vC (.int 8)) qD)))))
noncomputable def wD (a:Ad):List PV->qC->Rs PV:=qq 1 1 (zu a)
noncomputable def W3 (a:Ad):FS:=(qO (QW (Z1 (w8 (QO (qJ (Qf (kit a)) (qA (qB 1) (qA (vC (.ty "tuple")) qD))))) (Z1 (w8 (vTB (ZO gLe gLe (vC (.int 1)) (qJ QN (qA (qB 1) qD)) (vC (.int 40))))) (w8 (QO (qJ jy (qA (vFz (qw [] 1 (Q9 (qB 1)) (Qh 0) [] [] (qJ (Wt a) (qA (qB 0) qD)))) qD)))))) (qg (vC (.bl false))) QQ) (qO (qS 2 (qJ QN (qA (qB 1) qD))) (qO (wm (ZM (qA (qB 2) (qA (vC (.int 201)) qD))) (qz 3) (QW (vTB (qH gNe (qH gIx (qB 0) (qB 3)) (qJ Yr (qA (vFz (qw [1,0,3] 1 (wg (qA (qB 2) qD)) (Qh 3) [] [] (qH wI (qH gIx (qB 0) (qB 3)) (qH gIx (qB 1) (qH wV (qH wV (qB 2) (vC (.int 1))) (qB 3)))))) qD)))) (qg (vC (.bl false))) QQ)) (qg (vC (.bl true))))))
noncomputable def WP (a:Ad):List PV->qC->Rs PV:=qq 2 4 (W3 a)
noncomputable def zt (a:Ad):FS:=(qO (qS 1 (vC (.int 1))) (qO (qS 2 (qJ QN (qA (qB 0) qD))) (qO (wm (wg (qA (qB 2) qD)) (qz 3) (qO (qS 4 (vFz (qw [3,0] 1 (ZM (qA (qB 3) (qA (qB 2) qD))) (Qh 2) [(vTB (qH gNe (qH gIx (qH gIx (qB 1) (qB 2)) (qB 0)) (vC (.int 0))))] [] (qB 2)))) (qO (QW (vTB (qH gEq (qB 4) (vFz (w5 qD)))) (qg (vC (.bl false))) QQ) (qO (yv (wY (qA (qH gIx (qB 0) (qH gIx (qB 4) (vC (.int 0)))) (qA (qH gIx (qB 0) (qB 3)) qD))) (qB 0) (qB 3) (qB 0) (qH gIx (qB 4) (vC (.int 0)))) (qO (wm (ZM (qA (qH qk (qB 3) (vC (.int 1))) (qA (qB 2) qD))) (qz 5) (qO (qAh (wY (qA (qH gIx (qH gIx (qB 0) (qB 3)) (qB 3)) (qA (qH gIx (qH gIx (qB 0) (qB 5)) (qB 3)) qD))) (Zo 2 (Q5 (qz 6) (Q5 (qz 7) Zt)))) (YN (qB 0) (qB 5) (vFz (qw [1,6,7] 2 (zy (qA (qH gIx (qB 0) (qB 5)) (qA (qH gIx (qB 0) (qB 3)) qD))) (Zo 2 (Q5 (Qh 3) (Q5 (Qh 4) Zt))) [] [] (qH zj (qH wV (qH wI (qB 1) (qB 3)) (qH wI (qB 2) (qB 4))) (qB 0))))))) (qS 1 (qH gIx (qH gIx (qB 0) (qB 3)) (qB 3)))))))) (qg (vC (.bl true))))))
noncomputable def Wm (a:Ad):List PV->qC->Rs PV:=qq 1 8 (zt a)
noncomputable def Wp (a:Ad):FS:=(Jq 2 3 (Qa a) (qg (qJ (W8 a) (qA (qB 0) (qA (qB 1) qD)))) (qg (qJ (We a) (qA (qB 2) qD))))
noncomputable def QD (a:Ad):List PV->qC->Rs PV:=qq 2 3 (Wp a)
noncomputable def qHG (a:Ad):FS:=(qO (wm (wg (qA (qJ JA (qA (vC (.int 1)) (qA (qJ qFH (qA (qJ QN (qA (qB 0) qD)) (qA (vC (.int 2)) qD))) qD))) qD)) (qz 1) (qO (qS 2 (qJ (z9 a) (qA (qB 0) (qA (qB 1) qD)))) (qO (ZE 3 4 (qA (qH qk (vC (.int 1)) (qJ (wB a) (qA (qB 2) (qA (vC (.int 4)) qD)))) (qA (qH qk (vC (.int 2)) (qJ (wB a) (qA (qB 2) (qA (vC (.int 4)) qD)))) qD))) (qO (qS 5 (qJ (WX a) (qA (qB 3) (qA (qB 4) (qA (vC (.int 200)) qD))))) (qO (qS 6 (qJ (QD a) (qA (qB 3) (qA (qB 4) qD)))) (qO (QW (Z1 (w8 (QO (qJ (WP a) (qA (qB 5) (qA (qB 6) qD))))) (w8 (QO (qJ (Qm 3 a) (qA (qJ (QD a) (qA (qB 3) (qA (qB 4) qD))) (qA (qB 6) qD)))))) (qg (vC (.bl false))) QQ) (qO (qS 7 (qJ QN (qA (qB 6) qD))) (qO (QW (w8 (QO (qJ (Wm a) (qA (vMk (qw [5,7] 1 (wg (qA (qB 7) qD)) (Qh 2) [] [] (Yt (qB 0) (QJ (qB 2)) (QJ (qH qk (qB 2) (qB 1)))))) qD)))) (qg (vC (.bl false))) QQ) (qO (ZE 8 9 (qA (qJ (wD a) (qA (qB 2) qD)) (qA (qJ (Q1 a) (qA (qB 2) qD)) qD))) (QW (Z1 (vTB (qH gNe (qJ (QD a) (qA (qB 8) (qA (qB 9) qD))) (vC (.str "! number")))) (vTB (qH gNe (qJ (QD a) (qA (qB 3) (qA (qB 9) qD))) (vC (.str "! length"))))) (qg (vC (.bl false))) QQ)))))))))) (qg (vC (.bl true))))
noncomputable def qAV (a:Ad):List PV->qC->Rs PV:=qq 1 10 (qHG a)
structure Env (K:W.Frag) (mg:Str->Option Value) (a:Ad):Prop where
 kit:KitOk K (kit a)
 nk:qBr K
 n_ValueError:mg "ValueError" = none
 n_abs:mg "abs" = none
 n_all:mg "all" = none
 n_bool:mg "bool" = none
 n_enumerate:mg "enumerate" = none
 n_int:mg "int" = none
 n_isinstance:mg "isinstance" = none
 n_len:mg "len" = none
 n_list:mg "list" = none
 n_max:mg "max" = none
 n_min:mg "min" = none
 n_range:mg "range" = none
 n_sum:mg "sum" = none
 n_tuple:mg "tuple" = none
 n_zip:mg "zip" = none
 c_LEAST_LENGTH:∃ t,mg "LEAST_LENGTH" = some (.int 2 t)
 c_MOST_LENGTH:∃ t,mg "MOST_LENGTH" = some (.int 5 t)
 c_MOST_WIDTH:∃ t,mg "MOST_WIDTH" = some (.int 4 t)
 c_MOST_COLUMNS:∃ t,mg "MOST_COLUMNS" = some (.int 200 t)
 k_BarError:mg "BarError" = some (.ref a.BarError)
 k_NoLength:mg "NoLength" = some (.ref a.NoLength)
 k_NoNumber:mg "NoNumber" = some (.ref a.NoNumber)
 k_NoBars:mg "NoBars" = some (.ref a.NoBars)
 k_NoBox:mg "NoBox" = some (.ref a.NoBox)
 k_NoWeights:mg "NoWeights" = some (.ref a.NoWeights)
 k_NoSorts:mg "NoSorts" = some (.ref a.NoSorts)
 k_NoTurn:mg "NoTurn" = some (.ref a.NoTurn)
 k_NoPlace:mg "NoPlace" = some (.ref a.NoPlace)
 k_NoText:mg "NoText" = some (.ref a.NoText)
 k_NoRow:mg "NoRow" = some (.ref a.NoRow)
 k_TooMany:mg "TooMany" = some (.ref a.TooMany)
 x_NoLength:PySem.W.excIn K a.NoLength bmV "ValueError.__new__" = true
 e_NoLength:PySem.W.mroIn K a.NoLength (.ref a.BarError)=some true
 x_NoNumber:PySem.W.excIn K a.NoNumber bmV "ValueError.__new__" = true
 e_NoNumber:PySem.W.mroIn K a.NoNumber (.ref a.BarError)=some true
 o_BarError:∃ dd cd sl,K.lookup a.BarError=some ⟨.type "type",dd,.cls cd,sl⟩
 b_BarError:PySem.W.mroIn K a.BarError (.type "BaseException")=some true
 m_is_whole:mg "is_whole" = some (.ref a.is_whole)
 f_is_whole:∃ fd,Fun K "is_whole" "is_whole" WJ a.is_whole fd
 m_is_whole_within:mg "is_whole_within" = some (.ref a.is_whole_within)
 f_is_whole_within:∃ fd,Fun K "is_whole_within" "is_whole_within" QH a.is_whole_within fd
 m_is_length:mg "is_length" = some (.ref a.is_length)
 f_is_length:∃ fd,Fun K "is_length" "is_length" wf a.is_length fd
 m_need_number:mg "need_number" = some (.ref a.need_number)
 f_need_number:∃ fd,Fun K "need_number" "need_number" Qi a.need_number fd
 m_need_length:mg "need_length" = some (.ref a.need_length)
 f_need_length:∃ fd,Fun K "need_length" "need_length" Ql a.need_length fd
 m_columns_behind:mg "columns_behind" = some (.ref a.columns_behind)
 f_columns_behind:∃ fd,Fun K "columns_behind" "columns_behind" QS a.columns_behind fd
 m_layer_of:mg "layer_of" = some (.ref a.layer_of)
 f_layer_of:∃ fd,Fun K "layer_of" "layer_of" wc a.layer_of fd
 m_strip_counts:mg "strip_counts" = some (.ref a.strip_counts)
 f_strip_counts:∃ fd,Fun K "strip_counts" "strip_counts" Qt a.strip_counts fd
 m_come_to:mg "come_to" = some (.ref a.come_to)
 f_come_to:∃ fd,Fun K "come_to" "come_to" WL a.come_to fd
 m_common_divisor:mg "common_divisor" = some (.ref a.common_divisor)
 f_common_divisor:∃ fd,Fun K "common_divisor" "common_divisor" QA a.common_divisor fd
 m_mended:mg "mended" = some (.ref a.mended)
 f_mended:∃ fd,Fun K "mended" "mended" Wc a.mended fd
 m_shortest_numbers:mg "shortest_numbers" = some (.ref a.shortest_numbers)
 f_shortest_numbers:∃ fd,Fun K "shortest_numbers" "shortest_numbers" qm a.shortest_numbers fd
 m_rule_of:mg "rule_of" = some (.ref a.rule_of)
 f_rule_of:∃ fd,Fun K "rule_of" "rule_of" Wa a.rule_of fd
 m_law_cell:mg "_law_cell" = some (.ref a.law_cell)
 f_law_cell:∃ fd,Fun K "_law_cell" "_law_cell" WI a.law_cell fd
 m_law_box:mg "_law_box" = some (.ref a.law_box)
 f_law_box:∃ fd,Fun K "_law_box" "_law_box" WZ a.law_box fd
 m_law_take:mg "_law_take" = some (.ref a.law_take)
 f_law_take:∃ fd,Fun K "_law_take" "_law_take" WD a.law_take fd
 m_law_whole:mg "_law_whole" = some (.ref a.law_whole)
 f_law_whole:∃ fd,Fun K "_law_whole" "_law_whole" wj a.law_whole fd
 m_law_kind:mg "_law_kind" = some (.ref a.law_kind)
 f_law_kind:∃ fd,Fun K "_law_kind" "_law_kind" WN a.law_kind fd
 m_law_same:mg "_law_same" = some (.ref a.law_same)
 f_law_same:∃ fd,Fun K "_law_same" "_law_same" wa a.law_same fd
 m_law_no_length:mg "_law_no_length" = some (.ref a.law_no_length)
 f_law_no_length:∃ fd,Fun K "_law_no_length" "_law_no_length" Qc a.law_no_length fd
 m_law_after:mg "_law_after" = some (.ref a.law_after)
 f_law_after:∃ fd,Fun K "_law_after" "_law_after" wk a.law_after fd
 m_law_counts:mg "_law_counts" = some (.ref a.law_counts)
 f_law_counts:∃ fd,Fun K "_law_counts" "_law_counts" wN a.law_counts fd
 m_law_no_width:mg "_law_no_width" = some (.ref a.law_no_width)
 f_law_no_width:∃ fd,Fun K "_law_no_width" "_law_no_width" Qp a.law_no_width fd
 m_law_is_rule:mg "_law_is_rule" = some (.ref a.law_is_rule)
 f_law_is_rule:∃ fd,Fun K "_law_is_rule" "_law_is_rule" Q2 a.law_is_rule fd
 m_law_apart:mg "_law_apart" = some (.ref a.law_apart)
 f_law_apart:∃ fd,Fun K "_law_apart" "_law_apart" wC a.law_apart fd
 m_law_asked:mg "_law_asked" = some (.ref a.law_asked)
 f_law_asked:∃ fd,Fun K "_law_asked" "_law_asked" wJ a.law_asked fd
 m_law:mg "law" = some (.ref a.law)
 f_law:∃ fd,Fun K "law" "law" zU a.law fd
section
variable {P:Program} {w:World} {K:W.Frag} {mg:Str->Option Value} {base:Heap} {a:Ad}
theorem Ji:FnScope ["thing"] ["thing"] (qK WJ):=⟨rfl,rfl,rfl,by decide +kernel,rfl,by decide +kernel,by decide +kernel⟩
theorem qBX (V:Env K mg a):DefG P w K mg base 2 "is_whole" a.is_whole 1 (ZW a):=by
 obtain ⟨fd,F⟩:=V.f_is_whole
 refine Qw (B:=Yh a) F Ji (F.binds (ps:=["thing"]) fun _ _ _ _ _ _ us hl=>match us,hl with |[_],_=>rfl) V.m_is_whole (fun l st h=>qX h) (fun cdv A outer s H E hr hcm => ?_) (fun l s0 hl hn=>qU hl)
 have hu:=hr.units
 exact (@qP _ _ _ _ (@qh _ _ _ _ _ (@yi _ _ _ _ _ _ _ _ (@QL _ _ _ _ _ _ _ _ V.kit V.n_isinstance (@qQ _ _ _ _ _ _ _ (@qG _ _ 0 _ _ (by rfl) (by rfl) (by rfl)) (@qQ _ _ _ _ _ _ _ (@Wr _ _ _ _ _ rfl V.n_int Boot.«int» (by decide) (by decide)) qF)) (by rfl) (by rfl) (by rfl)) (@Ye _ _ _ _ _ _ (@qEz _ _ _ _ _ (@QL _ _ _ _ _ _ _ _ V.kit V.n_isinstance (@qQ _ _ _ _ _ _ _ (@qG _ _ 0 _ _ (by rfl) (by rfl) (by rfl)) (@qQ _ _ _ _ _ _ _ (@Wr _ _ _ _ _ rfl V.n_bool Boot.«bool» (by decide) (by decide)) qF)) (by rfl) (by rfl) (by rfl)))))))
theorem ZZ:FnScope ["thing","least","most"] ["thing","least","most"] (qK QH):=⟨rfl,rfl,rfl,by decide +kernel,rfl,by decide +kernel,by decide +kernel⟩
theorem Wu (V:Env K mg a):DefG P w K mg base 3 "is_whole_within" a.is_whole_within 3 (wA a):=by
 obtain ⟨fd,F⟩:=V.f_is_whole_within
 refine Qw (B:=wp a) F ZZ (F.binds (ps:=["thing","least","most"]) fun _ _ _ _ _ _ us hl=>match us,hl with |[_,_,_],_=>rfl) V.m_is_whole_within (fun l st h=>qX h) (fun cdv A outer s H E hr hcm => ?_) (fun l s0 hl hn=>qU hl)
 have hu:=hr.units
 exact (@qP _ _ _ _ (@qh _ _ _ _ _ (@yi _ _ _ _ _ _ _ _ (@qV _ _ _ _ _ _ _ _ _ ((qBX V).call (hr.mono (by omega)) qv) (@qQ _ _ _ _ _ _ _ (@qG _ _ 0 _ _ (by rfl) (by rfl) (by rfl)) qF) (by rfl) (by rfl)) (@Ye _ _ _ _ _ _ (@qFN _ _ _ _ _ _ _ _ _ _ _ _ _ _ _ qAE qAE qAC qAC (@qG _ _ 1 _ _ (by rfl) (by rfl) (by rfl)) (@qG _ _ 0 _ _ (by rfl) (by rfl) (by rfl)) (@qG _ _ 2 _ _ (by rfl) (by rfl) (by rfl)) (by with_unfolding_all rfl))))))
theorem jZ:FnScope ["thing"] ["thing"] (qK wf):=⟨rfl,rfl,rfl,by decide +kernel,rfl,by decide +kernel,by decide +kernel⟩
theorem qAe (V:Env K mg a):DefG P w K mg base 4 "is_length" a.is_length 1 (zq a):=by
 obtain ⟨fd,F⟩:=V.f_is_length
 obtain ⟨_,c_LEAST_LENGTH⟩:=V.c_LEAST_LENGTH
 obtain ⟨_,c_MOST_LENGTH⟩:=V.c_MOST_LENGTH
 refine Qw (B:=zf a) F jZ (F.binds (ps:=["thing"]) fun _ _ _ _ _ _ us hl=>match us,hl with |[_],_=>rfl) V.m_is_length (fun l st h=>qX h) (fun cdv A outer s H E hr hcm => ?_) (fun l s0 hl hn=>qU hl)
 have hu:=hr.units
 exact (@qP _ _ _ _ (@qh _ _ _ _ _ (@qV _ _ _ _ _ _ _ _ _ ((Wu V).call (hr.mono (by omega)) qv) (@qQ _ _ _ _ _ _ _ (@qG _ _ 0 _ _ (by rfl) (by rfl) (by rfl)) (@qQ _ _ _ _ _ _ _ (@zL _ _ _ _ _ _ rfl c_LEAST_LENGTH (by decide)) (@qQ _ _ _ _ _ _ _ (@zL _ _ _ _ _ _ rfl c_MOST_LENGTH (by decide)) qF))) (by rfl) (by rfl))))
theorem YM:FnScope ["thing","least","most"] ["thing","least","most"] (qK Qi):=⟨rfl,rfl,rfl,by decide +kernel,rfl,by decide +kernel,by decide +kernel⟩
theorem ZH (V:Env K mg a):DefG P w K mg base 4 "need_number" a.need_number 3 (Qo a):=by
 obtain ⟨fd,F⟩:=V.f_need_number
 refine Qw (B:=W1 a) F YM (F.binds (ps:=["thing","least","most"]) fun _ _ _ _ _ _ us hl=>match us,hl with |[_,_,_],_=>rfl) V.m_need_number (fun l st h=>qX h) (fun cdv A outer s H E hr hcm => ?_) (fun l s0 hl hn=>qU hl)
 have hu:=hr.units
 have hc:(we (CXF P w) P w K mg base ["thing","least","most"] "need_number" (qK Qi) a.need_number cdv A outer s H E).calm=true:=by show A.handled.isNone=true;rw [hcm (by omega)];rfl
 exact (@qP _ _ _ _ (@wU _ _ _ _ _ _ _ _ _ (@zR _ _ _ _ _ (@Wz _ _ _ _ (@qV _ _ _ _ _ _ _ _ _ ((Wu V).call (hr.mono (by omega)) qv) (@qQ _ _ _ _ _ _ _ (@qG _ _ 0 _ _ (by rfl) (by rfl) (by rfl)) (@qQ _ _ _ _ _ _ _ (@qG _ _ 1 _ _ (by rfl) (by rfl) (by rfl)) (@qQ _ _ _ _ _ _ _ (@qG _ _ 2 _ _ (by rfl) (by rfl) (by rfl)) qF))) (by rfl) (by rfl)) (by intro _;rfl))) (@qP _ _ _ _ (@qAK _ _ _ _ _ _ _ _ _ _ qHH hc rfl V.k_NoNumber V.x_NoNumber (@qJ0 _ _ _ _ _ _ _ (@qCJ _ _ _ _ _ _ _ (@WY _ _ _ _ _ _ Qb (@WY _ _ _ _ _ _ (@JV _ _ _ _ _ (@qG _ _ 1 _ _ (by rfl) (by rfl) (by rfl))) (@WY _ _ _ _ _ _ Qb (@WY _ _ _ _ _ _ (@JV _ _ _ _ _ (@qG _ _ 2 _ _ (by rfl) (by rfl) (by rfl))) (@WY _ _ _ _ _ _ Qb qD6)))))) qF) (by decide) (by rfl) (by rfl))) QK))
theorem YR:FnScope ["thing"] ["thing"] (qK Ql):=⟨rfl,rfl,rfl,by decide +kernel,rfl,by decide +kernel,by decide +kernel⟩
theorem Yv (V:Env K mg a):DefG P w K mg base 5 "need_length" a.need_length 1 (Q3 a):=by
 obtain ⟨fd,F⟩:=V.f_need_length
 obtain ⟨_,c_LEAST_LENGTH⟩:=V.c_LEAST_LENGTH
 obtain ⟨_,c_MOST_LENGTH⟩:=V.c_MOST_LENGTH
 refine Qw (B:=Wy a) F YR (F.binds (ps:=["thing"]) fun _ _ _ _ _ _ us hl=>match us,hl with |[_],_=>rfl) V.m_need_length (fun l st h=>qX h) (fun cdv A outer s H E hr hcm => ?_) (fun l s0 hl hn=>qU hl)
 have hu:=hr.units
 have hc:(we (CXF P w) P w K mg base ["thing"] "need_length" (qK Ql) a.need_length cdv A outer s H E).calm=true:=by show A.handled.isNone=true;rw [hcm (by omega)];rfl
 exact (@qP _ _ _ _ (@wU _ _ _ _ _ _ _ _ _ (@zR _ _ _ _ _ (@Wz _ _ _ _ (@qV _ _ _ _ _ _ _ _ _ ((qAe V).call (hr.mono (by omega)) qv) (@qQ _ _ _ _ _ _ _ (@qG _ _ 0 _ _ (by rfl) (by rfl) (by rfl)) qF) (by rfl) (by rfl)) (by intro _;rfl))) (@qP _ _ _ _ (@qAK _ _ _ _ _ _ _ _ _ _ qHH hc rfl V.k_NoLength V.x_NoLength (@qJ0 _ _ _ _ _ _ _ (@qCJ _ _ _ _ _ _ _ (@WY _ _ _ _ _ _ Qb (@WY _ _ _ _ _ _ (@JV _ _ _ _ _ (@zL _ _ _ _ _ _ rfl c_LEAST_LENGTH (by decide))) (@WY _ _ _ _ _ _ Qb (@WY _ _ _ _ _ _ (@JV _ _ _ _ _ (@zL _ _ _ _ _ _ rfl c_MOST_LENGTH (by decide))) qD6))))) qF) (by decide) (by rfl) (by rfl))) QK))
theorem sc_columns_behind:FnScope ["edge","length","told","waiting","begun","row"] ["edge","length"] (qK QS):=⟨rfl,rfl,rfl,by decide +kernel,rfl,by decide +kernel,by decide +kernel⟩
theorem yB (V:Env K mg a):DefG P w K mg base 2 "columns_behind" a.columns_behind 2 (wK a):=by
 obtain ⟨fd,F⟩:=V.f_columns_behind
 refine Qw (B:=WH a) F sc_columns_behind (F.binds (ps:=["edge","length"]) fun _ _ _ _ _ _ us hl=>match us,hl with |[_,_],_=>rfl) V.m_columns_behind (fun l st h=>qX h) (fun cdv A outer s H E hr hcm => ?_) (fun l s0 hl hn=>qU hl)
 have hu:=hr.units
 exact (@qI _ _ _ _ _ _ (@yf _ _ _ _ 2 _ _ _ sc_columns_behind.nd (@Qq _ _ _ _ _ qF) (by rfl) (by first |exact Or.inl rfl |exact Or.inr rfl) (by rfl) (by first |exact .inl rfl |exact .inr rfl |assumption)) (@qI _ _ _ _ _ _ (@yf _ _ _ _ 3 _ _ _ sc_columns_behind.nd (@Qq _ _ _ _ _ (@qEn _ _ _ _ _ _ _ _ (@wH _ _ _ _ _ _ qF) qF)) (by rfl) (by first |exact Or.inl rfl |exact Or.inr rfl) (by rfl) (by first |exact .inl rfl |exact .inr rfl |assumption)) (@qI _ _ _ _ _ _ (@qAm _ _ _ _ _ 100 _ _ (@Wz _ _ _ _ (@qG _ _ 3 _ _ (by rfl) (by rfl) (by rfl)) (by intro _;rfl)) (@qI _ _ _ _ _ _ (@qa _ _ _ _ _ 4 _ _ sc_columns_behind.nd (@qIl _ _ _ _ _ _ (@qG _ _ 3 _ _ (by rfl) (by rfl) (by rfl)) (by rfl) (by rfl)) (by rfl) (by first |exact Or.inl rfl |exact Or.inr rfl) (by rfl) (by first |exact .inl rfl |exact .inr rfl |assumption)) (@qI _ _ _ _ _ _ (@qa _ _ _ _ _ 5 _ _ sc_columns_behind.nd (@QP _ _ _ _ _ _ _ (@qQ _ _ _ _ _ _ _ (@qG _ _ 4 _ _ (by rfl) (by rfl) (by rfl)) qF) V.n_len (by rfl) (by rfl) (by rfl)) (by rfl) (by first |exact Or.inl rfl |exact Or.inr rfl) (by rfl) (by first |exact .inl rfl |exact .inr rfl |assumption)) (@qP _ _ _ _ (@wU _ _ _ _ _ _ _ _ _ (@Qs _ _ _ _ _ _ _ _ _ _ (ZX hu) yr (@qG _ _ 5 _ _ (by rfl) (by rfl) (by rfl)) (@QP _ _ _ _ _ _ _ (@qQ _ _ _ _ _ _ _ (@qG _ _ 0 _ _ (by rfl) (by rfl) (by rfl)) qF) V.n_len (by rfl) (by rfl) (by rfl)) (by first |exact QZ _ |with_unfolding_all rfl)) (@qP _ _ _ _ (@Wb _ _ _ _ _ _ _ _ _ (@qG _ _ 2 _ _ (by rfl) (by rfl) (by rfl)) (@qG _ _ 4 _ _ (by rfl) (by rfl) (by rfl)) (by rfl) (by rfl) (by rfl) (by rfl) (by rfl) (by rfl))) (@qP _ _ _ _ (@wU _ _ _ _ _ _ _ _ _ (@Qs _ _ _ _ _ _ _ _ _ _ qED qET (@QT _ _ _ _ _ _ _ (@qG _ _ 0 _ _ (by rfl) (by rfl) (by rfl)) (@qG _ _ 5 _ _ (by rfl) (by rfl) (by rfl)) (by exact fun _ _=>rfl)) qN (by first |exact QZ _ |with_unfolding_all rfl)) (@qP _ _ _ _ (@Wb _ _ _ _ _ _ _ _ _ (@qG _ _ 3 _ _ (by rfl) (by rfl) (by rfl)) (@z8 _ _ _ _ _ _ _ (@qG _ _ 4 _ _ (by rfl) (by rfl) (by rfl)) (@wH _ _ _ _ _ _ (@ZY _ _ _ _ _ _ _ _ _ (@WV _ _ _ _ _ _ _ (@QT _ _ _ _ _ _ _ (@qG _ _ 0 _ _ (by rfl) (by rfl) (by rfl)) (@qG _ _ 5 _ _ (by rfl) (by rfl) (by rfl)) (by exact fun _ _=>rfl)) qN) qF))) (by rfl) (by rfl) (by rfl) (by rfl) (by rfl) (by rfl))) (@qI _ _ _ _ _ _ (@Wb _ _ _ _ _ _ _ _ _ (@qG _ _ 3 _ _ (by rfl) (by rfl) (by rfl)) (@z8 _ _ _ _ _ _ _ (@qG _ _ 4 _ _ (by rfl) (by rfl) (by rfl)) (@wH _ _ _ _ _ _ (@ZY _ _ _ _ _ _ _ _ _ (@WV _ _ _ _ _ _ _ (@qG _ _ 1 _ _ (by rfl) (by rfl) (by rfl)) qN) qF))) (by rfl) (by rfl) (by rfl) (by rfl) (by rfl) (by rfl)) (@qP _ _ _ _ (@wU _ _ _ _ _ _ _ _ _ (@Qs _ _ _ _ _ _ _ _ _ _ (ZX hu) yr (@qD7 _ _ _ _ _ _ _ _ _ _ (@qG _ _ 0 _ _ (by rfl) (by rfl) (by rfl)) (@zQ _ _ _ _ (@qG _ _ 5 _ _ (by rfl) (by rfl) (by rfl))) (@zQ _ _ _ _ (@QV _ _ _ _ _ _ _ (@qG _ _ 5 _ _ (by rfl) (by rfl) (by rfl)) (@qG _ _ 1 _ _ (by rfl) (by rfl) (by rfl))))) (@ZA _ _ _ _ _ _ _ (@wH _ _ _ _ _ _ (@QI _ _ _ _ _ _ _ _ qN qF)) (@qG _ _ 1 _ _ (by rfl) (by rfl) (by rfl))) (by first |exact QZ _ |with_unfolding_all rfl)) (@qP _ _ _ _ (@Wb _ _ _ _ _ _ _ _ _ (@qG _ _ 3 _ _ (by rfl) (by rfl) (by rfl)) (@z8 _ _ _ _ _ _ _ (@qG _ _ 4 _ _ (by rfl) (by rfl) (by rfl)) (@ZA _ _ _ _ _ _ _ (@wH _ _ _ _ _ _ (@QI _ _ _ _ _ _ _ _ qN qF)) (@qG _ _ 1 _ _ (by rfl) (by rfl) (by rfl)))) (by rfl) (by rfl) (by rfl) (by rfl) (by rfl) (by rfl))) QK)))))))))) (@qP _ _ _ _ (@qh _ _ _ _ _ (@qG _ _ 2 _ _ (by rfl) (by rfl) (by rfl)))))))
theorem sc_layer_of:FnScope ["layer","length","behind","edge","many","further"] ["layer","length"] (qK wc):=⟨rfl,rfl,rfl,by decide +kernel,rfl,by decide +kernel,by decide +kernel⟩
theorem qBG (V:Env K mg a):DefG P w K mg base 3 "layer_of" a.layer_of 2 (zM a):=by
 obtain ⟨fd,F⟩:=V.f_layer_of
 refine Qw (B:=Zc a) F sc_layer_of (F.binds (ps:=["layer","length"]) fun _ _ _ _ _ _ us hl=>match us,hl with |[_,_],_=>rfl) V.m_layer_of (fun l st h=>qX h) (fun cdv A outer s H E hr hcm => ?_) (fun l s0 hl hn=>qU hl)
 have hu:=hr.units
 have hc:(we (CXF P w) P w K mg base ["layer","length","behind","edge","many","further"] "layer_of" (qK wc) a.layer_of cdv A outer s H E).calm=true:=by show A.handled.isNone=true;rw [hcm (by omega)];rfl
 exact (@qI _ _ _ _ _ _ (@qa _ _ _ _ _ 2 _ _ sc_layer_of.nd qCd (by rfl) (by first |exact Or.inl rfl |exact Or.inr rfl) (by rfl) (by first |exact .inl rfl |exact .inr rfl |assumption)) (@qI _ _ _ _ _ _ (@qFy _ _ _ _ _ _ _ _ _ _ _ _ _ (@qG _ _ 0 _ _ (by rfl) (by rfl) (by rfl)) (@YG _ _ _ _ _ _ hc (@wT _ _ _ _ _ (@Qd _ _ 3 _ sc_layer_of.nd (by rfl) (by first |exact Or.inl rfl |exact Or.inr rfl) (by first |exact .inl rfl |exact .inr rfl |assumption)) (@wT _ _ _ _ _ (@Qd _ _ 4 _ sc_layer_of.nd (by rfl) (by first |exact Or.inl rfl |exact Or.inr rfl) (by first |exact .inl rfl |exact .inr rfl |assumption)) Zs (by rfl)) (by rfl)) (by rfl) (by rfl)) (@qP _ _ _ _ (@Wj _ _ _ _ _ _ _ _ _ (@W2 _ _ _ _ _ (@qV _ _ _ _ _ _ _ _ _ ((yB V).call (hr.mono (by omega)) (QC _)) (@qQ _ _ _ _ _ _ _ (@qG _ _ 3 _ _ (by rfl) (by rfl) (by rfl)) (@qQ _ _ _ _ _ _ _ (@qG _ _ 1 _ _ (by rfl) (by rfl) (by rfl)) qF)) (by rfl) (by rfl))) (@Qd _ _ 5 _ sc_layer_of.nd (by rfl) (by first |exact Or.inl rfl |exact Or.inr rfl) (by first |exact .inl rfl |exact .inr rfl |assumption)) (@qP _ _ _ _ (@qCb _ _ _ _ _ _ _ _ _ _ (Nat.lt_of_le_of_lt (Nat.add_le_add_left (by decide) _) hu) V.nk (@qG _ _ 2 _ _ (by rfl) (by rfl) (by rfl)) (@qG _ _ 5 _ _ (by rfl) (by rfl) (by rfl)) (@QV _ _ _ _ _ _ _ (@Zi _ _ _ _ _ _ _ _ _ _ (Nat.lt_of_le_of_lt (Nat.add_le_add_left (by decide) _) hu) V.nk (@qG _ _ 2 _ _ (by rfl) (by rfl) (by rfl)) (@qG _ _ 5 _ _ (by rfl) (by rfl) (by rfl)) qN (by rfl) (by rfl) (by rfl) (by rfl)) (@qG _ _ 4 _ _ (by rfl) (by rfl) (by rfl))) (by rfl))) (by intro _;rfl))) (by intro _;rfl) (by rfl) (by rfl)) (@qP _ _ _ _ (@qh _ _ _ _ _ (@qG _ _ 2 _ _ (by rfl) (by rfl) (by rfl))))))
theorem sc_strip_counts:FnScope ["width","length","columns","even","layer","counts","column"] ["width","length","columns"] (qK Qt):=⟨rfl,rfl,rfl,by decide +kernel,rfl,by decide +kernel,by decide +kernel⟩
theorem YJ (V:Env K mg a):DefG P w K mg base 6 "strip_counts" a.strip_counts 3 (Qr a):=by
 obtain ⟨fd,F⟩:=V.f_strip_counts
 obtain ⟨_,c_MOST_WIDTH⟩:=V.c_MOST_WIDTH
 obtain ⟨_,c_MOST_COLUMNS⟩:=V.c_MOST_COLUMNS
 refine Qw (B:=wF a) F sc_strip_counts (F.binds (ps:=["width","length","columns"]) fun _ _ _ _ _ _ us hl=>match us,hl with |[_,_,_],_=>rfl) V.m_strip_counts (fun l st h=>qX h) (fun cdv A outer s H E hr hcm => ?_) (fun l s0 hl hn=>qU hl)
 have hu:=hr.units
 exact (@qI _ _ _ _ _ _ (@jr _ _ _ _ _ (@qV _ _ _ _ _ _ _ _ _ ((ZH V).call (hr.mono (by omega)) qv) (@qQ _ _ _ _ _ _ _ (@qG _ _ 0 _ _ (by rfl) (by rfl) (by rfl)) (@QI _ _ _ _ _ _ _ _ qN (@qQ _ _ _ _ _ _ _ (@zL _ _ _ _ _ _ rfl c_MOST_WIDTH (by decide)) qF))) (by rfl) (by rfl)) (by rfl)) (@qI _ _ _ _ _ _ (@jr _ _ _ _ _ (@qV _ _ _ _ _ _ _ _ _ ((Yv V).call (hr.mono (by omega)) qv) (@qQ _ _ _ _ _ _ _ (@qG _ _ 1 _ _ (by rfl) (by rfl) (by rfl)) qF) (by rfl) (by rfl)) (by rfl)) (@qI _ _ _ _ _ _ (@jr _ _ _ _ _ (@qV _ _ _ _ _ _ _ _ _ ((ZH V).call (hr.mono (by omega)) qv) (@qQ _ _ _ _ _ _ _ (@qG _ _ 2 _ _ (by rfl) (by rfl) (by rfl)) (@QI _ _ _ _ _ _ _ _ qN (@qQ _ _ _ _ _ _ _ (@zL _ _ _ _ _ _ rfl c_MOST_COLUMNS (by decide)) qF))) (by rfl) (by rfl)) (by rfl)) (@qI _ _ _ _ _ _ (@qa _ _ _ _ _ 3 _ _ sc_strip_counts.nd (@ZA _ _ _ _ _ _ _ (@wH _ _ _ _ _ _ (@QI _ _ _ _ _ _ _ _ qN qF)) (@qG _ _ 0 _ _ (by rfl) (by rfl) (by rfl))) (by rfl) (by first |exact Or.inl rfl |exact Or.inr rfl) (by rfl) (by first |exact .inl rfl |exact .inr rfl |assumption)) (@qI _ _ _ _ _ _ (@qa _ _ _ _ _ 4 _ _ sc_strip_counts.nd (@Jv _ _ _ _ _ _ _ (Nat.lt_of_le_of_lt (Nat.add_le_add_left (by decide) _) hu) V.nk (@qG _ _ 3 _ _ (by rfl) (by rfl) (by rfl)) qN) (by rfl) (by first |exact Or.inl rfl |exact Or.inr rfl) (by rfl) (by first |exact .inl rfl |exact .inr rfl |assumption)) (@qI _ _ _ _ _ _ (@yf _ _ _ _ 5 _ _ _ sc_strip_counts.nd (@Qq _ _ _ _ _ (@QI _ _ _ _ _ _ _ _ qN qF)) (by rfl) (by first |exact Or.inl rfl |exact Or.inr rfl) (by rfl) (by first |exact .inl rfl |exact .inr rfl |assumption)) (@qI _ _ _ _ _ _ (@Wj _ _ _ _ _ _ _ _ _ (@wM _ _ _ _ _ _ _ rfl V.n_range (@qQ _ _ _ _ _ _ _ (@qG _ _ 2 _ _ (by rfl) (by rfl) (by rfl)) qF) (by rfl)) (@Qd _ _ 6 _ sc_strip_counts.nd (by rfl) (by first |exact Or.inl rfl |exact Or.inr rfl) (by first |exact .inl rfl |exact .inr rfl |assumption)) (@qI _ _ _ _ _ _ (@qa _ _ _ _ _ 4 _ _ sc_strip_counts.nd (@qV _ _ _ _ _ _ _ _ _ ((qBG V).call (hr.mono (by omega)) (QC _)) (@qQ _ _ _ _ _ _ _ (@qG _ _ 4 _ _ (by rfl) (by rfl) (by rfl)) (@qQ _ _ _ _ _ _ _ (@qG _ _ 1 _ _ (by rfl) (by rfl) (by rfl)) qF)) (by rfl) (by rfl)) (by rfl) (by first |exact Or.inl rfl |exact Or.inr rfl) (by rfl) (by first |exact .inl rfl |exact .inr rfl |assumption)) (@qP _ _ _ _ (@Wb _ _ _ _ _ _ _ _ _ (@qG _ _ 5 _ _ (by rfl) (by rfl) (by rfl)) (@Zi _ _ _ _ _ _ _ _ _ _ (Nat.lt_of_le_of_lt (Nat.add_le_add_left (by decide) _) hu) V.nk (@qG _ _ 4 _ _ (by rfl) (by rfl) (by rfl)) (@qG _ _ 3 _ _ (by rfl) (by rfl) (by rfl)) qN (by rfl) (by rfl) (by rfl) (by rfl)) (by rfl) (by rfl) (by rfl) (by rfl) (by rfl) (by rfl)))) (by intro _;rfl)) (@qP _ _ _ _ (@qh _ _ _ _ _ (@qG _ _ 5 _ _ (by rfl) (by rfl) (by rfl)))))))))))
theorem qBE:FnScope ["numbers","counts","at"] ["numbers","counts","at"] (qK WL):=⟨rfl,rfl,rfl,by decide +kernel,rfl,by decide +kernel,by decide +kernel⟩
theorem qDP (V:Env K mg a):DefG P w K mg base 2 "come_to" a.come_to 3 (zz a):=by
 obtain ⟨fd,F⟩:=V.f_come_to
 refine Qw (B:=jO a) F qBE (F.binds (ps:=["numbers","counts","at"]) fun _ _ _ _ _ _ us hl=>match us,hl with |[_,_,_],_=>rfl) V.m_come_to (fun l st h=>qX h) (fun cdv A outer s H E hr hcm => ?_) (fun l s0 hl hn=>qU hl)
 have hu:=hr.units
 have hc:(we (CXF P w) P w K mg base ["numbers","counts","at"] "come_to" (qK WL) a.come_to cdv A outer s H E).calm=true:=by show A.handled.isNone=true;rw [hcm (by omega)];rfl
 exact (@qP _ _ _ _ (@qh _ _ _ _ _ (@qBR _ _ _ _ _ _ _ (@qBB _ _ _ _ _ _ _ _ _ (@QX _ _ _ _ (@ww _ _ _ _ _ _ _ (["counts","at"]) (["back","number"]) ([1,2]) _ _ _ _ _ (by exact wq rfl (by decide +kernel) rfl rfl ⟨⟨rfl,rfl⟩,⟨⟨rfl,rfl⟩,trivial⟩⟩) (@qGn _ _ _ _ _ _ _ _ _ hc V.n_enumerate (@qQ _ _ _ _ _ _ _ (@qG _ _ 0 _ _ (by rfl) (by rfl) (by rfl)) qF) (by rfl) (by rfl) (by rfl)) (fun s' H' fp pn=>⟨(@WW _ _ _ _ _ _ _ (@qG _ _ 3 _ _ (by rfl) (by rfl) (by rfl)) (@QT _ _ _ _ _ _ _ (@qG _ _ 0 _ _ (by rfl) (by rfl) (by rfl)) (@WV _ _ _ _ _ _ _ (@qG _ _ 1 _ _ (by rfl) (by rfl) (by rfl)) (@qG _ _ 2 _ _ (by rfl) (by rfl) (by rfl))) (by exact fun _ _=>rfl))),⟨(@YG _ _ _ _ _ _ hc (@wT _ _ _ _ _ (@wE _ _ 2 _ (show (["counts","at","back","number"]:List Str).Nodup by decide +kernel) (by rfl) (by first |exact Or.inl rfl |exact Or.inr rfl) (by first |exact .inl rfl |exact .inr rfl |assumption)) (@wT _ _ _ _ _ (@wE _ _ 3 _ (show (["counts","at","back","number"]:List Str).Nodup by decide +kernel) (by rfl) (by first |exact Or.inl rfl |exact Or.inr rfl) (by first |exact .inl rfl |exact .inr rfl |assumption)) Zs (by rfl)) (by rfl)) (by rfl) (by rfl)),(Zx (WK (qp 2) (WK (qp 3) Z4))),TsOk.nil,rfl⟩,GsOk.nil⟩) (by intro _;rfl))) qF) V.n_sum (by rfl) (by rfl) (by rfl))))
theorem sc_common_divisor:FnScope ["numbers","told","number","other"] ["numbers"] (qK QA):=⟨rfl,rfl,rfl,by decide +kernel,rfl,by decide +kernel,by decide +kernel⟩
theorem yA (V:Env K mg a):DefG P w K mg base 2 "common_divisor" a.common_divisor 1 (WG a):=by
 obtain ⟨fd,F⟩:=V.f_common_divisor
 refine Qw (B:=WA a) F sc_common_divisor (F.binds (ps:=["numbers"]) fun _ _ _ _ _ _ us hl=>match us,hl with |[_],_=>rfl) V.m_common_divisor (fun l st h=>qX h) (fun cdv A outer s H E hr hcm => ?_) (fun l s0 hl hn=>qU hl)
 have hu:=hr.units
 have hc:(we (CXF P w) P w K mg base ["numbers","told","number","other"] "common_divisor" (qK QA) a.common_divisor cdv A outer s H E).calm=true:=by show A.handled.isNone=true;rw [hcm (by omega)];rfl
 exact (@qI _ _ _ _ _ _ (@qa _ _ _ _ _ 1 _ _ sc_common_divisor.nd qN (by rfl) (by first |exact Or.inl rfl |exact Or.inr rfl) (by rfl) (by first |exact .inl rfl |exact .inr rfl |assumption)) (@qI _ _ _ _ _ _ (@Wj _ _ _ _ _ _ _ _ _ (@W2 _ _ _ _ _ (@qG _ _ 0 _ _ (by rfl) (by rfl) (by rfl))) (@Qd _ _ 2 _ sc_common_divisor.nd (by rfl) (by first |exact Or.inl rfl |exact Or.inr rfl) (by first |exact .inl rfl |exact .inr rfl |assumption)) (@qI _ _ _ _ _ _ (@qa _ _ _ _ _ 3 _ _ sc_common_divisor.nd (@qIv _ _ _ _ _ _ _ (@qQ _ _ _ _ _ _ _ (@qG _ _ 2 _ _ (by rfl) (by rfl) (by rfl)) qF) V.n_abs (by rfl) (by rfl) (by rfl)) (by rfl) (by first |exact Or.inl rfl |exact Or.inr rfl) (by rfl) (by first |exact .inl rfl |exact .inr rfl |assumption)) (@qP _ _ _ _ (@qAm _ _ _ _ _ 100 _ _ (@Qs _ _ _ _ _ _ _ _ _ _ (zP hu) Zr (@qG _ _ 3 _ _ (by rfl) (by rfl) (by rfl)) qN (by first |exact QZ _ |with_unfolding_all rfl)) (@qP _ _ _ _ (@qBS _ _ _ _ _ 1 3 _ _ _ _ _ _ _ _ _ hc sc_common_divisor.nd (@qQ _ _ _ _ _ _ _ (@qG _ _ 3 _ _ (by rfl) (by rfl) (by rfl)) (@ZY _ _ _ _ _ _ _ _ _ (@YC _ _ _ _ _ _ _ (@qG _ _ 1 _ _ (by rfl) (by rfl) (by rfl)) (@qG _ _ 3 _ _ (by rfl) (by rfl) (by rfl))) qF)) (by rfl) (by rfl) (by rfl) (by decide) (by rfl) (by rfl) (by rfl)))))) (by intro _;rfl)) (@qP _ _ _ _ (@qh _ _ _ _ _ (@qG _ _ 1 _ _ (by rfl) (by rfl) (by rfl))))))
theorem sc_mended:FnScope ["numbers","gap","old","old_gap","back","many","kept","taken","told","divisor"] ["numbers","gap","old","old_gap","back"] (qK Wc):=⟨rfl,rfl,rfl,by decide +kernel,rfl,by decide +kernel,by decide +kernel⟩
theorem qDe (V:Env K mg a):DefG P w K mg base 3 "mended" a.mended 5 (zn a):=by
 obtain ⟨fd,F⟩:=V.f_mended
 refine Qw (B:=Yl a) F sc_mended (F.binds (ps:=["numbers","gap","old","old_gap","back"]) fun _ _ _ _ _ _ us hl=>match us,hl with |[_,_,_,_,_],_=>rfl) V.m_mended (fun l st h=>qX h) (fun cdv A outer s H E hr hcm => ?_) (fun l s0 hl hn=>qU hl)
 have hu:=hr.units
 have hc:(we (CXF P w) P w K mg base ["numbers","gap","old","old_gap","back","many","kept","taken","told","divisor"] "mended" (qK Wc) a.mended cdv A outer s H E).calm=true:=by show A.handled.isNone=true;rw [hcm (by omega)];rfl
 exact (@qI _ _ _ _ _ _ (@qa _ _ _ _ _ 5 _ _ sc_mended.nd (@qCA _ _ _ _ _ _ _ (@W5 _ _ _ _ _ _ _ _ _ (@QP _ _ _ _ _ _ _ (@qQ _ _ _ _ _ _ _ (@qG _ _ 0 _ _ (by rfl) (by rfl) (by rfl)) qF) V.n_len (by rfl) (by rfl) (by rfl)) (@ZY _ _ _ _ _ _ _ _ _ (@QV _ _ _ _ _ _ _ (@qG _ _ 4 _ _ (by rfl) (by rfl) (by rfl)) (@QP _ _ _ _ _ _ _ (@qQ _ _ _ _ _ _ _ (@qG _ _ 2 _ _ (by rfl) (by rfl) (by rfl)) qF) V.n_len (by rfl) (by rfl) (by rfl))) qF)) hc V.n_max (by rfl) (by rfl) (by rfl)) (by rfl) (by first |exact Or.inl rfl |exact Or.inr rfl) (by rfl) (by first |exact .inl rfl |exact .inr rfl |assumption)) (@qI _ _ _ _ _ _ (@qa _ _ _ _ _ 6 _ _ sc_mended.nd (@QX _ _ _ _ (@Z2 _ _ _ _ _ _ _ (@qG _ _ 0 _ _ (by rfl) (by rfl) (by rfl)) (@QX _ _ _ _ (@qBf _ _ _ _ _ _ _ (@Qq _ _ _ _ _ (@QI _ _ _ _ _ _ _ _ qN qF)) (@WV _ _ _ _ _ _ _ (@qG _ _ 5 _ _ (by rfl) (by rfl) (by rfl)) (@QP _ _ _ _ _ _ _ (@qQ _ _ _ _ _ _ _ (@qG _ _ 0 _ _ (by rfl) (by rfl) (by rfl)) qF) V.n_len (by rfl) (by rfl) (by rfl))))))) (by rfl) (by first |exact Or.inl rfl |exact Or.inr rfl) (by rfl) (by first |exact .inl rfl |exact .inr rfl |assumption)) (@qI _ _ _ _ _ _ (@qa _ _ _ _ _ 7 _ _ sc_mended.nd (@QX _ _ _ _ (@Z2 _ _ _ _ _ _ _ (@QX _ _ _ _ (@Z2 _ _ _ _ _ _ _ (@QX _ _ _ _ (@qBf _ _ _ _ _ _ _ (@Qq _ _ _ _ _ (@QI _ _ _ _ _ _ _ _ qN qF)) (@qG _ _ 4 _ _ (by rfl) (by rfl) (by rfl)))) (@qG _ _ 2 _ _ (by rfl) (by rfl) (by rfl)))) (@QX _ _ _ _ (@qBf _ _ _ _ _ _ _ (@Qq _ _ _ _ _ (@QI _ _ _ _ _ _ _ _ qN qF)) (@WV _ _ _ _ _ _ _ (@WV _ _ _ _ _ _ _ (@qG _ _ 5 _ _ (by rfl) (by rfl) (by rfl)) (@qG _ _ 4 _ _ (by rfl) (by rfl) (by rfl))) (@QP _ _ _ _ _ _ _ (@qQ _ _ _ _ _ _ _ (@qG _ _ 2 _ _ (by rfl) (by rfl) (by rfl)) qF) V.n_len (by rfl) (by rfl) (by rfl))))))) (by rfl) (by first |exact Or.inl rfl |exact Or.inr rfl) (by rfl) (by first |exact .inl rfl |exact .inr rfl |assumption)) (@qI _ _ _ _ _ _ (@JM _ _ _ _ _ _ _ _ _ _ (["old_gap","gap","kept","taken"]) (["at"]) ([3,1,6,7]) _ _ _ _ _ 8 sc_mended.nd (by exact wq rfl (by decide +kernel) rfl rfl ⟨⟨rfl,rfl⟩,⟨⟨rfl,rfl⟩,⟨⟨rfl,rfl⟩,⟨⟨rfl,rfl⟩,trivial⟩⟩⟩⟩) (@wM _ _ _ _ _ _ _ rfl V.n_range (@qQ _ _ _ _ _ _ _ (@qG _ _ 5 _ _ (by rfl) (by rfl) (by rfl)) qF) (by rfl)) (fun s' H' fp pn=>⟨(@WV _ _ _ _ _ _ _ (@WW _ _ _ _ _ _ _ (@qG _ _ 0 _ _ (by rfl) (by rfl) (by rfl)) (@QT _ _ _ _ _ _ _ (@qG _ _ 2 _ _ (by rfl) (by rfl) (by rfl)) (@qG _ _ 4 _ _ (by rfl) (by rfl) (by rfl)) (by exact fun _ _=>rfl))) (@WW _ _ _ _ _ _ _ (@qG _ _ 1 _ _ (by rfl) (by rfl) (by rfl)) (@QT _ _ _ _ _ _ _ (@qG _ _ 3 _ _ (by rfl) (by rfl) (by rfl)) (@qG _ _ 4 _ _ (by rfl) (by rfl) (by rfl)) (by exact fun _ _=>rfl)))),⟨(@wE _ _ 4 _ (show (["old_gap","gap","kept","taken","at"]:List Str).Nodup by decide +kernel) (by rfl) (by first |exact Or.inl rfl |exact Or.inr rfl) (by first |exact .inl rfl |exact .inr rfl |assumption)),(qp 4),TsOk.nil,rfl⟩,GsOk.nil⟩) (by rfl) (by first |exact Or.inl rfl |exact Or.inr rfl) (by first |exact .inl rfl |exact .inr rfl |assumption) (by rfl) (by intro _;rfl)) (@qI _ _ _ _ _ _ (@qa _ _ _ _ _ 9 _ _ sc_mended.nd (@qV _ _ _ _ _ _ _ _ _ ((yA V).call (hr.mono (by omega)) qv) (@qQ _ _ _ _ _ _ _ (@qG _ _ 8 _ _ (by rfl) (by rfl) (by rfl)) qF) (by rfl) (by rfl)) (by rfl) (by first |exact Or.inl rfl |exact Or.inr rfl) (by rfl) (by first |exact .inl rfl |exact .inr rfl |assumption)) (@qP _ _ _ _ (@qh _ _ _ _ _ (@QX _ _ _ _ (@ww _ _ _ _ _ _ _ (["divisor"]) (["number"]) ([9]) _ _ _ _ _ (by exact wq rfl (by decide +kernel) rfl rfl ⟨⟨rfl,rfl⟩,trivial⟩) (@W2 _ _ _ _ _ (@qG _ _ 8 _ _ (by rfl) (by rfl) (by rfl))) (fun s' H' fp pn=>⟨(@JI _ _ _ _ _ _ _ (@qG _ _ 1 _ _ (by rfl) (by rfl) (by rfl)) (@qG _ _ 0 _ _ (by rfl) (by rfl) (by rfl))),⟨(@wE _ _ 1 _ (show (["divisor","number"]:List Str).Nodup by decide +kernel) (by rfl) (by first |exact Or.inl rfl |exact Or.inr rfl) (by first |exact .inl rfl |exact .inr rfl |assumption)),(qp 1),TsOk.nil,rfl⟩,GsOk.nil⟩) (by intro _;rfl))))))))))
theorem sc_shortest_numbers:FnScope ["counts","numbers","old","old_gap","back","at","gap","better"] ["counts"] (qK qm):=⟨rfl,rfl,rfl,by decide +kernel,rfl,by decide +kernel,by decide +kernel⟩
theorem Zd (V:Env K mg a):DefG P w K mg base 4 "shortest_numbers" a.shortest_numbers 1 (wZ a):=by
 obtain ⟨fd,F⟩:=V.f_shortest_numbers
 refine Qw (B:=wd a) F sc_shortest_numbers (F.binds (ps:=["counts"]) fun _ _ _ _ _ _ us hl=>match us,hl with |[_],_=>rfl) V.m_shortest_numbers (fun l st h=>qX h) (fun cdv A outer s H E hr hcm => ?_) (fun l s0 hl hn=>qU hl)
 have hu:=hr.units
 have hc:(we (CXF P w) P w K mg base ["counts","numbers","old","old_gap","back","at","gap","better"] "shortest_numbers" (qK qm) a.shortest_numbers cdv A outer s H E).calm=true:=by show A.handled.isNone=true;rw [hcm (by omega)];rfl
 exact (@qI _ _ _ _ _ _ (@qa _ _ _ _ _ 1 _ _ sc_shortest_numbers.nd (@QX _ _ _ _ (@Qq _ _ _ _ _ (@QI _ _ _ _ _ _ _ _ qN qF))) (by rfl) (by first |exact Or.inl rfl |exact Or.inr rfl) (by rfl) (by first |exact .inl rfl |exact .inr rfl |assumption)) (@qI _ _ _ _ _ _ (@qa _ _ _ _ _ 2 _ _ sc_shortest_numbers.nd (@QX _ _ _ _ (@Qq _ _ _ _ _ (@QI _ _ _ _ _ _ _ _ qN qF))) (by rfl) (by first |exact Or.inl rfl |exact Or.inr rfl) (by rfl) (by first |exact .inl rfl |exact .inr rfl |assumption)) (@qI _ _ _ _ _ _ (@qa _ _ _ _ _ 3 _ _ sc_shortest_numbers.nd qN (by rfl) (by first |exact Or.inl rfl |exact Or.inr rfl) (by rfl) (by first |exact .inl rfl |exact .inr rfl |assumption)) (@qI _ _ _ _ _ _ (@qa _ _ _ _ _ 4 _ _ sc_shortest_numbers.nd qN (by rfl) (by first |exact Or.inl rfl |exact Or.inr rfl) (by rfl) (by first |exact .inl rfl |exact .inr rfl |assumption)) (@qI _ _ _ _ _ _ (@Wj _ _ _ _ _ _ _ _ _ (@wM _ _ _ _ _ _ _ rfl V.n_range (@W5 _ _ _ _ _ _ _ _ _ (@QP _ _ _ _ _ _ _ (@qQ _ _ _ _ _ _ _ (@qG _ _ 0 _ _ (by rfl) (by rfl) (by rfl)) qF) V.n_len (by rfl) (by rfl) (by rfl)) qF) (by rfl)) (@Qd _ _ 5 _ sc_shortest_numbers.nd (by rfl) (by first |exact Or.inl rfl |exact Or.inr rfl) (by first |exact .inl rfl |exact .inr rfl |assumption)) (@qI _ _ _ _ _ _ (@qa _ _ _ _ _ 6 _ _ sc_shortest_numbers.nd (@qV _ _ _ _ _ _ _ _ _ ((qDP V).call (hr.mono (by omega)) (QC _)) (@qQ _ _ _ _ _ _ _ (@qG _ _ 1 _ _ (by rfl) (by rfl) (by rfl)) (@qQ _ _ _ _ _ _ _ (@qG _ _ 0 _ _ (by rfl) (by rfl) (by rfl)) (@qQ _ _ _ _ _ _ _ (@qG _ _ 5 _ _ (by rfl) (by rfl) (by rfl)) qF))) (by rfl) (by rfl)) (by rfl) (by first |exact Or.inl rfl |exact Or.inr rfl) (by rfl) (by first |exact .inl rfl |exact .inr rfl |assumption)) (@qI _ _ _ _ _ _ (@qIo _ _ _ _ _ 4 _ _ sc_shortest_numbers.nd qN (by rfl) (by first |exact Or.inl rfl |exact Or.inr rfl) (by first |exact .inl rfl |exact .inr rfl |assumption)) (@qP _ _ _ _ (@wU _ _ _ _ _ _ _ _ _ (@Qs _ _ _ _ _ _ _ _ _ _ (zP hu) Zr (@qG _ _ 6 _ _ (by rfl) (by rfl) (by rfl)) qN (by first |exact QZ _ |with_unfolding_all rfl)) (@qI _ _ _ _ _ _ (@qa _ _ _ _ _ 7 _ _ sc_shortest_numbers.nd (@qV _ _ _ _ _ _ _ _ _ ((qDe V).call (hr.mono (by omega)) (QC _)) (@qQ _ _ _ _ _ _ _ (@qG _ _ 1 _ _ (by rfl) (by rfl) (by rfl)) (@qQ _ _ _ _ _ _ _ (@qG _ _ 6 _ _ (by rfl) (by rfl) (by rfl)) (@qQ _ _ _ _ _ _ _ (@qG _ _ 2 _ _ (by rfl) (by rfl) (by rfl)) (@qQ _ _ _ _ _ _ _ (@qG _ _ 3 _ _ (by rfl) (by rfl) (by rfl)) (@qQ _ _ _ _ _ _ _ (@qG _ _ 4 _ _ (by rfl) (by rfl) (by rfl)) qF))))) (by rfl) (by rfl)) (by rfl) (by first |exact Or.inl rfl |exact Or.inr rfl) (by rfl) (by first |exact .inl rfl |exact .inr rfl |assumption)) (@qI _ _ _ _ _ _ (@wU _ _ _ _ _ _ _ _ _ (@Qs _ _ _ _ _ _ _ _ _ _ qED qET (@QP _ _ _ _ _ _ _ (@qQ _ _ _ _ _ _ _ (@qG _ _ 7 _ _ (by rfl) (by rfl) (by rfl)) qF) V.n_len (by rfl) (by rfl) (by rfl)) (@QP _ _ _ _ _ _ _ (@qQ _ _ _ _ _ _ _ (@qG _ _ 1 _ _ (by rfl) (by rfl) (by rfl)) qF) V.n_len (by rfl) (by rfl) (by rfl)) (by first |exact QZ _ |with_unfolding_all rfl)) (@qP _ _ _ _ (@qGv _ _ _ _ _ _ 2 3 4 _ _ _ _ _ _ _ _ _ _ _ hc sc_shortest_numbers.nd (@qQ _ _ _ _ _ _ _ (@qG _ _ 1 _ _ (by rfl) (by rfl) (by rfl)) (@qQ _ _ _ _ _ _ _ (@qG _ _ 6 _ _ (by rfl) (by rfl) (by rfl)) (@QI _ _ _ _ _ _ _ _ qN qF))) (by rfl) (by rfl) (by rfl) (by rfl) (by decide) (by decide) (by decide) (by rfl) (by rfl) (by rfl) (by rfl))) QK) (@qP _ _ _ _ (@qa _ _ _ _ _ 1 _ _ sc_shortest_numbers.nd (@qG _ _ 7 _ _ (by rfl) (by rfl) (by rfl)) (by rfl) (by first |exact Or.inl rfl |exact Or.inr rfl) (by rfl) (by first |exact .inl rfl |exact .inr rfl |assumption))))) QK)))) (by intro _;rfl)) (@qP _ _ _ _ (@qh _ _ _ _ _ (@qG _ _ 1 _ _ (by rfl) (by rfl) (by rfl)))))))))
theorem sc_rule_of:FnScope ["width","length","numbers"] ["width","length"] (qK Wa):=⟨rfl,rfl,rfl,by decide +kernel,rfl,by decide +kernel,by decide +kernel⟩
theorem qCm (V:Env K mg a):DefG P w K mg base 7 "rule_of" a.rule_of 2 (W8 a):=by
 obtain ⟨fd,F⟩:=V.f_rule_of
 obtain ⟨_,c_MOST_COLUMNS⟩:=V.c_MOST_COLUMNS
 refine Qw (B:=Zw a) F sc_rule_of (F.binds (ps:=["width","length"]) fun _ _ _ _ _ _ us hl=>match us,hl with |[_,_],_=>rfl) V.m_rule_of (fun l st h=>qX h) (fun cdv A outer s H E hr hcm => ?_) (fun l s0 hl hn=>qU hl)
 have hu:=hr.units
 exact (@qI _ _ _ _ _ _ (@qa _ _ _ _ _ 2 _ _ sc_rule_of.nd (@qV _ _ _ _ _ _ _ _ _ ((Zd V).call (hr.mono (by omega)) qv) (@W5 _ _ _ _ _ _ _ _ _ (@qV _ _ _ _ _ _ _ _ _ ((YJ V).call (hr.mono (by omega)) qv) (@qQ _ _ _ _ _ _ _ (@qG _ _ 0 _ _ (by rfl) (by rfl) (by rfl)) (@qQ _ _ _ _ _ _ _ (@qG _ _ 1 _ _ (by rfl) (by rfl) (by rfl)) (@qQ _ _ _ _ _ _ _ (@zL _ _ _ _ _ _ rfl c_MOST_COLUMNS (by decide)) qF))) (by rfl) (by rfl)) qF) (by rfl) (by rfl)) (by rfl) (by first |exact Or.inl rfl |exact Or.inr rfl) (by rfl) (by first |exact .inl rfl |exact .inr rfl |assumption)) (@qP _ _ _ _ (@qh _ _ _ _ _ (@qCl _ _ _ _ _ _ _ (@qBB _ _ _ _ _ _ _ _ _ (@QX _ _ _ _ (@ww _ _ _ _ _ _ _ (["numbers"]) (["number"]) ([2]) _ _ _ _ _ (by exact wq rfl (by decide +kernel) rfl rfl ⟨⟨rfl,rfl⟩,trivial⟩) (@W2 _ _ _ _ _ (@qEm _ _ _ _ _ _ _ _ _ _ (@qG _ _ 2 _ _ (by rfl) (by rfl) (by rfl)) (@zQ _ _ _ _ qN) qGT)) (fun s' H' fp pn=>⟨(@JI _ _ _ _ _ _ _ (@qBb _ _ _ _ _ (@qG _ _ 1 _ _ (by rfl) (by rfl) (by rfl))) (@QT _ _ _ _ _ _ _ (@qG _ _ 0 _ _ (by rfl) (by rfl) (by rfl)) qN (by exact fun _ _=>rfl))),⟨(@wE _ _ 1 _ (show (["numbers","number"]:List Str).Nodup by decide +kernel) (by rfl) (by first |exact Or.inl rfl |exact Or.inr rfl) (by first |exact .inl rfl |exact .inr rfl |assumption)),(qp 1),TsOk.nil,rfl⟩,GsOk.nil⟩) (by intro _;rfl))) qF) V.n_tuple (by rfl) (by rfl) (by rfl)))))
theorem qAg:FnScope ["_law_script","_law_k"] ["_law_script","_law_k"] (qK WI):=⟨rfl,rfl,rfl,by decide +kernel,rfl,by decide +kernel,by decide +kernel⟩
theorem qBJ (V:Env K mg a):DefG P w K mg base 2 "_law_cell" a.law_cell 2 (zO a):=by
 obtain ⟨fd,F⟩:=V.f_law_cell
 refine Qw (B:=zF a) F qAg (F.binds (ps:=["_law_script","_law_k"]) fun _ _ _ _ _ _ us hl=>match us,hl with |[_,_],_=>rfl) V.m_law_cell (fun l st h=>qX h) (fun cdv A outer s H E hr hcm => ?_) (fun l s0 hl hn=>qU hl)
 have hu:=hr.units
 exact (@qI _ _ _ _ _ _ (@wU _ _ _ _ _ _ _ _ _ (@Qs _ _ _ _ _ _ _ _ _ _ qKc qKn (@qG _ _ 1 _ _ (by rfl) (by rfl) (by rfl)) (@QP _ _ _ _ _ _ _ (@qQ _ _ _ _ _ _ _ (@qG _ _ 0 _ _ (by rfl) (by rfl) (by rfl)) qF) V.n_len (by rfl) (by rfl) (by rfl)) (by first |exact QZ _ |with_unfolding_all rfl)) (@qP _ _ _ _ (@qh _ _ _ _ _ (@QT _ _ _ _ _ _ _ (@qG _ _ 0 _ _ (by rfl) (by rfl) (by rfl)) (@qG _ _ 1 _ _ (by rfl) (by rfl) (by rfl)) (by exact fun _ _=>rfl)))) QK) (@qP _ _ _ _ (@qh _ _ _ _ _ (@QV _ _ _ _ _ _ _ (@WW _ _ _ _ _ _ _ qN (@qG _ _ 1 _ _ (by rfl) (by rfl) (by rfl))) qN))))
theorem sc_law_box:FnScope ["_law_script","_law_k","_law_cell_here","_law_number","_law_mixed","_law_j"] ["_law_script","_law_k"] (qK WZ):=⟨rfl,rfl,rfl,by decide +kernel,rfl,by decide +kernel,by decide +kernel⟩
theorem qDI (V:Env K mg a):DefG P w K mg base 3 "_law_box" a.law_box 2 (z9 a):=by
 obtain ⟨fd,F⟩:=V.f_law_box
 refine Qw (B:=ZB a) F sc_law_box (F.binds (ps:=["_law_script","_law_k"]) fun _ _ _ _ _ _ us hl=>match us,hl with |[_,_],_=>rfl) V.m_law_box (fun l st h=>qX h) (fun cdv A outer s H E hr hcm => ?_) (fun l s0 hl hn=>qU hl)
 have hu:=hr.units
 exact (@qI _ _ _ _ _ _ (@qa _ _ _ _ _ 2 _ _ sc_law_box.nd (@qV _ _ _ _ _ _ _ _ _ ((qBJ V).call (hr.mono (by omega)) qv) (@qQ _ _ _ _ _ _ _ (@qG _ _ 0 _ _ (by rfl) (by rfl) (by rfl)) (@qQ _ _ _ _ _ _ _ (@qG _ _ 1 _ _ (by rfl) (by rfl) (by rfl)) qF)) (by rfl) (by rfl)) (by rfl) (by first |exact Or.inl rfl |exact Or.inr rfl) (by rfl) (by first |exact .inl rfl |exact .inr rfl |assumption)) (@qI _ _ _ _ _ _ (@wU _ _ _ _ _ _ _ _ _ (@Qs _ _ _ _ _ _ _ _ _ _ (ZX hu) yr (@YC _ _ _ _ _ _ _ (@qG _ _ 2 _ _ (by rfl) (by rfl) (by rfl)) qN) qN (by first |exact QZ _ |with_unfolding_all rfl)) (@qP _ _ _ _ (@qCO _ _ _ _ _ (@Qq _ _ _ _ _ (@ZY _ _ _ _ _ _ _ _ _ (@qFI _ _ _ _ _ _ _ (@qG _ _ 2 _ _ (by rfl) (by rfl) (by rfl)) qN) qF)))) QK) (@qI _ _ _ _ _ _ (@qa _ _ _ _ _ 3 _ _ sc_law_box.nd qN (by rfl) (by first |exact Or.inl rfl |exact Or.inr rfl) (by rfl) (by first |exact .inl rfl |exact .inr rfl |assumption)) (@qI _ _ _ _ _ _ (@qa _ _ _ _ _ 4 _ _ sc_law_box.nd (@YC _ _ _ _ _ _ _ (@qG _ _ 2 _ _ (by rfl) (by rfl) (by rfl)) qN) (by rfl) (by first |exact Or.inl rfl |exact Or.inr rfl) (by rfl) (by first |exact .inl rfl |exact .inr rfl |assumption)) (@qI _ _ _ _ _ _ (@Wj _ _ _ _ _ _ _ _ _ (@wM _ _ _ _ _ _ _ rfl V.n_range (@QI _ _ _ _ _ _ _ _ qN qF) (by rfl)) (@Qd _ _ 5 _ sc_law_box.nd (by rfl) (by first |exact Or.inl rfl |exact Or.inr rfl) (by first |exact .inl rfl |exact .inr rfl |assumption)) (@qI _ _ _ _ _ _ (@qa _ _ _ _ _ 4 _ _ sc_law_box.nd (@YC _ _ _ _ _ _ _ (@QV _ _ _ _ _ _ _ (@QV _ _ _ _ _ _ _ (@QV _ _ _ _ _ _ _ (@WW _ _ _ _ _ _ _ (@qG _ _ 4 _ _ (by rfl) (by rfl) (by rfl)) qN) (@WW _ _ _ _ _ _ _ (@WW _ _ _ _ _ _ _ qN (@qG _ _ 5 _ _ (by rfl) (by rfl) (by rfl))) (@qG _ _ 5 _ _ (by rfl) (by rfl) (by rfl)))) (@WW _ _ _ _ _ _ _ qN (@qG _ _ 1 _ _ (by rfl) (by rfl) (by rfl)))) qN) qN) (by rfl) (by first |exact Or.inl rfl |exact Or.inr rfl) (by rfl) (by first |exact .inl rfl |exact .inr rfl |assumption)) (@qP _ _ _ _ (@qa _ _ _ _ _ 3 _ _ sc_law_box.nd (@QV _ _ _ _ _ _ _ (@WW _ _ _ _ _ _ _ (@qG _ _ 3 _ _ (by rfl) (by rfl) (by rfl)) qN) (@qG _ _ 4 _ _ (by rfl) (by rfl) (by rfl))) (by rfl) (by first |exact Or.inl rfl |exact Or.inr rfl) (by rfl) (by first |exact .inl rfl |exact .inr rfl |assumption)))) (by intro _;rfl)) (@qP _ _ _ _ (@qCO _ _ _ _ _ (@Qq _ _ _ _ _ (@qQ _ _ _ _ _ _ _ (@qG _ _ 3 _ _ (by rfl) (by rfl) (by rfl)) qF)))))))))
theorem sc_law_take:FnScope ["_law_box_here","_law_many","_law_digit"] ["_law_box_here","_law_many"] (qK WD):=⟨rfl,rfl,rfl,by decide +kernel,rfl,by decide +kernel,by decide +kernel⟩
theorem zI (V:Env K mg a):DefG P w K mg base 2 "_law_take" a.law_take 2 (wB a):=by
 obtain ⟨fd,F⟩:=V.f_law_take
 refine Qw (B:=ZU a) F sc_law_take (F.binds (ps:=["_law_box_here","_law_many"]) fun _ _ _ _ _ _ us hl=>match us,hl with |[_,_],_=>rfl) V.m_law_take (fun l st h=>qX h) (fun cdv A outer s H E hr hcm => ?_) (fun l s0 hl hn=>qU hl)
 have hu:=hr.units
 exact (@qI _ _ _ _ _ _ (@qa _ _ _ _ _ 2 _ _ sc_law_take.nd (@YC _ _ _ _ _ _ _ (@QT _ _ _ _ _ _ _ (@qG _ _ 0 _ _ (by rfl) (by rfl) (by rfl)) qN (by exact fun _ _=>rfl)) (@qG _ _ 1 _ _ (by rfl) (by rfl) (by rfl))) (by rfl) (by first |exact Or.inl rfl |exact Or.inr rfl) (by rfl) (by first |exact .inl rfl |exact .inr rfl |assumption)) (@qI _ _ _ _ _ _ (@qFe _ _ _ _ _ _ _ _ _ _ (@qG _ _ 0 _ _ (by rfl) (by rfl) (by rfl)) qN (@qFI _ _ _ _ _ _ _ (@QT _ _ _ _ _ _ _ (@qG _ _ 0 _ _ (by rfl) (by rfl) (by rfl)) qN (by exact fun _ _=>rfl)) (@qG _ _ 1 _ _ (by rfl) (by rfl) (by rfl))) (by rfl) (by rfl) (by rfl) (by intro _;rfl)) (@qP _ _ _ _ (@qh _ _ _ _ _ (@qG _ _ 2 _ _ (by rfl) (by rfl) (by rfl))))))
theorem jt:FnScope ["_law_thing"] ["_law_thing"] (qK wj):=⟨rfl,rfl,rfl,by decide +kernel,rfl,by decide +kernel,by decide +kernel⟩
theorem qAA (V:Env K mg a):DefG P w K mg base 2 "_law_whole" a.law_whole 1 (Wt a):=by
 obtain ⟨fd,F⟩:=V.f_law_whole
 refine Qw (B:=yM a) F jt (F.binds (ps:=["_law_thing"]) fun _ _ _ _ _ _ us hl=>match us,hl with |[_],_=>rfl) V.m_law_whole (fun l st h=>qX h) (fun cdv A outer s H E hr hcm => ?_) (fun l s0 hl hn=>qU hl)
 have hu:=hr.units
 exact (@qP _ _ _ _ (@qh _ _ _ _ _ (@yi _ _ _ _ _ _ _ _ (@QL _ _ _ _ _ _ _ _ V.kit V.n_isinstance (@qQ _ _ _ _ _ _ _ (@qG _ _ 0 _ _ (by rfl) (by rfl) (by rfl)) (@qQ _ _ _ _ _ _ _ (@Wr _ _ _ _ _ rfl V.n_int Boot.«int» (by decide) (by decide)) qF)) (by rfl) (by rfl) (by rfl)) (@Ye _ _ _ _ _ _ (@qEz _ _ _ _ _ (@QL _ _ _ _ _ _ _ _ V.kit V.n_isinstance (@qQ _ _ _ _ _ _ _ (@qG _ _ 0 _ _ (by rfl) (by rfl) (by rfl)) (@qQ _ _ _ _ _ _ _ (@Wr _ _ _ _ _ rfl V.n_bool Boot.«bool» (by decide) (by decide)) qF)) (by rfl) (by rfl) (by rfl)))))))
theorem sc_law_kind:FnScope ["_law_e","_law_kinds","_law_words"] ["_law_e"] (qK WN):=⟨rfl,rfl,rfl,by decide +kernel,rfl,by decide +kernel,by decide +kernel⟩
theorem qBP (V:Env K mg a):DefG P w K mg base 1 "_law_kind" a.law_kind 1 (We a):=by
 obtain ⟨fd,F⟩:=V.f_law_kind
 refine Qw (B:=zK a) F sc_law_kind (F.binds (ps:=["_law_e"]) fun _ _ _ _ _ _ us hl=>match us,hl with |[_],_=>rfl) V.m_law_kind (fun l st h=>qX h) (fun cdv A outer s H E hr hcm => ?_) (fun l s0 hl hn=>qU hl)
 have hu:=hr.units
 exact (@qI _ _ _ _ _ _ (@qa _ _ _ _ _ 1 _ _ sc_law_kind.nd (@QX _ _ _ _ (@Qq _ _ _ _ _ (@W5 _ _ _ _ _ _ _ _ _ (@QL _ _ _ _ _ _ _ _ V.kit V.n_isinstance (@qQ _ _ _ _ _ _ _ (@qG _ _ 0 _ _ (by rfl) (by rfl) (by rfl)) (@qQ _ _ _ _ _ _ _ (@zc _ _ _ _ _ rfl V.k_NoLength (by decide)) qF)) (by rfl) (by rfl) (by rfl)) (@W5 _ _ _ _ _ _ _ _ _ (@QL _ _ _ _ _ _ _ _ V.kit V.n_isinstance (@qQ _ _ _ _ _ _ _ (@qG _ _ 0 _ _ (by rfl) (by rfl) (by rfl)) (@qQ _ _ _ _ _ _ _ (@zc _ _ _ _ _ rfl V.k_NoNumber (by decide)) qF)) (by rfl) (by rfl) (by rfl)) (@W5 _ _ _ _ _ _ _ _ _ (@QL _ _ _ _ _ _ _ _ V.kit V.n_isinstance (@qQ _ _ _ _ _ _ _ (@qG _ _ 0 _ _ (by rfl) (by rfl) (by rfl)) (@qQ _ _ _ _ _ _ _ (@zc _ _ _ _ _ rfl V.k_NoBars (by decide)) qF)) (by rfl) (by rfl) (by rfl)) (@W5 _ _ _ _ _ _ _ _ _ (@QL _ _ _ _ _ _ _ _ V.kit V.n_isinstance (@qQ _ _ _ _ _ _ _ (@qG _ _ 0 _ _ (by rfl) (by rfl) (by rfl)) (@qQ _ _ _ _ _ _ _ (@zc _ _ _ _ _ rfl V.k_NoBox (by decide)) qF)) (by rfl) (by rfl) (by rfl)) qF)))))) (by rfl) (by first |exact Or.inl rfl |exact Or.inr rfl) (by rfl) (by first |exact .inl rfl |exact .inr rfl |assumption)) (@qI _ _ _ _ _ _ (@qa _ _ _ _ _ 1 _ _ sc_law_kind.nd (@QX _ _ _ _ (@Z2 _ _ _ _ _ _ _ (@qG _ _ 1 _ _ (by rfl) (by rfl) (by rfl)) (@QX _ _ _ _ (@Qq _ _ _ _ _ (@W5 _ _ _ _ _ _ _ _ _ (@QL _ _ _ _ _ _ _ _ V.kit V.n_isinstance (@qQ _ _ _ _ _ _ _ (@qG _ _ 0 _ _ (by rfl) (by rfl) (by rfl)) (@qQ _ _ _ _ _ _ _ (@zc _ _ _ _ _ rfl V.k_NoWeights (by decide)) qF)) (by rfl) (by rfl) (by rfl)) (@W5 _ _ _ _ _ _ _ _ _ (@QL _ _ _ _ _ _ _ _ V.kit V.n_isinstance (@qQ _ _ _ _ _ _ _ (@qG _ _ 0 _ _ (by rfl) (by rfl) (by rfl)) (@qQ _ _ _ _ _ _ _ (@zc _ _ _ _ _ rfl V.k_NoSorts (by decide)) qF)) (by rfl) (by rfl) (by rfl)) (@W5 _ _ _ _ _ _ _ _ _ (@QL _ _ _ _ _ _ _ _ V.kit V.n_isinstance (@qQ _ _ _ _ _ _ _ (@qG _ _ 0 _ _ (by rfl) (by rfl) (by rfl)) (@qQ _ _ _ _ _ _ _ (@zc _ _ _ _ _ rfl V.k_NoTurn (by decide)) qF)) (by rfl) (by rfl) (by rfl)) (@W5 _ _ _ _ _ _ _ _ _ (@QL _ _ _ _ _ _ _ _ V.kit V.n_isinstance (@qQ _ _ _ _ _ _ _ (@qG _ _ 0 _ _ (by rfl) (by rfl) (by rfl)) (@qQ _ _ _ _ _ _ _ (@zc _ _ _ _ _ rfl V.k_NoPlace (by decide)) qF)) (by rfl) (by rfl) (by rfl)) qF)))))))) (by rfl) (by first |exact Or.inl rfl |exact Or.inr rfl) (by rfl) (by first |exact .inl rfl |exact .inr rfl |assumption)) (@qI _ _ _ _ _ _ (@qa _ _ _ _ _ 1 _ _ sc_law_kind.nd (@QX _ _ _ _ (@Z2 _ _ _ _ _ _ _ (@qG _ _ 1 _ _ (by rfl) (by rfl) (by rfl)) (@QX _ _ _ _ (@Qq _ _ _ _ _ (@W5 _ _ _ _ _ _ _ _ _ (@QL _ _ _ _ _ _ _ _ V.kit V.n_isinstance (@qQ _ _ _ _ _ _ _ (@qG _ _ 0 _ _ (by rfl) (by rfl) (by rfl)) (@qQ _ _ _ _ _ _ _ (@zc _ _ _ _ _ rfl V.k_NoText (by decide)) qF)) (by rfl) (by rfl) (by rfl)) (@W5 _ _ _ _ _ _ _ _ _ (@QL _ _ _ _ _ _ _ _ V.kit V.n_isinstance (@qQ _ _ _ _ _ _ _ (@qG _ _ 0 _ _ (by rfl) (by rfl) (by rfl)) (@qQ _ _ _ _ _ _ _ (@zc _ _ _ _ _ rfl V.k_NoRow (by decide)) qF)) (by rfl) (by rfl) (by rfl)) (@W5 _ _ _ _ _ _ _ _ _ (@QL _ _ _ _ _ _ _ _ V.kit V.n_isinstance (@qQ _ _ _ _ _ _ _ (@qG _ _ 0 _ _ (by rfl) (by rfl) (by rfl)) (@qQ _ _ _ _ _ _ _ (@zc _ _ _ _ _ rfl V.k_TooMany (by decide)) qF)) (by rfl) (by rfl) (by rfl)) qF))))))) (by rfl) (by first |exact Or.inl rfl |exact Or.inr rfl) (by rfl) (by first |exact .inl rfl |exact .inr rfl |assumption)) (@qI _ _ _ _ _ _ (@wU _ _ _ _ _ _ _ _ _ (@qC2 _ _ _ _ (@jF _ _ _ _ _ _ _ _ (@zR _ _ _ _ _ (@Wz _ _ _ _ (@QL _ _ _ _ _ _ _ _ V.kit V.n_isinstance (@qQ _ _ _ _ _ _ _ (@qG _ _ 0 _ _ (by rfl) (by rfl) (by rfl)) (@qQ _ _ _ _ _ _ _ (@Wr _ _ _ _ _ rfl V.n_ValueError Boot.«ValueError» (by decide) (by decide)) qF)) (by rfl) (by rfl) (by rfl)) (by intro _;rfl))) (@YX _ _ _ _ _ (@Qs _ _ _ _ _ _ _ _ _ _ (zP hu) Zr (@qBR _ _ _ _ _ _ _ (@qBB _ _ _ _ _ _ _ _ _ (@QX _ _ _ _ (@ww _ _ _ _ _ _ _ ([]) (["_law_kind_here"]) ([]) _ _ _ _ _ (by exact wq rfl (by decide +kernel) rfl rfl trivial) (@W2 _ _ _ _ _ (@qG _ _ 1 _ _ (by rfl) (by rfl) (by rfl))) (fun s' H' fp pn=>⟨(@qG0 _ _ _ _ _ _ _ (@qQ _ _ _ _ _ _ _ (@qG _ _ 0 _ _ (by rfl) (by rfl) (by rfl)) qF) V.n_int (by rfl) (by rfl) (by rfl)),⟨(@wE _ _ 0 _ (show (["_law_kind_here"]:List Str).Nodup by decide +kernel) (by rfl) (by first |exact Or.inl rfl |exact Or.inr rfl) (by first |exact .inl rfl |exact .inr rfl |assumption)),(qp 0),TsOk.nil,rfl⟩,GsOk.nil⟩) (by intro _;rfl))) qF) V.n_sum (by rfl) (by rfl) (by rfl)) qN (by first |exact QZ _ |with_unfolding_all rfl))))) (@qP _ _ _ _ (@qh _ _ _ _ _ Qb)) QK) (@qI _ _ _ _ _ _ (@qa _ _ _ _ _ 2 _ _ sc_law_kind.nd (@QX _ _ _ _ (@Qq _ _ _ _ _ (@QI _ _ _ _ _ _ _ _ Qb (@QI _ _ _ _ _ _ _ _ Qb (@QI _ _ _ _ _ _ _ _ Qb (@QI _ _ _ _ _ _ _ _ Qb (@QI _ _ _ _ _ _ _ _ Qb (@QI _ _ _ _ _ _ _ _ Qb (@QI _ _ _ _ _ _ _ _ Qb (@QI _ _ _ _ _ _ _ _ Qb (@QI _ _ _ _ _ _ _ _ Qb (@QI _ _ _ _ _ _ _ _ Qb (@QI _ _ _ _ _ _ _ _ Qb qF))))))))))))) (by rfl) (by first |exact Or.inl rfl |exact Or.inr rfl) (by rfl) (by first |exact .inl rfl |exact .inr rfl |assumption)) (@qP _ _ _ _ (@qh _ _ _ _ _ (@qF0 _ _ _ _ _ _ _ Qb (@QT _ _ _ _ _ _ _ (@qG _ _ 2 _ _ (by rfl) (by rfl) (by rfl)) (@qEA _ _ _ _ _ _ _ _ hu (@qG _ _ 1 _ _ (by rfl) (by rfl) (by rfl)) W9 (by rfl) (by rfl) (by rfl) (by rfl) (by rfl)) (by exact fun _ _=>rfl))))))))))
theorem J5:FnScope ["_law_found","_law_due"] ["_law_found","_law_due"] (qK wa):=⟨rfl,rfl,rfl,by decide +kernel,rfl,by decide +kernel,by decide +kernel⟩
theorem yL (V:Env K mg a):∀ n,DefG P w K mg base (n + 1) "_law_same" a.law_same 2 (Qm n a)
 |0=>by
  obtain ⟨fd,F⟩:=V.f_law_same
  exact qE8 F (F.binds (ps:=["_law_found","_law_due"]) fun _ _ _ _ _ _ us hl=>match us,hl with |[_,_],_=>rfl) V.m_law_same fun _ _=>rfl
 |n + 1=>by
  obtain ⟨fd,F⟩:=V.f_law_same
  have DR:=yL V n
  refine Qw (B:=WF a (Qm n a)) F J5 (F.binds (ps:=["_law_found","_law_due"]) fun _ _ _ _ _ _ us hl=>match us,hl with |[_,_],_=>rfl) V.m_law_same (fun l st h=>qX h) (fun cdv A outer s H E hr hcm => ?_) (fun l s0 hl hn=>qU hl)
  have hu:=hr.units
  have hc:(we (CXF P w) P w K mg base ["_law_found","_law_due"] "_law_same" (qK wa) a.law_same cdv A outer s H E).calm=true:=by show A.handled.isNone=true;rw [hcm (by omega)];rfl
  exact (@qI _ _ _ _ _ _ (@wU _ _ _ _ _ _ _ _ _ (@Wz _ _ _ _ (@QL _ _ _ _ _ _ _ _ V.kit V.n_isinstance (@qQ _ _ _ _ _ _ _ (@qG _ _ 1 _ _ (by rfl) (by rfl) (by rfl)) (@qEn _ _ _ _ _ _ _ _ (@wH _ _ _ _ _ _ (@qQ _ _ _ _ _ _ _ (@Wr _ _ _ _ _ rfl V.n_tuple Boot.«tuple» (by decide) (by decide)) (@qQ _ _ _ _ _ _ _ (@Wr _ _ _ _ _ rfl V.n_list Boot.«list» (by decide) (by decide)) qF))) qF)) (by rfl) (by rfl) (by rfl)) (by intro _;rfl)) (@qI _ _ _ _ _ _ (@wU _ _ _ _ _ _ _ _ _ (@qC2 _ _ _ _ (@jF _ _ _ _ _ _ _ _ (@Qs _ _ _ _ _ _ _ _ _ _ (zP hu) Zr (@QL _ _ _ _ _ _ _ _ V.kit V.n_isinstance (@qQ _ _ _ _ _ _ _ (@qG _ _ 0 _ _ (by rfl) (by rfl) (by rfl)) (@qQ _ _ _ _ _ _ _ (@Wr _ _ _ _ _ rfl V.n_tuple Boot.«tuple» (by decide) (by decide)) qF)) (by rfl) (by rfl) (by rfl)) (@QL _ _ _ _ _ _ _ _ V.kit V.n_isinstance (@qQ _ _ _ _ _ _ _ (@qG _ _ 1 _ _ (by rfl) (by rfl) (by rfl)) (@qQ _ _ _ _ _ _ _ (@Wr _ _ _ _ _ rfl V.n_tuple Boot.«tuple» (by decide) (by decide)) qF)) (by rfl) (by rfl) (by rfl)) (by first |exact QZ _ |with_unfolding_all rfl)) (@YX _ _ _ _ _ (@Qs _ _ _ _ _ _ _ _ _ _ (zP hu) Zr (@QL _ _ _ _ _ _ _ _ V.kit V.n_isinstance (@qQ _ _ _ _ _ _ _ (@qG _ _ 0 _ _ (by rfl) (by rfl) (by rfl)) (@qQ _ _ _ _ _ _ _ (@Wr _ _ _ _ _ rfl V.n_list Boot.«list» (by decide) (by decide)) qF)) (by rfl) (by rfl) (by rfl)) (@QL _ _ _ _ _ _ _ _ V.kit V.n_isinstance (@qQ _ _ _ _ _ _ _ (@qG _ _ 1 _ _ (by rfl) (by rfl) (by rfl)) (@qQ _ _ _ _ _ _ _ (@Wr _ _ _ _ _ rfl V.n_list Boot.«list» (by decide) (by decide)) qF)) (by rfl) (by rfl) (by rfl)) (by first |exact QZ _ |with_unfolding_all rfl))))) (@qP _ _ _ _ (@qh _ _ _ _ _ W9)) QK) (@qP _ _ _ _ (@qh _ _ _ _ _ (@yi _ _ _ _ _ _ _ _ (@qDp _ _ _ _ _ _ _ hu (@QP _ _ _ _ _ _ _ (@qQ _ _ _ _ _ _ _ (@qG _ _ 0 _ _ (by rfl) (by rfl) (by rfl)) qF) V.n_len (by rfl) (by rfl) (by rfl)) (@QP _ _ _ _ _ _ _ (@qQ _ _ _ _ _ _ _ (@qG _ _ 1 _ _ (by rfl) (by rfl) (by rfl)) qF) V.n_len (by rfl) (by rfl) (by rfl))) (@Ye _ _ _ _ _ _ (@qFX _ _ _ _ _ _ _ (@qBB _ _ _ _ _ _ _ _ _ (@QX _ _ _ _ (@ww _ _ _ _ _ _ _ ([]) (["_law_one","_law_other"]) ([]) _ _ _ _ _ (by exact wq rfl (by decide +kernel) rfl rfl trivial) (@qCG _ _ _ _ _ _ _ _ _ _ hc V.n_zip (@qQ _ _ _ _ _ _ _ (@qG _ _ 0 _ _ (by rfl) (by rfl) (by rfl)) (@qQ _ _ _ _ _ _ _ (@qG _ _ 1 _ _ (by rfl) (by rfl) (by rfl)) qF)) (by rfl) (by rfl) (by rfl)) (fun s' H' fp pn=>⟨(@qV _ _ _ _ _ _ _ _ _ (DR.call (hr.mono (by omega)) (QC _)) (@qQ _ _ _ _ _ _ _ (@qG _ _ 0 _ _ (by rfl) (by rfl) (by rfl)) (@qQ _ _ _ _ _ _ _ (@qG _ _ 1 _ _ (by rfl) (by rfl) (by rfl)) qF)) (by rfl) (by rfl)),⟨(@YG _ _ _ _ _ _ hc (@wT _ _ _ _ _ (@wE _ _ 0 _ (show (["_law_one","_law_other"]:List Str).Nodup by decide +kernel) (by rfl) (by first |exact Or.inl rfl |exact Or.inr rfl) (by first |exact .inl rfl |exact .inr rfl |assumption)) (@wT _ _ _ _ _ (@wE _ _ 1 _ (show (["_law_one","_law_other"]:List Str).Nodup by decide +kernel) (by rfl) (by first |exact Or.inl rfl |exact Or.inr rfl) (by first |exact .inl rfl |exact .inr rfl |assumption)) Zs (by rfl)) (by rfl)) (by rfl) (by rfl)),(Zx (WK (qp 0) (WK (qp 1) Z4))),TsOk.nil,rfl⟩,GsOk.nil⟩) (by intro _;rfl))) qF) V.n_all (by rfl) (by rfl) (by rfl))))))) QK) (@qP _ _ _ _ (@qh _ _ _ _ _ (@yi _ _ _ _ _ _ _ _ (@qDp _ _ _ _ _ _ _ hu (@qG _ _ 0 _ _ (by rfl) (by rfl) (by rfl)) (@qG _ _ 1 _ _ (by rfl) (by rfl) (by rfl))) (@Ye _ _ _ _ _ _ (@qDp _ _ _ _ _ _ _ hu (@QL _ _ _ _ _ _ _ _ V.kit V.n_isinstance (@qQ _ _ _ _ _ _ _ (@qG _ _ 0 _ _ (by rfl) (by rfl) (by rfl)) (@qQ _ _ _ _ _ _ _ (@Wr _ _ _ _ _ rfl V.n_bool Boot.«bool» (by decide) (by decide)) qF)) (by rfl) (by rfl) (by rfl)) (@QL _ _ _ _ _ _ _ _ V.kit V.n_isinstance (@qQ _ _ _ _ _ _ _ (@qG _ _ 1 _ _ (by rfl) (by rfl) (by rfl)) (@qQ _ _ _ _ _ _ _ (@Wr _ _ _ _ _ rfl V.n_bool Boot.«bool» (by decide) (by decide)) qF)) (by rfl) (by rfl) (by rfl))))))))
theorem qAw (V:Env K mg a):DefG P w K mg base 4 "_law_same" a.law_same 2 (Qm 3 a):=yL V 3
theorem yG:FnScope ["_law_box_here"] ["_law_box_here"] (qK Qc):=⟨rfl,rfl,rfl,by decide +kernel,rfl,by decide +kernel,by decide +kernel⟩
theorem yV (V:Env K mg a):DefG P w K mg base 3 "_law_no_length" a.law_no_length 1 (Q1 a):=by
 obtain ⟨fd,F⟩:=V.f_law_no_length
 refine Qw (B:=WU a) F yG (F.binds (ps:=["_law_box_here"]) fun _ _ _ _ _ _ us hl=>match us,hl with |[_],_=>rfl) V.m_law_no_length (fun l st h=>qX h) (fun cdv A outer s H E hr hcm => ?_) (fun l s0 hl hn=>qU hl)
 have hu:=hr.units
 exact (@qP _ _ _ _ (@qh _ _ _ _ _ (@QT _ _ _ _ _ _ _ (@QX _ _ _ _ (@Qq _ _ _ _ _ (@QI _ _ _ _ _ _ _ _ qN (@QI _ _ _ _ _ _ _ _ qN (@QI _ _ _ _ _ _ _ _ qN (@qKE _ _ _ _ _ _ _ _ (@qBb _ _ _ _ _ qN) (@QI _ _ _ _ _ _ _ _ W9 (@QI _ _ _ _ _ _ _ _ qEg (@QI _ _ _ _ _ _ _ _ Qb (@qEn _ _ _ _ _ _ _ _ (@wH _ _ _ _ _ _ (@QI _ _ _ _ _ _ _ _ qN qF)) (@qLT _ _ _ _ _ _ _ (@QX _ _ _ _ (@Qq _ _ _ _ _ (@QI _ _ _ _ _ _ _ _ qN qF))) (@ZY _ _ _ _ _ _ _ _ _ (@qDn _ _ _ _ _ _ _ qN qN) qF)))))))))))) (@qV _ _ _ _ _ _ _ _ _ ((zI V).call (hr.mono (by omega)) qv) (@qQ _ _ _ _ _ _ _ (@qG _ _ 0 _ _ (by rfl) (by rfl) (by rfl)) (@QI _ _ _ _ _ _ _ _ qN qF)) (by rfl) (by rfl)) (by exact fun _ _=>rfl))))
theorem sc_law_after:FnScope ["_law_filled","_law_length","_law_at","_law_found"] ["_law_filled","_law_length","_law_at"] (qK wk):=⟨rfl,rfl,rfl,by decide +kernel,rfl,by decide +kernel,by decide +kernel⟩
theorem Zm (V:Env K mg a):∀ n,DefG P w K mg base (n + 1) "_law_after" a.law_after 3 (Qx n a)
 |0=>by
  obtain ⟨fd,F⟩:=V.f_law_after
  exact qE8 F (F.binds (ps:=["_law_filled","_law_length","_law_at"]) fun _ _ _ _ _ _ us hl=>match us,hl with |[_,_,_],_=>rfl) V.m_law_after fun _ _=>rfl
 |n + 1=>by
  obtain ⟨fd,F⟩:=V.f_law_after
  have DR:=Zm V n
  refine Qw (B:=zw a (Qx n a)) F sc_law_after (F.binds (ps:=["_law_filled","_law_length","_law_at"]) fun _ _ _ _ _ _ us hl=>match us,hl with |[_,_,_],_=>rfl) V.m_law_after (fun l st h=>qX h) (fun cdv A outer s H E hr hcm => ?_) (fun l s0 hl hn=>qU hl)
  have hu:=hr.units
  exact (@qI _ _ _ _ _ _ (@wU _ _ _ _ _ _ _ _ _ (@Qs _ _ _ _ _ _ _ _ _ _ (ZX hu) yr (@qG _ _ 2 _ _ (by rfl) (by rfl) (by rfl)) (@QP _ _ _ _ _ _ _ (@qQ _ _ _ _ _ _ _ (@qG _ _ 0 _ _ (by rfl) (by rfl) (by rfl)) qF) V.n_len (by rfl) (by rfl) (by rfl)) (by first |exact QZ _ |with_unfolding_all rfl)) (@qP _ _ _ _ (@qh _ _ _ _ _ (@QX _ _ _ _ (@Qq _ _ _ _ _ (@qEn _ _ _ _ _ _ _ _ (@wH _ _ _ _ _ _ qF) qF))))) QK) (@qI _ _ _ _ _ _ (@wU _ _ _ _ _ _ _ _ _ (@Qs _ _ _ _ _ _ _ _ _ _ qED qET (@QT _ _ _ _ _ _ _ (@qG _ _ 0 _ _ (by rfl) (by rfl) (by rfl)) (@qG _ _ 2 _ _ (by rfl) (by rfl) (by rfl)) (by exact fun _ _=>rfl)) qN (by first |exact QZ _ |with_unfolding_all rfl)) (@qP _ _ _ _ (@qh _ _ _ _ _ (@QX _ _ _ _ (@ww _ _ _ _ _ _ _ (["_law_filled","_law_at"]) (["_law_rest"]) ([0,2]) _ _ _ _ _ (by exact wq rfl (by decide +kernel) rfl rfl ⟨⟨rfl,rfl⟩,⟨⟨rfl,rfl⟩,trivial⟩⟩) (@W2 _ _ _ _ _ (@qV _ _ _ _ _ _ _ _ _ (DR.call (hr.mono (by omega)) qv) (@qQ _ _ _ _ _ _ _ (@qG _ _ 0 _ _ (by rfl) (by rfl) (by rfl)) (@qQ _ _ _ _ _ _ _ (@qG _ _ 1 _ _ (by rfl) (by rfl) (by rfl)) (@ZY _ _ _ _ _ _ _ _ _ (@QV _ _ _ _ _ _ _ (@qG _ _ 2 _ _ (by rfl) (by rfl) (by rfl)) qN) qF))) (by rfl) (by rfl))) (fun s' H' fp pn=>⟨(@z8 _ _ _ _ _ _ _ (@wH _ _ _ _ _ _ (@ZY _ _ _ _ _ _ _ _ _ (@WV _ _ _ _ _ _ _ (@QT _ _ _ _ _ _ _ (@qG _ _ 0 _ _ (by rfl) (by rfl) (by rfl)) (@qG _ _ 1 _ _ (by rfl) (by rfl) (by rfl)) (by exact fun _ _=>rfl)) qN) qF)) (@qG _ _ 2 _ _ (by rfl) (by rfl) (by rfl))),⟨(@wE _ _ 2 _ (show (["_law_filled","_law_at","_law_rest"]:List Str).Nodup by decide +kernel) (by rfl) (by first |exact Or.inl rfl |exact Or.inr rfl) (by first |exact .inl rfl |exact .inr rfl |assumption)),(qp 2),TsOk.nil,rfl⟩,GsOk.nil⟩) (by intro _;rfl))))) QK) (@qI _ _ _ _ _ _ (@JM _ _ _ _ _ _ _ _ _ _ (["_law_length"]) (["_law_rest"]) ([1]) _ _ _ _ _ 3 sc_law_after.nd (by exact wq rfl (by decide +kernel) rfl rfl ⟨⟨rfl,rfl⟩,trivial⟩) (@W2 _ _ _ _ _ (@qV _ _ _ _ _ _ _ _ _ (DR.call (hr.mono (by omega)) qv) (@qQ _ _ _ _ _ _ _ (@qG _ _ 0 _ _ (by rfl) (by rfl) (by rfl)) (@qQ _ _ _ _ _ _ _ (@qG _ _ 1 _ _ (by rfl) (by rfl) (by rfl)) (@ZY _ _ _ _ _ _ _ _ _ (@QV _ _ _ _ _ _ _ (@qG _ _ 2 _ _ (by rfl) (by rfl) (by rfl)) qN) qF))) (by rfl) (by rfl))) (fun s' H' fp pn=>⟨(@z8 _ _ _ _ _ _ _ (@wH _ _ _ _ _ _ (@ZY _ _ _ _ _ _ _ _ _ (@WV _ _ _ _ _ _ _ (@qG _ _ 0 _ _ (by rfl) (by rfl) (by rfl)) qN) qF)) (@qG _ _ 1 _ _ (by rfl) (by rfl) (by rfl))),⟨(@wE _ _ 1 _ (show (["_law_length","_law_rest"]:List Str).Nodup by decide +kernel) (by rfl) (by first |exact Or.inl rfl |exact Or.inr rfl) (by first |exact .inl rfl |exact .inr rfl |assumption)),(qp 1),TsOk.nil,rfl⟩,GsOk.nil⟩) (by rfl) (by first |exact Or.inl rfl |exact Or.inr rfl) (by first |exact .inl rfl |exact .inr rfl |assumption) (by rfl) (by intro _;rfl)) (@qI _ _ _ _ _ _ (@wU _ _ _ _ _ _ _ _ _ (@qC2 _ _ _ _ (@qHd _ _ _ _ _ _ _ _ (@Qs _ _ _ _ _ _ _ _ _ _ qAE qAC (@QV _ _ _ _ _ _ _ (@qG _ _ 2 _ _ (by rfl) (by rfl) (by rfl)) (@qG _ _ 1 _ _ (by rfl) (by rfl) (by rfl))) (@QP _ _ _ _ _ _ _ (@qQ _ _ _ _ _ _ _ (@qG _ _ 0 _ _ (by rfl) (by rfl) (by rfl)) qF) V.n_len (by rfl) (by rfl) (by rfl)) (by first |exact QZ _ |with_unfolding_all rfl)) (@qFz _ _ _ _ _ (@Qs _ _ _ _ _ _ _ _ _ _ (ZX hu) yr (@qFn _ _ _ _ _ _ _ (@qBY _ _ _ _ _ _ _ _ (@qD7 _ _ _ _ _ _ _ _ _ _ (@qG _ _ 0 _ _ (by rfl) (by rfl) (by rfl)) (@zQ _ _ _ _ (@qG _ _ 2 _ _ (by rfl) (by rfl) (by rfl))) (@zQ _ _ _ _ (@QV _ _ _ _ _ _ _ (@qG _ _ 2 _ _ (by rfl) (by rfl) (by rfl)) (@qG _ _ 1 _ _ (by rfl) (by rfl) (by rfl))))) qF) V.n_max (by rfl) (by rfl) (by rfl)) qN (by first |exact QZ _ |with_unfolding_all rfl))))) (@qP _ _ _ _ (@qa _ _ _ _ _ 3 _ _ sc_law_after.nd (@QX _ _ _ _ (@Z2 _ _ _ _ _ _ _ (@qG _ _ 3 _ _ (by rfl) (by rfl) (by rfl)) (@QX _ _ _ _ (@ww _ _ _ _ _ _ _ (["_law_length"]) (["_law_rest"]) ([1]) _ _ _ _ _ (by exact wq rfl (by decide +kernel) rfl rfl ⟨⟨rfl,rfl⟩,trivial⟩) (@W2 _ _ _ _ _ (@qV _ _ _ _ _ _ _ _ _ (DR.call (hr.mono (by omega)) qv) (@qQ _ _ _ _ _ _ _ (@qG _ _ 0 _ _ (by rfl) (by rfl) (by rfl)) (@qQ _ _ _ _ _ _ _ (@qG _ _ 1 _ _ (by rfl) (by rfl) (by rfl)) (@ZY _ _ _ _ _ _ _ _ _ (@QV _ _ _ _ _ _ _ (@qG _ _ 2 _ _ (by rfl) (by rfl) (by rfl)) (@qG _ _ 1 _ _ (by rfl) (by rfl) (by rfl))) qF))) (by rfl) (by rfl))) (fun s' H' fp pn=>⟨(@z8 _ _ _ _ _ _ _ (@ZA _ _ _ _ _ _ _ (@wH _ _ _ _ _ _ (@QI _ _ _ _ _ _ _ _ qN qF)) (@qG _ _ 0 _ _ (by rfl) (by rfl) (by rfl))) (@qG _ _ 1 _ _ (by rfl) (by rfl) (by rfl))),⟨(@wE _ _ 1 _ (show (["_law_length","_law_rest"]:List Str).Nodup by decide +kernel) (by rfl) (by first |exact Or.inl rfl |exact Or.inr rfl) (by first |exact .inl rfl |exact .inr rfl |assumption)),(qp 1),TsOk.nil,rfl⟩,GsOk.nil⟩) (by intro _;rfl))))) (by rfl) (by first |exact Or.inl rfl |exact Or.inr rfl) (by rfl) (by first |exact .inl rfl |exact .inr rfl |assumption))) QK) (@qP _ _ _ _ (@qh _ _ _ _ _ (@qG _ _ 3 _ _ (by rfl) (by rfl) (by rfl))))))))
theorem JZ (V:Env K mg a):DefG P w K mg base 7 "_law_after" a.law_after 3 (Qx 6 a):=Zm V 6
theorem sc_law_counts:FnScope ["_law_width","_law_length","_law_columns","_law_rows","_law_found","_law_column","_law_later","_law_filled","_law_more"] ["_law_width","_law_length","_law_columns"] (qK wN):=⟨rfl,rfl,rfl,by decide +kernel,rfl,by decide +kernel,by decide +kernel⟩
theorem JR (V:Env K mg a):DefG P w K mg base 9 "_law_counts" a.law_counts 3 (WX a):=by
 obtain ⟨fd,F⟩:=V.f_law_counts
 refine Qw (B:=zS a) F sc_law_counts (F.binds (ps:=["_law_width","_law_length","_law_columns"]) fun _ _ _ _ _ _ us hl=>match us,hl with |[_,_,_],_=>rfl) V.m_law_counts (fun l st h=>qX h) (fun cdv A outer s H E hr hcm => ?_) (fun l s0 hl hn=>qU hl)
 have hu:=hr.units
 exact (@qI _ _ _ _ _ _ (@qa _ _ _ _ _ 3 _ _ sc_law_counts.nd (@Jv _ _ _ _ _ _ _ (Nat.lt_of_le_of_lt (Nat.add_le_add_left (by decide) _) hu) V.nk (@ZA _ _ _ _ _ _ _ (@wH _ _ _ _ _ _ (@QI _ _ _ _ _ _ _ _ qN qF)) (@qG _ _ 0 _ _ (by rfl) (by rfl) (by rfl))) qN) (by rfl) (by first |exact Or.inl rfl |exact Or.inr rfl) (by rfl) (by first |exact .inl rfl |exact .inr rfl |assumption)) (@qI _ _ _ _ _ _ (@yf _ _ _ _ 4 _ _ _ sc_law_counts.nd (@Qq _ _ _ _ _ (@QI _ _ _ _ _ _ _ _ qN qF)) (by rfl) (by first |exact Or.inl rfl |exact Or.inr rfl) (by rfl) (by first |exact .inl rfl |exact .inr rfl |assumption)) (@qI _ _ _ _ _ _ (@Wj _ _ _ _ _ _ _ _ _ (@wM _ _ _ _ _ _ _ rfl V.n_range (@qQ _ _ _ _ _ _ _ (@qG _ _ 2 _ _ (by rfl) (by rfl) (by rfl)) qF) (by rfl)) (@Qd _ _ 5 _ sc_law_counts.nd (by rfl) (by first |exact Or.inl rfl |exact Or.inr rfl) (by first |exact .inl rfl |exact .inr rfl |assumption)) (@qI _ _ _ _ _ _ (@qa _ _ _ _ _ 6 _ _ sc_law_counts.nd qCd (by rfl) (by first |exact Or.inl rfl |exact Or.inr rfl) (by rfl) (by first |exact .inl rfl |exact .inr rfl |assumption)) (@qI _ _ _ _ _ _ (@qGN _ _ _ _ _ _ _ _ _ (@qG _ _ 3 _ _ (by rfl) (by rfl) (by rfl)) (@Qd _ _ 7 _ sc_law_counts.nd (by rfl) (by first |exact Or.inl rfl |exact Or.inr rfl) (by first |exact .inl rfl |exact .inr rfl |assumption)) (@qP _ _ _ _ (@Wj _ _ _ _ _ _ _ _ _ (@W2 _ _ _ _ _ (@qV _ _ _ _ _ _ _ _ _ ((JZ V).call (hr.mono (by omega)) (QC _)) (@qQ _ _ _ _ _ _ _ (@qG _ _ 7 _ _ (by rfl) (by rfl) (by rfl)) (@qQ _ _ _ _ _ _ _ (@qG _ _ 1 _ _ (by rfl) (by rfl) (by rfl)) (@QI _ _ _ _ _ _ _ _ qN qF))) (by rfl) (by rfl))) (@Qd _ _ 8 _ sc_law_counts.nd (by rfl) (by first |exact Or.inl rfl |exact Or.inr rfl) (by first |exact .inl rfl |exact .inr rfl |assumption)) (@qP _ _ _ _ (@qCb _ _ _ _ _ _ _ _ _ _ (Nat.lt_of_le_of_lt (Nat.add_le_add_left (by decide) _) hu) V.nk (@qG _ _ 6 _ _ (by rfl) (by rfl) (by rfl)) (@qG _ _ 8 _ _ (by rfl) (by rfl) (by rfl)) (@QV _ _ _ _ _ _ _ (@Zi _ _ _ _ _ _ _ _ _ _ (Nat.lt_of_le_of_lt (Nat.add_le_add_left (by decide) _) hu) V.nk (@qG _ _ 6 _ _ (by rfl) (by rfl) (by rfl)) (@qG _ _ 8 _ _ (by rfl) (by rfl) (by rfl)) qN (by rfl) (by rfl) (by rfl) (by rfl)) (@qI5 _ _ _ _ _ _ _ (Nat.lt_of_le_of_lt (Nat.add_le_add_left (by decide) _) hu) V.nk (@qG _ _ 3 _ _ (by rfl) (by rfl) (by rfl)) (@qG _ _ 7 _ _ (by rfl) (by rfl) (by rfl)) (by exact fun _ _=>rfl))) (by rfl))) (by intro _;rfl))) (by intro _;rfl)) (@qI _ _ _ _ _ _ (@qa _ _ _ _ _ 3 _ _ sc_law_counts.nd (@qG _ _ 6 _ _ (by rfl) (by rfl) (by rfl)) (by rfl) (by first |exact Or.inl rfl |exact Or.inr rfl) (by rfl) (by first |exact .inl rfl |exact .inr rfl |assumption)) (@qP _ _ _ _ (@Wb _ _ _ _ _ _ _ _ _ (@qG _ _ 4 _ _ (by rfl) (by rfl) (by rfl)) (@Zi _ _ _ _ _ _ _ _ _ _ (Nat.lt_of_le_of_lt (Nat.add_le_add_left (by decide) _) hu) V.nk (@qG _ _ 3 _ _ (by rfl) (by rfl) (by rfl)) (@ZA _ _ _ _ _ _ _ (@wH _ _ _ _ _ _ (@QI _ _ _ _ _ _ _ _ qN qF)) (@qG _ _ 0 _ _ (by rfl) (by rfl) (by rfl))) qN (by rfl) (by rfl) (by rfl) (by rfl)) (by rfl) (by rfl) (by rfl) (by rfl) (by rfl) (by rfl)))))) (by intro _;rfl)) (@qP _ _ _ _ (@qh _ _ _ _ _ (@qG _ _ 4 _ _ (by rfl) (by rfl) (by rfl)))))))
theorem yW:FnScope ["_law_box_here"] ["_law_box_here"] (qK Qp):=⟨rfl,rfl,rfl,by decide +kernel,rfl,by decide +kernel,by decide +kernel⟩
theorem Yp (V:Env K mg a):DefG P w K mg base 3 "_law_no_width" a.law_no_width 1 (wD a):=by
 obtain ⟨fd,F⟩:=V.f_law_no_width
 refine Qw (B:=zu a) F yW (F.binds (ps:=["_law_box_here"]) fun _ _ _ _ _ _ us hl=>match us,hl with |[_],_=>rfl) V.m_law_no_width (fun l st h=>qX h) (fun cdv A outer s H E hr hcm => ?_) (fun l s0 hl hn=>qU hl)
 have hu:=hr.units
 exact (@qP _ _ _ _ (@qh _ _ _ _ _ (@QT _ _ _ _ _ _ _ (@QX _ _ _ _ (@Qq _ _ _ _ _ (@QI _ _ _ _ _ _ _ _ qN (@QI _ _ _ _ _ _ _ _ qN (@qKE _ _ _ _ _ _ _ _ (@qBb _ _ _ _ _ qN) (@QI _ _ _ _ _ _ _ _ W9 (@QI _ _ _ _ _ _ _ _ qEg (@QI _ _ _ _ _ _ _ _ Qb (@qEn _ _ _ _ _ _ _ _ (@wH _ _ _ _ _ _ (@QI _ _ _ _ _ _ _ _ qN qF)) (@ZY _ _ _ _ _ _ _ _ _ (@qDn _ _ _ _ _ _ _ qN qN) qF)))))))))) (@qV _ _ _ _ _ _ _ _ _ ((zI V).call (hr.mono (by omega)) qv) (@qQ _ _ _ _ _ _ _ (@qG _ _ 0 _ _ (by rfl) (by rfl) (by rfl)) (@QI _ _ _ _ _ _ _ _ qN qF)) (by rfl) (by rfl)) (by exact fun _ _=>rfl))))
theorem sc_law_is_rule:FnScope ["_law_counts_here","_law_thing","_law_size","_law_at"] ["_law_counts_here","_law_thing"] (qK Q2):=⟨rfl,rfl,rfl,by decide +kernel,rfl,by decide +kernel,by decide +kernel⟩
theorem Yq (V:Env K mg a):DefG P w K mg base 3 "_law_is_rule" a.law_is_rule 2 (WP a):=by
 obtain ⟨fd,F⟩:=V.f_law_is_rule
 refine Qw (B:=W3 a) F sc_law_is_rule (F.binds (ps:=["_law_counts_here","_law_thing"]) fun _ _ _ _ _ _ us hl=>match us,hl with |[_,_],_=>rfl) V.m_law_is_rule (fun l st h=>qX h) (fun cdv A outer s H E hr hcm => ?_) (fun l s0 hl hn=>qU hl)
 have hu:=hr.units
 exact (@qI _ _ _ _ _ _ (@wU _ _ _ _ _ _ _ _ _ (@qC2 _ _ _ _ (@jF _ _ _ _ _ _ _ _ (@zR _ _ _ _ _ (@Wz _ _ _ _ (@QL _ _ _ _ _ _ _ _ V.kit V.n_isinstance (@qQ _ _ _ _ _ _ _ (@qG _ _ 1 _ _ (by rfl) (by rfl) (by rfl)) (@qQ _ _ _ _ _ _ _ (@Wr _ _ _ _ _ rfl V.n_tuple Boot.«tuple» (by decide) (by decide)) qF)) (by rfl) (by rfl) (by rfl)) (by intro _;rfl))) (@jF _ _ _ _ _ _ _ _ (@zR _ _ _ _ _ (@qEK _ _ _ _ _ _ _ _ _ _ _ _ _ _ _ qAE qAE qAC qAC qN (@QP _ _ _ _ _ _ _ (@qQ _ _ _ _ _ _ _ (@qG _ _ 1 _ _ (by rfl) (by rfl) (by rfl)) qF) V.n_len (by rfl) (by rfl) (by rfl)) qN (by with_unfolding_all rfl))) (@YX _ _ _ _ _ (@zR _ _ _ _ _ (@Wz _ _ _ _ (@qFX _ _ _ _ _ _ _ (@qBB _ _ _ _ _ _ _ _ _ (@QX _ _ _ _ (@ww _ _ _ _ _ _ _ ([]) (["_law_one"]) ([]) _ _ _ _ _ (by exact wq rfl (by decide +kernel) rfl rfl trivial) (@W2 _ _ _ _ _ (@qG _ _ 1 _ _ (by rfl) (by rfl) (by rfl))) (fun s' H' fp pn=>⟨(@qV _ _ _ _ _ _ _ _ _ ((qAA V).call (hr.mono (by omega)) (QC _)) (@qQ _ _ _ _ _ _ _ (@qG _ _ 0 _ _ (by rfl) (by rfl) (by rfl)) qF) (by rfl) (by rfl)),⟨(@wE _ _ 0 _ (show (["_law_one"]:List Str).Nodup by decide +kernel) (by rfl) (by first |exact Or.inl rfl |exact Or.inr rfl) (by first |exact .inl rfl |exact .inr rfl |assumption)),(qp 0),TsOk.nil,rfl⟩,GsOk.nil⟩) (by intro _;rfl))) qF) V.n_all (by rfl) (by rfl) (by rfl)) (by intro _;rfl))))))) (@qP _ _ _ _ (@qh _ _ _ _ _ W9)) QK) (@qI _ _ _ _ _ _ (@qa _ _ _ _ _ 2 _ _ sc_law_is_rule.nd (@QP _ _ _ _ _ _ _ (@qQ _ _ _ _ _ _ _ (@qG _ _ 1 _ _ (by rfl) (by rfl) (by rfl)) qF) V.n_len (by rfl) (by rfl) (by rfl)) (by rfl) (by first |exact Or.inl rfl |exact Or.inr rfl) (by rfl) (by first |exact .inl rfl |exact .inr rfl |assumption)) (@qI _ _ _ _ _ _ (@Wj _ _ _ _ _ _ _ _ _ (@yC _ _ _ _ _ _ _ _ rfl V.n_range (@qQ _ _ _ _ _ _ _ (@qG _ _ 2 _ _ (by rfl) (by rfl) (by rfl)) (@QI _ _ _ _ _ _ _ _ qN qF)) (by rfl) (by rfl)) (@Qd _ _ 3 _ sc_law_is_rule.nd (by rfl) (by first |exact Or.inl rfl |exact Or.inr rfl) (by first |exact .inl rfl |exact .inr rfl |assumption)) (@qP _ _ _ _ (@wU _ _ _ _ _ _ _ _ _ (@Qs _ _ _ _ _ _ _ _ _ _ (zP hu) Zr (@QT _ _ _ _ _ _ _ (@qG _ _ 0 _ _ (by rfl) (by rfl) (by rfl)) (@qG _ _ 3 _ _ (by rfl) (by rfl) (by rfl)) (by exact fun _ _=>rfl)) (@qBR _ _ _ _ _ _ _ (@qBB _ _ _ _ _ _ _ _ _ (@QX _ _ _ _ (@ww _ _ _ _ _ _ _ (["_law_thing","_law_counts_here","_law_at"]) (["_law_k"]) ([1,0,3]) _ _ _ _ _ (by exact wq rfl (by decide +kernel) rfl rfl ⟨⟨rfl,rfl⟩,⟨⟨rfl,rfl⟩,⟨⟨rfl,rfl⟩,trivial⟩⟩⟩) (@wM _ _ _ _ _ _ _ rfl V.n_range (@qQ _ _ _ _ _ _ _ (@qG _ _ 2 _ _ (by rfl) (by rfl) (by rfl)) qF) (by rfl)) (fun s' H' fp pn=>⟨(@WW _ _ _ _ _ _ _ (@QT _ _ _ _ _ _ _ (@qG _ _ 0 _ _ (by rfl) (by rfl) (by rfl)) (@qG _ _ 3 _ _ (by rfl) (by rfl) (by rfl)) (by exact fun _ _=>rfl)) (@QT _ _ _ _ _ _ _ (@qG _ _ 1 _ _ (by rfl) (by rfl) (by rfl)) (@WV _ _ _ _ _ _ _ (@WV _ _ _ _ _ _ _ (@qG _ _ 2 _ _ (by rfl) (by rfl) (by rfl)) qN) (@qG _ _ 3 _ _ (by rfl) (by rfl) (by rfl))) (by exact fun _ _=>rfl))),⟨(@wE _ _ 3 _ (show (["_law_thing","_law_counts_here","_law_at","_law_k"]:List Str).Nodup by decide +kernel) (by rfl) (by first |exact Or.inl rfl |exact Or.inr rfl) (by first |exact .inl rfl |exact .inr rfl |assumption)),(qp 3),TsOk.nil,rfl⟩,GsOk.nil⟩) (by intro _;rfl))) qF) V.n_sum (by rfl) (by rfl) (by rfl)) (by first |exact QZ _ |with_unfolding_all rfl)) (@qP _ _ _ _ (@qh _ _ _ _ _ W9)) QK)) (by intro _;rfl)) (@qP _ _ _ _ (@qh _ _ _ _ _ W9)))))
theorem sc_law_apart:FnScope ["_law_rows","_law_ahead","_law_size","_law_at","_law_some","_law_k","_law_lead","_law_here"] ["_law_rows"] (qK wC):=⟨rfl,rfl,rfl,by decide +kernel,rfl,by decide +kernel,by decide +kernel⟩
theorem Jj (V:Env K mg a):DefG P w K mg base 2 "_law_apart" a.law_apart 1 (Wm a):=by
 obtain ⟨fd,F⟩:=V.f_law_apart
 refine Qw (B:=zt a) F sc_law_apart (F.binds (ps:=["_law_rows"]) fun _ _ _ _ _ _ us hl=>match us,hl with |[_],_=>rfl) V.m_law_apart (fun l st h=>qX h) (fun cdv A outer s H E hr hcm => ?_) (fun l s0 hl hn=>qU hl)
 have hu:=hr.units
 have hc:(we (CXF P w) P w K mg base ["_law_rows","_law_ahead","_law_size","_law_at","_law_some","_law_k","_law_lead","_law_here"] "_law_apart" (qK wC) a.law_apart cdv A outer s H E).calm=true:=by show A.handled.isNone=true;rw [hcm (by omega)];rfl
 exact (@qI _ _ _ _ _ _ (@qa _ _ _ _ _ 1 _ _ sc_law_apart.nd qN (by rfl) (by first |exact Or.inl rfl |exact Or.inr rfl) (by rfl) (by first |exact .inl rfl |exact .inr rfl |assumption)) (@qI _ _ _ _ _ _ (@qa _ _ _ _ _ 2 _ _ sc_law_apart.nd (@QP _ _ _ _ _ _ _ (@qQ _ _ _ _ _ _ _ (@qG _ _ 0 _ _ (by rfl) (by rfl) (by rfl)) qF) V.n_len (by rfl) (by rfl) (by rfl)) (by rfl) (by first |exact Or.inl rfl |exact Or.inr rfl) (by rfl) (by first |exact .inl rfl |exact .inr rfl |assumption)) (@qI _ _ _ _ _ _ (@Wj _ _ _ _ _ _ _ _ _ (@wM _ _ _ _ _ _ _ rfl V.n_range (@qQ _ _ _ _ _ _ _ (@qG _ _ 2 _ _ (by rfl) (by rfl) (by rfl)) qF) (by rfl)) (@Qd _ _ 3 _ sc_law_apart.nd (by rfl) (by first |exact Or.inl rfl |exact Or.inr rfl) (by first |exact .inl rfl |exact .inr rfl |assumption)) (@qI _ _ _ _ _ _ (@JM _ _ _ _ _ _ _ _ _ _ (["_law_at","_law_rows"]) (["_law_k"]) ([3,0]) _ _ _ _ _ 4 sc_law_apart.nd (by exact wq rfl (by decide +kernel) rfl rfl ⟨⟨rfl,rfl⟩,⟨⟨rfl,rfl⟩,trivial⟩⟩) (@yC _ _ _ _ _ _ _ _ rfl V.n_range (@qQ _ _ _ _ _ _ _ (@qG _ _ 3 _ _ (by rfl) (by rfl) (by rfl)) (@qQ _ _ _ _ _ _ _ (@qG _ _ 2 _ _ (by rfl) (by rfl) (by rfl)) qF)) (by rfl) (by rfl)) (fun s' H' fp pn=>⟨(@qG _ _ 2 _ _ (by rfl) (by rfl) (by rfl)),⟨(@wE _ _ 2 _ (show (["_law_at","_law_rows","_law_k"]:List Str).Nodup by decide +kernel) (by rfl) (by first |exact Or.inl rfl |exact Or.inr rfl) (by first |exact .inl rfl |exact .inr rfl |assumption)),(qp 2),(TsOk.cons (@Qs _ _ _ _ _ _ _ _ _ _ (zP hu) Zr (@QT _ _ _ _ _ _ _ (@QT _ _ _ _ _ _ _ (@qG _ _ 1 _ _ (by rfl) (by rfl) (by rfl)) (@qG _ _ 2 _ _ (by rfl) (by rfl) (by rfl)) (by exact fun _ _=>rfl)) (@qG _ _ 0 _ _ (by rfl) (by rfl) (by rfl)) (by exact fun _ _=>rfl)) qN (by first |exact QZ _ |with_unfolding_all rfl)) TsOk.nil),rfl⟩,GsOk.nil⟩) (by rfl) (by first |exact Or.inl rfl |exact Or.inr rfl) (by first |exact .inl rfl |exact .inr rfl |assumption) (by rfl) (by intro _;rfl)) (@qI _ _ _ _ _ _ (@wU _ _ _ _ _ _ _ _ _ (@Qs _ _ _ _ _ _ _ _ _ _ (ZX hu) yr (@qG _ _ 4 _ _ (by rfl) (by rfl) (by rfl)) (@QX _ _ _ _ (@Qq _ _ _ _ _ qF)) (by first |exact QZ _ |with_unfolding_all rfl)) (@qP _ _ _ _ (@qh _ _ _ _ _ W9)) QK) (@qI _ _ _ _ _ _ (@qGI _ _ _ _ _ _ _ _ _ _ _ _ _ _ _ _ _ hc (@wH _ _ _ _ _ _ (@qBY _ _ _ _ _ _ _ _ (@QT _ _ _ _ _ _ _ (@qG _ _ 0 _ _ (by rfl) (by rfl) (by rfl)) (@QT _ _ _ _ _ _ _ (@qG _ _ 4 _ _ (by rfl) (by rfl) (by rfl)) qN (by exact fun _ _=>rfl)) (by exact fun _ _=>rfl)) (@qBY _ _ _ _ _ _ _ _ (@QT _ _ _ _ _ _ _ (@qG _ _ 0 _ _ (by rfl) (by rfl) (by rfl)) (@qG _ _ 3 _ _ (by rfl) (by rfl) (by rfl)) (by exact fun _ _=>rfl)) qF))) (@qG _ _ 0 _ _ (by rfl) (by rfl) (by rfl)) (@qG _ _ 3 _ _ (by rfl) (by rfl) (by rfl)) (@qG _ _ 0 _ _ (by rfl) (by rfl) (by rfl)) (@QT _ _ _ _ _ _ _ (@qG _ _ 4 _ _ (by rfl) (by rfl) (by rfl)) qN (by exact fun _ _=>rfl)) (by rfl) (by rfl) (by rfl) (by rfl) (by rfl) (by rfl) (by rfl) (by intro _;rfl) (by intro _;rfl)) (@qI _ _ _ _ _ _ (@Wj _ _ _ _ _ _ _ _ _ (@yC _ _ _ _ _ _ _ _ rfl V.n_range (@ZY _ _ _ _ _ _ _ _ _ (@QV _ _ _ _ _ _ _ (@qG _ _ 3 _ _ (by rfl) (by rfl) (by rfl)) qN) (@qQ _ _ _ _ _ _ _ (@qG _ _ 2 _ _ (by rfl) (by rfl) (by rfl)) qF)) (by rfl) (by rfl)) (@Qd _ _ 5 _ sc_law_apart.nd (by rfl) (by first |exact Or.inl rfl |exact Or.inr rfl) (by first |exact .inl rfl |exact .inr rfl |assumption)) (@qI _ _ _ _ _ _ (@qH8 _ _ _ _ _ _ _ (@wH _ _ _ _ _ _ (@qBY _ _ _ _ _ _ _ _ (@QT _ _ _ _ _ _ _ (@QT _ _ _ _ _ _ _ (@qG _ _ 0 _ _ (by rfl) (by rfl) (by rfl)) (@qG _ _ 3 _ _ (by rfl) (by rfl) (by rfl)) (by exact fun _ _=>rfl)) (@qG _ _ 3 _ _ (by rfl) (by rfl) (by rfl)) (by exact fun _ _=>rfl)) (@qBY _ _ _ _ _ _ _ _ (@QT _ _ _ _ _ _ _ (@QT _ _ _ _ _ _ _ (@qG _ _ 0 _ _ (by rfl) (by rfl) (by rfl)) (@qG _ _ 5 _ _ (by rfl) (by rfl) (by rfl)) (by exact fun _ _=>rfl)) (@qG _ _ 3 _ _ (by rfl) (by rfl) (by rfl)) (by exact fun _ _=>rfl)) qF))) (@YG _ _ _ _ _ _ hc (@wT _ _ _ _ _ (@Qd _ _ 6 _ sc_law_apart.nd (by rfl) (by first |exact Or.inl rfl |exact Or.inr rfl) (by first |exact .inl rfl |exact .inr rfl |assumption)) (@wT _ _ _ _ _ (@Qd _ _ 7 _ sc_law_apart.nd (by rfl) (by first |exact Or.inl rfl |exact Or.inr rfl) (by first |exact .inl rfl |exact .inr rfl |assumption)) Zs (by rfl)) (by rfl)) (by rfl) (by rfl)) (by rfl) (by rfl) (by rfl)) (@qP _ _ _ _ (@qFe _ _ _ _ _ _ _ _ _ _ (@qG _ _ 0 _ _ (by rfl) (by rfl) (by rfl)) (@qG _ _ 5 _ _ (by rfl) (by rfl) (by rfl)) (@QX _ _ _ _ (@ww _ _ _ _ _ _ _ (["_law_ahead","_law_lead","_law_here"]) (["_law_one","_law_other"]) ([1,6,7]) _ _ _ _ _ (by exact wq rfl (by decide +kernel) rfl rfl ⟨⟨rfl,rfl⟩,⟨⟨rfl,rfl⟩,⟨⟨rfl,rfl⟩,trivial⟩⟩⟩) (@qCG _ _ _ _ _ _ _ _ _ _ hc V.n_zip (@qBY _ _ _ _ _ _ _ _ (@QT _ _ _ _ _ _ _ (@qG _ _ 0 _ _ (by rfl) (by rfl) (by rfl)) (@qG _ _ 5 _ _ (by rfl) (by rfl) (by rfl)) (by exact fun _ _=>rfl)) (@qBY _ _ _ _ _ _ _ _ (@QT _ _ _ _ _ _ _ (@qG _ _ 0 _ _ (by rfl) (by rfl) (by rfl)) (@qG _ _ 3 _ _ (by rfl) (by rfl) (by rfl)) (by exact fun _ _=>rfl)) qF)) (by rfl) (by rfl) (by rfl)) (fun s' H' fp pn=>⟨(@JI _ _ _ _ _ _ _ (@WV _ _ _ _ _ _ _ (@WW _ _ _ _ _ _ _ (@qG _ _ 1 _ _ (by rfl) (by rfl) (by rfl)) (@qG _ _ 3 _ _ (by rfl) (by rfl) (by rfl))) (@WW _ _ _ _ _ _ _ (@qG _ _ 2 _ _ (by rfl) (by rfl) (by rfl)) (@qG _ _ 4 _ _ (by rfl) (by rfl) (by rfl)))) (@qG _ _ 0 _ _ (by rfl) (by rfl) (by rfl))),⟨(@YG _ _ _ _ _ _ hc (@wT _ _ _ _ _ (@wE _ _ 3 _ (show (["_law_ahead","_law_lead","_law_here","_law_one","_law_other"]:List Str).Nodup by decide +kernel) (by rfl) (by first |exact Or.inl rfl |exact Or.inr rfl) (by first |exact .inl rfl |exact .inr rfl |assumption)) (@wT _ _ _ _ _ (@wE _ _ 4 _ (show (["_law_ahead","_law_lead","_law_here","_law_one","_law_other"]:List Str).Nodup by decide +kernel) (by rfl) (by first |exact Or.inl rfl |exact Or.inr rfl) (by first |exact .inl rfl |exact .inr rfl |assumption)) Zs (by rfl)) (by rfl)) (by rfl) (by rfl)),(Zx (WK (qp 3) (WK (qp 4) Z4))),TsOk.nil,rfl⟩,GsOk.nil⟩) (by intro _;rfl))) (by rfl) (by rfl) (by rfl) (by intro _;rfl)))) (by intro _;rfl)) (@qP _ _ _ _ (@qa _ _ _ _ _ 1 _ _ sc_law_apart.nd (@QT _ _ _ _ _ _ _ (@QT _ _ _ _ _ _ _ (@qG _ _ 0 _ _ (by rfl) (by rfl) (by rfl)) (@qG _ _ 3 _ _ (by rfl) (by rfl) (by rfl)) (by exact fun _ _=>rfl)) (@qG _ _ 3 _ _ (by rfl) (by rfl) (by rfl)) (by exact fun _ _=>rfl)) (by rfl) (by first |exact Or.inl rfl |exact Or.inr rfl) (by rfl) (by first |exact .inl rfl |exact .inr rfl |assumption))))))) (by intro _;rfl)) (@qP _ _ _ _ (@qh _ _ _ _ _ W9)))))
theorem qCn (V:Env K mg a):∀ C∈Qa a,PySem.W.mroIn K C (.ref a.BarError)=some true:=by
 intro C hC
 unfold Qa at hC
 rcases List.mem_cons.mp hC with rfl |hC
 ·exact V.e_NoLength
 rcases List.mem_cons.mp hC with rfl |hC
 ·exact V.e_NoNumber
 cases hC
theorem sc_law_asked:FnScope ["_law_width","_law_length","_law_e"] ["_law_width","_law_length"] (qK wJ):=⟨rfl,rfl,rfl,by decide +kernel,rfl,by decide +kernel,by decide +kernel⟩
theorem Wo (V:Env K mg a):DefG P w K mg base 8 "_law_asked" a.law_asked 2 (QD a):=by
 obtain ⟨fd,F⟩:=V.f_law_asked
 obtain ⟨_,_,_,o_BarError⟩:=V.o_BarError
 refine Qw (B:=Wp a) F sc_law_asked (F.binds (ps:=["_law_width","_law_length"]) fun _ _ _ _ _ _ us hl=>match us,hl with |[_,_],_=>rfl) V.m_law_asked (fun l st h=>qX h) (fun cdv A outer s H E hr hcm => ?_) (fun l s0 hl hn=>qU hl)
 have hu:=hr.units
 have hc:(we (CXF P w) P w K mg base ["_law_width","_law_length","_law_e"] "_law_asked" (qK wJ) a.law_asked cdv A outer s H E).calm=true:=by show A.handled.isNone=true;rw [hcm (by omega)];rfl
 exact (@qP _ _ _ _ (@qHv _ _ _ _ _ _ _ _ _ _ _ _ _ _ _ _ _ 2 ⟨rfl,rfl,rfl⟩ hc sc_law_asked.nd rfl V.k_BarError o_BarError V.b_BarError (qCn V) (fun pins xe E' hp=>(@qP _ _ _ _ (@qh _ _ _ _ _ (@qV _ _ _ _ _ _ _ _ _ ((qCm V).call (hr.mono (by omega)) hp) (@qQ _ _ _ _ _ _ _ (@qG _ _ 0 _ _ (by rfl) (by rfl) (by rfl)) (@qQ _ _ _ _ _ _ _ (@qG _ _ 1 _ _ (by rfl) (by rfl) (by rfl)) qF)) (by rfl) (by rfl))))) (fun ea=>(@qP _ _ _ _ (@qh _ _ _ _ _ (@qV _ _ _ _ _ _ _ _ _ ((qBP V).call (qG4 hr) (QC _)) (@qQ _ _ _ _ _ _ _ (@qG _ _ 2 _ _ (by rfl) (by rfl) (by rfl)) qF) (by rfl) (by rfl))))) (by rfl) (by rfl) (by decide)))
theorem sc_law:FnScope ["_law_script","_law_k","_law_box_here","_law_width","_law_length","_law_counts_here","_law_found","_law_size","_law_bad","_law_odd"] ["_law_script"] (qK zU):=⟨rfl,rfl,rfl,by decide +kernel,rfl,by decide +kernel,by decide +kernel⟩
theorem qKJ {fd:FuncData} (V:Env K mg a) (F:Fun K "law" "law" zU a.law fd):FnOk P w K mg base (CXF P w) 10 a.law fd ["_law_script"] (spG K 1 (qAV a)):=by
 refine okV F sc_law fun cdv A outer s H E hr hcm=>⟨qHG a,?_,fun l s0 hl hn=>qU hl⟩
 have hu:=hr.units
 have hc:(we (CXF P w) P w K mg base ["_law_script","_law_k","_law_box_here","_law_width","_law_length","_law_counts_here","_law_found","_law_size","_law_bad","_law_odd"] "law" (qK zU) a.law cdv A outer s H E).calm=true:=by show A.handled.isNone=true;rw [hcm (by omega)];rfl
 exact (@qI _ _ _ _ _ _ (@Wj _ _ _ _ _ _ _ _ _ (@wM _ _ _ _ _ _ _ rfl V.n_range (@W5 _ _ _ _ _ _ _ _ _ (@qCA _ _ _ _ _ _ _ (@QI _ _ _ _ _ _ _ _ qN (@W5 _ _ _ _ _ _ _ _ _ (@qGV _ _ _ _ _ _ _ (@W5 _ _ _ _ _ _ _ _ _ (@QP _ _ _ _ _ _ _ (@qQ _ _ _ _ _ _ _ (@qG _ _ 0 _ _ (by rfl) (by rfl) (by rfl)) qF) V.n_len (by rfl) (by rfl) (by rfl)) (@QI _ _ _ _ _ _ _ _ qN qF)) hc V.n_min (by rfl) (by rfl) (by rfl)) qF)) hc V.n_max (by rfl) (by rfl) (by rfl)) qF) (by rfl)) (@Qd _ _ 1 _ sc_law.nd (by rfl) (by first |exact Or.inl rfl |exact Or.inr rfl) (by first |exact .inl rfl |exact .inr rfl |assumption)) (@qI _ _ _ _ _ _ (@qa _ _ _ _ _ 2 _ _ sc_law.nd (@qV _ _ _ _ _ _ _ _ _ ((qDI V).call (hr.mono (by omega)) (QC _)) (@qQ _ _ _ _ _ _ _ (@qG _ _ 0 _ _ (by rfl) (by rfl) (by rfl)) (@qQ _ _ _ _ _ _ _ (@qG _ _ 1 _ _ (by rfl) (by rfl) (by rfl)) qF)) (by rfl) (by rfl)) (by rfl) (by first |exact Or.inl rfl |exact Or.inr rfl) (by rfl) (by first |exact .inl rfl |exact .inr rfl |assumption)) (@qI _ _ _ _ _ _ (@qBS _ _ _ _ _ 3 4 _ _ _ _ _ _ _ _ _ hc sc_law.nd (@ZY _ _ _ _ _ _ _ _ _ (@QV _ _ _ _ _ _ _ qN (@qV _ _ _ _ _ _ _ _ _ ((zI V).call (hr.mono (by omega)) (QC _)) (@qQ _ _ _ _ _ _ _ (@qG _ _ 2 _ _ (by rfl) (by rfl) (by rfl)) (@QI _ _ _ _ _ _ _ _ qN qF)) (by rfl) (by rfl))) (@ZY _ _ _ _ _ _ _ _ _ (@QV _ _ _ _ _ _ _ qN (@qV _ _ _ _ _ _ _ _ _ ((zI V).call (hr.mono (by omega)) (QC _)) (@qQ _ _ _ _ _ _ _ (@qG _ _ 2 _ _ (by rfl) (by rfl) (by rfl)) (@QI _ _ _ _ _ _ _ _ qN qF)) (by rfl) (by rfl))) qF)) (by rfl) (by rfl) (by rfl) (by decide) (by rfl) (by rfl) (by rfl)) (@qI _ _ _ _ _ _ (@qa _ _ _ _ _ 5 _ _ sc_law.nd (@qV _ _ _ _ _ _ _ _ _ ((JR V).call (hr.mono (by omega)) (QC _)) (@qQ _ _ _ _ _ _ _ (@qG _ _ 3 _ _ (by rfl) (by rfl) (by rfl)) (@qQ _ _ _ _ _ _ _ (@qG _ _ 4 _ _ (by rfl) (by rfl) (by rfl)) (@QI _ _ _ _ _ _ _ _ qN qF))) (by rfl) (by rfl)) (by rfl) (by first |exact Or.inl rfl |exact Or.inr rfl) (by rfl) (by first |exact .inl rfl |exact .inr rfl |assumption)) (@qI _ _ _ _ _ _ (@qa _ _ _ _ _ 6 _ _ sc_law.nd (@qV _ _ _ _ _ _ _ _ _ ((Wo V).call (hr.mono (by omega)) (QC _)) (@qQ _ _ _ _ _ _ _ (@qG _ _ 3 _ _ (by rfl) (by rfl) (by rfl)) (@qQ _ _ _ _ _ _ _ (@qG _ _ 4 _ _ (by rfl) (by rfl) (by rfl)) qF)) (by rfl) (by rfl)) (by rfl) (by first |exact Or.inl rfl |exact Or.inr rfl) (by rfl) (by first |exact .inl rfl |exact .inr rfl |assumption)) (@qI _ _ _ _ _ _ (@wU _ _ _ _ _ _ _ _ _ (@qC2 _ _ _ _ (@jF _ _ _ _ _ _ _ _ (@zR _ _ _ _ _ (@Wz _ _ _ _ (@qV _ _ _ _ _ _ _ _ _ ((Yq V).call (hr.mono (by omega)) (QC _)) (@qQ _ _ _ _ _ _ _ (@qG _ _ 5 _ _ (by rfl) (by rfl) (by rfl)) (@qQ _ _ _ _ _ _ _ (@qG _ _ 6 _ _ (by rfl) (by rfl) (by rfl)) qF)) (by rfl) (by rfl)) (by intro _;rfl))) (@YX _ _ _ _ _ (@zR _ _ _ _ _ (@Wz _ _ _ _ (@qV _ _ _ _ _ _ _ _ _ ((qAw V).call (hr.mono (by omega)) (QC _)) (@W5 _ _ _ _ _ _ _ _ _ (@qV _ _ _ _ _ _ _ _ _ ((Wo V).call (hr.mono (by omega)) (QC _)) (@qQ _ _ _ _ _ _ _ (@qG _ _ 3 _ _ (by rfl) (by rfl) (by rfl)) (@qQ _ _ _ _ _ _ _ (@qG _ _ 4 _ _ (by rfl) (by rfl) (by rfl)) qF)) (by rfl) (by rfl)) (@qQ _ _ _ _ _ _ _ (@qG _ _ 6 _ _ (by rfl) (by rfl) (by rfl)) qF)) (by rfl) (by rfl)) (by intro _;rfl)))))) (@qP _ _ _ _ (@qh _ _ _ _ _ W9)) QK) (@qI _ _ _ _ _ _ (@qa _ _ _ _ _ 7 _ _ sc_law.nd (@QP _ _ _ _ _ _ _ (@qQ _ _ _ _ _ _ _ (@qG _ _ 6 _ _ (by rfl) (by rfl) (by rfl)) qF) V.n_len (by rfl) (by rfl) (by rfl)) (by rfl) (by first |exact Or.inl rfl |exact Or.inr rfl) (by rfl) (by first |exact .inl rfl |exact .inr rfl |assumption)) (@qI _ _ _ _ _ _ (@wU _ _ _ _ _ _ _ _ _ (@zR _ _ _ _ _ (@Wz _ _ _ _ (@qV _ _ _ _ _ _ _ _ _ ((Jj V).call (hr.mono (by omega)) (QC _)) (@qBB _ _ _ _ _ _ _ _ _ (@qJv _ _ _ _ (@ww _ _ _ _ _ _ _ (["_law_counts_here","_law_size"]) (["_law_at"]) ([5,7]) _ _ _ _ _ (by exact wq rfl (by decide +kernel) rfl rfl ⟨⟨rfl,rfl⟩,⟨⟨rfl,rfl⟩,trivial⟩⟩) (@wM _ _ _ _ _ _ _ rfl V.n_range (@qQ _ _ _ _ _ _ _ (@qG _ _ 7 _ _ (by rfl) (by rfl) (by rfl)) qF) (by rfl)) (fun s' H' fp pn=>⟨(@qEm _ _ _ _ _ _ _ _ _ _ (@qG _ _ 0 _ _ (by rfl) (by rfl) (by rfl)) (@zQ _ _ _ _ (@qG _ _ 2 _ _ (by rfl) (by rfl) (by rfl))) (@zQ _ _ _ _ (@QV _ _ _ _ _ _ _ (@qG _ _ 2 _ _ (by rfl) (by rfl) (by rfl)) (@qG _ _ 1 _ _ (by rfl) (by rfl) (by rfl))))),⟨(@wE _ _ 2 _ (show (["_law_counts_here","_law_size","_law_at"]:List Str).Nodup by decide +kernel) (by rfl) (by first |exact Or.inl rfl |exact Or.inr rfl) (by first |exact .inl rfl |exact .inr rfl |assumption)),(qp 2),TsOk.nil,rfl⟩,GsOk.nil⟩) (by intro _;rfl))) qF) (by rfl) (by rfl)) (by intro _;rfl))) (@qP _ _ _ _ (@qh _ _ _ _ _ W9)) QK) (@qI _ _ _ _ _ _ (@qBS _ _ _ _ _ 8 9 _ _ _ _ _ _ _ _ _ hc sc_law.nd (@W5 _ _ _ _ _ _ _ _ _ (@qV _ _ _ _ _ _ _ _ _ ((Yp V).call (hr.mono (by omega)) (QC _)) (@qQ _ _ _ _ _ _ _ (@qG _ _ 2 _ _ (by rfl) (by rfl) (by rfl)) qF) (by rfl) (by rfl)) (@W5 _ _ _ _ _ _ _ _ _ (@qV _ _ _ _ _ _ _ _ _ ((yV V).call (hr.mono (by omega)) (QC _)) (@qQ _ _ _ _ _ _ _ (@qG _ _ 2 _ _ (by rfl) (by rfl) (by rfl)) qF) (by rfl) (by rfl)) qF)) (by rfl) (by rfl) (by rfl) (by decide) (by rfl) (by rfl) (by rfl)) (@qP _ _ _ _ (@wU _ _ _ _ _ _ _ _ _ (@qC2 _ _ _ _ (@jF _ _ _ _ _ _ _ _ (@Qs _ _ _ _ _ _ _ _ _ _ (zP hu) Zr (@qV _ _ _ _ _ _ _ _ _ ((Wo V).call (hr.mono (by omega)) (QC _)) (@qQ _ _ _ _ _ _ _ (@qG _ _ 8 _ _ (by rfl) (by rfl) (by rfl)) (@qQ _ _ _ _ _ _ _ (@qG _ _ 9 _ _ (by rfl) (by rfl) (by rfl)) qF)) (by rfl) (by rfl)) Qb (by first |exact QZ _ |with_unfolding_all rfl)) (@YX _ _ _ _ _ (@Qs _ _ _ _ _ _ _ _ _ _ (zP hu) Zr (@qV _ _ _ _ _ _ _ _ _ ((Wo V).call (hr.mono (by omega)) (QC _)) (@qQ _ _ _ _ _ _ _ (@qG _ _ 3 _ _ (by rfl) (by rfl) (by rfl)) (@qQ _ _ _ _ _ _ _ (@qG _ _ 9 _ _ (by rfl) (by rfl) (by rfl)) qF)) (by rfl) (by rfl)) Qb (by first |exact QZ _ |with_unfolding_all rfl))))) (@qP _ _ _ _ (@qh _ _ _ _ _ W9)) QK)))))))))) (by intro _;rfl)) (@qP _ _ _ _ (@qh _ _ _ _ _ W9)))
end
end K73
end
section
namespace EV
open PySem L2 EX
theorem zx {G:qC->Prop} {k:PV->qC->Rs (List PV)} {st:qC} (hG:G st) {F:PV->List PV}:∀ {l:List PV},(∀ p∈l,k p st = .ok (F p) st)->qj G k l st = .ok (l.flatMap F) st
 |[],_=>by unfold qj;rw [if_pos hG];rfl
 |p::l,h=>by
  unfold qj
  rw [if_pos hG,h p List.mem_cons_self]
  show (qj G k l st).bind _=_
  rw [zx hG fun q hq=>h q (List.mem_cons_of_mem _ hq)]
  rfl
theorem yP {F:PV->PV}:∀ l:List PV,l.flatMap (fun p=>[F p])=l.map F
 |[]=>rfl
 |p::l=>by rw [List.flatMap_cons,yP l];rfl
theorem zl {c:PV->Bool}:∀ l:List PV,l.flatMap (fun p=>if c p=true then [p] else [])=l.filter c
 |[]=>rfl
 |p::l=>by
  rw [List.flatMap_cons,zl l,List.filter_cons]
  cases c p <;> rfl
theorem WC {caps:List Nat} {n:Nat} {fi:FI} {g:FG} {f:FE} {r:qf} {st:qC} {w:ItP} {F:PV->PV} (hfi:fi r st = .ok w st) (hG:w.G st) (hl:w.l.length≤sizeLine)
  (h:∀ p∈w.l,∃ r',g p (Ww caps n r)=some r'∧f r' st = .ok (F p) st):qw caps n fi g [] [] f r st = .ok (w.l.map F) st:=by
 unfold qw
 rw [hfi]
 show (match qj w.G (Q8 ⟨fi,g,[]⟩ (wl [] f) (Ww caps n r)) w.l st with | .ok l s'=>if l.length≤sizeLine then Rs.ok l s' else Rs.no |_=>Rs.no)=_
 rw [zx (F:=fun p=>[F p]) hG fun p hp=>by
  obtain ⟨r',h1,h2⟩:=h p hp
  unfold Q8
  show (match g p (Ww caps n r) with |none=>_ |some r'=>_)=_
  rw [h1]
  show (wl [] f) r' st=_
  unfold wl
  rw [h2];rfl]
 rw [yP]
 dsimp only
 rw [if_pos (by rw [List.length_map];exact hl)]
theorem j0 {caps:List Nat} {n:Nat} {fi:FI} {g:FG} {t:FT} {f:FE} {r:qf} {st:qC} {w:ItP} {c:PV->Bool} (hfi:fi r st = .ok w st) (hG:w.G st) (hl:w.l.length≤sizeLine)
  (h:∀ p∈w.l,∃ r',g p (Ww caps n r)=some r'∧t r' st = .ok (c p) st∧f r' st = .ok p st):qw caps n fi g [t] [] f r st = .ok (w.l.filter c) st:=by
 unfold qw
 rw [hfi]
 show (match qj w.G (Q8 ⟨fi,g,[t]⟩ (wl [] f) (Ww caps n r)) w.l st with | .ok l s'=>if l.length≤sizeLine then Rs.ok l s' else Rs.no |_=>Rs.no)=_
 rw [zx (F:=fun p=>if c p=true then [p] else []) hG fun p hp=>by
  obtain ⟨r',h1,h2,h3⟩:=h p hp
  unfold Q8
  show (match g p (Ww caps n r) with |none=>_ |some r'=>_)=_
  rw [h1]
  show (WM [t] r' st).bind _=_
  unfold WM WM
  rw [h2]
  cases hc:c p
  ·rfl
  ·show (wl [] f) r' st=_
   unfold wl
   rw [h3];rfl]
 rw [zl]
 dsimp only
 rw [if_pos (Nat.le_trans (List.length_filter_le _ _) hl)]
theorem Y7 {G:qC->Prop} {g:FG} {F:FS} {r:qf} {st:qC} (h:G st):qy G g F [] r st = .nx r st:=by unfold qy;rw [if_pos h]
theorem Yj {G:qC->Prop} {g:FG} {F:FS} {r r1 r2:qf} {st s2:qC} {p:PV} {ps:List PV} (h:G st) (h1:g p r=some r1) (h2:F r1 st = .nx r2 s2):qy G g F (p::ps) r st=qy G g F ps r2 s2:=by
 rw [qy,if_pos h,h1]
 dsimp only
 rw [h2]
section
variable {F G:FS} {f:FE} {fl:FL} {fi:FI} {g:FG} {t:FT} {r r':qf} {st st':qC} {p:PV} {l:List PV} {w:ItP} {i:Nat}
theorem Qn (h:F r st = .nx r' st'):qO F G r st=G r' st':=by unfold qO;rw [h]
theorem qA8 (h:F r st = .rt p st'):qO F G r st = .rt p st':=by unfold qO;rw [h]
theorem qIA {x:Exc} (h:F r st = .ex x st'):qO F G r st = .ex x st':=by unfold qO;rw [h]
theorem qJC {x:Exc} (h:f r st = .ex x st'):Wv f r st = .ex x st':=by unfold Wv;rw [h];rfl
theorem qFt {x:Exc} {n N:Nat} {B:FS} (hl:l.length=n) (h:B (Qv N l) st = .ex x st'):qq n N B l st = .ex x st':=by unfold qq;rw [if_pos hl,h];rfl
theorem qIq (h:f r st = .ok p st'):Wv f r st = .nx r st':=by unfold Wv;rw [h];rfl
theorem WB (h:f r st = .ok p st'):qS i f r st = .nx (r.set i (some p)) st':=by unfold qS;rw [h];rfl
theorem qF6 (h:fl r st = .ok l st'):zk i fl r st = .nx (r.set i (some (.ref st'.length))) (st'++[.l l]):=by unfold zk;rw [h];rfl
theorem Z8 (h:f r st = .ok p st'):qg f r st = .rt p st':=by unfold qg;rw [h];rfl
theorem qCX (h:fl r st = .ok l st'):yx fl r st = .rt (.ref st'.length) (st'++[.l l]):=by unfold yx;rw [h];rfl
theorem qEh (h:fi r st = .ok w st'):wm fi g F r st=qy w.G g F w.l r st':=by unfold wm;rw [h];rfl
theorem qIs (h:t r st = .ok true st'):QW t F G r st=F r st':=by unfold QW;rw [h];rfl
theorem qDf (h:t r st = .ok false st'):QW t F G r st=G r st':=by unfold QW;rw [h];rfl
theorem zT (h:fl r st = .ok l st'):vFz fl r st = .ok (.lst l) st':=by unfold vFz;rw [h];rfl
theorem Q6 {k:List PV->qC->Rs PV} {fa:FA} (h:fa r st = .ok l st'):qJ k fa r st=k l st':=by unfold qJ;rw [h];rfl
theorem qi {fa:FA} {st2:qC} (h:f r st = .ok p st') (h2:fa r st' = .ok l st2):qA f fa r st = .ok (p::l) st2:=by unfold qA;rw [h];show (fa r st').bind _=_;rw [h2];rfl
theorem QB {k:PV->PV->qC->Rs PV} {fb:FE} {q:PV} {st2:qC} (h:f r st = .ok p st') (h2:fb r st' = .ok q st2):qH k f fb r st=k p q st2:=by unfold qH;rw [h];show (fb r st').bind _=_;rw [h2];rfl
theorem Zv {b:Bool} (h:f r st = .ok (.bl b) st'):QO f r st = .ok b st':=by unfold QO;rw [h];rfl
theorem qAz {b:Bool} (h:t r st = .ok b st'):w8 t r st = .ok (!b) st':=by unfold w8;rw [h];rfl
theorem jJ {b:Bool} (h:f r st = .ok (.bl b) st'):vTB f r st = .ok b st':=by unfold vTB;rw [h];rfl
theorem wo {n N:Nat} {B:FS} (hl:l.length=n) (h:B (Qv N l) st = .rt p st'):qq n N B l st = .ok p st':=by unfold qq;rw [if_pos hl,h];rfl
end
section
variable {F G:FS} {f fb fo fi2:FE} {fl:FL} {fi:FI} {fa:FA} {g:FG} {t u:FT} {r r1 r':qf} {st s1 s2 s3:qC} {p q z:PV} {l m:List PV} {w:ItP} {i:Nat} {b c:Bool} {x:Exc} {o:RS} {R:Rs PV}
theorem qb {k:PV->PV->qC->Rs PV} (h:f r st = .ok p s1) (h2:fb r s1 = .ok q s2) (h3:k p q s2=R):qH k f fb r st=R:=by rw [QB h h2];exact h3
theorem qT {k:List PV->qC->Rs PV} (h:fa r st = .ok l s1) (h2:k l s1=R):qJ k fa r st=R:=by rw [Q6 h];exact h2
theorem QG:qD r st = .ok [] st:=rfl
theorem qY (h:f r st = .ok p s1) (h2:fa r s1 = .ok l s2):qA f fa r st = .ok (p::l) s2:=qi h h2
theorem ZL (h:fa r st = .ok l s1) (hl:l.length≤sizeLine):wY fa r st = .ok (.tup l) s1:=by unfold wY;rw [h];exact if_pos hl
theorem Ja (h:fa r st = .ok l s1) (hl:l.length≤sizeLine):w5 fa r st = .ok l s1:=by unfold w5;rw [h];exact if_pos hl
theorem qBk (h:fl r st = .ok l s1):vFz fl r st = .ok (.lst l) s1:=zT h
theorem qKu (h:f r st = .ok p s1) (h2:fb r s1 = .ok q s2) (e1:asL s2 p=some l) (e2:asL s2 q=some m) (hl:l.length + m.length≤sizeLine):yT f fb r st = .ok (l++m) s2:=by
 unfold yT;rw [h];show (fb r s1).bind _=_;rw [h2];show (match asL s2 p with |some l=>_ |none=>_)=_;rw [e1];dsimp only;rw [e2];dsimp only;rw [if_pos hl]
theorem zJ (h:f r st = .ok (.bl b) s1):QO f r st = .ok b s1:=Zv h
theorem zi (h:f r st = .ok (.bl b) s1):vTB f r st = .ok b s1:=jJ h
theorem w_not (h:t r st = .ok b s1):w8 t r st = .ok (!b) s1:=qAz h
theorem yy (h:t r st = .ok false s1) (h2:u r s1 = .ok b s2):Z1 t u r st = .ok b s2:=by unfold Z1;rw [h];exact h2
theorem qFi (h:t r st = .ok false s1):yq t u r st = .ok false s1:=by unfold yq;rw [h];rfl
theorem qF8 (h:t r st = .ok true s1) (h2:u r s1 = .ok b s2):yq t u r st = .ok b s2:=by unfold yq;rw [h];exact h2
theorem qW (h:F r st = .nx r' s1) (h2:G r' s1=o):qO F G r st=o:=by rw [Qn h];exact h2
theorem Jn (h:F r st = .rt p s1):qO F G r st = .rt p s1:=qA8 h
theorem Ya (h:F r st = .ex x s1):qO F G r st = .ex x s1:=qIA h
theorem Qu (h:f r st = .ok p s1):qS i f r st = .nx (r.set i (some p)) s1:=WB h
theorem jk (h:fl r st = .ok l s1):zk i fl r st = .nx (r.set i (some (.ref s1.length))) (s1++[.l l]):=qF6 h
theorem jc (h:f r st = .ok p s1):Wv f r st = .nx r s1:=qIq h
theorem jQ (h:f r st = .ex x s1):Wv f r st = .ex x s1:=qJC h
theorem Wi (h:f r st = .ok p s1):qg f r st = .rt p s1:=Z8 h
theorem qFc (h:f r st = .ex x s1):qg f r st = .ex x s1:=by unfold qg;rw [h];rfl
theorem ZS (h:t r st = .ok true s1) (h2:F r s1=o):QW t F G r st=o:=by rw [qIs h];exact h2
theorem wG (h:t r st = .ok false s1) (h2:G r s1=o):QW t F G r st=o:=by rw [qDf h];exact h2
theorem ZG (h:fi r st = .ok w s1) (h2:qy w.G g F w.l r s1=o):wm fi g F r st=o:=by rw [qEh h];exact h2
theorem QU {Gd:qC->Prop} (h:Gd st):qy Gd g F [] r st = .nx r st:=Y7 h
theorem Wl {Gd:qC->Prop} {ps:List PV} (h:Gd st) (h1:g p r=some r1) (h2:F r1 st = .nx r' s2) (h3:qy Gd g F ps r' s2=o):qy Gd g F (p::ps) r st=o:=by rw [Yj h h1 h2];exact h3
theorem qJw {r1:qf} (h:f r st = .ok p s1) (h2:g p r=some r1):qAh f g r st = .nx r1 s1:=by unfold qAh;rw [h];show (match g p r with |some r'=>RS.nx r' s1 |none=>RS.no)=_;rw [h2]
theorem qHT {j:Nat} (h:fa r st = .ok [p,q] s1):ZE i j fa r st = .nx ((r.set i (some p)).set j (some q)) s1:=by unfold ZE;rw [h];rfl
theorem qKg (h:f r st = .ok p s1) (h2:fo r s1 = .ok q s2) (h3:fi2 r s2 = .ok z s3) {s4:qC} (h4:w9 s3 q z p=some s4):YN fo fi2 f r st = .nx r s4:=by
 unfold YN;rw [h];show (fo r s1).bindS _=_;rw [h2];show (fi2 r s2).bindS _=_;rw [h3];show (match w9 s3 q z p with |some s4=>RS.nx r s4 |none=>RS.no)=_;rw [h4]
theorem wS {n N:Nat} {B:FS} (hl:l.length=n) (h:B (Qv N l) st = .rt p s1):qq n N B l st = .ok p s1:=wo hl h
theorem Z0 {n N:Nat} {B:FS} (hl:l.length=n) (h:B (Qv N l) st = .ex x s1):qq n N B l st = .ex x s1:=qFt hl h
theorem sz {n:Nat} (h:Nat.ble n 1000=true):n≤sizeLine:=Nat.le_trans (Nat.le_of_ble_eq_true h) (by decide)
theorem qI4 {i j:Int} (h:-(2 ^ 64) < i∧i < 2 ^ 64):wI (.int i) (.int j) st = .ok (.int (i * j)) st:=by unfold wI gI;dsimp only;rw [if_pos (.inl h)]
theorem Jw {i j:Int}:qk (.int i) (.int j) st = .ok (.int (i + j)) st:=rfl
theorem Z7 {i j:Int}:wV (.int i) (.int j) st = .ok (.int (i - j)) st:=rfl
theorem qK4 {i j:Int}:gLe (.int i) (.int j) st = .ok (.bl (decide (i≤j))) st:=rfl
theorem qJk {i j:Int}:gGt (.int i) (.int j) st = .ok (.bl (decide (i > j))) st:=rfl
theorem qHz {i j:Int} (h:i > j):gGt (.int i) (.int j) st = .ok (.bl true) st:=by rw [qJk,decide_eq_true h]
theorem qE0 {i j:Int} (h:¬ i > j):gGt (.int i) (.int j) st = .ok (.bl false) st:=by rw [qJk,decide_eq_false h]
theorem qDx {i j:Int} (h:i≤j):gLe (.int i) (.int j) st = .ok (.bl true) st:=by rw [qK4,decide_eq_true h]
theorem qD8 {i:Int} (h:wt st p=some l) (h2:atI l i=some z):gIx p (.int i) st = .ok z st:=by unfold gIx;simp only [h,h2]
theorem Zg (h:wt st p=some l) {n:Int} (hn:(l.length:Int)=n):QN [p] st = .ok (.int n) st:=by unfold QN;simp only [h];rw [hn]
theorem qB3 {n:Nat} (h:st[n]? = some (.l l)):wt st (.ref n)=some l:=by unfold wt asL;simp only [h]
theorem qBZ {n:Nat} (h:st[n]? = some (.l l)):asL st (.ref n)=some l:=by unfold asL;simp only [h]
theorem wu {n:Nat} (h:r[n]? = some (some p)):qB n r st = .ok p st:=by unfold qB;rw [h]
theorem Zk {n:Nat} (h:fo r st = .ok (.ref n) s1) (hk:lk s1 (.ref n)=true) (h2:f r s1 = .ok p s2) (h3:s2[n]? = some (.l l)) (hl:l.length < sizeLine):q9 fo f r st = .nx r (s2.set n (.l (l++[p]))):=by
 unfold q9;rw [h];show (if lk s1 (.ref n)=true then (f r s1).bindS _ else RS.no)=_;rw [if_pos hk,h2];show (match s2[n]? with |some (.l xs)=>if xs.length < sizeLine then RS.nx r (s2.set n (.l (xs++[p]))) else .no |_ => .no)=_;rw [h3];exact if_pos hl
theorem qGF {n j:Nat} {k:Int} {v:PV} (h:st[n]? = some (.l l)) (hj:ixN l.length k=some j):w9 st (.ref n) (.int k) v=some (st.set n (.l (l.set j v))):=by unfold w9;simp only [h,hj]
theorem qFx {n:Nat} {k:Int} (h0:0≤k) (h1:k < n):ixN n k=some k.toNat:=by unfold ixN;rw [if_pos h0,if_pos (by omega)]
theorem J3 {Gd:qC->Prop} {k:PV->qC->Rs (List PV)} (h:Gd st):qj Gd k [] st = .ok [] st:=by unfold qj;exact if_pos h
theorem qG5 {Gd:qC->Prop} {k:PV->qC->Rs (List PV)} {ps:List PV} (hG:Gd st) (h:k p st = .ok l s1) (h2:qj Gd k ps s1 = .ok m s2):qj Gd k (p::ps) st = .ok (l++m) s2:=by
 rw [qj,if_pos hG,h];show (qj Gd k ps s1).bind _=_;rw [h2];rfl
theorem qIJ {caps:List Nat} {n:Nat} {ts:List FT} {gs:List GenF} (hfi:fi r st = .ok w s1) (h:qj w.G (Q8 ⟨fi,g,ts⟩ (wl gs f) (Ww caps n r)) w.l s1 = .ok l s2) (hl:l.length≤sizeLine):qw caps n fi g ts gs f r st = .ok l s2:=by
 unfold qw;rw [hfi];show (match qj w.G (Q8 ⟨fi,g,ts⟩ (wl gs f) (Ww caps n r)) w.l s1 with | .ok l s'=>if l.length≤sizeLine then Rs.ok l s' else Rs.no |_=>Rs.no)=_;rw [h];exact if_pos hl
theorem Yi (h:f r st = .ok (.lst l) s1):Q9 f r st = .ok ⟨l,fun _=>True⟩ s1:=by unfold Q9;rw [h];rfl
theorem yp (h:f r st = .ok (.tup l) s1):Q9 f r st = .ok ⟨l,fun _=>True⟩ s1:=by unfold Q9;rw [h];rfl
end
abbrev CE:=qf->Option PV
abbrev CL:=qf->Option (List PV)
abbrev CT:=qf->Option Bool
abbrev CG:=List PV->Option PV
inductive CR where
 |nx (r:qf) |rt (v:PV)
def CR.rs (st:qC):CR->RS
 | .nx r => .nx r st
 | .rt v => .rt v st
abbrev CS:=qf->Option CR
def PuE (c:CE) (f:FE):Prop := ∀ r v,c r=some v -> ∀ st,f r st = .ok v st
def PuL (c:CL) (f:FL):Prop := ∀ r v,c r=some v -> ∀ st,f r st = .ok v st
def PuT (c:CT) (f:FT):Prop := ∀ r v,c r=some v -> ∀ st,f r st = .ok v st
def PuI (c:CL) (f:FI):Prop := ∀ r l,c r=some l -> ∀ st,∃ G:qC->Prop,f r st = .ok ⟨l,G⟩ st ∧ ∀ s,G s
def PuS (c:CS) (f:FS):Prop := ∀ r o,c r=some o -> ∀ st,f r st=o.rs st
def PuG (c:CG) (g:List PV->qC->Rs PV):Prop := ∀ l v,c l=some v -> ∀ st,g l st = .ok v st
def qC9 {α:Type}:Rs α->Option α
 | .ok v _=>some v
 |_=>none
def L0 (k:PV->PV->qC->Rs PV):Prop := ∀ p q v,qC9 (k p q [])=some v -> ∀ st,k p q st = .ok v st
def L1 (g:List PV->qC->Rs PV):Prop := ∀ l v,qC9 (g l [])=some v -> ∀ st,g l st = .ok v st
theorem bs {α β:Type} {x:Option α} {f:α->Option β} {v:β} (h:x.bind f=some v):∃ a,x=some a∧f a=some v:=Option.bind_eq_some_iff.mp h
def few {α:Type} (l:List α):Option (List α):=if Nat.ble l.length 1000=true then some l else none
theorem jn {α:Type} {l m:List α} (h:few l=some m):l=m∧l.length≤sizeLine:=by
 unfold few at h
 split at h
 ·rename_i z;cases h;exact ⟨rfl,sz z⟩
 ·cases h
section
variable {F G:FS} {f fb fc:FE} {fl:FL} {fi:FI} {fa:FL} {g:FG} {t u:FT} {k k':PV->PV->qC->Rs PV} {gg:List PV->qC->Rs PV} {c d e:CE} {ca cl ci:CL} {ct cu:CT} {cg:CG} {cF cG:CS} {i n:Nat}
def cC (p:PV):CE:=fun _=>some p
theorem Zp {p:PV}:PuE (cC p) (vC p):=fun r v h st=>by cases h;rfl
def ql (i:Nat):CE:=fun r=>(r[i]?).join
theorem qR:PuE (ql i) (qB i):=fun r v h st=>by
 unfold ql at h
 cases e:r[i]? with
 |none=>rw [e] at h;cases h
 |some o=>rw [e] at h;cases o with
  |none=>cases h
  |some p=>cases h;exact wu e
def wW (k:PV->PV->qC->Rs PV) (c d:CE):CE:=fun r=>(c r).bind fun p=>(d r).bind fun q=>qC9 (k p q [])
theorem qo (hk:L0 k) (h:PuE c f) (h2:PuE d fb):PuE (wW k c d) (qH k f fb):=fun r v h0 st=>by
 obtain ⟨p,e1,e2⟩:=bs h0
 obtain ⟨q,e3,e4⟩:=bs e2
 exact qb (h r p e1 st) (h2 r q e3 st) (hk p q v e4 st)
def WT:CL:=fun _=>some []
theorem QM:PuL WT qD:=fun r v h st=>by cases h;rfl
def QR (c:CE) (ca:CL):CL:=fun r=>(c r).bind fun p=>(ca r).bind fun l=>some (p::l)
theorem qe (h:PuE c f) (h2:PuL ca fa):PuL (QR c ca) (qA f fa):=fun r v h0 st=>by
 obtain ⟨p,e1,e2⟩:=bs h0
 obtain ⟨q,e3,e4⟩:=bs e2
 cases e4
 exact qY (h r p e1 st) (h2 r q e3 st)
def qFV (ca:CL):CE:=fun r=>((ca r).bind few).map PV.tup
theorem jz (h:PuL ca fa):PuE (qFV ca) (wY fa):=fun r v h0 st=>by
 obtain ⟨l,e1,e2⟩:=Option.map_eq_some_iff.mp h0
 obtain ⟨m,e3,e4⟩:=bs e1
 obtain ⟨rfl,hl⟩:=jn e4
 subst e2
 exact ZL (h r _ e3 st) hl
def qFT (ca:CL):CL:=fun r=>(ca r).bind few
theorem j7 (h:PuL ca fa):PuL (qFT ca) (w5 fa):=fun r v h0 st=>by
 obtain ⟨m,e3,e4⟩:=bs h0
 obtain ⟨rfl,hl⟩:=jn e4
 exact Ja (h r _ e3 st) hl
def cFz (cl:CL):CE:=fun r=>(cl r).map PV.lst
theorem Wn (h:PuL cl fl):PuE (cFz cl) (vFz fl):=fun r v h0 st=>by
 obtain ⟨l,e1,rfl⟩:=Option.map_eq_some_iff.mp h0
 exact qBk (h r l e1 st)
def Wd (cg:CG) (ca:CL):CE:=fun r=>(ca r).bind cg
theorem Q7 (hg:PuG cg gg) (h:PuL ca fa):PuE (Wd cg ca) (qJ gg fa):=fun r v h0 st=>by
 obtain ⟨l,e1,e2⟩:=bs h0
 exact qT (h r l e1 st) (hg l v e2 st)
def cB (g:List PV->qC->Rs PV):CG:=fun l=>qC9 (g l [])
theorem Y0 (h:L1 gg):PuG (cB gg) gg:=h
def qJi:PV->Option (List PV)
 | .lst l=>some l
 |_=>none
def qFS (c d:CE):CL:=fun r=>((c r).bind qJi).bind fun l=>((d r).bind qJi).bind fun m=>few (l++m)
theorem qCc {p:PV} {l:List PV} (h:qJi p=some l):p = .lst l:=by
 cases p <;> first |(cases h;rfl) |cases h
theorem JO (h:PuE c f) (h2:PuE d fb):PuL (qFS c d) (yT f fb):=fun r v h0 st=>by
 obtain ⟨l,e1,e2⟩:=bs h0
 obtain ⟨m,e3,e4⟩:=bs e2
 obtain ⟨p,e5,e6⟩:=bs e1
 obtain ⟨q,e7,e8⟩:=bs e3
 obtain ⟨rfl,hl⟩:=jn e4
 cases qCc e6
 cases qCc e8
 exact qKu (h r _ e5 st) (h2 r _ e7 st) rfl rfl (by rwa [List.length_append] at hl)
def pBl:PV->Option Bool
 | .bl b=>some b
 |_=>none
theorem qIF {p:PV} {b:Bool} (h:pBl p=some b):p = .bl b:=by cases p <;> first |(cases h;rfl) |cases h
def cTB (c:CE):CT:=fun r=>(c r).bind pBl
theorem Je (h:PuE c f):PuT (cTB c) (vTB f):=fun r v h0 st=>by
 obtain ⟨p,e1,e2⟩:=bs h0
 cases qIF e2
 exact zi (h r _ e1 st)
def qHO (ct cu:CT):CT:=fun r=>(ct r).bind fun b=>if b=true then cu r else some false
theorem qGu (h:PuT ct t) (h2:PuT cu u):PuT (qHO ct cu) (yq t u):=fun r v h0 st=>by
 obtain ⟨b,e1,e2⟩:=bs h0
 cases b with
 |false=>cases e2;exact qFi (h r _ e1 st)
 |true=>exact qF8 (h r _ e1 st) (h2 r v e2 st)
def qJ3 (k:List PV->qC->Rs ItP) (ca:CL):CL:=fun r=>(ca r).bind fun l=>(qC9 (k l [])).map (·.l)
theorem qKO (h:PuL ca fa):PuI (qJ3 zd ca) (wg fa):=fun r l h0 st=>by
 obtain ⟨m,e1,e2⟩:=bs h0
 obtain ⟨w,e3,rfl⟩:=Option.map_eq_some_iff.mp e2
 refine ⟨fun _=>True,?_,fun _=>trivial⟩
 unfold wg
 rw [h r m e1 st]
 show zd m st=_
 unfold zd at e3 ⊢
 split at e3
 ·rename_i j
  by_cases z:-(2 ^ 62)≤j∧j < 2 ^ 62
  ·rw [if_pos z] at e3 ⊢;cases e3;rfl
  ·rw [if_neg z] at e3;cases e3
 ·cases e3
def pSq:PV->Option (List PV)
 | .lst l=>some l
 | .tup l=>some l
 |_=>none
theorem qJQ {p:PV} {l:List PV} (h:pSq p=some l):p = .lst l∨p = .tup l:=by
 cases p <;> first |(cases h;exact .inl rfl) |(cases h;exact .inr rfl) |cases h
def YB (c:CE):CL:=fun r=>(c r).bind pSq
theorem jH (h:PuE c f):PuI (YB c) (Q9 f):=fun r l h0 st=>by
 obtain ⟨p,e1,e2⟩:=bs h0
 refine ⟨fun _=>True,?_,fun _=>trivial⟩
 rcases qJQ e2 with rfl |rfl
 ·exact Yi (h r _ e1 st)
 ·exact yp (h r _ e1 st)
def JG (k:PV->Option (List PV)):List PV->Option (List PV)
 |[]=>some []
 |p::ps=>(k p).bind fun l=>(JG k ps).bind fun m=>some (l++m)
theorem yk {Gd:qC->Prop} {k:PV->Option (List PV)} {kk:PV->qC->Rs (List PV)} (hG:∀ s,Gd s) (h:∀ p l,k p=some l -> ∀ st,kk p st = .ok l st):∀ {ps l:List PV},JG k ps=some l -> ∀ st,qj Gd kk ps st = .ok l st
 |[],l,e,st=>by cases e;exact J3 (hG st)
 |p::ps,l,e,st=>by
  obtain ⟨m,e1,e2⟩:=bs e
  obtain ⟨q,e3,e4⟩:=bs e2
  cases e4
  exact qG5 (hG st) (h p m e1 st) (yk hG h e3 st)
def qBC:List CT->CT
 |[],_=>some true
 |t::ts,r=>(t r).bind fun k=>if k=true then qBC ts r else some false
inductive PuTs:List CT->List FT->Prop where
 |nil:PuTs [] []
 |cons {c:CT} {f:FT} {cs:List CT} {fs:List FT} (h:PuT c f) (h2:PuTs cs fs):PuTs (c::cs) (f::fs)
theorem qEi {cs:List CT} {fs:List FT} (h:PuTs cs fs):PuT (qBC cs) (WM fs):=by
 induction h with
 |nil=>intro r v e st;cases e;rfl
 | @cons c f cs fs h h2 ih =>
  intro r v e st
  obtain ⟨b,e1,e2⟩:=bs e
  unfold WM
  rw [h r b e1 st]
  cases b with
  |true=>exact ih r v e2 st
  |false=>cases e2;rfl
def qEL (g:FG) (ts:List CT) (rest:CL) (r:qf) (p:PV):Option (List PV):=(g p r).bind fun r'=>(qBC ts r').bind fun k=>if k=true then rest r' else some []
theorem qCU {ts:List CT} {fs:List FT} {rest:CL} {frest:FL} {r:qf} (h:PuTs ts fs) (h2:PuL rest frest):∀ p l,qEL g ts rest r p=some l -> ∀ st,Q8 ⟨fi,g,fs⟩ frest r p st = .ok l st:=fun p l e st=>by
 obtain ⟨r',e1,e2⟩:=bs e
 obtain ⟨b,e3,e4⟩:=bs e2
 unfold Q8
 show (match g p r with |none=>_ |some r'=>_)=_
 rw [e1]
 show (WM fs r' st).bind _=_
 rw [qEi h r' b e3 st]
 cases b with
 |true=>exact h2 r' l e4 st
 |false=>cases e4;rfl
structure CGn where
 fi:CL
 g:FG
 ts:List CT
def qEv:List CGn->CE->CL
 |[],f=>fun r=>(f r).map fun p=>[p]
 |g::gs,f=>fun r=>(g.fi r).bind fun l=>JG (qEL g.g g.ts (qEv gs f) r) l
inductive PuGs:List CGn->List GenF->Prop where
 |nil:PuGs [] []
 |cons {ci:CL} {fi:FI} {g:FG} {ts:List CT} {fs:List FT} {cs:List CGn} {gs:List GenF} (h:PuI ci fi) (h2:PuTs ts fs) (h3:PuGs cs gs):PuGs (⟨ci,g,ts⟩::cs) (⟨fi,g,fs⟩::gs)
theorem qFm {cs:List CGn} {gs:List GenF} (h:PuGs cs gs) (he:PuE c f):PuL (qEv cs c) (wl gs f):=by
 induction h with
 |nil =>
  intro r v e st
  obtain ⟨p,e1,rfl⟩:=Option.map_eq_some_iff.mp e
  unfold wl
  rw [he r p e1 st];rfl
 | @cons ci fi g ts fs cs gs h h2 h3 ih =>
  intro r v e st
  obtain ⟨l,e1,e2⟩:=bs e
  obtain ⟨Gd,q1,q2⟩:=h r l e1 st
  unfold wl
  show (fi r st).bind _=_
  rw [q1]
  exact yk q2 (qCU h2 ih) e2 st
def YT (caps:List Nat) (n:Nat) (ci:CL) (g:FG) (ts:List CT) (gs:List CGn) (c:CE):CL:=fun r=>(ci r).bind fun l=>(JG (qEL g ts (qEv gs c) (Ww caps n r)) l).bind few
theorem ZC {caps:List Nat} {ts:List CT} {fs:List FT} {cs:List CGn} {gs:List GenF} (hi:PuI ci fi) (ht:PuTs ts fs) (hg:PuGs cs gs) (he:PuE c f):PuL (YT caps n ci g ts cs c) (qw caps n fi g fs gs f):=fun r v e st=>by
 obtain ⟨l,e1,e2⟩:=bs e
 obtain ⟨m,e3,e4⟩:=bs e2
 obtain ⟨rfl,hl⟩:=jn e4
 obtain ⟨Gd,q1,q2⟩:=hi r l e1 st
 exact qIJ q1 (yk q2 (qCU ht (qFm hg he)) e3 st) hl
def YU (c:CE):CS:=fun r=>(c r).map CR.rt
theorem yE (h:PuE c f):PuS (YU c) (qg f):=fun r o e st=>by
 obtain ⟨p,e1,rfl⟩:=Option.map_eq_some_iff.mp e
 exact Wi (h r p e1 st)
def ZK (i:Nat) (c:CE):CS:=fun r=>(c r).map fun p => .nx (r.set i (some p))
theorem zE (h:PuE c f):PuS (ZK i c) (qS i f):=fun r o e st=>by
 obtain ⟨p,e1,rfl⟩:=Option.map_eq_some_iff.mp e
 exact Qu (h r p e1 st)
def qBz:CS:=fun r=>some (.nx r)
theorem JE:PuS qBz QQ:=fun r o e st=>by cases e;rfl
def qF1 (ct:CT) (cF cG:CS):CS:=fun r=>(ct r).bind fun b=>if b=true then cF r else cG r
theorem qDh (h:PuT ct t) (h2:PuS cF F) (h3:PuS cG G):PuS (qF1 ct cF cG) (QW t F G):=fun r o e st=>by
 obtain ⟨b,e1,e2⟩:=bs e
 cases b with
 |true=>exact ZS (h r _ e1 st) (h2 r o e2 st)
 |false=>exact wG (h r _ e1 st) (h3 r o e2 st)
def qDZ (cG:CS):CR->Option CR
 | .nx r=>cG r
 | .rt v=>some (.rt v)
def W6 (cF cG:CS):CS:=fun r=>(cF r).bind (qDZ cG)
theorem WS (h:PuS cF F) (h2:PuS cG G):PuS (W6 cF cG) (qO F G):=fun r o e st=>by
 obtain ⟨o1,e1,e2⟩:=bs e
 cases o1 with
 |nx r'=>exact qW (h r _ e1 st) (h2 r' o e2 st)
 |rt v=>cases e2;exact Jn (h r _ e1 st)
def qEw (g:FG) (cF:CS):List PV->CS
 |[],r=>some (.nx r)
 |p::ps,r=>(g p r).bind fun r1=>(cF r1).bind (qDZ (qEw g cF ps))
theorem qCR {Gd:qC->Prop} (hG:∀ s,Gd s) (h:PuS cF F):∀ {ps:List PV} {r:qf} {o:CR},qEw g cF ps r=some o -> ∀ st,qy Gd g F ps r st=o.rs st
 |[],r,o,e,st=>by cases e;exact QU (hG st)
 |p::ps,r,o,e,st=>by
  obtain ⟨r1,e1,e2⟩:=bs e
  obtain ⟨o1,e3,e4⟩:=bs e2
  cases o1 with
  |nx r'=>exact Wl (hG st) e1 (h r1 _ e3 st) (qCR hG h e4 st)
  |rt v =>
   cases e4
   unfold qy
   rw [if_pos (hG st),e1]
   dsimp only
   rw [h r1 _ e3 st]
   rfl
def qHM (ci:CL) (g:FG) (cF:CS):CS:=fun r=>(ci r).bind fun l=>qEw g cF l r
theorem qIy (hi:PuI ci fi) (h:PuS cF F):PuS (qHM ci g cF) (wm fi g F):=fun r o e st=>by
 obtain ⟨l,e1,e2⟩:=bs e
 obtain ⟨Gd,q1,q2⟩:=hi r l e1 st
 exact ZG q1 (qCR q2 h e2 st)
def pRt:CR->Option PV
 | .rt v=>some v
 |_=>none
def J4 (n N:Nat) (cF:CS):CG:=fun l=>if l.length=n then (cF (Qv N l)).bind pRt else none
theorem ju {N:Nat} (h:PuS cF F):PuG (J4 n N cF) (qq n N F):=fun l v e st=>by
 unfold J4 at e
 split at e
 ·rename_i hl
  obtain ⟨o,e1,e2⟩:=bs e
  cases o with
  |nx r=>cases e2
  |rt w=>cases e2;exact wS hl (h _ _ e1 st)
 ·cases e
theorem qGD {gg:List PV->qC->Rs PV}:PuG (fun _=>none) gg:=fun l v e=>by cases e
theorem wy {g:Int->Int->Option PV}:L0 (gI g):=fun p q v e st=>by
 unfold gI at e ⊢
 split at e
 ·rename_i i j
  cases z:g i j with
  |none=>rw [z] at e;cases e
  |some y=>rw [z] at e;cases e;rfl
 ·cases e
theorem Yo {p:PV} {l:List PV} (h:wt [] p=some l):∀ st,wt st p=some l:=fun st=>by
 cases p with
 |lst m=>cases h;rfl
 |tup m=>cases h;rfl
 |_=>cases h
theorem qAk:L0 gIx:=fun p q v e st=>by
 unfold gIx at e ⊢
 split at e
 ·skip
  cases z:wt [] p with
  |none=>rw [z] at e;cases e
  |some l =>
   rw [z] at e
   rw [Yo z st]
   dsimp only at e ⊢
   split at e
   ·cases e;rfl
   ·cases e
 ·cases e
theorem jf {p:PV} {st:qC} (h:nr (res [] p)=true):res st p=res [] p:=by
 cases p with
 |ref i=>unfold res asL at h;simp at h;unfold nr at h;cases h
 |_=>rfl
theorem qDY:L0 gEq:=fun p q v e st=>by
 unfold gEq at e ⊢
 split at e
 ·rename_i z
  have z':=z
  unfold qBn at z'
  simp only [Bool.and_eq_true] at z'
  rw [jf z'.1.1,jf z'.1.2,if_pos z]
  cases e;rfl
 ·cases e
theorem qKM:L0 gNe:=fun p q v e st=>by
 unfold gNe at e ⊢
 split at e
 ·rename_i z
  have z':=z
  unfold qBn at z'
  simp only [Bool.and_eq_true] at z'
  rw [jf z'.1.1,jf z'.1.2,if_pos z]
  cases e;rfl
 ·cases e
theorem Z9:L1 QN:=fun l v e st=>by
 unfold QN at e ⊢
 split at e
 ·rename_i p
  cases z:wt [] p with
  |none=>rw [z] at e;cases e
  |some l=>rw [z] at e;rw [Yo z st];cases e;rfl
 ·cases e
theorem qEC:L1 za:=fun l v e st=>by
 unfold za at e ⊢
 split at e
 ·rename_i p
  cases z:wt [] p with
  |none=>rw [z] at e;cases e
  |some l=>rw [z] at e;rw [Yo z st];cases e;rfl
 ·cases e
end
abbrev CO:=qf->Option (Option Int)
def PuO (c:CO) (f:FO):Prop := ∀ r v,c r=some v -> ∀ st,f r st = .ok v st
section
variable {F G:FS} {f fb fc fo fi2:FE} {fl:FL} {fi:FI} {fa:FL} {g:FG} {t u:FT} {c d e:CE} {co cp:CO} {f1 f2:FO} {r r':qf} {st s1 s2 s3:qC} {p q z:PV} {l:List PV} {n:Nat} {o:RS}
def qDj:CO:=fun _=>some none
theorem qDm:PuO qDj JW:=fun r v h st=>by cases h;rfl
def jU (c:CE):CO:=fun r=>(c r).bind fun p=>match p with
 | .int i=>some (some i)
 |_=>none
theorem yz (h:PuE c f):PuO (jU c) (QJ f):=fun r v h0 st=>by
 obtain ⟨p,e1,e2⟩:=bs h0
 unfold QJ
 rw [h r p e1 st]
 show (match p with | .int i=>Rs.ok (some i) st |_ => .no)=_
 split at e2
 ·cases e2;rfl
 ·cases e2
def qKB (c:CE) (co cp:CO):CE:=fun r=>(c r).bind fun p=>(co r).bind fun a=>(cp r).bind fun b=>match p with
 | .tup l=>some (.tup (zp l a b))
 |_=>none
theorem qJq (h:PuE c f) (h1:PuO co f1) (h2:PuO cp f2):PuE (qKB c co cp) (jb f f1 f2):=fun r v h0 st=>by
 obtain ⟨p,e1,e2⟩:=bs h0
 obtain ⟨a,e3,e4⟩:=bs e2
 obtain ⟨b,e5,e6⟩:=bs e4
 unfold jb
 rw [h r p e1 st]
 show (f1 r st).bind _=_
 rw [h1 r a e3 st]
 show (f2 r st).bind _=_
 rw [h2 r b e5 st]
 show (match p with | .tup l=>Rs.ok (PV.tup (zp l a b)) st |_ => .no)=_
 split at e6
 ·cases e6;rfl
 ·cases e6
theorem jm:L0 wz:=fun p q v e st=>by
 unfold wz at e ⊢
 split at e
 ·split at e
  ·rename_i h;cases e;rw [if_pos h]
  ·cases e
 ·cases e
theorem qGL:L0 w6:=fun p q v e st=>by
 unfold w6 at e ⊢
 split at e
 ·split at e
  ·rename_i h;cases e;rw [if_pos h]
  ·cases e
 ·cases e
theorem qGZ:L1 Y2:=fun l v e st=>by
 unfold Y2 at e ⊢
 split at e
 ·split at e
  ·split at e
   ·cases e;rfl
   ·cases e
  ·cases e
 ·cases e
theorem qEt {c:FT} (h:c r st = .ok false s1):wb c F (n + 1) r st = .nx r s1:=by unfold wb;rw [h]
theorem YA {c:FT} (h:c r st = .ok true s1) (h2:F r s1 = .nx r' s2) (h3:wb c F n r' s2=o):wb c F (n + 1) r st=o:=by unfold wb;rw [h];dsimp only;rw [h2];exact h3
theorem qKW (h:fo r st = .ok (.ref n) s1) (h2:s1[n]? = some (.l l)) (h3:l[l.length - 1]? = some p):qCj fo r st = .ok p (s1.set n (.l l.dropLast)):=by
 unfold qCj;rw [h];show (match s1[n]? with |some (.l xs)=>_ |_=>_)=_;rw [h2];dsimp only;rw [h3]
theorem qBp (h:f r st = .ok (.ref n) s1) (h2:s1[n]? = some (.l l)):Q9 f r st = .ok ⟨l,fun s=>s[n]? = some (.l l)⟩ s1:=by
 unfold Q9;rw [h];show qGC (.ref n) s1=_;unfold qGC;dsimp only;rw [qBZ h2]
theorem qGw (h:st[n]? = some (.l l)):lk st (.ref n)=true:=by unfold lk;dsimp only;rw [h]
theorem yu {kvs:List (List L2.Key×PV)} (h:st[n]? = some (.d kvs)∨st[n]? = some (.z kvs)):dAt st n=some kvs:=by unfold dAt;rcases h with h |h <;> rw [h]
theorem qBl {kvs kv0:List (List L2.Key×PV)} {k:List L2.Key} (h:f r st = .ok (.ref n) s1) (h1:dAt s1 n=some kv0) (h2:fb r s1 = .ok q s2) (h3:fc r s2 = .ok z s3) (hk:wP q=some k) (hd:dAt s3 n=some kvs):zV f fb fc r st = .ok ((Zq kvs k).getD z) s3:=by
 unfold zV;rw [h];show (match dAt s1 n with |some _=>_ |none=>_)=_;rw [h1];show (fb r s1).bind _=_;rw [h2];show (fc r s2).bind _=_;rw [h3]
 show (match wP q,dAt s3 n with |some k,some kvs=>_ |_,_=>_)=_
 rw [hk,hd]
theorem qHj {kvs:List (List L2.Key×PV)} {k:List L2.Key} (h:f r st = .ok p s1) (h1:fb r s1 = .ok (.ref n) s2) (h2:fc r s2 = .ok q s3) (hk:wP q=some k) (hd:s3[n]? = some (.d kvs)) (hl:kvs.length < sizeLine):zr fb fc f r st = .nx r (s3.set n (.d (Yy kvs k p))):=by
 unfold zr;rw [h];show (fb r s1).bindS _=_;rw [h1];show (fc r s2).bindS _=_;rw [h2]
 show (match wP q,s3[n]? with |some k,some (.d kvs)=>_ |_,_=>_)=_
 rw [hk,hd];dsimp only;rw [if_pos hl]
theorem qKk {kvs:List (List L2.Key×PV)} {k:List L2.Key} (hk:wP q=some k) (hd:dAt st n=some kvs) (hv:Zq kvs k=some p):qBK (.ref n) q st = .ok p st:=by
 unfold qBK;dsimp only;rw [hk,hd];dsimp only;rw [hv]
theorem qBt {k:List L2.Key} (h:f r (st++[.d []]) = .ok q s1) (h2:fb r s1 = .ok p s2) (hk:wP q=some k) (hd:s2[st.length]? = some (.d [])):YZ f fb r st = .ok (.ref st.length) (s2.set st.length (.d [(k,p)])):=by
 unfold YZ;rw [h];show (fb r s1).bind _=_;rw [h2];show (match wP q,s2[st.length]? with |some k,some (.d [])=>_ |_,_=>_)=_;rw [hk,hd]
theorem qEH {it:Bool} {kvs:List (List L2.Key×PV)} (h:f r st = .ok (.ref n) s1) (h2:s1[n]? = some (.d kvs)) (h3:qy (fun _=>True) g F (kvs.map (qCt it)) r (s1.set n (.z kvs)) = .nx r' s2):zY it f g F r st = .nx r' (s2.set n (.d kvs)):=by
 unfold zY;rw [h];show (match s1[n]? with |some (.d kvs)=>_ |_=>_)=_;rw [h2];dsimp only;rw [h3];rfl
theorem yQ (h:f r st = .ok (.ref n) s1) (h2:s1[n]? = some (.l l)):QO f r st = .ok (!l.isEmpty) s1:=by
 unfold QO;rw [h];show (match qAM s1 (.ref n) with |some b=>Rs.ok b s1 |none => .no)=_;unfold qAM;dsimp only;rw [qBZ h2];rfl
end
end EV
end
section
namespace EV
open PySem
section
variable {c d:CE} {f fb:FE} {cl:CL} {fl:FL} {ca:CL} {fa:FA} {ct:CT} {t:FT} {cF:CS} {F:FS} {co cp:CO} {f1 f2:FO} {i j n:Nat}
def qGG (cl:CL) (c:CE):CL:=fun r=>(cl r).bind fun l=>(c r).bind fun q=>match q with
 | .int k=>if 0≤k∧k≤1000∧l.length≤1000 then some (List.replicate k.toNat l).flatten else none
 |_=>none
theorem qBA (h:PuL cl fl) (h2:PuE c f):PuL (qGG cl c) (qAy fl f):=fun r v h0 st=>by
 obtain ⟨l,e1,h0⟩:=bs h0
 obtain ⟨q,e2,h0⟩:=bs h0
 unfold qAy
 rw [h r l e1 st]
 show (f r st).bind _=_
 rw [h2 r q e2 st]
 cases q with
 |int k =>
  have h0:(if 0≤k∧k≤1000∧l.length≤1000 then some (List.replicate k.toNat l).flatten else none)=some v:=h0
  split at h0
  ·rename_i hk
   cases h0
   have h1:l.length * k.toNat≤1000 * 1000:=Nat.mul_le_mul hk.2.2 (by omega)
   exact if_pos ⟨by omega,by omega,Nat.le_trans h1 (by decide)⟩
  ·cases h0
 |_=>cases h0
def qKH (c:CE):CE:=fun r=>(c r).bind fun p=>match p with
 | .int i=>some (.int (-i))
 |_=>none
theorem qII (h:PuE c f):PuE (qKH c) (qBh f):=fun r v h0 st=>by
 obtain ⟨p,e1,h0⟩:=bs h0
 unfold qBh
 rw [h r p e1 st]
 cases p with
 |int k=>cases h0;rfl
 |_=>cases h0
def qKG (c:CE) (co cp:CO):CE:=fun r=>(c r).bind fun p=>(co r).bind fun a=>(cp r).bind fun b=>match p with
 | .lst l=>some (.lst (zp l a b))
 |_=>none
theorem qIM (h:PuE c f) (h1:PuO co f1) (h2:PuO cp f2):PuE (qKG c co cp) (Yt f f1 f2):=fun r v h0 st=>by
 obtain ⟨p,e1,h0⟩:=bs h0
 obtain ⟨a,e2,h0⟩:=bs h0
 obtain ⟨b,e3,h0⟩:=bs h0
 unfold Yt
 rw [h r p e1 st]
 show (f1 r st).bind _=_
 rw [h1 r a e2 st]
 show (f2 r st).bind _=_
 rw [h2 r b e3 st]
 cases p with
 |lst l=>cases h0;rfl
 |_=>cases h0
def qG8 (i j:Nat) (ca:CL):CS:=fun r=>(ca r).bind fun l=>match l with
 |[p,q]=>some (.nx ((r.set i (some p)).set j (some q)))
 |_=>none
theorem qJm (h:PuL ca fa):PuS (qG8 i j ca) (ZE i j fa):=fun r o e st=>by
 obtain ⟨l,e1,e⟩:=bs e
 unfold ZE
 rw [h r l e1 st]
 match l,e with
 |[p,q],e=>cases e;rfl
def yZ (ct:CT) (cF:CS):Nat->CS
 |0,_=>none
 |n + 1,r=>match ct r with
  |some true=>match cF r with
   |some (.nx r2)=>yZ ct cF n r2
   |_=>none
  |some false=>some (.nx r)
  |none=>none
theorem qAB (h:PuT ct t) (h2:PuS cF F):∀ n,PuS (yZ ct cF n) (wb t F n)
 |0,r,o,e,st=>by cases e
 |n + 1,r,o,e,st=>by
  unfold yZ at e
  split at e
  ·rename_i e1
   split at e
   ·rename_i r2 e2
    have q:=h2 r _ e2 st
    exact YA (h r true e1 st) q (qAB h h2 n r2 o e st)
   ·cases e
  ·rename_i e1;cases e;exact qEt (h r false e1 st)
  ·cases e
theorem qI3:L1 qBU:=fun l v e st=>by
 unfold qBU at e ⊢
 split at e
 ·cases e;rfl
 ·cases e
theorem qJE:L1 JA:=fun l v e st=>by
 unfold JA at e ⊢
 split at e
 ·cases e;rfl
 ·cases e
end
end EV
end
section
namespace K73
open PySem EV
def JD (rec:CG):CS:=(W6 (qF1 (cTB (wW gEq (ql 2) (Wd (cB QN) (QR (ql 0) WT)))) (YU (cFz (qFT (QR (qFV WT) WT)))) qBz) (W6 (qF1 (cTB (wW gGt (wW gIx (ql 0) (ql 2)) (cC (.int 0)))) (YU (cFz (YT [0,2] 1 (YB (Wd rec (QR (ql 0) (QR (ql 1) (QR (wW qk (ql 2) (cC (.int 1))) WT))))) (Qh 2) [] [] (wW wz (qFV (QR (wW wV (wW gIx (ql 0) (ql 1)) (cC (.int 1))) WT)) (ql 2))))) qBz) (W6 (ZK 3 (cFz (YT [1] 1 (YB (Wd rec (QR (ql 0) (QR (ql 1) (QR (wW qk (ql 2) (cC (.int 1))) WT))))) (Qh 1) [] [] (wW wz (qFV (QR (wW wV (ql 0) (cC (.int 1))) WT)) (ql 1))))) (W6 (qF1 (qHO (cTB (wW gLe (wW qk (ql 2) (ql 1)) (Wd (cB QN) (QR (ql 0) WT)))) (cTB (wW gEq (Wd (cB Y2) (QR (qKB (ql 0) (jU (ql 2)) (jU (wW qk (ql 2) (ql 1)))) WT)) (cC (.int 0))))) (ZK 3 (cFz (qFS (ql 3) (cFz (YT [1] 1 (YB (Wd rec (QR (ql 0) (QR (ql 1) (QR (wW qk (ql 2) (ql 1)) WT))))) (Qh 1) [] [] (wW wz (wW w6 (qFV (QR (cC (.int 0)) WT)) (ql 0)) (ql 1))))))) qBz) (YU (ql 3))))))
def WQ:Nat->CG
 |0=>fun _=>none
 |n + 1=>J4 3 4 (JD (WQ n))
theorem yR {a:Ad}:∀ n,PuG (WQ n) (Qx n a)
 |0=>qGD
 |n + 1=>ju (F:=zw a (Qx n a)) (have hrec:=yR (a:=a) n;(WS (qDh (Je (qo qDY qR (Q7 (Y0 Z9) (qe qR QM)))) (yE (Wn (j7 (qe (jz QM) QM)))) JE) (WS (qDh (Je (qo wy (qo qAk qR qR) Zp)) (yE (Wn (ZC (jH (Q7 hrec (qe qR (qe qR (qe (qo wy qR Zp) QM))))) PuTs.nil PuGs.nil (qo jm (jz (qe (qo wy (qo qAk qR qR) Zp) QM)) qR)))) JE) (WS (zE (Wn (ZC (jH (Q7 hrec (qe qR (qe qR (qe (qo wy qR Zp) QM))))) PuTs.nil PuGs.nil (qo jm (jz (qe (qo wy qR Zp) QM)) qR)))) (WS (qDh (qGu (Je (qo wy (qo wy qR qR) (Q7 (Y0 Z9) (qe qR QM)))) (Je (qo qDY (Q7 (Y0 qGZ) (qe (qJq qR (yz qR) (yz (qo wy qR qR))) QM)) Zp))) (zE (Wn (JO qR (Wn (ZC (jH (Q7 hrec (qe qR (qe qR (qe (qo wy qR qR) QM))))) PuTs.nil PuGs.nil (qo jm (qo qGL (jz (qe Zp QM)) qR) qR)))))) JE) (yE qR))))))
def W4:CG:=J4 1 4 (W6 (ZK 1 (cC (.int 0))) (W6 (qHM (YB (ql 0)) (qz 2) (W6 (ZK 3 (Wd (cB qBU) (QR (ql 2) WT))) (yZ (cTB (wW gNe (ql 3) (cC (.int 0)))) (qG8 1 3 (QR (ql 3) (QR (wW YD (ql 1) (ql 3)) WT))) 100))) (YU (ql 1))))
theorem Zy {a:Ad}:PuG W4 (WG a):=ju (F:=WA a) (WS (zE Zp) (WS (qIy (jH qR) (WS (zE (Q7 (Y0 qI3) (qe qR QM))) (qAB (Je (qo qKM qR Zp)) (qJm (qe qR (qe (qo wy qR qR) QM))) 100))) (yE qR)))
def qAf:CG:=J4 5 10 (W6 (ZK 5 (Wd (cB JA) (QR (Wd (cB QN) (QR (ql 0) WT)) (QR (wW qk (ql 4) (Wd (cB QN) (QR (ql 2) WT))) WT)))) (W6 (ZK 6 (cFz (qFS (ql 0) (cFz (qGG (qFT (QR (cC (.int 0)) WT)) (wW wV (ql 5) (Wd (cB QN) (QR (ql 0) WT)))))))) (W6 (ZK 7 (cFz (qFS (cFz (qFS (cFz (qGG (qFT (QR (cC (.int 0)) WT)) (ql 4))) (ql 2))) (cFz (qGG (qFT (QR (cC (.int 0)) WT)) (wW wV (wW wV (ql 5) (ql 4)) (Wd (cB QN) (QR (ql 2) WT)))))))) (W6 (ZK 8 (cFz (YT [3,1,6,7] 1 (qJ3 zd (QR (ql 5) WT)) (Qh 4) [] [] (wW wV (wW wI (ql 0) (wW gIx (ql 2) (ql 4))) (wW wI (ql 1) (wW gIx (ql 3) (ql 4))))))) (W6 (ZK 9 (Wd W4 (QR (ql 8) WT))) (YU (cFz (YT [9] 1 (YB (ql 8)) (Qh 1) [] [] (wW zj (ql 1) (ql 0))))))))))
theorem qFG {a:Ad}:PuG qAf (zn a):=ju (F:=Yl a) (WS (zE (Q7 (Y0 qJE) (qe (Q7 (Y0 Z9) (qe qR QM)) (qe (qo wy qR (Q7 (Y0 Z9) (qe qR QM))) QM)))) (WS (zE (Wn (JO qR (Wn (qBA (j7 (qe Zp QM)) (qo wy qR (Q7 (Y0 Z9) (qe qR QM)))))))) (WS (zE (Wn (JO (Wn (JO (Wn (qBA (j7 (qe Zp QM)) qR)) qR)) (Wn (qBA (j7 (qe Zp QM)) (qo wy (qo wy qR qR) (Q7 (Y0 Z9) (qe qR QM)))))))) (WS (zE (Wn (ZC (qKO (qe qR QM)) PuTs.nil PuGs.nil (qo wy (qo wy qR (qo qAk qR qR)) (qo wy qR (qo qAk qR qR)))))) (WS (zE (Q7 Zy (qe qR QM))) (yE (Wn (ZC (jH qR) PuTs.nil PuGs.nil (qo wy qR qR)))))))))
noncomputable def jC (a:Ad):FS:=(qg (qJ za (qA (vFz (qw [2] 1 (Q9 (Yt (qB 2) (QJ (vC (.int 1))) JW)) (Qh 1) [] [] (qH zj (qBh (qB 1)) (qH gIx (qB 0) (vC (.int 0)))))) qD)))
def Zu:CS:=(YU (Wd (cB za) (QR (cFz (YT [2] 1 (YB (qKG (ql 2) (jU (cC (.int 1))) qDj)) (Qh 1) [] [] (wW zj (qKH (ql 1)) (wW gIx (ql 0) (cC (.int 0)))))) WT)))
theorem qCo {a:Ad}:PuS Zu (jC a):=(yE (Q7 (Y0 qEC) (qe (Wn (ZC (jH (qIM qR (yz Zp) qDm)) PuTs.nil PuGs.nil (qo wy (qII qR) (qo qAk qR Zp)))) QM)))
def dot (ns cs:List Int) (t:Nat):Int:=((List.range ns.length).map fun k=>ns.getD k 0 * cs.getD (t - k) 0).sum
structure BS where
 nb:List Int
 old:List Int
 og:Int
 bk:Int
def qr (l:List Int):PV := .lst (l.map PV.int)
def okN (ns:List Int) (t:Nat):Bool:=Nat.ble ns.length (t + 1)&&(Nat.ble ns.length 40&&ns.all fun x=>decide (x.natAbs < 2 ^ 60))
def qDz:Option PV->Option (List Int)
 |some (.lst l)=>wx yn l
 |_=>none
def bmS (cs:List Int) (t:Nat) (s:BS):Option BS:=if okN s.nb t=true then (if dot s.nb cs t=0 then some ⟨s.nb,s.old,s.og,s.bk + 1⟩ else
 match qDz (qAf [qr s.nb,.int (dot s.nb cs t),qr s.old,.int s.og,.int (s.bk + 1)]) with
 |some b=>if s.nb.length < b.length then some ⟨b,s.nb,dot s.nb cs t,0⟩ else some ⟨b,s.old,s.og,s.bk + 1⟩
 |none=>none) else none
def bmR (cs:List Int):List Nat->BS->Option BS
 |[],s=>some s
 |t::ts,s=>match bmS cs t s with
  |some s'=>bmR cs ts s'
  |none=>none
def sq (n:Nat) (rows:List (List Int)):Bool:=Nat.beq rows.length n&&rows.all fun r=>Nat.beq r.length n
def at2 (rows:List (List Int)) (i j:Nat):Int:=(rows.getD i []).getD j 0
def sm (x:Int):Bool:=decide (x.natAbs < 2 ^ 60)
def qGd (lead here ahead:Int) (r1 r2:List Int):List Int:=List.zipWith (fun x y=>(lead * x - here * y).fdiv ahead) r1 r2
def qF5 (n t:Nat) (ahead:Int):List Nat->List (List Int)->Option (List (List Int))
 |[],rows=>some rows
 |k::ks,rows=>if (sq n rows&&(sm (at2 rows t t)&&sm (at2 rows k t)))=true then qF5 n t ahead ks (rows.set k (qGd (at2 rows t t) (at2 rows k t) ahead (rows.getD k []) (rows.getD t []))) else none
def qEX (x:Int):Bool:=decide (x≠0)&&decide (x.natAbs < 1073741824)
def Yc (n t:Nat) (rows:List (List Int)):List Nat:=((List.range (n - t)).map fun i=>t + i).filter fun k=>at2 rows k t != 0
def apO (n:Nat):List Nat->Int->List (List Int)->Bool
 |[],_,_=>true
 |t::ts,ahead,rows=>if (sq n rows&&qEX ahead)=true then (match Yc n t rows with
  |[]=>false
  |k::_=>match qF5 n t ahead ((List.range (n - (t + 1))).map fun i=>t + 1 + i) ((rows.set t (rows.getD k [])).set k (rows.getD t [])) with
   |some rows'=>sq n rows'&&apO n ts (at2 rows' t t) rows'
   |none=>false) else false
def yI (cs:List Int) (n:Nat):List (List Int):=(List.range n).map fun i=>(cs.drop i).take n
def qE1 (ns cs:List Int):Bool:=((List.range (201 - ns.length)).map fun i=>ns.length + i).all fun t=>dot ns cs (t - 1)==cs.getD t 0
def okR (ns:List Int):Bool:=Nat.ble 1 ns.length&&okN ns 40
def qIr:Option CR->Option (List Int)
 |some (.rt (.tup l))=>wx yn l
 |_=>none
def qG1 (w L:Int) (cs:List Int):Bool:=match bmR cs (List.range 201) ⟨[1],[1],1,0⟩ with
 |some s=>match qIr (Zu [some (.int w),some (.int L),some (qr s.nb)]) with
  |some ns=>okR ns&&(qE1 ns cs&&apO ns.length (List.range ns.length) 1 (yI cs ns.length))
  |none=>false
 |none=>false
def Wq:PV->Bool
 | .non=>true | .bl _=>true | .int _=>true | .str _=>true | .tup _=>true | .lst _=>true | .dct=>true |_=>false
def isInt:PV->Bool
 | .int _=>true
 |_=>false
theorem qA6 {a:Ad} {v:PV} {st:qC} (h:Wq v=true):ZW a [v] st = .ok (.bl (isInt v)) st:=by
 cases v <;> first |rfl |cases h
def Qj (lo hi:Int):PV->Bool
 | .int i=>decide (lo≤i)&&decide (i≤hi)
 |_=>false
theorem Jt {a:Ad} {v:PV} {st:qC} {lo hi:Int} (h:Wq v=true):wA a [v,.int lo,.int hi] st = .ok (.bl (Qj lo hi v)) st:=by
 refine wo rfl ?_
 unfold wp
 refine (Z8 (p := .bl (Qj lo hi v)) (st':=st) ?_)
 unfold JY
 rw [Q6 (l:=[v]) (st':=st) rfl,qA6 h]
 cases v with
 |int i =>
  show (match (PV.bl (decide (lo≤i))) with | .bl true=>Rs.ok (PV.bl (decide (i≤hi))) st | .bl false=>Rs.ok (.bl false) st |_ => .no)=_
  unfold Qj
  dsimp only
  cases decide (lo≤i) <;> rfl
 |_=>rfl
theorem J7 {a:Ad} {v:PV} {st:qC} (h:Wq v=true):zq a [v] st = .ok (.bl (Qj 2 5 v)) st:=by
 refine wo rfl ?_
 unfold zf
 refine (Z8 (p := .bl (Qj 2 5 v)) (st':=st) ?_)
 rw [Q6 (l:=[v,.int 2,.int 5]) (st':=st) rfl]
 exact Jt h
theorem ZI {a:Ad} {v:PV} {st:qC} (h:Wq v=true):Q3 a [v] st=if Qj 2 5 v=true then .ok .non st else .ex ⟨a.NoLength,[]⟩ st:=by
 unfold Q3 qq
 rw [if_pos (show [v].length=1 from rfl)]
 unfold Wy QW w8 QO
 rw [Q6 (l:=[v]) (st':=st) rfl,J7 h]
 cases hw:Qj 2 5 v <;> rfl
theorem YL {f:PV->Bool}:∀ l:List PV,wx pbl (l.map fun p => .bl (f p))=some (l.map f)
 |[]=>rfl
 |p::l=>by simp only [List.map_cons,wx,pbl,YL l]
theorem j6 {i j:Int} {st:qC}:gEq (.int i) (.int j) st = .ok (.bl (i==j)) st:=rfl
theorem qKl {n:Nat} (h:n≤100000):n≤sizeLine:=Nat.le_trans h (by decide)
def zg (L:Int):List Int:=(List.range L.toNat).map fun (i:Nat)=>(i:Int)
theorem qE2 {L:Int}:yt 0 L=(zg L).map PV.int:=by
 unfold yt zg
 rw [List.map_map,Int.sub_zero]
 refine List.map_congr_left fun i _ => ?_
 show PV.int (0 + (i:Int))=PV.int i
 rw [Int.zero_add]
theorem upto_mem {L i:Int}:i∈zg L ↔ 0≤i∧i < L:=by
 unfold zg
 rw [List.mem_map]
 constructor
 ·rintro ⟨j,hj,rfl⟩;rw [List.mem_range] at hj;omega
 ·rintro ⟨h1,h2⟩;exact ⟨i.toNat,by rw [List.mem_range];omega,by omega⟩
theorem Zh {L:Int}:(zg L).length=L.toNat:=by simp [zg]
theorem JX {l:List Int} {L i:Int} (hl:l.length=L.toNat) (h0:0≤i) (h1:i < L):L2.atI (l.map PV.int) i=some (.int (l.getD i.toNat 0)):=by
 unfold L2.atI L2.ixN
 rw [List.length_map,if_pos h0,if_pos (by omega)]
 show (l.map PV.int)[i.toNat]? = _
 have hi:i.toNat < l.length:=by omega
 rw [List.getElem?_map,List.getElem?_eq_getElem hi,List.getD_eq_getElem?_getD,List.getElem?_eq_getElem hi]
 rfl
theorem qDy {l:List Int} {L i:Int} {st:qC} (hl:l.length=L.toNat) (h0:0≤i) (h1:i < L):gIx (.lst (l.map PV.int)) (.int i) st = .ok (.int (l.getD i.toNat 0)) st:=by
 unfold gIx
 simp only [wt,asL,JX hl h0 h1]
theorem qBH {i j:Int} {st:qC} (h:-(2 ^ 64) < j∧j < 2 ^ 64):wI (.int i) (.int j) st = .ok (.int (i * j)) st:=by
 unfold wI gI
 dsimp only
 rw [if_pos (.inr h)]
theorem jY {i j:Int} {st:qC} (h:0 < j):YD (.int i) (.int j) st = .ok (.int (i % j)) st:=by
 unfold YD gI
 dsimp only
 rw [if_pos h]
theorem qFE {i j:Int} {st:qC} (h:0 < j) (h2:j < 1073741824):qEG (.int i) (.int j) st = .ok (.int (i / j)) st:=by
 unfold qEG gI
 dsimp only
 rw [if_pos ⟨h,h2⟩]
theorem yd {a:Ad} {st j:qC} {x m:Int} (h0:0 < m) (h1:m < 1073741824):wB a [.ref st.length,.int m] (st ++ .l [.int x]::j) = .ok (.int (x % m)) (st ++ .l [.int (x / m)]::j):=by
 have hs:(st++SO.l [.int x]::j)[st.length]? = some (.l [.int x]):=by simp
 have hg:gIx (.ref st.length) (.int 0) (st++SO.l [.int x]::j) = .ok (.int x) (st++SO.l [.int x]::j):=by
  unfold gIx
  simp only [wt,asL,hs]
  rfl
 refine wo rfl ?_
 unfold ZU
 rw [Qn (WB (p := .int (x % m)) (st':=st++SO.l [.int x]::j) (r:=Qv 3 [.ref st.length,.int m]) ?_),Qn (r':=[some (.ref st.length),some (.int m),some (.int (x % m))]) (st':=st++SO.l [.int (x / m)]::j) ?_]
 ·rfl
 ·unfold YN
  rw [QB (p := .int x) (q := .int m) (st':=st++SO.l [.int x]::j) (st2:=st++SO.l [.int x]::j) ?_ rfl,qFE h0 h1]
  ·show (match w9 (st++SO.l [.int x]::j) (.ref st.length) (.int 0) (.int (x / m)) with |some s4=>RS.nx _ s4 |none=>RS.no)=_
   have:w9 (st++SO.l [.int x]::j) (.ref st.length) (.int 0) (.int (x / m))=some (st++SO.l [.int (x / m)]::j):=by
    unfold w9
    simp only [hs]
    show some ((st++SO.l [.int x]::j).set st.length (.l [.int (x / m)]))=_
    rw [List.set_append_right _ _ (Nat.le_refl _),Nat.sub_self];rfl
   rw [this];rfl
  ·rw [QB (p := .ref st.length) (q := .int 0) rfl rfl];exact hg
 ·rw [QB (p := .int x) (q := .int m) (st':=st++SO.l [.int x]::j) (st2:=st++SO.l [.int x]::j) ?_ rfl,jY h0]
  rw [QB (p := .ref st.length) (q := .int 0) rfl rfl];exact hg
theorem qGY {a:Ad} {ns:List Int} {k:Int} {st:qC} (h0:0≤k):∃ c,zO a [.lst (ns.map PV.int),.int k] st = .ok (.int c) st:=by
 by_cases hk:k < (ns.length:Int)
 ·refine ⟨ns.getD k.toNat 0,wo rfl ?_⟩
  unfold zF
  rw [qA8 (p := .int (ns.getD k.toNat 0)) (st':=st) (r:=Qv 2 [.lst (ns.map PV.int),.int k]) ?_]
  rw [qIs (st':=st) ?_,Z8 (p := .int (ns.getD k.toNat 0)) (st':=st) ?_]
  ·rw [QB (p := .lst (ns.map PV.int)) (q := .int k) rfl rfl,qDy (L:=ns.length) (by omega) h0 hk]
  ·refine jJ ?_
   rw [QB (p := .int k) (q := .int ns.length) rfl ?_]
   ·show Rs.ok (PV.bl (decide (k < (ns.length:Int)))) st=_
    rw [decide_eq_true hk]
   ·rw [Q6 (l:=[.lst (ns.map PV.int)]) rfl]
    show Rs.ok (PV.int ((ns.map PV.int).length:Int)) st=_
    rw [List.length_map]
 ·refine ⟨6151 * k + 29,wo rfl ?_⟩
  unfold zF
  rw [Qn (r':=Qv 2 [.lst (ns.map PV.int),.int k]) (st':=st) (r:=Qv 2 [.lst (ns.map PV.int),.int k]) ?_]
  ·rw [Z8 (p := .int (6151 * k + 29)) (st':=st) ?_]
   rw [QB (p := .int (6151 * k)) (q := .int 29) (st':=st) (st2:=st) ?_ rfl]
   ·rfl
   ·rw [QB (p := .int 6151) (q := .int k) rfl rfl]
    unfold wI gI
    dsimp only
    rw [if_pos (.inl ⟨by decide,by decide⟩)]
  ·rw [qDf (st':=st) ?_]
   ·rfl
   ·refine jJ ?_
    rw [QB (p := .int k) (q := .int ns.length) rfl ?_]
    ·show Rs.ok (PV.bl (decide (k < (ns.length:Int)))) st=_
     rw [decide_eq_false hk]
    ·rw [Q6 (l:=[.lst (ns.map PV.int)]) rfl]
     show Rs.ok (PV.int ((ns.map PV.int).length:Int)) st=_
     rw [List.length_map]
theorem qBv {i j:Int} {st:qC} (h:-(2 ^ 64) < i∧i < 2 ^ 64):wI (.int i) (.int j) st = .ok (.int (i * j)) st:=by
 unfold wI gI
 dsimp only
 rw [if_pos (.inl h)]
noncomputable def jp:FS:=(qO (qS 4 (qH YD (qH qk (qH qk (qH qk (qH wI (qB 4) (vC (.int 48271))) (qH wI (qH wI (vC (.int 7)) (qB 5)) (qB 5))) (qH wI (vC (.int 11)) (qB 1))) (vC (.int 1))) (vC (.int 2147483647)))) (qS 3 (qH qk (qH wI (qB 3) (vC (.int 2147483647))) (qB 4))))
theorem qAJ {s:PV} {c k:Int} {st:qC}:∀ (js:List Int) (n m:Int) (x:Option PV),(∀ j∈js,0≤j∧j < 24) -> ∃ n' m' x',qy (fun _=>True) (qz 5) jp (js.map PV.int) [some s,some (.int k),some (.int c),some (.int n),some (.int m),x] st = .nx [some s,some (.int k),some (.int c),some (.int n'),some (.int m'),x'] st
 |[],n,m,x,_=>⟨n,m,x,by rw [List.map_nil,Y7 trivial]⟩
 |j::js,n,m,x,h=>by
  have hj:=h j List.mem_cons_self
  have e:jp [some s,some (.int k),some (.int c),some (.int n),some (.int m),some (.int j)] st = .nx [some s,some (.int k),some (.int c),some (.int (n * 2147483647 + (m * 48271 + 7 * j * j + 11 * k + 1) % 2147483647)),some (.int ((m * 48271 + 7 * j * j + 11 * k + 1) % 2147483647)),some (.int j)] st:=by
   unfold jp
   rw [Qn (WB (p := .int ((m * 48271 + 7 * j * j + 11 * k + 1) % 2147483647)) (st':=st) ?_),WB (p := .int (n * 2147483647 + (m * 48271 + 7 * j * j + 11 * k + 1) % 2147483647)) (st':=st) ?_]
   ·rfl
   ·rw [QB (p := .int (n * 2147483647)) (q := .int ((m * 48271 + 7 * j * j + 11 * k + 1) % 2147483647)) (st':=st) (st2:=st) ?_ rfl]
    ·rfl
    ·rw [QB (p := .int n) (q := .int 2147483647) rfl rfl,qBH ⟨by decide,by decide⟩]
   ·rw [QB (p := .int (m * 48271 + 7 * j * j + 11 * k + 1)) (q := .int 2147483647) (st':=st) (st2:=st) ?_ rfl,jY (by decide)]
    rw [QB (p := .int (m * 48271 + 7 * j * j + 11 * k)) (q := .int 1) (st':=st) (st2:=st) ?_ rfl]
    ·rfl
    rw [QB (p := .int (m * 48271 + 7 * j * j)) (q := .int (11 * k)) (st':=st) (st2:=st) ?_ ?_]
    ·rfl
    ·rw [QB (p := .int (m * 48271)) (q := .int (7 * j * j)) (st':=st) (st2:=st) ?_ ?_]
     ·rfl
     ·rw [QB (p := .int m) (q := .int 48271) rfl rfl,qBH ⟨by decide,by decide⟩]
     ·rw [QB (p := .int (7 * j)) (q := .int j) (st':=st) (st2:=st) ?_ rfl,qBH ⟨by omega,by omega⟩]
      rw [QB (p := .int 7) (q := .int j) rfl rfl,qBv ⟨by decide,by decide⟩]
    ·rw [QB (p := .int 11) (q := .int k) rfl rfl,qBv ⟨by decide,by decide⟩]
  obtain ⟨n',m',x',e2⟩:=qAJ js _ _ (some (.int j)) fun q hq=>h q (List.mem_cons_of_mem _ hq)
  exact ⟨n',m',x',by rw [List.map_cons,Yj (r1:=[some s,some (.int k),some (.int c),some (.int n),some (.int m),some (.int j)]) trivial rfl e];exact e2⟩
theorem qIL {a:Ad} {ns:List Int} {k:Int} {st:qC} (h0:0≤k):∃ x,z9 a [.lst (ns.map PV.int),.int k] st = .ok (.ref st.length) (st++[.l [.int x]]):=by
 obtain ⟨c,hc⟩:=qGY (a:=a) (ns:=ns) (k:=k) (st:=st) h0
 have h1:qS 2 (qJ (zO a) (qA (qB 0) (qA (qB 1) qD))) (Qv 6 [.lst (ns.map PV.int),.int k]) st = .nx [some (.lst (ns.map PV.int)),some (.int k),some (.int c),none,none,none] st:=by
  rw [WB (p := .int c) (st':=st) ?_]
  ·rfl
  ·rw [Q6 (l:=[.lst (ns.map PV.int),.int k]) rfl];exact hc
 have ht:∀ b:Bool,(c % 2==0)=b->vTB (qH gEq (qH YD (qB 2) (vC (.int 2))) (vC (.int 0))) [some (.lst (ns.map PV.int)),some (.int k),some (.int c),none,none,none] st = .ok b st:=by
  intro b hb
  refine jJ ?_
  rw [QB (p := .int (c % 2)) (q := .int 0) (st':=st) (st2:=st) ?_ rfl,j6,hb]
  rw [QB (p := .int c) (q := .int 2) rfl rfl,jY (by decide)]
 cases hb:(c % 2==0) with
 |true =>
  refine ⟨c / 2,wo rfl ?_⟩
  unfold ZB
  rw [Qn h1,qA8 (p := .ref st.length) (st':=st++[.l [.int (c / 2)]]) ?_]
  rw [qIs (ht true hb),qCX (l:=[.int (c / 2)]) (st':=st) ?_]
  unfold w5
  rw [qi (p := .int (c / 2)) (l:=[]) (st':=st) (st2:=st) ?_ rfl]
  ·rfl
  ·rw [QB (p := .int c) (q := .int 2) rfl rfl,qFE (by decide) (by decide)]
 |false =>
  obtain ⟨n',m',x',e⟩:=qAJ (s := .lst (ns.map PV.int)) (c:=c) (k:=k) (st:=st) (zg 24) 0 (c % 2147483647) none fun j hj=>upto_mem.mp hj
  refine ⟨n',wo rfl ?_⟩
  unfold ZB
  rw [Qn h1,Qn (r':=[some (.lst (ns.map PV.int)),some (.int k),some (.int c),none,none,none]) (st':=st) (by rw [qDf (ht false hb)];rfl),Qn (WB (p := .int 0) (st':=st) rfl),Qn (WB (p := .int (c % 2147483647)) (st':=st) ?_),Qn (r':=[some (.lst (ns.map PV.int)),some (.int k),some (.int c),some (.int n'),some (.int m'),x']) (st':=st) ?_,qCX (l:=[.int n']) (st':=st) rfl]
  ·rw [qEh (w:=⟨(zg 24).map PV.int,fun _=>True⟩) (st':=st) rfl]
   exact e
  ·rw [QB (p := .int c) (q := .int 2147483647) rfl rfl,jY (by decide)]
section
variable {F G:FS} {f fb:FE} {fl:FL} {t u:FT} {r:qf} {st st' st2:qC} {p q:PV} {l m:List PV}
theorem Z6 {fa:FA} (h:fa r st = .ok l st') (hl:l.length≤sizeLine):w5 fa r st = .ok l st':=by unfold w5;rw [h];show (if l.length≤sizeLine then _ else _)=_;rw [if_pos hl]
theorem jw (h:f r st = .ok p st') (h2:fb r st' = .ok q st2) (e1:asL st2 p=some l) (e2:asL st2 q=some m) (hl:l.length + m.length≤sizeLine):yT f fb r st = .ok (l++m) st2:=by
 unfold yT;rw [h];show (fb r st').bind _=_;rw [h2];show (match asL st2 p with |some l=>_ |none=>_)=_;rw [e1];dsimp only;rw [e2];dsimp only;rw [if_pos hl]
theorem qKp {b:Bool} (h:t r st = .ok false st') (h2:u r st' = .ok b st2):Z1 t u r st = .ok b st2:=by unfold Z1;rw [h];exact h2
end
theorem QY {a:Ad} {x d:Addr} {fs:List (Str×Int)} {st:qC} {r:qf} {b:Bool} (h0:r[0]? = some (some (.exc x fs))) (hx:x∈Qa a) (hd:d∈a.kinds) (hb:(x==d)=b):qJ (Qf (kit a)) (qA (qB 0) (qA (vC (.fn d)) qD)) r st = .ok (.bl b) st:=by
 rw [Q6 (l:=[.exc x fs,.fn d]) (st':=st) (by unfold qA qB;rw [h0];rfl)]
 show (match (if x∈Qa a∧d∈a.kinds then some (x==d) else none) with |some b=>Rs.ok (PV.bl b) st |none => .no)=_
 rw [if_pos ⟨hx,hd⟩,hb]
theorem qEj {a:Ad} {x:Addr} {fs:List (Str×Int)} {st:qC} {r:qf} (h0:r[0]? = some (some (.exc x fs))) (hx:x∈Qa a):qJ (Qf (kit a)) (qA (qB 0) (qA (vC (.ty "ValueError")) qD)) r st = .ok (.bl true) st:=by
 rw [Q6 (l:=[.exc x fs,.ty "ValueError"]) (st':=st) (by unfold qA qB;rw [h0];rfl)]
 show (match (if x∈Qa a ∧ "ValueError" = "ValueError" then some true else none) with |some b=>Rs.ok (PV.bl b) st |none => .no)=_
 rw [if_pos ⟨hx,rfl⟩]
theorem jD (a:Ad):a.NoLength∈a.kinds∧a.NoNumber∈a.kinds∧a.NoBars∈a.kinds∧a.NoBox∈a.kinds∧a.NoWeights∈a.kinds∧a.NoSorts∈a.kinds∧a.NoTurn∈a.kinds∧a.NoPlace∈a.kinds∧a.NoText∈a.kinds∧a.NoRow∈a.kinds∧a.TooMany∈a.kinds:=by
 unfold Ad.kinds;simp
theorem Js {bs:List PV} {F:PV->PV} {st:qC} {r:qf} (h1:r[1]? = some (some (.lst bs))) (hl:bs.length≤11) (hb:∀ p∈bs,∃ b,p = .bl b) (hF:∀ b,F (.bl b) = .int (if b then 1 else 0)) :
  vFz (qw [] 1 (Q9 (qB 1)) (Qh 0) [] [] (qJ qDt (qA (qB 0) qD))) r st = .ok (.lst (bs.map F)) st:=by
 refine zT ?_
 rw [WC (w:=⟨bs,fun _=>True⟩) (F:=F) (by unfold Q9 qB;rw [h1];rfl) trivial (qKl (by show bs.length≤100000;omega)) fun p hp => ?_]
 obtain ⟨b,rfl⟩:=hb p hp
 refine ⟨[some (.bl b)],rfl,?_⟩
 rw [hF];cases b <;> rfl
def bit:PV->PV
 | .bl b => .int (if b then 1 else 0)
 |p=>p
theorem qAl {a:Ad} (hd:Dist a) {st:qC} {fs:List (Str×Int)}:We a [.exc a.NoLength fs] st = .ok (.str "! length") st:=by
 have nd:=hd.nd
 unfold Ad.kinds at nd
 simp only [List.nodup_cons,List.mem_cons,List.not_mem_nil,not_or,or_false] at nd
 obtain ⟨⟨n0_1,n0_2,n0_3,n0_4,n0_5,n0_6,n0_7,n0_8,n0_9,n0_10⟩,⟨n1_2,n1_3,n1_4,n1_5,n1_6,n1_7,n1_8,n1_9,n1_10⟩,⟨n2_3,n2_4,n2_5,n2_6,n2_7,n2_8,n2_9,n2_10⟩,⟨n3_4,n3_5,n3_6,n3_7,n3_8,n3_9,n3_10⟩,⟨n4_5,n4_6,n4_7,n4_8,n4_9,n4_10⟩,⟨n5_6,n5_7,n5_8,n5_9,n5_10⟩,⟨n6_7,n6_8,n6_9,n6_10⟩,⟨n7_8,n7_9,n7_10⟩,⟨n8_9,n8_10⟩,n9_10,_⟩:=nd
 obtain ⟨m0,m1,m2,m3,m4,m5,m6,m7,m8,m9,m10⟩:=jD a
 have hx:a.NoLength∈Qa a:=by unfold Qa;simp
 refine wo rfl ?_
 unfold zK
 rw [Qn (WB (p := .lst [.bl true,.bl false,.bl false,.bl false]) (st':=st) (r:=Qv 3 [.exc a.NoLength fs]) (zT (Z6 (qi (QY rfl hx m0 (beq_self_eq_true _)) (qi (QY rfl hx m1 (beq_eq_false_iff_ne.mpr n0_1)) (qi (QY rfl hx m2 (beq_eq_false_iff_ne.mpr n0_2)) (qi (QY rfl hx m3 (beq_eq_false_iff_ne.mpr n0_3)) rfl)))) (by decide)))),
  Qn (WB (p := .lst [.bl true,.bl false,.bl false,.bl false,.bl false,.bl false,.bl false,.bl false]) (st':=st) (zT (jw (l:=[.bl true,.bl false,.bl false,.bl false]) (p := .lst [.bl true,.bl false,.bl false,.bl false]) (st':=st) rfl (zT (Z6 (qi (QY rfl hx m4 (beq_eq_false_iff_ne.mpr n0_4)) (qi (QY rfl hx m5 (beq_eq_false_iff_ne.mpr n0_5)) (qi (QY rfl hx m6 (beq_eq_false_iff_ne.mpr n0_6)) (qi (QY rfl hx m7 (beq_eq_false_iff_ne.mpr n0_7)) rfl)))) (by decide))) rfl rfl (by decide)))),
  Qn (WB (p := .lst [.bl true,.bl false,.bl false,.bl false,.bl false,.bl false,.bl false,.bl false,.bl false,.bl false,.bl false]) (st':=st) (zT (jw (l:=[.bl true,.bl false,.bl false,.bl false,.bl false,.bl false,.bl false,.bl false]) (p := .lst [.bl true,.bl false,.bl false,.bl false,.bl false,.bl false,.bl false,.bl false]) (st':=st) rfl (zT (Z6 (qi (QY rfl hx m8 (beq_eq_false_iff_ne.mpr n0_8)) (qi (QY rfl hx m9 (beq_eq_false_iff_ne.mpr n0_9)) (qi (QY rfl hx m10 (beq_eq_false_iff_ne.mpr n0_10)) rfl))) (by decide))) rfl rfl (by decide))))]
 rw [Qn (r':=[some (.exc a.NoLength fs),some (.lst [.bl true,.bl false,.bl false,.bl false,.bl false,.bl false,.bl false,.bl false,.bl false,.bl false,.bl false]),none]) (st':=st) ?_,Qn (F:=qS 2 _) (r':=[some (.exc a.NoLength fs),some (.lst [.bl true,.bl false,.bl false,.bl false,.bl false,.bl false,.bl false,.bl false,.bl false,.bl false,.bl false]),some (.lst [.str "length",.str "number",.str "bars",.str "box",.str "weights",.str "sorts",.str "turn",.str "place",.str "text",.str "row",.str "many"])]) (st':=st) rfl]
 ·rfl
 ·show QW _ _ _ [some (.exc a.NoLength fs),some (.lst [.bl true,.bl false,.bl false,.bl false,.bl false,.bl false,.bl false,.bl false,.bl false,.bl false,.bl false]),none] st=_
  rw [qDf (st':=st) (qKp (st':=st) (qAz (b:=true) (Zv (qEj rfl hx))) (jJ ?_))]
  ·rfl
  ·rw [QB (p := .int 1) (q := .int 1) (st':=st) (st2:=st) ?_ rfl]
   ·rfl
   ·rw [Q6 (l:=[.lst [.int 1,.int 0,.int 0,.int 0,.int 0,.int 0,.int 0,.int 0,.int 0,.int 0,.int 0]]) (st':=st) (qi (st':=st) (Js (F:=bit) (bs:=[.bl true,.bl false,.bl false,.bl false,.bl false,.bl false,.bl false,.bl false,.bl false,.bl false,.bl false]) rfl (by decide) (by simp) fun b=>rfl) rfl)]
    rfl
theorem Jg {a:Ad} (hd:Dist a) {st:qC} {fs:List (Str×Int)}:We a [.exc a.NoNumber fs] st = .ok (.str "! number") st:=by
 have nd:=hd.nd
 unfold Ad.kinds at nd
 simp only [List.nodup_cons,List.mem_cons,List.not_mem_nil,not_or,or_false] at nd
 obtain ⟨⟨n0_1,n0_2,n0_3,n0_4,n0_5,n0_6,n0_7,n0_8,n0_9,n0_10⟩,⟨n1_2,n1_3,n1_4,n1_5,n1_6,n1_7,n1_8,n1_9,n1_10⟩,⟨n2_3,n2_4,n2_5,n2_6,n2_7,n2_8,n2_9,n2_10⟩,⟨n3_4,n3_5,n3_6,n3_7,n3_8,n3_9,n3_10⟩,⟨n4_5,n4_6,n4_7,n4_8,n4_9,n4_10⟩,⟨n5_6,n5_7,n5_8,n5_9,n5_10⟩,⟨n6_7,n6_8,n6_9,n6_10⟩,⟨n7_8,n7_9,n7_10⟩,⟨n8_9,n8_10⟩,n9_10,_⟩:=nd
 obtain ⟨m0,m1,m2,m3,m4,m5,m6,m7,m8,m9,m10⟩:=jD a
 have hx:a.NoNumber∈Qa a:=by unfold Qa;simp
 refine wo rfl ?_
 unfold zK
 rw [Qn (WB (p := .lst [.bl false,.bl true,.bl false,.bl false]) (st':=st) (r:=Qv 3 [.exc a.NoNumber fs]) (zT (Z6 (qi (QY rfl hx m0 (beq_eq_false_iff_ne.mpr (Ne.symm n0_1))) (qi (QY rfl hx m1 (beq_self_eq_true _)) (qi (QY rfl hx m2 (beq_eq_false_iff_ne.mpr n1_2)) (qi (QY rfl hx m3 (beq_eq_false_iff_ne.mpr n1_3)) rfl)))) (by decide)))),
  Qn (WB (p := .lst [.bl false,.bl true,.bl false,.bl false,.bl false,.bl false,.bl false,.bl false]) (st':=st) (zT (jw (l:=[.bl false,.bl true,.bl false,.bl false]) (p := .lst [.bl false,.bl true,.bl false,.bl false]) (st':=st) rfl (zT (Z6 (qi (QY rfl hx m4 (beq_eq_false_iff_ne.mpr n1_4)) (qi (QY rfl hx m5 (beq_eq_false_iff_ne.mpr n1_5)) (qi (QY rfl hx m6 (beq_eq_false_iff_ne.mpr n1_6)) (qi (QY rfl hx m7 (beq_eq_false_iff_ne.mpr n1_7)) rfl)))) (by decide))) rfl rfl (by decide)))),
  Qn (WB (p := .lst [.bl false,.bl true,.bl false,.bl false,.bl false,.bl false,.bl false,.bl false,.bl false,.bl false,.bl false]) (st':=st) (zT (jw (l:=[.bl false,.bl true,.bl false,.bl false,.bl false,.bl false,.bl false,.bl false]) (p := .lst [.bl false,.bl true,.bl false,.bl false,.bl false,.bl false,.bl false,.bl false]) (st':=st) rfl (zT (Z6 (qi (QY rfl hx m8 (beq_eq_false_iff_ne.mpr n1_8)) (qi (QY rfl hx m9 (beq_eq_false_iff_ne.mpr n1_9)) (qi (QY rfl hx m10 (beq_eq_false_iff_ne.mpr n1_10)) rfl))) (by decide))) rfl rfl (by decide))))]
 rw [Qn (r':=[some (.exc a.NoNumber fs),some (.lst [.bl false,.bl true,.bl false,.bl false,.bl false,.bl false,.bl false,.bl false,.bl false,.bl false,.bl false]),none]) (st':=st) ?_,Qn (F:=qS 2 _) (r':=[some (.exc a.NoNumber fs),some (.lst [.bl false,.bl true,.bl false,.bl false,.bl false,.bl false,.bl false,.bl false,.bl false,.bl false,.bl false]),some (.lst [.str "length",.str "number",.str "bars",.str "box",.str "weights",.str "sorts",.str "turn",.str "place",.str "text",.str "row",.str "many"])]) (st':=st) rfl]
 ·rfl
 ·show QW _ _ _ [some (.exc a.NoNumber fs),some (.lst [.bl false,.bl true,.bl false,.bl false,.bl false,.bl false,.bl false,.bl false,.bl false,.bl false,.bl false]),none] st=_
  rw [qDf (st':=st) (qKp (st':=st) (qAz (b:=true) (Zv (qEj rfl hx))) (jJ ?_))]
  ·rfl
  ·rw [QB (p := .int 1) (q := .int 1) (st':=st) (st2:=st) ?_ rfl]
   ·rfl
   ·rw [Q6 (l:=[.lst [.int 0,.int 1,.int 0,.int 0,.int 0,.int 0,.int 0,.int 0,.int 0,.int 0,.int 0]]) (st':=st) (qi (st':=st) (Js (F:=bit) (bs:=[.bl false,.bl true,.bl false,.bl false,.bl false,.bl false,.bl false,.bl false,.bl false,.bl false,.bl false]) rfl (by decide) (by simp) fun b=>rfl) rfl)]
    rfl
theorem qAi {x:Int}:x % 10=0∨x % 10=1∨x % 10=2∨x % 10=3∨x % 10=4∨x % 10=5∨x % 10=6∨x % 10=7∨x % 10=8∨x % 10=9:=by omega
theorem jh {a:Ad} {st j:qC} {x:Int}:∃ v,Wq v=true∧Qj 2 5 v=false∧Q1 a [.ref st.length] (st ++ .l [.int x]::j) = .ok v (st ++ .l [.int (x / 10)]::j):=by
 have e:∀ v,gIx (.lst [.int 1,.int 6,.int 0,.int (-2),.bl true,.non,.str "3",.tup [.int 2],.lst [.int 3],.int (10 ^ 39)]) (.int (x % 10)) (st ++ .l [.int (x / 10)]::j) = .ok v (st ++ .l [.int (x / 10)]::j)->Q1 a [.ref st.length] (st ++ .l [.int x]::j) = .ok v (st ++ .l [.int (x / 10)]::j):=by
  intro v hv
  refine wo rfl ?_
  unfold WU
  rw [Z8 (p:=v) (st':=st ++ .l [.int (x / 10)]::j) ?_]
  rw [QB (p := .lst [.int 1,.int 6,.int 0,.int (-2),.bl true,.non,.str "3",.tup [.int 2],.lst [.int 3],.int (10 ^ 39)]) (q := .int (x % 10)) (st':=st ++ .l [.int x]::j) (st2:=st ++ .l [.int (x / 10)]::j) rfl ?_]
  ·exact hv
  ·rw [Q6 (l:=[.ref st.length,.int 10]) (st':=st ++ .l [.int x]::j) rfl]
   exact yd (by decide) (by decide)
 rcases qAi (x:=x) with h |h |h |h |h |h |h |h |h |h <;> rw [h] at e
 ·exact ⟨_,rfl,rfl,e (.int 1) rfl⟩
 ·exact ⟨_,rfl,rfl,e (.int 6) rfl⟩
 ·exact ⟨_,rfl,rfl,e (.int 0) rfl⟩
 ·exact ⟨_,rfl,rfl,e (.int (-2)) rfl⟩
 ·exact ⟨_,rfl,rfl,e (.bl true) rfl⟩
 ·exact ⟨_,rfl,rfl,e .non rfl⟩
 ·exact ⟨_,rfl,rfl,e (.str "3") rfl⟩
 ·exact ⟨_,rfl,rfl,e (.tup [.int 2]) rfl⟩
 ·exact ⟨_,rfl,rfl,e (.lst [.int 3]) rfl⟩
 ·exact ⟨_,rfl,rfl,e (.int (10 ^ 39)) rfl⟩
def qKX (es:List PV) (b:List PV) (L:Int):Option PV:=qC9 (gEq (.tup (zp es (some b.length) (some (b.length + L)))) (.tup (List.replicate L.toNat (.int 0))) [])
def zh (es:List PV) (L:Int):Nat->List (List PV)->List (List PV)->Option (List (List PV))
 |0,_,_=>none
 |n + 1,S,T=>if Nat.ble (T.length + S.length) 1000=true then match S with
  |[]=>some T
  |b::S=>if Nat.ble b.length 100=true then (match ((b.length:Int)==(es.length:Int)) with
   |true=>zh es L n S (T++[b])
   |false=>match L2.atI es b.length with
    |some (.int e)=>if e > 0 then zh es L n ((b++[.int (e - 1)])::S) T
     else match qKX es b L with
      |some (.bl true)=>zh es L n ((b++List.replicate L.toNat (.int 0))::(b++[.int (L - 1)])::S) T
      |some (.bl false)=>zh es L n ((b++[.int (L - 1)])::S) T
      |_=>none
    |_=>none) else none
  else none
noncomputable def qK5:FS:=(qO (qS 4 (qCj (qB 3))) (qO (qS 5 (qJ QN (qA (qB 4) qD))) (QW (vTB (qH gEq (qB 5) (qJ QN (qA (qB 0) qD)))) (q9 (qB 2) (qB 4)) (QW (vTB (qH gGt (qH gIx (qB 0) (qB 5)) (vC (.int 0)))) (q9 (qB 3) (qH wz (qB 4) (wY (qA (qH wV (qH gIx (qB 0) (qB 5)) (vC (.int 1))) qD)))) (qO (q9 (qB 3) (qH wz (qB 4) (wY (qA (qH wV (qB 1) (vC (.int 1))) qD)))) (QW (vTB (qH gEq (jb (qB 0) (QJ (qB 5)) (QJ (qH qk (qB 5) (qB 1)))) (qH w6 (wY (qA (vC (.int 0)) qD)) (qB 1)))) (q9 (qB 3) (qH wz (qB 4) (qH w6 (wY (qA (vC (.int 0)) qD)) (qB 1)))) QQ))))))
def cst (st:qC) (T S:List (List PV)):qC:=st++[.l (T.map PV.tup),.l (S.reverse.map PV.tup)]
theorem qHA {st:qC} {T S:List (List PV)}:(cst st T S)[st.length]? = some (.l (T.map PV.tup)):=by unfold cst;rw [List.getElem?_append_right (Nat.le_refl _),Nat.sub_self];rfl
theorem Jx {st:qC} {T S:List (List PV)}:(cst st T S)[st.length + 1]? = some (.l (S.reverse.map PV.tup)):=by unfold cst;rw [List.getElem?_append_right (Nat.le_succ _),show st.length.succ - st.length=1 by omega];rfl
theorem qJV {st:qC} {T S:List (List PV)} {b:List PV}:(cst st T S).set st.length (.l (T.map PV.tup++[.tup b]))=cst st (T++[b]) S:=by
 unfold cst;rw [List.set_append_right _ _ (Nat.le_refl _),Nat.sub_self,List.map_append];rfl
theorem qJF {st:qC} {T S:List (List PV)} {b:List PV}:(cst st T S).set (st.length + 1) (.l (S.reverse.map PV.tup++[.tup b]))=cst st T (b::S):=by
 unfold cst;rw [List.set_append_right _ _ (Nat.le_succ _),show st.length.succ - st.length=1 by omega,List.reverse_cons,List.map_append];rfl
theorem qIC {st:qC} {T S:List (List PV)} {b:List PV}:(cst st T (b::S)).set (st.length + 1) (.l ((b::S).reverse.map PV.tup).dropLast)=cst st T S:=by
 unfold cst;rw [List.set_append_right _ _ (Nat.le_succ _),show st.length.succ - st.length=1 by omega,List.reverse_cons,List.map_append,List.map_cons,List.map_nil,List.dropLast_concat];rfl
theorem qKd {st:qC} {T S:List (List PV)} {b:List PV} {r:qf} {f:FE} (h2:r[2]? = some (some (.ref st.length))) (h:f r (cst st T S) = .ok (.tup b) (cst st T S)) (hl:T.length≤1000):q9 (qB 2) f r (cst st T S) = .nx r (cst st (T++[b]) S):=by
 rw [Zk (wu h2) (qGw qHA) h qHA (by rw [List.length_map];exact Nat.lt_of_le_of_lt hl (by decide)),qJV]
theorem qEJ {st:qC} {T S:List (List PV)} {b:List PV} {r:qf} {f:FE} (h2:r[3]? = some (some (.ref (st.length + 1)))) (h:f r (cst st T S) = .ok (.tup b) (cst st T S)) (hl:S.length≤1001):q9 (qB 3) f r (cst st T S) = .nx r (cst st T (b::S)):=by
 rw [Zk (wu h2) (qGw Jx) h Jx (by rw [List.length_map,List.length_reverse];exact Nat.lt_of_le_of_lt hl (by decide)),qJF]
theorem qGO {L:Int} {st:qC} (h:1≤L) (h2:L≤100):w6 (.tup [.int 0]) (.int L) st = .ok (.tup (List.replicate L.toNat (.int 0))) st:=by
 unfold w6
 dsimp only
 rw [if_pos ⟨by simp,h,by omega,by rw [show ([PV.int 0].length)=1 from rfl,Nat.one_mul];exact Nat.le_trans (show L.toNat≤100 by omega) (by decide)⟩]
 have:(List.replicate L.toNat [PV.int 0]).flatten=List.replicate L.toNat (.int 0):=by
  induction L.toNat with
  |zero=>rfl
  |succ n ih=>rw [List.replicate_succ,List.flatten_cons,ih];rfl
 rw [this]
theorem qBT {b c:List PV} {st:qC} (hb:b.length≤100) (hc:c.length≤100):wz (.tup b) (.tup c) st = .ok (.tup (b++c)) st:=by
 unfold wz
 dsimp only
 rw [if_pos (Nat.le_trans (show b.length + c.length≤200 by omega) (by decide))]
theorem Yf {es:List PV} {L:Int} (h1:1≤L) (h2:L≤100) {st:qC}:∀ (n:Nat) (S T T':List (List PV)) (x4 x5:Option PV),zh es L n S T=some T' ->
  ∃ y4 y5,wb (QO (qB 3)) qK5 n [some (.tup es),some (.int L),some (.ref st.length),some (.ref (st.length + 1)),x4,x5] (cst st T S) = .nx [some (.tup es),some (.int L),some (.ref st.length),some (.ref (st.length + 1)),y4,y5] (cst st T' [])
 |0,S,T,T',x4,x5,h=>by cases h
 |n + 1,S,T,T',x4,x5,h=>by
  unfold zh at h
  by_cases hs:Nat.ble (T.length + S.length) 1000=true
  rotate_left
  ·rw [if_neg hs] at h;cases h
  rw [if_pos hs] at h
  have hs:=Nat.le_of_ble_eq_true hs
  cases S with
  |nil =>
   cases h
   exact ⟨x4,x5,qEt (yQ (wu rfl) Jx)⟩
  |cons b S =>
   dsimp only at h
   by_cases hb:Nat.ble b.length 100=true
   rotate_left
   ·rw [if_neg hb] at h;cases h
   rw [if_pos hb] at h
   have hb:=Nat.le_of_ble_eq_true hb
   have hT:T.length≤1000:=by omega
   have hS:S.length≤1000:=by rw [List.length_cons] at hs;omega
   have e0:QO (qB 3) [some (.tup es),some (.int L),some (.ref st.length),some (.ref (st.length + 1)),x4,x5] (cst st T (b::S)) = .ok true (cst st T (b::S)):=by
    rw [yQ (wu rfl) Jx]
    simp
   have e1:qS 4 (qCj (qB 3)) [some (.tup es),some (.int L),some (.ref st.length),some (.ref (st.length + 1)),x4,x5] (cst st T (b::S)) = .nx [some (.tup es),some (.int L),some (.ref st.length),some (.ref (st.length + 1)),some (.tup b),x5] (cst st T S):=by
    refine Qu ?_
    rw [qKW (p := .tup b) (wu rfl) Jx (by simp),qIC]
   have e2:qS 5 (qJ QN (qA (qB 4) qD)) [some (.tup es),some (.int L),some (.ref st.length),some (.ref (st.length + 1)),some (.tup b),x5] (cst st T S) = .nx [some (.tup es),some (.int L),some (.ref st.length),some (.ref (st.length + 1)),some (.tup b),some (.int b.length)] (cst st T S):=rfl
   generalize hr:[some (PV.tup es),some (.int L),some (.ref st.length),some (.ref (st.length + 1)),some (.tup b),some (.int b.length)]=r at e2
   have v0:∀ s,qB 0 r s = .ok (.tup es) s:=fun s=>by rw [← hr];rfl
   have v1:∀ s,qB 1 r s = .ok (.int L) s:=fun s=>by rw [← hr];rfl
   have v4:∀ s,qB 4 r s = .ok (.tup b) s:=fun s=>by rw [← hr];rfl
   have v5:∀ s,qB 5 r s = .ok (.int b.length) s:=fun s=>by rw [← hr];rfl
   have q2:r[2]? = some (some (.ref st.length)):=by rw [← hr];rfl
   have q3:r[3]? = some (some (.ref (st.length + 1))):=by rw [← hr];rfl
   have t1:vTB (qH gEq (qB 5) (qJ QN (qA (qB 0) qD))) r (cst st T S) = .ok ((b.length:Int)==(es.length:Int)) (cst st T S):=zi (qb (v5 _) (qT (qY (v0 _) QG) (Zg rfl rfl)) j6)
   cases hq:((b.length:Int)==(es.length:Int)) with
   |true =>
    rw [hq] at h t1
    obtain ⟨y4,y5,e⟩:=Yf h1 h2 n S (T++[b]) T' (some (.tup b)) (some (.int b.length)) h
    refine ⟨y4,y5,YA e0 (qW e1 (qW e2 (ZS t1 (qKd q2 (v4 _) hT)))) ?_⟩
    rw [← hr];exact e
   |false =>
    rw [hq] at h t1
    dsimp only at h
    split at h
    ·rename_i e ee
     have ix:qH gIx (qB 0) (qB 5) r (cst st T S) = .ok (.int e) (cst st T S):=qb (v0 _) (v5 _) (qD8 (l:=es) rfl ee)
     by_cases he:e > 0
     ·rw [if_pos he] at h
      obtain ⟨y4,y5,ee2⟩:=Yf h1 h2 n ((b++[.int (e - 1)])::S) T T' (some (.tup b)) (some (.int b.length)) h
      refine ⟨y4,y5,YA e0 (qW e1 (qW e2 (wG t1 (ZS (zi (qb ix rfl (qHz he))) (qEJ q3 (qb (v4 _) (ZL (qY (qb ix rfl Z7) QG) (sz rfl)) (qBT hb (Nat.le_of_ble_eq_true rfl))) (by omega)))))) ?_⟩
      rw [← hr];exact ee2
     ·rw [if_neg he] at h
      have g1:q9 (qB 3) (qH wz (qB 4) (wY (qA (qH wV (qB 1) (vC (.int 1))) qD))) r (cst st T S) = .nx r (cst st T ((b++[.int (L - 1)])::S)):=qEJ q3 (qb (v4 _) (ZL (qY (qb (v1 _) rfl Z7) QG) (sz rfl)) (qBT hb (Nat.le_of_ble_eq_true rfl))) (by omega)
      have rp:∀ s,qH w6 (wY (qA (vC (.int 0)) qD)) (qB 1) r s = .ok (.tup (List.replicate L.toNat (.int 0))) s:=fun s=>qb (ZL (qY rfl QG) (sz rfl)) (v1 _) (qGO h1 h2)
      have sl:∀ s,jb (qB 0) (QJ (qB 5)) (QJ (qH qk (qB 5) (qB 1))) r s = .ok (.tup (zp es (some b.length) (some (b.length + L)))) s:=fun s=>by
       unfold jb QJ
       rw [v0];show ((qB 5 r s).bind _).bind _=_
       rw [v5];show ((qH qk (qB 5) (qB 1) r s).bind _).bind _=_
       rw [qb (v5 _) (v1 _) Jw];rfl
      have t3:∀ k,qKX es b L=some (.bl k)->vTB (qH gEq (jb (qB 0) (QJ (qB 5)) (QJ (qH qk (qB 5) (qB 1)))) (qH w6 (wY (qA (vC (.int 0)) qD)) (qB 1))) r (cst st T ((b++[.int (L - 1)])::S)) = .ok k (cst st T ((b++[.int (L - 1)])::S)):=fun k hk=>zi (qb (sl _) (rp _) (qDY _ _ _ hk _))
      split at h
      ·rename_i hk
       obtain ⟨y4,y5,ee2⟩:=Yf h1 h2 n _ T T' (some (.tup b)) (some (.int b.length)) h
       refine ⟨y4,y5,YA e0 (qW e1 (qW e2 (wG t1 (wG (zi (qb ix rfl (qE0 he))) (qW g1 (ZS (t3 _ hk) (qEJ q3 (qb (v4 _) (rp _) (qBT hb (by rw [List.length_replicate];omega))) (by rw [List.length_cons];omega)))))))) ?_⟩
       rw [← hr];exact ee2
      ·rename_i hk
       obtain ⟨y4,y5,ee2⟩:=Yf h1 h2 n _ T T' (some (.tup b)) (some (.int b.length)) h
       refine ⟨y4,y5,YA e0 (qW e1 (qW e2 (wG t1 (wG (zi (qb ix rfl (qE0 he))) (qW g1 (wG (t3 _ hk) rfl)))))) ?_⟩
       rw [← hr];exact ee2
      ·cases h
    ·cases h
theorem qBj {a:Ad} {es:List PV} {L:Int} {T:List (List PV)} {st:qC} (h1:1≤L) (h2:L≤100) (h:zh es L 100 [[]] []=some T):wK a [.tup es,.int L] st = .ok (.ref st.length) (st++[.l (T.map PV.tup),.l []]):=by
 obtain ⟨y4,y5,e⟩:=Yf (st:=st) h1 h2 100 [[]] [] T none none h
 refine wS rfl ?_
 unfold WH
 refine qW (jk (l:=[]) (s1:=st) (Ja QG (sz rfl))) (qW (jk (l:=[.tup []]) (Ja (qY (ZL QG (sz rfl)) QG) (sz rfl))) ?_)
 have hl:(st++[SO.l []]).length=st.length + 1:=by simp
 rw [hl,List.append_assoc]
 exact qW e (Wi rfl)
abbrev Kvs:=List (List L2.Key×PV)
def zG (m:Int):List PV->Kvs->Option Kvs
 |[],acc=>some acc
 |p::T,acc=>if Nat.ble acc.length 1000=true then match wP p with
  |some k=>match (Zq acc k).getD (.int 0) with
   | .int v=>zG m T (Yy acc k (.int (v + m)))
   |_=>none
  |none=>none else none
def Zf (L:Int):Kvs->Kvs->Option Kvs
 |[],acc=>some acc
 |(k,.int m)::r,acc=>match zh (k.map kp) L 100 [[]] [] with
  |some T=>match zG m (T.map PV.tup) acc with
   |some acc'=>Zf L r acc'
   |none=>none
  |none=>none
 |_,_=>none
theorem mid {s:qC} {x:SO} {g:qC} {n:Nat} (hn:n=s.length):(s++x::g)[n]? = some x:=by subst hn;rw [List.getElem?_append_right (Nat.le_refl _),Nat.sub_self];rfl
theorem yY {s:qC} {x y:SO} {g:qC} {n:Nat} (hn:n=s.length):(s++x::g).set n y=s++y::g:=by subst hn;rw [List.set_append_right _ _ (Nat.le_refl _),Nat.sub_self];rfl
theorem ym {Gd:qC->Prop} {s g:qC} {n d x:Nat} {f:FE} {r:qf} {m:Int} (hn:n=s.length) (hG:∀ acc,Gd (s ++ .d acc::g)) (hd:∀ p,(r.set x p)[d]? = some (some (.ref n))) (hx:x < r.length)
  (hf:∀ acc p,f (r.set x (some p)) (s ++ .d acc::g) = .ok (.int m) (s ++ .d acc::g)):∀ (T:List PV) (acc acc':Kvs) (p0:Option PV),zG m T acc=some acc' ->
  ∃ p1,qy Gd (qz x) (zr (qB d) (qB x) (qH qk (zV (qB d) (qB x) (vC (.int 0))) f)) T (r.set x p0) (s ++ .d acc::g) = .nx (r.set x p1) (s ++ .d acc'::g)
 |[],acc,acc',p0,h=>by cases h;exact ⟨p0,QU (hG acc)⟩
 |p::T,acc,acc',p0,h=>by
  unfold zG at h
  split at h
  ·rename_i hl
   split at h
   ·rename_i k hk
    split at h
    ·rename_i v hv
     obtain ⟨p1,e⟩:=ym hn hG hd hx hf T _ acc' (some p) h
     refine ⟨p1,Wl (hG acc) (r1:=r.set x (some p)) (by show some ((r.set x p0).set x (some p))=_;rw [List.set_set]) (r':=r.set x (some p)) (s2:=s ++ .d (Yy acc k (.int (v + m)))::g) ?_ e⟩
     have vx:∀ st,qB x (r.set x (some p)) st = .ok p st:=fun st=>wu (by rw [List.getElem?_set_self hx])
     have vd:∀ st,qB d (r.set x (some p)) st = .ok (.ref n) st:=fun st=>wu (hd _)
     rw [qHj (qb (p := .int v) (q := .int m) (by rw [← hv];exact qBl (vd _) (yu (.inl (mid hn))) (vx _) rfl hk (yu (.inl (mid hn)))) (hf acc p) Jw) (vd _) (vx _) hk (mid hn) (Nat.lt_of_le_of_lt (Nat.le_of_ble_eq_true hl) (by decide)),yY hn]
    ·cases h
   ·cases h
  ·cases h
noncomputable def qLK (a:Ad):FS:=(wm (Q9 (qJ (wK a) (qA (qB 3) (qA (qB 1) qD)))) (qz 5) (zr (qB 2) (qB 5) (qH qk (zV (qB 2) (qB 5) (vC (.int 0))) (qB 4))))
theorem qAQ {a:Ad} {L:Int} (h1:1≤L) (h2:L≤100) {s:qC} {i n:Nat} (hn:n=s.length):∀ (kvs acc acc':Kvs) (g:qC) (x3 x4 x5:Option PV),Zf L kvs acc=some acc' ->
  ∃ y3 y4 y5 g',qy (fun _=>True) (Zo 2 (Q5 (qz 3) (Q5 (qz 4) Zt))) (qLK a) (kvs.map (qCt true)) [some (.ref i),some (.int L),some (.ref n),x3,x4,x5] (s ++ .d acc::g) = .nx [some (.ref i),some (.int L),some (.ref n),y3,y4,y5] (s ++ .d acc'::g')
 |[],acc,acc',g,x3,x4,x5,h=>by cases h;exact ⟨x3,x4,x5,g,QU trivial⟩
 |(k,q)::kvs,acc,acc',g,x3,x4,x5,h=>by
  cases q with
  |int m =>
   have h:(match zh (k.map kp) L 100 [[]] [] with |some T=>(match zG m (T.map PV.tup) acc with |some acc'=>Zf L kvs acc' |none=>none) |none=>none)=some acc':=h
   split at h
   ·rename_i T hT
    split at h
    ·rename_i acc1 ha
     have hg:s ++ .d acc::g++[SO.l (T.map PV.tup),.l []]=s ++ .d acc::(g++[SO.l (T.map PV.tup),.l []]):=by simp
     have hc:=qBj (a:=a) (st:=s ++ .d acc::g) h1 h2 hT
     rw [hg] at hc
     have look:∀ acc2:Kvs,(s ++ .d acc2::(g++[SO.l (T.map PV.tup),.l []]))[(s ++ .d acc::g).length]? = some (.l (T.map PV.tup)):=fun acc2=>by
      rw [show s ++ .d acc2::(g++[SO.l (T.map PV.tup),.l []])=(s ++ .d acc2::g)++SO.l (T.map PV.tup)::[.l []] by simp]
      exact mid (by simp)
     obtain ⟨p1,e⟩:=ym (Gd:=fun st=>st[(s++SO.d acc::g).length]? = some (.l (T.map PV.tup))) (s:=s) (g:=g++[SO.l (T.map PV.tup),.l []]) (n:=n) (d:=2) (x:=5) (f:=qB 4) (r:=[some (.ref i),some (.int L),some (.ref n),some (w4 k),some (.int m),x5]) (m:=m) hn look (fun p=>rfl) (by simp) (fun acc p=>rfl) (T.map PV.tup) acc acc1 x5 ha
     obtain ⟨y3,y4,y5,g',e2⟩:=qAQ h1 h2 hn kvs acc1 acc' (g++[SO.l (T.map PV.tup),.l []]) (some (w4 k)) (some (.int m)) p1 h
     exact ⟨y3,y4,y5,g',Wl trivial (r1:=[some (.ref i),some (.int L),some (.ref n),some (w4 k),some (.int m),x5]) rfl (ZG (qBp (qT (l:=[w4 k,.int L]) rfl hc) (look acc)) e) e2⟩
    ·cases h
   ·cases h
  |_=>cases h
theorem qE4 {a:Ad} {L:Int} (h1:1≤L) (h2:L≤100) {s:qC} {i:Nat} {kvs kvs':Kvs} (hi:s[i]? = some (.d kvs)) (h:Zf L kvs []=some kvs'):∃ g,zM a [.ref i,.int L] s = .ok (.ref s.length) (s ++ .d kvs'::g):=by
 have hil:i < s.length:=(List.getElem?_eq_some_iff.mp hi).1
 obtain ⟨y3,y4,y5,g,e⟩:=qAQ (a:=a) (s:=s.set i (.z kvs)) (i:=i) (n:=s.length) h1 h2 (by rw [List.length_set]) kvs [] kvs' [] none none none h
 refine ⟨g,wS rfl ?_⟩
 unfold Zc
 refine qW (Qu (p := .ref s.length) (s1:=s++[.d []]) rfl) (qW (r':=[some (.ref i),some (.int L),some (.ref s.length),y3,y4,y5]) (s1:=s ++ .d kvs'::g) ?_ (Wi rfl))
 have e1:(s++[SO.d []]).set i (.z kvs)=s.set i (.z kvs)++[.d []]:=by rw [List.set_append_left _ _ hil]
 have e2:(s.set i (.z kvs)++SO.d kvs'::g).set i (.d kvs)=s ++ .d kvs'::g:=by
  rw [List.set_append_left _ _ (by rw [List.length_set];exact hil),List.set_set]
  congr 1
  obtain ⟨_,q⟩:=List.getElem?_eq_some_iff.mp hi
  rw [← q,List.set_getElem_self]
 rw [← e2]
 exact qEH (wu rfl) (by rw [List.getElem?_append_left hil];exact hi) (by rw [e1];exact e)
def ZR (lay:Kvs->Option Kvs) (ev:List L2.Key):Nat->Kvs->Option (List Int)
 |0,_=>some []
 |n + 1,kvs=>match lay kvs with
  |some kvs'=>match (Zq kvs' ev).getD (.int 0) with
   | .int m=>match ZR lay ev n kvs' with
    |some l=>some (m::l)
    |none=>none
   |_=>none
  |none=>none
theorem Z5 {lay:Kvs->Option Kvs} {ev:List L2.Key} {n:Nat} {kvs:Kvs} {l:List Int} (h:ZR lay ev (n + 1) kvs=some l):∃ kvs' m l',lay kvs=some kvs'∧(Zq kvs' ev).getD (.int 0) = .int m∧ZR lay ev n kvs'=some l'∧l=m::l':=by
 unfold ZR at h
 split at h
 ·rename_i kvs' h1
  split at h
  ·rename_i m h2
   split at h
   ·rename_i l' h3;cases h;exact ⟨kvs',m,l',h1,h2,h3,rfl⟩
   ·cases h
  ·cases h
 ·cases h
theorem Z3 {lay:Kvs->Option Kvs} {ev:List L2.Key}:∀ {n k:Nat} {kvs:Kvs} {l:List Int},n≤k->ZR lay ev k kvs=some l->ZR lay ev n kvs=some (l.take n)
 |0,_,_,_,_,_=>rfl
 |n + 1,0,_,_,h,_=>by omega
 |n + 1,k + 1,kvs,l,h,e=>by
  obtain ⟨kvs',m,l',h1,h2,h3,rfl⟩:=Z5 e
  have:=Z3 (n:=n) (by omega) h3
  unfold ZR
  rw [h1];dsimp only;rw [h2];dsimp only;rw [this];rfl
def qF9 (L:Int) (kvs:Kvs):Option Kvs:=Zf L kvs []
noncomputable def scB (a:Ad):FS:=(qO (qS 4 (qJ (zM a) (qA (qB 4) (qA (qB 1) qD)))) (q9 (qB 5) (zV (qB 4) (qB 3) (vC (.int 0)))))
theorem qB9 {a:Ad} {L:Int} (h1:1≤L) (h2:L≤100) {st:qC} {w c:Option PV} {evp:PV} {ev:List L2.Key} (hev:wP evp=some ev) {j:Nat} (hj:st.length≤j):∀ (ks:List PV) (kvs:Kvs) (l:List Int) (cs:List PV) (g:qC) (i:Nat) (x6:Option PV),
  ZR (qF9 L) ev ks.length kvs=some l->(st++g)[i]? = some (.d kvs)->(st++g)[j]? = some (.l cs)->cs.length + ks.length≤1000 ->
  ∃ i' y6 g',qy (fun _=>True) (qz 6) (scB a) ks [w,some (.int L),c,some evp,some (.ref i),some (.ref j),x6] (st++g) = .nx [w,some (.int L),c,some evp,some (.ref i'),some (.ref j),y6] (st++g')∧(st++g')[j]? = some (.l (cs++l.map PV.int))
 |[],kvs,l,cs,g,i,x6,h,hi,hc,hl=>by
  cases h
  exact ⟨i,x6,g,QU trivial,by rw [hc];simp⟩
 |k::ks,kvs,l,cs,g,i,x6,h,hi,hc,hl=>by
  obtain ⟨kvs',m,l',q1,q2,q3,rfl⟩:=Z5 h
  obtain ⟨g1,e1⟩:=qE4 (a:=a) h1 h2 hi q1
  have hjl:j < (st++g).length:=(List.getElem?_eq_some_iff.mp hc).1
  have hc1:(st++g ++ .d kvs'::g1)[j]? = some (.l cs):=by rw [List.getElem?_append_left hjl];exact hc
  have hn:(st++g ++ .d kvs'::g1)[(st++g).length]? = some (.d kvs'):=mid rfl
  have es:(st++g ++ .d kvs'::g1).set j (.l (cs++[.int m]))=st++(g ++ .d kvs'::g1).set (j - st.length) (.l (cs++[.int m])):=by
   rw [List.append_assoc,List.set_append_right _ _ hj]
  have hjl':j < (st++g ++ .d kvs'::g1).length:=(List.getElem?_eq_some_iff.mp hc1).1
  obtain ⟨i',y6,g',e2,e3⟩:=qB9 h1 h2 (w:=w) (c:=c) hev hj ks kvs' l' (cs++[.int m]) ((g ++ .d kvs'::g1).set (j - st.length) (.l (cs++[.int m]))) (st++g).length (some k) q3
   (by rw [← es,List.getElem?_set_ne (Nat.ne_of_lt hjl)];exact hn) (by rw [← es,List.getElem?_set_self hjl']) (by rw [List.length_cons] at hl;rw [List.length_append,List.length_singleton];omega)
  refine ⟨i',y6,g',Wl trivial (r1:=[w,some (.int L),c,some evp,some (.ref i),some (.ref j),some k]) rfl (r':=[w,some (.int L),c,some evp,some (.ref (st++g).length),some (.ref j),some k]) (s2:=st++(g ++ .d kvs'::g1).set (j - st.length) (.l (cs++[.int m]))) ?_ e2,by rw [e3];simp⟩
  refine qW (Qu (p := .ref (st++g).length) (s1:=st++g ++ .d kvs'::g1) (qT (l:=[.ref i,.int L]) rfl e1)) ?_
  rw [← es]
  refine Zk (wu rfl) (qGw hc1) (s2:=st++g ++ .d kvs'::g1) (p := .int m) ?_ hc1 (Nat.lt_of_le_of_lt (show cs.length≤1000 by omega) (by decide))
  rw [← q2]
  exact qBl (wu rfl) (yu (.inl hn)) (wu rfl) rfl hev (yu (.inl hn))
def ZP (L:Int) (kv0:Kvs):Kvs->Kvs->Option Kvs
 |[],acc=>some acc
 |(k,_)::r,acc=>match wP (w4 k) with
  |some k'=>match Zq kv0 k' with
   |some (.int m)=>match WQ 6 [w4 k,.int L,.int 0] with
    |some (.lst T)=>match zG m T acc with
     |some acc'=>ZP L kv0 r acc'
     |none=>none
    |_=>none
   |_=>none
  |none=>none
def qGH (L:Int) (kvs:Kvs):Option Kvs:=ZP L kvs kvs []
noncomputable def lbB (a:Ad):FS:=(wm (Q9 (qJ (Qx 6 a) (qA (qB 7) (qA (qB 1) (qA (vC (.int 0)) qD))))) (qz 8) (zr (qB 6) (qB 8) (qH qk (zV (qB 6) (qB 8) (vC (.int 0))) (qH qBK (qB 3) (qB 7)))))
theorem qCZ {a:Ad} {L:Int} {s:qC} {i n:Nat} {kv0:Kvs} (hn:n=s.length) (hi:s[i]? = some (.z kv0)) {w c j x5:Option PV}:∀ (kvs acc acc':Kvs) (x7 x8:Option PV),ZP L kv0 kvs acc=some acc' ->
  ∃ y7 y8,qy (fun _=>True) (qz 7) (lbB a) (kvs.map (qCt false)) [w,some (.int L),c,some (.ref i),j,x5,some (.ref n),x7,x8] (s ++ .d acc::[]) = .nx [w,some (.int L),c,some (.ref i),j,x5,some (.ref n),y7,y8] (s ++ .d acc'::[])
 |[],acc,acc',x7,x8,h=>by cases h;exact ⟨x7,x8,QU trivial⟩
 |(k,q)::kvs,acc,acc',x7,x8,h=>by
  unfold ZP at h
  split at h
  ·rename_i k' hk
   split at h
   ·rename_i m hm
    split at h
    ·rename_i T hT
     split at h
     ·rename_i acc1 ha
      have hil:i < s.length:=(List.getElem?_eq_some_iff.mp hi).1
      obtain ⟨p1,e⟩:=ym (Gd:=fun _=>True) (s:=s) (g:=[]) (n:=n) (d:=6) (x:=8) (f:=qH qBK (qB 3) (qB 7)) (r:=[w,some (.int L),c,some (.ref i),j,x5,some (.ref n),some (w4 k),x8]) (m:=m) hn (fun _=>trivial) (fun p=>rfl) (by simp)
       (fun acc p=>qb (p := .ref i) (q:=w4 k) rfl rfl (qKk hk (yu (.inr (by rw [List.getElem?_append_left hil];exact hi))) hm)) T acc acc1 x8 ha
      obtain ⟨y7,y8,e2⟩:=qCZ hn hi (w:=w) (c:=c) (j:=j) (x5:=x5) kvs acc1 acc' (some (w4 k)) p1 h
      exact ⟨y7,y8,Wl trivial (r1:=[w,some (.int L),c,some (.ref i),j,x5,some (.ref n),some (w4 k),x8]) rfl (ZG (Yi (qT (l:=[w4 k,.int L,.int 0]) rfl (yR (a:=a) 6 _ _ hT _))) e) e2⟩
     ·cases h
    ·cases h
   ·cases h
  ·cases h
noncomputable def lcB (a:Ad):FS:=(qO (qS 6 qCa) (qO (zY false (qB 3) (qz 7) (lbB a)) (qO (qS 3 (qB 6)) (q9 (qB 4) (zV (qB 3) (qH w6 (wY (qA (vC (.int 0)) qD)) (qB 0)) (vC (.int 0)))))))
theorem qB8 {a:Ad} {L w:Int} (h1:1≤w) (h2:w≤100) {st:qC} {c:Option PV} {ev:List L2.Key} (hev:wP (.tup (List.replicate w.toNat (.int 0)))=some ev) {j:Nat} (hj:st.length≤j):∀ (ks:List PV) (kvs:Kvs) (l:List Int) (cs:List PV) (g:qC) (i:Nat) (x5 x6 x7 x8:Option PV),
  ZR (qGH L) ev ks.length kvs=some l->(st++g)[i]? = some (.d kvs)->(st++g)[j]? = some (.l cs)->cs.length + ks.length≤1000 ->
  ∃ i' y5 y6 y7 y8 g',qy (fun _=>True) (qz 5) (lcB a) ks [some (.int w),some (.int L),c,some (.ref i),some (.ref j),x5,x6,x7,x8] (st++g) = .nx [some (.int w),some (.int L),c,some (.ref i'),some (.ref j),y5,y6,y7,y8] (st++g')∧(st++g')[j]? = some (.l (cs++l.map PV.int))
 |[],kvs,l,cs,g,i,x5,x6,x7,x8,h,hi,hc,hl=>by
  cases h
  exact ⟨i,x5,x6,x7,x8,g,QU trivial,by rw [hc];simp⟩
 |k::ks,kvs,l,cs,g,i,x5,x6,x7,x8,h,hi,hc,hl=>by
  obtain ⟨kvs',m,l',q1,q2,q3,rfl⟩:=Z5 h
  have hjl:j < (st++g).length:=(List.getElem?_eq_some_iff.mp hc).1
  have hil:i < (st++g).length:=(List.getElem?_eq_some_iff.mp hi).1
  obtain ⟨y7,y8,e1⟩:=qCZ (a:=a) (s:=(st++g).set i (.z kvs)) (n:=(st++g).length) (i:=i) (kv0:=kvs) (by rw [List.length_set]) (by rw [List.getElem?_set_self hil]) (w:=some (.int w)) (c:=c) (j:=some (.ref j)) (x5:=some k) kvs [] kvs' x7 x8 q1
  have hc1:(st++g++SO.d kvs'::[])[j]? = some (.l cs):=by rw [List.getElem?_append_left hjl];exact hc
  have hn:(st++g++SO.d kvs'::[])[(st++g).length]? = some (.d kvs'):=mid rfl
  have es:(st++g++SO.d kvs'::[]).set j (SO.l (cs++[PV.int m]))=st++(g++SO.d kvs'::[]).set (j - st.length) (SO.l (cs++[PV.int m])):=by
   rw [List.append_assoc,List.set_append_right _ _ hj]
  have hjl':j < (st++g++SO.d kvs'::[]).length:=(List.getElem?_eq_some_iff.mp hc1).1
  obtain ⟨i',y5,y6,y7',y8',g',e2,e3⟩:=qB8 h1 h2 (c:=c) hev hj ks kvs' l' (cs++[.int m]) ((g++SO.d kvs'::[]).set (j - st.length) (SO.l (cs++[PV.int m]))) (st++g).length (some k) (some (.ref (st++g).length)) y7 y8 q3
   (by rw [← es,List.getElem?_set_ne (Nat.ne_of_lt hjl)];exact hn) (by rw [← es,List.getElem?_set_self hjl']) (by rw [List.length_cons] at hl;rw [List.length_append,List.length_singleton];omega)
  refine ⟨i',y5,y6,y7',y8',g',Wl trivial (r1:=[some (.int w),some (.int L),c,some (.ref i),some (.ref j),some k,x6,x7,x8]) rfl (r':=[some (.int w),some (.int L),c,some (.ref (st++g).length),some (.ref j),some k,some (.ref (st++g).length),y7,y8]) (s2:=st++(g++SO.d kvs'::[]).set (j - st.length) (SO.l (cs++[PV.int m]))) ?_ e2,by rw [e3];simp⟩
  refine qW (Qu (p := .ref (st++g).length) (s1:=st++g++[.d []]) rfl) ?_
  have f1:(st++g++[SO.d []]).set i (.z kvs)=(st++g).set i (.z kvs)++[.d []]:=by rw [List.set_append_left _ _ hil]
  have f2:((st++g).set i (.z kvs)++SO.d kvs'::[]).set i (.d kvs)=st++g++SO.d kvs'::[]:=by
   rw [List.set_append_left _ _ (by rw [List.length_set];exact hil),List.set_set]
   congr 1
   obtain ⟨_,q⟩:=List.getElem?_eq_some_iff.mp hi
   rw [← q,List.set_getElem_self]
  have f3:zY false (qB 3) (qz 7) (lbB a) [some (.int w),some (.int L),c,some (.ref i),some (.ref j),some k,some (.ref (st++g).length),x7,x8] (st++g++[.d []]) = .nx [some (.int w),some (.int L),c,some (.ref i),some (.ref j),some k,some (.ref (st++g).length),y7,y8] (st++g++SO.d kvs'::[]):=by
   rw [← f2]
   exact qEH (wu rfl) (by rw [List.getElem?_append_left hil];exact hi) (by rw [f1];exact e1)
  refine qW f3 (qW (Qu (wu rfl)) ?_)
  rw [← es]
  refine Zk (wu rfl) (qGw hc1) (s2:=st++g++SO.d kvs'::[]) (p := .int m) ?_ hc1 (Nat.lt_of_le_of_lt (show cs.length≤1000 by omega) (by decide))
  rw [← q2]
  exact qBl (wu rfl) (yu (.inl hn)) (qb (ZL (qY rfl QG) (sz rfl)) (wu rfl) (qGO h1 h2)) rfl hev (yu (.inl hn))
abbrev Lay:=List (Nat×Int)
structure Tab where
 keys:List (List Int)
 ts:List (List Nat)
 tl:List (List Nat)
def Tab.dec (t:Tab) (n:Nat):List L2.Key:=(t.keys.getD n []).map Sum.inl
def Tab.toK (t:Tab) (l:Lay):Kvs:=l.map fun x=>(t.dec x.1,PV.int x.2)
def In (t:Tab) (l:Lay):Prop := ∀ x∈l,x.1 < t.keys.length
def fnd (l:Lay) (n:Nat):Option Int:=(l.find? fun x=>Nat.beq x.1 n).map (·.2)
def qEx (l:Lay) (n:Nat) (v:Int):Lay:=if (l.any fun x=>Nat.beq x.1 n)=true then l.map (fun x=>if Nat.beq x.1 n=true then (x.1,v) else x) else l++[(n,v)]
def qAL (m:Int):List Nat->Lay->Option Lay
 |[],acc=>some acc
 |n::ns,acc=>if Nat.ble acc.length 1000=true then qAL m ns (qEx acc n ((fnd acc n).getD 0 + m)) else none
def qFh (tr:List (List Nat)):Lay->Lay->Option Lay
 |[],acc=>some acc
 |(n,m)::r,acc=>match qAL m (tr.getD n []) acc with
  |some acc'=>qFh tr r acc'
  |none=>none
def qCF (tr:List (List Nat)) (l0:Lay):Lay->Lay->Option Lay
 |[],acc=>some acc
 |(n,_)::r,acc=>match fnd l0 n with
  |some m=>match qAL m (tr.getD n []) acc with
   |some acc'=>qCF tr l0 r acc'
   |none=>none
  |none=>none
def qDS (lay:Lay->Option Lay):Nat->Lay->Option (List Int)
 |0,_=>some []
 |n + 1,l=>match lay l with
  |some l'=>match qDS lay n l' with
   |some r=>some ((fnd l' 0).getD 0::r)
   |none=>none
  |none=>none
section
variable {t:Tab} (nd:t.keys.Nodup)
include nd
theorem qCI {n k:Nat} (hn:n < t.keys.length) (hk:k < t.keys.length):t.dec n=t.dec k ↔ n=k:=by
 refine ⟨fun h => ?_,fun h=>by rw [h]⟩
 unfold Tab.dec at h
 have inj:∀ a c:List Int,a.map (Sum.inl:Int->L2.Key)=c.map Sum.inl->a=c:=fun a c e=>List.map_inj_right (fun x y e=>Sum.inl.inj e) |>.mp e
 have:=inj _ _ h
 rw [List.getD_eq_getElem?_getD,List.getD_eq_getElem?_getD,List.getElem?_eq_getElem hn,List.getElem?_eq_getElem hk] at this
 exact (List.getElem_inj nd).mp this
theorem qG9 {n k:Nat} (hn:n < t.keys.length) (hk:k < t.keys.length):decide (t.dec n=t.dec k)=Nat.beq n k:=by
 by_cases h:n=k
 ·subst h;rw [Nat.beq_refl];exact decide_eq_true rfl
 ·rw [decide_eq_false fun z=>h ((qCI nd hn hk).mp z)]
  exact (Bool.eq_false_iff.mpr fun z=>h (Nat.eq_of_beq_eq_true z)).symm
theorem qCB {n:Nat} (hn:n < t.keys.length):∀ {l:Lay},In t l->Zq (t.toK l) (t.dec n)=(fnd l n).map PV.int
 |[],_=>rfl
 |(k,v)::l,h=>by
  have ih:=qCB hn (l:=l) fun x hx=>h x (List.mem_cons_of_mem _ hx)
  have hb:=qG9 nd (h (k,v) List.mem_cons_self) hn
  unfold Zq fnd Tab.toK at ih ⊢
  rw [List.map_cons,List.find?_cons,List.find?_cons]
  dsimp only at hb ⊢
  rw [hb]
  cases Nat.beq k n
  ·exact ih
  ·rfl
theorem qJz {n:Nat} {v:Int} (hn:n < t.keys.length) {l:Lay} (h:In t l):Yy (t.toK l) (t.dec n) (.int v)=t.toK (qEx l n v):=by
 have h1:((t.toK l).any fun kv=>decide (kv.1=t.dec n))=l.any fun x=>Nat.beq x.1 n:=by
  unfold Tab.toK
  rw [List.any_map]
  induction l with
  |nil=>rfl
  |cons x l ih =>
   rw [List.any_cons,List.any_cons,ih fun y hy=>h y (List.mem_cons_of_mem _ hy)]
   show (decide (t.dec x.1=t.dec n) || _)=_
   rw [qG9 nd (h x List.mem_cons_self) hn]
 unfold Yy qEx
 rw [h1]
 by_cases q:(l.any fun x=>Nat.beq x.1 n)=true
 ·rw [if_pos q,if_pos q]
  unfold Tab.toK
  rw [List.map_map,List.map_map]
  refine List.map_congr_left fun x hx => ?_
  show (if t.dec x.1=t.dec n then (t.dec x.1,PV.int v) else (t.dec x.1,PV.int x.2))=(fun y:Nat×Int=>(t.dec y.1,PV.int y.2)) (if Nat.beq x.1 n=true then (x.1,v) else x)
  by_cases e:x.1=n
  ·rw [if_pos (by rw [e]),if_pos (by rw [e];exact Nat.beq_refl n)]
  ·rw [if_neg fun z=>e ((qCI nd (h x hx) hn).mp z),if_neg fun z=>e (Nat.eq_of_beq_eq_true z)]
 ·rw [if_neg q,if_neg q]
  unfold Tab.toK
  rw [List.map_append]
  rfl
omit nd in
theorem qIz {n:Nat} {v:Int} (hn:n < t.keys.length) {l:Lay} (h:In t l):In t (qEx l n v):=by
 unfold qEx
 split
 ·intro x hx
  obtain ⟨y,hy,e⟩:=List.mem_map.mp hx
  subst e
  split
  ·exact h y hy
  ·exact h y hy
 ·intro x hx
  rcases List.mem_append.mp hx with hx |hx
  ·exact h x hx
  ·rw [List.mem_singleton.mp hx];exact hn
theorem qBW {m:Int}:∀ {T:List PV} {ns:List Nat} {acc acc':Lay},T.map wP=ns.map (fun n=>some (t.dec n))->(∀ n∈ns,n < t.keys.length)->In t acc->qAL m ns acc=some acc'->zG m T (t.toK acc)=some (t.toK acc')∧In t acc'
 |[],[],acc,acc',_,_,hi,h=>by cases h;exact ⟨rfl,hi⟩
 |[],_::_,_,_,e,_,_,_=>by cases e
 |_::_,[],_,_,e,_,_,_=>by cases e
 |p::T,n::ns,acc,acc',e,hn,hi,h=>by
  rw [List.map_cons,List.map_cons] at e
  obtain ⟨e1,e2⟩:=List.cons.inj e
  unfold qAL at h
  by_cases hl:Nat.ble acc.length 1000=true
  rotate_left
  ·rw [if_neg hl] at h;cases h
  rw [if_pos hl] at h
  have h0:=hn n List.mem_cons_self
  obtain ⟨q1,q2⟩:=qBW (m:=m) e2 (fun k hk=>hn k (List.mem_cons_of_mem _ hk)) (qIz h0 hi) h
  refine ⟨?_,q2⟩
  unfold zG
  rw [if_pos (show Nat.ble (t.toK acc).length 1000=true by unfold Tab.toK;rw [List.length_map];exact hl),e1]
  dsimp only
  rw [qCB nd h0 hi]
  have:((fnd acc n).map PV.int).getD (.int 0) = .int ((fnd acc n).getD 0):=by cases fnd acc n <;> rfl
  rw [this]
  dsimp only
  rw [qJz nd h0 hi]
  exact q1
end
def sOk (t:Tab) (L:Int) (n:Nat):Bool:=match zh ((t.dec n).map kp) L 100 [[]] [] with
 |some T=>decide ((T.map PV.tup).map wP=(t.ts.getD n []).map fun k=>some (t.dec k))&&(t.ts.getD n []).all fun k=>Nat.blt k t.keys.length
 |none=>false
def lOk (t:Tab) (L:Int) (n:Nat):Bool:=decide (wP (w4 (t.dec n))=some (t.dec n))&&match WQ 6 [w4 (t.dec n),.int L,.int 0] with
 |some (.lst T)=>decide (T.map wP=(t.tl.getD n []).map fun k=>some (t.dec k))&&(t.tl.getD n []).all fun k=>Nat.blt k t.keys.length
 |_=>false
structure TOk (t:Tab) (L:Int):Prop where
 nd:t.keys.Nodup
 s:∀ n,n < t.keys.length->sOk t L n=true
 l:∀ n,n < t.keys.length->lOk t L n=true
theorem qHS {t:Tab} {L:Int} (h:TOk t L):∀ {l acc acc':Lay},In t l->In t acc->qFh t.ts l acc=some acc'->Zf L (t.toK l) (t.toK acc)=some (t.toK acc')∧In t acc'
 |[],acc,acc',_,hi,e=>by cases e;exact ⟨rfl,hi⟩
 |(n,m)::l,acc,acc',hl,hi,e=>by
  unfold qFh at e
  split at e
  ·rename_i acc1 e1
   have h0:n < t.keys.length:=hl (n,m) List.mem_cons_self
   have q:=h.s n h0
   unfold sOk at q
   split at q
   ·rename_i T hT
    rw [Bool.and_eq_true,List.all_eq_true] at q
    obtain ⟨q1,q2⟩:=q
    obtain ⟨p1,p2⟩:=qBW h.nd (of_decide_eq_true q1) (fun k hk=>Nat.le_of_ble_eq_true (q2 k hk)) hi e1
    obtain ⟨p3,p4⟩:=qHS h (fun x hx=>hl x (List.mem_cons_of_mem _ hx)) p2 e
    refine ⟨?_,p4⟩
    show (match zh ((t.dec n).map kp) L 100 [[]] [] with |some T=>(match zG m (T.map PV.tup) (t.toK acc) with |some acc'=>Zf L (t.toK l) acc' |none=>none) |none=>none)=_
    rw [hT];dsimp only;rw [p1];exact p3
   ·cases q
  ·cases e
theorem qFL {t:Tab} {L:Int} (h:TOk t L) {l0:Lay} (h0':In t l0):∀ {l acc acc':Lay},In t l->In t acc->qCF t.tl l0 l acc=some acc'->ZP L (t.toK l0) (t.toK l) (t.toK acc)=some (t.toK acc')∧In t acc'
 |[],acc,acc',_,hi,e=>by cases e;exact ⟨rfl,hi⟩
 |(n,m)::l,acc,acc',hl,hi,e=>by
  unfold qCF at e
  split at e
  ·rename_i m' em
   split at e
   ·rename_i acc1 e1
    have h0:n < t.keys.length:=hl (n,m) List.mem_cons_self
    have q:=h.l n h0
    unfold lOk at q
    rw [Bool.and_eq_true] at q
    obtain ⟨q0,q⟩:=q
    split at q
    ·rename_i T hT
     rw [Bool.and_eq_true,List.all_eq_true] at q
     obtain ⟨q1,q2⟩:=q
     obtain ⟨p1,p2⟩:=qBW h.nd (of_decide_eq_true q1) (fun k hk=>Nat.le_of_ble_eq_true (q2 k hk)) hi e1
     obtain ⟨p3,p4⟩:=qFL h h0' (fun x hx=>hl x (List.mem_cons_of_mem _ hx)) p2 e
     refine ⟨?_,p4⟩
     show ZP L (t.toK l0) ((t.dec n,PV.int m)::t.toK l) (t.toK acc)=_
     unfold ZP
     rw [of_decide_eq_true q0];dsimp only;rw [qCB h.nd h0 h0',em]
     show (match WQ 6 [w4 (t.dec n),.int L,.int 0] with |some (.lst T)=>_ |_=>_)=_
     rw [hT];dsimp only;rw [p1];exact p3
    ·cases q
   ·cases e
  ·cases e
theorem qEu {t:Tab} (nd:t.keys.Nodup) (h0:0 < t.keys.length) {lay:Lay->Option Lay} {layK:Kvs->Option Kvs} (hl:∀ l l',In t l->lay l=some l'->layK (t.toK l)=some (t.toK l')∧In t l'):∀ {n:Nat} {l:Lay} {r:List Int},In t l->qDS lay n l=some r->ZR layK (t.dec 0) n (t.toK l)=some r
 |0,l,r,_,e=>by cases e;rfl
 |n + 1,l,r,hi,e=>by
  unfold qDS at e
  split at e
  ·rename_i l' e1
   split at e
   ·rename_i r' e2
    cases e
    obtain ⟨p1,p2⟩:=hl l l' hi e1
    have ih:=qEu nd h0 hl p2 e2
    unfold ZR
    rw [p1];dsimp only;rw [qCB nd h0 p2]
    have:((fnd l' 0).map PV.int).getD (.int 0) = .int ((fnd l' 0).getD 0):=by cases fnd l' 0 <;> rfl
    rw [this];dsimp only;rw [ih]
   ·cases e
  ·cases e
def t12:Tab:=⟨[[0],[1]],[[1],[0]],[[1],[0]]⟩
def t13:Tab:=⟨[[0],[2],[1]],[[1],[2],[0]],[[1],[2],[0]]⟩
def t14:Tab:=⟨[[0],[3],[2],[1]],[[1],[2],[3],[0]],[[1],[2],[3],[0]]⟩
def t15:Tab:=⟨[[0],[4],[3],[2],[1]],[[1],[2],[3],[4],[0]],[[1],[2],[3],[4],[0]]⟩
def t22:Tab:=⟨[[0,0],[1,1]],[[0,1],[0]],[[1,0],[0]]⟩
def t23:Tab:=⟨[[0,0],[2,2],[1,1]],[[1],[2],[0]],[[1],[2],[0]]⟩
def t24:Tab:=⟨[[0,0],[3,3],[2,2],[1,1]],[[1],[2],[3],[0]],[[1],[2],[3],[0]]⟩
def t25:Tab:=⟨[[0,0],[4,4],[3,3],[2,2],[1,1]],[[1],[2],[3],[4],[0]],[[1],[2],[3],[4],[0]]⟩
def t32:Tab:=⟨[[0,0,0],[0,0,1],[1,0,0],[1,1,1],[1,1,0],[0,1,1]],[[1,2,3],[0,4],[0,5],[0],[1],[2]],[[3,2,1],[4,0],[5,0],[0],[1],[2]]⟩
def t33:Tab:=⟨[[0,0,0],[2,2,2],[1,1,1]],[[0,1],[2],[0]],[[1,0],[2],[0]]⟩
def t34:Tab:=⟨[[0,0,0],[3,3,3],[2,2,2],[1,1,1]],[[1],[2],[3],[0]],[[1],[2],[3],[0]]⟩
def t35:Tab:=⟨[[0,0,0],[4,4,4],[3,3,3],[2,2,2],[1,1,1]],[[1],[2],[3],[4],[0]],[[1],[2],[3],[4],[0]]⟩
def t42:Tab:=⟨[[0,0,0,0],[0,0,1,1],[1,0,0,1],[1,1,0,0],[1,1,1,1],[0,1,1,0]],[[0,1,2,3,4],[0,3],[0,5],[0,1],[0],[2]],[[4,3,2,1,0],[3,0],[5,0],[1,0],[0],[2]]⟩
def t43:Tab:=⟨[[0,0,0,0],[0,0,0,2],[2,0,0,0],[2,2,2,2],[0,0,0,1],[2,2,2,1],[1,0,0,0],[1,2,2,2],[1,1,1,1],[2,2,2,0],[1,1,1,0],[0,2,2,2],[0,1,1,1],[1,1,1,2],[2,1,1,1]],[[1,2,3],[4,5],[6,7],[8],[0,9],[10],[0,11],[12],[0],[13],[1],[14],[2],[4],[6]],[[3,2,1],[5,4],[7,6],[8],[9,0],[10],[11,0],[12],[0],[13],[1],[14],[2],[4],[6]]⟩
def t44:Tab:=⟨[[0,0,0,0],[3,3,3,3],[2,2,2,2],[1,1,1,1]],[[0,1],[2],[3],[0]],[[1,0],[2],[3],[0]]⟩
def t45:Tab:=⟨[[0,0,0,0],[4,4,4,4],[3,3,3,3],[2,2,2,2],[1,1,1,1]],[[1],[2],[3],[4],[0]],[[1],[2],[3],[4],[0]]⟩
def evK (w:Int):List L2.Key:=List.replicate w.toNat (.inl 0)
def zW (t:Tab) (w L:Int):Bool:=decide t.keys.Nodup&&(Nat.blt 0 t.keys.length&&(decide (t.dec 0=evK w)&&((List.range t.keys.length).all fun n=>sOk t L n&&lOk t L n)))
def qLX (t:Tab):Option (List Int):=qDS (fun l=>qFh t.ts l []) 200 [(0,1)]
def qLQ (t:Tab):Option (List Int):=qDS (fun l=>qCF t.tl l l []) 200 [(0,1)]
def chk (t:Tab) (w L:Int):Bool:=match qLX t,qLQ t with
 |some l,some l'=>l==l'&&(l.length==200&&(l.all (fun x=>decide (x.natAbs < 2 ^ 1000))&&qG1 w L (1::l)))
 |_,_=>false
structure Fct (w L:Int) (l:List Int):Prop where
 s:ZR (qF9 L) (evK w) 200 [(evK w,.int 1)]=some l
 t:ZR (qGH L) (evK w) 200 [(evK w,.int 1)]=some l
 n:l.length=200
 b:∀ x∈l,x.natAbs < 2 ^ 1000
 q:qG1 w L (1::l)=true
theorem wR {t:Tab} {w L:Int} (e0:zW t w L=true) (e:chk t w L=true):∃ l,Fct w L l:=by
 unfold zW at e0
 rw [Bool.and_eq_true,Bool.and_eq_true,Bool.and_eq_true,List.all_eq_true] at e0
 obtain ⟨z1,z2,z3,z4⟩:=e0
 have nd:=of_decide_eq_true z1
 have h0:0 < t.keys.length:=Nat.le_of_ble_eq_true z2
 have hev:=of_decide_eq_true z3
 have T:TOk t L:=⟨nd,fun n hn=>by have:=z4 n (List.mem_range.mpr hn);rw [Bool.and_eq_true] at this;exact this.1,fun n hn=>by have:=z4 n (List.mem_range.mpr hn);rw [Bool.and_eq_true] at this;exact this.2⟩
 have i0:In t [(0,1)]:=fun x hx=>by rw [List.mem_singleton.mp hx];exact h0
 unfold chk at e
 split at e
 ·rename_i l l' e1 e2
  rw [Bool.and_eq_true,Bool.and_eq_true,Bool.and_eq_true,List.all_eq_true] at e
  obtain ⟨q1,q2,q3,q4⟩:=e
  have:=eq_of_beq q1
  subst this
  have r1:=qEu nd h0 (layK:=qF9 L) (fun l l' hi e=>qHS T (acc:=[]) hi (fun x hx=>(List.not_mem_nil hx).elim) e) i0 e1
  have r2:=qEu nd h0 (layK:=qGH L) (fun l l' hi e=>qFL T hi (acc:=[]) hi (fun x hx=>(List.not_mem_nil hx).elim) e) i0 e2
  have ek:t.toK [(0,1)]=[(evK w,.int 1)]:=by rw [← hev];rfl
  rw [hev,ek] at r1 r2
  exact ⟨l,r1,r2,eq_of_beq q2,fun x hx=>of_decide_eq_true (q3 x hx),q4⟩
 ·cases e
theorem qI1:zW t12 1 2=true:=by decide +kernel
theorem qIi:chk t12 1 2=true:=by decide +kernel
theorem qHx:zW t13 1 3=true:=by decide +kernel
theorem qJK:chk t13 1 3=true:=by decide +kernel
theorem qIu:zW t14 1 4=true:=by decide +kernel
theorem qIn:chk t14 1 4=true:=by decide +kernel
theorem qJD:zW t15 1 5=true:=by decide +kernel
theorem qHq:chk t15 1 5=true:=by decide +kernel
theorem qHh:zW t22 2 2=true:=by decide +kernel
theorem qIQ:chk t22 2 2=true:=by decide +kernel
theorem qJH:zW t23 2 3=true:=by decide +kernel
theorem qHZ:chk t23 2 3=true:=by decide +kernel
theorem qHo:zW t24 2 4=true:=by decide +kernel
theorem qHe:chk t24 2 4=true:=by decide +kernel
theorem qHl:zW t25 2 5=true:=by decide +kernel
theorem qIb:chk t25 2 5=true:=by decide +kernel
theorem qHi:zW t32 3 2=true:=by decide +kernel
theorem qIg:chk t32 3 2=true:=by decide +kernel
theorem qH6:zW t33 3 3=true:=by decide +kernel
theorem qJX:chk t33 3 3=true:=by decide +kernel
theorem qHX:zW t34 3 4=true:=by decide +kernel
theorem qIN:chk t34 3 4=true:=by decide +kernel
theorem qI0:zW t35 3 5=true:=by decide +kernel
theorem qJB:chk t35 3 5=true:=by decide +kernel
theorem qHt:zW t42 4 2=true:=by decide +kernel
theorem qHW:chk t42 4 2=true:=by decide +kernel
theorem qHk:zW t43 4 3=true:=by decide +kernel
theorem qIG:chk t43 4 3=true:=by decide +kernel
theorem qJl:zW t44 4 4=true:=by decide +kernel
theorem qJj:chk t44 4 4=true:=by decide +kernel
theorem qH7:zW t45 4 5=true:=by decide +kernel
theorem qH9:chk t45 4 5=true:=by decide +kernel
def R1:List Int:=[1,2,3,4]
def R2:List Int:=[2,3,4,5]
theorem fin {w L:Int} (h1:w∈R1) (h2:L∈R2):∃ l,Fct w L l:=by
 simp only [R1,List.mem_cons,List.not_mem_nil,or_false] at h1
 simp only [R2,List.mem_cons,List.not_mem_nil,or_false] at h2
 rcases h1 with rfl |rfl |rfl |rfl <;> rcases h2 with rfl |rfl |rfl |rfl
 ·exact wR qI1 qIi
 ·exact wR qHx qJK
 ·exact wR qIu qIn
 ·exact wR qJD qHq
 ·exact wR qHh qIQ
 ·exact wR qJH qHZ
 ·exact wR qHo qHe
 ·exact wR qHl qIb
 ·exact wR qHi qIg
 ·exact wR qH6 qJX
 ·exact wR qHX qIN
 ·exact wR qI0 qJB
 ·exact wR qHt qHW
 ·exact wR qHk qIG
 ·exact wR qJl qJj
 ·exact wR qH7 qH9
theorem qFb {h:Int} (m:h∈R1):1≤h∧h≤4:=by
 simp only [R1,List.mem_cons,List.not_mem_nil,or_false] at m
 omega
theorem qHK {h:Int} (m:h∈R2):2≤h∧h≤5:=by
 simp only [R2,List.mem_cons,List.not_mem_nil,or_false] at m
 omega
theorem qLA {x:Int}:1 + x % 4∈R1:=by
 have h:x % 4=0∨x % 4=1∨x % 4=2∨x % 4=3:=by omega
 rcases h with h |h |h |h <;> rw [h] <;> decide
theorem qLE {x:Int}:2 + x % 4∈R2:=by
 have h:x % 4=0∨x % 4=1∨x % 4=2∨x % 4=3:=by omega
 rcases h with h |h |h |h <;> rw [h] <;> decide
theorem jT {w:Int} (m:w∈R1):wP (.tup (List.replicate w.toNat (.int 0)))=some (evK w):=by
 simp only [R1,List.mem_cons,List.not_mem_nil,or_false] at m
 rcases m with rfl |rfl |rfl |rfl <;> rfl
theorem itN {L:Int} {r:qf} {st s1:qC} {f:FA} (h1:0≤L) (h2:L≤1000) (hf:f r st = .ok [.int L] s1):(wg f) r st = .ok ⟨(zg L).map PV.int,fun _=>True⟩ s1:=by
 unfold wg
 rw [hf]
 show zd [.int L] s1=_
 unfold zd
 dsimp only
 rw [if_pos (by omega),qE2]
def Bd (lo hi:Int):Prop:=(lo=1∧hi=4)∨(lo=0∧hi=200)
theorem ZF {a:Ad} {v:PV} {st:qC} {lo hi:Int} (hb:Bd lo hi) (h:Wq v=true):Qo a [v,.int lo,.int hi] st=if Qj lo hi v=true then .ok .non st else .ex ⟨a.NoNumber,[]⟩ st:=by
 unfold Qo qq
 rw [if_pos (show [v,PV.int lo,.int hi].length=3 from rfl)]
 unfold W1 QW w8 QO
 rw [Q6 (l:=[v,.int lo,.int hi]) (st':=st) rfl,Jt h]
 rcases hb with ⟨rfl,rfl⟩ |⟨rfl,rfl⟩
 ·cases hw:Qj 1 4 v <;> rfl
 ·cases hw:Qj 0 200 v <;> rfl
theorem b14:Bd 1 4 := .inl ⟨rfl,rfl⟩
theorem b02:Bd 0 200 := .inr ⟨rfl,rfl⟩
theorem qBq {a:Ad} {v:PV} {st:qC} {lo hi:Int} (hb:Bd lo hi) (h:Wq v=true) (hw:Qj lo hi v=true):Qo a [v,.int lo,.int hi] st = .ok .non st:=by rw [ZF hb h,if_pos hw]
theorem qHu {a:Ad} {v:PV} {st:qC} {lo hi:Int} (hb:Bd lo hi) (h:Wq v=true) (hw:Qj lo hi v=false):Qo a [v,.int lo,.int hi] st = .ex ⟨a.NoNumber,[]⟩ st:=by rw [ZF hb h,hw];rfl
theorem qJT {a:Ad} {v:PV} {st:qC} (h:Wq v=true) (hw:Qj 2 5 v=true):Q3 a [v] st = .ok .non st:=by rw [ZI h,if_pos hw]
theorem qJA {a:Ad} {v:PV} {st:qC} (h:Wq v=true) (hw:Qj 2 5 v=false):Q3 a [v] st = .ex ⟨a.NoLength,[]⟩ st:=by rw [ZI h,hw];rfl
theorem yh {k:List PV->qC->Rs PV} {fa:FA} {r:qf} {st s1:qC} {l:List PV} {x:Exc} {s2:qC} (h:fa r st = .ok l s1) (h2:k l s1 = .ex x s2):qJ k fa r st = .ex x s2:=by rw [Q6 h];exact h2
theorem qCY {lo hi c:Int} (h:lo≤c∧c≤hi):Qj lo hi (.int c)=true:=by simp [Qj,h.1,h.2]
def qEa (l:List Int) (c:Int):List PV:=(1::l.take c.toNat).map PV.int
theorem qFa {a:Ad} {w L c:Int} {l:List Int} {st:qC} (m1:w∈R1) (m2:L∈R2) (hc:0≤c∧c≤200) (F:Fct w L l):∃ j g,Qr a [.int w,.int L,.int c] st = .ok (.ref j) (st++g)∧(st++g)[j]? = some (.l (qEa l c))∧st.length≤j:=by
 have i1:=qFb m1
 have i2:=qHK m2
 have hr:ZR (qF9 L) (evK w) ((zg c).map PV.int).length [(evK w,.int 1)]=some (l.take c.toNat):=by
  rw [List.length_map,Zh];exact Z3 (by omega) F.s
 obtain ⟨i',y6,g',e1,e2⟩:=qB9 (a:=a) (L:=L) (by omega) (by omega) (st:=st) (w:=some (.int w)) (c:=some (.int c)) (jT m1) (j:=st.length + 1) (by omega) ((zg c).map PV.int) [(evK w,.int 1)] (l.take c.toNat) [.int 1] [.d [(evK w,.int 1)],.l [.int 1]] st.length none hr
  (mid rfl) (by rw [List.getElem?_append_right (by omega),show st.length + 1 - st.length=1 by omega];rfl) (by rw [List.length_map,Zh];show 1 + c.toNat≤1000;omega)
 refine ⟨st.length + 1,g',wS rfl ?_,e2,by omega⟩
 unfold wF
 refine qW (jc (qT rfl (qBq b14 rfl (qCY i1)))) (qW (jc (qT rfl (qJT rfl (qCY i2)))) (qW (jc (qT rfl (qBq b02 rfl (qCY hc)))) ?_))
 refine qW (Qu (p := .tup (List.replicate w.toNat (.int 0))) (s1:=st) (qb (ZL (qY rfl QG) (sz rfl)) rfl (qGO (by omega) (by omega)))) ?_
 refine qW (Qu (p := .ref st.length) (s1:=st++[.d [(evK w,.int 1)]]) ?_) ?_
 ·rw [qBt (q := .tup (List.replicate w.toNat (.int 0))) (p := .int 1) (s1:=st++[.d []]) (s2:=st++[.d []]) rfl rfl (jT m1) (mid rfl),yY rfl]
 ·refine qW (jk (l:=[.int 1]) (Ja (qY rfl QG) (sz rfl))) ?_
  rw [show (st++[SO.d [(evK w,.int 1)]]).length=st.length + 1 by simp,List.append_assoc]
  exact qW (ZG (itN hc.1 (by omega) rfl) e1) (Wi rfl)
theorem qCy {a:Ad} {w L c:Int} {l:List Int} {st:qC} (m1:w∈R1) (m2:L∈R2) (hc:0≤c∧c≤200) (F:Fct w L l):∃ j g,WX a [.int w,.int L,.int c] st = .ok (.ref j) (st++g)∧(st++g)[j]? = some (.l (qEa l c))∧st.length≤j:=by
 have i1:=qFb m1
 have i2:=qHK m2
 have hr:ZR (qGH L) (evK w) ((zg c).map PV.int).length [(evK w,.int 1)]=some (l.take c.toNat):=by
  rw [List.length_map,Zh];exact Z3 (by omega) F.t
 obtain ⟨i',y5,y6,y7,y8,g',e1,e2⟩:=qB8 (a:=a) (L:=L) (w:=w) (by omega) (by omega) (st:=st) (c:=some (.int c)) (jT m1) (j:=st.length + 1) (by omega) ((zg c).map PV.int) [(evK w,.int 1)] (l.take c.toNat) [.int 1] [.d [(evK w,.int 1)],.l [.int 1]] st.length none none none none hr
  (mid rfl) (by rw [List.getElem?_append_right (by omega),show st.length + 1 - st.length=1 by omega];rfl) (by rw [List.length_map,Zh];show 1 + c.toNat≤1000;omega)
 refine ⟨st.length + 1,g',wS rfl ?_,e2,by omega⟩
 unfold zS
 refine qW (Qu (p := .ref st.length) (s1:=st++[.d [(evK w,.int 1)]]) ?_) ?_
 ·rw [qBt (q := .tup (List.replicate w.toNat (.int 0))) (p := .int 1) (s1:=st++[.d []]) (s2:=st++[.d []]) (qb (ZL (qY rfl QG) (sz rfl)) rfl (qGO (by omega) (by omega))) rfl (jT m1) (mid rfl),yY rfl]
 ·refine qW (jk (l:=[.int 1]) (Ja (qY rfl QG) (sz rfl))) ?_
  rw [show (st++[SO.d [(evK w,.int 1)]]).length=st.length + 1 by simp,List.append_assoc]
  exact qW (ZG (itN hc.1 (by omega) rfl) e1) (Wi rfl)
theorem qAW {a:Ad} {p q u:PV} {st:qC} (hp:Wq p=true) (np:Qj 1 4 p=false):Qr a [p,q,u] st = .ex ⟨a.NoNumber,[]⟩ st:=by
 refine Z0 rfl ?_
 unfold wF
 exact Ya (jQ (yh rfl (qHu b14 hp np)))
theorem JH {a:Ad} {p q u:PV} {st:qC} (hp:Wq p=true) (ip:Qj 1 4 p=true) (hq:Wq q=true) (nq:Qj 2 5 q=false):Qr a [p,q,u] st = .ex ⟨a.NoLength,[]⟩ st:=by
 refine Z0 rfl ?_
 unfold wF
 exact qW (jc (qT rfl (qBq b14 hp ip))) (Ya (jQ (yh rfl (qJA hq nq))))
theorem Yk:∀ {l:List PV} {ns:List Int},wx yn l=some ns->l=ns.map PV.int
 |[],ns,h=>by cases h;rfl
 |p::l,ns,h=>by
  unfold wx at h
  cases p with
  |int i =>
   cases q:wx yn l with
   |none=>rw [q] at h;cases h
   |some r=>rw [q] at h;cases h;rw [Yk q];rfl
  |_=>cases h
theorem jK:∀ l:List Int,wx yn (l.map PV.int)=some l
 |[]=>rfl
 |p::l=>by simp only [List.map_cons,wx,yn,jK l]
structure Cs (S:qC) (j:Nat) (cs:List Int):Prop where
 at_:S[j]? = some (.l (cs.map PV.int))
 n:cs.length=201
theorem qAT {g:Nat->Int->Int} {F:PV->PV} (hF:∀ (k:Nat) x,F (.tup [.int (k:Int),.int x]) = .int (g k x)):∀ (ns:List Int) (k0:Nat),(yU k0 (ns.map PV.int)).map F=((List.range ns.length).map fun i=>g (k0 + i) (ns.getD i 0)).map PV.int
 |[],_=>rfl
 |x::ns,k0=>by
  rw [List.map_cons,yU,List.map_cons,hF,qAT hF ns (k0 + 1),List.length_cons,List.range_succ_eq_map,List.map_cons,List.map_cons]
  refine List.cons_eq_cons.mpr ⟨rfl,?_⟩
  simp only [List.map_map]
  refine List.map_congr_left fun i _ => ?_
  show PV.int (g (k0 + 1 + i) (ns.getD i 0))=PV.int (g (k0 + (i + 1)) ((x::ns).getD (i + 1) 0))
  rw [List.getD_cons_succ,show k0 + 1 + i=k0 + (i + 1) by omega]
theorem qFZ {ns:List Int} {k0:Nat} {p:PV} (h:p∈yU k0 (ns.map PV.int)):∃ i x,i < ns.length∧x∈ns∧p = .tup [.int ((k0 + i:Nat):Int),.int x]:=by
 obtain ⟨i,hi⟩:=List.getElem?_of_mem h
 obtain ⟨q,h1,h2⟩:=Yd hi
 rw [List.getElem?_map] at h1
 cases hx:ns[i]? with
 |none=>rw [hx] at h1;cases h1
 |some x =>
  rw [hx] at h1;cases h1
  exact ⟨i,x,(List.getElem?_eq_some_iff.mp hx).1,List.mem_of_getElem? hx,h2⟩
theorem qEd {S:qC} {j:Nat} {cs:List Int} (C:Cs S j cs) {i:Int} (h0:0≤i) (h1:i < 201):gIx (.ref j) (.int i) S = .ok (.int (cs.getD i.toNat 0)) S :=
 qD8 (qB3 C.at_) (JX (L:=201) C.n h0 h1)
theorem qE9 {l:List Int} {i:Nat} (h:i < l.length):l.getD i 0∈l:=by
 rw [List.getD_eq_getElem?_getD,List.getElem?_eq_getElem h];exact List.getElem_mem h
theorem jq {x y:Int} {S:qC} (hx:x.natAbs < 2 ^ 60):wI (.int x) (.int y) S = .ok (.int (x * y)) S:=qI4 (by omega)
theorem qEs {l:List Int} {S:qC}:Yr [.lst (l.map PV.int)] S = .ok (.int l.sum) S:=by
 unfold Yr yj
 simp only [asL]
 rw [jK]
structure Nn (ns:List Int) (t:Nat):Prop where
 a:ns.length≤t + 1
 hi:ns.length≤40
 b:∀ x∈ns,x.natAbs < 2 ^ 60
theorem qFd {ns:List Int} {t:Nat} (h:okN ns t=true):Nn ns t:=by
 unfold okN at h
 rw [Bool.and_eq_true,Bool.and_eq_true,List.all_eq_true] at h
 exact ⟨Nat.le_of_ble_eq_true h.1,Nat.le_of_ble_eq_true h.2.1,fun x hx=>of_decide_eq_true (h.2.2 x hx)⟩
theorem qGj {a:Ad} {S:qC} {j:Nat} {ns cs:List Int} (C:Cs S j cs) {t:Nat} (N:Nn ns t) (ht:t < 201):zz a [qr ns,.ref j,.int t] S = .ok (.int (dot ns cs t)) S:=by
 have hi:=N.hi
 have hn:=N.a
 refine wS rfl (Wi ?_)
 have hm:=qAT (g:=fun k x=>x * cs.getD (t - k) 0) (F:=fun p=>match p with | .tup [.int k,.int x] => .int (x * cs.getD (t - k.toNat) 0) |_ => .non) (fun k x=>by simp) ns 0
 refine qT (l:=[.lst (((List.range ns.length).map fun i=>ns.getD i 0 * cs.getD (t - i) 0).map PV.int)]) (qY (qBk ?_) QG) qEs
 have e:=WC (caps:=[1,2]) (n:=2) (fi:=qDX (qA (qB 0) qD)) (g:=Zo 2 (Q5 (Qh 2) (Q5 (Qh 3) Zt))) (f:=qH wI (qB 3) (qH gIx (qB 0) (qH wV (qB 1) (qB 2)))) (r:=Qv 3 [qr ns,.ref j,.int t]) (st:=S) (w:=⟨yU 0 (ns.map PV.int),fun s=>wt s (qr ns)=some (ns.map PV.int)⟩) (F:=fun p=>match p with | .tup [.int k,.int x] => .int (x * cs.getD (t - k.toNat) 0) |_ => .non) rfl rfl (by rw [YY,List.length_map];exact Nat.le_trans hi (by decide)) fun p hp=>by
  obtain ⟨i,x,h1,h2,rfl⟩:=qFZ hp
  refine ⟨[some (.ref j),some (.int t),some (.int ((0 + i:Nat):Int)),some (.int x)],rfl,?_⟩
  have ei:((t:Int) - ((0 + i:Nat):Int)).toNat=t - i:=by omega
  have:=qEd C (i:=(t:Int) - ((0 + i:Nat):Int)) (by omega) (by omega)
  rw [ei] at this
  refine qb (p := .int x) (q := .int (cs.getD (t - i) 0)) (s1:=S) (s2:=S) rfl (qb rfl (qb rfl rfl Z7) this) ?_
  rw [jq (N.b x h2)]
  simp
 rw [e,hm]
 congr 3
 funext i
 rw [Nat.zero_add]
noncomputable def snB (a:Ad):FS:=(qO (qS 6 (qJ (zz a) (qA (qB 1) (qA (qB 0) (qA (qB 5) qD))))) (qO (jG 4 (vC (.int 1))) (QW (vTB (qH gNe (qB 6) (vC (.int 0)))) (qO (qS 7 (qJ (zn a) (qA (qB 1) (qA (qB 6) (qA (qB 2) (qA (qB 3) (qA (qB 4) qD))))))) (qO (QW (vTB (qH gGt (qJ QN (qA (qB 7) qD)) (qJ QN (qA (qB 1) qD)))) (Zb 2 3 4 (qA (qB 1) (qA (qB 6) (qA (vC (.int 0)) qD)))) QQ) (qS 1 (qB 7)))) QQ)))
theorem JJ {i j:Int} {st:qC}:gNe (.int i) (.int j) st = .ok (.bl (!(i==j))) st:=rfl
theorem qKs {i:Nat} {f:FE} {r:qf} {st s1:qC} {k m:Int} (h:r[i]? = some (some (.int k))) (h2:f r st = .ok (.int m) s1):jG i f r st = .nx (r.set i (some (.int (k + m)))) s1:=by
 unfold jG;rw [h];dsimp only;rw [h2];rfl
theorem qHa {i j k:Nat} {fa:FA} {r:qf} {st s1:qC} {p q z:PV} (h:fa r st = .ok [p,q,z] s1):Zb i j k fa r st = .nx (((r.set i (some p)).set j (some q)).set k (some z)) s1:=by unfold Zb;rw [h];rfl
theorem qDg {o:Option PV} {l:List Int} (h:qDz o=some l):o=some (qr l):=by
 unfold qDz at h
 split at h
 ·rw [Yk h];rfl
 ·cases h
theorem qB4 {l:List Int} {S:qC}:QN [qr l] S = .ok (.int (l.length:Int)) S:=Zg (l:=l.map PV.int) rfl (by rw [List.length_map])
theorem qGp {a:Ad} {S:qC} {j:Nat} {cs:List Int} (C:Cs S j cs) {t:Nat} (ht:t < 201) {s s':BS} (h:bmS cs t s=some s') {x6 x7:Option PV}:∃ y6 y7,snB a [some (.ref j),some (qr s.nb),some (qr s.old),some (.int s.og),some (.int s.bk),some (.int (t:Int)),x6,x7] S = .nx [some (.ref j),some (qr s'.nb),some (qr s'.old),some (.int s'.og),some (.int s'.bk),some (.int (t:Int)),y6,y7] S:=by
 unfold bmS at h
 split at h
 ·rename_i hN
  have e1:=qGj (a:=a) C (qFd hN) ht
  generalize hg:dot s.nb cs t=gap at h e1
  have st1:∀ o,(QW (vTB (qH gNe (qB 6) (vC (.int 0)))) (qO (qS 7 (qJ (zn a) (qA (qB 1) (qA (qB 6) (qA (qB 2) (qA (qB 3) (qA (qB 4) qD))))))) (qO (QW (vTB (qH gGt (qJ QN (qA (qB 7) qD)) (qJ QN (qA (qB 1) qD)))) (Zb 2 3 4 (qA (qB 1) (qA (qB 6) (qA (vC (.int 0)) qD)))) QQ) (qS 1 (qB 7)))) QQ) [some (.ref j),some (qr s.nb),some (qr s.old),some (.int s.og),some (.int (s.bk + 1)),some (.int (t:Int)),some (.int gap),x7] S=o->snB a [some (.ref j),some (qr s.nb),some (qr s.old),some (.int s.og),some (.int s.bk),some (.int (t:Int)),x6,x7] S=o:=fun o ho =>
   qW (Qu (qT (l:=[qr s.nb,.ref j,.int t]) rfl e1)) (qW (qKs (k:=s.bk) (m:=1) rfl rfl) ho)
  by_cases h0:gap=0
  ·rw [if_pos h0] at h
   cases h
   subst h0
   exact ⟨some (.int 0),x7,st1 _ (wG (zi (qb rfl rfl JJ)) rfl)⟩
  ·rw [if_neg h0] at h
   split at h
   ·rename_i b hb
    have e2:=qFG (a:=a) _ _ (qDg hb) S
    have ec:(!(gap==(0:Int)))=true:=by rw [Bool.not_eq_true'];exact beq_eq_false_iff_ne.mpr h0
    have go:∀ o,(qO (QW (vTB (qH gGt (qJ QN (qA (qB 7) qD)) (qJ QN (qA (qB 1) qD)))) (Zb 2 3 4 (qA (qB 1) (qA (qB 6) (qA (vC (.int 0)) qD)))) QQ) (qS 1 (qB 7))) [some (.ref j),some (qr s.nb),some (qr s.old),some (.int s.og),some (.int (s.bk + 1)),some (.int (t:Int)),some (.int gap),some (qr b)] S=o->snB a [some (.ref j),some (qr s.nb),some (qr s.old),some (.int s.og),some (.int s.bk),some (.int (t:Int)),x6,x7] S=o:=fun o ho =>
     st1 o (ZS (zi (qb rfl rfl (by rw [JJ,ec]))) (qW (Qu (qT (l:=[qr s.nb,.int gap,qr s.old,.int s.og,.int (s.bk + 1)]) rfl e2)) ho))
    have eg:vTB (qH gGt (qJ QN (qA (qB 7) qD)) (qJ QN (qA (qB 1) qD))) [some (.ref j),some (qr s.nb),some (qr s.old),some (.int s.og),some (.int (s.bk + 1)),some (.int (t:Int)),some (.int gap),some (qr b)] S = .ok (decide ((b.length:Int) > (s.nb.length:Int))) S :=
     zi (qb (qT (l:=[qr b]) rfl qB4) (qT (l:=[qr s.nb]) rfl qB4) qJk)
    by_cases hl:s.nb.length < b.length
    ·rw [if_pos hl] at h
     cases h
     rw [decide_eq_true (by omega)] at eg
     exact ⟨some (.int gap),some (qr b),go _ (qW (ZS eg (qHa (p:=qr s.nb) (q := .int gap) (z := .int 0) (s1:=S) rfl)) (Qu rfl))⟩
    ·rw [if_neg hl] at h
     cases h
     rw [decide_eq_false (by omega)] at eg
     exact ⟨some (.int gap),some (qr b),go _ (qW (wG eg rfl) (Qu rfl))⟩
   ·cases h
 ·cases h
theorem qCK {a:Ad} {S:qC} {j:Nat} {cs:List Int} (C:Cs S j cs):∀ (ts:List Nat) (s s':BS) (x5 x6 x7:Option PV),(∀ t∈ts,t < 201)->bmR cs ts s=some s' -> ∃ y5 y6 y7,qy (fun _=>True) (qz 5) (snB a) (ts.map fun (t:Nat)=>PV.int (t:Int)) [some (.ref j),some (qr s.nb),some (qr s.old),some (.int s.og),some (.int s.bk),x5,x6,x7] S = .nx [some (.ref j),some (qr s'.nb),some (qr s'.old),some (.int s'.og),some (.int s'.bk),y5,y6,y7] S
 |[],s,s',x5,x6,x7,_,h=>by cases h;exact ⟨x5,x6,x7,QU trivial⟩
 |t::ts,s,s',x5,x6,x7,ht,h=>by
  unfold bmR at h
  split at h
  ·rename_i s1 h1
   obtain ⟨y6,y7,e1⟩:=qGp (a:=a) C (ht t List.mem_cons_self) h1 (x6:=x6) (x7:=x7)
   obtain ⟨z5,z6,z7,e2⟩:=qCK C ts s1 s' (some (.int (t:Int))) y6 y7 (fun q hq=>ht q (List.mem_cons_of_mem _ hq)) h
   exact ⟨z5,z6,z7,Wl trivial rfl e1 e2⟩
  ·cases h
theorem qAt (n:Nat):zg (n:Int)=(List.range n).map fun (i:Nat)=>(i:Int):=by unfold zg;rw [Int.toNat_natCast]
theorem qJy {a:Ad} {S:qC} {j:Nat} {cs:List Int} (C:Cs S j cs) {s:BS} (h:bmR cs (List.range 201) ⟨[1],[1],1,0⟩=some s):wZ a [.ref j] S = .ok (qr s.nb) S:=by
 obtain ⟨y5,y6,y7,e⟩:=qCK (a:=a) C (List.range 201) ⟨[1],[1],1,0⟩ s none none none (fun t ht=>List.mem_range.mp ht) h
 have ei:((zg 201).map PV.int)=(List.range 201).map fun (t:Nat)=>PV.int (t:Int):=by
  rw [show (201:Int)=((201:Nat):Int) from rfl,qAt,List.map_map];rfl
 refine wS rfl ?_
 unfold wd
 refine qW (Qu (p:=qr [1]) rfl) (qW (Qu (p:=qr [1]) rfl) (qW (Qu rfl) (qW (Qu rfl) ?_)))
 refine qW (r':=[some (.ref j),some (qr s.nb),some (qr s.old),some (.int s.og),some (.int s.bk),y5,y6,y7]) (s1:=S) (ZG (itN (L:=201) (by decide) (by decide) (qY (qT (l:=[.ref j]) rfl (Zg (qB3 C.at_) (by rw [List.length_map,C.n];rfl))) QG)) ?_) (Wi rfl)
 rw [ei];exact e
structure Rf (w L:Int) (cs ns:List Int) (s:BS):Prop where
 bm:bmR cs (List.range 201) ⟨[1],[1],1,0⟩=some s
 rl:Zu [some (.int w),some (.int L),some (qr s.nb)]=some (.rt (.tup (ns.map PV.int)))
 lo:1≤ns.length
 N:Nn ns 40
 is:qE1 ns cs=true
 ap:apO ns.length (List.range ns.length) 1 (yI cs ns.length)=true
theorem qGe {o:Option CR} {l:List Int} (h:qIr o=some l):o=some (.rt (.tup (l.map PV.int))):=by
 unfold qIr at h
 split at h
 ·rw [Yk h]
 ·cases h
theorem qKr {w L:Int} {cs:List Int} (h:qG1 w L cs=true):∃ ns s,Rf w L cs ns s:=by
 unfold qG1 at h
 split at h
 ·rename_i s hs
  split at h
  ·rename_i ns hn
   unfold okR at h
   rw [Bool.and_eq_true,Bool.and_eq_true,Bool.and_eq_true] at h
   exact ⟨ns,s,hs,qGe hn,Nat.le_of_ble_eq_true h.1.1,qFd h.1.2,h.2.1,h.2.2⟩
  ·cases h
 ·cases h
theorem qFM {l:List Int} (h:l.length=200):qEa l 200=(1::l).map PV.int:=by
 unfold qEa
 rw [show ((200:Int).toNat)=200 from rfl,List.take_of_length_le (by omega)]
theorem qEF {w L:Int} {l:List Int} (F:Fct w L l) {S:qC} {j:Nat} (h:S[j]? = some (.l (qEa l 200))):Cs S j (1::l) :=
 ⟨by rw [h,qFM F.n],by rw [List.length_cons,F.n]⟩
theorem qCD {a:Ad} {w L:Int} {l ns:List Int} {s:BS} {st:qC} (m1:w∈R1) (m2:L∈R2) (F:Fct w L l) (R:Rf w L (1::l) ns s):∃ g,W8 a [.int w,.int L] st = .ok (.tup (ns.map PV.int)) (st++g):=by
 obtain ⟨j,g,e1,e2,_⟩:=qFa (a:=a) (st:=st) (c:=200) m1 m2 ⟨by decide,by decide⟩ F
 refine ⟨g,wS rfl ?_⟩
 show qO _ (jC a) _ _=_
 refine qW (Qu (p:=qr s.nb) (s1:=st++g) (qT (l:=[.ref j]) (qY (qT (l:=[.int w,.int L,.int 200]) rfl e1) QG) (qJy (qEF F e2) R.bm))) ?_
 exact qCo (a:=a) [some (.int w),some (.int L),some (qr s.nb)] _ R.rl (st++g)
theorem qFK {a:Ad} {p q z:PV} {st s1:qC} (e:W8 a [p,q] st = .ok z s1):QD a [p,q] st = .ok z s1:=by
 refine wS rfl ?_
 unfold Wp Jq
 rw [Wi (qT (l:=[p,q]) (s1:=st) rfl e)]
theorem qI2 {i:Nat} {f:FE} {r:qf} {st s1:qC} {x:Exc} (h:f r st = .ex x s1):qS i f r st = .ex x s1:=by unfold qS;rw [h];rfl
theorem qGr {f:FE} {fa:FA} {r:qf} {st s1:qC} {x:Exc} (h:f r st = .ex x s1):qA f fa r st = .ex x s1:=by unfold qA;rw [h];rfl
theorem qJS {k:List PV->qC->Rs PV} {fa:FA} {r:qf} {st s1:qC} {x:Exc} (h:fa r st = .ex x s1):qJ k fa r st = .ex x s1:=by unfold qJ;rw [h];rfl
theorem qEV {a:Ad} {p q z:PV} {st:qC} {x:Exc} (e:Qr a [p,q,.int 200] st = .ex x st) (hx:x.cls∈Qa a) (h:We a [.exc x.cls x.fs] st = .ok z st):QD a [p,q] st = .ok z st:=by
 have er:W8 a [p,q] st = .ex x st:=by
  refine Z0 rfl ?_
  unfold Zw
  refine Ya (qI2 ?_)
  exact qJS (qGr (yh (l:=[p,q,.int 200]) rfl e))
 refine wS rfl ?_
 unfold Wp Jq
 rw [qFc (yh (l:=[p,q]) (s1:=st) rfl er)]
 dsimp only
 rw [if_pos hx,Wi (p:=z) (s1:=st) (qT (l:=[.exc x.cls x.fs]) (s1:=st) rfl h)]
theorem qER {a:Ad} {st:qC} {n:Nat} {i:Int}:Qm (n + 1) a [.int i,.int i] st = .ok (.bl true) st:=by
 refine wS (N:=2) (B:=WF a (Qm n a)) rfl ?_
 unfold WF
 refine qW (wG (zJ (qT (l:=[.int i,.tup [.ty "tuple",.ty "list"]]) rfl rfl)) rfl) (Wi ?_)
 unfold JY
 rw [qb (p := .int i) (q := .int i) (s1:=st) (s2:=st) (R := .ok (.bl true) st) rfl rfl (by rw [j6,beq_self_eq_true])]
 rfl
theorem Jl:∀ ns:List Int,W7 (ns.map PV.int) (ns.map PV.int)=ns.map fun i=>PV.tup [.int i,.int i]
 |[]=>rfl
 |i::ns=>by rw [List.map_cons,W7,Jl ns];rfl
theorem qFP {a:Ad} {st:qC} {n:Nat} {ns:List Int} (h:ns.length≤1000):Qm (n + 2) a [.tup (ns.map PV.int),.tup (ns.map PV.int)] st = .ok (.bl true) st:=by
 refine wS (N:=2) (B:=WF a (Qm (n + 1) a)) rfl ?_
 unfold WF
 refine Jn (ZS (zJ (qT (l:=[.tup (ns.map PV.int),.tup [.ty "tuple",.ty "list"]]) rfl rfl)) (qW (wG (yy (zi (qb (qT (l:=[.tup (ns.map PV.int),.ty "tuple"]) rfl rfl) (qT (l:=[.tup (ns.map PV.int),.ty "tuple"]) rfl rfl) rfl)) (zi (qb (qT (l:=[.tup (ns.map PV.int),.ty "list"]) rfl rfl) (qT (l:=[.tup (ns.map PV.int),.ty "list"]) rfl rfl) rfl))) rfl) (Wi ?_)))
 unfold JY
 rw [qb (p := .int (ns.length:Int)) (q := .int (ns.length:Int)) (s1:=st) (s2:=st) (R := .ok (.bl true) st) (qT (l:=[.tup (ns.map PV.int)]) rfl (Zg (l:=ns.map PV.int) rfl (by rw [List.length_map]))) (qT (l:=[.tup (ns.map PV.int)]) rfl (Zg (l:=ns.map PV.int) rfl (by rw [List.length_map]))) (by rw [j6,beq_self_eq_true])]
 show qJ jy _ _ _=_
 refine qT (l:=[.lst ((ns.map fun i=>PV.tup [.int i,.int i]).map fun _=>PV.bl true)]) (qY (qBk (WC (w:=⟨ns.map fun i=>PV.tup [.int i,.int i],fun s=>wt s (.tup (ns.map PV.int))=some (ns.map PV.int)∧wt s (.tup (ns.map PV.int))=some (ns.map PV.int)⟩) (F:=fun _ => .bl true) (by rw [← Jl];rfl) ⟨rfl,rfl⟩ (by rw [List.length_map];exact Nat.le_trans h (by decide)) fun p hp => ?_)) QG) ?_
 ·obtain ⟨i,_,rfl⟩:=List.mem_map.mp hp
  exact ⟨[some (.int i),some (.int i)],rfl,qT (l:=[.int i,.int i]) rfl qER⟩
 ·unfold jy yj
  simp only [asL]
  rw [YL]
  show Rs.ok (PV.bl (((ns.map fun i=>PV.tup [.int i,.int i]).map fun _=>true).all id)) st=_
  congr 2
  rw [List.all_eq_true]
  intro b hb
  obtain ⟨_,_,rfl⟩:=List.mem_map.mp hb
  rfl
theorem itR {lo hi:Int} {r:qf} {st s1:qC} {f:FA} (h1:0≤lo) (h2:lo≤1000) (h3:0≤hi) (h4:hi≤1000) (hf:f r st = .ok [.int lo,.int hi] s1):(ZM f) r st = .ok ⟨yt lo hi,fun _=>True⟩ s1:=by
 unfold ZM
 rw [hf]
 show ja [.int lo,.int hi] s1=_
 unfold ja
 dsimp only
 rw [if_pos ⟨by omega,by omega,by omega,by omega⟩]
def ofN (l:List Nat):List PV:=l.map fun (t:Nat)=>PV.int (t:Int)
theorem qBe {n m:Nat} (h:n≤300) (hm:m≤300) {r:qf} {S:qC} {f:FA} (e:f r S = .ok [.int (n:Int),.int (m:Int)] S):ZM f r S = .ok ⟨ofN ((List.range (m - n)).map fun i=>n + i),fun _=>True⟩ S:=by
 rw [itR (by omega) (by omega) (by omega) (by omega) e]
 congr 2
 unfold yt ofN
 rw [show ((m:Int) - (n:Int)).toNat=m - n by omega,List.map_map]
 refine List.map_congr_left fun i _ => ?_
 show PV.int ((n:Int) + (i:Int))=PV.int ((n + i:Nat):Int)
 rw [Int.natCast_add]
theorem j9 {n:Nat} (h:n≤300) {r:qf} {S:qC} {f:FA} (e:f r S = .ok [.int (n:Int)] S):wg f r S = .ok ⟨ofN (List.range n),fun _=>True⟩ S:=by
 rw [itN (by omega) (by omega) e,qAt]
 unfold ofN
 rw [List.map_map];rfl
theorem qAY {a:Ad} {i:Int} {st:qC}:Wt a [.int i] st = .ok (.bl true) st:=rfl
theorem qA3 {a:Ad} {ns:List Int} {r:qf} {st:qC} {i:Nat} (hr:r[i]? = some (some (.tup (ns.map PV.int)))) (h:ns.length≤40) :
  qJ jy (qA (vFz (qw [] 1 (Q9 (qB i)) (Qh 0) [] [] (qJ (Wt a) (qA (qB 0) qD)))) qD) r st = .ok (.bl true) st:=by
 refine qT (l:=[.lst ((ns.map PV.int).map fun _ => .bl true)]) (qY (qBk (WC (w:=⟨ns.map PV.int,fun _=>True⟩) (F:=fun _ => .bl true) (yp (wu hr)) trivial (by rw [List.length_map];exact Nat.le_trans h (by decide)) fun p hp=>by
  obtain ⟨x,_,rfl⟩:=List.mem_map.mp hp
  exact ⟨[some (.int x)],rfl,qT (l:=[.int x]) rfl qAY⟩)) QG) ?_
 unfold jy yj
 simp only [asL]
 rw [YL]
 show Rs.ok (PV.bl (((ns.map PV.int).map fun _=>true).all id)) st=_
 congr 2
 rw [List.all_eq_true]
 intro b hb
 obtain ⟨_,_,rfl⟩:=List.mem_map.mp hb
 rfl
theorem qEW {n:Int} {r:qf} {st:qC} {f g h:FE} (e1:f r st = .ok (.int 1) st) (e2:g r st = .ok (.int n) st) (e3:h r st = .ok (.int 40) st) (h1:1≤n) (h2:n≤40):ZO gLe gLe f g h r st = .ok (.bl true) st:=by
 unfold ZO
 rw [e1]
 show (g r st).bind _=_
 rw [e2]
 show ((gLe (.int 1) (.int n) st).bind fun z s3=>match z with | .bl true=>(h r s3).bind fun q s=>gLe (.int n) q s | .bl false=>Rs.ok (.bl false) s3 |_ => .no)=_
 rw [qDx h1]
 show (h r st).bind _=_
 rw [e3]
 exact qDx h2
noncomputable def lrB:FS:=(QW (vTB (qH gNe (qH gIx (qB 0) (qB 3)) (qJ Yr (qA (vFz (qw [1,0,3] 1 (wg (qA (qB 2) qD)) (Qh 3) [] [] (qH wI (qH gIx (qB 0) (qB 3)) (qH gIx (qB 1) (qH wV (qH wV (qB 2) (vC (.int 1))) (qB 3)))))) qD)))) (qg (vC (.bl false))) QQ)
theorem qHm {S:qC} {j:Nat} {ns cs:List Int} (C:Cs S j cs) (N:Nn ns 40) {t:Nat} (h1:ns.length≤t) (h2:t < 201) :
  qJ Yr (qA (vFz (qw [1,0,3] 1 (wg (qA (qB 2) qD)) (Qh 3) [] [] (qH wI (qH gIx (qB 0) (qB 3)) (qH gIx (qB 1) (qH wV (qH wV (qB 2) (vC (.int 1))) (qB 3)))))) qD) [some (.ref j),some (.tup (ns.map PV.int)),some (.int (ns.length:Int)),some (.int (t:Int))] S = .ok (.int (dot ns cs (t - 1))) S:=by
 have hi:=N.hi
 let F:PV->PV:=fun p=>match p with | .int k => .int (ns.getD k.toNat 0 * cs.getD (t - 1 - k.toNat) 0) |_ => .non
 have hm:(ofN (List.range ns.length)).map F=((List.range ns.length).map fun k=>ns.getD k 0 * cs.getD (t - 1 - k) 0).map PV.int:=by
  unfold ofN
  rw [List.map_map,List.map_map]
  refine List.map_congr_left fun i _ => ?_
  show PV.int (ns.getD ((i:Int)).toNat 0 * cs.getD (t - 1 - ((i:Int)).toNat) 0)=PV.int (ns.getD i 0 * cs.getD (t - 1 - i) 0)
  rw [Int.toNat_natCast]
 refine qT (l:=[.lst (((List.range ns.length).map fun k=>ns.getD k 0 * cs.getD (t - 1 - k) 0).map PV.int)]) (qY (qBk ?_) QG) qEs
 rw [← hm]
 refine WC (w:=⟨ofN (List.range ns.length),fun _=>True⟩) (F:=F) (j9 (by omega) rfl) trivial (by unfold ofN;rw [List.length_map,List.length_range];exact Nat.le_trans hi (by decide)) fun p hp => ?_
 obtain ⟨i,hi',rfl⟩:=List.mem_map.mp hp
 have hi':=List.mem_range.mp hi'
 refine ⟨[some (.tup (ns.map PV.int)),some (.ref j),some (.int (t:Int)),some (.int (i:Int))],rfl,?_⟩
 have e1:gIx (.tup (ns.map PV.int)) (.int (i:Int)) S = .ok (.int (ns.getD i 0)) S:=by
  have:=JX (l:=ns) (L:=(ns.length:Int)) (i:=(i:Int)) (by omega) (by omega) (by omega)
  rw [Int.toNat_natCast] at this
  exact qD8 rfl this
 have ei:((t:Int) - 1 - (i:Int)).toNat=t - 1 - i:=by omega
 have e2:=qEd C (i:=(t:Int) - 1 - (i:Int)) (by omega) (by omega)
 rw [ei] at e2
 refine qb (qb rfl rfl e1) (qb rfl (qb (qb rfl rfl Z7) rfl Z7) e2) ?_
 rw [jq (N.b _ (qE9 hi'))]
 show _=Rs.ok (PV.int (ns.getD ((i:Int)).toNat 0 * cs.getD (t - 1 - ((i:Int)).toNat) 0)) S
 rw [Int.toNat_natCast]
theorem qBx {S:qC} {j:Nat} {ns cs:List Int} (C:Cs S j cs) (N:Nn ns 40):∀ (ts:List Nat) (x3:Option PV),(∀ t∈ts,ns.length≤t∧t < 201)->(ts.all fun t=>dot ns cs (t - 1)==cs.getD t 0)=true ->
  ∃ y3,qy (fun _=>True) (qz 3) lrB (ofN ts) [some (.ref j),some (.tup (ns.map PV.int)),some (.int (ns.length:Int)),x3] S = .nx [some (.ref j),some (.tup (ns.map PV.int)),some (.int (ns.length:Int)),y3] S
 |[],x3,_,_=>⟨x3,QU trivial⟩
 |t::ts,x3,h,ha=>by
  have ht:=h t List.mem_cons_self
  rw [List.all_cons,Bool.and_eq_true] at ha
  have e1:=qHm C N ht.1 ht.2
  rw [eq_of_beq ha.1] at e1
  have e2:=qEd C (i:=(t:Int)) (by omega) (by omega)
  rw [Int.toNat_natCast] at e2
  have eb:lrB [some (.ref j),some (.tup (ns.map PV.int)),some (.int (ns.length:Int)),some (.int (t:Int))] S = .nx [some (.ref j),some (.tup (ns.map PV.int)),some (.int (ns.length:Int)),some (.int (t:Int))] S:=wG (zi (qb (qb rfl rfl e2) e1 (by rw [JJ,beq_self_eq_true];rfl))) rfl
  obtain ⟨y,p⟩:=qBx C N ts (some (.int (t:Int))) (fun q hq=>h q (List.mem_cons_of_mem _ hq)) ha.2
  exact ⟨y,Wl trivial rfl eb p⟩
theorem qGh {a:Ad} {S:qC} {j:Nat} {ns cs:List Int} (C:Cs S j cs) (lo:1≤ns.length) (N:Nn ns 40) (hr:qE1 ns cs=true):WP a [.ref j,.tup (ns.map PV.int)] S = .ok (.bl true) S:=by
 have hi:=N.hi
 refine wS rfl ?_
 unfold W3
 have e1:Qf (kit a) [.tup (ns.map PV.int),.ty "tuple"] S = .ok (.bl true) S:=rfl
 have el:qJ QN (qA (qB 1) qD) (Qv 4 [.ref j,.tup (ns.map PV.int)]) S = .ok (.int (ns.length:Int)) S:=qT (l:=[.tup (ns.map PV.int)]) rfl (Zg (l:=ns.map PV.int) rfl (by rw [List.length_map]))
 have e2:ZO gLe gLe (vC (.int 1)) (qJ QN (qA (qB 1) qD)) (vC (.int 40)) (Qv 4 [.ref j,.tup (ns.map PV.int)]) S = .ok (.bl true) S:=by
  exact qEW rfl el rfl (by omega) (by omega)
 have e3:=qA3 (a:=a) (ns:=ns) (r:=Qv 4 [.ref j,.tup (ns.map PV.int)]) (st:=S) (i:=1) rfl hi
 refine qW (wG (yy (w_not (b:=true) (zJ (qT (l:=[.tup (ns.map PV.int),.ty "tuple"]) rfl e1))) (yy (w_not (b:=true) (zi e2)) (w_not (b:=true) (zJ e3)))) rfl) ?_
 refine qW (Qu (p := .int (ns.length:Int)) (s1:=S) el) ?_
 obtain ⟨y,p⟩:=qBx C N ((List.range (201 - ns.length)).map fun i=>ns.length + i) none (fun t ht=>by
  obtain ⟨i,hi',rfl⟩:=List.mem_map.mp ht
  have:=List.mem_range.mp hi'
  omega) hr
 exact qW (ZG (qBe (n:=ns.length) (m:=201) (by omega) (by omega) rfl) p) (Wi rfl)
def ZD (rows:List (List Int)):List PV:=rows.map qr
abbrev sR (st:qC) (rows:List (List Int)):qC:=st++[.l (ZD rows)]
theorem qFf {l:List PV} {i:Nat} {p:PV} (h:l[i]? = some p):L2.atI l (i:Int)=some p:=by
 have hi:=(List.getElem?_eq_some_iff.mp h).1
 unfold L2.atI L2.ixN
 rw [if_pos (by omega),if_pos (by omega)]
 show l[((i:Int)).toNat]? = _
 rw [Int.toNat_natCast];exact h
theorem qA7 {n:Nat} {rows:List (List Int)} (h:sq n rows=true):rows.length=n:=by
 unfold sq at h
 rw [Bool.and_eq_true] at h
 exact Nat.eq_of_beq_eq_true h.1
theorem JB {n:Nat} {rows:List (List Int)} (h:sq n rows=true) {i:Nat} (hi:i < n):(rows.getD i []).length=n∧rows[i]? = some (rows.getD i []):=by
 have hl:=qA7 h
 have e:rows[i]? = some (rows[i]'(by omega)):=List.getElem?_eq_getElem _
 have e2:rows.getD i []=rows[i]'(by omega):=by rw [List.getD_eq_getElem?_getD,e];rfl
 unfold sq at h
 rw [Bool.and_eq_true,List.all_eq_true] at h
 rw [e2]
 exact ⟨Nat.eq_of_beq_eq_true (h.2 _ (List.getElem_mem _)),e⟩
section
variable {n:Nat} {rows:List (List Int)} {st:qC}
theorem YI (h:sq n rows=true) {i:Nat} (hi:i < n):gIx (.ref st.length) (.int (i:Int)) (sR st rows) = .ok (qr (rows.getD i [])) (sR st rows) :=
 qD8 (qB3 (mid rfl)) (qFf (by unfold ZD;rw [List.getElem?_map,(JB h hi).2];rfl))
theorem qIE {r:List Int} {j:Nat} (hj:j < r.length) {S:qC}:gIx (qr r) (.int (j:Int)) S = .ok (.int (r.getD j 0)) S:=by
 have:=qDy (l:=r) (L:=(r.length:Int)) (i:=(j:Int)) (st:=S) (by omega) (by omega) (by omega)
 rw [Int.toNat_natCast] at this
 exact this
theorem yc (h:sq n rows=true) {i j:Nat} (hi:i < n) (hj:j < n) {fo fi fj:FE} {r:qf} (e1:fo r (sR st rows) = .ok (.ref st.length) (sR st rows)) (e2:fi r (sR st rows) = .ok (.int (i:Int)) (sR st rows)) (e3:fj r (sR st rows) = .ok (.int (j:Int)) (sR st rows)) :
  qH gIx (qH gIx fo fi) fj r (sR st rows) = .ok (.int (at2 rows i j)) (sR st rows) :=
 qb (qb e1 e2 (YI h hi)) e3 (qIE (by rw [(JB h hi).1];exact hj))
theorem JN (h:sq n rows=true) {i:Nat} (hi:i < n) {r:List Int}:w9 (sR st rows) (.ref st.length) (.int (i:Int)) (qr r)=some (sR st (rows.set i r)):=by
 have hl:=qA7 h
 show w9 (st ++ .l (ZD rows)::[]) _ _ _=some (st ++ .l (ZD (rows.set i r))::[])
 rw [qGF (j:=i) (mid rfl) (by rw [qFx (by omega) (by unfold ZD;rw [List.length_map];omega),Int.toNat_natCast]),yY rfl]
 unfold ZD
 rw [List.map_set]
end
theorem qIZ {i j:Int} {st:qC} (h:qEX j=true):zj (.int i) (.int j) st = .ok (.int (i.fdiv j)) st:=by
 unfold qEX at h
 rw [Bool.and_eq_true] at h
 unfold zj gI;dsimp only;rw [if_pos ⟨of_decide_eq_true h.1,of_decide_eq_true h.2⟩]
def nrF (lead here ahead:Int):PV->PV
 | .tup [.int x,.int y] => .int ((lead * x - here * y).fdiv ahead)
 |_ => .non
theorem qB6 {lead here ahead:Int}:∀ r1 r2:List Int,(W7 (r1.map PV.int) (r2.map PV.int)).map (nrF lead here ahead)=(qGd lead here ahead r1 r2).map PV.int
 |[],r2=>by cases r2 <;> rfl
 |x::r1,[]=>rfl
 |x::r1,y::r2=>by
  unfold qGd
  rw [List.zipWith_cons_cons,List.map_cons,List.map_cons,List.map_cons,W7,List.map_cons,qB6 r1 r2]
  rfl
theorem qCQ:∀ {r1 r2:List Int} {p:PV},p∈W7 (r1.map PV.int) (r2.map PV.int) -> ∃ x y,p = .tup [.int x,.int y]
 |[],r2,p,h=>by cases r2 <;> cases h
 |x::r1,[],p,h=>by cases h
 |x::r1,y::r2,p,h=>by
  rw [List.map_cons,List.map_cons,W7] at h
  rcases List.mem_cons.mp h with rfl |h
  ·exact ⟨x,y,rfl⟩
  ·exact qCQ h
theorem qCW:∀ (l m:List PV),(W7 l m).length≤l.length
 |[],m=>by cases m <;> exact Nat.le_refl _
 |x::l,[]=>Nat.zero_le _
 |x::l,y::m=>by rw [W7,List.length_cons,List.length_cons];exact Nat.succ_le_succ (qCW l m)
theorem qIS {st:qC} {n t k:Nat} {rows:List (List Int)} {ahead lead here:Int} {x2 x4:Option PV} (hn:n≤40) (h:sq n rows=true) (ht:t < n) (hk:k < n) (ha:qEX ahead=true) (h1:sm lead=true) (h2:sm here=true) :
  vFz (qw [1,6,7] 2 (zy (qA (qH gIx (qB 0) (qB 5)) (qA (qH gIx (qB 0) (qB 3)) qD))) (Zo 2 (Q5 (Qh 3) (Q5 (Qh 4) Zt))) [] [] (qH zj (qH wV (qH wI (qB 1) (qB 3)) (qH wI (qB 2) (qB 4))) (qB 0))) [some (.ref st.length),some (.int ahead),x2,some (.int (t:Int)),x4,some (.int (k:Int)),some (.int lead),some (.int here)] (sR st rows) = .ok (qr (qGd lead here ahead (rows.getD k []) (rows.getD t []))) (sR st rows):=by
 unfold qr
 rw [← qB6]
 refine qBk (WC (w:=⟨W7 ((rows.getD k []).map PV.int) ((rows.getD t []).map PV.int),fun s=>wt s (qr (rows.getD k []))=some ((rows.getD k []).map PV.int)∧wt s (qr (rows.getD t []))=some ((rows.getD t []).map PV.int)⟩) (F:=nrF lead here ahead) ?_ ⟨rfl,rfl⟩ (Nat.le_trans (qCW _ _) (by rw [List.length_map,(JB h hk).1];exact Nat.le_trans hn (by decide))) fun p hp => ?_)
 ·have ec:qA (qH gIx (qB 0) (qB 5)) (qA (qH gIx (qB 0) (qB 3)) qD) [some (.ref st.length),some (.int ahead),x2,some (.int (t:Int)),x4,some (.int (k:Int)),some (.int lead),some (.int here)] (sR st rows) = .ok [qr (rows.getD k []),qr (rows.getD t [])] (sR st rows):=qY (qb rfl rfl (YI h hk)) (qY (qb rfl rfl (YI h ht)) QG)
  unfold zy
  rw [ec]
  rfl
 ·obtain ⟨x,y,rfl⟩:=qCQ hp
  refine ⟨[some (.int ahead),some (.int lead),some (.int here),some (.int x),some (.int y)],rfl,?_⟩
  exact qb (qb (qb rfl rfl (jq (of_decide_eq_true h1))) (qb rfl rfl (jq (of_decide_eq_true h2))) Z7) rfl (qIZ ha)
noncomputable def qHB:FS:=(qO (qAh (wY (qA (qH gIx (qH gIx (qB 0) (qB 3)) (qB 3)) (qA (qH gIx (qH gIx (qB 0) (qB 5)) (qB 3)) qD))) (Zo 2 (Q5 (qz 6) (Q5 (qz 7) Zt)))) (YN (qB 0) (qB 5) (vFz (qw [1,6,7] 2 (zy (qA (qH gIx (qB 0) (qB 5)) (qA (qH gIx (qB 0) (qB 3)) qD))) (Zo 2 (Q5 (Qh 3) (Q5 (Qh 4) Zt))) [] [] (qH zj (qH wV (qH wI (qB 1) (qB 3)) (qH wI (qB 2) (qB 4))) (qB 0))))))
theorem qB1 {st:qC} {n t:Nat} {ahead:Int} {x2 x4:Option PV} (hn:n≤40) (ht:t < n) (ha:qEX ahead=true):∀ (ks:List Nat) (rows rows':List (List Int)) (x5 x6 x7:Option PV),(∀ k∈ks,k < n)->qF5 n t ahead ks rows=some rows' ->
  ∃ y5 y6 y7,qy (fun _=>True) (qz 5) qHB (ofN ks) [some (.ref st.length),some (.int ahead),x2,some (.int (t:Int)),x4,x5,x6,x7] (sR st rows) = .nx [some (.ref st.length),some (.int ahead),x2,some (.int (t:Int)),x4,y5,y6,y7] (sR st rows')
 |[],rows,rows',x5,x6,x7,_,h=>by cases h;exact ⟨x5,x6,x7,QU trivial⟩
 |k::ks,rows,rows',x5,x6,x7,hk,h=>by
  unfold qF5 at h
  split at h
  ·rename_i hq
   rw [Bool.and_eq_true,Bool.and_eq_true] at hq
   have hk0:=hk k List.mem_cons_self
   obtain ⟨y5,y6,y7,e⟩:=qB1 (st:=st) (x2:=x2) (x4:=x4) hn ht ha ks _ rows' (some (.int (k:Int))) (some (.int (at2 rows t t))) (some (.int (at2 rows k t))) (fun q hq=>hk q (List.mem_cons_of_mem _ hq)) h
   refine ⟨y5,y6,y7,Wl trivial rfl ?_ e⟩
   refine qW (qJw (p := .tup [.int (at2 rows t t),.int (at2 rows k t)]) (s1:=sR st rows) (ZL (qY (yc hq.1 ht ht rfl rfl rfl) (qY (yc hq.1 hk0 ht rfl rfl rfl) QG)) (sz rfl)) rfl) ?_
   exact qKg (qIS hn hq.1 ht hk0 ha hq.2.1 hq.2.2) rfl rfl (JN hq.1 hk0)
  ·cases h
theorem qHF:∀ u:List Nat,nrs (ofN u)=true
 |[]=>rfl
 |x::u=>by show nrs (PV.int (x:Int)::ofN u)=true;rw [nrs,qHF u];rfl
theorem qDb:∀ u:List Nat,deps (ofN u)=0
 |[]=>rfl
 |x::u=>by show deps (PV.int (x:Int)::ofN u)=0;rw [deps,qDb u];rfl
theorem qIx {k:Nat} {u:List Nat} {S:qC}:gEq (.lst (ofN (k::u))) (.lst []) S = .ok (.bl false) S:=by
 unfold gEq
 rw [show res S (.lst (ofN (k::u))) = .lst (ofN (k::u)) from rfl,show res S (.lst []) = .lst [] from rfl,if_pos (by unfold qBn;rw [nr,qHF,dep,qDb];rfl)]
 rfl
theorem Jc {k:Nat} {u:List Nat} {S:qC}:gIx (.lst (ofN (k::u))) (.int 0) S = .ok (.int (k:Int)) S:=qD8 (l:=ofN (k::u)) rfl (qFf (i:=0) rfl)
theorem qJc {f o1 i1 o2 i2:FE} {r:qf} {st s s1 s2 s3 s4 s5 s6:qC} {p q o i o' i':PV} (h:f r st = .ok (.tup [p,q]) s) (h1:o1 r s = .ok o s1) (h2:i1 r s1 = .ok i s2) (h3:w9 s2 o i p=some s3) (h4:o2 r s3 = .ok o' s4) (h5:i2 r s4 = .ok i' s5) (h6:w9 s5 o' i' q=some s6):yv f o1 i1 o2 i2 r st = .nx r s6:=by
 unfold yv
 rw [h]
 show ((o1 r s).bindS _)=_
 rw [h1]
 show ((i1 r s1).bindS _)=_
 rw [h2]
 show (match w9 s2 o i p with |some s3=>_ |none=>_)=_
 rw [h3]
 show ((o2 r s3).bindS _)=_
 rw [h4]
 show ((i2 r s4).bindS _)=_
 rw [h5]
 show (match w9 s5 o' i' q with |some s6=>_ |none=>_)=_
 rw [h6]
def flC (rows:List (List Int)) (t:Nat):PV->Bool
 | .int k=>at2 rows k.toNat t != 0
 |_=>false
theorem YQ {rows:List (List Int)} {t:Nat}:∀ u:List Nat,(ofN u).filter (flC rows t)=ofN (u.filter fun k=>at2 rows k t != 0)
 |[]=>rfl
 |k::u=>by
  show (PV.int (k:Int)::ofN u).filter (flC rows t)=_
  rw [List.filter_cons,List.filter_cons,YQ u]
  have:flC rows t (.int (k:Int))=(at2 rows k t != 0):=by show (at2 rows ((k:Int)).toNat t != 0)=_;rw [Int.toNat_natCast]
  rw [this]
  cases (at2 rows k t != 0) <;> rfl
theorem qGA {st:qC} {n t:Nat} {rows:List (List Int)} {x1 x4 x5 x6 x7:Option PV} (hn:n≤40) (h:sq n rows=true) (ht:t < n) :
  vFz (qw [3,0] 1 (ZM (qA (qB 3) (qA (qB 2) qD))) (Qh 2) [(vTB (qH gNe (qH gIx (qH gIx (qB 1) (qB 2)) (qB 0)) (vC (.int 0))))] [] (qB 2)) [some (.ref st.length),x1,some (.int (n:Int)),some (.int (t:Int)),x4,x5,x6,x7] (sR st rows) = .ok (.lst (ofN (Yc n t rows))) (sR st rows):=by
 unfold Yc
 rw [← YQ]
 refine qBk (j0 (w:=⟨ofN ((List.range (n - t)).map fun i=>t + i),fun _=>True⟩) (c:=flC rows t) (qBe (by omega) (by omega) rfl) trivial (by unfold ofN;rw [List.length_map,List.length_map,List.length_range];exact Nat.le_trans (Nat.sub_le n t) (Nat.le_trans hn (by decide))) fun p hp => ?_)
 obtain ⟨k,hk,rfl⟩:=List.mem_map.mp hp
 obtain ⟨i,hi,rfl⟩:=List.mem_map.mp hk
 have hi:=List.mem_range.mp hi
 refine ⟨[some (.int (t:Int)),some (.ref st.length),some (.int ((t + i:Nat):Int))],rfl,?_,rfl⟩
 have:=yc (st:=st) h (i:=t + i) (j:=t) (by omega) ht (fo:=qB 1) (fi:=qB 2) (fj:=qB 0) (r:=[some (.int (t:Int)),some (.ref st.length),some (.int ((t + i:Nat):Int))]) rfl rfl rfl
 refine zi (qb this rfl ?_)
 rw [JJ]
 show _=Rs.ok (PV.bl (at2 rows (((t + i:Nat):Int)).toNat t != 0)) _
 rw [Int.toNat_natCast]
 rfl
noncomputable def qLL:FS:=(qO (qS 4 (vFz (qw [3,0] 1 (ZM (qA (qB 3) (qA (qB 2) qD))) (Qh 2) [(vTB (qH gNe (qH gIx (qH gIx (qB 1) (qB 2)) (qB 0)) (vC (.int 0))))] [] (qB 2)))) (qO (QW (vTB (qH gEq (qB 4) (vFz (w5 qD)))) (qg (vC (.bl false))) QQ) (qO (yv (wY (qA (qH gIx (qB 0) (qH gIx (qB 4) (vC (.int 0)))) (qA (qH gIx (qB 0) (qB 3)) qD))) (qB 0) (qB 3) (qB 0) (qH gIx (qB 4) (vC (.int 0)))) (qO (wm (ZM (qA (qH qk (qB 3) (vC (.int 1))) (qA (qB 2) qD))) (qz 5) qHB) (qS 1 (qH gIx (qH gIx (qB 0) (qB 3)) (qB 3)))))))
theorem qIt {n:Nat} {rows:List (List Int)} (h:sq n rows=true) {i:Nat} {r:List Int} (hr:r.length=n):sq n (rows.set i r)=true:=by
 have hl:=qA7 h
 unfold sq at h ⊢
 rw [Bool.and_eq_true,List.all_eq_true] at h ⊢
 refine ⟨by rw [List.length_set];exact h.1,fun x hx => ?_⟩
 rcases List.mem_or_eq_of_mem_set hx with hx |rfl
 ·exact h.2 x hx
 ·rw [hr];exact Nat.beq_refl n
theorem qDR {st:qC} {n:Nat} (hn:n≤40):∀ (ts:List Nat) (ahead:Int) (rows:List (List Int)) (x3 x4 x5 x6 x7:Option PV),(∀ t∈ts,t < n)->apO n ts ahead rows=true ->
  ∃ y1 y3 y4 y5 y6 y7 rows',qy (fun _=>True) (qz 3) qLL (ofN ts) [some (.ref st.length),some (.int ahead),some (.int (n:Int)),x3,x4,x5,x6,x7] (sR st rows) = .nx [some (.ref st.length),y1,some (.int (n:Int)),y3,y4,y5,y6,y7] (sR st rows')
 |[],ahead,rows,x3,x4,x5,x6,x7,_,h=>⟨_,x3,x4,x5,x6,x7,rows,QU trivial⟩
 |t::ts,ahead,rows,x3,x4,x5,x6,x7,ht,h=>by
  have ht0:=ht t List.mem_cons_self
  unfold apO at h
  split at h
  ·rename_i hq
   rw [Bool.and_eq_true] at hq
   split at h
   ·cases h
   ·rename_i k ks hs
    split at h
    ·rename_i rows2 h2
     rw [Bool.and_eq_true] at h
     have hk:k < n:=by
      have:k∈Yc n t rows:=by rw [hs];exact List.mem_cons_self
      unfold Yc at this
      obtain ⟨i,hi,e⟩:=List.mem_map.mp (List.mem_filter.mp this).1
      have:=List.mem_range.mp hi
      omega
     have e1:=qGA (st:=st) (x1:=some (.int ahead)) (x4:=x4) (x5:=x5) (x6:=x6) (x7:=x7) hn hq.1 ht0
     rw [hs] at e1
     have hq1:=qIt hq.1 (i:=t) (JB hq.1 hk).1
     obtain ⟨y5,y6,y7,e2⟩:=qB1 (st:=st) (x2:=some (.int (n:Int))) (x4:=some (.lst (ofN (k::ks)))) hn ht0 hq.2 ((List.range (n - (t + 1))).map fun i=>t + 1 + i) _ rows2 x5 x6 x7 (fun q hq'=>by
      obtain ⟨i,hi,rfl⟩:=List.mem_map.mp hq'
      have:=List.mem_range.mp hi
      omega) h2
     obtain ⟨z1,z3,z4,z5,z6,z7,rows3,e3⟩:=qDR (st:=st) hn ts (at2 rows2 t t) rows2 (some (.int (t:Int))) (some (.lst (ofN (k::ks)))) y5 y6 y7 (fun q hq'=>ht q (List.mem_cons_of_mem _ hq')) h.2
     refine ⟨z1,z3,z4,z5,z6,z7,rows3,Wl trivial rfl ?_ e3⟩
     refine qW (Qu (p := .lst (ofN (k::ks))) (s1:=sR st rows) e1) ?_
     refine qW (wG (zi (qb (p := .lst (ofN (k::ks))) (q := .lst []) (s1:=sR st rows) (s2:=sR st rows) rfl rfl qIx)) rfl) ?_
     refine qW (qJc (p:=qr (rows.getD k [])) (q:=qr (rows.getD t [])) (s:=sR st rows) (ZL (qY (qb (q := .int (k:Int)) rfl (qb (p := .lst (ofN (k::ks))) rfl rfl Jc) (YI hq.1 hk)) (qY (qb rfl rfl (YI hq.1 ht0)) QG)) (sz rfl)) rfl rfl (JN hq.1 ht0) rfl (qb (p := .lst (ofN (k::ks))) rfl rfl Jc) (JN hq1 hk)) ?_
     refine qW (ZG (qBe (n:=t + 1) (m:=n) (by omega) (by omega) (qY (qb rfl rfl Jw) (qY rfl QG))) e2) ?_
     exact Qu (yc h.1 ht0 ht0 rfl rfl rfl)
    ·cases h
  ·cases h
theorem qEb {a:Ad} {st:qC} {n:Nat} {rows:List (List Int)} (hn:n≤40) (hr:rows.length=n) (h:apO n (List.range n) 1 rows=true):∃ rows',Wm a [.ref st.length] (sR st rows) = .ok (.bl true) (sR st rows'):=by
 obtain ⟨y1,y3,y4,y5,y6,y7,rows',e⟩:=qDR (st:=st) hn (List.range n) 1 rows none none none none none (fun t ht=>List.mem_range.mp ht) h
 refine ⟨rows',wS rfl ?_⟩
 unfold zt
 refine qW (Qu rfl) (qW (Qu (p := .int (n:Int)) (qT (l:=[.ref st.length]) rfl (Zg (l:=ZD rows) (qB3 (mid rfl)) (by unfold ZD;rw [List.length_map,hr])))) ?_)
 exact qW (ZG (j9 (n:=n) (by omega) rfl) e) (Wi rfl)
theorem JT {S g:qC} {i:Nat} {x:SO} (h:S[i]? = some x):(S++g)[i]? = some x:=by rw [List.getElem?_append_left (List.getElem?_eq_some_iff.mp h).1];exact h
theorem qIW {cs:List Int} {i n:Nat} (h:i + n≤cs.length):zp (cs.map PV.int) (some (i:Int)) (some ((i:Int) + (n:Int)))=((cs.drop i).take n).map PV.int:=by
 unfold zp HT.sIx
 dsimp only
 rw [if_neg (by omega),if_neg (by omega),List.length_map,show min ((i:Int) + (n:Int)).toNat cs.length=i + n by omega,show min ((i:Int)).toNat cs.length=i by omega,show i + n - i=n by omega,List.map_take,List.map_drop]
theorem qG6 {S:qC} {j n:Nat} {cs:List Int} (C:Cs S j cs) (hn:n≤40) {r:qf} (h5:r[5]? = some (some (.ref j))) (h7:r[7]? = some (some (.int (n:Int)))) :
  vMk (qw [5,7] 1 (wg (qA (qB 7) qD)) (Qh 2) [] [] (Yt (qB 0) (QJ (qB 2)) (QJ (qH qk (qB 2) (qB 1))))) r S = .ok (.ref S.length) (sR S (yI cs n)):=by
 let F:PV->PV:=fun p=>match p with | .int k=>qr ((cs.drop k.toNat).take n) |_ => .non
 have hm:(ofN (List.range n)).map F=ZD (yI cs n):=by
  unfold ofN ZD yI
  rw [List.map_map,List.map_map]
  refine List.map_congr_left fun i _ => ?_
  show qr ((cs.drop ((i:Int)).toNat).take n)=qr ((cs.drop i).take n)
  rw [Int.toNat_natCast]
 have e:qw [5,7] 1 (wg (qA (qB 7) qD)) (Qh 2) [] [] (Yt (qB 0) (QJ (qB 2)) (QJ (qH qk (qB 2) (qB 1)))) r S = .ok (ZD (yI cs n)) S:=by
  rw [← hm]
  refine WC (w:=⟨ofN (List.range n),fun _=>True⟩) (F:=F) (j9 (by omega) (qY (wu h7) QG)) trivial (by unfold ofN;rw [List.length_map,List.length_range];exact Nat.le_trans hn (by decide)) fun p hp => ?_
  obtain ⟨i,hi,rfl⟩:=List.mem_map.mp hp
  have hi:=List.mem_range.mp hi
  refine ⟨[some (.ref j),some (.int (n:Int)),some (.int (i:Int))],?_,?_⟩
  ·show Qh 2 (.int (i:Int)) (Ww [5,7] 1 r)=_
   unfold Ww
   simp only [List.map_cons,List.map_nil,h5,h7,Option.join_some]
   rfl
  ·unfold Yt
   show ((match asL S (.ref j) with |some l=>Rs.ok (PV.lst (zp l (some (i:Int)) (some ((i:Int) + (n:Int))))) S |none => .no))=_
   rw [qBZ C.at_]
   dsimp only
   rw [qIW (by rw [C.n];omega)]
   show _=Rs.ok (qr ((cs.drop ((i:Int)).toNat).take n)) S
   rw [Int.toNat_natCast]
   rfl
 unfold vMk
 rw [e]
 rfl
theorem qAI {a:Ad} {st j:qC} {x:Int}:∃ v,Wq v=true∧Qj 1 4 v=false∧wD a [.ref st.length] (st ++ .l [.int x]::j) = .ok v (st ++ .l [.int (x / 8)]::j):=by
 have e:∀ v,gIx (.lst [.int 0,.int 5,.int (-1),.bl true,.non,.str "2",.tup [.int 1],.int (10 ^ 39)]) (.int (x % 8)) (st ++ .l [.int (x / 8)]::j) = .ok v (st ++ .l [.int (x / 8)]::j)->wD a [.ref st.length] (st ++ .l [.int x]::j) = .ok v (st ++ .l [.int (x / 8)]::j):=fun v hv =>
  wS rfl (Wi (qb (p := .lst [.int 0,.int 5,.int (-1),.bl true,.non,.str "2",.tup [.int 1],.int (10 ^ 39)]) (q := .int (x % 8)) (s1:=st ++ .l [.int x]::j) (s2:=st ++ .l [.int (x / 8)]::j) rfl (qT (l:=[.ref st.length,.int 8]) (s1:=st ++ .l [.int x]::j) rfl (yd (by decide) (by decide))) hv))
 have h:x % 8=0∨x % 8=1∨x % 8=2∨x % 8=3∨x % 8=4∨x % 8=5∨x % 8=6∨x % 8=7:=by omega
 rcases h with h |h |h |h |h |h |h |h <;> rw [h] at e
 ·exact ⟨_,rfl,rfl,e (.int 0) rfl⟩
 ·exact ⟨_,rfl,rfl,e (.int 5) rfl⟩
 ·exact ⟨_,rfl,rfl,e (.int (-1)) rfl⟩
 ·exact ⟨_,rfl,rfl,e (.bl true) rfl⟩
 ·exact ⟨_,rfl,rfl,e .non rfl⟩
 ·exact ⟨_,rfl,rfl,e (.str "2") rfl⟩
 ·exact ⟨_,rfl,rfl,e (.tup [.int 1]) rfl⟩
 ·exact ⟨_,rfl,rfl,e (.int (10 ^ 39)) rfl⟩
noncomputable def Jd (a:Ad):FS:=(qO (qS 2 (qJ (z9 a) (qA (qB 0) (qA (qB 1) qD)))) (qO (ZE 3 4 (qA (qH qk (vC (.int 1)) (qJ (wB a) (qA (qB 2) (qA (vC (.int 4)) qD)))) (qA (qH qk (vC (.int 2)) (qJ (wB a) (qA (qB 2) (qA (vC (.int 4)) qD)))) qD))) (qO (qS 5 (qJ (WX a) (qA (qB 3) (qA (qB 4) (qA (vC (.int 200)) qD))))) (qO (qS 6 (qJ (QD a) (qA (qB 3) (qA (qB 4) qD)))) (qO (QW (Z1 (w8 (QO (qJ (WP a) (qA (qB 5) (qA (qB 6) qD))))) (w8 (QO (qJ (Qm 3 a) (qA (qJ (QD a) (qA (qB 3) (qA (qB 4) qD))) (qA (qB 6) qD)))))) (qg (vC (.bl false))) QQ) (qO (qS 7 (qJ QN (qA (qB 6) qD))) (qO (QW (w8 (QO (qJ (Wm a) (qA (vMk (qw [5,7] 1 (wg (qA (qB 7) qD)) (Qh 2) [] [] (Yt (qB 0) (QJ (qB 2)) (QJ (qH qk (qB 2) (qB 1)))))) qD)))) (qg (vC (.bl false))) QQ) (qO (ZE 8 9 (qA (qJ (wD a) (qA (qB 2) qD)) (qA (qJ (Q1 a) (qA (qB 2) qD)) qD))) (QW (Z1 (vTB (qH gNe (qJ (QD a) (qA (qB 8) (qA (qB 9) qD))) (vC (.str "! number")))) (vTB (qH gNe (qJ (QD a) (qA (qB 3) (qA (qB 9) qD))) (vC (.str "! length"))))) (qg (vC (.bl false))) QQ)))))))))
theorem qDu {x:Str} {st:qC}:gNe (.str x) (.str x) st = .ok (.bl false) st:=by
 show Rs.ok (PV.bl (!(x==x))) st=_
 rw [beq_self_eq_true];rfl
theorem qGW {a:Ad} (hd:Dist a) {ns:List Int} {k:Int} {st:qC} {x2 x3 x4 x5 x6 x7 x8 x9:Option PV} (h0:0≤k):∃ y2 y3 y4 y5 y6 y7 y8 y9 st',Jd a [some (.lst (ns.map PV.int)),some (.int k),x2,x3,x4,x5,x6,x7,x8,x9] st = .nx [some (.lst (ns.map PV.int)),some (.int k),y2,y3,y4,y5,y6,y7,y8,y9] st':=by
 obtain ⟨x,ex⟩:=qIL (a:=a) (ns:=ns) (k:=k) (st:=st) h0
 have t1:=yd (a:=a) (st:=st) (j:=[]) (x:=x) (m:=4) (by decide) (by decide)
 have t2:=yd (a:=a) (st:=st) (j:=[]) (x:=x / 4) (m:=4) (by decide) (by decide)
 have m1:1 + x % 4∈R1:=qLA
 have m2:2 + x / 4 % 4∈R2:=qLE
 generalize hw:1 + x % 4=w at m1
 generalize hL:2 + x / 4 % 4=L at m2
 generalize hz:x / 4 / 4=z at t2
 obtain ⟨l,F⟩:=fin m1 m2
 obtain ⟨rs,s,R⟩:=qKr F.q
 have hN:=R.N.hi
 obtain ⟨j,g1,c1,c2,hjl⟩:=qCy (a:=a) (st:=st ++ .l [.int z]::[]) (c:=200) m1 m2 ⟨by decide,by decide⟩ F
 obtain ⟨g2,c3⟩:=qCD (a:=a) (st:=st ++ .l [.int z]::[]++g1) m1 m2 F R
 have C2:Cs (st++SO.l [.int z]::[]++g1++g2) j (1::l):=qEF F (JT c2)
 have c4:=qGh (a:=a) C2 R.lo R.N R.is
 obtain ⟨g3,c5⟩:=qCD (a:=a) (st:=st ++ .l [.int z]::[]++g1++g2) m1 m2 F R
 have C3:Cs (st++SO.l [.int z]::[]++g1++g2++g3) j (1::l):=qEF F (JT (JT c2))
 obtain ⟨rows',c6⟩:=qEb (a:=a) (st:=st++SO.l [.int z]::[]++g1++g2++g3) (n:=rs.length) (rows:=yI (1::l) rs.length) hN (by unfold yI;rw [List.length_map,List.length_range]) R.ap
 have f1:sR (st++SO.l [.int z]::[]++g1++g2++g3) rows'=st++SO.l [.int z]::(g1++g2++g3++[.l (ZD rows')]):=by unfold sR;simp
 rw [f1] at c6
 obtain ⟨o,po,no,eo⟩:=qAI (a:=a) (st:=st) (j:=g1++g2++g3++[.l (ZD rows')]) (x:=z)
 obtain ⟨u,pu,nu,eu⟩:=jh (a:=a) (st:=st) (j:=g1++g2++g3++[.l (ZD rows')]) (x:=z / 8)
 refine ⟨some (.ref st.length),some (.int w),some (.int L),some (.ref j),some (.tup (rs.map PV.int)),some (.int (rs.length:Int)),some o,some u,st ++ .l [.int (z / 8 / 10)]::(g1++g2++g3++[.l (ZD rows')]),?_⟩
 refine qW (Qu (p := .ref st.length) (s1:=st++[.l [.int x]]) (qT (qY rfl (qY rfl QG)) ex)) ?_
 refine qW (qHT (p := .int w) (q := .int L) (s1:=st ++ .l [.int z]::[]) (qY (qb rfl (qT (qY rfl (qY rfl QG)) t1) (by rw [Jw,hw])) (qY (qb rfl (qT (qY rfl (qY rfl QG)) t2) (by rw [Jw,hL])) QG))) ?_
 refine qW (Qu (p := .ref j) (qT (l:=[.int w,.int L,.int 200]) rfl c1)) ?_
 refine qW (Qu (p := .tup (rs.map PV.int)) (qT (l:=[.int w,.int L]) rfl (qFK c3))) ?_
 refine qW (wG (yy (w_not (b:=true) (zJ (qT (l:=[.ref j,.tup (rs.map PV.int)]) rfl c4))) (w_not (b:=true) (zJ (qT (l:=[.tup (rs.map PV.int),.tup (rs.map PV.int)]) (qY (qT (l:=[.int w,.int L]) rfl (qFK c5)) (qY rfl QG)) (qFP (n:=1) (by omega)))))) rfl) ?_
 refine qW (Qu (p := .int (rs.length:Int)) (qT (l:=[.tup (rs.map PV.int)]) rfl (Zg (l:=rs.map PV.int) rfl (by rw [List.length_map])))) ?_
 refine qW (wG (w_not (b:=true) (zJ (qT (qY (qG6 C3 hN rfl rfl) QG) c6))) rfl) ?_
 refine qW (qHT (p:=o) (q:=u) (s1:=st ++ .l [.int (z / 8 / 10)]::(g1++g2++g3++[.l (ZD rows')])) (qY (qT (l:=[.ref st.length]) rfl eo) (qY (qT (l:=[.ref st.length]) rfl eu) QG))) ?_
 exact wG (yy (zi (qb (qT (l:=[o,u]) rfl (qEV (qAW po no) (by unfold Qa;simp) (Jg hd))) rfl qDu)) (zi (qb (qT (l:=[.int w,u]) rfl (qEV (JH rfl (qCY (qFb m1)) pu nu) (by unfold Qa;simp) (qAl hd))) rfl qDu))) rfl
theorem Jr {a:Ad} (hd:Dist a) {ns:List Int}:∀ (ks:List Int) (x1 x2 x3 x4 x5 x6 x7 x8 x9:Option PV) (st:qC),(∀ k∈ks,0≤k) -> ∃ e st',qy (fun _=>True) (qz 1) (Jd a) (ks.map PV.int) [some (.lst (ns.map PV.int)),x1,x2,x3,x4,x5,x6,x7,x8,x9] st = .nx e st'
 |[],x1,x2,x3,x4,x5,x6,x7,x8,x9,st,_=>⟨_,st,QU trivial⟩
 |k::ks,x1,x2,x3,x4,x5,x6,x7,x8,x9,st,h=>by
  obtain ⟨y2,y3,y4,y5,y6,y7,y8,y9,st1,e⟩:=qGW (a:=a) hd (ns:=ns) (k:=k) (st:=st) (x2:=x2) (x3:=x3) (x4:=x4) (x5:=x5) (x6:=x6) (x7:=x7) (x8:=x8) (x9:=x9) (h k List.mem_cons_self)
  obtain ⟨e',st',e2⟩:=Jr hd (ns:=ns) ks (some (.int k)) y2 y3 y4 y5 y6 y7 y8 y9 st1 fun q hq=>h q (List.mem_cons_of_mem _ hq)
  exact ⟨e',st',Wl trivial rfl e e2⟩
theorem law_true:∀ (a:Ad) (ns:List Int),Dist a->ns.length≤63->(∀ k∈ns,Builtin.Int.intBits k≤2 ^ 20) -> ∃ st,qAV a [.lst (ns.map PV.int)] [] = .ok (.bl true) st:=by
 intro a ns hd hl hb
 obtain ⟨n,hn0,hn4,hn⟩:∃ n:Int,0≤n∧n≤2∧qJ JA (qA (vC (.int 1)) (qA (qJ qFH (qA (qJ QN (qA (qB 0) qD)) (qA (vC (.int 2)) qD))) qD)) (Qv 10 [.lst (ns.map PV.int)]) [] = .ok (.int n) []:=by
  refine ⟨if (if (2:Int) < ns.length then 2 else (ns.length:Int)) > 1 then (if (2:Int) < ns.length then 2 else (ns.length:Int)) else 1,?_,?_,?_⟩
  ·split <;> (try split) <;> omega
  ·split <;> (try split) <;> omega
  ·exact qT (qY rfl (qY (qT (l:=[.int ns.length,.int 2]) (qY (qT (qY rfl QG) (Zg (l:=ns.map PV.int) rfl (by rw [List.length_map]))) (qY rfl QG)) rfl) QG)) rfl
 obtain ⟨e,st',h⟩:=Jr hd (zg n) none none none none none none none none none [] fun k hk=>by have:=upto_mem.mp hk;omega
 exact ⟨st',wS rfl (qW (ZG (itN hn0 (by omega) (qY hn QG)) h) (Wi rfl))⟩
end K73
end
section

end
section
namespace K73
open PySem PySem.Spec PyProof.Rows L2 EX EV
theorem qGx {a:Ad} {x:Addr} {c:Value} {b:Bool} (h:kit a (.ref x) c=some b):x∈Qa a:=by
 cases c with
 |ref d =>
  have h:(if x∈Qa a∧d∈a.kinds then some (x==d) else none)=some b:=h
  split at h
  ·rename_i hx;exact hx.1
  ·cases h
 |type T =>
  have h:(if x∈Qa a∧T = "ValueError" then some true else none)=some b:=h
  split at h
  ·rename_i hx;exact hx.1
  ·cases h
 |_=>cases h
theorem qCr {K:W.Frag}:∀ p∈kitTab,PySem.W.kitOne K (.type p.1.1) (.type p.1.2)=some p.2:=by
 intro p hp
 unfold kitTab at hp
 simp only [List.mem_cons,List.not_mem_nil,or_false] at hp
 rcases hp with rfl |rfl |rfl |rfl |rfl |rfl |rfl |rfl |rfl |rfl |rfl |rfl |rfl |rfl |rfl |rfl |rfl |rfl |rfl |rfl |rfl |rfl |rfl |rfl |rfl |rfl |rfl |rfl <;> rfl
theorem qAR {s T:String} {b:Bool}:∀ {l:List ((String×String)×Bool)},l.lookup (s,T)=some b->((s,T),b)∈l
 |[],h=>by cases h
 |(q,k)::l,h=>by
  rw [List.lookup_cons] at h
  split at h
  ·rename_i e;cases h;rw [eq_of_beq e];exact List.mem_cons_self
  ·exact List.mem_cons_of_mem _ (qAR h)
theorem qFp {K:W.Frag} {s T:String} {b:Bool} (h:qKh s T=some b):PySem.W.kitOne K (.type s) (.type T)=some b:=qCr _ (qAR h)
theorem qu {a:Ad} (h:Dist a):a.NoLength≠a.NoNumber∧a.NoLength≠a.NoBars∧a.NoLength≠a.NoBox∧a.NoLength≠a.NoWeights∧a.NoLength≠a.NoSorts∧a.NoLength≠a.NoTurn∧a.NoLength≠a.NoPlace∧a.NoLength≠a.NoText∧a.NoLength≠a.NoRow∧a.NoLength≠a.TooMany:=by
 have nd:=h.nd
 unfold Ad.kinds at nd
 simp only [List.nodup_cons,List.mem_cons,List.not_mem_nil,not_or,or_false] at nd
 refine ⟨?_,?_,?_,?_,?_,?_,?_,?_,?_,?_⟩ <;> (intro z;simp only [z,not_true_eq_false,false_and,and_false] at nd)
theorem qt {a:Ad} (h:Dist a):a.NoNumber≠a.NoLength∧a.NoNumber≠a.NoBars∧a.NoNumber≠a.NoBox∧a.NoNumber≠a.NoWeights∧a.NoNumber≠a.NoSorts∧a.NoNumber≠a.NoTurn∧a.NoNumber≠a.NoPlace∧a.NoNumber≠a.NoText∧a.NoNumber≠a.NoRow∧a.NoNumber≠a.TooMany:=by
 have nd:=h.nd
 unfold Ad.kinds at nd
 simp only [List.nodup_cons,List.mem_cons,List.not_mem_nil,not_or,or_false] at nd
 refine ⟨?_,?_,?_,?_,?_,?_,?_,?_,?_,?_⟩ <;> (intro z;simp only [z,not_true_eq_false,false_and,and_false] at nd)
def jW (e:DictEntry):Bool:=match e.key with
 | .str _ _=>true
 |_=>false
theorem yg {K:W.Frag} {N:Addr} {c:Value} {dd:Option Addr} {es:Array DictEntry} {ep:Nat} {sl:Array (Option Value)} (h:K.lookup N=some ⟨c,dd,.dict es ep,sl⟩) (hl:es.toList.all jW=true):PySem.W.nsOkIn K N=true:=by
 unfold PySem.W.nsOkIn
 rw [show List.lookup N K=_ from h]
 show (es.all fun e=>match e.key with | .str _ _=>true |_=>false)=true
 rw [← Array.all_toList]
 exact hl
theorem qGc {K:W.Frag} {B:Addr} {cdB:ClassData} {cB:Value} {dB:Option Addr} {slB:Array (Option Value)} (hB:K.lookup B=some ⟨cB,dB,.cls cdB,slB⟩) (hnB:PySem.W.nsOkIn K cdB.ns=true) (hiB:PySem.W.nsIn K cdB.ns "__init__" = some none):PySem.W.tailIn K bmV (.ref B::bmV)=true:=by
 rw [PySem.W.tailIn.eq_2,show List.lookup B K=_ from hB]
 dsimp only
 rw [hnB,hiB]
 rfl
theorem qD9 {K:W.Frag} {C B:Addr} {dd:Option Addr} {cd cdB:ClassData} {sl:Array (Option Value)} {k0 k1 k2 k3 k5:Option Value} {cB:Value} {dB:Option Addr} {slB:Array (Option Value)} (hC:K.lookup C=some ⟨.type "type",dd,.cls cd,sl⟩) (hm:cd.mro = .ref C :: .ref B::bmV)
  (hs:sl.toList=[k0,k1,k2,k3,some (.builtin "ValueError.__new__"),k5]) (hD:cd.hasDel=false) (hn:PySem.W.nsOkIn K cd.ns=true) (hi:PySem.W.nsIn K cd.ns "__init__" = some none) (hB:K.lookup B=some ⟨cB,dB,.cls cdB,slB⟩) (hnB:PySem.W.nsOkIn K cdB.ns=true) (hiB:PySem.W.nsIn K cdB.ns "__init__" = some none) :
  PySem.W.excIn K C bmV "ValueError.__new__" = true:=by
 have t:=qGc hB hnB hiB
 obtain ⟨nm,bs,mro,ns,qn,hd,sn,sb,ab,co,del⟩:=cd
 obtain ⟨sl⟩:=sl
 have hm:mro=_:=hm
 have hs:sl=_:=hs
 have hD:del=false:=hD
 subst hm;subst hs;subst hD
 unfold PySem.W.excIn
 rw [show List.lookup C K=_ from hC]
 show (C==C&&("ValueError.__new__" == "ValueError.__new__") && !false&&PySem.W.tailIn K bmV (.ref B::bmV)&&PySem.W.nsOkIn K ns&&(PySem.W.nsIn K ns "__init__" == some none))=true
 rw [t,show PySem.W.nsOkIn K ns=true from hn,show PySem.W.nsIn K ns "__init__" = some none from hi]
 simp
theorem qGK {P:Program} {w:World} {K:W.Frag} {mg:Str->Option Value} {base:Heap} {CX:CXT} {k:Nat} {f:Addr} {fd:FuncData} {ps:List Str} {sp sp':Sp} (F:FnOk P w K mg base CX k f fd ps sp) (h:∀ vs H Q E,sp' vs H Q E->sp vs H Q E):FnOk P w K mg base CX k f fd ps sp' :=
 ⟨fun vs H Q E q=>F.len vs H Q E (h vs H Q E q),fun A outer s H args us vs Q E hr e b v q=>F.run A outer s H args us vs Q E hr e b v (h vs H Q E q)⟩
def spL (K:W.Frag):Sp:=fun vs H Q E => ∀ a,Dist a->spG K 1 (qAV a) vs H Q E
theorem all_mk {l:PySem.W.OpenLaw} {w:World} {K:W.Frag} {h:Heap} {mg:Str->Option Value} {fa:Addr} (X:K.In h) (G:h.Ns mainGlobals mg) (hfa:mg "law" = some (.ref fa))
  {c_BarError c_NoLength c_NoNumber c_NoBars c_NoBox c_NoWeights c_NoSorts c_NoTurn c_NoPlace c_NoText c_NoRow c_TooMany ff0 ff1 ff2 ff3 ff4 ff5 ff6 ff7 ff8 ff9 ff10 ff11 ff12 ff13 ff14 ff15 ff16 ff17 ff18 ff19 ff20 ff21 ff22 ff23 ff24 ff25 ff26:Addr}
  {od0 an0:Option Addr} {sl0:Array (Option Value)} {oc0 kV0 dc0 pm0 cd0 ct0:Value}
  {od1 an1:Option Addr} {sl1:Array (Option Value)} {oc1 kV1 dc1 pm1 cd1 ct1:Value}
  {od2 an2:Option Addr} {sl2:Array (Option Value)} {oc2 kV2 dc2 pm2 cd2 ct2:Value}
  {od3 an3:Option Addr} {sl3:Array (Option Value)} {oc3 kV3 dc3 pm3 cd3 ct3:Value}
  {od4 an4:Option Addr} {sl4:Array (Option Value)} {oc4 kV4 dc4 pm4 cd4 ct4:Value}
  {od5 an5:Option Addr} {sl5:Array (Option Value)} {oc5 kV5 dc5 pm5 cd5 ct5:Value}
  {od6 an6:Option Addr} {sl6:Array (Option Value)} {oc6 kV6 dc6 pm6 cd6 ct6:Value}
  {od7 an7:Option Addr} {sl7:Array (Option Value)} {oc7 kV7 dc7 pm7 cd7 ct7:Value}
  {od8 an8:Option Addr} {sl8:Array (Option Value)} {oc8 kV8 dc8 pm8 cd8 ct8:Value}
  {od9 an9:Option Addr} {sl9:Array (Option Value)} {oc9 kV9 dc9 pm9 cd9 ct9:Value}
  {od10 an10:Option Addr} {sl10:Array (Option Value)} {oc10 kV10 dc10 pm10 cd10 ct10:Value}
  {od11 an11:Option Addr} {sl11:Array (Option Value)} {oc11 kV11 dc11 pm11 cd11 ct11:Value}
  {od12 an12:Option Addr} {sl12:Array (Option Value)} {oc12 kV12 dc12 pm12 cd12 ct12:Value}
  {od13 an13:Option Addr} {sl13:Array (Option Value)} {oc13 kV13 dc13 pm13 cd13 ct13:Value}
  {od14 an14:Option Addr} {sl14:Array (Option Value)} {oc14 kV14 dc14 pm14 cd14 ct14:Value}
  {od15 an15:Option Addr} {sl15:Array (Option Value)} {oc15 kV15 dc15 pm15 cd15 ct15:Value}
  {od16 an16:Option Addr} {sl16:Array (Option Value)} {oc16 kV16 dc16 pm16 cd16 ct16:Value}
  {od17 an17:Option Addr} {sl17:Array (Option Value)} {oc17 kV17 dc17 pm17 cd17 ct17:Value}
  {od18 an18:Option Addr} {sl18:Array (Option Value)} {oc18 kV18 dc18 pm18 cd18 ct18:Value}
  {od19 an19:Option Addr} {sl19:Array (Option Value)} {oc19 kV19 dc19 pm19 cd19 ct19:Value}
  {od20 an20:Option Addr} {sl20:Array (Option Value)} {oc20 kV20 dc20 pm20 cd20 ct20:Value}
  {od21 an21:Option Addr} {sl21:Array (Option Value)} {oc21 kV21 dc21 pm21 cd21 ct21:Value}
  {od22 an22:Option Addr} {sl22:Array (Option Value)} {oc22 kV22 dc22 pm22 cd22 ct22:Value}
  {od23 an23:Option Addr} {sl23:Array (Option Value)} {oc23 kV23 dc23 pm23 cd23 ct23:Value}
  {od24 an24:Option Addr} {sl24:Array (Option Value)} {oc24 kV24 dc24 pm24 cd24 ct24:Value}
  {od25 an25:Option Addr} {sl25:Array (Option Value)} {oc25 kV25 dc25 pm25 cd25 ct25:Value}
  {od26 an26:Option Addr} {sl26:Array (Option Value)} {oc26 kV26 dc26 pm26 cd26 ct26:Value}
  {t_LEAST_LENGTH:Tok}
  {t_MOST_LENGTH:Tok}
  {t_MOST_WIDTH:Tok}
  {t_MOST_COLUMNS:Tok}
  {ddB:Option Addr} {cdB:ClassData} {slB:Array (Option Value)}
  {NB:Addr} {cNB:Value} {dNB:Option Addr} {esB:Array DictEntry} {epB:Nat} {sNB:Array (Option Value)}
  {xdd_NoLength:Option Addr} {xcd_NoLength:ClassData} {xsl_NoLength:Array (Option Value)} {xk0_NoLength xk1_NoLength xk2_NoLength xk3_NoLength xk5_NoLength:Option Value} {xN_NoLength:Addr} {xc_NoLength:Value} {xd2_NoLength:Option Addr} {xes_NoLength:Array DictEntry} {xep_NoLength:Nat} {xs2_NoLength:Array (Option Value)}
  {xdd_NoNumber:Option Addr} {xcd_NoNumber:ClassData} {xsl_NoNumber:Array (Option Value)} {xk0_NoNumber xk1_NoNumber xk2_NoNumber xk3_NoNumber xk5_NoNumber:Option Value} {xN_NoNumber:Addr} {xc_NoNumber:Value} {xd2_NoNumber:Option Addr} {xes_NoNumber:Array DictEntry} {xep_NoNumber:Nat} {xs2_NoNumber:Array (Option Value)}
  (aa0:PySem.W.nsIn K mainGlobals "is_whole" = some (some (.ref ff0)))
  (ll0:K.lookup ff0=some ⟨oc0,od0,.func (PySem.W.fnOf "is_whole" "is_whole" (qc WJ) (qZ WJ) (qK WJ) .none kV0 dc0 pm0 an0 cd0 ct0),sl0⟩)
  (dd0:PySem.W.codeIn K cd0 "is_whole" = true)
  (kk0:PySem.W.keepIn K (.ref ff0)=true)
  (aa1:PySem.W.nsIn K mainGlobals "is_whole_within" = some (some (.ref ff1)))
  (ll1:K.lookup ff1=some ⟨oc1,od1,.func (PySem.W.fnOf "is_whole_within" "is_whole_within" (qc QH) (qZ QH) (qK QH) .none kV1 dc1 pm1 an1 cd1 ct1),sl1⟩)
  (dd1:PySem.W.codeIn K cd1 "is_whole_within" = true)
  (kk1:PySem.W.keepIn K (.ref ff1)=true)
  (aa2:PySem.W.nsIn K mainGlobals "is_length" = some (some (.ref ff2)))
  (ll2:K.lookup ff2=some ⟨oc2,od2,.func (PySem.W.fnOf "is_length" "is_length" (qc wf) (qZ wf) (qK wf) .none kV2 dc2 pm2 an2 cd2 ct2),sl2⟩)
  (dd2:PySem.W.codeIn K cd2 "is_length" = true)
  (kk2:PySem.W.keepIn K (.ref ff2)=true)
  (aa3:PySem.W.nsIn K mainGlobals "need_number" = some (some (.ref ff3)))
  (ll3:K.lookup ff3=some ⟨oc3,od3,.func (PySem.W.fnOf "need_number" "need_number" (qc Qi) (qZ Qi) (qK Qi) .none kV3 dc3 pm3 an3 cd3 ct3),sl3⟩)
  (dd3:PySem.W.codeIn K cd3 "need_number" = true)
  (kk3:PySem.W.keepIn K (.ref ff3)=true)
  (aa4:PySem.W.nsIn K mainGlobals "need_length" = some (some (.ref ff4)))
  (ll4:K.lookup ff4=some ⟨oc4,od4,.func (PySem.W.fnOf "need_length" "need_length" (qc Ql) (qZ Ql) (qK Ql) .none kV4 dc4 pm4 an4 cd4 ct4),sl4⟩)
  (dd4:PySem.W.codeIn K cd4 "need_length" = true)
  (kk4:PySem.W.keepIn K (.ref ff4)=true)
  (aa5:PySem.W.nsIn K mainGlobals "columns_behind" = some (some (.ref ff5)))
  (ll5:K.lookup ff5=some ⟨oc5,od5,.func (PySem.W.fnOf "columns_behind" "columns_behind" (qc QS) (qZ QS) (qK QS) .none kV5 dc5 pm5 an5 cd5 ct5),sl5⟩)
  (dd5:PySem.W.codeIn K cd5 "columns_behind" = true)
  (kk5:PySem.W.keepIn K (.ref ff5)=true)
  (aa6:PySem.W.nsIn K mainGlobals "layer_of" = some (some (.ref ff6)))
  (ll6:K.lookup ff6=some ⟨oc6,od6,.func (PySem.W.fnOf "layer_of" "layer_of" (qc wc) (qZ wc) (qK wc) .none kV6 dc6 pm6 an6 cd6 ct6),sl6⟩)
  (dd6:PySem.W.codeIn K cd6 "layer_of" = true)
  (kk6:PySem.W.keepIn K (.ref ff6)=true)
  (aa7:PySem.W.nsIn K mainGlobals "strip_counts" = some (some (.ref ff7)))
  (ll7:K.lookup ff7=some ⟨oc7,od7,.func (PySem.W.fnOf "strip_counts" "strip_counts" (qc Qt) (qZ Qt) (qK Qt) .none kV7 dc7 pm7 an7 cd7 ct7),sl7⟩)
  (dd7:PySem.W.codeIn K cd7 "strip_counts" = true)
  (kk7:PySem.W.keepIn K (.ref ff7)=true)
  (aa8:PySem.W.nsIn K mainGlobals "come_to" = some (some (.ref ff8)))
  (ll8:K.lookup ff8=some ⟨oc8,od8,.func (PySem.W.fnOf "come_to" "come_to" (qc WL) (qZ WL) (qK WL) .none kV8 dc8 pm8 an8 cd8 ct8),sl8⟩)
  (dd8:PySem.W.codeIn K cd8 "come_to" = true)
  (kk8:PySem.W.keepIn K (.ref ff8)=true)
  (aa9:PySem.W.nsIn K mainGlobals "common_divisor" = some (some (.ref ff9)))
  (ll9:K.lookup ff9=some ⟨oc9,od9,.func (PySem.W.fnOf "common_divisor" "common_divisor" (qc QA) (qZ QA) (qK QA) .none kV9 dc9 pm9 an9 cd9 ct9),sl9⟩)
  (dd9:PySem.W.codeIn K cd9 "common_divisor" = true)
  (kk9:PySem.W.keepIn K (.ref ff9)=true)
  (aa10:PySem.W.nsIn K mainGlobals "mended" = some (some (.ref ff10)))
  (ll10:K.lookup ff10=some ⟨oc10,od10,.func (PySem.W.fnOf "mended" "mended" (qc Wc) (qZ Wc) (qK Wc) .none kV10 dc10 pm10 an10 cd10 ct10),sl10⟩)
  (dd10:PySem.W.codeIn K cd10 "mended" = true)
  (kk10:PySem.W.keepIn K (.ref ff10)=true)
  (aa11:PySem.W.nsIn K mainGlobals "shortest_numbers" = some (some (.ref ff11)))
  (ll11:K.lookup ff11=some ⟨oc11,od11,.func (PySem.W.fnOf "shortest_numbers" "shortest_numbers" (qc qm) (qZ qm) (qK qm) .none kV11 dc11 pm11 an11 cd11 ct11),sl11⟩)
  (dd11:PySem.W.codeIn K cd11 "shortest_numbers" = true)
  (kk11:PySem.W.keepIn K (.ref ff11)=true)
  (aa12:PySem.W.nsIn K mainGlobals "rule_of" = some (some (.ref ff12)))
  (ll12:K.lookup ff12=some ⟨oc12,od12,.func (PySem.W.fnOf "rule_of" "rule_of" (qc Wa) (qZ Wa) (qK Wa) .none kV12 dc12 pm12 an12 cd12 ct12),sl12⟩)
  (dd12:PySem.W.codeIn K cd12 "rule_of" = true)
  (kk12:PySem.W.keepIn K (.ref ff12)=true)
  (aa13:PySem.W.nsIn K mainGlobals "_law_cell" = some (some (.ref ff13)))
  (ll13:K.lookup ff13=some ⟨oc13,od13,.func (PySem.W.fnOf "_law_cell" "_law_cell" (qc WI) (qZ WI) (qK WI) .none kV13 dc13 pm13 an13 cd13 ct13),sl13⟩)
  (dd13:PySem.W.codeIn K cd13 "_law_cell" = true)
  (kk13:PySem.W.keepIn K (.ref ff13)=true)
  (aa14:PySem.W.nsIn K mainGlobals "_law_box" = some (some (.ref ff14)))
  (ll14:K.lookup ff14=some ⟨oc14,od14,.func (PySem.W.fnOf "_law_box" "_law_box" (qc WZ) (qZ WZ) (qK WZ) .none kV14 dc14 pm14 an14 cd14 ct14),sl14⟩)
  (dd14:PySem.W.codeIn K cd14 "_law_box" = true)
  (kk14:PySem.W.keepIn K (.ref ff14)=true)
  (aa15:PySem.W.nsIn K mainGlobals "_law_take" = some (some (.ref ff15)))
  (ll15:K.lookup ff15=some ⟨oc15,od15,.func (PySem.W.fnOf "_law_take" "_law_take" (qc WD) (qZ WD) (qK WD) .none kV15 dc15 pm15 an15 cd15 ct15),sl15⟩)
  (dd15:PySem.W.codeIn K cd15 "_law_take" = true)
  (kk15:PySem.W.keepIn K (.ref ff15)=true)
  (aa16:PySem.W.nsIn K mainGlobals "_law_whole" = some (some (.ref ff16)))
  (ll16:K.lookup ff16=some ⟨oc16,od16,.func (PySem.W.fnOf "_law_whole" "_law_whole" (qc wj) (qZ wj) (qK wj) .none kV16 dc16 pm16 an16 cd16 ct16),sl16⟩)
  (dd16:PySem.W.codeIn K cd16 "_law_whole" = true)
  (kk16:PySem.W.keepIn K (.ref ff16)=true)
  (aa17:PySem.W.nsIn K mainGlobals "_law_kind" = some (some (.ref ff17)))
  (ll17:K.lookup ff17=some ⟨oc17,od17,.func (PySem.W.fnOf "_law_kind" "_law_kind" (qc WN) (qZ WN) (qK WN) .none kV17 dc17 pm17 an17 cd17 ct17),sl17⟩)
  (dd17:PySem.W.codeIn K cd17 "_law_kind" = true)
  (kk17:PySem.W.keepIn K (.ref ff17)=true)
  (aa18:PySem.W.nsIn K mainGlobals "_law_same" = some (some (.ref ff18)))
  (ll18:K.lookup ff18=some ⟨oc18,od18,.func (PySem.W.fnOf "_law_same" "_law_same" (qc wa) (qZ wa) (qK wa) .none kV18 dc18 pm18 an18 cd18 ct18),sl18⟩)
  (dd18:PySem.W.codeIn K cd18 "_law_same" = true)
  (kk18:PySem.W.keepIn K (.ref ff18)=true)
  (aa19:PySem.W.nsIn K mainGlobals "_law_no_length" = some (some (.ref ff19)))
  (ll19:K.lookup ff19=some ⟨oc19,od19,.func (PySem.W.fnOf "_law_no_length" "_law_no_length" (qc Qc) (qZ Qc) (qK Qc) .none kV19 dc19 pm19 an19 cd19 ct19),sl19⟩)
  (dd19:PySem.W.codeIn K cd19 "_law_no_length" = true)
  (kk19:PySem.W.keepIn K (.ref ff19)=true)
  (aa20:PySem.W.nsIn K mainGlobals "_law_after" = some (some (.ref ff20)))
  (ll20:K.lookup ff20=some ⟨oc20,od20,.func (PySem.W.fnOf "_law_after" "_law_after" (qc wk) (qZ wk) (qK wk) .none kV20 dc20 pm20 an20 cd20 ct20),sl20⟩)
  (dd20:PySem.W.codeIn K cd20 "_law_after" = true)
  (kk20:PySem.W.keepIn K (.ref ff20)=true)
  (aa21:PySem.W.nsIn K mainGlobals "_law_counts" = some (some (.ref ff21)))
  (ll21:K.lookup ff21=some ⟨oc21,od21,.func (PySem.W.fnOf "_law_counts" "_law_counts" (qc wN) (qZ wN) (qK wN) .none kV21 dc21 pm21 an21 cd21 ct21),sl21⟩)
  (dd21:PySem.W.codeIn K cd21 "_law_counts" = true)
  (kk21:PySem.W.keepIn K (.ref ff21)=true)
  (aa22:PySem.W.nsIn K mainGlobals "_law_no_width" = some (some (.ref ff22)))
  (ll22:K.lookup ff22=some ⟨oc22,od22,.func (PySem.W.fnOf "_law_no_width" "_law_no_width" (qc Qp) (qZ Qp) (qK Qp) .none kV22 dc22 pm22 an22 cd22 ct22),sl22⟩)
  (dd22:PySem.W.codeIn K cd22 "_law_no_width" = true)
  (kk22:PySem.W.keepIn K (.ref ff22)=true)
  (aa23:PySem.W.nsIn K mainGlobals "_law_is_rule" = some (some (.ref ff23)))
  (ll23:K.lookup ff23=some ⟨oc23,od23,.func (PySem.W.fnOf "_law_is_rule" "_law_is_rule" (qc Q2) (qZ Q2) (qK Q2) .none kV23 dc23 pm23 an23 cd23 ct23),sl23⟩)
  (dd23:PySem.W.codeIn K cd23 "_law_is_rule" = true)
  (kk23:PySem.W.keepIn K (.ref ff23)=true)
  (aa24:PySem.W.nsIn K mainGlobals "_law_apart" = some (some (.ref ff24)))
  (ll24:K.lookup ff24=some ⟨oc24,od24,.func (PySem.W.fnOf "_law_apart" "_law_apart" (qc wC) (qZ wC) (qK wC) .none kV24 dc24 pm24 an24 cd24 ct24),sl24⟩)
  (dd24:PySem.W.codeIn K cd24 "_law_apart" = true)
  (kk24:PySem.W.keepIn K (.ref ff24)=true)
  (aa25:PySem.W.nsIn K mainGlobals "_law_asked" = some (some (.ref ff25)))
  (ll25:K.lookup ff25=some ⟨oc25,od25,.func (PySem.W.fnOf "_law_asked" "_law_asked" (qc wJ) (qZ wJ) (qK wJ) .none kV25 dc25 pm25 an25 cd25 ct25),sl25⟩)
  (dd25:PySem.W.codeIn K cd25 "_law_asked" = true)
  (kk25:PySem.W.keepIn K (.ref ff25)=true)
  (aa26:PySem.W.nsIn K mainGlobals "law" = some (some (.ref ff26)))
  (ll26:K.lookup ff26=some ⟨oc26,od26,.func (PySem.W.fnOf "law" "law" (qc zU) (qZ zU) (qK zU) .none kV26 dc26 pm26 an26 cd26 ct26),sl26⟩)
  (dd26:PySem.W.codeIn K cd26 "law" = true)
  (kk26:PySem.W.keepIn K (.ref ff26)=true)
  (n_ValueError:PySem.W.nsIn K mainGlobals "ValueError" = some none)
  (n_abs:PySem.W.nsIn K mainGlobals "abs" = some none)
  (n_all:PySem.W.nsIn K mainGlobals "all" = some none)
  (n_bool:PySem.W.nsIn K mainGlobals "bool" = some none)
  (n_int:PySem.W.nsIn K mainGlobals "int" = some none)
  (n_isinstance:PySem.W.nsIn K mainGlobals "isinstance" = some none)
  (n_len:PySem.W.nsIn K mainGlobals "len" = some none)
  (n_list:PySem.W.nsIn K mainGlobals "list" = some none)
  (n_max:PySem.W.nsIn K mainGlobals "max" = some none)
  (n_min:PySem.W.nsIn K mainGlobals "min" = some none)
  (n_range:PySem.W.nsIn K mainGlobals "range" = some none)
  (n_sum:PySem.W.nsIn K mainGlobals "sum" = some none)
  (n_tuple:PySem.W.nsIn K mainGlobals "tuple" = some none)
  (n_zip:PySem.W.nsIn K mainGlobals "zip" = some none)
  (n_enumerate:PySem.W.nsIn K mainGlobals "enumerate" = some none)
  (g_LEAST_LENGTH:PySem.W.nsIn K mainGlobals "LEAST_LENGTH" = some (some (.int 2 t_LEAST_LENGTH)))
  (g_MOST_LENGTH:PySem.W.nsIn K mainGlobals "MOST_LENGTH" = some (some (.int 5 t_MOST_LENGTH)))
  (g_MOST_WIDTH:PySem.W.nsIn K mainGlobals "MOST_WIDTH" = some (some (.int 4 t_MOST_WIDTH)))
  (g_MOST_COLUMNS:PySem.W.nsIn K mainGlobals "MOST_COLUMNS" = some (some (.int 200 t_MOST_COLUMNS)))
  (nkt:qJ9 K=true)
  (q_BarError:PySem.W.nsIn K mainGlobals "BarError" = some (some (.ref c_BarError)))
  (q_NoLength:PySem.W.nsIn K mainGlobals "NoLength" = some (some (.ref c_NoLength)))
  (q_NoNumber:PySem.W.nsIn K mainGlobals "NoNumber" = some (some (.ref c_NoNumber)))
  (q_NoBars:PySem.W.nsIn K mainGlobals "NoBars" = some (some (.ref c_NoBars)))
  (q_NoBox:PySem.W.nsIn K mainGlobals "NoBox" = some (some (.ref c_NoBox)))
  (q_NoWeights:PySem.W.nsIn K mainGlobals "NoWeights" = some (some (.ref c_NoWeights)))
  (q_NoSorts:PySem.W.nsIn K mainGlobals "NoSorts" = some (some (.ref c_NoSorts)))
  (q_NoTurn:PySem.W.nsIn K mainGlobals "NoTurn" = some (some (.ref c_NoTurn)))
  (q_NoPlace:PySem.W.nsIn K mainGlobals "NoPlace" = some (some (.ref c_NoPlace)))
  (q_NoText:PySem.W.nsIn K mainGlobals "NoText" = some (some (.ref c_NoText)))
  (q_NoRow:PySem.W.nsIn K mainGlobals "NoRow" = some (some (.ref c_NoRow)))
  (q_TooMany:PySem.W.nsIn K mainGlobals "TooMany" = some (some (.ref c_TooMany)))
  (oB:K.lookup c_BarError=some ⟨.type "type",ddB,.cls cdB,slB⟩)
  (nB:cdB.ns=NB)
  (oNB:K.lookup NB=some ⟨cNB,dNB,.dict esB epB,sNB⟩)
  (eNB:esB.toList.all jW=true)
  (iNB:PySem.W.nsIn K NB "__init__" = some none)
  (bB:PySem.W.mroIn K c_BarError (.type "BaseException")=some true)
  (xl_NoLength:K.lookup c_NoLength=some ⟨.type "type",xdd_NoLength,.cls xcd_NoLength,xsl_NoLength⟩)
  (xm_NoLength:xcd_NoLength.mro = .ref c_NoLength :: .ref c_BarError::bmV)
  (xs_NoLength:xsl_NoLength.toList=[xk0_NoLength,xk1_NoLength,xk2_NoLength,xk3_NoLength,some (.builtin "ValueError.__new__"),xk5_NoLength])
  (xd_NoLength:xcd_NoLength.hasDel=false)
  (xn_NoLength:xcd_NoLength.ns=xN_NoLength)
  (xo_NoLength:K.lookup xN_NoLength=some ⟨xc_NoLength,xd2_NoLength,.dict xes_NoLength xep_NoLength,xs2_NoLength⟩)
  (xe_NoLength:xes_NoLength.toList.all jW=true)
  (xi_NoLength:PySem.W.nsIn K xN_NoLength "__init__" = some none)
  (e_NoLength:PySem.W.mroIn K c_NoLength (.ref c_BarError)=some true)
  (v_NoLength:PySem.W.kitOne K (.ref c_NoLength) (.type "ValueError")=some true)
  (w_NoLength_NoLength:PySem.W.kitOne K (.ref c_NoLength) (.ref c_NoLength)=some true)
  (w_NoLength_NoNumber:PySem.W.kitOne K (.ref c_NoLength) (.ref c_NoNumber)=some false)
  (w_NoLength_NoBars:PySem.W.kitOne K (.ref c_NoLength) (.ref c_NoBars)=some false)
  (w_NoLength_NoBox:PySem.W.kitOne K (.ref c_NoLength) (.ref c_NoBox)=some false)
  (w_NoLength_NoWeights:PySem.W.kitOne K (.ref c_NoLength) (.ref c_NoWeights)=some false)
  (w_NoLength_NoSorts:PySem.W.kitOne K (.ref c_NoLength) (.ref c_NoSorts)=some false)
  (w_NoLength_NoTurn:PySem.W.kitOne K (.ref c_NoLength) (.ref c_NoTurn)=some false)
  (w_NoLength_NoPlace:PySem.W.kitOne K (.ref c_NoLength) (.ref c_NoPlace)=some false)
  (w_NoLength_NoText:PySem.W.kitOne K (.ref c_NoLength) (.ref c_NoText)=some false)
  (w_NoLength_NoRow:PySem.W.kitOne K (.ref c_NoLength) (.ref c_NoRow)=some false)
  (w_NoLength_TooMany:PySem.W.kitOne K (.ref c_NoLength) (.ref c_TooMany)=some false)
  (ga_NoLength:PySem.W.findIn K (.ref c_NoLength) "__getattribute__" = some (some (.builtin "BaseException.__getattribute__")))
  (gn_NoLength:PySem.W.findIn K (.ref c_NoLength) "__getattr__" = some none)
  (fo_NoLength:∀ od,PySem.W.findObj K c_NoLength od "__class__" = some (.bind (.builtin "getset_descriptor.__get__") (.builtin "object.__class__")))
  (mo_NoLength:PySem.W.mroIn K c_NoLength (.type "object")=some true)
  (mb_NoLength:PySem.W.mroIn K c_NoLength (.type "BaseException")=some true)
  (xl_NoNumber:K.lookup c_NoNumber=some ⟨.type "type",xdd_NoNumber,.cls xcd_NoNumber,xsl_NoNumber⟩)
  (xm_NoNumber:xcd_NoNumber.mro = .ref c_NoNumber :: .ref c_BarError::bmV)
  (xs_NoNumber:xsl_NoNumber.toList=[xk0_NoNumber,xk1_NoNumber,xk2_NoNumber,xk3_NoNumber,some (.builtin "ValueError.__new__"),xk5_NoNumber])
  (xd_NoNumber:xcd_NoNumber.hasDel=false)
  (xn_NoNumber:xcd_NoNumber.ns=xN_NoNumber)
  (xo_NoNumber:K.lookup xN_NoNumber=some ⟨xc_NoNumber,xd2_NoNumber,.dict xes_NoNumber xep_NoNumber,xs2_NoNumber⟩)
  (xe_NoNumber:xes_NoNumber.toList.all jW=true)
  (xi_NoNumber:PySem.W.nsIn K xN_NoNumber "__init__" = some none)
  (e_NoNumber:PySem.W.mroIn K c_NoNumber (.ref c_BarError)=some true)
  (v_NoNumber:PySem.W.kitOne K (.ref c_NoNumber) (.type "ValueError")=some true)
  (w_NoNumber_NoLength:PySem.W.kitOne K (.ref c_NoNumber) (.ref c_NoLength)=some false)
  (w_NoNumber_NoNumber:PySem.W.kitOne K (.ref c_NoNumber) (.ref c_NoNumber)=some true)
  (w_NoNumber_NoBars:PySem.W.kitOne K (.ref c_NoNumber) (.ref c_NoBars)=some false)
  (w_NoNumber_NoBox:PySem.W.kitOne K (.ref c_NoNumber) (.ref c_NoBox)=some false)
  (w_NoNumber_NoWeights:PySem.W.kitOne K (.ref c_NoNumber) (.ref c_NoWeights)=some false)
  (w_NoNumber_NoSorts:PySem.W.kitOne K (.ref c_NoNumber) (.ref c_NoSorts)=some false)
  (w_NoNumber_NoTurn:PySem.W.kitOne K (.ref c_NoNumber) (.ref c_NoTurn)=some false)
  (w_NoNumber_NoPlace:PySem.W.kitOne K (.ref c_NoNumber) (.ref c_NoPlace)=some false)
  (w_NoNumber_NoText:PySem.W.kitOne K (.ref c_NoNumber) (.ref c_NoText)=some false)
  (w_NoNumber_NoRow:PySem.W.kitOne K (.ref c_NoNumber) (.ref c_NoRow)=some false)
  (w_NoNumber_TooMany:PySem.W.kitOne K (.ref c_NoNumber) (.ref c_TooMany)=some false)
  (ga_NoNumber:PySem.W.findIn K (.ref c_NoNumber) "__getattribute__" = some (some (.builtin "BaseException.__getattribute__")))
  (gn_NoNumber:PySem.W.findIn K (.ref c_NoNumber) "__getattr__" = some none)
  (fo_NoNumber:∀ od,PySem.W.findObj K c_NoNumber od "__class__" = some (.bind (.builtin "getset_descriptor.__get__") (.builtin "object.__class__")))
  (mo_NoNumber:PySem.W.mroIn K c_NoNumber (.type "object")=some true)
  (mb_NoNumber:PySem.W.mroIn K c_NoNumber (.type "BaseException")=some true)
  (ds:Dist ⟨c_BarError,c_NoLength,c_NoNumber,c_NoBars,c_NoBox,c_NoWeights,c_NoSorts,c_NoTurn,c_NoPlace,c_NoText,c_NoRow,c_TooMany,ff0,ff1,ff2,ff3,ff4,ff5,ff6,ff7,ff8,ff9,ff10,ff11,ff12,ff13,ff14,ff15,ff16,ff17,ff18,ff19,ff20,ff21,ff22,ff23,ff24,ff25,ff26⟩) :
  ∃ fd:FuncData,(∀ (s:Shared) (v:Value),BindsTo s fd ⟨[v],[]⟩ [("_law_script",v)]) ∧ ∀ base:Heap,K.In base->base.Ns mainGlobals mg->FnOk l.prog w K mg base (CXF l.prog w) 10 fa fd ["_law_script"] (spL K):=by
 have e:ff26=fa:=Value.ref.inj (Option.some.inj ((PySem.W.mg_of X G aa26).symm.trans hfa))
 subst e
 have V:Env K mg ⟨c_BarError,c_NoLength,c_NoNumber,c_NoBars,c_NoBox,c_NoWeights,c_NoSorts,c_NoTurn,c_NoPlace,c_NoText,c_NoRow,c_TooMany,ff0,ff1,ff2,ff3,ff4,ff5,ff6,ff7,ff8,ff9,ff10,ff11,ff12,ff13,ff14,ff15,ff16,ff17,ff18,ff19,ff20,ff21,ff22,ff23,ff24,ff25,ff26⟩:=by
  refine { kit:=⟨fun t c b hk => ?_,fun x c b hk => ?_⟩,nk:=qGm nkt,n_ValueError:=PySem.W.mg_none_of X G n_ValueError,n_abs:=PySem.W.mg_none_of X G n_abs,n_all:=PySem.W.mg_none_of X G n_all,n_bool:=PySem.W.mg_none_of X G n_bool,n_int:=PySem.W.mg_none_of X G n_int,n_isinstance:=PySem.W.mg_none_of X G n_isinstance,n_len:=PySem.W.mg_none_of X G n_len,n_list:=PySem.W.mg_none_of X G n_list,n_max:=PySem.W.mg_none_of X G n_max,n_min:=PySem.W.mg_none_of X G n_min,n_range:=PySem.W.mg_none_of X G n_range,n_sum:=PySem.W.mg_none_of X G n_sum,n_tuple:=PySem.W.mg_none_of X G n_tuple,n_zip:=PySem.W.mg_none_of X G n_zip,n_enumerate:=PySem.W.mg_none_of X G n_enumerate,c_LEAST_LENGTH:=⟨_,PySem.W.mg_of X G g_LEAST_LENGTH⟩,c_MOST_LENGTH:=⟨_,PySem.W.mg_of X G g_MOST_LENGTH⟩,c_MOST_WIDTH:=⟨_,PySem.W.mg_of X G g_MOST_WIDTH⟩,c_MOST_COLUMNS:=⟨_,PySem.W.mg_of X G g_MOST_COLUMNS⟩,k_BarError:=PySem.W.mg_of X G q_BarError,k_NoLength:=PySem.W.mg_of X G q_NoLength,k_NoNumber:=PySem.W.mg_of X G q_NoNumber,k_NoBars:=PySem.W.mg_of X G q_NoBars,k_NoBox:=PySem.W.mg_of X G q_NoBox,k_NoWeights:=PySem.W.mg_of X G q_NoWeights,k_NoSorts:=PySem.W.mg_of X G q_NoSorts,k_NoTurn:=PySem.W.mg_of X G q_NoTurn,k_NoPlace:=PySem.W.mg_of X G q_NoPlace,k_NoText:=PySem.W.mg_of X G q_NoText,k_NoRow:=PySem.W.mg_of X G q_NoRow,k_TooMany:=PySem.W.mg_of X G q_TooMany,x_NoLength:=qD9 xl_NoLength xm_NoLength xs_NoLength xd_NoLength (by rw [xn_NoLength];exact yg xo_NoLength xe_NoLength) (by rw [xn_NoLength];exact xi_NoLength) oB (by rw [nB];exact yg oNB eNB) (by rw [nB];exact iNB),e_NoLength:=e_NoLength,x_NoNumber:=qD9 xl_NoNumber xm_NoNumber xs_NoNumber xd_NoNumber (by rw [xn_NoNumber];exact yg xo_NoNumber xe_NoNumber) (by rw [xn_NoNumber];exact xi_NoNumber) oB (by rw [nB];exact yg oNB eNB) (by rw [nB];exact iNB),e_NoNumber:=e_NoNumber,o_BarError:=⟨_,_,_,oB⟩,b_BarError:=bB,m_is_whole:=PySem.W.mg_of X G aa0,f_is_whole:=⟨_,qx (st:=WJ) ll0 dd0 kk0⟩,m_is_whole_within:=PySem.W.mg_of X G aa1,f_is_whole_within:=⟨_,qx (st:=QH) ll1 dd1 kk1⟩,m_is_length:=PySem.W.mg_of X G aa2,f_is_length:=⟨_,qx (st:=wf) ll2 dd2 kk2⟩,m_need_number:=PySem.W.mg_of X G aa3,f_need_number:=⟨_,qx (st:=Qi) ll3 dd3 kk3⟩,m_need_length:=PySem.W.mg_of X G aa4,f_need_length:=⟨_,qx (st:=Ql) ll4 dd4 kk4⟩,m_columns_behind:=PySem.W.mg_of X G aa5,f_columns_behind:=⟨_,qx (st:=QS) ll5 dd5 kk5⟩,m_layer_of:=PySem.W.mg_of X G aa6,f_layer_of:=⟨_,qx (st:=wc) ll6 dd6 kk6⟩,m_strip_counts:=PySem.W.mg_of X G aa7,f_strip_counts:=⟨_,qx (st:=Qt) ll7 dd7 kk7⟩,m_come_to:=PySem.W.mg_of X G aa8,f_come_to:=⟨_,qx (st:=WL) ll8 dd8 kk8⟩,m_common_divisor:=PySem.W.mg_of X G aa9,f_common_divisor:=⟨_,qx (st:=QA) ll9 dd9 kk9⟩,m_mended:=PySem.W.mg_of X G aa10,f_mended:=⟨_,qx (st:=Wc) ll10 dd10 kk10⟩,m_shortest_numbers:=PySem.W.mg_of X G aa11,f_shortest_numbers:=⟨_,qx (st:=qm) ll11 dd11 kk11⟩,m_rule_of:=PySem.W.mg_of X G aa12,f_rule_of:=⟨_,qx (st:=Wa) ll12 dd12 kk12⟩,m_law_cell:=PySem.W.mg_of X G aa13,f_law_cell:=⟨_,qx (st:=WI) ll13 dd13 kk13⟩,m_law_box:=PySem.W.mg_of X G aa14,f_law_box:=⟨_,qx (st:=WZ) ll14 dd14 kk14⟩,m_law_take:=PySem.W.mg_of X G aa15,f_law_take:=⟨_,qx (st:=WD) ll15 dd15 kk15⟩,m_law_whole:=PySem.W.mg_of X G aa16,f_law_whole:=⟨_,qx (st:=wj) ll16 dd16 kk16⟩,m_law_kind:=PySem.W.mg_of X G aa17,f_law_kind:=⟨_,qx (st:=WN) ll17 dd17 kk17⟩,m_law_same:=PySem.W.mg_of X G aa18,f_law_same:=⟨_,qx (st:=wa) ll18 dd18 kk18⟩,m_law_no_length:=PySem.W.mg_of X G aa19,f_law_no_length:=⟨_,qx (st:=Qc) ll19 dd19 kk19⟩,m_law_after:=PySem.W.mg_of X G aa20,f_law_after:=⟨_,qx (st:=wk) ll20 dd20 kk20⟩,m_law_counts:=PySem.W.mg_of X G aa21,f_law_counts:=⟨_,qx (st:=wN) ll21 dd21 kk21⟩,m_law_no_width:=PySem.W.mg_of X G aa22,f_law_no_width:=⟨_,qx (st:=Qp) ll22 dd22 kk22⟩,m_law_is_rule:=PySem.W.mg_of X G aa23,f_law_is_rule:=⟨_,qx (st:=Q2) ll23 dd23 kk23⟩,m_law_apart:=PySem.W.mg_of X G aa24,f_law_apart:=⟨_,qx (st:=wC) ll24 dd24 kk24⟩,m_law_asked:=PySem.W.mg_of X G aa25,f_law_asked:=⟨_,qx (st:=wJ) ll25 dd25 kk25⟩,m_law:=PySem.W.mg_of X G aa26,f_law:=⟨_,qx (st:=zU) ll26 dd26 kk26⟩ }
  ·have hnd:=ds.nd
   unfold kit at hk
   split at hk
   ·exact qFp hk
   ·split at hk
    ·rename_i x d hx
     cases hk
     have hx1:=hx.1
     have hx2:=hx.2
     unfold Qa at hx1
     unfold Ad.kinds at hx2
     simp only [List.mem_cons,List.not_mem_nil,or_false] at hx1 hx2
     rcases hx1 with e1 |e1
     ·rcases hx2 with e2 |e2 |e2 |e2 |e2 |e2 |e2 |e2 |e2 |e2 |e2
      ·rw [e1,e2,beq_self_eq_true];exact w_NoLength_NoLength
      ·rw [e1,e2,show (c_NoLength==c_NoNumber)=false from beq_eq_false_iff_ne.mpr (qu ds).1];exact w_NoLength_NoNumber
      ·rw [e1,e2,show (c_NoLength==c_NoBars)=false from beq_eq_false_iff_ne.mpr (qu ds).2.1];exact w_NoLength_NoBars
      ·rw [e1,e2,show (c_NoLength==c_NoBox)=false from beq_eq_false_iff_ne.mpr (qu ds).2.2.1];exact w_NoLength_NoBox
      ·rw [e1,e2,show (c_NoLength==c_NoWeights)=false from beq_eq_false_iff_ne.mpr (qu ds).2.2.2.1];exact w_NoLength_NoWeights
      ·rw [e1,e2,show (c_NoLength==c_NoSorts)=false from beq_eq_false_iff_ne.mpr (qu ds).2.2.2.2.1];exact w_NoLength_NoSorts
      ·rw [e1,e2,show (c_NoLength==c_NoTurn)=false from beq_eq_false_iff_ne.mpr (qu ds).2.2.2.2.2.1];exact w_NoLength_NoTurn
      ·rw [e1,e2,show (c_NoLength==c_NoPlace)=false from beq_eq_false_iff_ne.mpr (qu ds).2.2.2.2.2.2.1];exact w_NoLength_NoPlace
      ·rw [e1,e2,show (c_NoLength==c_NoText)=false from beq_eq_false_iff_ne.mpr (qu ds).2.2.2.2.2.2.2.1];exact w_NoLength_NoText
      ·rw [e1,e2,show (c_NoLength==c_NoRow)=false from beq_eq_false_iff_ne.mpr (qu ds).2.2.2.2.2.2.2.2.1];exact w_NoLength_NoRow
      ·rw [e1,e2,show (c_NoLength==c_TooMany)=false from beq_eq_false_iff_ne.mpr (qu ds).2.2.2.2.2.2.2.2.2];exact w_NoLength_TooMany
     ·rcases hx2 with e2 |e2 |e2 |e2 |e2 |e2 |e2 |e2 |e2 |e2 |e2
      ·rw [e1,e2,show (c_NoNumber==c_NoLength)=false from beq_eq_false_iff_ne.mpr (qt ds).1];exact w_NoNumber_NoLength
      ·rw [e1,e2,beq_self_eq_true];exact w_NoNumber_NoNumber
      ·rw [e1,e2,show (c_NoNumber==c_NoBars)=false from beq_eq_false_iff_ne.mpr (qt ds).2.1];exact w_NoNumber_NoBars
      ·rw [e1,e2,show (c_NoNumber==c_NoBox)=false from beq_eq_false_iff_ne.mpr (qt ds).2.2.1];exact w_NoNumber_NoBox
      ·rw [e1,e2,show (c_NoNumber==c_NoWeights)=false from beq_eq_false_iff_ne.mpr (qt ds).2.2.2.1];exact w_NoNumber_NoWeights
      ·rw [e1,e2,show (c_NoNumber==c_NoSorts)=false from beq_eq_false_iff_ne.mpr (qt ds).2.2.2.2.1];exact w_NoNumber_NoSorts
      ·rw [e1,e2,show (c_NoNumber==c_NoTurn)=false from beq_eq_false_iff_ne.mpr (qt ds).2.2.2.2.2.1];exact w_NoNumber_NoTurn
      ·rw [e1,e2,show (c_NoNumber==c_NoPlace)=false from beq_eq_false_iff_ne.mpr (qt ds).2.2.2.2.2.2.1];exact w_NoNumber_NoPlace
      ·rw [e1,e2,show (c_NoNumber==c_NoText)=false from beq_eq_false_iff_ne.mpr (qt ds).2.2.2.2.2.2.2.1];exact w_NoNumber_NoText
      ·rw [e1,e2,show (c_NoNumber==c_NoRow)=false from beq_eq_false_iff_ne.mpr (qt ds).2.2.2.2.2.2.2.2.1];exact w_NoNumber_NoRow
      ·rw [e1,e2,show (c_NoNumber==c_TooMany)=false from beq_eq_false_iff_ne.mpr (qt ds).2.2.2.2.2.2.2.2.2];exact w_NoNumber_TooMany
    ·cases hk
   ·split at hk
    ·rename_i x T hx
     cases hk
     have hx1:=hx.1
     have hx2:=hx.2
     subst hx2
     unfold Qa at hx1
     simp only [List.mem_cons,List.not_mem_nil,or_false] at hx1
     rcases hx1 with e1 |e1
     ·rw [e1];exact v_NoLength
     ·rw [e1];exact v_NoNumber
    ·cases hk
   ·cases hk
  ·have hm:=qGx hk
   unfold Qa at hm
   simp only [List.mem_cons,List.not_mem_nil,or_false] at hm
   rcases hm with e1 |e1
   ·rw [e1];exact ⟨ga_NoLength,gn_NoLength,fo_NoLength,mo_NoLength,mb_NoLength⟩
   ·rw [e1];exact ⟨ga_NoNumber,gn_NoNumber,fo_NoNumber,mo_NoNumber,mb_NoNumber⟩
 refine ⟨PySem.W.fnOf "law" "law" (qc zU) (qZ zU) (qK zU) .none kV26 dc26 pm26 an26 cd26 ct26,fun s v => .of_eq rfl,fun base _ _ => ?_⟩
 exact qGK (qKJ V (qx (st:=zU) ll26 dd26 kk26)) fun vs H Q E q=>q _ ds
theorem qFQ {l:PySem.W.OpenLaw} {n k:Nat} {q:Program} {loose:List Str} {XP:(Str->Option Value)->Heap->Prop} {YP:World->Heap->Prop} {d:DefRec} {K:Params->W.Frag} {CX:World->CXT} {sp:World->Sp} {x:Str}
  (hn:l.most=some n) (hn2:n≤sizeLine) (hdf:d.params.defaults=[]) (hr:Room k callerA)
  (hY:∀ (w:World) (h:Heap),YP w h->(K w.params).In h)
  (F:∀ (w:World) (mg:Str->Option Value) (fa:Addr) (h:Heap),(K w.params).In h->h.Ns mainGlobals mg->XP mg h->mg d.name=some (.ref fa) ->
   ∃ fd:FuncData,(∀ (s:Shared) (u:Value),BindsTo s fd ⟨[u],[]⟩ [(x,u)]) ∧
    ∀ base:Heap,(K w.params).In base->base.Ns mainGlobals mg->FnOk l.prog w (K w.params) mg base (CX w) k fa fd [x] (sp w))
  (hsp:∀ (w:World) (H:Hp) (a:Addr) (ns:List Int),ns.length≤n->(∀ k∈ns,Builtin.Int.intBits k≤2 ^ 20)->qH3 H->SqL (K w.params) H a (ns.map V.int)->sp w [.ref a] H (fun v _=>v = .bl true) fun _ _ _=>False)
  (hCX:∀ (w:World) (H:Hp) (s:Shared) (e:Value) (s':Shared),CX w [] H s (fun _ _ _=>False) e s'->False) :
  PySem.W.WalkO q loose XP YP l.row.toRowW d [] (fun f vs=>PySem.call f vs):=by
 refine Att.attach_callB hn hdf fun w s₀ s₁ mg mb fa o pm cd doc a vs ns G Y ho hd hcd hmg hobj hints hlen hbits hg => ?_
 have KX:=hY w _ Y
 obtain ⟨fd,hb,hF⟩:=F w mg fa _ KX G.T.g G.X hmg
 exact qEY KX G.T.g G.T.b G.T.builtins G.T.nolimit hg hobj hints (Nat.le_trans hlen hn2) hr hF hb (fun H hO hS=>hsp w H a ns hlen hbits hO hS) fun H e s'=>hCX w H s₁ e s'
theorem J9 {K:W.Frag} {H:Hp} {b:Bz}:∀ ns:List Int,RVs K H b (ns.map PV.int) (ns.map V.int)
 |[]=>RVs.nil
 |n::ns=>RVs.cons Qk (J9 ns)
theorem qEl (key:∀ (a:Ad) (ns:List Int),Dist a->ns.length≤63->(∀ k∈ns,Builtin.Int.intBits k≤2 ^ 20) -> ∃ st,qAV a [.lst (ns.map PV.int)] [] = .ok (.bl true) st) {K:W.Frag} {H:Hp} {a:Addr} {ns:List Int} (hl:ns.length≤63) (hb:∀ k∈ns,Builtin.Int.intBits k≤2 ^ 20) (hS:SqL K H a (ns.map V.int)):spL K [.ref a] H (fun v _=>v = .bl true) fun _ _ _=>False:=by
 intro ad hd
 obtain ⟨st,e⟩:=key ad ns hd hl hb
 refine ⟨rfl,⟨[],[]⟩,[.lst (ns.map PV.int)],[],⟨rfl,List.nodup_nil,fun i x h=>by simp at h,fun a ha=>(List.not_mem_nil ha).elim,fun a ha=>(List.not_mem_nil ha).elim⟩,RVs.cons ?_ RVs.nil,?_⟩
 ·unfold RV
  exact ⟨a,_,rfl,hS.imp (fun h=>⟨h,List.not_mem_nil,List.not_mem_nil⟩) id,J9 ns⟩
 ·rw [e]
  intro v H' b' _ _ r
  unfold RV at r
  exact r
theorem walk31 (key:∀ (a:Ad) (ns:List Int),Dist a->ns.length≤63->(∀ k∈ns,Builtin.Int.intBits k≤2 ^ 20) -> ∃ st,qAV a [.lst (ns.map PV.int)] [] = .ok (.bl true) st) {l:PySem.W.OpenLaw} {q:Program} {loose:List Str} {XP:(Str->Option Value)->Heap->Prop} {YP:World->Heap->Prop} {d:DefRec} {K:Params->W.Frag} (hn:l.most=some 63) (hdf:d.params.defaults=[])
  (hY:∀ (w:World) (h:Heap),YP w h->(K w.params).In h)
  (F:∀ (w:World) (mg:Str->Option Value) (fa:Addr) (h:Heap),(K w.params).In h->h.Ns mainGlobals mg->XP mg h->mg d.name=some (.ref fa) ->
   ∃ fd:FuncData,(∀ (s:Shared) (u:Value),BindsTo s fd ⟨[u],[]⟩ [("_law_script",u)]) ∧ ∀ base:Heap,(K w.params).In base->base.Ns mainGlobals mg->FnOk l.prog w (K w.params) mg base (CXF l.prog w) 10 fa fd ["_law_script"] (spL (K w.params))) :
  PySem.W.WalkO q loose XP YP l.row.toRowW d [] (fun f vs=>PySem.call f vs) :=
 qFQ (n:=63) (k:=10) (x := "_law_script") (CX:=fun w=>CXF l.prog w) (sp:=fun w=>spL (K w.params)) hn (by decide) hdf ⟨fun _=>rfl,by decide,by decide⟩ hY F (fun _ _ a ns hl hb _ hS=>qEl key hl hb hS) fun _ _ _ _ _ z=>by
  obtain ⟨_,_,_,_,_,_,_,_,_,_,_,_,q⟩:=z
  exact q
end K73
end
section
def PySem.W.Fast.tw1177320334329662703:Nat:=0
def PySem.W.Fast.tw6798901471461802231:Nat:=0
def PySem.W.Fast.tw14024720898620208962:Nat:=0
def PySem.W.Fast.tw12079638871596306866:Nat:=0
def PySem.W.Fast.tw10298065418667688824:Nat:=0
def PySem.W.Fast.tw8195056813334494179:Nat:=0
def PySem.W.Fast.tw11117500319534609867:Nat:=0
def PySem.W.Fast.tw16751785244246851885:Nat:=0
def PySem.W.Fast.tw349451231765913973:Nat:=0
def PySem.W.Fast.tw5718316096766104039:Nat:=0
def PySem.W.Fast.tw16011290484993004925:Nat:=0
def PySem.W.Fast.tw5816106075288032772:Nat:=0
def PySem.W.Fast.tw11816929873132037453:Nat:=0
def PySem.W.Fast.tw8995217246588059521:Nat:=0
def PySem.W.Fast.tw8427443071556068702:Nat:=0
def PySem.W.Fast.tw14618220880277293361:Nat:=0
def PySem.W.Fast.tw7844009395054226941:Nat:=0
def PySem.W.Fast.tw9882418787167372387:Nat:=0
def PySem.W.Fast.tw12987074363492642346:Nat:=0
def PySem.W.Fast.tw13574860344250121658:Nat:=0
def PySem.W.Fast.tw17820162461977650493:Nat:=0
def PySem.W.Fast.tw10526656544838159219:Nat:=0
def PySem.W.Fast.tw7508845062850805262:Nat:=0
def PySem.W.Fast.tw16105763050673824248:Nat:=0
def PySem.W.Fast.tw10914430627739041796:Nat:=0
def PySem.W.Fast.tw2019268105778345314:Nat:=0
def PySem.W.Fast.tw7485895041307325050:Nat:=0
def PySem.W.Fast.tw7738567782686850943:Nat:=0
def PySem.W.Fast.tw1549802542322795613:Nat:=0
def PySem.W.Fast.tw11263388550782467564:Nat:=0
def PySem.W.Fast.tw16250440576674092884:Nat:=0
def PySem.W.Fast.tw9667548437641997771:Nat:=0
def PySem.W.Fast.tw10060788424663026463:Nat:=0
def PySem.W.Fast.tw17971752222494179067:Nat:=0
def PySem.W.Fast.tw6174181681751398259:Nat:=0
def PySem.W.Fast.tw12135573192487893155:Nat:=0
def PySem.W.Fast.tw10849146547603075832:Nat:=0
def PySem.W.Fast.tw14248246991968888375:Nat:=0
def PySem.W.Fast.tw8182615290147772670:Nat:=0
def PySem.W.Fast.tw299480504287404499:Nat:=0
def PySem.W.Fast.tw13937294353324084158:Nat:=0
def PySem.W.Fast.tw12175721642327705500:Nat:=0
def PySem.W.Fast.tw14497864376231084636:Nat:=0
def PySem.W.Fast.tw12805597468410021634:Nat:=0
def PySem.W.Fast.tw18175055053116132015:Nat:=0
def PySem.W.Fast.tw13619496865774750262:Nat:=0
def PySem.W.Fast.tw12640774103315558768:Nat:=0
def PySem.W.Fast.tw11367436697178300096:Nat:=0
open PySem PySem.W PyProof.Rows
set_option maxRecDepth 100000 in
set_option maxHeartbeats 0 in
theorem PySem.Challenge.cw_barfloors_k73_rules_told_holds : PySem.Challenge.rw_barfloors_k73_rules_told.Holds := by
  w_on; o_law; k_head; (case hw => w_witness2)
  k_fill
  refine K73.walk31 K73.law_true (l := PySem.Challenge.rw_barfloors_k73_rules_told) rfl rfl (fun w h Y => PySem.W.kIn_of Y) ?F
  case F =>
    intro w mg fa h KX G XX hmg
    refine' K73.all_mk KX G hmg ?aa0 ?ll0 ?dd0 ?kk0 ?aa1 ?ll1 ?dd1 ?kk1 ?aa2 ?ll2 ?dd2 ?kk2 ?aa3 ?ll3 ?dd3 ?kk3 ?aa4 ?ll4 ?dd4 ?kk4 ?aa5 ?ll5 ?dd5 ?kk5 ?aa6 ?ll6 ?dd6 ?kk6 ?aa7 ?ll7 ?dd7 ?kk7 ?aa8 ?ll8 ?dd8 ?kk8 ?aa9 ?ll9 ?dd9 ?kk9 ?aa10 ?ll10 ?dd10 ?kk10 ?aa11 ?ll11 ?dd11 ?kk11 ?aa12 ?ll12 ?dd12 ?kk12 ?aa13 ?ll13 ?dd13 ?kk13 ?aa14 ?ll14 ?dd14 ?kk14 ?aa15 ?ll15 ?dd15 ?kk15 ?aa16 ?ll16 ?dd16 ?kk16 ?aa17 ?ll17 ?dd17 ?kk17 ?aa18 ?ll18 ?dd18 ?kk18 ?aa19 ?ll19 ?dd19 ?kk19 ?aa20 ?ll20 ?dd20 ?kk20 ?aa21 ?ll21 ?dd21 ?kk21 ?aa22 ?ll22 ?dd22 ?kk22 ?aa23 ?ll23 ?dd23 ?kk23 ?aa24 ?ll24 ?dd24 ?kk24 ?aa25 ?ll25 ?dd25 ?kk25 ?aa26 ?ll26 ?dd26 ?kk26 ?n_ValueError ?n_abs ?n_all ?n_bool ?n_int ?n_isinstance ?n_len ?n_list ?n_max ?n_min ?n_range ?n_sum ?n_tuple ?n_zip ?n_enumerate ?g_LEAST_LENGTH ?g_MOST_LENGTH ?g_MOST_WIDTH ?g_MOST_COLUMNS ?nkt ?q_BarError ?q_NoLength ?q_NoNumber ?q_NoBars ?q_NoBox ?q_NoWeights ?q_NoSorts ?q_NoTurn ?q_NoPlace ?q_NoText ?q_NoRow ?q_TooMany ?oB ?nB ?oNB ?eNB ?iNB ?bB ?xl_NoLength ?xm_NoLength ?xs_NoLength ?xd_NoLength ?xn_NoLength ?xo_NoLength ?xe_NoLength ?xi_NoLength ?e_NoLength ?v_NoLength ?w_NoLength_NoLength ?w_NoLength_NoNumber ?w_NoLength_NoBars ?w_NoLength_NoBox ?w_NoLength_NoWeights ?w_NoLength_NoSorts ?w_NoLength_NoTurn ?w_NoLength_NoPlace ?w_NoLength_NoText ?w_NoLength_NoRow ?w_NoLength_TooMany ?ga_NoLength ?gn_NoLength ?fo_NoLength ?mo_NoLength ?mb_NoLength ?xl_NoNumber ?xm_NoNumber ?xs_NoNumber ?xd_NoNumber ?xn_NoNumber ?xo_NoNumber ?xe_NoNumber ?xi_NoNumber ?e_NoNumber ?v_NoNumber ?w_NoNumber_NoLength ?w_NoNumber_NoNumber ?w_NoNumber_NoBars ?w_NoNumber_NoBox ?w_NoNumber_NoWeights ?w_NoNumber_NoSorts ?w_NoNumber_NoTurn ?w_NoNumber_NoPlace ?w_NoNumber_NoText ?w_NoNumber_NoRow ?w_NoNumber_TooMany ?ga_NoNumber ?gn_NoNumber ?fo_NoNumber ?mo_NoNumber ?mb_NoNumber ?ds
    (case aa0 => k_is)
    (case ll0 => k_is)
    (case dd0 => k_is)
    (case kk0 => k_is)
    (case aa1 => k_is)
    (case ll1 => k_is)
    (case dd1 => k_is)
    (case kk1 => k_is)
    (case aa2 => k_is)
    (case ll2 => k_is)
    (case dd2 => k_is)
    (case kk2 => k_is)
    (case aa3 => k_is)
    (case ll3 => k_is)
    (case dd3 => k_is)
    (case kk3 => k_is)
    (case aa4 => k_is)
    (case ll4 => k_is)
    (case dd4 => k_is)
    (case kk4 => k_is)
    (case aa5 => k_is)
    (case ll5 => k_is)
    (case dd5 => k_is)
    (case kk5 => k_is)
    (case aa6 => k_is)
    (case ll6 => k_is)
    (case dd6 => k_is)
    (case kk6 => k_is)
    (case aa7 => k_is)
    (case ll7 => k_is)
    (case dd7 => k_is)
    (case kk7 => k_is)
    (case aa8 => k_is)
    (case ll8 => k_is)
    (case dd8 => k_is)
    (case kk8 => k_is)
    (case aa9 => k_is)
    (case ll9 => k_is)
    (case dd9 => k_is)
    (case kk9 => k_is)
    (case aa10 => k_is)
    (case ll10 => k_is)
    (case dd10 => k_is)
    (case kk10 => k_is)
    (case aa11 => k_is)
    (case ll11 => k_is)
    (case dd11 => k_is)
    (case kk11 => k_is)
    (case aa12 => k_is)
    (case ll12 => k_is)
    (case dd12 => k_is)
    (case kk12 => k_is)
    (case aa13 => k_is)
    (case ll13 => k_is)
    (case dd13 => k_is)
    (case kk13 => k_is)
    (case aa14 => k_is)
    (case ll14 => k_is)
    (case dd14 => k_is)
    (case kk14 => k_is)
    (case aa15 => k_is)
    (case ll15 => k_is)
    (case dd15 => k_is)
    (case kk15 => k_is)
    (case aa16 => k_is)
    (case ll16 => k_is)
    (case dd16 => k_is)
    (case kk16 => k_is)
    (case aa17 => k_is)
    (case ll17 => k_is)
    (case dd17 => k_is)
    (case kk17 => k_is)
    (case aa18 => k_is)
    (case ll18 => k_is)
    (case dd18 => k_is)
    (case kk18 => k_is)
    (case aa19 => k_is)
    (case ll19 => k_is)
    (case dd19 => k_is)
    (case kk19 => k_is)
    (case aa20 => k_is)
    (case ll20 => k_is)
    (case dd20 => k_is)
    (case kk20 => k_is)
    (case aa21 => k_is)
    (case ll21 => k_is)
    (case dd21 => k_is)
    (case kk21 => k_is)
    (case aa22 => k_is)
    (case ll22 => k_is)
    (case dd22 => k_is)
    (case kk22 => k_is)
    (case aa23 => k_is)
    (case ll23 => k_is)
    (case dd23 => k_is)
    (case kk23 => k_is)
    (case aa24 => k_is)
    (case ll24 => k_is)
    (case dd24 => k_is)
    (case kk24 => k_is)
    (case aa25 => k_is)
    (case ll25 => k_is)
    (case dd25 => k_is)
    (case kk25 => k_is)
    (case aa26 => k_is)
    (case ll26 => k_is)
    (case dd26 => k_is)
    (case kk26 => k_is)
    (case n_ValueError => k_is)
    (case n_abs => k_is)
    (case n_all => k_is)
    (case n_bool => k_is)
    (case n_int => k_is)
    (case n_isinstance => k_is)
    (case n_len => k_is)
    (case n_list => k_is)
    (case n_max => k_is)
    (case n_min => k_is)
    (case n_range => k_is)
    (case n_sum => k_is)
    (case n_tuple => k_is)
    (case n_zip => k_is)
    (case n_enumerate => k_is)
    (case g_LEAST_LENGTH => k_is)
    (case g_MOST_LENGTH => k_is)
    (case g_MOST_WIDTH => k_is)
    (case g_MOST_COLUMNS => k_is)
    (case nkt => rfl)
    (case q_BarError => k_is)
    (case q_NoLength => k_is)
    (case q_NoNumber => k_is)
    (case q_NoBars => k_is)
    (case q_NoBox => k_is)
    (case q_NoWeights => k_is)
    (case q_NoSorts => k_is)
    (case q_NoTurn => k_is)
    (case q_NoPlace => k_is)
    (case q_NoText => k_is)
    (case q_NoRow => k_is)
    (case q_TooMany => k_is)
    (case oB => k_is)
    (case nB => rfl)
    (case oNB => k_is)
    (case eNB => rfl)
    (case iNB => k_is)
    (case bB => k_is)
    (case xl_NoLength => k_is)
    (case xm_NoLength => rfl)
    (case xs_NoLength => rfl)
    (case xd_NoLength => rfl)
    (case xn_NoLength => rfl)
    (case xo_NoLength => k_is)
    (case xe_NoLength => rfl)
    (case xi_NoLength => k_is)
    (case e_NoLength => k_is)
    (case v_NoLength => rfl)
    (case w_NoLength_NoLength => rfl)
    (case w_NoLength_NoNumber => rfl)
    (case w_NoLength_NoBars => rfl)
    (case w_NoLength_NoBox => rfl)
    (case w_NoLength_NoWeights => rfl)
    (case w_NoLength_NoSorts => rfl)
    (case w_NoLength_NoTurn => rfl)
    (case w_NoLength_NoPlace => rfl)
    (case w_NoLength_NoText => rfl)
    (case w_NoLength_NoRow => rfl)
    (case w_NoLength_TooMany => rfl)
    (case ga_NoLength => k_is)
    (case gn_NoLength => k_is)
    (case fo_NoLength => (intro od; rfl))
    (case mo_NoLength => k_is)
    (case mb_NoLength => k_is)
    (case xl_NoNumber => k_is)
    (case xm_NoNumber => rfl)
    (case xs_NoNumber => rfl)
    (case xd_NoNumber => rfl)
    (case xn_NoNumber => rfl)
    (case xo_NoNumber => k_is)
    (case xe_NoNumber => rfl)
    (case xi_NoNumber => k_is)
    (case e_NoNumber => k_is)
    (case v_NoNumber => rfl)
    (case w_NoNumber_NoLength => rfl)
    (case w_NoNumber_NoNumber => rfl)
    (case w_NoNumber_NoBars => rfl)
    (case w_NoNumber_NoBox => rfl)
    (case w_NoNumber_NoWeights => rfl)
    (case w_NoNumber_NoSorts => rfl)
    (case w_NoNumber_NoTurn => rfl)
    (case w_NoNumber_NoPlace => rfl)
    (case w_NoNumber_NoText => rfl)
    (case w_NoNumber_NoRow => rfl)
    (case w_NoNumber_TooMany => rfl)
    (case ga_NoNumber => k_is)
    (case gn_NoNumber => k_is)
    (case fo_NoNumber => (intro od; rfl))
    (case mo_NoNumber => k_is)
    (case mb_NoNumber => k_is)
    (case ds => decide)
end
