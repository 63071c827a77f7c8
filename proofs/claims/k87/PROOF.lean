import PyProof.Rows.All
import Wide.All
import OpenK.AllK
import Wide.FinOn
import PyProof.EqAt
import PyProof.EqKinds
import PyProof.TupleCall
import Lean
import PyProof.NeKinds
import PyProof.Rows.RuleDivmod
import PyProof.Rows.FactsN_divmod
import PyProof.DictItems
import KE.KPairComp
import PyProof.Draws
import PySem.Challenge.RW_barfloors_k87_line_papers_looked_at
set_option Elab.async false
set_option linter.all false
set_option maxRecDepth 100000
set_option maxHeartbeats 0
section
namespace EX
open PySem PySem.Spec PyProof.Rows
theorem j6:entryFor table "proto.unchain" = some Builtin.«proto.unchain» := entryFor_of_fast (by kernel_rfl)
def Hnd (A:Around) (h:Heap):Prop := ∀ v,A.handled=some v -> ∃ ea oe vs,v=Value.ref ea∧h.get? ea=some oe∧oe.data = .fields vs∧vs[2]? = some .none
section
variable {prog:Program} {w:World} {A:Around} {E:Value->Shared->Prop} {s:Shared}
theorem qAR {e v:Value} {ea:Addr} {oe:Obj} {vs:Array Value} {Q:Value->Shared->Prop} (ho:s.heap.get? ea=some oe) (hd:oe.data = .fields vs) (h2:vs[2]? = some .none) (hq:Q .none s) :
  wpAny (model prog w) A (runValue (.builtin "proto.unchain" ⟨[e,.ref ea,v,.bool false],[]⟩)) Q E s:=by
 refine wpAny_runValue (codeAny_builtin j6 ?_)
 unfold Builtin.«proto.unchain»
 dsimp only
 refine wpAny_bind (wpAny_field ho hd h2 ?_)
 rw [if_pos (show (Value.none==Value.none)=true by rfl)]
 refine wpAny_bind (wpAny_pure (wpAny_pure ?_))
 exact hq
theorem qAm {α:Type} {e:Addr} {oe:Obj} {vs:Array Value} {Q:α->Shared->Prop} (hn:Hnd A s.heap) (he:s.heap.get? e=some oe) (hd:oe.data = .fields vs) (hsz:2 < vs.size) (hne:∀ ea,A.handled=some (.ref ea)->ea≠e)
  (h:∀ h' o',Heap.SameBut e s.heap h'->h'.get? e=some o'->o'.cls=oe.cls->E (.ref e) { s with heap:=h' }):wpAny (model prog w) A (raiseNew (.ref e):Sem α) Q E s:=by
 unfold raiseNew
 refine wpAny_bind (wpAny_handled ?_)
 cases hh:A.handled with
 |none=>exact wpAny_bind (wpAny_pure (wpAny_throw (h s.heap oe (.refl ..) he rfl)))
 |some v =>
  obtain ⟨ea,o,ws,rfl,ho,hdo,h2⟩:=hn v hh
  have hne':=hne ea hh
  have hb:(Value.ref ea != Value.ref e)=true:=by
   rw [bne_iff_ne];intro z;cases z;exact hne' rfl
  dsimp only
  rw [if_pos hb]
  refine wpAny_bind (wpAny_holding (qAR ho hdo h2 ?_))
  refine wpAny_bind (wpAny_setField (x:=Value.ref ea) he hd hsz (wpAny_throw ?_))
  exact h _ _ (Heap.SameBut.update ..) (Heap.get?_update_self _ he (Obj.isFreed_of_fields (Obj.data_mapFields hd _))) (Obj.cls_mapFields ..)
theorem zD {α:Type} {Q:α->Shared->Prop} (hn:Hnd A s.heap) (h:∀ h' e,(∀ b o,s.heap.get? b=some o->h'.get? b=some o)->(∃ o',h'.get? e=some o'∧o'.cls = .type "StopIteration")->E (.ref e) { s with heap:=h' }) :
  wpAny (model prog w) A (newExc (.type "StopIteration") [] >>= fun e=>(raiseNew e:Sem α)) Q E s:=by
 refine wpAny_bind ?_
 unfold newExc newTuple
 refine wpAny_bind (wpAny_newObj_type ?_ (by size_fits))
 refine wpAny_bind (m:=firstArgMember _ _) (wpAny_of_eq (a:=Value.none) (by first |rfl |(simp only [firstArgMember];rfl)) ?_)
 refine wpAny_newObj_type ?_ (by size_fits)
 have up:∀ {b o},s.heap.get? b=some o->((s.heap.push { cls := .type "tuple",data := .seq ([]:List Value).toArray }).push { cls := .type "StopIteration",data := .fields (#[.ref s.heap.objs.size,.none,.none,.none,.bool false,.none]++ownMembersOf (.type "StopIteration") []) }).get? b=some o:=fun q=>Heap.get?_push_of_some _ (Heap.get?_push_of_some _ q)
 refine qAm (oe:={ cls := .type "StopIteration",data := .fields (#[.ref s.heap.objs.size,.none,.none,.none,.bool false,.none]++ownMembersOf (.type "StopIteration") []) }) ?_ (Heap.get?_push_size _ rfl) rfl (by simp [ownMembersOf]) (fun ea hea => ?_) fun h' o' sb ho' hc=>h h' _ (fun b o q => ?_) ⟨o',ho',hc⟩
 ·intro v hv
  obtain ⟨ea,oe,vs,e1,e2,e3⟩:=hn v hv
  exact ⟨ea,oe,vs,e1,up e2,e3⟩
 ·obtain ⟨ea',oe,vs,e1,e2,e3⟩:=hn _ hea
  cases e1
  exact Nat.ne_of_lt (Nat.lt_trans (Heap.lt_size e2) (by simp))
 ·exact (sb.2 b (Nat.ne_of_lt (Nat.lt_trans (Heap.lt_size q) (by simp)))).trans (up q)
theorem list_end {it l:Addr} {i:Nat} {items} {Q:Option Value->Shared->Prop} (hn:Hnd A s.heap) (z1:s.heap.IsListIter it l i) (z2:s.heap.IsList l items) (z3:items[i]? = none) (z4:∀ v,A.handled=some v->v ≠ .ref it)
  (hQ:∀ h',(∀ b o,b≠it->s.heap.get? b=some o->h'.get? b=some o)->Q none { s with heap:=h' }):wpAny (model prog w) A (pyNext (.ref it)) Q E s:=by
 obtain ⟨ob,g1,g2,g3⟩:=id z1
 obtain ⟨ol,g4,_,nl,g5⟩:=z2
 unfold pyNext
 refine wpAny_bind (wpAny_attempt (wpAny_callSpecial?_slot (name:=Str.ofString "__next__") z1.typeIs slot_listiter_next (wpAny_call_entry slot_listiter_next z1.typeIs entry_listiter_next ?_ (args_listiter_next _))))
 change wpAny _ A.in1 (field (Value.ref it) 0 >>= _) _ _ s
 refine wpAny_bind (wpAny_field g1 g3 (x:=Value.ref l) rfl ?_)
 change wpAny _ A.in1 (if (Value.ref l==Value.none)=true then _ else _) _ _ s
 rw [if_neg (fun z:(Value.ref l==Value.none)=true=>Bool.false_ne_true z)]
 change wpAny _ A.in1 (field (Value.ref it) 1 >>= _) _ _ s
 refine wpAny_bind (wpAny_field g1 g3 (x:=Value.int i 0) rfl ?_)
 change wpAny _ A.in1 (seqItems? (Value.ref l) >>= _) _ _ s
 refine wpAny_bind (wpAny_seqItems g4 g5 ?_)
 simp only [Int.toNat_natCast,z3]
 refine wpAny_bind (wpAny_rule (wpAny_bind (wpAny_setField g1 g3 (by simp) ?_)))
 refine zD (A:=A.in1) ?_ fun h' e k ht => ?_
 ·intro v hv
  obtain ⟨ea,oe,vs,e1,e2,e3⟩:=hn v hv
  refine ⟨ea,oe,vs,e1,?_,e3⟩
  have hne:ea≠it:=fun z=>z4 v hv (by rw [e1,z])
  exact (Heap.get?_update_other _ _ (Ne.symm hne)).trans e2
 ·refine wpAny_bind (wpAny_isInstance (T := "StopIteration") (b:=true) ht isSubtype_stop ?_)
  exact wpAny_pure (hQ _ fun b o' hb q=>k b o' ((Heap.get?_update_other _ _ (Ne.symm hb)).trans q))
theorem tuple_end {it l:Addr} {i:Nat} {items} {Q:Option Value->Shared->Prop} (hn:Hnd A s.heap) (z1:s.heap.IsTupleIter it l i) (z2:s.heap.IsTuple l items) (z3:items[i]? = none) (z4:∀ v,A.handled=some v->v ≠ .ref it)
  (hQ:∀ h',(∀ b o,b≠it->s.heap.get? b=some o->h'.get? b=some o)->Q none { s with heap:=h' }):wpAny (model prog w) A (pyNext (.ref it)) Q E s:=by
 obtain ⟨ob,g1,g2,g3⟩:=id z1
 obtain ⟨ol,g4,_,nl,g5⟩:=z2
 unfold pyNext
 refine wpAny_bind (wpAny_attempt (wpAny_callSpecial?_slot (name:=Str.ofString "__next__") z1.typeIs F.slot_tuple_iterator_next (wpAny_call_entry F.slot_tuple_iterator_next z1.typeIs F.entry_tuple_iterator_next ?_ (F.args_tuple_iterator_next_1 _))))
 change wpAny _ A.in1 (field (Value.ref it) 0 >>= _) _ _ s
 refine wpAny_bind (wpAny_field g1 g3 (x:=Value.ref l) rfl ?_)
 change wpAny _ A.in1 (if (Value.ref l==Value.none)=true then _ else _) _ _ s
 rw [if_neg (fun z:(Value.ref l==Value.none)=true=>Bool.false_ne_true z)]
 change wpAny _ A.in1 (field (Value.ref it) 1 >>= _) _ _ s
 refine wpAny_bind (wpAny_field g1 g3 (x:=Value.int i 0) rfl ?_)
 change wpAny _ A.in1 (seqItems? (Value.ref l) >>= _) _ _ s
 refine wpAny_bind (wpAny_seqItems g4 g5 ?_)
 simp only [Int.toNat_natCast,z3]
 refine wpAny_bind (wpAny_rule (wpAny_bind (wpAny_setField g1 g3 (by simp) ?_)))
 refine zD (A:=A.in1) ?_ fun h' e k ht => ?_
 ·intro v hv
  obtain ⟨ea,oe,vs,e1,e2,e3⟩:=hn v hv
  refine ⟨ea,oe,vs,e1,?_,e3⟩
  have hne:ea≠it:=fun z=>z4 v hv (by rw [e1,z])
  exact (Heap.get?_update_other _ _ (Ne.symm hne)).trans e2
 ·refine wpAny_bind (wpAny_isInstance (T := "StopIteration") (b:=true) ht isSubtype_stop ?_)
  exact wpAny_pure (hQ _ fun b o' hb q=>k b o' ((Heap.get?_update_other _ _ (Ne.symm hb)).trans q))
theorem range_end {it:Addr} {x left step:Int} {Q:Option Value->Shared->Prop} (hn:Hnd A s.heap) (z1:IsRangeIter s.heap it x left step) (z2:left≤0)
  (hQ:∀ h',(∀ b o,s.heap.get? b=some o->h'.get? b=some o)->Q none { s with heap:=h' }):wpAny (model prog w) A (pyNext (.ref it)) Q E s:=by
 have z0:s.TypeIs (.ref it) "range_iterator" := ⟨_,z1,rfl⟩
 unfold pyNext
 refine wpAny_bind (wpAny_attempt (wpAny_callSpecial?_slot (name:=Str.ofString "__next__") z0 F.slot_range_iterator_next (wpAny_call_entry F.slot_range_iterator_next z0 F.entry_range_iterator_next ?_ (F.args_range_iterator_next_1 _))))
 change wpAny _ A.in1 (field (Value.ref it) 0 >>= _) _ _ s
 refine wpAny_bind (wpAny_field z1 rfl (x:=rawInt x) rfl ?_)
 change wpAny _ A.in1 (field (Value.ref it) 1 >>= _) _ _ s
 refine wpAny_bind (wpAny_field z1 rfl (x:=rawInt left) rfl ?_)
 change wpAny _ A.in1 (field (Value.ref it) 2 >>= _) _ _ s
 refine wpAny_bind (wpAny_field z1 rfl (x:=rawInt step) rfl ?_)
 change wpAny _ A.in1 (if left≤0 then _ else _) _ _ s
 rw [if_pos z2]
 refine wpAny_bind (wpAny_rule (wpAny_bind ?_))
 refine zD (A:=A.in1) hn fun h' e k ht => ?_
 refine wpAny_bind (wpAny_isInstance (T := "StopIteration") (b:=true) ht isSubtype_stop ?_)
 exact wpAny_pure (hQ _ k)
end
end EX
end
section
namespace L2
open PySem PySem.Spec PyProof.Rows
abbrev Key:=Sum Int Str
def qFa:Key->Value->Bool
 | .inl k,v=>Value.isInt k v
 | .inr x,v=>Value.isStrOf x v
def qIV (w:World):Key->Int
 | .inl k=>hashInt k
 | .inr x=>hashStr w x
theorem Qi:∀ {k:Key} {v:Value},qFa k v=true->(∃ i t,k=Sum.inl i∧v=Value.int i t)∨(∃ x t,k=Sum.inr x∧v=Value.str x t)
 | .inl i,v,h=>by
  obtain ⟨t,e⟩:=Value.isInt_shape (k:=i) (v:=v) h
  exact .inl ⟨i,t,rfl,e⟩
 | .inr x,v,h=>by
  obtain ⟨t,e⟩:=Value.isStrOf_shape (x:=x) (v:=v) h
  exact .inr ⟨x,t,rfl,e⟩
theorem qGg (a b:Int):decide ((Sum.inl a:Key)=Sum.inl b)=(a==b):=by
 by_cases e:a=b
 ·subst e;simp
 ·have h:¬ (Sum.inl a:Key)=Sum.inl b:=fun q=>e (Sum.inl.inj q)
  rw [decide_eq_false h]
  exact (beq_eq_false_iff_ne.mpr e).symm
theorem qHN (a b:Str):decide ((Sum.inr a:Key)=Sum.inr b)=decide (a=b):=by
 by_cases e:a=b
 ·subst e;simp
 ·have h:¬ (Sum.inr a:Key)=Sum.inr b:=fun q=>e (Sum.inr.inj q)
  rw [decide_eq_false h,decide_eq_false e]
theorem qGd (a:Int) (b:Str):decide ((Sum.inl a:Key)=Sum.inr b)=false:=decide_eq_false (fun q=>nomatch q)
theorem qHP (a:Str) (b:Int):decide ((Sum.inr a:Key)=Sum.inl b)=false:=decide_eq_false (fun q=>nomatch q)
def Zt (prog:Program) (w:World):PySem.KeyKind prog w Key where
 is:=qFa
 hash:=qIV w
 inj:=fun v a b ha hb=>by
  rcases Qi ha with ⟨i,t,rfl,rfl⟩ |⟨x,t,rfl,rfl⟩
  ·rcases Qi hb with ⟨j,u,rfl,e⟩ |⟨y,u,rfl,e⟩
   ·injection e with e1 _;rw [e1]
   ·exact nomatch e
  ·rcases Qi hb with ⟨j,u,rfl,e⟩ |⟨y,u,rfl,e⟩
   ·exact nomatch e
   ·injection e with e1 _;rw [e1]
 byValue:=fun k v h=>by
  rcases Qi h with ⟨i,t,rfl,rfl⟩ |⟨x,t,rfl,rfl⟩ <;> rfl
 pyHash:=fun hv h=>by
  rcases Qi hv with ⟨i,t,rfl,rfl⟩ |⟨x,t,rfl,rfl⟩
  ·exact wpAny_pyHash_int h
  ·exact wpAny_pyHash_str h
 eqBool:=fun hu hv h=>by
  rcases Qi hu with ⟨i,t,rfl,rfl⟩ |⟨x,t,rfl,rfl⟩
  ·rcases Qi hv with ⟨j,u,rfl,rfl⟩ |⟨y,u,rfl,rfl⟩
   ·rw [qGg] at h;exact wpAny_eqBool_int h
   ·rw [qGd] at h;exact SeqAt.EqAt.int_str i t y u _ _ _ _ h
  ·rcases Qi hv with ⟨j,u,rfl,rfl⟩ |⟨y,u,rfl,rfl⟩
   ·rw [qHP] at h;exact SeqAt.EqAt.str_int x t j u _ _ _ _ h
   ·rw [qHN] at h;exact wpAny_eqBool_str h
 «strs» := fun k x t v h=>by
  rcases Qi h with ⟨i,u,rfl,e⟩ |⟨y,u,rfl,e⟩
  ·exact nomatch e
  ·injection e with e1 _
   subst e1
   cases v <;> rfl
end L2
namespace L2
open PySem PySem.Spec PyProof.Rows
inductive V where
 |non |bl (b:Bool) |int (i:Int) |str (x:Str) |byt (b:Array UInt8) |flt (b:UInt64) |ref (a:Addr) |ty (n:String)
 deriving DecidableEq
def RelV:V->Value->Prop
 | .non,u=>u=Value.none
 | .bl b,u=>u=Value.bool b
 | .int i,u => ∃ t,u=Value.int i t
 | .str x,u => ∃ t,u=Value.str x t
 | .byt b,u => ∃ t,u=Value.bytes b t
 | .flt b,u => ∃ t,u=Value.float b t
 | .ref a,u=>u=Value.ref a
 | .ty n,u=>u=Value.type n
abbrev Vals:List V->List Value->Prop:=Paired RelV
theorem Vals.length {xs:List V} {us:List Value} (r:Vals xs us):xs.length=us.length:=Paired.length r
theorem Vals.get:∀ {xs:List V} {us:List Value} {i:Nat} {x:V},Vals xs us->xs[i]? = some x -> ∃ u,us[i]? = some u∧RelV x u
 |_,_,_,_,.nil,e=>by simp at e
 |_,_,0,_,.cons r _,e=>by simp at e;subst e;exact ⟨_,rfl,r⟩
 |_,_,i + 1,x,.cons _ t,e=>by
  obtain ⟨u,h1,h2⟩:=Vals.get (i:=i) (x:=x) t (by simpa using e)
  exact ⟨u,by simpa using h1,h2⟩
theorem Vals.set {x:V} {u:Value} (r:RelV x u):∀ {xs:List V} {us:List Value} (i:Nat),Vals xs us->Vals (xs.set i x) (us.set i u)
 |_,_,_,.nil => .nil
 |_,_,0,.cons _ t => .cons r t
 |_,_,i + 1,.cons q t => .cons q (Vals.set r i t)
theorem Vals.append:∀ {xs ys:List V} {us ws:List Value},Vals xs us->Vals ys ws->Vals (xs++ys) (us++ws)
 |_,_,_,_,.nil,s=>s
 |_,_,_,_,.cons r t,s => .cons r (Vals.append t s)
theorem Vals.take:∀ {xs:List V} {us:List Value} (n:Nat),Vals xs us->Vals (xs.take n) (us.take n)
 |_,_,0,_ => .nil
 |_,_,_ + 1,.nil => .nil
 |_,_,n + 1,.cons r t => .cons r (Vals.take n t)
theorem Vals.drop:∀ {xs:List V} {us:List Value} (n:Nat),Vals xs us->Vals (xs.drop n) (us.drop n)
 |_,_,0,r=>r
 |_,_,_ + 1,.nil => .nil
 |_,_,n + 1,.cons _ t=>Vals.drop n t
def qHX:Option V->Option Value->Prop
 |some v,some u=>RelV v u
 |none,none=>True
 |_,_=>False
def KV {κ:Type}:List (κ×V)->List (κ×Value)->Prop:=Paired fun (p:κ×V) (q:κ×Value)=>p.1=q.1∧RelV p.2 q.2
def kV:Key->V
 | .inl i => .int i
 | .inr x => .str x
inductive HO where
 /-- a list -/
 |lst (xs:List V)
 /-- a tuple (never changes) -/
 |tup (xs:List V)
 /-- a dict whose keys are ints and texts;one whose keys are tuples of ints and texts (the empty one is both) -/
 |dK (kvs:List (Key×V)) |dT (kvs:List (List Key×V))
 /-- a set of ints: its members,its size -/
 |set (S:Int->Bool) (n:Nat)
 /-- an instance of the class at C,its dict at dx,its attributes -/
 |ins (C dx:Addr) (fs:List (Str×V))
 /-- the dict of the instance at x -/
 |own (x:Addr)
 /-- the dict of an exception -/
 |xd (fs:List (Str×V))
 /-- a bound method,f of x -/
 |met (f x:Addr)
 /-- a range object lo,lo + 1,.. below hi -/
 |rng (lo hi:Int)
 /-- a thing that is known to the object (the script;a dict while a loop walks it): read,never written while it is so -/
 |frz (o:Obj) (u:HO)
 /-- a code object's table -/
 |tbl (ps:Array Value)
 /-- any other thing,by what is true of its one object (a def of one's own: SetO a S n:=HO.ext fun h => ..) -/
 |ext (φ:Heap->Prop)
abbrev Hp:=Addr->Option HO
def upd (H:Hp) (a:Addr) (o:HO):Hp:=fun b=>if b=a then some o else H b
theorem QD {H:Hp} {a:Addr} {o:HO}:upd H a o a=some o:=by unfold upd;rw [if_pos rfl]
theorem qQ {H:Hp} {a b:Addr} {o:HO} (h:b≠a):upd H a o b=H b:=by unfold upd;rw [if_neg h]
theorem qO {H:Hp} {a b:Addr} {o:HO} (h:H a=some o) (h':H b=none):a≠b:=by
 intro e;subst e;rw [h] at h';cases h'
section
variable (P:Program) (w:World)
def ObjOk (H:Hp) (h:Heap) (a:Addr):HO->Prop
 | .lst xs=>xs.length≤sizeLine ∧ ∃ (its:List Value) (n:Nat),Vals xs its∧h.get? a=some { cls := .type "list",data := .seq its.toArray n }
 | .tup xs=>xs.length≤sizeLine ∧ ∃ its:List Value,Vals xs its∧IsTup h a its.toArray
 | .dK kvs=>kvs.length≤sizeLine∧(a==sysModules)=false ∧ ∃ vs,KV kvs vs∧h.DictOf (Zt P w) a vs
 | .dT kvs=>kvs.length≤sizeLine∧(a==sysModules)=false ∧ ∃ xs:List (List Key×Addr×Value),
   Paired (fun (p:List Key×V) (q:List Key×Addr×Value)=>p.1=q.1∧H q.2.1=some (.tup (p.1.map kV))∧RelV p.2 q.2.2) kvs xs ∧
   ∃ o es ep,h.get? a=some o∧o.ExactDict∧o.data = .dict es ep∧es.toList=xs.map (entryOfKey (tupleKind (Zt P w)))∧(xs.map (·.1)).Nodup
 | .set S n=>h.SetOf (intKind P w) a S n
 | .ins C dx fs=>H dx=some (.own a)∧fs.length≤1000∧dx≠a∧h.get? a=some (PySem.W.instObj C dx) ∧
   ∃ mA,h.Ns1 dx mA∧(∀ f,qHX (fs.lookup f) (mA f))∧PySem.Within mA (fs.map (·.1))
 | .own _ => ∃ o,h.get? a=some o
 | .xd fs => ∃ mA,h.Ns1 a mA ∧ ∀ f,qHX (fs.lookup f) (mA f)
 | .rng lo hi => ∃ t u v,h.get? a=some { cls := .type "range",data := .fields #[.int lo t,.int hi u,.int 1 v] }
 | .frz o u=>h.get? a=some o∧ObjOk H h a u
 | .tbl ps=>h.get? a=some { cls := .none,data := .fields ps }
 | .met f x=>h.get? a=some (PySem.W.methodObj (.ref f) (.ref x))
 | .ext φ=>φ h∧(∃ o,h.get? a=some o) ∧ ∀ h1 h2:Heap,φ h1->(∀ o,h1.get? a=some o->h2.get? a=some o)->φ h2
def HOk (H:Hp) (h:Heap):Prop := ∀ a o,H a=some o->ObjOk P w H h a o
end
section
variable {P:Program} {w:World} {H H':Hp} {h h':Heap} {a:Addr} {o:HO}
theorem ObjOk.lt (x:ObjOk P w H h a o):a < h.objs.size:=by
 cases o with
 |lst xs=>obtain ⟨_,_,_,_,e⟩:=x;exact Heap.lt_size e
 |tup xs=>obtain ⟨_,_,_,p⟩:=x;exact p.lt
 |dK kvs=>obtain ⟨_,_,_,_,o,_,_,e,_⟩:=x;exact Heap.lt_size e
 |dT kvs=>obtain ⟨_,_,_,_,o,_,_,e,_⟩:=x;exact Heap.lt_size e
 |set S n=>obtain ⟨o,_,_,_,e,_⟩:=x;exact Heap.lt_size e
 |ins C dx fs=>obtain ⟨_,_,_,e,_⟩:=x;exact Heap.lt_size e
 |own y=>obtain ⟨_,e⟩:=x;exact Heap.lt_size e
 |xd fs=>obtain ⟨_,⟨_,_,_,e,_⟩,_⟩:=x;exact Heap.lt_size e
 |rng lo hi=>obtain ⟨_,_,_,e⟩:=x;exact Heap.lt_size e
 |frz ob u=>obtain ⟨e,_⟩:=x;exact Heap.lt_size e
 |tbl ps=>exact Heap.lt_size (show h.get? a=some _ from x)
 |met f y=>exact Heap.lt_size (show h.get? a=some _ from x)
 |ext φ=>obtain ⟨_,⟨_,e⟩,_⟩:=x;exact Heap.lt_size e
theorem Paired.mapP {α β:Type} {F G:α->β->Prop}:∀ {l₁:List α} {l₂:List β},Paired F l₁ l₂->(∀ a b,F a b->G a b)->Paired G l₁ l₂
 |_,_,.nil,_ => .nil
 |_,_,.cons r t,f => .cons (f _ _ r) (Paired.mapP t f)
theorem ObjOk.stay (x:ObjOk P w H h a o) (k:∀ b u,(b=a∨H b=some (.own a))->h.get? b=some u->h'.get? b=some u)
  (ho:∀ b,H b=some (.own a)->H' b=some (.own a)) (ht:∀ b xs,H b=some (.tup xs)->H' b=some (.tup xs)):ObjOk P w H' h' a o:=by
 induction o with
 |lst xs=>obtain ⟨z,its,n,r,e⟩:=x;exact ⟨z,its,n,r,k _ _ (.inl rfl) e⟩
 |tup xs=>obtain ⟨z,its,r,ob,e,c⟩:=x;exact ⟨z,its,r,ob,k _ _ (.inl rfl) e,c⟩
 |dK kvs=>obtain ⟨z,y,vs,r,ob,es,ep,e,c⟩:=x;exact ⟨z,y,vs,r,ob,es,ep,k _ _ (.inl rfl) e,c⟩
 |dT kvs =>
  obtain ⟨z,y,xs,r,ob,es,ep,e,c⟩:=x
  exact ⟨z,y,xs,Paired.mapP r fun p q z=>⟨z.1,ht _ _ z.2.1,z.2.2⟩,ob,es,ep,k _ _ (.inl rfl) e,c⟩
 |set S n=>obtain ⟨ob,es,ep,t,e,c⟩:=x;exact ⟨ob,es,ep,t,k _ _ (.inl rfl) e,c⟩
 |ins C dx fs =>
  obtain ⟨d,z,ne,e,mA,⟨od,es,ep,e2,c⟩,r⟩:=x
  exact ⟨ho _ d,z,ne,k _ _ (.inl rfl) e,mA,⟨od,es,ep,k _ _ (.inr d) e2,c⟩,r⟩
 |own y=>obtain ⟨ob,e⟩:=x;exact ⟨ob,k _ _ (.inl rfl) e⟩
 |xd fs=>obtain ⟨mA,⟨od,es,ep,e,c⟩,r⟩:=x;exact ⟨mA,⟨od,es,ep,k _ _ (.inl rfl) e,c⟩,r⟩
 |rng lo hi=>obtain ⟨t,u,v,e⟩:=x;exact ⟨t,u,v,k _ _ (.inl rfl) e⟩
 |frz ob u ih=>obtain ⟨e,q⟩:=x;exact ⟨k _ _ (.inl rfl) e,ih q⟩
 |tbl ps =>
  have e:h.get? a=some { cls := .none,data := .fields ps }:=x
  show h'.get? a=some { cls := .none,data := .fields ps }
  exact k a _ (.inl rfl) e
 |met f y =>
  have e:h.get? a=some (PySem.W.methodObj (.ref f) (.ref y)):=x
  show h'.get? a=some (PySem.W.methodObj (.ref f) (.ref y))
  exact k a _ (.inl rfl) e
 |ext φ=>obtain ⟨p,⟨o,e⟩,st⟩:=x;exact ⟨st _ _ p fun o q=>k _ _ (.inl rfl) q,⟨o,k _ _ (.inl rfl) e⟩,st⟩
theorem HOk.lt (x:HOk P w H h) (e:H a=some o):a < h.objs.size:=(x a o e).lt
theorem HOk.fresh (x:HOk P w H h) (e:h.objs.size≤a):H a=none:=by
 cases q:H a with
 |none=>rfl
 |some u=>exact absurd (Nat.lt_of_lt_of_le (x.lt q) e) (Nat.lt_irrefl _)
theorem HOk.kept (x:HOk P w H h) (k:∀ b u,h.get? b=some u->h'.get? b=some u):HOk P w H h':=fun a o e =>
 (x a o e).stay (fun b u _ q=>k b u q) (fun _ q=>q) fun _ _ q=>q
theorem HOk.laid (x:HOk P w H h) (k:∀ b u,h.get? b=some u->h'.get? b=some u) (hp:h.objs.size≤a) (new:ObjOk P w (upd H a o) h' a o):HOk P w (upd H a o) h':=fun b u e=>by
 have hn:=x.fresh hp
 by_cases hb:b=a
 ·subst hb;rw [QD] at e;cases e;exact new
 ·rw [qQ hb] at e
  exact (x b u e).stay (fun c v _ q=>k c v q) (fun c q=>by rw [qQ (qO q hn)];exact q) fun c xs q=>by rw [qQ (qO q hn)];exact q
end
def Rd (H:Hp) (a:Addr) (u:HO):Prop:=H a=some u ∨ ∃ o,H a=some (.frz o u)
theorem Rd.ok {P:Program} {w:World} {H:Hp} {h:Heap} {a:Addr} {u:HO} (r:Rd H a u) (x:HOk P w H h):ObjOk P w H h a u:=by
 rcases r with r |⟨o,r⟩
 ·exact x a u r
 ·obtain ⟨_,q⟩:=x a _ r
  exact q
def Mut:Option HO->Prop
 |some (.lst _)=>True
 |some (.dK _)=>True
 |some (.dT _)=>True
 |some (.set _ _)=>True
 |some (.ins _ _ _)=>True
 |some (.ext _)=>True
 |_=>False
section
variable {P:Program} {w:World} {H:Hp} {h h':Heap} {x e:Addr} {o':HO}
theorem HOk.write (ok:HOk P w H h) (mu:Mut (H x)) (he:e=x∨H e=some (.own x)) (k:∀ b u,b≠e->h.get? b=some u->h'.get? b=some u) (heo:∃ u,h'.get? e=some u)
  (new:ObjOk P w (upd H x o') h' x o'):HOk P w (upd H x o') h':=fun b u q=>by
 have nown:∀ c y,H c=some (.own y)->c≠x:=fun c y r z=>by subst z;rw [r] at mu;exact mu
 have ntup:∀ c xs,H c=some (.tup xs)->c≠x:=fun c xs r z=>by subst z;rw [r] at mu;exact mu
 by_cases hb:b=x
 ·subst hb;rw [QD] at q;cases q;exact new
 ·rw [qQ hb] at q
  by_cases hbe:b=e
  ·have q':H b=some (.own x):=by
    rcases he with z |z
    ·exact absurd (hbe.trans z) hb
    ·rw [hbe];exact z
   rw [q] at q';cases q'
   obtain ⟨v,hv⟩:=heo
   exact ⟨v,by rw [hbe];exact hv⟩
  ·refine (ok b u q).stay (fun c v hc r=>k c v ?_ r) (fun c r=>by rw [qQ (nown c b r)];exact r) fun c xs r=>by rw [qQ (ntup c xs r)];exact r
   rcases hc with rfl |hc
   ·exact hbe
   ·rintro rfl
    rcases he with z |z
    ·exact nown c b hc z
    ·rw [hc] at z;cases z;exact hb rfl
end
structure Un (fs ex:List Addr) (H H':Hp) (h h':Heap):Prop where
 keep:∀ b o,h.get? b=some o->H b=none->b ∉ fs->b ∉ ex->h'.get? b=some o
 slot:∀ b o,h.get? b=some o->H b=none->b∈fs->b ∉ ex -> ∃ sl,h'.get? b=some { o with slots:=sl }
 free:∀ b o,h.get? b=some o->H b=none->b ∉ ex->H' b=none
 there:∀ b o,h.get? b=some o->b ∉ ex -> ∃ o',h'.get? b=some o'
 tups:∀ b xs,H b=some (.tup xs)->H' b=some (.tup xs)
 frzs:∀ b o u,H b=some (.frz o u)->H' b=some (.frz o u)
 tbls:∀ b ps,H b=some (.tbl ps) -> ∃ more,H' b=some (.tbl (ps++more))
section
variable {fs fs' ex ex':List Addr} {H H1 H2:Hp} {h h1 h2 h':Heap} {a x e:Addr} {o:HO}
theorem Un.any (u:Un fs ex H H1 h h1) {b:Addr} {ob:Obj} (q:h.get? b=some ob) (n:H b=none) (hx:b ∉ ex):∃ sl,h1.get? b=some { ob with slots:=sl }:=by
 by_cases hb:b∈fs
 ·exact u.slot b ob q n hb hx
 ·exact ⟨ob.slots,u.keep b ob q n hb hx⟩
theorem Un.kept (k:∀ b u,h.get? b=some u->h'.get? b=some u):Un fs ex H H h h' :=
 ⟨fun b ob q _ _ _=>k b ob q,fun b ob q _ _ _=>⟨ob.slots,k b ob q⟩,fun _ _ _ n _=>n,fun b ob q _=>⟨ob,k b ob q⟩,fun _ _ q=>q,fun _ _ _ q=>q,fun _ ps q=>⟨#[],by rw [q];simp⟩⟩
theorem Un.refl:Un fs ex H H h h:=Un.kept fun _ _ q=>q
theorem Un.laid (k:∀ b u,h.get? b=some u->h'.get? b=some u) (hp:h.objs.size≤a) (hn:H a=none):Un fs ex H (upd H a o) h h' where
 keep:=fun b u q _ _ _=>k b u q
 slot:=fun b u q _ _ _=>⟨u.slots,k b u q⟩
 free:=fun b u q n _=>by rw [qQ (Nat.ne_of_lt (Nat.lt_of_lt_of_le (Heap.lt_size q) hp))];exact n
 there:=fun b u q _=>⟨u,k b u q⟩
 tups:=fun b xs q=>by rw [qQ (qO q hn)];exact q
 frzs:=fun b u xs q=>by rw [qQ (qO q hn)];exact q
 tbls:=fun b ps q=>⟨#[],by rw [qQ (qO q hn),q];simp⟩
theorem Un.write (mu:Mut (H x)) (he:e=x∨H e=some (.own x)) (k:∀ b u,b≠e->h.get? b=some u->h'.get? b=some u) (heo:∃ u,h'.get? e=some u):Un fs ex H (upd H x o) h h':=by
 have hx:∀ b,H b=none->b≠x:=fun b n z=>by subst z;rw [n] at mu;exact mu
 have hb:∀ b,H b=none->b≠e:=fun b n z=>by
  subst z
  rcases he with r |r
  ·exact hx b n r
  ·rw [n] at r;cases r
 have hm:∀ b u,H b=some u -> ¬ Mut (some u)->b≠x:=fun b u q nm z=>by subst z;rw [q] at mu;exact nm mu
 refine ⟨fun b u q n _ _=>k b u (hb b n) q,fun b u q n _ _=>⟨u.slots,k b u (hb b n) q⟩,fun b u q n _=>by rw [qQ (hx b n)];exact n,fun b u q _ => ?_,
  fun b xs q=>by rw [qQ (hm b _ q fun z=>z)];exact q,fun b u xs q=>by rw [qQ (hm b _ q fun z=>z)];exact q,fun b ps q=>⟨#[],by rw [qQ (hm b _ q fun z=>z),q];simp⟩⟩
 by_cases hbe:b=e
 ·subst hbe;exact heo
 ·exact ⟨u,k b u hbe q⟩
end
def trk (h:Heap) (H:Hp):List Addr:=(List.range h.objs.size).filter fun a=>(H a).isSome
def jn (h:Heap) (H:Hp):Heap:=PySem.W.hideAll h (trk h H)
theorem qCG (h:Heap) (H:Hp):(jn h H).objs.size=h.objs.size:=PySem.W.hideAll_size _ _
theorem qDj {h:Heap} {H:Hp} {b:Addr} {o:Obj} (e:h.get? b=some o) (n:H b=none):(jn h H).get? b=some o :=
 PySem.W.hideAll_get _ e fun hm=>by
  have q:(H b).isSome=true:=(List.mem_filter.mp hm).2
  rw [n] at q;simp at q
theorem qEu {h:Heap} {H:Hp} {b:Addr} {o:Obj} (e:(jn h H).get? b=some o):h.get? b=some o∧H b=none:=by
 have e':h.get? b=some o:=PySem.W.of_hideAll (trk h H) e
 refine ⟨e',?_⟩
 cases q:H b with
 |none=>rfl
 |some x =>
  have hm:b∈trk h H:=List.mem_filter.mpr ⟨List.mem_range.mpr (Heap.lt_size e'),by simp [q]⟩
  have z:(jn h H).get? b=none:=PySem.W.hideAll_none (trk h H) hm
  rw [z] at e;cases e
end L2
namespace L2
open PySem PySem.Spec PyProof.Rows
structure Mod (K:W.Frag) (mg:Str->Option Value) (base:Heap):Prop where
 kin:K.In base
 glob:base.Ns mainGlobals mg
 blt:∃ mb,base.Ns builtinsNs mb ∧ ∀ x:Str,x ≠ "__name__" -> mb x=bootBuiltins x
 nolimit:base.NoLimit
structure Cx where
 prog:Program
 w:World
 K:W.Frag
 mg:Str->Option Value
 base:Heap
 A:Around
 N:List Str
 s₀:Shared
 H₀:Hp
 env:Env
 outer:List Env
 stack:List Env
 ex:List Addr
 fn:Str->Bool
 calm:Bool
 pn:List (Addr×Obj)
 xe:Value->Shared->Prop
def frs (l:List Env):List Addr:=l.filterMap (·.frame)
abbrev Cx.fs (X:Cx):List Addr:=frs X.outer
def Vis (sc:Scope) (x:Str):Prop:=sc.names.lookup x=some .local∨sc.names.lookup x=some .cell∨sc.names.lookup x=some .free
def Loc (sc:Scope) (x:Str):Prop:=sc.names.lookup x=some .local∨sc.names.lookup x=some .cell
def qHe (env:Env) (h:Heap) (m:Str->Option Value) (x:Str) (u:Value):Prop :=
 (env.kindOf x=some .local∧m x=some u)∨((env.kindOf x=some .cell∨env.kindOf x=some .free) ∧ ∃ c,env.cells.lookup x=some c∧h.IsCell c (some u))
structure Cx.Ok (X:Cx):Prop where
 mod:Mod X.K X.mg X.base
 kind:X.env.scope.kind = .function
 glob:X.env.globals=mainGlobals
 blt:X.env.builtins=builtinsNs
 above:X.s₀.heap.objs.size≤X.env.locals
 inj:∀ x y c,X.env.cells.lookup x=some c->X.env.cells.lookup y=some c->x=y
 has:∀ x,(X.env.kindOf x=some .cell∨X.env.kindOf x=some .free) -> ∃ c,X.env.cells.lookup x=some c
 cab:∀ x c,X.fn x=true->X.env.cells.lookup x=some c->X.s₀.heap.objs.size≤c
 hd:X.calm=true->X.A.handled=none
 frames:X.A.frames=some X.stack
 stk:X.stack=X.outer∨(X.stack=X.env::X.outer∧X.env.frame=some X.env.locals)
 exf:∀ b∈X.ex,b≠X.env.locals ∧ ∀ x c,X.env.cells.lookup x=some c->c≠b
 bs:∀ b o,X.base.get? b=some o->X.s₀.heap.get? b=some o∧X.H₀ b=none
 bsz:X.base.objs.size≤X.s₀.heap.objs.size
 noex:∀ b o,X.base.get? b=some o->b ∉ X.ex
 exfs:∀ b∈X.ex,b ∉ X.fs
 funs:X.s₀.heap.FunFrames X.base X.outer
 frf:∀ b∈X.fs,X.H₀ b=none
def HndH (A:Around) (H:Hp):Prop := ∀ v,A.handled=some v -> ∃ ea oe u vs,v=Value.ref ea∧H ea=some (.frz oe u)∧oe.data = .fields vs∧vs[2]? = some .none
theorem HndH.none {A:Around} {H:Hp} (h:A.handled=none):HndH A H:=fun v e=>by rw [h] at e;cases e
structure Inv (X:Cx) (pins:List (Addr×Obj)) (σ:List (Option V)) (H:Hp) (s:Shared):Prop where
 ok:X.Ok
 os:s.os=X.s₀.os
 bare:AllBare s.gens
 base:Un X.fs X.ex X.H₀ H X.s₀.heap s.heap
 loc:∃ m,s.heap.Ns X.env.locals m ∧ ∀ (i:Nat) (x:Str) (v:V),X.N[i]? = some x->σ[i]? = some (some v)->Vis X.env.scope x -> ∃ u,RelV v u∧qHe X.env s.heap m x u
 cell:∀ x c,X.env.cells.lookup x=some c -> ∃ v,s.heap.IsCell c v
 free:H X.env.locals=none
 freeC:∀ x c,X.env.cells.lookup x=some c->H c=none
 pin:∀ p∈X.pn++pins,s.heap.get? p.1=some p.2∧H p.1=none∧p.1≠X.env.locals∧p.1 ∉ X.fs ∧ ∀ v,p.2.data ≠ .cell v
 hok:HOk X.prog X.w H s.heap
 len:σ.length=X.N.length
 hnd:HndH X.A H
section
variable {X:Cx} {pins:List (Addr×Obj)} {σ:List (Option V)} {H H':Hp} {s:Shared} {h':Heap}
theorem Cx.Ok.nofr (ok:X.Ok) {b:Addr} {o:Obj} (e:X.base.get? b=some o):b ∉ X.fs:=fun hb=>by
 have:=(ok.funs.mem hb).1
 rw [e] at this;cases this
theorem Inv.bs (I:Inv X pins σ H s):∀ b o,X.base.get? b=some o->s.heap.get? b=some o∧H b=none:=fun b o e =>
 ⟨I.base.keep b o (I.ok.bs b o e).1 (I.ok.bs b o e).2 (I.ok.nofr e) (I.ok.noex b o e),I.base.free b o (I.ok.bs b o e).1 (I.ok.bs b o e).2 (I.ok.noex b o e)⟩
theorem Inv.bk (I:Inv X pins σ H s):∀ b o,X.base.get? b=some o->s.heap.get? b=some o:=fun b o e=>(I.bs b o e).1
theorem Inv.mod (I:Inv X pins σ H s):Mod X.K X.mg X.base:=I.ok.mod
theorem Inv.kIn (I:Inv X pins σ H s):X.K.In s.heap:=I.ok.mod.kin.keeps I.bk
theorem Inv.lt (I:Inv X pins σ H s):X.env.locals < s.heap.objs.size:=let ⟨_,hn,_⟩:=I.loc;hn.lt
theorem Inv.sz (I:Inv X pins σ H s):X.s₀.heap.objs.size≤s.heap.objs.size:=Nat.le_trans I.ok.above (Nat.le_of_lt I.lt)
theorem Inv.nofs (I:Inv X pins σ H s) {a:Addr} (h:s.heap.objs.size≤a):a ∉ X.fs:=fun hb=>by
 obtain ⟨_,o,ho,_⟩:=I.ok.funs.mem hb
 exact absurd (Nat.lt_of_lt_of_le (Heap.lt_size ho) (Nat.le_trans I.sz h)) (Nat.lt_irrefl _)
theorem Inv.cne (I:Inv X pins σ H s):∀ x c,X.env.cells.lookup x=some c->c≠X.env.locals:=fun x c e z=>by
 obtain ⟨v,o,ho,hd⟩:=I.cell x c e
 obtain ⟨m,⟨o',es,ep,ho',hd',_⟩,_⟩:=I.loc
 rw [z,ho'] at ho;cases ho;rw [hd'] at hd;cases hd
theorem Inv.funs (I:Inv X pins σ H s):s.heap.FunFrames X.base X.outer:=by
 have all:∀ (l:List Env),(∀ b∈frs l,b∈X.fs)->X.s₀.heap.FunFrames X.base l->s.heap.FunFrames X.base l:=by
  intro l
  induction l with
  |nil=>intro _ _;trivial
  |cons env r ih =>
   intro hs hl
   obtain ⟨hk,⟨L,o,hf,hn,ho,hd⟩,hr⟩:=hl
   have hL:L∈X.fs:=hs L (by unfold frs;rw [List.filterMap_cons,hf];exact List.mem_cons_self)
   obtain ⟨sl,e⟩:=I.base.slot L o ho (I.ok.frf L hL) hL fun z=>I.ok.exfs L z hL
   exact ⟨hk,⟨L,_,hf,hn,e,hd⟩,ih (fun b hb=>hs b (by unfold frs;rw [List.filterMap_cons,hf];exact List.mem_cons_of_mem _ hb)) hr⟩
 exact all X.outer (fun _ hb=>hb) I.ok.funs
theorem Inv.stack (I:Inv X pins σ H s):s.heap.FunFrames X.base X.stack:=by
 rcases I.ok.stk with e |⟨e,hf⟩
 ·rw [e];exact I.funs
 ·rw [e]
  obtain ⟨m,hn,_⟩:=I.loc
  refine .cons (by rw [I.ok.kind];decide) hf hn ?_ I.funs
  exact Heap.get?_none_of_le (Nat.le_trans I.ok.bsz I.ok.above)
theorem Inv.stkSub (I:Inv X pins σ H s):∀ b∈frs X.stack,b∈X.env.locals::X.fs:=fun b hb=>by
 rcases I.ok.stk with e |⟨e,hf⟩
 ·rw [e] at hb;exact List.mem_cons_of_mem _ hb
 ·rw [e] at hb
  unfold frs at hb
  rw [List.filterMap_cons,hf] at hb
  exact hb
theorem Inv.stkFree (I:Inv X pins σ H s):∀ b∈frs X.stack,H b=none:=fun b hb=>by
 rcases List.mem_cons.mp (I.stkSub b hb) with e |hb
 ·rw [e];exact I.free
 ·obtain ⟨_,o,ho,_⟩:=I.ok.funs.mem hb
  exact I.base.free b o ho (I.ok.frf b hb) fun z=>I.ok.exfs b z hb
theorem Inv.step {g':Array GenState} {t':Nat} {d':Drawn} {ch:List Addr} (I:Inv X pins σ H s)
  (hch:∀ b∈ch,(b∈X.ex∨X.s₀.heap.objs.size≤b)∧b≠X.env.locals∧(∀ x c,X.env.cells.lookup x=some c->c≠b) ∧ ∀ p∈X.pn++pins,p.1≠b)
  (keep:∀ b o,b≠X.env.locals->b ∉ X.fs->b ∉ ch->s.heap.get? b=some o->H b=none->h'.get? b=some o)
  (slot:∀ b o,b≠X.env.locals->b∈X.fs->b ∉ ch->s.heap.get? b=some o->H b=none -> ∃ sl,h'.get? b=some { o with slots:=sl }) (free:∀ b o,b ∉ ch->s.heap.get? b=some o->H b=none->H' b=none)
  (there:∀ b o,b ∉ ch->s.heap.get? b=some o -> ∃ o',h'.get? b=some o')
  (tups:∀ b xs,H b=some (.tup xs)->H' b=some (.tup xs)) (frzs:∀ b o u,H b=some (.frz o u)->H' b=some (.frz o u)) (tbls:∀ b ps,H b=some (.tbl ps) -> ∃ more,H' b=some (.tbl (ps++more)))
  (ns:∀ m,s.heap.Ns X.env.locals m->h'.Ns X.env.locals m) (hok:HOk X.prog X.w H' h') (hg:AllBare g') :
  Inv X pins σ H' { s with heap:=h',gens:=g',drawn:=d',toks:=t' }:=by
 have neL:∀ b o,X.s₀.heap.get? b=some o->b≠X.env.locals:=fun b o e=>Nat.ne_of_lt (Nat.lt_of_lt_of_le (Heap.lt_size e) I.ok.above)
 have neC:∀ b o,X.s₀.heap.get? b=some o->b ∉ X.ex->b ∉ ch:=fun b o e hx hb=>by
  rcases (hch b hb).1 with z |z
  ·exact hx z
  ·exact absurd (Nat.lt_of_lt_of_le (Heap.lt_size e) z) (Nat.lt_irrefl _)
 have cellK:∀ x c,X.env.cells.lookup x=some c -> ∀ v,s.heap.IsCell c v->h'.IsCell c v:=fun x c e v ⟨o,ho,hd⟩=>by
  have nch:c ∉ ch:=fun z=>(hch c z).2.2.1 x c e rfl
  by_cases hc:c∈X.fs
  ·obtain ⟨sl,q⟩:=slot c o (I.cne x c e) hc nch ho (I.freeC x c e)
   exact ⟨_,q,hd⟩
  ·exact ⟨o,keep c o (I.cne x c e) hc nch ho (I.freeC x c e),hd⟩
 refine ⟨I.ok,I.os,hg,⟨fun b o e n hb hx => ?_,fun b o e n hb hx => ?_,fun b o e n hx => ?_,fun b o e hx => ?_,fun b xs e=>tups b xs (I.base.tups b xs e),fun b o xs e=>frzs b o xs (I.base.frzs b o xs e),fun b ps e => ?_⟩,?_,fun x c e => ?_,?_,fun x c e => ?_,fun p hp => ?_,hok,I.len,fun v hv=>(let ⟨ea,oe,u,vs,e1,e2,e3⟩:=I.hnd v hv;⟨ea,oe,u,vs,e1,frzs _ _ _ e2,e3⟩)⟩
 ·exact keep b o (neL b o e) hb (neC b o e hx) (I.base.keep b o e n hb hx) (I.base.free b o e n hx)
 ·obtain ⟨sl,e1⟩:=I.base.slot b o e n hb hx
  obtain ⟨sl',e2⟩:=slot b _ (neL b o e) hb (neC b o e hx) e1 (I.base.free b o e n hx)
  exact ⟨sl',e2⟩
 ·obtain ⟨o',e1⟩:=I.base.there b o e hx
  exact free b o' (neC b o e hx) e1 (I.base.free b o e n hx)
 ·obtain ⟨o',e1⟩:=I.base.there b o e hx
  exact there b o' (neC b o e hx) e1
 ·obtain ⟨m1,e1⟩:=I.base.tbls b ps e
  obtain ⟨m2,e2⟩:=tbls b _ e1
  exact ⟨m1++m2,by rw [e2,Array.append_assoc]⟩
 ·obtain ⟨m,hn,hl⟩:=I.loc
  refine ⟨m,ns m hn,fun i x v e1 e2 e3 => ?_⟩
  obtain ⟨u,r,l⟩:=hl i x v e1 e2 e3
  refine ⟨u,r,?_⟩
  rcases l with l |⟨k,c,e,z⟩
  ·exact .inl l
  ·exact .inr ⟨k,c,e,cellK x c e _ z⟩
 ·obtain ⟨v,z⟩:=I.cell x c e
  exact ⟨v,cellK x c e v z⟩
 ·obtain ⟨m,⟨o,_,_,ho,_⟩,_⟩:=I.loc
  exact free _ o (fun z=>(hch _ z).2.1 rfl) ho I.free
 ·obtain ⟨v,o,ho,hd⟩:=I.cell x c e
  exact free c o (fun z=>(hch c z).2.2.1 x c e rfl) ho (I.freeC x c e)
 ·obtain ⟨e,n,ne,nf,d⟩:=I.pin p hp
  have nch:p.1 ∉ ch:=fun z=>(hch p.1 z).2.2.2 p hp rfl
  exact ⟨keep p.1 p.2 ne nf nch e n,free p.1 p.2 nch e n,ne,nf,d⟩
theorem Inv.un {t':Nat} (I:Inv X pins σ H s) (u:Un X.fs [] H H' s.heap h') (hok:HOk X.prog X.w H' h'):Inv X pins σ H' { s with heap:=h',toks:=t' }:=by
 obtain ⟨m,⟨o,es,ep,ho,r⟩,_⟩:=id I.loc
 obtain ⟨sl,hL⟩:=u.any ho I.free (by simp)
 exact I.step (g':=s.gens) (d':=s.drawn) (ch:=[]) (fun _ z=>nomatch z) (fun b o _ hb _ e n=>u.keep b o e n hb (by simp)) (fun b o _ hb _ e n=>u.slot b o e n hb (by simp)) (fun b o _ e n=>u.free b o e n (by simp)) (fun b o _ e=>u.there b o e (by simp)) u.tups u.frzs u.tbls (fun m' hm=>by
  obtain ⟨o',es',ep',ho',r'⟩:=hm
  rw [ho] at ho';cases ho'
  exact ⟨_,es',ep',hL,r'⟩) hok I.bare
theorem Inv.call {g':Array GenState} {t':Nat} {d':Drawn} {ch:List Addr} (I:Inv X pins σ H s) (u:Un (frs X.stack) ch H H' s.heap h') (hok:HOk X.prog X.w H' h') (hg:AllBare g')
  (hch:∀ b∈ch,(b∈X.ex∨X.s₀.heap.objs.size≤b)∧b≠X.env.locals∧(∀ x c,X.env.cells.lookup x=some c->c≠b) ∧ ∀ p∈X.pn++pins,p.1≠b) :
  Inv X pins σ H' { s with heap:=h',gens:=g',drawn:=d',toks:=t' }:=by
 obtain ⟨m,⟨o,es,ep,ho,r⟩,_⟩:=id I.loc
 obtain ⟨sl,hL⟩:=u.any ho I.free fun z=>(hch _ z).2.1 rfl
 exact I.step (ch:=ch) hch (fun b o hL hb hc e n=>u.keep b o e n (fun z=>(List.mem_cons.mp (I.stkSub b z)).elim hL hb) hc) (fun b o _ _ hc e n=>u.any e n hc) (fun b o hc e n=>u.free b o e n hc) (fun b o hc e=>u.there b o e hc) u.tups u.frzs u.tbls (fun m' hm=>by
  obtain ⟨o',es',ep',ho',r'⟩:=hm
  rw [ho] at ho';cases ho'
  exact ⟨_,es',ep',hL,r'⟩) hok hg
theorem Inv.turned {t':Nat} {it:Addr} (I:Inv X pins σ H s) (k:∀ b o,b≠it->s.heap.get? b=some o->h'.get? b=some o) (hn:H it=none) (hL:it≠X.env.locals)
  (h1:it∈X.ex∨X.s₀.heap.objs.size≤it) (h2:∀ x c,X.env.cells.lookup x=some c->c≠it) (h3:∀ p∈X.pn++pins,p.1≠it):Inv X pins σ H { s with heap:=h',toks:=t' }:=by
 have nit:∀ b u,H b=some u->b≠it:=fun b u e z=>by rw [z,hn] at e;cases e
 refine I.step (g':=s.gens) (d':=s.drawn) (ch:=[it]) (fun b hb => ?_) (fun b o _ _ hc e _=>k b o (fun z=>hc (by simp [z])) e) (fun b o _ _ hc e _=>⟨o.slots,k b o (fun z=>hc (by simp [z])) e⟩) (fun _ _ _ _ n=>n)
  (fun b o hc e=>⟨o,k b o (fun z=>hc (by simp [z])) e⟩) (fun _ _ e=>e) (fun _ _ _ e=>e) (fun b ps e=>⟨#[],by rw [e];simp⟩) (fun m hm => ?_) (fun b u e => ?_) I.bare
 ·have e:b=it:=by simpa using hb
  subst e
  exact ⟨h1,hL,h2,h3⟩
 ·obtain ⟨o,es,ep,ho,r⟩:=hm
  exact ⟨o,es,ep,k _ o (Ne.symm hL) ho,r⟩
 ·refine (I.hok b u e).stay (fun c v hc q=>k c v ?_ q) (fun _ q=>q) fun _ _ q=>q
  rcases hc with z |z
  ·rw [z];exact nit b u e
  ·exact nit c _ z
theorem Inv.tok (I:Inv X pins σ H s) (t:Nat):Inv X pins σ H { s with toks:=t }:=I.un (h':=s.heap) (t':=t) Un.refl I.hok
theorem Inv.kept {t':Nat} (I:Inv X pins σ H s) (k:∀ b u,s.heap.get? b=some u->h'.get? b=some u):Inv X pins σ H { s with heap:=h',toks:=t' }:=I.un (Un.kept k) (I.hok.kept k)
theorem Inv.laid {a:Addr} {o:HO} {t':Nat} (I:Inv X pins σ H s) (k:∀ b u,s.heap.get? b=some u->h'.get? b=some u) (hp:s.heap.objs.size≤a) (new:ObjOk X.prog X.w (upd H a o) h' a o) :
  Inv X pins σ (upd H a o) { s with heap:=h',toks:=t' }:=I.un (Un.laid k hp (I.hok.fresh hp)) (I.hok.laid k hp new)
theorem Inv.write {x e:Addr} {o:HO} {t':Nat} (I:Inv X pins σ H s) (mu:Mut (H x)) (he:e=x∨H e=some (.own x)) (k:∀ b u,b≠e->s.heap.get? b=some u->h'.get? b=some u) (heo:∃ u,h'.get? e=some u)
  (new:ObjOk X.prog X.w (upd H x o) h' x o):Inv X pins σ (upd H x o) { s with heap:=h',toks:=t' }:=I.un (Un.write mu he k heo) (I.hok.write mu he k heo new)
theorem Inv.pins_of {pins':List (Addr×Obj)} (I:Inv X pins σ H s) (h:∀ p∈pins',s.heap.get? p.1=some p.2∧H p.1=none∧p.1≠X.env.locals∧p.1 ∉ X.fs ∧ ∀ v,p.2.data ≠ .cell v):Inv X pins' σ H s :=
 ⟨I.ok,I.os,I.bare,I.base,I.loc,I.cell,I.free,I.freeC,fun p hp=>(List.mem_append.mp hp).elim (fun z=>I.pin p (List.mem_append_left _ z)) (h p),I.hok,I.len,I.hnd⟩
theorem YT {N:List Str} (hN:N.Nodup) {i j:Nat} {x:Str} (a:N[i]? = some x) (b:N[j]? = some x):i=j:=by
 obtain ⟨h1,e1⟩:=List.getElem?_eq_some_iff.mp a
 obtain ⟨h2,e2⟩:=List.getElem?_eq_some_iff.mp b
 exact (List.getElem_inj hN).mp (e1.trans e2.symm)
theorem qBY {M:Model} {A:Around} {E:Value->Shared->Prop} {i:Nat} {x:Str} {v:V} {u:Value} {Q:Unit->Shared->Prop} (I:Inv X pins σ H s) (hN:X.N.Nodup) (hi:X.N[i]? = some x) (hx:Loc X.env.scope x) (r:RelV v u)
  (h:∀ s',Inv X pins (σ.set i (some v)) H s'->(∃ a,Heap.SameBut a s.heap s'.heap∧(a=X.env.locals∨X.env.cells.lookup x=some a))->Q () s') (hf:X.fn x=true∨X.env.scope.names.lookup x=some .local:=by first |exact .inl rfl |exact .inr rfl |assumption):wpAny M A (storeName X.env x u) Q E s:=by
 obtain ⟨m,hn,hl⟩:=id I.loc
 have hcls:(X.env.scope.kind == .class || (X.env.scope.kind == .module&&X.env.locals != X.env.globals))=false:=by rw [I.ok.kind];rfl
 have hiσ:i < σ.length:=by rw [I.len];exact (List.getElem?_eq_some_iff.mp hi).1
 have cne:=I.cne
 have tracked:∀ {a:Addr} {h':Heap},(∃ o,s.heap.get? a=some o∧H a=none)->Heap.SameBut a s.heap h'->HOk X.prog X.w H h':=fun {a h'} ha hs b ob e=>by
  obtain ⟨_,_,hfree⟩:=ha
  refine (I.hok b ob e).stay (fun c w' hc q=>(hs.2 c ?_).trans q) (fun _ q=>q) fun _ _ q=>q
  rintro rfl
  rcases hc with rfl |hc
  ·rw [hfree] at e;cases e
  ·rw [hfree] at hc;cases hc
 rcases hx with hk |hk
 ·refine wpAny_storeName_local hk hn (fun h' hn' hs => ?_) hcls
  obtain ⟨oL,_,_,hoL,_⟩:=id hn
  refine h _ ⟨I.ok,I.os,I.bare,⟨fun b o e n hb hx => ?_,fun b o e n hb hx => ?_,I.base.free,fun b o e hx => ?_,I.base.tups,I.base.frzs,I.base.tbls⟩,⟨_,hn',fun j y v' e1 e2 e3 => ?_⟩,fun y c e => ?_,I.free,I.freeC,fun p hp => ?_,tracked ⟨oL,hoL,I.free⟩ hs,by simpa using I.len,I.hnd⟩ ⟨_,hs,.inl rfl⟩
  ·exact (hs.2 b (Nat.ne_of_lt (Nat.lt_of_lt_of_le (Heap.lt_size e) I.ok.above))).trans (I.base.keep b o e n hb hx)
  ·obtain ⟨sl,e1⟩:=I.base.slot b o e n hb hx
   exact ⟨sl,(hs.2 b (Nat.ne_of_lt (Nat.lt_of_lt_of_le (Heap.lt_size e) I.ok.above))).trans e1⟩
  ·obtain ⟨o',e1⟩:=I.base.there b o e hx
   exact ⟨o',(hs.2 b (Nat.ne_of_lt (Nat.lt_of_lt_of_le (Heap.lt_size e) I.ok.above))).trans e1⟩
  ·by_cases hj:j=i
   ·subst hj
    rw [hi] at e1;cases e1
    rw [List.getElem?_set_self hiσ] at e2
    cases e2
    exact ⟨u,r,.inl ⟨hk,by simp⟩⟩
   ·rw [List.getElem?_set_ne (Ne.symm hj)] at e2
    obtain ⟨u',r',q⟩:=hl j y v' e1 e2 e3
    refine ⟨u',r',?_⟩
    rcases q with ⟨k,e⟩ |⟨k,c,e,z⟩
    ·refine .inl ⟨k,?_⟩
     have:y≠x:=fun e=>hj (YT hN e1 (e ▸ hi))
     simp [this,e]
    ·exact .inr ⟨k,c,e,z.sameBut hs (cne y c e)⟩
  ·obtain ⟨w',z⟩:=I.cell y c e
   exact ⟨w',z.sameBut hs (cne y c e)⟩
  ·obtain ⟨e,n,ne,nf,d⟩:=I.pin p hp
   exact ⟨(hs.2 p.1 ne).trans e,n,ne,nf,d⟩
 ·have hfn:X.fn x=true:=by
   rcases hf with z |z
   ·exact z
   ·rw [z] at hk;cases hk
  obtain ⟨c,hc⟩:=I.ok.has x (.inl hk)
  obtain ⟨w',z⟩:=I.cell x c hc
  refine wpAny_storeName_cell I.ok.kind hk hc z (fun h' hc' hs => ?_)
  obtain ⟨oc,hoc,hocd⟩:=id z
  refine h { s with heap:=h' } ⟨I.ok,I.os,I.bare,⟨fun b o e n hb hx => ?_,fun b o e n hb hx => ?_,I.base.free,fun b o e hx => ?_,I.base.tups,I.base.frzs,I.base.tbls⟩,⟨m,hn.sameBut hs (Ne.symm (cne x c hc)),fun j y v' e1 e2 e3 => ?_⟩,fun y c' e => ?_,I.free,I.freeC,fun p hp => ?_,tracked ⟨oc,hoc,I.freeC x c hc⟩ hs,by simpa using I.len,I.hnd⟩ ⟨c,hs,.inr hc⟩
  ·exact (hs.2 b (Nat.ne_of_lt (Nat.lt_of_lt_of_le (Heap.lt_size e) (I.ok.cab x c hfn hc)))).trans (I.base.keep b o e n hb hx)
  ·obtain ⟨sl,e1⟩:=I.base.slot b o e n hb hx
   exact ⟨sl,(hs.2 b (Nat.ne_of_lt (Nat.lt_of_lt_of_le (Heap.lt_size e) (I.ok.cab x c hfn hc)))).trans e1⟩
  ·obtain ⟨o',e1⟩:=I.base.there b o e hx
   exact ⟨o',(hs.2 b (Nat.ne_of_lt (Nat.lt_of_lt_of_le (Heap.lt_size e) (I.ok.cab x c hfn hc)))).trans e1⟩
  ·by_cases hj:j=i
   ·subst hj
    rw [hi] at e1;cases e1
    rw [List.getElem?_set_self hiσ] at e2
    cases e2
    exact ⟨u,r,.inr ⟨.inl hk,c,hc,hc'⟩⟩
   ·rw [List.getElem?_set_ne (Ne.symm hj)] at e2
    obtain ⟨u',r',q⟩:=hl j y v' e1 e2 e3
    refine ⟨u',r',?_⟩
    rcases q with q |⟨k,c',e,z'⟩
    ·exact .inl q
    ·refine .inr ⟨k,c',e,z'.sameBut hs ?_⟩
     rintro rfl
     exact hj (YT hN e1 (I.ok.inj _ _ _ e hc ▸ hi))
  ·by_cases hcc:c'=c
   ·subst hcc;exact ⟨_,hc'⟩
   ·obtain ⟨w2,z2⟩:=I.cell y c' e
    exact ⟨w2,z2.sameBut hs hcc⟩
  ·obtain ⟨e,n,ne,nf,d⟩:=I.pin p hp
   refine ⟨(hs.2 p.1 ?_).trans e,n,ne,nf,d⟩
   intro q
   rw [q,hoc] at e
   have q':oc=p.2:=Option.some.inj e
   exact d w' (by rw [← q'];exact hocd)
theorem yC {M:Model} {A:Around} {E:Value->Shared->Prop} {i:Nat} {x:Str} {v:V} {u:Value} {Q:Unit->Shared->Prop} (I:Inv X pins σ H s) (hN:X.N.Nodup) (hi:X.N[i]? = some x) (hx:Loc X.env.scope x) (r:RelV v u)
  (h:∀ s',Inv X pins (σ.set i (some v)) H s'->Q () s') (hf:X.fn x=true∨X.env.scope.names.lookup x=some .local:=by first |exact .inl rfl |exact .inr rfl |assumption):wpAny M A (storeName X.env x u) Q E s :=
 qBY I hN hi hx r (fun s' I' _=>h s' I') hf
theorem Inv.call' {s':Shared} {ch:List Addr} (I:Inv X pins σ H s) (ho:s'.os=s.os) (u:Un (frs X.stack) ch H H' s.heap s'.heap) (hok:HOk X.prog X.w H' s'.heap) (hg:AllBare s'.gens)
  (hch:∀ b∈ch,(b∈X.ex∨X.s₀.heap.objs.size≤b)∧b≠X.env.locals∧(∀ x c,X.env.cells.lookup x=some c->c≠b) ∧ ∀ p∈X.pn++pins,p.1≠b):Inv X pins σ H' s':=by
 obtain ⟨h',g',d',t',o'⟩:=s'
 have e:o'=s.os:=ho
 subst e
 exact I.call (g':=g') (t':=t') (d':=d') u hok hg hch
end
abbrev XK:=Value->Option Addr->Hp->Prop
abbrev St:=List (Option V)
abbrev VK:=V->Hp->Prop
abbrev TE:=St->Hp->VK->Prop
abbrev TT:=St->Hp->(Bool->Hp->Prop)->Prop
abbrev TA:=St->Hp->(List V->Hp->Prop)->Prop
structure Ends where
 nx:St->Hp->Prop
 rt:VK
 bk:St->Hp->Prop:=fun _ _=>False
 ct:St->Hp->Prop:=fun _ _=>False
abbrev TS:=Ends->St->Hp->Prop
def EP (X:Cx) (pins:List (Addr×Obj)) (σ:St) (Q:VK) (u:Value) (s':Shared):Prop := ∃ v H',Inv X pins σ H' s'∧RelV v u∧Q v H'
def TP (X:Cx) (pins:List (Addr×Obj)) (σ:St) (Q:Bool->Hp->Prop) (b:Bool) (s':Shared):Prop := ∃ H',Inv X pins σ H' s'∧Q b H'
def AP (X:Cx) (pins:List (Addr×Obj)) (σ:St) (Q:List V->Hp->Prop) (us:List Value) (s':Shared):Prop := ∃ vs H',Inv X pins σ H' s'∧Vals vs us∧Q vs H'
def SP (X:Cx) (pins:List (Addr×Obj)) (D:Ends) (f:Flow) (s':Shared):Prop :=
 match f with
 | .next => ∃ σ' H',Inv X pins σ' H' s'∧D.nx σ' H'
 | .brk => ∃ σ' H',Inv X pins σ' H' s'∧D.bk σ' H'
 | .cont => ∃ σ' H',Inv X pins σ' H' s'∧D.ct σ' H'
 | .ret u => ∃ v σ' H',Inv X pins σ' H' s'∧RelV v u∧D.rt v H'
def PE (X:Cx) (e:Expr) (t:TE):Prop :=
 ∀ (pins:List (Addr×Obj)) (s:Shared) (σ:St) (H:Hp) (Q:VK),Inv X pins σ H s->t σ H Q->wpAny (model X.prog X.w) X.A (eval e X.env) (EP X pins σ Q) X.xe s
def PT (X:Cx) (e:Expr) (t:TT):Prop :=
 ∀ (pins:List (Addr×Obj)) (s:Shared) (σ:St) (H:Hp) (Q:Bool->Hp->Prop),Inv X pins σ H s->t σ H Q->wpAny (model X.prog X.w) X.A (isTrue e X.env (eval e X.env)) (TP X pins σ Q) X.xe s
def PW (X:Cx) (e:Expr) (t:TT):Prop :=
 ∀ (whole:Sem Value) (pins:List (Addr×Obj)) (s:Shared) (σ:St) (H:Hp) (Q:Bool->Hp->Prop),Inv X pins σ H s->t σ H Q->wpAny (model X.prog X.w) X.A (isTrue e X.env whole) (TP X pins σ Q) X.xe s
theorem PW.pt {X:Cx} {e:Expr} {t:TT} (h:PW X e t):PT X e t:=h _
def PA (X:Cx) (es:List Expr) (t:TA):Prop :=
 ∀ (pos:Pos) (pins:List (Addr×Obj)) (s:Shared) (σ:St) (H:Hp) (Q:List V->Hp->Prop),Inv X pins σ H s->t σ H Q->wpAny (model X.prog X.w) X.A (spliced (backTo pos (starEach es X.env))) (AP X pins σ Q) X.xe s
def PS (X:Cx) (st:Stmt) (t:TS):Prop :=
 ∀ (pins:List (Addr×Obj)) (s:Shared) (σ:St) (H:Hp) (D:Ends),Inv X pins σ H s->t D σ H->wpAny (model X.prog X.w) X.A (exec st X.env) (SP X pins D) X.xe s
def PSs (X:Cx) (st:List Stmt) (t:TS):Prop :=
 ∀ (pins:List (Addr×Obj)) (s:Shared) (σ:St) (H:Hp) (D:Ends),Inv X pins σ H s->t D σ H->wpAny (model X.prog X.w) X.A (execs st X.env) (SP X pins D) X.xe s
theorem thn {α:Type} {t:Sem α} {Q Q':α->Shared->Prop} {M:Model} {A:Around} {E:Value->Shared->Prop} {s:Shared} (h:wpAny M A t Q E s) (hQ:∀ a s,Q a s->Q' a s):wpAny M A t Q' E s:=wpAny_mono h hQ fun _ _ x=>x
end L2
namespace L2
open PySem PySem.Spec PyProof.Rows
section
variable {X:Cx}
def qGn (i:Nat):TE:=fun σ H Q => ∃ v,σ[i]? = some (some v)∧Q v H
def tC (v:V):TE:=fun _ H Q=>Q v H
theorem qF9 {i:Nat} {x:Str} {pos:Pos} (hN:X.N[i]? = some x) (hv:Vis X.env.scope x) (hd:(x==("__debug__":Str))=false:=by decide) (hcd:(x==("__classdict__":Str))=false:=by decide):PE X (.Name x pos) (qGn i):=by
 intro pins s σ H Q I h
 obtain ⟨v,e,h⟩:=h
 obtain ⟨m,hn,hl⟩:=I.loc
 obtain ⟨u,r,l⟩:=hl i x v hN e hv
 have fin:EP X pins σ Q u s:=⟨v,H,I,r,h⟩
 rcases l with ⟨hk,hm⟩ |⟨hk,c,hc,hcell⟩
 ·exact wpAny_Name (wpAny_loadName_local I.ok.kind hk hn hm fin) hd
 ·rcases hk with hk |hk
  ·exact wpAny_Name (wpAny_loadName_cell I.ok.kind hk hc hcell fin) hd
  ·exact wpAny_Name (wpAny_loadName_free I.ok.kind hk hc hcell fin hcd) hd
theorem qHA {i j pos}:PE X (.Constant (.int i) j pos) (tC (.int i)):=fun _ _ _ H _ I h=>wpAny_Constant_int ⟨.int i,H,I.tok _,⟨_,rfl⟩,h⟩
theorem qIK {b j pos}:PE X (.Constant (.bool b) j pos) (tC (.bl b)):=fun _ _ _ H _ I h=>Constant_bool ⟨.bl b,H,I,rfl,h⟩
theorem qGJ {j pos}:PE X (.Constant .none j pos) (tC .non):=fun _ _ _ H _ I h=>Constant_none ⟨.non,H,I,rfl,h⟩
theorem qGt {x j pos}:PE X (.Constant (.str x) j pos) (tC (.str x)):=fun _ _ _ H _ I h=>Calls.Constant_str ⟨.str x,H,I.tok _,⟨_,rfl⟩,h⟩
def Gl (X:Cx) (x:Str):Prop:=X.env.kindOf x=some .globalImplicit
theorem jY {E:Value->Shared->Prop} {pins:List (Addr×Obj)} {s:Shared} {σ:St} {H:Hp} {x:Str} {u:Value} {pos:Pos} {Q:Value->Shared->Prop} (I:Inv X pins σ H s) (hg:Gl X x) (hm:X.mg x=some u) (h:Q u s)
  (hd:(x==("__debug__":Str))=false:=by decide):wpAny (model X.prog X.w) X.A (eval (.Name x pos) X.env) Q E s :=
 Calls.Name_function_global I.ok.kind hg (Calls.loadGlobal_global (by rw [I.ok.glob];exact I.mod.glob.keeps I.bk) hm h) hd
theorem zK {E:Value->Shared->Prop} {pins:List (Addr×Obj)} {s:Shared} {σ:St} {H:Hp} {x:Str} {u:Value} {pos:Pos} {Q:Value->Shared->Prop} (I:Inv X pins σ H s) (hg:Gl X x) (hm:X.mg x=none) (hv:bootBuiltins x=some u) (h:Q u s)
  (hn:x ≠ "__name__" := by decide) (hd:(x==("__debug__":Str))=false:=by decide):wpAny (model X.prog X.w) X.A (eval (.Name x pos) X.env) Q E s:=by
 obtain ⟨mb,h1,h2⟩:=I.mod.blt
 exact Calls.Name_function_global I.ok.kind hg (Calls.loadGlobal_builtin (by rw [I.ok.glob];exact I.mod.glob.keeps I.bk) hm (by rw [I.ok.blt];exact h1.keeps I.bk) ((h2 x hn).trans hv) h) hd
theorem qBE {x:Str} {v:V} {u:Value} {pos:Pos} (hg:Gl X x) (hm:X.mg x=some u) (r:RelV v u) (hd:(x==("__debug__":Str))=false:=by decide):PE X (.Name x pos) (tC v) :=
 fun _ _ _ H _ I h=>jY I hg hm ⟨v,H,I,r,h⟩ hd
theorem qEc {x:Str} {v:V} {u:Value} {pos:Pos} (hg:Gl X x) (hm:X.mg x=none) (hv:bootBuiltins x=some u) (r:RelV v u) (hn:x ≠ "__name__" := by decide) (hd:(x==("__debug__":Str))=false:=by decide):PE X (.Name x pos) (tC v) :=
 fun _ _ _ H _ I h=>zK I hg hm hv ⟨v,H,I,r,h⟩ hn hd
variable {a b:Expr} {ta tb:TE} {pos:Pos}
variable {tA tB':TT} {rest:List Expr}
def tOr (t u:TT):TT:=fun σ H Q=>t σ H fun c H1=>if c=true then Q true H1 else u σ H1 Q
def qIR (t:TT):TT:=fun σ H Q=>t σ H fun c H1=>Q (!c) H1
theorem qGo (ha:PT X a tA):PW X (.BoolOp .Or [a] pos) tA:=by
 intro wh pins s σ H Q I h
 refine isTrue_or (thn (ha pins s σ H Q I h) fun c s1 e => ?_)
 cases c with
 |false=>exact isTrue_or_nil e
 |true=>exact e
theorem qHg (ha:PT X a tA) (hb:PW X (.BoolOp .Or (b::rest) pos) tB'):PW X (.BoolOp .Or (a::b::rest) pos) (tOr tA tB'):=by
 intro wh pins s σ H Q I h
 refine isTrue_or (thn (ha pins s σ H _ I h) fun c s1 ⟨H1,I1,q1⟩ => ?_)
 cases c with
 |true=>exact ⟨H1,I1,q1⟩
 |false=>exact hb wh pins s1 σ H1 Q I1 q1
theorem qGR (ha:PT X a tA):PT X (.UnaryOp .Not a pos) (qIR tA):=by
 intro pins s σ H Q I h
 exact isTrue_not (ha pins s σ H (fun c H1=>Q (!c) H1) I h)
def qH7 (ta tb:TE):TE:=fun σ H Q=>ta σ H fun x H1 => ∃ c,x = .bl c∧if c=true then tb σ H1 Q else Q (.bl false) H1
def qIG (ta:TE):TE:=fun σ H Q=>ta σ H fun x H1 => ∃ c,x = .bl c∧Q (.bl (!c)) H1
theorem qGp {op} {t:TE} (h:PE X a t):PE X (.BoolOp op [a] pos) t:=fun pins s σ H Q I hw=>BoolOp_one (h pins s σ H Q I hw)
theorem qGE (ha:PE X a ta) (hb:PE X (.BoolOp .And (b::rest) pos) tb):PE X (.BoolOp .And (a::b::rest) pos) (qH7 ta tb):=by
 intro pins s σ H Q I h
 refine BoolOp_and (thn (ha pins s σ H _ I h) fun v s1 ⟨x,H1,I1,r1,q1⟩ => ?_)
 obtain ⟨c,rfl,q1⟩:=q1
 cases r1
 refine wpAny_truthy_bool ?_
 cases c with
 |true=>exact hb pins s1 σ H1 Q I1 q1
 |false=>exact ⟨.bl false,H1,I1,rfl,q1⟩
theorem qGV (ha:PE X a ta):PE X (.UnaryOp .Not a pos) (qIG ta):=by
 intro pins s σ H Q I h
 refine UnaryOp_ (thn (ha pins s σ H _ I h) fun v s1 ⟨x,H1,I1,r1,q1⟩ => ?_)
 obtain ⟨c,rfl,q1⟩:=q1
 cases r1
 exact not_of (wpAny_truthy_bool ⟨.bl (!c),H1,I1,rfl,q1⟩)
def tIf (t:TT) (ta tb:TE):TE:=fun σ H Q=>t σ H fun c H1=>if c=true then ta σ H1 Q else tb σ H1 Q
theorem qD3 {c:Expr} (hc:PT X c tA) (ha:PE X a ta) (hb:PE X b tb):PE X (.IfExp c a b pos) (tIf tA ta tb):=by
 intro pins s σ H Q I h
 refine wpAny_IfExp (thn (hc pins s σ H _ I h) fun d s1 ⟨H1,I1,q1⟩ => ?_)
 cases d with
 |true=>exact ha pins s1 σ H1 Q I1 q1
 |false=>exact hb pins s1 σ H1 Q I1 q1
end
end L2
namespace L2
open PySem PySem.Spec PyProof.Rows
def SqL (K:W.Frag) (H:Hp) (a:Addr) (xs:List V):Prop :=
 Rd H a (.lst xs) ∨
  ∃ (o:Obj) (its:Array Value) (n:Nat),K.lookup a=some o∧o.cls = .type "list" ∧ o.dict=none∧o.data = .seq its n∧its.size≤sizeLine∧Vals xs its.toList
def SqT (K:W.Frag) (H:Hp) (a:Addr) (xs:List V):Prop :=
 Rd H a (.tup xs) ∨
  ∃ (o:Obj) (its:Array Value) (n:Nat),K.lookup a=some o∧o.cls = .type "tuple" ∧ o.data = .seq its n∧its.size≤sizeLine∧Vals xs its.toList
def qIn:Value->Option V
 | .none=>some .non
 | .bool b=>some (.bl b)
 | .int i _=>some (.int i)
 | .str x _=>some (.str x)
 | .bytes b _=>some (.byt b)
 | .float b _=>some (.flt b)
 | .ref a=>some (.ref a)
 | .type n=>some (.ty n)
 |_=>none
theorem RelV.abs {x:V} {u:Value} (r:RelV x u):qIn u=some x:=by
 cases x with
 |non=>cases r;rfl
 |bl _=>cases r;rfl
 |int _=>obtain ⟨t,rfl⟩:=r;rfl
 |str _=>obtain ⟨t,rfl⟩:=r;rfl
 |byt _=>obtain ⟨t,rfl⟩:=r;rfl
 |flt _=>obtain ⟨t,rfl⟩:=r;rfl
 |ref _=>cases r;rfl
 |ty _=>cases r;rfl
theorem RelV.inj {x y:V} {u:Value} (r:RelV x u) (q:RelV y u):x=y:=Option.some.inj (r.abs.symm.trans q.abs)
theorem Vals.inj:∀ {xs ys:List V} {us:List Value},Vals xs us->Vals ys us->xs=ys
 |_,_,_,.nil,.nil=>rfl
 |_,_,_,.cons r t,.cons r' t'=>by rw [r.inj r',Vals.inj t t']
section
variable {X:Cx} {pins:List (Addr×Obj)} {σ:St} {H:Hp} {s:Shared} {a:Addr} {xs ys:List V}
theorem SqL.of {K:W.Frag} (h:H a=some (.lst xs)):SqL K H a xs := .inl (.inl h)
theorem Inv.list (I:Inv X pins σ H s) (h:SqL X.K H a xs):∃ its:List Value,Vals xs its∧PlainL s.heap a its.toArray∧xs.length≤sizeLine:=by
 rcases h with h |⟨o,its,n,hk,hc,hd,hs,hz,r⟩
 ·obtain ⟨z,its,n,r,e⟩:=h.ok I.hok
  exact ⟨its,r,⟨_,n,e,rfl,rfl,rfl⟩,z⟩
 ·refine ⟨its.toList,r,⟨o,n,I.kIn a o hk,hc,hd,by simpa using hs⟩,?_⟩
  have e:=r.length
  simp only [Array.length_toList] at e
  omega
theorem Inv.tuple (I:Inv X pins σ H s) (h:SqT X.K H a xs):∃ its:List Value,Vals xs its∧IsTup s.heap a its.toArray∧xs.length≤sizeLine:=by
 rcases h with h |⟨o,its,n,hk,hc,hs,hz,r⟩
 ·obtain ⟨z,its,r,p⟩:=h.ok I.hok
  exact ⟨its,r,p,z⟩
 ·refine ⟨its.toList,r,⟨o,I.kIn a o hk,hc,n,by simpa using hs⟩,?_⟩
  have e:=r.length
  simp only [Array.length_toList] at e
  omega
theorem Inv.list_inj (I:Inv X pins σ H s) (h:SqL X.K H a xs) (h':SqL X.K H a ys):xs=ys:=by
 obtain ⟨its,r,⟨o,n,e,_,_,d⟩,_⟩:=I.list h
 obtain ⟨its',r',⟨o',n',e',_,_,d'⟩,_⟩:=I.list h'
 rw [e] at e';cases e'
 rw [d] at d'
 injection d' with d1 _
 have:its=its':=by simpa using congrArg Array.toList d1
 subst this
 exact r.inj r'
theorem Inv.tuple_inj (I:Inv X pins σ H s) (h:SqT X.K H a xs) (h':SqT X.K H a ys):xs=ys:=by
 obtain ⟨its,r,⟨o,e,_,n,d⟩,_⟩:=I.tuple h
 obtain ⟨its',r',⟨o',e',_,n',d'⟩,_⟩:=I.tuple h'
 rw [e] at e';cases e'
 rw [d] at d'
 injection d' with d1 _
 have:its=its':=by simpa using congrArg Array.toList d1
 subst this
 exact r.inj r'
end
abbrev Cx.wish (X:Cx) (E:Value->Shared->Prop):Cx:={ X with xe:=E }
abbrev Cx.nox (X:Cx):Cx:=X.wish fun _ _=>False
theorem Cx.Ok.wish {X:Cx} (ok:X.Ok) (E:Value->Shared->Prop):(X.wish E).Ok :=
 ⟨ok.mod,ok.kind,ok.glob,ok.blt,ok.above,ok.inj,ok.has,ok.cab,ok.hd,ok.frames,ok.stk,ok.exf,ok.bs,ok.bsz,ok.noex,ok.exfs,ok.funs,ok.frf⟩
theorem Cx.Ok.unwish {X:Cx} {E:Value->Shared->Prop} (ok:(X.wish E).Ok):X.Ok :=
 ⟨ok.mod,ok.kind,ok.glob,ok.blt,ok.above,ok.inj,ok.has,ok.cab,ok.hd,ok.frames,ok.stk,ok.exf,ok.bs,ok.bsz,ok.noex,ok.exfs,ok.funs,ok.frf⟩
section
variable {X:Cx} {pins:List (Addr×Obj)} {σ:St} {H:Hp} {s:Shared} {E:Value->Shared->Prop}
theorem Inv.wish (I:Inv X pins σ H s) (E:Value->Shared->Prop):Inv (X.wish E) pins σ H s:=⟨I.ok.wish E,I.os,I.bare,I.base,I.loc,I.cell,I.free,I.freeC,I.pin,I.hok,I.len,I.hnd⟩
theorem Inv.unwish (I:Inv (X.wish E) pins σ H s):Inv X pins σ H s:=⟨I.ok.unwish,I.os,I.bare,I.base,I.loc,I.cell,I.free,I.freeC,I.pin,I.hok,I.len,I.hnd⟩
theorem SP.unwish {D:Ends} {f:Flow} {s':Shared} (h:SP (X.wish E) pins D f s'):SP X pins D f s':=by
 cases f with
 |next=>obtain ⟨σ',H',I,q⟩:=h;exact ⟨σ',H',I.unwish,q⟩
 |brk=>obtain ⟨σ',H',I,q⟩:=h;exact ⟨σ',H',I.unwish,q⟩
 |cont=>obtain ⟨σ',H',I,q⟩:=h;exact ⟨σ',H',I.unwish,q⟩
 |ret u=>obtain ⟨v,σ',H',I,r,q⟩:=h;exact ⟨v,σ',H',I.unwish,r,q⟩
end
section
variable {X:Cx} {st:Stmt} {rest:List Stmt} {t u:TS} {e:Expr} {te:TE} {pos:Pos}
def qHY:TS:=fun D σ H=>D.nx σ H
def qIo (t u:TS):TS:=fun D σ H=>t { D with nx:=u D } σ H
theorem qFR:PSs X [] qHY:=fun _ _ σ H _ I h=>wpAny_execs_nil ⟨σ,H,I,h⟩
theorem qCd (h1:PS X st t) (h2:PSs X rest u):PSs X (st::rest) (qIo t u):=by
 intro pins s σ H D I h
 refine wpAny_execs_cons (thn (h1 pins s σ H { D with nx:=u D } I h) fun f s1 q => ?_)
 cases f with
 |next =>
  obtain ⟨σ',H',I',q⟩:=q
  exact h2 pins s1 σ' H' D I' q
 |ret v=>exact q
 |brk=>exact q
 |cont=>exact q
theorem qEW (h1:PS X st t):PSs X [st] t:=by
 intro pins s σ H D I h
 refine wpAny_execs_cons (thn (h1 pins s σ H D I h) fun f s1 q => ?_)
 cases f with
 |next=>exact wpAny_execs_nil q
 |ret v=>exact q
 |brk=>exact q
 |cont=>exact q
theorem Inv.quiet {pins:List (Addr×Obj)} {σ:St} {H:Hp} {s:Shared} (I:Inv X pins σ H s):interactive X.env=false:=by simp [interactive,I.ok.kind]
def qH8 (te:TE):TS:=fun D σ H=>te σ H fun _ H1=>D.nx σ H1
theorem qBA (he:PE X e te) (hs:swapsWith e none pos.line X.env=pure false:=by rfl):PS X (.Expr e pos) (qH8 te):=by
 intro pins s σ H D I h
 exact wpAny_Expr_any (thn (he pins s σ H _ I h) fun v s1 ⟨x,H1,I1,r1,q1⟩=>⟨σ,H1,I1,q1⟩) I.quiet hs
def qIW (te:TE):TS:=fun D σ H=>te σ H D.rt
theorem qDJ (he:PE X e te):PS X (.Return (some e) pos) (qIW te):=by
 intro pins s σ H D I h
 exact wpAny_Return_some (thn (he pins s σ H _ I h) fun v s1 ⟨x,H1,I1,r1,q1⟩=>⟨x,σ,H1,I1,r1,q1⟩)
def qIm (c:TT) (t u:TS):TS:=fun D σ H=>c σ H fun b H1=>if b=true then t D σ H1 else u D σ H1
theorem qHp {c:Expr} {a b:List Stmt} {tc:TT} (hc:PT X c tc) (ha:PSs X a t) (hb:PSs X b u):PS X (.If c a b pos) (qIm tc t u):=by
 intro pins s σ H D I h
 refine wpAny_If (thn (hc pins s σ H _ I h) fun d s1 ⟨H1,I1,q1⟩ => ?_)
 cases d with
 |true=>exact ha pins s1 σ H1 D I1 q1
 |false=>exact hb pins s1 σ H1 D I1 q1
end
abbrev TG:=V->St->Hp->(St->Hp->Prop)->Prop
abbrev TGs:=List V->St->Hp->(St->Hp->Prop)->Prop
def PG (X:Cx) (target:Expr) (t:TG):Prop :=
 ∀ (pins:List (Addr×Obj)) (s:Shared) (σ:St) (H:Hp) (v:V) (u:Value) (Q:St->Hp->Prop),Inv X pins σ H s->RelV v u->t v σ H Q ->
  wpAny (model X.prog X.w) X.A (assign target X.env u) (fun _ s' => ∃ σ' H',Inv X pins σ' H' s'∧Q σ' H') X.xe s
def PGs (X:Cx) (ts:List Expr) (t:TGs):Prop :=
 ∀ (pins:List (Addr×Obj)) (s:Shared) (σ:St) (H:Hp) (vs:List V) (us:List Value) (Q:St->Hp->Prop),Inv X pins σ H s->Vals vs us->t vs σ H Q ->
  wpAny (model X.prog X.w) X.A (assignInOrder ((assignEach ts X.env).map (·.2)) us) (fun _ s' => ∃ σ' H',Inv X pins σ' H' s'∧Q σ' H') X.xe s
abbrev qG5:=V->V->V->Hp->(Hp->Prop)->Prop
def qIC (X:Cx) (t:qG5):Prop :=
 ∀ (pins:List (Addr×Obj)) (s:Shared) (σ:St) (H:Hp) (o i v:V) (ov iv u:Value) (Q:Hp->Prop),Inv X pins σ H s->RelV o ov->RelV i iv->RelV v u->t o i v H Q ->
  wpAny (model X.prog X.w) X.A (setItem ov iv u) (fun _ s' => ∃ H',Inv X pins σ H' s'∧Q H') X.xe s
section
variable {X:Cx} {pos:Pos}
def qC4 (i:Nat):TG:=fun v σ H Q=>Q (σ.set i (some v)) H
theorem qD9 {i:Nat} {x:Str} (hN:X.N.Nodup) (hi:X.N[i]? = some x) (hx:Loc X.env.scope x) (hf:X.fn x=true∨X.env.scope.names.lookup x=some .local:=by first |exact .inl rfl |exact .inr rfl |assumption):PG X (.Name x pos) (qC4 i):=by
 intro pins s σ H v u Q I r h
 exact wpAny_assign_Name (yC I hN hi hx r (fun s' I'=>⟨_,H,I',h⟩) hf)
def qIQ:TGs:=fun vs σ H Q=>vs=[]∧Q σ H
def qHi (t:TG) (u:TGs):TGs:=fun vs σ H Q => ∃ v r,vs=v::r∧t v σ H fun σ' H'=>u r σ' H' Q
theorem qEB:PGs X [] qIQ:=by
 intro pins s σ H vs us Q I r h
 obtain ⟨e,h⟩:=h
 subst e
 cases r
 exact assignInOrder_nil ⟨σ,H,I,h⟩
theorem qDn {e:Expr} {es:List Expr} {t:TG} {u:TGs} (h1:PG X e t) (h2:PGs X es u)
  (hs:(assignEach (e::es) X.env).map (·.2)=assign e X.env::(assignEach es X.env).map (·.2):=by rfl):PGs X (e::es) (qHi t u):=by
 intro pins s σ H vs us Q I r h
 obtain ⟨v,vr,e1,h⟩:=h
 subst e1
 cases r with
 |cons r rr =>
  rw [hs]
  refine assignInOrder_cons (thn (h1 pins s σ H _ _ _ I r h) fun _ s1 ⟨σ1,H1,I1,q1⟩ => ?_)
  exact h2 pins s1 σ1 H1 _ _ Q I1 rr q1
def qIa (K:W.Frag) (n:Nat) (t:TGs):TG:=fun v σ H Q => ∃ a xs,v = .ref a∧SqT K H a xs∧xs.length=n∧t xs σ H Q
theorem qFu {es:List Expr} {k:Nat} {t:TGs} {n:Nat} (hc:X.calm=true) (h:PGs X es t)
  (hn:(assignEach es X.env).length=n:=by rfl) (hst:(assignEach es X.env).findIdx? (·.1)=none:=by rfl):PG X (.Tuple es k pos) (qIa X.K n t):=by
 intro pins s σ H v u Q I r hw
 obtain ⟨a,xs,e1,hq,hl,hw⟩:=hw
 subst e1
 cases r
 obtain ⟨its,rv,ht,hz⟩:=I.tuple hq
 refine assign_Tuple_tuple (I.ok.hd hc) ht (by simp [hn,← hl,rv.length]) hst fun h' hx => ?_
 have I1:Inv X pins σ H { s with heap:=h' }:=I.kept (t':=s.toks) fun b o e=>hx b o (Nat.ne_of_lt (Heap.lt_size e)) e
 exact h pins _ σ H xs _ Q I1 (by simpa using rv) hw
def WL (to ti:TE) (t:qG5):TG:=fun v σ H Q=>to σ H fun o H1=>ti σ H1 fun i H2=>t o i v H2 fun H3=>Q σ H3
theorem qG2 {o i:Expr} {to ti:TE} {t:qG5} (ho:PE X o to) (hi:PE X i ti) (hs:qIC X t)
  (ha:∀ v,assign (.Subscript o i pos) X.env v=(do
   let ov ← holding [v] (eval o X.env)
   let iv ← holding [v,ov] (eval i X.env)
   standAt pos
   holding [v,ov,iv] (setItem ov iv v)
   release [v,ov,iv] []):=by intro _;rfl):PG X (.Subscript o i pos) (WL to ti t):=by
 intro pins s σ H v u Q I r h
 rw [ha]
 refine wpAny_bind (wpAny_holding (thn (ho pins s σ H _ I h) fun ov s1 ⟨x,H1,I1,r1,q1⟩ => ?_))
 refine wpAny_bind (wpAny_holding (thn (hi pins s1 σ H1 _ I1 q1) fun iv s2 ⟨y,H2,I2,r2,q2⟩ => ?_))
 refine wpAny_bind (wpAny_standAt (wpAny_bind (wpAny_holding (thn (hs pins s2 σ H2 x y v ov iv u _ I2 r1 r2 r q2) fun _ s3 ⟨H3,I3,q3⟩ => ?_))))
 exact wpAny_release ⟨σ,H3,I3,q3⟩
def qGA (te:TE) (g:TG):TS:=fun D σ H=>te σ H fun x H1=>g x σ H1 D.nx
theorem qDl {tg e:Expr} {te:TE} {g:TG} (he:PE X e te) (hg:PG X tg g) (hs:swapsWithSole [tg] e pos.line X.env=pure false:=by rfl) (hw:swappedStores [tg] e X.env=pure none:=by rfl)
  (h1:(assignEach [tg] X.env).map (·.2)=[assign tg X.env]:=by rfl):PS X (.Assign [tg] e pos) (qGA te g):=by
 intro pins s σ H D I h
 refine wpAny_Assign_stores (thn (he pins s σ H _ I h) fun v s1 ⟨x,H1,I1,r1,q1⟩ => ?_) hs hw
 rw [h1]
 exact thn (hg pins s1 σ H1 x v _ I1 r1 q1) fun _ s2 q=>q
theorem qDo {i:Nat} {x:Str} {e:Expr} {te:TE} {pos':Pos} (hN:X.N.Nodup) (hi:X.N[i]? = some x) (hx:Loc X.env.scope x) (he:PE X e te) (hs:swapsWith e (some (.Name x pos')) pos.line X.env=pure false:=by rfl) (hf:X.fn x=true∨X.env.scope.names.lookup x=some .local:=by first |exact .inl rfl |exact .inr rfl |assumption) :
  PS X (.Assign [.Name x pos'] e pos) (qGA te (qC4 i)):=by
 intro pins s σ H D I h
 refine wpAny_Assign_Name (thn (he pins s σ H _ I h) fun v s1 ⟨y,H1,I1,r1,q1⟩ => ?_) hs
 exact yC I1 hN hi hx r1 (fun s2 I2=>⟨_,H1,I2,q1⟩) hf
end
structure It where
 go:Nat->Hp->Prop
 yld:Nat->Hp->V->Hp->Prop
 stop:Nat->Hp->Prop
def Zi (X:Cx) (pins:List (Addr×Obj)) (H:Hp) (b:Addr):Prop :=
 H b=none∧b≠X.env.locals∧b ∉ X.fs∧(b∈X.ex∨X.s₀.heap.objs.size≤b)∧(∀ x c,X.env.cells.lookup x=some c->c≠b) ∧ ∀ p∈X.pn++pins,p.1≠b
theorem Inv.fpOk {X:Cx} {pins:List (Addr×Obj)} {σ:St} {H H':Hp} {s:Shared} {b:Addr} (I:Inv X pins σ H s) (hb:s.heap.objs.size≤b) (hn:H' b=none):Zi X pins H' b:=by
 refine ⟨hn,Nat.ne_of_gt (Nat.lt_of_lt_of_le I.lt hb),I.nofs hb,.inr (Nat.le_trans I.sz hb),fun x c e z => ?_,fun p hp z => ?_⟩
 ·obtain ⟨v,q⟩:=I.cell x c e
  exact absurd (Nat.lt_of_lt_of_le q.lt (by rw [z];exact hb)) (Nat.lt_irrefl _)
 ·exact absurd (Nat.lt_of_lt_of_le (Heap.lt_size (I.pin p hp).1) (by rw [z];exact hb)) (Nat.lt_irrefl _)
theorem Inv.hndH {X:Cx} {pins:List (Addr×Obj)} {σ:St} {H:Hp} {s:Shared} (I:Inv X pins σ H s):EX.Hnd X.A s.heap:=fun v hv=>by
 obtain ⟨ea,oe,u,vs,e1,e2,e3⟩:=I.hnd v hv
 exact ⟨ea,oe,vs,e1,(I.hok _ _ e2).1,e3⟩
theorem Inv.hndNe {X:Cx} {pins:List (Addr×Obj)} {σ:St} {H:Hp} {s:Shared} (I:Inv X pins σ H s) {it:Addr} (hn:H it=none):∀ v,X.A.handled=some v->v ≠ .ref it:=fun v hv z=>by
 obtain ⟨ea,oe,u,vs,e1,e2,e3⟩:=I.hnd v hv
 rw [e1] at z;cases z;rw [hn] at e2;cases e2
structure Turn (P:Program) (w:World) (K:W.Frag) (A:Around) (tg:Expr) (J:It) (fp:List Addr) (it:Addr) (tn:Nat->Heap->Prop):Prop where
 mem:it∈fp
 obj:∀ i h,tn i h -> ∀ b∈fp,∃ o,h.get? b=some o ∧ ∀ v,o.data ≠ .cell v
 keep:∀ i h h',tn i h->(∀ b∈fp,∀ o,h.get? b=some o->h'.get? b=some o)->tn i h'
 item:∀ (X:Cx),X.prog=P->X.w=w->X.K=K->X.A=A -> ∀ (i:Nat) (pins:List (Addr×Obj)) (s:Shared) (σ:St) (H:Hp) (E:Value->Shared->Prop),Inv X pins σ H s->(∀ b∈fp,Zi X pins H b)->tn i s.heap->J.go i H ->
  wpAny (model P w) X.A (pyNext (.ref it)) (fun r s1 => ∃ u,r=some u ∧
   wpAny (model P w) X.A (letOwnedTupleGo tg (.ref it) u) (fun _ s2 => ∃ x H',Inv X pins σ H' s2∧RelV x u∧J.yld i H x H'∧tn (i + 1) s2.heap ∧ ∀ b∈fp,H' b=none) E s1) E s
 done:∀ (X:Cx),X.prog=P->X.w=w->X.K=K->X.A=A -> ∀ (i:Nat) (pins:List (Addr×Obj)) (s:Shared) (σ:St) (H:Hp) (E:Value->Shared->Prop),Inv X pins σ H s->(∀ b∈fp,Zi X pins H b)->tn i s.heap->J.stop i H ->
  wpAny (model P w) X.A (pyNext (.ref it)) (fun r s1=>r=none∧Inv X pins σ H s1) E s
 self:∀ (A:Around) (i:Nat) (s:Shared) (Q:Value->Shared->Prop) (E:Value->Shared->Prop),tn i s.heap->Q (.ref it) s->wpAny (model P w) A (pyIter (.ref it)) Q E s
abbrev TI:=St->Hp->(It->Hp->Prop)->Prop
def PIE (X:Cx) (pins:List (Addr×Obj)) (σ:St) (tg:Expr) (R:It->Hp->Prop) (itv:Value) (s2:Shared):Prop :=
 ∃ (it:Addr) (fp:List Addr) (tn:Nat->Heap->Prop) (J:It) (H':Hp),itv = .ref it∧Inv X pins σ H' s2∧Turn X.prog X.w X.K X.A tg J fp it tn∧tn 0 s2.heap∧(∀ b∈fp,Zi X pins H' b)∧R J H'
def PI (X:Cx) (tg iter:Expr) (wi:TI):Prop :=
 ∀ (pins:List (Addr×Obj)) (s:Shared) (σ:St) (H:Hp) (R:It->Hp->Prop),Inv X pins σ H s->wi σ H R ->
  wpAny (model X.prog X.w) X.A (eval iter X.env) (fun v s1=>wpAny (model X.prog X.w) X.A (pyIter v) (PIE X pins σ tg R) X.xe s1) X.xe s
theorem qCf {M : Model} {A : Around} {E : Value->Shared->Prop} {s : Shared} {tg : Expr} {it : Addr} {u : Value} {o : Obj} {n : String} {vs : Array Value} {Q : Unit->Shared->Prop} (ho : s.heap.get? it=some o) (hc : o.cls = .type n) (hd : o.data = .fields vs)
    (hn : ["enumerate", "zip", "dict_itemiterator", "dict_reverseitemiterator", "odict_iterator", "itertools.zip_longest", "itertools.pairwise"].contains n=false) (hQ : Q () s) : wpAny M A (letOwnedTupleGo tg (.ref it) u) Q E s:=by
  unfold letOwnedTupleGo
  cases tg <;> first
    |exact wpAny_pure hQ
    |(cases u <;> first
        |exact wpAny_pure hQ
        | (refine wpAny_bind (wpAny_load ho ?_)
           rw [hc, hd]
           show wpAny M A (if (["enumerate", "zip", "dict_itemiterator", "dict_reverseitemiterator", "odict_iterator", "itertools.zip_longest", "itertools.pairwise"].contains n&&vs[0]? == some (rawInt _))=true then _ else _) Q E s
           rw [if_neg (by intro h; rw [hn, Bool.false_and] at h; cases h)]
           exact wpAny_pure hQ))
def Itl (K:W.Frag) (a:Addr):It :=
 ⟨fun i H => ∃ xs x,SqL K H a xs∧xs[i]? = some x,fun i H x H'=>H'=H ∧ ∀ xs,SqL K H a xs->xs[i]? = some x,fun i H => ∃ xs,SqL K H a xs∧xs.length≤i⟩
def Itt (K:W.Frag) (a:Addr):It :=
 ⟨fun i H => ∃ xs x,SqT K H a xs∧xs[i]? = some x,fun i H x H'=>H'=H ∧ ∀ xs,SqT K H a xs->xs[i]? = some x,fun i H => ∃ xs,SqT K H a xs∧xs.length≤i⟩
def Itr (lo:Int) (n:Nat):It:=⟨fun i _=>i < n,fun i H x H'=>H'=H∧x = .int (lo + i),fun i _=>n≤i⟩
theorem qBo {P:Program} {w:World} {K:W.Frag} {A:Around} {tg:Expr} (a it:Addr):Turn P w K A tg (Itl K a) [it] it (fun i h=>h.IsListIter it a i) where
 mem:=by simp
 obj:=fun i h st b hb=>by
  have e:b=it:=by simpa using hb
  subst e
  obtain ⟨o,e,c,d⟩:=st
  exact ⟨o,e,fun v z=>by rw [d] at z;cases z⟩
 keep:=fun i h h' st k=>st.at fun o e=>k it (by simp) o e
 item:=by
  intro X hP hw hK _ i pins s σ H E I hf st hg
  subst hP hw hK
  obtain ⟨xs,x,hq,hx⟩:=hg
  obtain ⟨its,rv,p,hz⟩:=I.list hq
  obtain ⟨u,hu,ru⟩:=rv.get hx
  obtain ⟨f0,f1,f2,f3,f4,f5⟩:=hf it (by simp)
  refine wpAny_pyNext_list_item st p.isList (x:=u) (by simpa using hu) fun h' st' sb => ?_
  have I1:Inv X pins σ H { s with heap:=h' }:=I.turned (t':=s.toks) (fun b o hb e=>(sb.2 b hb).trans e) f0 f1 f3 f4 f5
  obtain ⟨o,e,c,d⟩:=id st'
  exact ⟨u,rfl,qCf (s:={ s with heap:=h' }) e c d (by decide) ⟨x,H,I1,ru,⟨rfl,fun ys hy=>by rw [I.list_inj hy hq];exact hx⟩,st',fun b hb=>(hf b hb).1⟩⟩
 done:=by
  intro X hP hw hK _ i pins s σ H E I hf st hg
  subst hP hw hK
  obtain ⟨xs,hq,hx⟩:=hg
  obtain ⟨its,rv,p,hz⟩:=I.list hq
  obtain ⟨f0,f1,f2,f3,f4,f5⟩:=hf it (by simp)
  have hl:=rv.length
  exact EX.list_end I.hndH st p.isList (by simp;omega) (I.hndNe f0) fun h' eb=>⟨rfl,I.turned (t':=s.toks) (fun b o hb e=>eb b o hb e) f0 f1 f3 f4 f5⟩
 self:=fun _ _ _ _ _ st h=>wpAny_pyIter_listiter st h
theorem qAU {P:Program} {w:World} {K:W.Frag} {A:Around} {tg:Expr} (a it:Addr):Turn P w K A tg (Itt K a) [it] it (fun i h=>h.IsTupleIter it a i) where
 mem:=by simp
 obj:=fun i h st b hb=>by
  have e:b=it:=by simpa using hb
  subst e
  obtain ⟨o,e,c,d⟩:=st
  exact ⟨o,e,fun v z=>by rw [d] at z;cases z⟩
 keep:=fun i h h' st k=>st.at fun o e=>k it (by simp) o e
 item:=by
  intro X hP hw hK _ i pins s σ H E I hf st hg
  subst hP hw hK
  obtain ⟨xs,x,hq,hx⟩:=hg
  obtain ⟨its,rv,p,hz⟩:=I.tuple hq
  obtain ⟨u,hu,ru⟩:=rv.get hx
  obtain ⟨f0,f1,f2,f3,f4,f5⟩:=hf it (by simp)
  refine wpAny_pyNext_tuple_item st (show s.heap.IsTuple a its.toArray from p) (x:=u) (by simpa using hu) fun h' st' sb => ?_
  have I1:Inv X pins σ H { s with heap:=h' }:=I.turned (t':=s.toks) (fun b o hb e=>(sb.2 b hb).trans e) f0 f1 f3 f4 f5
  obtain ⟨o,e,c,d⟩:=id st'
  exact ⟨u,rfl,qCf (s:={ s with heap:=h' }) e c d (by decide) ⟨x,H,I1,ru,⟨rfl,fun ys hy=>by rw [I.tuple_inj hy hq];exact hx⟩,st',fun b hb=>(hf b hb).1⟩⟩
 done:=by
  intro X hP hw hK _ i pins s σ H E I hf st hg
  subst hP hw hK
  obtain ⟨xs,hq,hx⟩:=hg
  obtain ⟨its,rv,p,hz⟩:=I.tuple hq
  obtain ⟨f0,f1,f2,f3,f4,f5⟩:=hf it (by simp)
  have hl:=rv.length
  exact EX.tuple_end I.hndH st (show s.heap.IsTuple a its.toArray from p) (by simp;omega) (I.hndNe f0) fun h' eb=>⟨rfl,I.turned (t':=s.toks) (fun b o hb e=>eb b o hb e) f0 f1 f3 f4 f5⟩
 self:=fun _ _ _ _ _ st h=>wpAny_pyIter_tupleiter st h
theorem qAh {P:Program} {w:World} {K:W.Frag} {A:Around} {tg:Expr} (it:Addr) (lo:Int) (n:Nat):Turn P w K A tg (Itr lo n) [it] it (fun i h=>IsRangeIter h it (lo + (i:Nat) * 1) ((n:Int) - (i:Nat)) 1) where
 mem:=by simp
 obj:=fun i h st b hb=>by
  have e:b=it:=by simpa using hb
  subst e
  exact ⟨_,st,fun v z=>by
   have z':Data.fields _=Data.cell v:=z
   cases z'⟩
 keep:=fun i h h' st k=>k it (by simp) _ st
 item:=by
  intro X hP hw hK _ i pins s σ H E I hf st hg
  subst hP hw hK
  obtain ⟨f0,f1,f2,f3,f4,f5⟩:=hf it (by simp)
  refine wpAny_pyNext_range_item st (by have:i < n:=hg;omega) fun h' st' sb => ?_
  have I1:Inv X pins σ H { s with heap:=h',toks:=s.toks + 1 }:=I.turned (fun b o hb e=>(sb.2 b hb).trans e) f0 f1 f3 f4 f5
  have st2:IsRangeIter h' it (lo + ((i + 1:Nat):Int) * 1) ((n:Int) - ((i + 1:Nat):Int)) 1:=by
   have q1:lo + (i:Int) * 1 + 1=lo + ((i + 1:Nat):Int) * 1:=by omega
   have q2:(n:Int) - (i:Int) - 1=(n:Int) - ((i + 1:Nat):Int):=by omega
   rw [← q1,← q2];exact st'
  refine ⟨_,rfl,qCf (s:={ s with heap:=h',toks:=s.toks + 1 }) (n := "range_iterator") st2 rfl rfl (by decide) ⟨.int (lo + i),H,I1,⟨s.toks,?_⟩,⟨rfl,rfl⟩,st2,fun b hb=>(hf b hb).1⟩⟩
  rw [Int.mul_one]
 done:=by
  intro X hP hw hK _ i pins s σ H E I hf st hg
  subst hP hw hK
  obtain ⟨f0,f1,f2,f3,f4,f5⟩:=hf it (by simp)
  exact EX.range_end I.hndH st (by have:n≤i:=hg;omega) fun h' eb=>⟨rfl,I.turned (t':=s.toks) (fun b o hb e=>eb b o e) f0 f1 f3 f4 f5⟩
 self:=fun _ _ _ _ _ st h=>wpAny_pyIter_rangeiter st h
end L2
namespace L2
open PySem PySem.Spec PyProof.Rows
section
variable {X:Cx} {tg:Expr}
theorem jy {pins:List (Addr×Obj)} {σ:St} {H:Hp} {s:Shared} {R:It->Hp->Prop} {E:Value->Shared->Prop} {lo hi:Int} {t u v:Tok} {tk:Nat} (I:Inv X pins σ H s) (h1:-(2 ^ 62)≤lo) (h2:lo < 2 ^ 62) (h3:-(2 ^ 62)≤hi) (h4:hi < 2 ^ 62)
  (q:R (Itr lo (hi - lo).toNat) H):wpAny (model X.prog X.w) X.A (pyIter (.ref s.heap.objs.size)) (PIE X pins σ tg R) E { s with heap:=s.heap.push { cls := .type "range",data := .fields #[.int lo t,.int hi u,.int 1 v] },toks:=tk }:=by
 refine wpAny_pyIter_range (IsRange.new ..) (small_one h1 h2 h3 h4) ?_
 have I1:Inv X pins σ H { s with heap:=s.heap.push { cls := .type "range",data := .fields #[.int lo t,.int hi u,.int 1 v] },toks:=tk }:=I.kept fun b o e=>Heap.get?_push_of_some _ e
 refine ⟨(s.heap.push { cls := .type "range",data := .fields #[.int lo t,.int hi u,.int 1 v] }).objs.size,[(s.heap.push { cls := .type "range",data := .fields #[.int lo t,.int hi u,.int 1 v] }).objs.size],_,_,H,rfl,
  I1.kept (t':=tk) fun b o e=>Heap.get?_push_of_some _ e,qAh _ lo (hi - lo).toNat,?_,fun b hb => ?_,q⟩
 ·have e1:lo + ((0:Nat):Int) * 1=lo:=by simp
  have e2:(((hi - lo).toNat:Nat):Int) - ((0:Nat):Int)=Builtin.Range.rangeSize lo hi 1:=by rw [rangeSize_one];split <;> omega
  show IsRangeIter _ _ (lo + ((0:Nat):Int) * 1) ((((hi - lo).toNat:Nat):Int) - ((0:Nat):Int)) 1
  rw [e1,e2]
  exact Heap.get?_push_size _ rfl
 ·have e:b=(s.heap.push { cls := .type "range",data := .fields #[.int lo t,.int hi u,.int 1 v] }).objs.size:=by simpa using hb
  subst e
  exact I1.fpOk (Nat.le_refl _) (I1.hok.fresh (Nat.le_refl _))
def qH6 (ta:TA):TI:=fun σ H R=>ta σ H fun vs H1 => ∃ j:Int,vs=[.int j] ∧ -(2 ^ 62)≤j∧j < 2 ^ 62∧R (Itr 0 j.toNat) H1
def qHx (ta:TA):TI:=fun σ H R=>ta σ H fun vs H1 => ∃ i j:Int,vs=[.int i,.int j]∧(-(2 ^ 62)≤i∧i < 2 ^ 62 ∧ -(2 ^ 62)≤j∧j < 2 ^ 62)∧R (Itr i (j - i).toNat) H1
theorem qCB {a:Expr} {ta:TA} {p pos:Pos} (hg:Gl X "range") (hm:X.mg "range" = none) (ha:PA X [a] ta) (hs:starEach [a] X.env=[(false,eval a X.env)]:=by rfl):PI X tg (.Call (.Name "range" p) [a] [] pos) (qH6 ta):=by
 intro pins s σ H R I h
 refine Call_ (zK I hg hm boot_range (PyProof.Rows.callWith_type1 (thn (ha pos pins s σ H _ I h) fun us s1 ⟨vs,H1,I1,r1,q1⟩ => ?_) hs rfl))
 obtain ⟨j,e,q1,q2,q⟩:=q1
 subst e
 cases r1 with
 |cons r rr =>
  cases rr
  obtain ⟨t,rfl⟩:=r
  exact call_range_1 (jy I1 (by omega) (by omega) q1 q2 (by simpa using q))
theorem qBZ {a b:Expr} {ta:TA} {p pos:Pos} (hg:Gl X "range") (hm:X.mg "range" = none) (ha:PA X [a,b] ta) (hs:starEach [a,b] X.env=[(false,eval a X.env),(false,eval b X.env)]:=by rfl) (hs2:starEach [b] X.env=[(false,eval b X.env)]:=by rfl) :
  PI X tg (.Call (.Name "range" p) [a,b] [] pos) (qHx ta):=by
 intro pins s σ H R I h
 refine Call_ (zK I hg hm boot_range (PyProof.Rows.callWith_type1 (thn (ha pos pins s σ H _ I h) fun us s1 ⟨vs,H1,I1,r1,q1⟩ => ?_) (by rw [hs,hs2]) (by rw [hs2];rfl)))
 obtain ⟨i,j,e,⟨q1,q2,q3,q4⟩,q⟩:=q1
 subst e
 cases r1 with
 |cons r rr =>
  cases rr with
  |cons r' rr =>
   cases rr
   obtain ⟨t,rfl⟩:=r
   obtain ⟨t',rfl⟩:=r'
   exact call_range_2 (jy I1 q1 q2 q3 q4 q)
def qIX (wi:TI) (g:TG) (tb:TS):TS:=fun D σ H=>wi σ H fun J H1 => ∃ W:Nat->Nat->St->Hp->Prop,(∃ m,W 0 m σ H1) ∧ ∀ i m σ H,W i m σ H ->
 (J.stop i H∧D.nx σ H)∨(J.go i H ∧ ∃ N:St->Hp->Prop,(∀ σ' H',N σ' H' -> ∃ m',m' < m∧W (i + 1) m' σ' H') ∧ ∀ x H',J.yld i H x H'->g x σ H' fun σ2 H2=>tb { D with nx:=N,ct:=N,bk:=D.nx } σ2 H2)
def Ze (fp:List Addr) (h:Heap):List (Addr×Obj):=fp.filterMap fun b=>(h.get? b).map fun o=>(b,o)
theorem zJ {fp:List Addr} {h:Heap} {b:Addr} {o:Obj} (hb:b∈fp) (e:h.get? b=some o):(b,o)∈Ze fp h:=List.mem_filterMap.mpr ⟨b,hb,by rw [e];rfl⟩
theorem qB5 {fp:List Addr} {h:Heap} {p:Addr×Obj} (hp:p∈Ze fp h):p.1∈fp∧h.get? p.1=some p.2:=by
 obtain ⟨b,hb,e⟩:=List.mem_filterMap.mp hp
 cases q:h.get? b with
 |none=>rw [q] at e;cases e
 |some o =>
  rw [q] at e
  have e':(b,o)=p:=Option.some.inj e
  subst e'
  exact ⟨hb,q⟩
theorem Inv.pinned {pins:List (Addr×Obj)} {σ:St} {H:Hp} {s:Shared} {fp:List Addr} (I:Inv X pins σ H s) (hf:∀ b∈fp,Zi X pins H b) (ho:∀ b∈fp,∃ o,s.heap.get? b=some o ∧ ∀ v,o.data ≠ .cell v):Inv X (pins++Ze fp s.heap) σ H s :=
 I.pins_of fun p hp=>(List.mem_append.mp hp).elim (fun z=>I.pin p (List.mem_append_right _ z)) fun z=>by
  obtain ⟨hb,e⟩:=qB5 z
  obtain ⟨f0,f1,f2,_⟩:=hf p.1 hb
  obtain ⟨o,e',d⟩:=ho p.1 hb
  rw [e] at e';cases e'
  exact ⟨e,f0,f1,f2,d⟩
theorem Inv.unpinned {pins pl:List (Addr×Obj)} {σ:St} {H:Hp} {s:Shared} (I:Inv X (pins++pl) σ H s):Inv X pins σ H s:=I.pins_of fun p hp=>I.pin p (List.mem_append_right _ (List.mem_append_left _ hp))
end
end L2
namespace L2
open PySem PySem.Spec PyProof.Rows
abbrev R2:=V->V->Hp->VK->Prop
def OpR (X:Cx) (f:Value->Value->Sem Value) (r:R2):Prop :=
 ∀ (pins:List (Addr×Obj)) (s:Shared) (σ:St) (H:Hp) (x y:V) (v u:Value) (Q:VK),Inv X pins σ H s->RelV x v->RelV y u->r x y H Q ->
  wpAny (model X.prog X.w) X.A (f v u) (EP X pins σ Q) X.xe s
def UnR (X:Cx) (f:Value->Sem Value) (r:V->Hp->VK->Prop):Prop :=
 ∀ (pins:List (Addr×Obj)) (s:Shared) (σ:St) (H:Hp) (x:V) (v:Value) (Q:VK),Inv X pins σ H s->RelV x v->r x H Q ->
  wpAny (model X.prog X.w) X.A (f v) (EP X pins σ Q) X.xe s
def WH (X:Cx) (f:Value) (r:List V->Hp->VK->Prop):Prop :=
 ∀ (pins:List (Addr×Obj)) (s:Shared) (σ:St) (H:Hp) (xs:List V) (us:List Value) (Q:VK),Inv X pins σ H s->Vals xs us->r xs H Q ->
  wpAny (model X.prog X.w) X.A (call f us) (EP X pins σ Q) X.xe s
def qIN (X:Cx) (r:V->Hp->(Bool->Hp->Prop)->Prop):Prop :=
 ∀ (pins:List (Addr×Obj)) (s:Shared) (σ:St) (H:Hp) (x:V) (v:Value) (Q:Bool->Hp->Prop),Inv X pins σ H s->RelV x v->r x H Q ->
  wpAny (model X.prog X.w) X.A (truthy v) (TP X pins σ Q) X.xe s
def tOp (r:R2) (ta tb:TE):TE:=fun σ H Q=>ta σ H fun x H1=>tb σ H1 fun y H2=>r x y H2 Q
def tUn (r:V->Hp->VK->Prop) (ta:TE):TE:=fun σ H Q=>ta σ H fun x H1=>r x H1 Q
def rI (C:Int->Int->Prop) (g:Int->Int->V):R2:=fun x y H Q => ∃ i j,x = .int i∧y = .int j∧C i j∧Q (g i j) H
def rI0 (g:Int->Int->V):R2:=fun x y H Q => ∃ i j,x = .int i∧y = .int j∧Q (g i j) H
def rU (g:Int->V):V->Hp->VK->Prop:=fun x H Q => ∃ i,x = .int i∧Q (g i) H
section
variable {X:Cx} {a b c:Expr} {ta tb tc:TE} {pos:Pos}
theorem qGs (ha:PE X a ta) (hb:PE X b tb) {pins:List (Addr×Obj)} {s:Shared} {σ:St} {H:Hp} {R:V->V->Hp->Prop} (I:Inv X pins σ H s)
  (h:ta σ H fun x H1=>tb σ H1 fun y H2=>R x y H2) {Q:Value->Shared->Prop} {f:Value->Value->Sem Value}
  (hf:∀ v u s2 x y H2,Inv X pins σ H2 s2->RelV x v->RelV y u->R x y H2->wpAny (model X.prog X.w) X.A (f v u) Q X.xe s2) :
  wpAny (model X.prog X.w) X.A (eval a X.env) (fun v s₁=>wpAny (model X.prog X.w) X.A (eval b X.env) (fun u s₂=>wpAny (model X.prog X.w) X.A (f v u) Q X.xe s₂) X.xe s₁) X.xe s:=by
 refine thn (ha pins s σ H _ I h) fun v s1 ⟨x,H1,I1,r1,q1⟩ => ?_
 refine thn (hb pins s1 σ H1 _ I1 q1) fun u s2 ⟨y,H2,I2,r2,q2⟩ => ?_
 exact hf v u s2 x y H2 I2 r1 r2 q2
theorem qFf {op:Operator} {r:R2} (ho:OpR X (binaryOp op) r) (ha:PE X a ta) (hb:PE X b tb):PE X (.BinOp a op b pos) (tOp r ta tb):=by
 intro pins s σ H Q I h
 exact wpAny_BinOp (qGs ha hb I h fun v u s2 x y H2 I2 rx ry q=>ho pins s2 σ H2 x y v u Q I2 rx ry q)
theorem qIJ {op:UnaryOp} {r:V->Hp->VK->Prop} (ho:UnR X (unaryOp op) r) (ha:PE X a ta):PE X (.UnaryOp op a pos) (tUn r ta):=by
 intro pins s σ H Q I h
 exact UnaryOp_ (thn (ha pins s σ H _ I h) fun v s1 ⟨x,H1,I1,r1,q1⟩=>ho pins s1 σ H1 x v Q I1 r1 q1)
theorem opI {f:Value->Value->Sem Value} {C:Int->Int->Prop} {g:Int->Int->Int}
  (rule:∀ (i j:Int) (t u:Tok) (s:Shared) (Q:Value->Shared->Prop) (E:Value->Shared->Prop),C i j->Q (.int (g i j) s.toks) { s with toks:=s.toks + 1 }->wpAny (model X.prog X.w) X.A (f (.int i t) (.int j u)) Q E s) :
  OpR X f (rI C fun i j => .int (g i j)):=by
 intro pins s σ H x y v u Q I rx ry h
 obtain ⟨i,j,rfl,rfl,hc,q⟩:=h
 obtain ⟨t,rfl⟩:=rx
 obtain ⟨t',rfl⟩:=ry
 exact rule i j t t' s _ _ hc ⟨.int (g i j),H,I.tok _,⟨_,rfl⟩,q⟩
theorem qHl {f:Value->Value->Sem Value} {g:Int->Int->Int}
  (rule:∀ (i j:Int) (t u:Tok) (s:Shared) (Q:Value->Shared->Prop) (E:Value->Shared->Prop),Q (.int (g i j) s.toks) { s with toks:=s.toks + 1 }->wpAny (model X.prog X.w) X.A (f (.int i t) (.int j u)) Q E s) :
  OpR X f (rI0 fun i j => .int (g i j)):=by
 intro pins s σ H x y v u Q I rx ry h
 obtain ⟨i,j,rfl,rfl,q⟩:=h
 obtain ⟨t,rfl⟩:=rx
 obtain ⟨t',rfl⟩:=ry
 exact rule i j t t' s _ _ ⟨.int (g i j),H,I.tok _,⟨_,rfl⟩,q⟩
theorem qGG {f:Value->Value->Sem Value} {g:Int->Int->Bool}
  (rule:∀ (i j:Int) (t u:Tok) (s:Shared) (Q:Value->Shared->Prop) (E:Value->Shared->Prop),Q (.bool (g i j)) s->wpAny (model X.prog X.w) X.A (f (.int i t) (.int j u)) Q E s) :
  OpR X f (rI0 fun i j => .bl (g i j)):=by
 intro pins s σ H x y v u Q I rx ry h
 obtain ⟨i,j,rfl,rfl,q⟩:=h
 obtain ⟨t,rfl⟩:=rx
 obtain ⟨t',rfl⟩:=ry
 exact rule i j t t' s _ _ ⟨.bl (g i j),H,I,rfl,q⟩
def qId (i j:Int):Prop:=0 < j∧j < 1073741824
def qIU (i j:Int):Prop:=0≤j∧j≤1000000∧i.natAbs < 2 ^ 64
def CMul (i j:Int):Prop:=(-(2 ^ 64) < i∧i < 2 ^ 64)∨(-(2 ^ 64) < j∧j < 2 ^ 64)
theorem CMul.ok {i j:Int} (h:CMul i j):IntMulOk i j:=by
 rcases h with ⟨h1,h2⟩ |⟨h1,h2⟩
 ·exact .of_left (intBits_le_64 h1 h2)
 ·exact .of_right (intBits_le_64 h1 h2)
theorem qGL:OpR X (binaryOp .Add) (rI0 fun i j => .int (i + j)):=qHl fun _ _ _ _ _ _ _ q=>add_int q
theorem qGH:OpR X (binaryOp .Sub) (rI0 fun i j => .int (i - j)):=qHl fun _ _ _ _ _ _ _ q=>sub_int q
theorem qG1:OpR X (binaryOp .Mult) (rI CMul fun i j => .int (i * j)):=opI fun _ _ _ _ _ _ _ hc q=>mul_int q hc.ok
theorem qEN:OpR X (binaryOp .FloorDiv) (rI qId fun i j => .int (i / j)):=opI fun i j _ _ _ _ _ hc q=>by
 have h1:(0:Int) < j:=hc.1
 have h2:j < 1073741824:=hc.2
 exact floordiv_int (by omega) (by rw [Int.fdiv_eq_ediv_of_nonneg i (by omega)];exact q) (.inl (PyProof.noPylong_small (by omega)))
theorem qG3:OpR X (binaryOp .Mod) (rI (fun _ j=>0 < j) fun i j => .int (i % j)):=opI fun i j _ _ _ _ _ hc q=>by
 have h1:(0:Int) < j:=hc
 exact mod_int' (by omega) (by rw [Int.fmod_eq_emod_of_nonneg i (by omega)];exact q)
theorem qGK:OpR X (binaryOp .Pow) (rI qIU fun i j => .int (i ^ j.toNat)):=opI fun _ _ _ _ _ _ _ hc q=>pow_int_small hc.1 hc.2.1 hc.2.2 q
theorem unI {f:Value->Sem Value} {g:Int->Int}
  (rule:∀ (i:Int) (t:Tok) (s:Shared) (Q:Value->Shared->Prop) (E:Value->Shared->Prop),Q (.int (g i) s.toks) { s with toks:=s.toks + 1 }->wpAny (model X.prog X.w) X.A (f (.int i t)) Q E s) :
  UnR X f (rU fun i => .int (g i)):=by
 intro pins s σ H x v Q I rx h
 obtain ⟨i,rfl,q⟩:=h
 obtain ⟨t,rfl⟩:=rx
 exact rule i t s _ _ ⟨.int (g i),H,I.tok _,⟨_,rfl⟩,q⟩
theorem qGq:UnR X (unaryOp .USub) (rU fun i => .int (-i)):=unI fun _ _ _ _ _ q=>neg_int q
theorem qC6 {pins:List (Addr×Obj)} {σ:St} {H:Hp} {s:Shared} {Q:VK} {k k':Bool} (I:Inv X pins σ H s) (q:Q (.bl k) H) (e:k=k'):EP X pins σ Q (.bool k') s:=by
 subst e
 exact ⟨.bl k,H,I,rfl,q⟩
theorem qFc:OpR X (compareOp .Lt) (rI0 fun i j => .bl (decide (i < j))):=qGG fun _ _ _ _ _ _ _ q=>lt_int q
theorem zg:OpR X (compareOp .LtE) (rI0 fun i j => .bl (decide (i≤j))):=qGG fun _ _ _ _ _ _ _ q=>le_int q
theorem qFp:OpR X (compareOp .Gt) (rI0 fun i j => .bl (decide (j < i))):=qGG fun _ _ _ _ _ _ _ q=>gt_int q
theorem qDN:OpR X (compareOp .Is) (fun x y H Q=>y = .non∧Q (.bl (decide (x = .non))) H):=by
 intro pins s σ H x y v u Q I rx ry h
 obtain ⟨rfl,q⟩:=h
 cases ry
 refine is_none_gen (qC6 I q ?_)
 cases x <;> first
  |(cases rx;rfl)
  |(obtain ⟨t,rfl⟩:=rx;rfl)
theorem qA2:OpR X (compareOp .IsNot) (fun x y H Q=>y = .non∧Q (.bl (!decide (x = .non))) H):=by
 intro pins s σ H x y v u Q I rx ry h
 obtain ⟨rfl,q⟩:=h
 cases ry
 refine isnot_none_gen (qC6 I q ?_)
 cases x <;> first
  |(cases rx;rfl)
  |(obtain ⟨t,rfl⟩:=rx;rfl)
theorem Qv (b:Expr) {op:CmpOp} (h:op ≠ .In:=by decide) (h2:op ≠ .NotIn:=by decide):behindInMarks op b=false:=by
 have e1:(op==CmpOp.In)=false:=by cases op <;> first |rfl |exact absurd rfl h
 have e2:(op==CmpOp.NotIn)=false:=by cases op <;> first |rfl |exact absurd rfl h2
 cases b <;> simp [behindInMarks,e1,e2]
theorem qFQ {op:CmpOp} {r:R2} (ho:OpR X (compareOp op) r) (ha:PE X a ta) (hb:PE X b tb) (hm:behindInMarks op b=false):PE X (.Compare a [op] [b] pos) (tOp r ta tb):=by
 intro pins s σ H Q I h
 exact wpAny_Compare1 (qGs ha hb I h fun v u s2 x y H2 I2 rx ry q=>ho pins s2 σ H2 x y v u Q I2 rx ry q) hm
def qFg (t:TE):TT:=fun σ H Q=>t σ H fun x H' => ∃ k,x = .bl k∧Q k H'
theorem qFC {op:CmpOp} {r:R2} (ho:OpR X (compareOp op) r) (ha:PE X a ta) (hb:PE X b tb) (hm:behindInMarks op b=false):PT X (.Compare a [op] [b] pos) (qFg (tOp r ta tb)):=by
 intro pins s σ H Q I h
 refine wpAny_isTrue_Compare1 (thn (ha pins s σ H _ I h) fun v s1 ⟨x,H1,I1,r1,q1⟩=>thn (hb pins s1 σ H1 _ I1 q1) fun u s2 ⟨y,H2,I2,r2,q2⟩ =>
  thn (ho pins s2 σ H2 x y v u _ I2 r1 r2 q2) fun c s3 ⟨z,H3,I3,r3,k,e,q3⟩ => ?_) hm
 subst e
 cases r3
 exact wpAny_truthy_bool ⟨H3,I3,q3⟩
def qDw (r r':R2) (ta tb tc:TE):TE:=fun σ H Q=>ta σ H fun x H1=>tb σ H1 fun y H2=>r x y H2 fun z H3 => ∃ k,z = .bl k ∧
 (if k=true then tc σ H3 fun w' H4=>r' y w' H4 Q else Q (.bl false) H3)
theorem qDI {op op':CmpOp} {r r':R2} (ho:OpR X (compareOp op) r) (ho':OpR X (compareOp op') r') (ha:PE X a ta) (hb:PE X b tb) (hc:PE X c tc)
  (hm:lastMarks [op,op'] [b,c]=false:=by with_unfolding_all rfl):PE X (.Compare a [op,op'] [b,c] pos) (qDw r r' ta tb tc):=by
 intro pins s σ H Q I h
 refine Compare_chain (thn (ha pins s σ H _ I h) fun v s1 ⟨x,H1,I1,r1,q1⟩=>chain_link (thn (hb pins s1 σ H1 _ I1 q1) fun u s2 ⟨y,H2,I2,r2,q2⟩ =>
  thn (ho pins s2 σ H2 x y v u _ I2 r1 r2 q2) fun d s3 ⟨z,H3,I3,r3,k,e,q3⟩ => ?_)) hm
 subst e
 cases r3
 refine wpAny_truthy_bool ?_
 cases k with
 |false=>exact ite_ff ⟨.bl false,H3,I3,rfl,q3⟩
 |true=>exact ite_tt (chain_last (thn (hc pins s3 σ H3 _ I3 q3) fun w' s4 ⟨z',H4,I4,r4,q4⟩=>ho' pins s4 σ H4 y z' u w' Q I4 r2 r4 q4))
theorem qDP {op op':CmpOp} {r r':R2} (ho:OpR X (compareOp op) r) (ho':OpR X (compareOp op') r') (ha:PE X a ta) (hb:PE X b tb) (hc:PE X c tc)
  (hm:lastMarks [op,op'] [b,c]=false:=by with_unfolding_all rfl):PT X (.Compare a [op,op'] [b,c] pos) (qFg (qDw r r' ta tb tc)):=by
 intro pins s σ H Q I h
 refine isTrue_chain (thn (ha pins s σ H _ I h) fun v s1 ⟨x,H1,I1,r1,q1⟩=>test_link (thn (hb pins s1 σ H1 _ I1 q1) fun u s2 ⟨y,H2,I2,r2,q2⟩ =>
  thn (ho pins s2 σ H2 x y v u _ I2 r1 r2 q2) fun d s3 ⟨z,H3,I3,r3,k,e,q3⟩ => ?_)) hm
 subst e
 cases r3
 refine wpAny_truthy_bool ?_
 cases k with
 |false =>
  obtain ⟨k',e',q'⟩:=q3
  cases e'
  exact ite_ff ⟨H3,I3,q'⟩
 |true =>
  refine ite_tt (test_last (thn (hc pins s3 σ H3 _ I3 q3) fun w' s4 ⟨z',H4,I4,r4,q4⟩=>thn (ho' pins s4 σ H4 y z' u w' _ I4 r2 r4 q4) fun d' s5 ⟨z2,H5,I5,r5,k2,e2,q5⟩ => ?_))
  subst e2
  cases r5
  exact wpAny_truthy_bool ⟨H5,I5,q5⟩
def qEb (K:W.Frag) (x:V) (H:Hp) (k:Bool):Prop :=
 match x with
 | .non=>k=false
 | .bl b=>k=b
 | .int i=>k=(i != 0)
 | .str y=>y.length≤sizeLine∧k=((y.length:Int) != 0)
 | .byt y=>y.size≤sizeLine∧k=((y.size:Int) != 0)
 | .ref p=>(∃ xs,SqL K H p xs∧k = !xs.isEmpty)∨(∃ xs,SqT K H p xs∧k = !xs.isEmpty) ∨ ∃ kvs,H p=some (.dK kvs)∧k = !kvs.isEmpty
 |_=>False
theorem qAX {κ:Type} {kvs:List (κ×V)} {vs:List (κ×Value)} (r:KV kvs vs):(!vs.isEmpty) = !kvs.isEmpty:=by
 cases r <;> rfl
theorem YC {xs:List V} {its:List Value} (r:Vals xs its):(!its.toArray.isEmpty) = !xs.isEmpty:=by
 cases r <;> simp
theorem yV:(sizeLine:Nat) < 2 ^ 63:=by rw [sizeLine_eq];decide
theorem qFv:qIN X (fun x H Q => ∃ k,qEb X.K x H k∧Q k H):=by
 intro pins s σ H x v Q I rx h
 obtain ⟨k,e,q⟩:=h
 have hl:=yV
 have hs:sizeLine=16777216:=sizeLine_eq
 cases x with
 |non =>
  cases rx
  have e':k=false:=e
  subst e'
  exact truthy_none ⟨H,I,q⟩
 |bl b =>
  cases rx
  have e':k=b:=e
  subst e'
  exact wpAny_truthy_bool ⟨H,I,q⟩
 |int i =>
  obtain ⟨t,rfl⟩:=rx
  have e':k=(i != 0):=e
  subst e'
  exact PySem.P.truthy_int ⟨H,I,q⟩
 |str y =>
  obtain ⟨t,rfl⟩:=rx
  obtain ⟨hy,e'⟩:y.length≤sizeLine∧k=((y.length:Int) != 0):=e
  subst e'
  exact PySem.P.truthy_str (by omega) ⟨H,I.tok _,q⟩
 |byt y =>
  obtain ⟨t,rfl⟩:=rx
  obtain ⟨hy,e'⟩:y.size≤sizeLine∧k=((y.size:Int) != 0):=e
  subst e'
  exact PySem.W.truthy_bytes (by omega) ⟨H,I.tok _,q⟩
 |ref p =>
  cases rx
  have e':(∃ xs,SqL X.K H p xs∧k = !xs.isEmpty)∨(∃ xs,SqT X.K H p xs∧k = !xs.isEmpty) ∨ ∃ kvs,H p=some (.dK kvs)∧k = !kvs.isEmpty:=e
  rcases e' with ⟨xs,hx,e'⟩ |⟨xs,hx,e'⟩ |⟨kvs,hx,e'⟩
  ·subst e'
   obtain ⟨its,r,pl,hz⟩:=I.list hx
   have hlen:=r.length
   exact wpAny_truthy_list pl.isList (by simp only [List.size_toArray];omega) ⟨H,I.tok _,by rw [YC r];exact q⟩
  ·subst e'
   obtain ⟨its,r,pl,hz⟩:=I.tuple hx
   have hlen:=r.length
   exact truthy_tuple pl (by simp only [List.size_toArray];omega) ⟨H,I.tok _,by rw [YC r];exact q⟩
  ·subst e'
   obtain ⟨hz,hS,vs,r,m⟩:kvs.length≤sizeLine∧(p==sysModules)=false ∧ ∃ vs,KV kvs vs∧s.heap.DictOf (Zt X.prog X.w) p vs:=I.hok p _ hx
   have hlen:kvs.length=vs.length:=Paired.length r
   exact wpAny_truthy_dict hS m (by omega) ⟨H,I.tok _,by rw [qAX r];exact q⟩
 |_=>exact (show False from e).elim
theorem qDA (ha:PE X a ta) (he:∀ whole,isTrue a X.env whole=(do let v ← whole;standAt a.pos;holding [v] (truthy v))) :
  PT X a (fun σ H Q=>ta σ H fun x H' => ∃ k,qEb X.K x H' k∧Q k H'):=by
 intro pins s σ H Q I h
 exact isTrue_plain (thn (ha pins s σ H _ I h) fun v s1 ⟨x,H1,I1,r1,q1⟩=>qFv pins s1 σ H1 x v Q I1 r1 q1) (he _)
theorem J8:OpR X (binaryOp .Add) (fun x y H Q => ∃ i j,x = .str i∧y = .str j∧i.length + j.length≤sizeLine∧Q (.str (i++j)) H):=by
 intro pins s σ H x y v u Q I rx ry h
 obtain ⟨i,j,rfl,rfl,hz,q⟩:=h
 obtain ⟨t,rfl⟩:=rx
 obtain ⟨t',rfl⟩:=ry
 exact add_str (fun t' tk=>⟨.str (i++j),H,I.tok _,⟨_,rfl⟩,q⟩) hz
theorem ZF {x:V} {us:List Value} (r:Vals [x] us):∃ u,us=[u]∧RelV x u:=by
 cases r with
 |cons r1 r2=>cases r2;exact ⟨_,rfl,r1⟩
theorem jt {x y:V} {us:List Value} (r:Vals [x,y] us):∃ u w',us=[u,w']∧RelV x u∧RelV y w':=by
 cases r with
 |cons r1 r2 =>
  cases r2 with
  |cons r3 r4=>cases r4;exact ⟨_,_,rfl,r1,r3⟩
theorem qB1 (hc:X.calm=true):WH X (.builtin "max") (fun xs H Q => ∃ i j,xs=[.int i,.int j]∧Q (.int (if j > i then j else i)) H):=by
 intro pins s σ H xs us Q I r h
 obtain ⟨i,j,rfl,q⟩:=h
 obtain ⟨u,w',rfl,⟨t,rfl⟩,⟨t',rfl⟩⟩:=jt r
 refine max_two_ints (I.ok.hd hc) fun h' tk k=>⟨_,H,I.kept k,?_,q⟩
 by_cases hj:j > i
 ·rw [if_pos hj,if_pos hj];exact ⟨_,rfl⟩
 ·rw [if_neg hj,if_neg hj];exact ⟨_,rfl⟩
theorem qB7 (hc:X.calm=true):WH X (.builtin "min") (fun xs H Q => ∃ i j,xs=[.int i,.int j]∧Q (.int (if j < i then j else i)) H):=by
 intro pins s σ H xs us Q I r h
 obtain ⟨i,j,rfl,q⟩:=h
 obtain ⟨u,w',rfl,⟨t,rfl⟩,⟨t',rfl⟩⟩:=jt r
 refine min_two_ints (I.ok.hd hc) fun h' tk k=>⟨_,H,I.kept k,?_,q⟩
 by_cases hj:j < i
 ·rw [if_pos hj,if_pos hj];exact ⟨_,rfl⟩
 ·rw [if_neg hj,if_neg hj];exact ⟨_,rfl⟩
theorem qBg:WH X (.type "int") (fun xs H Q=>(∃ i,xs=[.int i]∧Q (.int i) H) ∨ ∃ k,xs=[.bl k]∧Q (.int (if k then 1 else 0)) H):=by
 intro pins s σ H xs us Q I r h
 rcases h with ⟨i,rfl,q⟩ |⟨k,rfl,q⟩
 ·obtain ⟨u,rfl,t,rfl⟩:=ZF r
  exact call_int_int ⟨.int i,H,I,⟨_,rfl⟩,q⟩
 ·obtain ⟨u,rfl,r1⟩:=ZF r
  cases r1
  exact call_int_bool ⟨.int (if k then 1 else 0),H,I.tok _,⟨_,rfl⟩,q⟩
end
end L2
namespace L2
open PySem PySem.Spec PyProof.Rows
end L2
namespace L2
open PySem PySem.Spec PyProof.Rows
structure Room (k:Nat) (A:Around):Prop where
 hd:1 < k->A.handled=none
 dp:A.depth + 3 * k + 5 < recursionLimit
 un:A.units + 16 * k + 200 < cLine
 gd:A.guards=some []
theorem Room.mono {j k:Nat} {A:Around} (r:Room k A) (h:j≤k):Room j A:=⟨fun z=>r.hd (by omega),by have:=r.dp;omega,by have:=r.un;omega,r.gd⟩
theorem Room.deeper {k:Nat} {A:Around} (r:Room (k + 1) A) (env:Env):Room k (A.deeper env) :=
 ⟨fun z=>r.hd (by omega),by have:=r.dp;show A.depth + 1 + 3 * k + 5 < _;omega,by have:=r.un;show A.units + 3 + 16 * k + 200 < _;omega,r.gd⟩
theorem Room.depth {k:Nat} {A:Around} (r:Room k A):A.depth < recursionLimit:=by have:=r.dp;omega
theorem Room.units {k:Nat} {A:Around} (r:Room k A):A.units + 64 < cLine:=by have:=r.un;omega
def qIe:TA:=fun _ H Q=>Q [] H
def qHZ (ta:TE) (tr:TA):TA:=fun σ H Q=>ta σ H fun x H1=>tr σ H1 fun xs H2=>Q (x::xs) H2
section
variable {X:Cx} {e:Expr} {es:List Expr} {te:TE} {t:TA} {pos:Pos}
theorem jK:PA X [] qIe:=fun _ _ _ _ H Q I h=>Calls.spliced_nil ⟨[],H,I,.nil,h⟩
theorem yo (ha:PE X e te) (hr:PA X es t) (hs:starEach (e::es) X.env=(false,eval e X.env)::starEach es X.env:=by rfl):PA X (e::es) (qHZ te t):=by
 intro pos pins s σ H Q I h
 rw [hs]
 show wpAny _ _ (spliced ((false,eval e X.env)::backTo pos (starEach es X.env))) _ _ s
 refine Calls.spliced_cons (thn (ha pins s σ H _ I h) fun u s1 ⟨x,H1,I1,r1,q1⟩ => ?_)
 exact thn (hr pos pins s1 σ H1 _ I1 q1) fun us s2 ⟨xs,H2,I2,r2,q2⟩=>⟨x::xs,H2,I2,.cons r1 r2,q2⟩
def qIO (t:TA):TE:=fun σ H Q=>t σ H fun xs H1=>xs.length≤sizeLine ∧ ∀ p,H1 p=none->Q (.ref p) (upd H1 p (.tup xs))
def qIs (t:TA):TE:=fun σ H Q=>t σ H fun xs H1=>xs.length≤sizeLine ∧ ∀ p,H1 p=none->Q (.ref p) (upd H1 p (.lst xs))
theorem qGw {x1} (h:PA X es t):PE X (.Tuple es x1 pos) (qIO t):=by
 intro pins s σ H Q I hq
 refine wpAny_Tuple_spliced (thn (h pos pins s σ H _ I hq) fun us s1 ⟨xs,H1,I1,r,z,q⟩=>⟨by rw [← r.length];exact z,?_⟩)
 have hf:H1 s1.heap.objs.size=none:=I1.hok.fresh (Nat.le_refl _)
 refine ⟨.ref s1.heap.objs.size,upd H1 s1.heap.objs.size (.tup xs),I1.laid (t':=s1.toks) (fun b u e=>Heap.get?_push_of_some _ e) (Nat.le_refl _) ?_,rfl,q _ hf⟩
 exact ⟨z,us,r,⟨_,Heap.get?_push_size _ rfl,rfl,_,rfl⟩⟩
theorem qGU (h:PA X es t):PE X (.List es pos) (qIs t):=by
 intro pins s σ H Q I hq
 refine wpAny_List_spliced (thn (h pos pins s σ H _ I hq) fun us s1 ⟨xs,H1,I1,r,z,q⟩=>⟨by rw [← r.length];exact z,?_⟩)
 have hf:H1 s1.heap.objs.size=none:=I1.hok.fresh (Nat.le_refl _)
 refine ⟨.ref s1.heap.objs.size,upd H1 s1.heap.objs.size (.lst xs),I1.laid (t':=s1.toks) (fun b u e=>Heap.get?_push_of_some _ e) (Nat.le_refl _) ?_,rfl,q _ hf⟩
 exact ⟨z,us,0,r,Heap.get?_push_size _ rfl⟩
end
abbrev Sp:=List V->Hp->VK->XK->Prop
abbrev CXT:=List Env->Hp->Shared->XK->Value->Shared->Prop
structure Env0 (P:Program) (w:World) (K:W.Frag) (mg:Str->Option Value) (base:Heap) (A:Around) (outer:List Env) (s:Shared) (H:Hp):Prop where
 frames:A.frames=some outer
 mod:Mod K mg base
 bs:∀ b o,base.get? b=some o->s.heap.get? b=some o∧H b=none
 bsz:base.objs.size≤s.heap.objs.size
 funs:s.heap.FunFrames base outer
 frf:∀ b∈frs outer,H b=none
 hok:HOk P w H s.heap
 bare:AllBare s.gens
 hnd:HndH A H
def CE (outer:List Env) (P:Program) (w:World) (H:Hp) (s:Shared) (Q:VK) (u:Value) (s':Shared):Prop :=
 ∃ v H',s'.os=s.os∧AllBare s'.gens∧Un (frs outer) [] H H' s.heap s'.heap∧HOk P w H' s'.heap∧RelV v u∧Q v H'
def CR (CX:CXT) (outer:List Env) (P:Program) (w:World) (H:Hp) (s:Shared) (Q:VK) (E:XK) (r:Result) (s':Shared):Prop :=
 match r with
 | .ok (.ret u)=>CE outer P w H s Q u s'
 | .ok _=>False
 | .error e=>CX outer H s E e s'
structure FnOk (P:Program) (w:World) (K:W.Frag) (mg:Str->Option Value) (base:Heap) (CX:CXT) (k:Nat) (f:Addr) (fd:FuncData) (ps:List Str) (sp:Sp):Prop where
 len:∀ vs H Q E,sp vs H Q E->vs.length=ps.length
 run:∀ (A:Around) (outer:List Env) (s:Shared) (H:Hp) (args:Args) (us:List Value) (vs:List V) (Q:VK) (E:XK),Room k A->Env0 P w K mg base A outer s H->BindsTo s fd args (ps.zip us)->Vals vs us->sp vs H Q E ->
  codeAny (model P w) A (.call (.ref f) args) (CR CX outer P w H s Q E) s
section
variable {X:Cx} {pins:List (Addr×Obj)} {σ:St} {H:Hp} {s s':Shared}
theorem Inv.env0 (I:Inv X pins σ H s):Env0 X.prog X.w X.K X.mg X.base X.A X.stack s H :=
 ⟨I.ok.frames,I.ok.mod,I.bs,Nat.le_trans I.ok.bsz I.sz,I.stack,I.stkFree,I.hok,I.bare,I.hnd⟩
theorem Inv.after {Q:VK} {u:Value} (I:Inv X pins σ H s) (h:CE X.stack X.prog X.w H s Q u s'):EP X pins σ Q u s':=by
 obtain ⟨v,H',os,bare,un,hok,r,q⟩:=h
 obtain ⟨hh,g,d,t,os'⟩:=s'
 obtain rfl:os'=s.os:=os
 exact ⟨v,H',I.call (h':=hh) (g':=g) (d':=d) (t':=t) (ch:=[]) un hok bare (fun b z=>absurd z (by simp)),r,q⟩
end
def qIE (sp:Sp) (dvs:List V) (E:XK) (t:TA):TE:=fun σ H Q=>t σ H fun vs H1=>sp (vs++dvs) H1 Q E
def Binds (K:W.Frag) (fd:FuncData) (ps:List Str) (ds:List Value):Prop :=
 ∀ (s:Shared) (us:List Value),K.In s.heap->(us++ds).length=ps.length->BindsTo s fd ⟨us,[]⟩ (ps.zip (us++ds))
theorem Binds.all {K:W.Frag} {fd:FuncData} {ps:List Str} (h:∀ us:List Value,us.length=ps.length->bindArgs fd ⟨us,[]⟩=pure (ps.zip us)):Binds K fd ps []:=fun s us _ hl=>by
 rw [List.append_nil] at hl ⊢
 exact .of_eq (h us hl)
def zn (CX:CXT) (X:Cx) (E:XK):Prop := ∀ (pins:List (Addr×Obj)) (σ:St) (H:Hp) (s:Shared) (e:Value) (s':Shared),Inv X pins σ H s->CX X.stack H s E e s'->X.xe e s'
section
variable {X:Cx} {CX:CXT} {k:Nat} {f C:Addr} {fd:FuncData} {ps:List Str} {sp:Sp} {dvs:List V} {ds:List Value} {E:XK} {x m:Str} {p pos apos:Pos} {e o:Expr} {es:List Expr} {ta:TE} {t:TA}
theorem qF3 {pins:List (Addr×Obj)} {σ:St} {H:Hp} {s:Shared} {Q:VK} {us:List Value} {vs:List V} (F:FnOk X.prog X.w X.K X.mg X.base CX k f fd ps sp) (hr:Room k X.A) (hb:Binds X.K fd ps ds) (hd:Vals dvs ds) (hx:zn CX X E)
  (I:Inv X pins σ H s) (r:Vals vs us) (h:sp (vs++dvs) H Q E):wpAny (model X.prog X.w) X.A (call (.ref f) us) (EP X pins σ Q) X.xe s:=by
 have r2:Vals (vs++dvs) (us++ds):=r.append hd
 have hl:(us++ds).length=ps.length:=by rw [← r2.length];exact F.len _ _ _ _ h
 refine wpAny_call (codeAny_mono (F.run X.A X.stack s H ⟨us,[]⟩ (us++ds) (vs++dvs) Q E hr I.env0 (hb s us I.kIn hl) r2 h) fun r s' hq => ?_)
 cases r with
 |error e=>exact hx pins σ H s e s' I hq
 |ok fl =>
  cases fl with
  |ret u=>exact I.after hq
  |next=>exact False.elim hq
  |brk=>exact False.elim hq
  |cont=>exact False.elim hq
theorem qEG (F:FnOk X.prog X.w X.K X.mg X.base CX k f fd ps sp) (hr:Room k X.A) (hg:Gl X x) (hm:X.mg x=some (.ref f)) (hk:PySem.W.keepIn X.K (.ref f)=true) (hb:Binds X.K fd ps ds) (hd:Vals dvs ds) (hx:zn CX X E)
  (ha:PA X (e::es) t) (hdb:(x==("__debug__":Str))=false:=by decide) (he:starEach (e::es) X.env=(false,eval e X.env)::starEach es X.env:=by rfl) (hpl:(backTo pos (starEach es X.env)).any (·.1)=false:=by rfl) :
  PE X (.Call (.Name x p) (e::es) [] pos) (qIE sp dvs E t):=by
 intro pins s σ H Q I h
 refine wpAny_Call_Name_kw (jY I hg hm ?_ hdb)
 refine PySem.W.callWith_K (h₀:=X.base) I.ok.mod.kin hk (thn (ha pos pins s σ H _ I h) fun us s1 ⟨vs,H1,I1,r,q⟩=>⟨I1.kIn,?_⟩) he hpl
 exact qF3 F hr hb hd hx I1 r q
end
structure FnScope (N P:List Str) (sc:Scope):Prop where
 kind:sc.kind = .function
 co:sc.isCoroutine=false
 gen:sc.isGenerator=false
 nd:N.Nodup
 pre:N.take P.length=P
 par:∀ x∈P,sc.names.lookup x=some .local∨sc.names.lookup x=some .cell
 nofree:∀ y∈sc.names,y.2 ≠ .free
theorem Y6 {kindOf:Str->Option NameKind} {x:Str}:∀ {binds:List (Str×Value)} {m:Str->Option Value},(∀ v,(x,v) ∉ binds)->bindL kindOf binds m x=m x
 |[],_,_=>rfl
 |(n,v)::r,m,h=>by
  unfold bindL
  rw [Y6 fun w hw=>h w (List.mem_cons_of_mem _ hw)]
  split
  ·have:x≠n:=by rintro rfl;exact h v List.mem_cons_self
   simp [this]
  ·rfl
theorem Y2 {kindOf:Str->Option NameKind} {x:Str}:∀ {binds:List (Str×Value)} {m:Str->Option Value},(∀ v,(x,v) ∉ binds)->bindC kindOf binds m x=m x
 |[],_,_=>rfl
 |(n,v)::r,m,h=>by
  unfold bindC
  rw [Y2 fun w hw=>h w (List.mem_cons_of_mem _ hw)]
  split
  ·rfl
  ·have:x≠n:=by rintro rfl;exact h v List.mem_cons_self
   simp [this]
theorem Yw {kindOf:Str->Option NameKind} {x:Str} {v:Value}:∀ {P:List Str} {vs:List Value} {i:Nat} {m:Str->Option Value},P.Nodup->P[i]? = some x->vs[i]? = some v->kindOf x=some .local ->
  bindL kindOf (P.zip vs) m x=some v
 |[],_,_,_,_,h,_,_=>by simp at h
 |_::_,[],_,_,_,_,h,_=>by simp at h
 |p::P,w::vs,0,m,nd,h1,h2,hk=>by
  simp at h1 h2;subst h1;subst h2
  show bindL kindOf ((p,w)::P.zip vs) m p=_
  unfold bindL
  rw [Y6 fun v hv=>(List.nodup_cons.mp nd).1 (List.of_mem_zip hv).1,if_pos hk]
  simp
 |p::P,w::vs,i + 1,m,nd,h1,h2,hk=>by
  show bindL kindOf ((p,w)::P.zip vs) m x=_
  unfold bindL
  exact Yw (i:=i) (List.nodup_cons.mp nd).2 (by simpa using h1) (by simpa using h2) hk
theorem Yt {kindOf:Str->Option NameKind} {x:Str} {v:Value}:∀ {P:List Str} {vs:List Value} {i:Nat} {m:Str->Option Value},P.Nodup->P[i]? = some x->vs[i]? = some v->kindOf x≠some .local ->
  bindC kindOf (P.zip vs) m x=some v
 |[],_,_,_,_,h,_,_=>by simp at h
 |_::_,[],_,_,_,_,h,_=>by simp at h
 |p::P,w::vs,0,m,nd,h1,h2,hk=>by
  simp at h1 h2;subst h1;subst h2
  show bindC kindOf ((p,w)::P.zip vs) m p=_
  unfold bindC
  rw [Y2 fun v hv=>(List.nodup_cons.mp nd).1 (List.of_mem_zip hv).1,if_neg hk]
  simp
 |p::P,w::vs,i + 1,m,nd,h1,h2,hk=>by
  show bindC kindOf ((p,w)::P.zip vs) m x=_
  unfold bindC
  exact Yt (i:=i) (List.nodup_cons.mp nd).2 (by simpa using h1) (by simpa using h2) hk
def start (N:List Str) (vs:List V):St:=vs.map some++List.replicate (N.length - vs.length) none
def wU (CX:CXT) (P:Program) (w:World) (K:W.Frag) (mg:Str->Option Value) (base:Heap) (N:List Str) (qual:Str) (scope:Scope) (f:Addr) (cd:Value) (A:Around) (outer:List Env) (s:Shared) (H:Hp) (E:XK):Cx where
 prog:=P
 w:=w
 K:=K
 mg:=mg
 base:=base
 A:=A.deeper (envOfC qual scope s.heap.objs.size f cd)
 N:=N
 s₀:=s
 H₀:=H
 env:=envOfC qual scope s.heap.objs.size f cd
 outer:=outer
 stack:=envOfC qual scope s.heap.objs.size f cd::outer
 ex:=[]
 calm:=A.handled.isNone
 fn:=fun _=>true
 pn:=[]
 xe:=fun e s'=>wpAny (model P w) (A.deeper (envOfC qual scope s.heap.objs.size f cd)) (leaving (envOfC qual scope s.heap.objs.size f cd) e) (fun _ s''=>CX outer H s E e s'') (fun e' s''=>CX outer H s E e' s'') s'
theorem Ji {sc:Scope} {n:Nat} {x:Str} (h:sc.names.lookup x=some .cell):∃ c,(cellsFrom n sc.names []).lookup x=some c:=by
 have q:=PySem.W.cellsFrom_some sc.names n [] (.inl h)
 exact Option.isSome_iff_exists.mp q
theorem qB3 {CX:CXT} {P:Program} {w:World} {K:W.Frag} {mg:Str->Option Value} {base:Heap} {N ps:List Str} {qual:Str} {scope:Scope} {f:Addr} {cd:Value} {A:Around} {outer:List Env} {s s1:Shared} {H:Hp} {E:XK} {us:List Value} {vs:List V}
  (S:FnScope N ps scope) (e0:Env0 P w K mg base A outer s H) (hl:vs.length=ps.length) (r:Vals vs us)
  (x:InCallC s s.heap.objs.size (bindL (envOfC qual scope s.heap.objs.size f cd).kindOf (ps.zip us) fun _=>none) (cellsFrom (s.heap.objs.size + 1) scope.names []) (bindC (envOfC qual scope s.heap.objs.size f cd).kindOf (ps.zip us) fun _=>none) s1) :
  Inv (wU CX P w K mg base N qual scope f cd A outer s H E) [] (start N vs) H s1:=by
 have hpl:ps.length≤N.length:=by have:=congrArg List.length S.pre;rw [List.length_take] at this;omega
 obtain ⟨h1,tk,rfl,hk⟩:=x.done
 have noA:∀ b:Addr,b ∉ (wU CX P w K mg base N qual scope f cd A outer s H E).ex:=fun b z=>absurd (show b∈([]:List Addr) from z) (by simp)
 refine ⟨⟨e0.mod,S.kind,rfl,rfl,Nat.le_refl _,fun y z c h1 h2 => ?_,fun y hy => ?_,fun y c _ h => ?_,fun z=>Option.isNone_iff_eq_none.mp z,Around.frames_deeper e0.frames,.inr ⟨rfl,rfl⟩,fun b z=>absurd z (noA b),e0.bs,e0.bsz,fun b _ _=>noA b,fun b z=>absurd z (noA b),e0.funs,e0.frf⟩,
  rfl,e0.bare,Un.kept hk,⟨_,x.toInCall.ns,fun i y v h1 h2 h3 => ?_⟩,fun y c h=>⟨_,x.cell y c h⟩,e0.hok.fresh (Nat.le_refl _),fun y c h => ?_,fun p hp=>absurd (show p∈([]:List (Addr×Obj)) from hp) (by simp),e0.hok.kept hk,?_,e0.hnd⟩
 ·exact name_of_addr x.apart (PySem.mem_of_lookup h1) (PySem.mem_of_lookup h2)
 ·have hy:scope.names.lookup y=some .cell∨scope.names.lookup y=some .free:=hy
  rcases hy with hy |hy
  ·exact Ji hy
  ·exact absurd rfl (S.nofree _ (PySem.mem_of_lookup hy))
 ·exact Nat.le_of_lt (x.above y c (PySem.mem_of_lookup h))
 ·have hi:i < vs.length:=by
   unfold start at h2
   by_cases hi:i < vs.length
   ·exact hi
   ·rw [List.getElem?_append_right (by simpa using hi)] at h2
    rw [List.getElem?_replicate] at h2
    split at h2 <;> cases h2
  have ha:vs[i]? = some v:=by
   unfold start at h2
   rw [List.getElem?_append_left (by simpa using hi),List.getElem?_map] at h2
   cases e:vs[i]? with
   |none=>rw [e] at h2;cases h2
   |some a=>rw [e] at h2;cases h2;rfl
  obtain ⟨u,hu,rv⟩:=r.get ha
  have hp:ps[i]? = some y:=by
   rw [← S.pre,List.getElem?_take_of_lt (by omega)];exact h1
  have ndP:ps.Nodup:=by rw [← S.pre];exact S.nd.sublist (List.take_sublist _ _)
  refine ⟨u,rv,?_⟩
  rcases S.par y (List.mem_of_getElem? hp) with k |k
  ·exact .inl ⟨k,Yw ndP hp hu k⟩
  ·obtain ⟨c,e⟩:=Ji (n:=s.heap.objs.size + 1) k
   refine .inr ⟨.inl k,c,e,?_⟩
   have q:=x.cell y c e
   rw [Yt ndP hp hu (by show scope.names.lookup y≠_;rw [k];decide)] at q
   exact q
 ·exact e0.hok.fresh (Nat.le_of_lt (x.above y c (PySem.mem_of_lookup h)))
 ·unfold start
  show _=N.length
  rw [List.length_append,List.length_map,List.length_replicate]
  omega
theorem qIM {CX:CXT} {P:Program} {w:World} {K:W.Frag} {mg:Str->Option Value} {base:Heap} {k:Nat} {f:Addr} {name qual:Str} {params:Arguments} {body:List Stmt} {scope:Scope} {dV kV doc pm cdv ct oc:Value} {an od:Option Addr}
  {osl:Array (Option Value)} {N ps:List Str} {sp:Sp} (lk:K.lookup f=some ⟨oc,od,.func (PySem.W.fnOf name qual params body scope dV kV doc pm an cdv ct),osl⟩) (hcd:PySem.W.codeIn K cdv qual=true) (S:FnScope N ps scope)
  (len:∀ vs H Q E,sp vs H Q E->vs.length=ps.length)
  (hbody:∀ (A:Around) (outer:List Env) (s:Shared) (H:Hp) (vs:List V) (Q:VK) (E:XK),Room k (A.deeper (envOfC qual scope s.heap.objs.size f cdv))->(0 < k->A.handled=none)->sp vs H Q E ->
   ∃ t,PSs (wU CX P w K mg base N qual scope f cdv A outer s H E) body t∧t { nx:=fun _ H'=>Q .non H',rt:=Q } (start N vs) H) :
  FnOk P w K mg base CX (k + 1) f (PySem.W.fnOf name qual params body scope dV kV doc pm an cdv ct) ps sp:=by
 refine ⟨len,fun A outer s H args us vs Q E hr e0 hb r hsp => ?_⟩
 have hl:=len _ _ _ _ hsp
 have KX:K.In s.heap:=e0.mod.kin.keeps fun b o e=>(e0.bs b o e).1
 have lim:s.heap.NoLimit:=e0.mod.nolimit.keeps fun b o e=>(e0.bs b o e).1
 have hkind:∀ y∈ps.zip us,scope.names.lookup y.1=some .local∨(scope.names.lookup y.1=some .cell∧((cellsFrom (s.heap.objs.size + 1) scope.names []).lookup y.1).isSome=true):=fun ⟨n,v⟩ hy=>by
  rcases S.par n (List.of_mem_zip hy).1 with q |q
  ·exact .inl q
  ·exact .inr ⟨q,PySem.W.cellsFrom_some _ _ _ (.inl q)⟩
 refine codeAny_call_function hr.depth (KX _ _ lk) rfl S.co S.gen rfl (PySem.W.codeRec_of KX hcd) (hb _ _ _ _ ?_)
 refine wpAny_newFunctionEnv_cells S.kind hkind fun env he s1 x => ?_
 subst he
 refine ⟨lim.keeps x.toInCall.keep,codeAny_func ?_⟩
 obtain ⟨t,ht,hq⟩:=hbody A outer s H vs Q E (hr.deeper _) (fun z=>hr.hd (by omega)) hsp
 have I:Inv (wU CX P w K mg base N qual scope f cdv A outer s H E) [] (start N vs) H s1:=qB3 S e0 hl r x
 refine wpAny_mono (ht [] s1 (start N vs) H _ I hq) (fun fl s' hs => ?_) fun e s' hs=>hs
 have fin:∀ {σ':St} {H':Hp} {v:V} {u:Value},Inv (wU CX P w K mg base N qual scope f cdv A outer s H E) [] σ' H' s'->RelV v u->Q v H'->CE outer P w H s Q u s' :=
  fun {σ' H' v u} J rv q=>⟨v,H',J.os,J.bare,J.base,J.hok,rv,q⟩
 cases fl with
 |ret u =>
  obtain ⟨v,σ',H',J,rv,q⟩:=hs
  exact fin J rv q
 |next =>
  obtain ⟨σ',H',J,q⟩:=hs
  exact fin (v:=V.non) (u:=Value.none) J rfl q
 |brk =>
  obtain ⟨_,_,_,q⟩:=hs
  exact False.elim q
 |cont =>
  obtain ⟨_,_,_,q⟩:=hs
  exact False.elim q
end L2
namespace L2
open PySem PySem.Spec PyProof.Rows
section
variable {X:Cx} {x:Str} {p pos:Pos} {e:Expr} {es:List Expr} {t:TA} {id T:String} {r:List V->Hp->VK->Prop}
def tCB (r:List V->Hp->VK->Prop) (t:TA):TE:=fun σ H Q=>t σ H fun vs H1=>r vs H1 Q
theorem qCi (hc:WH X (.builtin id) r) (hg:Gl X x) (hm:X.mg x=none) (hv:bootBuiltins x=some (.builtin id)) (ha:PA X (e::es) t) (hn:x ≠ "__name__" := by decide) (hdb:(x==("__debug__":Str))=false:=by decide)
  (he:starEach (e::es) X.env=(false,eval e X.env)::starEach es X.env:=by rfl) (hpl:(backTo pos (starEach es X.env)).any (·.1)=false:=by rfl):PE X (.Call (.Name x p) (e::es) [] pos) (tCB r t):=by
 intro pins s σ H Q I h
 refine wpAny_Call_Name_kw (zK I hg hm hv ?_ hn hdb)
 exact PyProof.Rows.callWith_builtin1 (thn (ha pos pins s σ H _ I h) fun us s1 ⟨vs,H1,I1,r1,q1⟩=>hc pins s1 σ H1 vs us Q I1 r1 q1) he hpl
theorem Yn (hc:WH X (.type T) r) (hg:Gl X x) (hm:X.mg x=none) (hv:bootBuiltins x=some (.type T)) (ha:PA X (e::es) t) (hn:x ≠ "__name__" := by decide) (hdb:(x==("__debug__":Str))=false:=by decide)
  (he:starEach (e::es) X.env=(false,eval e X.env)::starEach es X.env:=by rfl) (hpl:(backTo pos (starEach es X.env)).any (·.1)=false:=by rfl):PE X (.Call (.Name x p) (e::es) [] pos) (tCB r t):=by
 intro pins s σ H Q I h
 refine wpAny_Call_Name_kw (zK I hg hm hv ?_ hn hdb)
 exact PyProof.Rows.callWith_type1 (thn (ha pos pins s σ H _ I h) fun us s1 ⟨vs,H1,I1,r1,q1⟩=>hc pins s1 σ H1 vs us Q I1 r1 q1) he hpl
end
end L2
namespace HT
open PySem PyProof.Rows
theorem rcLt_int (A:Around) (s:Shared) (a:Int) (t:Tok) (c:Int) (u:Tok) (prog:Program) (w:World) (E:Value->Shared->Prop) (Q:Value->Shared->Prop) (h:Q (.bool (decide (a < c))) s) :
  wpAny (model prog w) A (richCompare .Lt (.int a t) (.int c u)) Q E s :=
 (PyProof.Rows.lt_int h:wpAny (model prog w) A (compareOp .Lt (.int a t) (.int c u)) Q E s)
section
variable {prog:Program} {w:World} {A:Around} {E:Value->Shared->Prop} {s:Shared}
theorem cat_tup {t b:Addr} {vs ws:List Value} {Q:Value->Shared->Prop} (ht:IsTup s.heap t vs.toArray) (hb:IsTup s.heap b ws.toArray) (hv:vs≠[])
  (h1:ws=[]->Q (.ref t) s) (h2:ws≠[]->Q (.ref s.heap.objs.size) { s with heap:=s.heap.push { cls := .type "tuple",data := .seq (vs++ws).toArray } })
  (hsz:vs.length + ws.length≤sizeLine):wpAny (model prog w) A (binaryOp .Add (.ref t) (.ref b)) Q E s:=by
 obtain ⟨⟨cls,dd,data,sl⟩,ho,hc,n,hd⟩:=id ht
 obtain ⟨⟨cls2,dd2,data2,sl2⟩,ho2,hc2,n2,hd2⟩:=id hb
 simp only at hc hd hc2 hd2
 subst hc hd hc2 hd2
 have e:vs.toArray++ws.toArray=(vs++ws).toArray:=by simp
 by_cases hw:ws=[]
 ·exact concat_meets ⟨_,ho,rfl⟩ ⟨_,ho2,rfl⟩ noFill_tuple_add seq_tuple_add PySem.F.slot_tuple_add PySem.F.entry_tuple_add (PySem.F.args_tuple_add_2 _ _)
   (tuple_addW1 t b vs.toArray ws.toArray n n2 dd dd2 sl sl2 (by simpa using hv) (by simp [hw])) ⟨ho,ho2,h1 hw⟩
 ·refine concat_meets ⟨_,ho,rfl⟩ ⟨_,ho2,rfl⟩ noFill_tuple_add seq_tuple_add PySem.F.slot_tuple_add PySem.F.entry_tuple_add (PySem.F.args_tuple_add_2 _ _)
   (tuple_addW2 t b vs.toArray ws.toArray n n2 dd dd2 sl sl2 (by simpa using hv) (by simpa using hw) (by rw [List.size_toArray,List.size_toArray];exact hsz)) ⟨ho,ho2,?_⟩
  rw [e]
  exact h2 hw
def sIx (n d:Nat):Option Int->Nat
 |none=>d
 |some v=>if v < 0 then (v + (n:Int)).toNat else min v.toNat n
theorem sIx_nat (n d k:Nat):sIx n d (some (k:Int))=min k n:=by
 show (if (k:Int) < 0 then ((k:Int) + (n:Int)).toNat else min (k:Int).toNat n)=min k n
 rw [if_neg (by omega),Int.toNat_natCast]
theorem qHH (n d:Nat) (hd:d≤n) (o:Option Int):sIx n d o≤n:=by
 cases o with
 |none=>exact hd
 |some v =>
  show (if v < 0 then (v + (n:Int)).toNat else min v.toNat n)≤n
  by_cases hv:v < 0
  ·rw [if_pos hv];omega
  ·rw [if_neg hv];exact Nat.min_le_right _ _
theorem qA0 (v:Int) (n d:Nat):(if v < 0 then max (v + (n:Int)) 0 else min v (n:Int))=((sIx n d (some v):Nat):Int):=by
 show (if v < 0 then max (v + (n:Int)) 0 else min v (n:Int))=(((if v < 0 then (v + (n:Int)).toNat else min v.toNat n):Nat):Int)
 by_cases hv:v < 0
 ·simp only [if_pos hv];omega
 ·simp only [if_neg hv];omega
theorem qAY (lo hi:Option Int) (n:Nat):Builtin.Slice.sliceAdjust lo hi 1 (n:Int)=(((sIx n 0 lo:Nat):Int),((sIx n n hi:Nat):Int)):=by
 have h1:¬ ((1:Int) < 0):=by omega
 unfold Builtin.Slice.sliceAdjust
 simp only [h1,if_false]
 refine Prod.ext ?_ ?_
 ·cases lo with
  |none=>rfl
  |some v=>exact qA0 v n 0
 ·cases hi with
  |none=>rfl
  |some v=>exact qA0 v n n
theorem qAA (i j:Nat):Builtin.Slice.slicePlaces (i:Int) (j:Int) 1=j - i:=by
 unfold Builtin.Slice.slicePlaces
 have h1:(1:Int) > 0:=by omega
 simp only [h1,if_true,Int.ediv_one]
 split <;> omega
theorem Wf {v:Value} {o:Option Int} {Q:Option Int->Shared->Prop} (p:IsPart v o) (h:Q o s):wpAny (model prog w) A (Builtin.Slice.slicePartIndex v) Q E s:=by
 cases p with
 |none=>exact slicePart_none h
 |int i t=>exact slicePart_int h
theorem sliceApplied_gen {sl:Addr} {vl vu:Value} {lo hi:Option Int} {n:Nat} {Q:Int×Int×Nat->Shared->Prop} (hs:s.heap.IsSliceOf sl vl vu .none) (pl:IsPart vl lo) (pu:IsPart vu hi)
  (h:Q (((sIx n 0 lo:Nat):Int),1,sIx n n hi - sIx n 0 lo) s):wpAny (model prog w) A (Builtin.Slice.sliceApplied (.ref sl) (pure (n:Int))) Q E s:=by
 obtain ⟨os,hos,hcs,hds⟩:=id hs
 unfold Builtin.Slice.sliceApplied Builtin.Slice.sliceFields
 refine wpAny_bind (wpAny_bind (wpAny_field hos hds (x:=vl) rfl (wpAny_bind (wpAny_field hos hds (x:=vu) rfl (wpAny_bind (wpAny_field hos hds (x := .none) rfl (wpAny_pure ?_)))))))
 refine wpAny_bind (slicePart_none ?_)
 show wpAny _ _ (if ((1:Int)==0)=true then _ else _) _ _ s
 rw [if_neg (by decide)]
 refine wpAny_bind (Wf pl (wpAny_bind (Wf pu (wpAny_bind (wpAny_pure ?_)))))
 show wpAny _ _ (match Builtin.Slice.sliceAdjust lo hi 1 (n:Int) with |(lo,hi)=>pure (lo,(1:Int),Builtin.Slice.slicePlaces lo hi 1)) _ _ s
 rw [qAY lo hi n]
 show wpAny _ _ (pure (((sIx n 0 lo:Nat):Int),(1:Int),Builtin.Slice.slicePlaces ((sIx n 0 lo:Nat):Int) ((sIx n n hi:Nat):Int) 1)) _ _ s
 rw [qAA]
 exact wpAny_pure h
theorem qC0 (xs:Array Value) (i k:Nat):((List.range k).filterMap fun (m:Nat)=>xs[((i:Int) + (m:Int) * 1).toNat]?).toArray=((xs.toList.drop i).take k).toArray:=by
 have e:(fun (m:Nat)=>xs[((i:Int) + (m:Int) * 1).toNat]?)=fun m=>xs[i + m]? := by
  funext m
  have:((i:Int) + (m:Int) * 1).toNat=i + m:=by omega
  rw [this]
 rw [e]
 have:=pick_run xs i k
 rw [List.filterMap_map] at this
 have e2:((fun x=>xs[x]?) ∘ fun x=>i + x)=fun m=>xs[i + m]? := rfl
 rw [e2] at this
 rw [this]
theorem getItem_tuple_cut {t sl:Addr} {items:Array Value} {vl vu:Value} {lo hi:Option Int} {Q:Value->Shared->Prop} (ht:IsTup s.heap t items) (hs:s.heap.IsSliceOf sl vl vu .none) (pl:IsPart vl lo) (pu:IsPart vu hi)
  (hw:¬ (sIx items.size 0 lo=0∧sIx items.size items.size hi=items.size))
  (h:Q (.ref s.heap.objs.size) { s with heap:=s.heap.push { cls := .type "tuple",data := .seq ((items.toList.drop (sIx items.size 0 lo)).take (sIx items.size items.size hi - sIx items.size 0 lo)).toArray } })
  (hsz:items.size≤sizeLine):wpAny (model prog w) A (getItem (.ref t) (.ref sl)) Q E s:=by
 have htake:sizeOk (.seq ((items.toList.drop (sIx items.size 0 lo)).take (sIx items.size items.size hi - sIx items.size 0 lo)).toArray):=by
  show ((items.toList.drop (sIx items.size 0 lo)).take (sIx items.size items.size hi - sIx items.size 0 lo)).toArray.size≤sizeLine
  rw [List.size_toArray,List.length_take,List.length_drop,Array.length_toList]
  omega
 have hj:sIx items.size items.size hi≤items.size:=qHH _ _ (Nat.le_refl _) hi
 obtain ⟨os,hos,hcs,hds⟩:=id hs
 have hTs:s.TypeIs (.ref sl) "slice" := ⟨os,hos,hcs⟩
 unfold getItem
 try with_reducible refine wpAny_holding ?_
 first |refine wpAny_bind (wpAny_pure ?_) |skip
 refine wpAny_bind (wpAny_sequenceKey ht.typeIs (by decide) ?_)
 refine wpAny_bind (wpAny_callSpecial?_slot (name:=Str.ofString "__getitem__") ht.typeIs PyProof.Rows.slot_tuple_getitem
  (wpAny_call_entry PyProof.Rows.slot_tuple_getitem ht.typeIs entry_tuple_getitem ?_ (args_tuple_getitem _ _)))
 show wpAny _ _ (Builtin.Tuple.tupleItemsOf (.ref t) >>= _) _ _ s
 refine wpAny_bind (tupleItemsOf_ ht ?_)
 refine wpAny_bind (wpAny_typeOf hTs ?_)
 rw [if_pos (by decide)]
 refine wpAny_bind (sliceApplied_gen hs pl pu ?_)
 have hno:¬ ((((sIx items.size 0 lo:Nat):Int)==0&&(1:Int)==1&&(sIx items.size items.size hi - sIx items.size 0 lo)==items.size)=true):=by
  intro q
  rw [Bool.and_eq_true,Bool.and_eq_true] at q
  have q1:((sIx items.size 0 lo:Nat):Int)=0:=eq_of_beq q.1.1
  have q2:sIx items.size items.size hi - sIx items.size 0 lo=items.size:=eq_of_beq q.2
  exact hw ⟨by omega,by omega⟩
 show wpAny _ _ (if (((sIx items.size 0 lo:Nat):Int)==0&&(1:Int)==1&&(sIx items.size items.size hi - sIx items.size 0 lo)==items.size)=true then _ else _) _ _ s
 rw [if_neg hno,qC0]
 first
  |exact wpAny_bind (m:=Builtin.Tuple.tupleExact _) (wpAny_newObj_type (wpAny_pure ⟨_,rfl,wpAny_pure h⟩) htake)
  |exact wpAny_bind (m:=Builtin.Tuple.tupleExact _) (wpAny_newObj_type (wpAny_bind (wpAny_pure (wpAny_pure ⟨_,rfl,wpAny_pure h⟩))) htake)
  |exact wpAny_bind (wpAny_bind (m:=Builtin.Tuple.tupleExact _) (wpAny_newObj_type (wpAny_pure (wpAny_pure ⟨_,rfl,wpAny_pure h⟩)) htake))
  |exact wpAny_bind (wpAny_bind (m:=Builtin.Tuple.tupleExact _) (wpAny_newObj_type (wpAny_pure ⟨_,rfl,wpAny_pure h⟩) htake))
end
end HT
namespace L2
open PySem PySem.Spec PyProof.Rows
abbrev TO:=St->Hp->(Option Int->Hp->Prop)->Prop
def PO (X:Cx) (e:Option Expr) (t:TO):Prop :=
 ∀ (pins:List (Addr×Obj)) (s:Shared) (σ:St) (H:Hp) (Q:Option Int->Hp->Prop),Inv X pins σ H s->t σ H Q ->
  wpAny (model X.prog X.w) X.A (evalPart e X.env) (fun u s' => ∃ o H',Inv X pins σ H' s'∧IsPart u o∧Q o H') X.xe s
def qEC:TO:=fun _ H Q=>Q none H
def qH5 (t:TE):TO:=fun σ H Q=>t σ H fun x H1 => ∃ i,x = .int i∧Q (some i) H1
theorem qAg {ns:List Int}:∀ {us:List Value},Vals (ns.map V.int) us->IntsAre us ns:=by
 induction ns with
 |nil=>intro us r;rw [List.map_nil] at r;cases r;exact .nil
 |cons n ns ih =>
  intro us r
  rw [List.map_cons] at r
  cases r with
  |cons r1 r2 =>
   obtain ⟨t,e⟩:=r1
   subst e
   exact .cons n t (ih r2)
section
variable {X:Cx} {e:Expr} {te:TE} {lo hi:Option Expr} {tl th:TO} {pos p2:Pos}
theorem qE8:PO X none qEC:=by
 intro pins s σ H Q I h
 rw [evalPart_none]
 exact wpAny_pure ⟨none,H,I,.none,h⟩
theorem qFM (h:PE X e te):PO X (some e) (qH5 te):=by
 intro pins s σ H Q I hw
 rw [evalPart_some]
 refine thn (h pins s σ H _ I hw) fun u s1 ⟨x,H1,I1,r1,q1⟩ => ?_
 obtain ⟨i,rfl,q⟩:=q1
 obtain ⟨t,rfl⟩:=r1
 exact ⟨some i,H1,I1,.int i t,q⟩
def SlR (X:Cx) (r:V->Option Int->Option Int->Hp->VK->Prop):Prop :=
 ∀ (pins:List (Addr×Obj)) (s:Shared) (σ:St) (H:Hp) (x:V) (v vl vu:Value) (lo hi:Option Int) (sl:Addr) (Q:VK),Inv X pins σ H s->RelV x v->s.heap.IsSliceOf sl vl vu .none->IsPart vl lo->IsPart vu hi->r x lo hi H Q ->
  ∃ T id,typeLookup (.type T) "__getitem__" = pure (some (.builtin id))∧s.TypeIs v T∧wpAny (model X.prog X.w) X.A (getItem v (.ref sl)) (EP X pins σ Q) X.xe s
theorem SlR.or {r r':V->Option Int->Option Int->Hp->VK->Prop} (h:SlR X r) (h':SlR X r'):SlR X (fun x lo hi H Q=>r x lo hi H Q∨r' x lo hi H Q):=by
 intro pins s σ H x v vl vu lo hi sl Q I rx hs pl pu q
 rcases q with q |q
 ·exact h pins s σ H x v vl vu lo hi sl Q I rx hs pl pu q
 ·exact h' pins s σ H x v vl vu lo hi sl Q I rx hs pl pu q
def tSl (r:V->Option Int->Option Int->Hp->VK->Prop) (te:TE) (tl th:TO):TE:=fun σ H Q=>te σ H fun x H1=>tl σ H1 fun l H2=>th σ H2 fun u H3=>r x l u H3 Q
theorem Jh {r:V->Option Int->Option Int->Hp->VK->Prop} (hr:SlR X r) (he:PE X e te) (hl:PO X lo tl) (hu:PO X hi th):PE X (.Subscript e (.Slice lo hi none p2) pos) (tSl r te tl th):=by
 intro pins s σ H Q I h
 refine Subscript_ (thn (he pins s σ H _ I h) fun v s1 ⟨x,H1,I1,r1,q1⟩ => ?_)
 refine wpAny_Slice (thn (hl pins s1 σ H1 _ I1 q1) fun vl s2 ⟨l,H2,I2,pl,q2⟩=>thn (hu pins s2 σ H2 _ I2 q2) fun vu s3 ⟨u,H3,I3,pu,q3⟩ => ?_)
 rw [evalPart_none]
 refine wpAny_pure ?_
 have I4:Inv X pins σ H3 { s3 with heap:=s3.heap.push { cls := .type "slice",data := .fields #[vl,vu,.none] } }:=I3.kept (t':=s3.toks) fun b ob q=>Heap.get?_push_of_some _ q
 obtain ⟨T,id,hT,ht,hg⟩:=hr pins { s3 with heap:=s3.heap.push { cls := .type "slice",data := .fields #[vl,vu,.none] } } σ H3 x v vl vu l u s3.heap.objs.size Q I4 r1 (Heap.IsSliceOf.new ..) pl pu q3
 show wpAny (model X.prog X.w) X.A (subscriptTail e (.Slice lo hi none p2) v (.ref s3.heap.objs.size)) (EP X pins σ Q) X.xe { s3 with heap:=s3.heap.push { cls := .type "slice",data := .fields #[vl,vu,.none] } }
 exact tail_any (ops:=[.ref s3.heap.objs.size,v]) ht hT hg (by with_unfolding_all rfl)
def Yb (xs:List V) (lo hi:Option Int):List V:=(xs.drop (HT.sIx xs.length 0 lo)).take (HT.sIx xs.length xs.length hi - HT.sIx xs.length 0 lo)
theorem yX (xs:List V) (lo hi:Option Int):(Yb xs lo hi).length≤xs.length:=by
 unfold Yb
 rw [List.length_take,List.length_drop]
 omega
def qIc (K:W.Frag):V->Option Int->Option Int->Hp->VK->Prop:=fun x lo hi H Q => ∃ a xs,x = .ref a∧SqT K H a xs ∧
 ¬ (HT.sIx xs.length 0 lo=0∧HT.sIx xs.length xs.length hi=xs.length) ∧ ∀ p,H p=none->Q (.ref p) (upd H p (.tup (Yb xs lo hi)))
theorem sl_tup:SlR X (qIc X.K):=by
 intro pins s σ H x v vl vu lo hi sl Q I rx hs pl pu h
 obtain ⟨a,xs,rfl,hx,hw,q⟩:=h
 cases rx
 obtain ⟨its,r,ht,hz⟩:=I.tuple hx
 have hlen:its.toArray.size=xs.length:=by rw [List.size_toArray];exact r.length.symm
 refine ⟨"tuple",_,PyProof.Rows.slot_tuple_getitem.lookup,ht.typeIs,?_⟩
 refine HT.getItem_tuple_cut ht hs pl pu (by rw [hlen];exact hw) ?_ (by rw [hlen];exact hz)
 rw [hlen]
 refine ⟨.ref s.heap.objs.size,_,I.laid (t':=s.toks) (o := .tup (Yb xs lo hi)) (fun b ob q=>Heap.get?_push_of_some _ q) (Nat.le_refl _) ?_,rfl,q _ (I.hok.fresh (Nat.le_refl _))⟩
 exact ⟨Nat.le_trans (yX xs lo hi) hz,_,(r.drop (HT.sIx xs.length 0 lo)).take (HT.sIx xs.length xs.length hi - HT.sIx xs.length 0 lo),IsTup.new _ _⟩
def qIA (K:W.Frag):R2:=fun x y H Q => ∃ a b xs ys,x = .ref a∧y = .ref b∧SqT K H a xs∧SqT K H b ys∧xs≠[]∧xs.length + ys.length≤sizeLine ∧
 (ys=[]->Q (.ref a) H)∧(ys≠[] -> ∀ p,H p=none->Q (.ref p) (upd H p (.tup (xs++ys))))
theorem Vals.nil_iff {xs:List V} {us:List Value} (r:Vals xs us):us=[] ↔ xs=[]:=by
 cases r with
 |nil=>simp
 |cons _ _=>simp
theorem qEX:OpR X (binaryOp .Add) (qIA X.K):=by
 intro pins s σ H x y v u Q I rx ry h
 obtain ⟨a,b,xs,ys,rfl,rfl,ha,hb,hx,hz,q1,q2⟩:=h
 cases rx
 cases ry
 obtain ⟨its,r1,p1,_⟩:=I.tuple ha
 obtain ⟨its2,r2,p2,_⟩:=I.tuple hb
 refine HT.cat_tup p1 p2 (fun z=>hx (r1.nil_iff.mp z)) (fun z=>⟨.ref a,H,I,rfl,q1 (r2.nil_iff.mp z)⟩) (fun z => ?_) (by rw [← r1.length,← r2.length];exact hz)
 refine ⟨.ref s.heap.objs.size,_,I.laid (t':=s.toks) (o := .tup (xs++ys)) (fun b ob q=>Heap.get?_push_of_some _ q) (Nat.le_refl _) ?_,rfl,q2 (fun w=>z (r2.nil_iff.mpr w)) _ (I.hok.fresh (Nat.le_refl _))⟩
 exact ⟨by rw [List.length_append];exact hz,_,r1.append r2,IsTup.new _ _⟩
end
end L2
namespace L2
open PySem PySem.Spec PyProof.Rows
def ixN (n:Nat) (i:Int):Option Nat:=if 0≤i then (if i < n then some i.toNat else none) else if -(n:Int)≤i then some (i + n).toNat else none
def atI {α:Type} (xs:List α) (i:Int):Option α:=(ixN xs.length i).bind fun j=>xs[j]?
theorem qBQ {n:Nat} {i:Int} {j:Nat} (h:ixN n i=some j):seqIndex? i n=some j∧j < n ∧ -(n:Int)≤i∧i < n:=by
 unfold ixN at h
 by_cases h0:0≤i
 ·rw [if_pos h0] at h
  by_cases h1:i < n
  ·rw [if_pos h1] at h
   have e:i.toNat=j:=Option.some.inj h
   exact ⟨by rw [seqIndex_of h0 h1,e],by omega,by omega,h1⟩
  ·rw [if_neg h1] at h;cases h
 ·rw [if_neg h0] at h
  by_cases h1:-(n:Int)≤i
  ·rw [if_pos h1] at h
   have e:(i + n).toNat=j:=Option.some.inj h
   exact ⟨by rw [seqIndex_neg (by omega) h1,e],by omega,h1,by omega⟩
  ·rw [if_neg h1] at h;cases h
theorem jS {α:Type} {xs:List α} {i:Int} {v:α} (h:atI xs i=some v):∃ j,seqIndex? i xs.length=some j∧xs[j]? = some v∧j < xs.length ∧ -(xs.length:Int)≤i∧i < xs.length:=by
 unfold atI at h
 cases e:ixN xs.length i with
 |none=>rw [e] at h;cases h
 |some j =>
  rw [e] at h
  obtain ⟨h1,h2,h3,h4⟩:=qBQ e
  exact ⟨j,h1,h,h2,h3,h4⟩
def qA8 (b:Expr):Prop := ∀ o i,subscripted b false o i=operate [o,i] (getItem o i)
def IxR (X:Cx) (r:R2):Prop :=
 ∀ (value slice:Expr) (pins:List (Addr×Obj)) (s:Shared) (σ:St) (H:Hp) (x y:V) (v u:Value) (Q:VK),Inv X pins σ H s->RelV x v->RelV y u->r x y H Q ->
  subscripted slice false v u=operate [v,u] (getItem v u)->wpAny (model X.prog X.w) X.A (subscriptTail value slice v u) (EP X pins σ Q) X.xe s
def MtR (X:Cx) (id:String) (r:V->List V->Hp->VK->Prop):Prop :=
 ∀ (pins:List (Addr×Obj)) (s:Shared) (σ:St) (H:Hp) (x:V) (xs:List V) (v:Value) (us:List Value) (Q:VK),Inv X pins σ H s->RelV x v->Vals xs us->r x xs H Q ->
  wpAny (model X.prog X.w) X.A (call (.builtin id) (v::us)) (EP X pins σ Q) X.xe s
section
variable {X:Cx} {a b:Expr} {ta tb:TE} {pos:Pos}
theorem IxR.or {r r':R2} (h:IxR X r) (h':IxR X r'):IxR X (fun x y H Q=>r x y H Q∨r' x y H Q):=by
 intro value slice pins s σ H x y v u Q I rx ry q hs
 rcases q with q |q
 ·exact h value slice pins s σ H x y v u Q I rx ry q hs
 ·exact h' value slice pins s σ H x y v u Q I rx ry q hs
theorem qHb {r:R2} (hr:IxR X r) (ha:PE X a ta) (hb:PE X b tb) (hs:qA8 b):PE X (.Subscript a b pos) (tOp r ta tb):=by
 intro pins s σ H Q I h
 exact Subscript_ (qGs ha hb I h fun v u s2 x y H2 I2 rx ry q=>hr a b pins s2 σ H2 x y v u Q I2 rx ry q (hs _ _))
def qHa (K:W.Frag):R2:=fun x y H Q => ∃ p xs i v,x = .ref p∧y = .int i∧SqL K H p xs∧atI xs i=some v∧Q v H
def qH0 (K:W.Frag):R2:=fun x y H Q => ∃ p xs i v,x = .ref p∧y = .int i∧SqT K H p xs∧atI xs i=some v∧Q v H
def qH2:R2:=fun x y H Q => ∃ z i c,x = .str z∧y = .int i∧z.length≤sizeLine∧atI z.cps.toList i=some c∧Q (.str ⟨#[c]⟩) H
theorem ix_list:IxR X (qHa X.K):=by
 intro value slice pins s σ H x y v u Q I rx ry h hs
 obtain ⟨p,xs,i,z,rfl,rfl,hq,he,q⟩:=h
 cases rx
 obtain ⟨t,rfl⟩:=ry
 obtain ⟨its,r,pl,hz⟩:=I.list hq
 obtain ⟨j,h1,h2,h3,h4,h5⟩:=jS he
 obtain ⟨w,ew,rw'⟩:=r.get h2
 have hl:=r.length
 have hn:=yV
 have fin:EP X pins σ Q w s:=⟨z,H,I,rw',q⟩
 by_cases h0:0≤i
 ·have hj:i.toNat=j:=by
   rw [seqIndex_of h0 h5] at h1
   exact Option.some.inj h1
  exact item_listR pl.isList h0 (by omega) (by rw [hj];simpa using ew) fin hs
 ·have hj:(i + (its.toArray.size:Int)).toNat=j:=by
   rw [seqIndex_neg (by omega) h4] at h1
   rw [List.size_toArray,← hl]
   exact Option.some.inj h1
  exact subscriptTail_builtinR (x:=w) pl.isList.typeIs slot_list_getitem.lookup
   (wpAny_getItem_list_neg (Q:=fun r s'=>r=w∧EP X pins σ Q r s') pl.isList (by omega) (by rw [List.size_toArray] <;> omega) (by omega) (by rw [hj];simpa using ew) ⟨rfl,fin⟩) hs
theorem ix_tup:IxR X (qH0 X.K):=by
 intro value slice pins s σ H x y v u Q I rx ry h hs
 obtain ⟨p,xs,i,z,rfl,rfl,hq,he,q⟩:=h
 cases rx
 obtain ⟨t,rfl⟩:=ry
 obtain ⟨its,r,pl,hz⟩:=I.tuple hq
 obtain ⟨j,h1,h2,h3,h4,h5⟩:=jS he
 obtain ⟨w,ew,rw'⟩:=r.get h2
 have hl:=r.length
 have hn:=yV
 have fin:EP X pins σ Q w s:=⟨z,H,I,rw',q⟩
 exact subscriptTail_builtinR (x:=w) pl.typeIs slot_tuple_getitem.lookup
  (getItem_tuple (j:=j) (Q:=fun r s'=>r=w∧EP X pins σ Q r s') pl (by omega) (by omega) (by rw [List.size_toArray,← hl];exact h1) (by simpa using ew) ⟨rfl,fin⟩) hs
theorem qHL:IxR X qH2:=by
 intro value slice pins s σ H x y v u Q I rx ry h hs
 obtain ⟨z,i,c,rfl,rfl,hz,he,q⟩:=h
 obtain ⟨t,rfl⟩:=rx
 obtain ⟨t',rfl⟩:=ry
 obtain ⟨j,h1,h2,h3,h4,h5⟩:=jS he
 have hl:z.cps.toList.length=z.length:=by simp [Str.length]
 rw [hl] at h1 h4 h5
 have hn:=yV
 exact tail_any (typeIs_str s z t) slot_str_getitem.lookup (getItem_str (c:=c) (by
  have e1:decide (i < -(2 ^ 63:Int))=false:=decide_eq_false (by omega)
  have e2:decide (i ≥ 2 ^ 63)=false:=decide_eq_false (by omega)
  rw [e1,e2,Bool.or_false]) (by rw [h1];simpa using h2) ⟨.str ⟨#[c]⟩,H,I.tok _,⟨_,rfl⟩,q⟩) hs
def rIx (K:W.Frag):R2:=fun x y H Q=>qHa K x y H Q∨qH0 K x y H Q∨qH2 x y H Q
theorem qGy:IxR X (rIx X.K):=ix_list.or (ix_tup.or qHL)
theorem qAn (its:List Value) (n j:Nat) (u:Value):Obj.mapSeq (·.setIfInBounds j u) { cls := .type "list",data := .seq its.toArray n }={ cls := .type "list",data := .seq (its.set j u).toArray n }:=by
 simp [Obj.mapSeq]
theorem Inv.lst {pins:List (Addr×Obj)} {σ:St} {H:Hp} {s:Shared} {p:Addr} {xs:List V} (I:Inv X pins σ H s) (h:H p=some (.lst xs)) :
  ∃ (its:List Value) (n:Nat),Vals xs its∧s.heap.get? p=some { cls := .type "list",data := .seq its.toArray n }∧xs.length≤sizeLine:=by
 obtain ⟨z,its,n,r,e⟩:=I.hok p _ h
 exact ⟨its,n,r,e,z⟩
theorem Inv.lstUpd {pins:List (Addr×Obj)} {σ:St} {H:Hp} {s:Shared} {p:Addr} {xs ys:List V} {its its':List Value} {n n':Nat} {f:Obj->Obj} (I:Inv X pins σ H s) (h:H p=some (.lst xs))
  (ho:s.heap.get? p=some { cls := .type "list",data := .seq its.toArray n }) (hf:f { cls := .type "list",data := .seq its.toArray n }={ cls := .type "list",data := .seq its'.toArray n' }) (r:Vals ys its') (hz:ys.length≤sizeLine) (t:Nat) :
  Inv X pins σ (upd H p (.lst ys)) { s with heap:=s.heap.update p f,toks:=t }:=by
 have e:(s.heap.update p f).get? p=some { cls := .type "list",data := .seq its'.toArray n' }:=by
  rw [Heap.get?_update_self f ho (by rw [hf] <;> rfl),hf]
 refine I.write (x:=p) (e:=p) (by rw [h];trivial) (.inl rfl) (fun b u hb q=>(Heap.get?_update_other _ _ (Ne.symm hb)).trans q) ⟨_,e⟩ ?_
 exact ⟨hz,its',n',r,e⟩
def qFX:V->V->V->Hp->(Hp->Prop)->Prop:=fun o i v H Q => ∃ p xs k j,o = .ref p∧i = .int k∧H p=some (.lst xs)∧ixN xs.length k=some j∧Q (upd H p (.lst (xs.set j v)))
theorem qDq:qIC X qFX:=by
 intro pins s σ H o i v ov iv u Q I ro ri rv h
 obtain ⟨p,xs,k,j,rfl,rfl,hp,hj,q⟩:=h
 cases ro
 obtain ⟨t,rfl⟩:=ri
 obtain ⟨its,n,r,ho,hz⟩:=I.lst hp
 obtain ⟨h1,h2,h3,h4⟩:=qBQ hj
 have hl:=r.length
 have hn:=yV
 have I':Inv X pins σ (upd H p (.lst (xs.set j v))) { s with heap:=s.heap.update p (Obj.mapSeq (·.setIfInBounds j u)) } :=
  I.lstUpd hp ho (qAn its n j u) (r.set rv j) (by rw [List.length_set];exact hz) s.toks
 by_cases h0:0≤k
 ·have hk:k.toNat=j:=by
   rw [seqIndex_of h0 h4] at h1
   exact Option.some.inj h1
  exact PySem.W.ki_setAt ho h0 (by omega) (by rw [List.size_toArray,← hl];exact h4) (by rw [hk];exact ⟨_,I',q⟩)
 ·have hk:(k + (its.toArray.size:Int)).toNat=j:=by
   rw [seqIndex_neg (by omega) h3] at h1
   rw [List.size_toArray,← hl]
   exact Option.some.inj h1
  exact PySem.W.ki_setBack ho (by omega) (by rw [List.size_toArray,← hl];exact h3) (by omega) (by rw [hk];exact ⟨_,I',q⟩)
theorem jk (lo hi:Option Int) (n:Nat):(sliceBounds lo hi none n).1=((HT.sIx n 0 lo:Nat):Int)∧(sliceBounds lo hi none n).2.1=((HT.sIx n n hi:Nat):Int)∧(sliceBounds lo hi none n).2.2=1:=by
 refine ⟨?_,?_,rfl⟩
 ·cases lo with
  |none=>simp [sliceBounds,HT.sIx]
  |some i =>
   simp only [sliceBounds,HT.sIx,Option.getD_none,show (1:Int) > 0 by decide,if_true]
   by_cases h:i < 0
   ·simp only [h,if_true] <;> omega
   ·simp only [h,if_false] <;> omega
 ·cases hi with
  |none=>simp [sliceBounds,HT.sIx]
  |some i =>
   simp only [sliceBounds,HT.sIx,Option.getD_none,show (1:Int) > 0 by decide,if_true]
   by_cases h:i < 0
   ·simp only [h,if_true] <;> omega
   ·simp only [h,if_false] <;> omega
theorem Yd (its:List Value) (lo hi:Option Int):slicePick its.toArray lo hi none=((its.drop (HT.sIx its.length 0 lo)).take (HT.sIx its.length its.length hi - HT.sIx its.length 0 lo)).toArray:=by
 obtain ⟨h1,h2,h3⟩:=jk lo hi its.toArray.size
 unfold slicePick
 rw [h1,h2,h3]
 simp only [sliceRange_one,pick_run,List.size_toArray] <;> rfl
def qIf (K:W.Frag):V->Option Int->Option Int->Hp->VK->Prop:=fun x lo hi H Q => ∃ a xs,x = .ref a∧SqL K H a xs ∧ ∀ p,H p=none->Q (.ref p) (upd H p (.lst (Yb xs lo hi)))
theorem qFK:SlR X (qIf X.K):=by
 intro pins s σ H x v vl vu lo hi sl Q I rx hs pl pu h
 obtain ⟨a,xs,rfl,hx,q⟩:=h
 cases rx
 obtain ⟨its,r,ht,hz⟩:=I.list hx
 have hlen:=r.length
 refine ⟨"list",_,slot_list_getitem.lookup,ht.isList.typeIs,?_⟩
 refine wpAny_getItem_list_slice ht.isList hs pl pu .none (by simp) ?_ (by rw [List.size_toArray] <;> omega)
 rw [Yd,← hlen]
 refine ⟨.ref s.heap.objs.size,_,I.laid (t':=s.toks) (o := .lst (Yb xs lo hi)) (fun b ob q=>Heap.get?_push_of_some _ q) (Nat.le_refl _) ?_,rfl,q _ (I.hok.fresh (Nat.le_refl _))⟩
 exact ⟨Nat.le_trans (yX xs lo hi) hz,_,0,(r.drop (HT.sIx xs.length 0 lo)).take (HT.sIx xs.length xs.length hi - HT.sIx xs.length 0 lo),Heap.get?_push_size _ rfl⟩
theorem jC:WH X (.builtin "len") (fun xs H Q => ∃ p ys,xs=[.ref p]∧(SqL X.K H p ys∨SqT X.K H p ys)∧Q (.int ys.length) H):=by
 intro pins s σ H xs us Q I r h
 obtain ⟨p,ys,rfl,hq,q⟩:=h
 obtain ⟨u,rfl,rx⟩:=ZF r
 cases rx
 have hn:=yV
 rcases hq with hq |hq
 ·obtain ⟨its,r',pl,hz⟩:=I.list hq
  have hlen:=r'.length
  exact Calls.call_len_list pl.isList (by simp only [List.size_toArray] <;> omega) ⟨.int ys.length,H,I.tok _,⟨s.toks + 1,by rw [List.size_toArray,hlen]⟩,q⟩
 ·obtain ⟨its,r',pl,hz⟩:=I.tuple hq
  have hlen:=r'.length
  exact len_tuple pl (by simp only [List.size_toArray] <;> omega) ⟨.int ys.length,H,I.tok _,⟨s.toks + 1,by rw [List.size_toArray,hlen]⟩,q⟩
theorem jo:WH X (.type "list") (fun xs H Q => ∃ p ys,xs=[.ref p]∧(SqL X.K H p ys∨SqT X.K H p ys) ∧ ∀ l,H l=none->Q (.ref l) (upd H l (.lst ys))):=by
 intro pins s σ H xs us Q I r h
 obtain ⟨p,ys,rfl,hq,q⟩:=h
 obtain ⟨u,rfl,rx⟩:=ZF r
 cases rx
 have fin:∀ (its:List Value),Vals ys its->ys.length≤sizeLine -> ∀ (h':Heap) (c':Nat),(∀ b o',s.heap.get? b=some o'->h'.get? b=some o') ->
   h'.get? s.heap.objs.size=some { cls := .type "list",dict:=none,data := .seq its.toArray c',slots := #[] }->EP X pins σ Q (.ref s.heap.objs.size) { s with heap:=h' }:=fun its r' hz h' c' kp e =>
  ⟨.ref s.heap.objs.size,_,I.laid (t':=s.toks) kp (Nat.le_refl _) (show ObjOk X.prog X.w _ h' _ (.lst ys) from ⟨hz,its,c',r',e⟩),rfl,q _ (I.hok.fresh (Nat.le_refl _))⟩
 rcases hq with hq |hq
 ·obtain ⟨its,r',pl,hz⟩:=I.list hq
  have hlen:=r'.length
  obtain ⟨o,ho,hc,n,hd⟩:=pl.isList
  exact call_list_seq p (.inl rfl) ho hc hd (fun h' c' kp e=>fin its r' hz h' c' kp e) (by simp only [List.size_toArray] <;> omega)
 ·obtain ⟨its,r',pl,hz⟩:=I.tuple hq
  have hlen:=r'.length
  obtain ⟨o,ho,hc,n,hd⟩:=pl
  exact call_list_seq p (.inr rfl) ho hc hd (fun h' c' kp e=>fin its r' hz h' c' kp e) (by simp only [List.size_toArray] <;> omega)
theorem Ya:WH X (.type "tuple") (fun xs H Q => ∃ p ys,xs=[.ref p]∧((SqL X.K H p ys ∧ ∀ l,H l=none->Q (.ref l) (upd H l (.tup ys)))∨(SqT X.K H p ys∧Q (.ref p) H))):=by
 intro pins s σ H xs us Q I r h
 obtain ⟨p,ys,rfl,h⟩:=h
 obtain ⟨u,rfl,rx⟩:=ZF r
 cases rx
 rcases h with ⟨hq,q⟩ |⟨hq,q⟩
 ·obtain ⟨its,r',pl,hz⟩:=I.list hq
  have hlen:=r'.length
  refine call_tuple_list pl.isList (fun h' kp => ?_) (by simp only [List.size_toArray] <;> omega)
  have I1:Inv X pins σ H { s with heap:=h' }:=I.kept (t':=s.toks) kp
  have I2:Inv X pins σ (upd H h'.objs.size (.tup ys)) { s with heap:=h'.push { cls := .type "tuple",data := .seq its.toArray } } :=
   I1.laid (t':=s.toks) (fun b o e=>Heap.get?_push_of_some _ e) (Nat.le_refl _) (show ObjOk X.prog X.w _ _ _ (.tup ys) from ⟨hz,its,r',IsTup.new _ _⟩)
  exact ⟨.ref h'.objs.size,_,I2,rfl,q _ (I1.hok.fresh (Nat.le_refl _))⟩
 ·obtain ⟨its,r',pl,hz⟩:=I.tuple hq
  exact call_tuple_same pl ⟨.ref p,H,I,rfl,q⟩
def tyV (K:W.Frag) (T:String) (x:V) (H:Hp):Prop:=match x with
 | .str _=>T = "str"
 | .int _=>T = "int"
 | .ref p=>(T = "list" ∧ ∃ xs,SqL K H p xs)∨(T = "tuple" ∧ ∃ o,K.lookup p=some o∧o.cls = .type "tuple" ∧ o.dict=none) ∨
   (T = "dict" ∧ ((∃ kvs,H p=some (.dK kvs)) ∨ ∃ kvs,H p=some (.dT kvs)))∨(T = "set" ∧ ∃ S n,H p=some (.set S n))
 |_=>False
theorem qG7 {pins:List (Addr×Obj)} {σ:St} {H:Hp} {s:Shared} {T:String} {x:V} {v:Value} (I:Inv X pins σ H s) (r:RelV x v) (ty:tyV X.K T x H) :
  s.TypeIs v T ∧ ∀ a,v = .ref a -> ∃ ob,s.heap.get? a=some ob∧ob.dict=none:=by
 cases x with
 |str z =>
  obtain ⟨t,rfl⟩:=r
  cases (show T = "str" from ty)
  exact ⟨typeIs_str s z t,fun _ e=>nomatch e⟩
 |int i =>
  obtain ⟨t,rfl⟩:=r
  cases (show T = "int" from ty)
  exact ⟨typeIs_int s i t,fun _ e=>nomatch e⟩
 |ref p =>
  cases r
  rcases ty with ⟨rfl,xs,hq⟩ |⟨rfl,o,hk,hc,hd⟩ |⟨rfl,hk⟩ |⟨rfl,S,n,hk⟩
  ·obtain ⟨its,_,pl,_⟩:=I.list hq
   refine ⟨pl.isList.typeIs,fun a e => ?_⟩
   cases e
   obtain ⟨o,n,e,c,hd,_⟩:=pl
   exact ⟨o,e,hd⟩
  ·refine ⟨⟨o,I.kIn p o hk,hc⟩,fun a e => ?_⟩
   cases e
   exact ⟨o,I.kIn _ o hk,hd⟩
  ·have z:∃ o,s.heap.get? p=some o∧o.ExactDict:=by
    rcases hk with ⟨kvs,hk⟩ |⟨kvs,hk⟩
    ·obtain ⟨_,_,_,_,o,_,_,e,ex,_⟩:=I.hok p _ hk
     exact ⟨o,e,ex⟩
    ·obtain ⟨_,_,_,_,o,_,_,e,ex,_⟩:=I.hok p _ hk
     exact ⟨o,e,ex⟩
   obtain ⟨o,e,ex⟩:=z
   refine ⟨⟨o,e,ex.1⟩,fun a e2 => ?_⟩
   cases e2
   exact ⟨o,e,ex.2.1⟩
  ·obtain ⟨o,_,_,_,e,ex,_⟩:=I.hok p _ hk
   refine ⟨⟨o,e,ex.1⟩,fun a e2 => ?_⟩
   cases e2
   exact ⟨o,e,ex.2.1⟩
 |_=>exact False.elim ty
def tBM (K:W.Frag) (T:String) (r:V->List V->Hp->VK->Prop) (to:TE) (t:TA):TE:=fun σ H Q=>to σ H fun x H1=>tyV K T x H1∧t σ H1 fun xs H2=>r x xs H2 Q
variable {o e:Expr} {es:List Expr} {to:TE} {t:TA} {name:Str} {apos cpos:Pos} {T id:String} {r:V->List V->Hp->VK->Prop}
theorem qFn (pa:PlainAttrs T) (slot:Slot T name id) (hty:typeOf (.builtin id)=pure (.type "method_descriptor")) (hm:MtR X id r) (ho:PE X o to) (ha:PA X (e::es) t)
  (hbase:attributeBase o name X.env (eval o X.env)=eval o X.env:=by rfl)
  (hfew:((backTo cpos (starEach (e::es) X.env)).all (fun x => !x.1)&&(backToKw cpos (keywordEach [] X.env)).all (fun x=>x.1.isSome)
   && decide ((e::es).length + ([]:List Keyword).length + (if ([]:List Keyword).isEmpty then 0 else 1) < 30))=true:=by rfl)
  (hline:(apos.endLine==cpos.line)=true:=by rfl) (hs:starEach (e::es) X.env=(false,eval e X.env)::starEach es X.env:=by rfl) (hplain:(backTo cpos (starEach es X.env)).any (·.1)=false:=by rfl) :
  PE X (.Call (.Attribute o name apos) (e::es) [] cpos) (tBM X.K T r to t):=by
 intro pins s σ H Q I h
 refine wpAny_Call_method_late hbase hfew hline rfl (thn (ho pins s σ H _ I h) fun v s1 ⟨x,H1,I1,r1,ty,q1⟩ => ?_)
 obtain ⟨h1,h2⟩:=qG7 I1 r1 ty
 refine ⟨T,id,pa,slot,hty,h1,h2,?_⟩
 have hA:=ha cpos pins s1 σ H1 _ I1 q1
 rw [hs] at hA ⊢
 refine Calls.callWith_builtin (by show (false || (backTo cpos (starEach es X.env)).any (·.1))=false;rw [hplain] <;> rfl) (Calls.evalArgs_plain ?_)
 exact thn hA fun us s2 ⟨vs,H2,I2,r2,q2⟩=>hm pins s2 σ H2 x vs v us Q I2 r1 r2 q2
end
end L2
namespace L2
open PySem PySem.Spec PyProof.Rows
def MtM (X:Cx) (id:String) (r:V->List V->Hp->VK->Prop):Prop :=
 ∀ (pins:List (Addr×Obj)) (s:Shared) (σ:St) (H:Hp) (x:V) (xs:List V) (v:Value) (us:List Value) (Q:VK),Inv X pins σ H s->RelV x v->Vals xs us->r x xs H Q ->
  wpAny (model X.prog X.w) X.A (call (.builtin id) (v::us)) (EP X pins σ Q) X.xe s
theorem Vals.one:∀ {x:V} {us:List Value},Vals [x] us -> ∃ u,us=[u]∧RelV x u
 |_,_,.cons r .nil=>⟨_,rfl,r⟩
theorem Vals.rep {xs:List V} {us:List Value} (h:Vals xs us):∀ k:Nat,Vals (List.replicate k xs).flatten (List.replicate k us).flatten
 |0 => .nil
 |k + 1=>by
  rw [List.replicate_succ,List.replicate_succ,List.flatten_cons,List.flatten_cons]
  exact Vals.append h (Vals.rep h k)
theorem Yk (its:List Value):∀ (k:Nat) (acc:List Value),
  List.foldl (fun x1 x2=>x1++x2) acc.toArray (List.replicate k its.toArray)=(acc++(List.replicate k its).flatten).toArray
 |0,acc=>by simp
 |k + 1,acc=>by
  have e:acc.toArray++its.toArray=(acc++its).toArray:=by simp
  have e2:(acc++its)++(List.replicate k its).flatten=acc++(List.replicate (k + 1) its).flatten:=by
   rw [List.replicate_succ,List.flatten_cons,List.append_assoc]
  rw [← e2,← Yk its k (acc++its),← e,List.replicate_succ,List.foldl_cons]
section
variable {X:Cx} {pins:List (Addr×Obj)} {σ:St} {H:Hp} {s:Shared} {l b:Addr} {xs ys zs:List V}
theorem Inv.lset {its its':List Value} {n:Nat} {f:Array Value->Array Value} {t':Nat} (I:Inv X pins σ H s) (hH:H l=some (.lst xs))
  (e:s.heap.get? l=some { cls := .type "list",data := .seq its.toArray n }) (hf:f its.toArray=its'.toArray) (hv:Vals ys its') (hz:ys.length≤sizeLine) :
  Inv X pins σ (upd H l (.lst ys)) { s with heap:=s.heap.update l (Obj.mapSeq f),toks:=t' }:=by
 have q:=PySem.IsL.update e f
 rw [hf] at q
 refine I.write (x:=l) (e:=l) (by rw [hH];exact trivial) (.inl rfl) (fun b' u hb hu=>(Heap.get?_update_other s.heap (Obj.mapSeq f) (Ne.symm hb)).trans hu) ⟨_,q⟩ ?_
 exact ⟨hz,its',_,hv,q⟩
theorem Inv.lnew {its:List Value} {t':Nat} (I:Inv X pins σ H s) (hv:Vals ys its) (hz:ys.length≤sizeLine) :
  Inv X pins σ (upd H s.heap.objs.size (.lst ys)) { s with heap:=s.heap.push { cls := .type "list",data := .seq its.toArray },toks:=t' } :=
 I.laid (fun _ _ q=>Heap.get?_push_of_some _ q) (Nat.le_refl _) ⟨hz,its,0,hv,Heap.get?_push_size _ rfl⟩
theorem Inv.fresh (I:Inv X pins σ H s):H s.heap.objs.size=none:=I.hok.fresh (Nat.le_refl _)
theorem Inv.lstM (I:Inv X pins σ H s) (hH:H l=some (.lst xs)):xs.length≤sizeLine ∧ ∃ (its:List Value) (n:Nat),Vals xs its∧xs.length=its.length∧s.heap.get? l=some { cls := .type "list",data := .seq its.toArray n }:=by
 obtain ⟨z,its,n,r,e⟩:=I.hok l _ hH
 exact ⟨z,its,n,r,r.length,e⟩
end
section
variable {X:Cx}
def qE1:V->List V->Hp->VK->Prop:=fun x vs H Q => ∃ l xs y,x = .ref l∧vs=[y]∧H l=some (.lst xs)∧xs.length < sizeLine∧Q .non (upd H l (.lst (xs++[y])))
theorem Y5:MtM X "list.append" qE1:=by
 intro pins s σ H x vs v us Q I rx rv h
 obtain ⟨l,xs,y,rfl,rfl,hH,hz,q⟩:=h
 cases rx
 obtain ⟨u,rfl,ru⟩:=rv.one
 obtain ⟨z,its,n,r,hl,e⟩:=I.lstM hH
 refine call_meets F.slot_list_append ⟨_,e,rfl⟩ F.entry_list_append (F.args_list_append_2 _ _) (PySem.list_append l its.toArray n u (by rw [List.size_toArray];omega)) ⟨e,?_⟩
 refine ⟨.non,_,I.lset (its':=its++[u]) hH e (by simp) (r.append (.cons ru .nil)) ?_,rfl,q⟩
 rw [List.length_append,List.length_singleton]
 omega
theorem qBN {α:Type} (xs:List α) (k:Nat):(List.replicate k xs).flatten.length=k * xs.length:=by
 induction k with
 |zero=>simp
 |succ k ih=>rw [List.replicate_succ,List.flatten_cons,List.length_append,ih,Nat.succ_mul,Nat.add_comm]
end
end L2
namespace Att
open PySem PySem.W PySem.Calls PyProof.Rows
theorem yh {P:Params} {h:Heap}:∀ (ns:List Int) (vs:List Value),WellAll P h vs (ns.map WData.int)->IntsAre vs ns:=by
 intro ns
 induction ns with
 |nil =>
  intro vs w
  rw [List.map_nil] at w
  cases w
  exact .nil
 |cons n ns ih =>
  intro vs w
  rw [List.map_cons] at w
  cases w with
  |cons a b =>
   cases a
   exact .cons _ _ (ih _ b)
theorem qBb {l:OpenLaw} {n:Nat} (hn:l.most=some n) {P:Params} {h:Heap} {args:List WData} {vals:List Value}
  (hpre:l.row.toRowW.claim.pre args=true) (hwl:WellAll P h vals args) :
  ∃ a vs ns,vals=[Value.ref a]∧args=[WData.list (ns.map WData.int)]∧h.get? a=some { cls := .type "list",data := .seq vs.toArray }∧IntsAre vs ns∧ns.length≤n:=by
 have hsh:WShape.hasAll [] args [.list .int]=true:=(pre_splitW hpre).1
 have hc:l.pre.holds [] { args:=args }=true:=(pre_splitW hpre).2
 obtain ⟨d,r,rfl,h1,h2⟩:=hasAllW_cons hsh
 obtain rfl:=hasAllW_nil h2
 obtain ⟨xs,rfl,h3⟩:=hasW_list h1
 obtain ⟨ns,rfl⟩:=items_int h3
 have hlen:ns.length≤n:=by
  unfold OpenLaw.pre at hc
  have h4:(WTm.not (.lt (.lit (.int (n:Int))) (.len (.arg 0)))).holds [] { args:=[.list (ns.map .int)] }=true:=by
   have h4:=(holds_andW hc).1
   rw [hn] at h4
   exact h4
  have h5:=condW_of h4 (w_not (w_lt w_lit (w_len_list (w_arg rfl))))
  rw [List.length_map] at h5
  refine Nat.le_of_not_lt fun q => ?_
  have q':(n:Int) < ((ns.length:Nat):Int):=by omega
  first
   |(rw [decide_eq_true q'] at h5;exact absurd h5 (by decide))
   |(simp at h5;omega)
 cases hwl with
 |cons w1 w2 =>
  cases w2
  cases w1 with
  |list ho hall=>exact ⟨_,_,ns,rfl,rfl,ho,yh ns _ hall,hlen⟩
theorem qBy (l:OpenLaw) (args:List WData):l.row.toRowW.claim.post args (.bool true) args=true :=
 postW_of (r:=l.row.toRowW) (X:=(true==true))
  (show WShape.has [] (.bool true) .bool=true by first |rfl |decide |simp [WShape.has,WShape.arms,WShape.armsAll])
  (show (WTm.eq .res (.lit (.bool true))).value [] { args:=args,res:=some (.bool true),after:=args }=some (.bool (true==true)) from w_eq_bool (w_res rfl) w_lit) rfl
end Att
namespace L2
open PySem PySem.Spec PyProof.Rows
theorem Yi:∀ {vs:List Value} {ns:List Int},IntsAre vs ns->Vals (ns.map V.int) vs
 |_,_,.nil => .nil
 |_,_,.cons n t h => .cons ⟨t,rfl⟩ (Yi h)
def qGz (H:Hp):Prop := ∀ b,H b=none ∨ ∃ o xs,H b=some (.frz o (.lst xs))
theorem qCy {P:Program} {w:World} {K:W.Frag} {mg mb:Str->Option Value} {CX:CXT} {k:Nat} {fa a:Addr} {fd:FuncData} {x:Str} {sp:Sp} {s₁:Shared} {vs:List Value} {ns:List Int}
  (KX:K.In s₁.heap) (hns:s₁.heap.Ns mainGlobals mg) (hb:s₁.heap.Ns builtinsNs mb) (hbb:∀ x:Str,x ≠ "__name__" -> mb x=bootBuiltins x) (hlim:s₁.heap.NoLimit) (hg:s₁.gens = #[])
  (ha:s₁.heap.get? a=some { cls := .type "list",data := .seq vs.toArray }) (hi:IntsAre vs ns) (hl:ns.length≤sizeLine) (hr:Room k callerA)
  (F:∀ base:Heap,K.In base->base.Ns mainGlobals mg->FnOk P w K mg base CX k fa fd [x] sp) (hbind:∀ (s:Shared) (u:Value),BindsTo s fd ⟨[u],[]⟩ [(x,u)])
  (hsp:∀ H:Hp,qGz H->SqL K H a (ns.map V.int)->sp [.ref a] H (fun v _=>v = .bl true) fun _ _ _=>False)
  (hCX:∀ H e s',CX [] H s₁ (fun _ _ _=>False) e s'->False) :
  codeAny (model P w) callerA (.call (.ref fa) ⟨[.ref a],[]⟩) (fun r s'=>r = .ok (.ret (.bool true))∧OldK s₁.heap s'.heap∧s'.os=s₁.os∧AllBare s'.gens) s₁:=by
 have rv:=Yi hi
 have lenV:=hi.length
 -- from an abstract heap in which nothing but the script may be tracked
 have core:∀ H:Hp,qGz H->SqL K H a (ns.map V.int)->HOk P w H s₁.heap->(∀ b,H b≠none->b=a)->(H a≠none->K.lookup a=none) ->
   codeAny (model P w) callerA (.call (.ref fa) ⟨[.ref a],[]⟩) (fun r s'=>r = .ok (.ret (.bool true))∧OldK s₁.heap s'.heap∧s'.os=s₁.os∧AllBare s'.gens) s₁:=by
  intro H hO hS hok hA hK
  have base_of:∀ {b:Addr} {o:Obj},s₁.heap.get? b=some o->H b=none->(jn s₁.heap H).get? b=some o:=fun e n=>qDj e n
  have noA:∀ {b:Addr} {o:Obj} {es:Array DictEntry} {ep:Nat},s₁.heap.get? b=some o->o.data = .dict es ep->H b=none:=fun {b o es ep} e d=>by
   cases q:H b with
   |none=>rfl
   |some u =>
    have e':b=a:=hA b (by rw [q];simp)
    subst e'
    rw [ha] at e;cases e
    have d':Data.seq vs.toArray _=Data.dict es ep:=d
    cases d'
  have nsK:∀ {b:Addr} {m:Str->Option Value},s₁.heap.Ns b m->(jn s₁.heap H).Ns b m:=fun {b m} ⟨o,es,ep,e,d,r⟩=>⟨o,es,ep,base_of e (noA e d),d,r⟩
  have hKb:K.In (jn s₁.heap H):=fun b o e=>base_of (KX b o e) (by
   cases q:H b with
   |none=>rfl
   |some u =>
    have e':b=a:=hA b (by rw [q];simp)
    subst e'
    rw [hK (by rw [q];simp)] at e;cases e)
  have hM:Mod K mg (jn s₁.heap H):=⟨hKb,nsK hns,⟨mb,nsK hb,hbb⟩,let ⟨mc,h1,h2⟩:=hlim;⟨mc,nsK h1,h2⟩⟩
  have e0:Env0 P w K mg (jn s₁.heap H) callerA [] s₁ H:=⟨rfl,hM,fun b o e=>qEu e,Nat.le_of_eq (qCG _ _),trivial,fun b hb=>absurd (show b∈([]:List Addr) from hb) (by simp),hok,.of_eq hg,HndH.none rfl⟩
  refine codeAny_mono ((F _ hKb (nsK hns)).run callerA [] s₁ H ⟨[.ref a],[]⟩ [.ref a] [.ref a] _ _ hr e0 (hbind s₁ (.ref a)) (.cons rfl .nil) (hsp H hO hS)) fun r s' h => ?_
  cases r with
  |error e=>exact (hCX H e s' h).elim
  |ok fl =>
   cases fl with
   |next=>exact False.elim h
   |brk=>exact False.elim h
   |cont=>exact False.elim h
   |ret u =>
    obtain ⟨v,H',os,bare,un,hok',r',q⟩:=h
    have q':v = .bl true:=q
    subst q'
    obtain rfl:u=Value.bool true:=r'
    refine ⟨rfl,OldK.of_keep fun b o e => ?_,os,bare⟩
    cases q:H b with
    |none=>exact un.keep b o e q (by intro z;exact absurd (show b∈([]:List Addr) from z) (by simp)) (by simp)
    |some u =>
     rcases hO b with z |⟨ob,xs,z⟩
     ·rw [q] at z;cases z
     ·have z2:=un.frzs b ob _ z
      obtain ⟨e1,_⟩:=hok b _ z
      obtain ⟨e2,_⟩:=hok' b _ z2
      rw [e] at e1;cases e1
      exact e2
 cases hk:K.lookup a with
 |some o =>
  -- the script is one of the module's own objects
  have e:=KX a o hk
  rw [ha] at e
  cases e
  refine core (fun _=>none) (fun _ => .inl rfl) (.inr ⟨_,vs.toArray,_,hk,rfl,rfl,rfl,by rw [List.size_toArray,lenV];exact hl,by simpa using rv⟩) (fun b u z=>by have z':(none:Option HO)=some u:=z;cases z') (fun b z=>absurd rfl z) fun z=>absurd rfl z
 |none =>
  refine core (fun b=>if b=a then some (.frz { cls := .type "list",data := .seq vs.toArray } (.lst (ns.map V.int))) else none) (fun b => ?_) (.inl (.inr ⟨{ cls := .type "list",data := .seq vs.toArray },if_pos rfl⟩)) (fun b u z => ?_) (fun b z => ?_) fun _=>hk
  ·by_cases hb:b=a
   ·exact .inr ⟨_,_,if_pos hb⟩
   ·exact .inl (if_neg hb)
  ·by_cases hb:b=a
   ·have z':=(if_pos hb).symm.trans z
    cases z'
    subst hb
    exact ⟨ha,by rw [List.length_map];exact hl,vs,_,rv,ha⟩
   ·have z':=(if_neg hb).symm.trans z
    cases z'
  ·by_cases hb:b=a
   ·exact hb
   ·exact absurd (if_neg hb) z
end L2
namespace L2
open PySem PySem.Spec PyProof.Rows
end L2
namespace L2
open PySem PySem.Spec PyProof.Rows
def qf (s:Stmt):Arguments:=match s with
 | .FunctionDef _ a _ _ _ _ _ _ _ _=>a
 |_=>{ posonlyargs:=[],args:=[],vararg:=none,kwonlyargs:=[],kw_defaults:=[],kwarg:=none,defaults:=[] }
def qe (s:Stmt):List Stmt:=match s with
 | .FunctionDef _ _ b _ _ _ _ _ _ _=>b
 |_=>[]
def qK (s:Stmt):Scope:=match s with
 | .FunctionDef _ _ _ _ _ _ sc _ _ _=>sc
 |_=>{ kind := .function,names:=[],isGenerator:=false,isCoroutine:=false }
abbrev E0:XK:=fun _ _ _=>False
structure Fun (K:W.Frag) (x qual:Str) (st:Stmt) (f:Addr) (fd:FuncData):Prop where
 ex:∃ (oc:Value) (od:Option Addr) (kV doc pm:Value) (an:Option Addr) (cdv ct:Value) (osl:Array (Option Value)),
  fd=PySem.W.fnOf x qual (qf st) (qe st) (qK st) .none kV doc pm an cdv ct∧K.lookup f=some ⟨oc,od,.func fd,osl⟩∧PySem.W.codeIn K cdv qual=true
 kp:PySem.W.keepIn K (.ref f)=true
section
variable {P:Program} {w:World} {K:W.Frag} {mg:Str->Option Value} {base:Heap}
theorem Fun.binds {x qual:Str} {st:Stmt} {f:Addr} {fd:FuncData} {ps:List Str} (F:Fun K x qual st f fd)
  (h:∀ (kV doc pm:Value) (an:Option Addr) (cdv ct:Value) (us:List Value),us.length=ps.length->bindArgs (PySem.W.fnOf x qual (qf st) (qe st) (qK st) .none kV doc pm an cdv ct) ⟨us,[]⟩=pure (ps.zip us)):Binds K fd ps []:=by
 obtain ⟨oc,od,kV,doc,pm,an,cdv,ct,osl,rfl,lk,hcd⟩:=F.ex
 exact .all (h kV doc pm an cdv ct)
theorem QL {x qual:Str} {st:Stmt} {f:Addr} {oc:Value} {od an:Option Addr} {osl:Array (Option Value)} {kV doc pm cdv ct:Value} (l:K.lookup f=some ⟨oc,od,.func (PySem.W.fnOf x qual (qf st) (qe st) (qK st) .none kV doc pm an cdv ct),osl⟩)
  (c:PySem.W.codeIn K cdv qual=true) (k:PySem.W.keepIn K (.ref f)=true):Fun K x qual st f (PySem.W.fnOf x qual (qf st) (qe st) (qK st) .none kV doc pm an cdv ct):=⟨⟨oc,od,kV,doc,pm,an,cdv,ct,osl,rfl,l,c⟩,k⟩
end
section
variable {X:Cx}
theorem pv (i:Nat) {x:Str} {pos:Pos} (hN:X.N[i]? = some x:=by rfl) (hv:Vis X.env.scope x:=by first |exact Or.inl rfl |exact Or.inr (Or.inl rfl) |exact Or.inr (Or.inr rfl)) (hd:(x==("__debug__":Str))=false:=by decide)
  (hcd:(x==("__classdict__":Str))=false:=by decide):PE X (.Name x pos) (qGn i):=qF9 hN hv hd hcd
end
theorem qCE {A B:Prop} (h:B):if false=true then A else B:=by
 rw [if_neg Bool.false_ne_true]
 exact h
theorem qCA {A B:Prop} (h:A):if true=true then A else B:=by
 rw [if_pos rfl]
 exact h
def Same (H H':Hp):Prop := ∀ b o,H b=some o->H' b=some o
theorem Same.refl (H:Hp):Same H H:=fun _ _ h=>h
end L2
end
section
namespace L2
open PySem PySem.Spec PyProof.Rows
section
variable {P:Program} {w:World} {H:Hp} {h:Heap} {a:Addr}
theorem qHn {u:HO} (ok:HOk P w H h) (e:Rd H a u):ObjOk P w H h a u:=e.ok ok
theorem qH1 {kvs:List (Key×V)} (ok:HOk P w H h) (e:Rd H a (.dK kvs)):kvs.length≤sizeLine∧(a==sysModules)=false ∧ ∃ vs,KV kvs vs∧h.DictOf (Zt P w) a vs :=
 show ObjOk P w H h a (.dK kvs) from qHn ok e
theorem qHR {kvs:List (Key×V)} (ok:HOk P w H h) (e:H a=some (.dK kvs)):kvs.length≤sizeLine∧(a==sysModules)=false ∧ ∃ vs,KV kvs vs∧h.DictOf (Zt P w) a vs:=qH1 ok (.inl e)
end
section
variable {X:Cx} {pins:List (Addr×Obj)} {σ:St} {H:Hp} {s:Shared} {a:Addr} {y v:V} {u r:Value} {o:Option V} {A:Around} {E:Value->Shared->Prop}
theorem Inv.big (I:Inv X pins σ H s):sysModules < s.heap.objs.size:=by
 have h:mainGlobals < s.heap.objs.size:=(I.mod.glob.keeps I.bk).lt
 exact Nat.lt_trans (by decide) h
end
theorem qCk {P:Program} {w:World} {H:Hp} (h:Heap) (hb:sysModules < h.objs.size):ObjOk P w H (h.push { cls := .type "dict",data := .dict #[] }) h.objs.size (.dK []) :=
 ⟨Nat.zero_le _,beq_eq_false_iff_ne.mpr (Ne.symm (Nat.ne_of_lt hb)),[],.nil,Heap.DictOf.new h⟩
def qGY:TE:=fun _ H Q => ∀ p,H p=none->Q (.ref p) (upd H p (.dK []))
section
variable {X:Cx} {pos:Pos}
theorem qDQ:PE X (.Dict [] [] pos) qGY:=fun pins s σ H Q I h =>
 wpAny_Dict_empty ⟨.ref s.heap.objs.size,_,I.laid (a:=s.heap.objs.size) (o := .dK []) (t':=s.toks) (fun _ _ q=>Heap.get?_push_of_some _ q) (Nat.le_refl _) (qCk s.heap I.big),rfl,h _ (I.hok.fresh (Nat.le_refl _))⟩
end
end L2
namespace L2
open PySem PySem.Spec PyProof.Rows
end L2
end
section
namespace EX
open PySem PySem.Spec PyProof.Rows
def Trc (h B:Heap) (e:Addr) (cls:Value) (dd:Option Addr) (fl:Value):Prop :=
 ∃ oe vs T oT ts,h.get? e=some oe∧oe.cls=cls∧oe.dict=dd∧oe.data = .fields vs∧vs[1]? = some (Value.ref T)∧vs[2]? = some Value.none∧B.get? T=none∧T≠e∧h.get? T=some oT∧oT.data = .fields ts∧ts[3]? = some fl
def Fly (B:Heap) (l:List Env) (e:Addr) (cls:Value) (dd:Option Addr) (fl:Value) (h:Heap):Prop:=B.StaysIn h∧B.get? e=none∧h.FunFrames B l∧Trc h B e cls dd fl
theorem Fly.tail {B h:Heap} {env:Env} {l:List Env} {e:Addr} {cls fl:Value} {dd:Option Addr} (x:Fly B (env::l) e cls dd fl h):Fly B l e cls dd fl h:=⟨x.1,x.2.1,x.2.2.1.2.2,x.2.2.2⟩
section
variable {M:Model} {A:Around} {E:Value->Shared->Prop} {s:Shared} {B:Heap} {env:Env} {outer:List Env} {L e:Addr} {cls:Value} {dd:Option Addr} {Q:Unit->Shared->Prop}
theorem Jf {oe:Obj} {vs:Array Value} {head:Value} {nx:Bool} (f1:A.frames=some (env::outer)) (f2:s.heap.FunFrames B (env::outer)) (f3:env.frame=some L) (k1:B.StaysIn s.heap) (k2:B.get? e=none)
  (g1:s.heap.get? e=some oe) (g2:oe.data = .fields vs) (g3:1 < vs.size) (g4:vs[2]? = some Value.none) (h:∀ h',Fly B (env::outer) e oe.cls oe.dict (rawInt L) h'->s.heap.UpToSlots h'->Q () { s with heap:=h' }) :
  wpAny M A (do let a ← frameOf env;let pl ← entryPlaceOf L nx;let b ← EntryCells.newEntry head a .none (rawInt L) .none pl;setField (.ref e) 1 b) Q E s:=by
 have nfr:e ∉ (env::outer).filterMap (·.frame):=fun hm=>by
  obtain ⟨_,o,ho,hnf⟩:=f2.mem hm
  rw [g1] at ho;cases ho;exact hnf vs g2
 refine wpAny_bind (wpAny_frameOf_fun f1 f2 f3 fun h1 so=>wpAny_bind (wpAny_entryPlaceOf fun pl hpl => ?_))
 unfold EntryCells.newEntry newFields
 refine wpAny_bind (wpAny_newObj_type ?_ (hpl.sizeOk5 _ _ _ _ _))
 generalize hts:([head,Value.ref L,.none,rawInt L,.none]++(if pl.isEmpty then List.replicate 6 Value.none else pl)).toArray=ts
 have ht3:ts[3]? = some (rawInt L):=by rw [← hts];first |(simp;done) |(rcases hpl with rfl |⟨_,_,_,_,_,_,_,rfl⟩ <;> simp)
 have a1:h1.get? e=some oe:=(so.2.1 e nfr).trans g1
 have kb:B.StaysIn h1:=fun b o q=>(so.2.1 b fun hm=>by rw [(f2.mem hm).1] at q;cases q).trans (k1 b o q)
 have a2:=Heap.get?_push_of_some (h:=h1) { cls := .type "traceback",dict:=none,data := .fields ts } a1
 refine wpAny_setField a2 g2 g3 (h _ ?_ ?_)
 ·have ne1:h1.objs.size≠e:=Nat.ne_of_gt (Heap.lt_size a1)
  have d3:=Obj.data_mapFields g2 (·.setIfInBounds 1 (Value.ref h1.objs.size))
  have a3:=Heap.get?_update_self (Obj.mapFields (·.setIfInBounds 1 (Value.ref h1.objs.size))) a2 (Obj.isFreed_of_fields d3)
  have a4:=(Heap.get?_update_other (h1.push { cls := .type "traceback",dict:=none,data := .fields ts }) (Obj.mapFields (·.setIfInBounds 1 (Value.ref h1.objs.size))) (Ne.symm ne1)).trans (Heap.get?_push_size h1 rfl)
  have kp:∀ b o,b≠e->h1.get? b=some o->((h1.push { cls := .type "traceback",dict:=none,data := .fields ts }).update e (Obj.mapFields (·.setIfInBounds 1 (Value.ref h1.objs.size)))).get? b=some o:=fun b o hb q =>
   (Heap.get?_update_other _ _ (Ne.symm hb)).trans (Heap.get?_push_of_some _ q)
  refine ⟨fun b o q=>kp b o (fun z=>by rw [z,k2] at q;cases q) (kb b o q),k2,f2.of_keeps fun b o q nf => ?_,_,_,h1.objs.size,_,ts,a3,Obj.cls_mapFields _ _,?_,d3,?_,?_,kb.fresh,ne1,a4,rfl,ht3⟩
  ·obtain ⟨sl,q2⟩:=so.2.2 b o q
   exact ⟨_,kp b _ (fun z=>by rw [z,g1] at q;cases q;exact nf vs g2) q2,rfl⟩
  ·obtain ⟨c,d,dt,sl⟩:=oe
   have g2:dt = .fields vs:=g2
   subst g2;rfl
  ·simp [g3]
  ·rw [Array.getElem?_setIfInBounds_ne (by decide)];exact g4
 ·intro b o q nf
  have hb:b≠e:=fun z=>by rw [z,g1] at q;cases q;exact nf vs g2
  obtain ⟨sl,q2⟩:=so.2.2 b o q
  exact ⟨sl,(Heap.get?_update_other _ _ (Ne.symm hb)).trans (Heap.get?_push_of_some _ q2)⟩
theorem qAl {oe:Obj} {vs:Array Value} (f1:A.frames=some (env::outer)) (f2:s.heap.FunFrames B (env::outer)) (f3:env.frame=some L) (k1:B.StaysIn s.heap) (k2:B.get? e=none)
  (g1:s.heap.get? e=some oe) (g2:oe.data = .fields vs) (g3:vs[1]? = some Value.none) (g4:vs[2]? = some Value.none) (h:∀ h',Fly B (env::outer) e oe.cls oe.dict (rawInt L) h'->s.heap.UpToSlots h'->Q () { s with heap:=h' }) :
  wpAny M A (noteFrame (.ref e) env) Q E s:=by
 unfold noteFrame
 simp only [f3]
 refine wpAny_bind (wpAny_field g1 g2 g3 ?_)
 rw [if_neg (show ¬ ((Value.none != Value.none)=true) by decide)]
 exact Jf f1 f2 f3 k1 k2 g1 g2 (Array.getElem?_eq_some_iff.mp g3).1 g4 h
theorem Yu (f1:A.frames=some (env::outer)) (f3:env.frame=some L) (x:Fly B (env::outer) e cls dd .none s.heap) (h:∀ h',Fly B (env::outer) e cls dd (rawInt L) h'->s.heap.UpToSlots h'->Q () { s with heap:=h' }) :
  wpAny M A (noteFrame (.ref e) env) Q E s:=by
 obtain ⟨k1,k2,f2,oe,vs,T,oT,ts,g1,rfl,rfl,g2,g3,g4,t1,t2,t3,t4,t5⟩:=x
 unfold noteFrame
 simp only [f3]
 refine wpAny_bind (wpAny_field g1 g2 g3 ?_)
 rw [if_pos (show (Value.ref T != Value.none)=true by simp)]
 refine wpAny_bind (wpAny_field t3 t4 t5 ?_)
 rw [if_neg (show ¬ ((Value.none==rawInt L)=true) by simp [rawInt])]
 refine wpAny_bind (wpAny_setField t3 t4 (Array.getElem?_eq_some_iff.mp t5).1 ?_)
 have ot:∀ b,b≠T->(s.heap.update T (Obj.mapFields (·.setIfInBounds 3 Value.none))).get? b=s.heap.get? b:=fun b hb=>Heap.get?_update_other _ _ (Ne.symm hb)
 have nr:∀ b o,s.heap.get? b=some o->(∀ us,o.data ≠ .fields us)->b≠T:=fun b o q nf z=>by rw [z,t3] at q;cases q;exact nf ts t4
 refine Jf f1 (f2.of_keeps fun b o q nf=>⟨o,(ot b (nr b o q nf)).trans q,rfl⟩) f3 (fun b o q=>(ot b fun z=>by rw [z,t1] at q;cases q).trans (k1 b o q)) k2 ((ot e (Ne.symm t2)).trans g1) g2 (Array.getElem?_eq_some_iff.mp g3).1 g4 fun h' x u=>h h' x fun b o q nf => ?_
 exact u b o ((ot b (nr b o q nf)).trans q) nf
theorem qAw {l:List Env} {fl:Value} (x:Fly B l e cls dd fl s.heap) (h:∀ h',Fly B l e cls dd .none h'->s.heap.UpToSlots h'->Q () { s with heap:=h' }):wpAny M A (setFlight (.ref e) none) Q E s:=by
 obtain ⟨k1,k2,f2,oe,vs,T,oT,ts,g1,g0,g00,g2,g3,g4,t1,t2,t3,t4,t5⟩:=x
 have t6:3 < ts.size:=(Array.getElem?_eq_some_iff.mp t5).1
 have ot:∀ b,b≠T->(s.heap.update T (Obj.mapFields (·.setIfInBounds 3 ((none:Option Addr).elim Value.none fun f=>rawInt f)))).get? b=s.heap.get? b:=fun b hb=>Heap.get?_update_other _ _ (Ne.symm hb)
 have nr:∀ b o,s.heap.get? b=some o->(∀ us,o.data ≠ .fields us)->b≠T:=fun b o q nf z=>by rw [z,t3] at q;cases q;exact nf ts t4
 unfold setFlight
 refine wpAny_bind (wpAny_field g1 g2 g3 ?_)
 rw [if_pos (show (Value.ref T != Value.none)=true by simp)]
 refine wpAny_setField t3 t4 t6 (h _ ⟨fun b o q=>(ot b fun z=>by rw [z,t1] at q;cases q).trans (k1 b o q),k2,f2.of_keeps fun b o q nf=>⟨o,(ot b (nr b o q nf)).trans q,rfl⟩,?_⟩ fun b o q nf=>⟨o.slots,(ot b (nr b o q nf)).trans q⟩)
 exact ⟨oe,vs,T,_,_,(ot e (Ne.symm t2)).trans g1,g0,g00,g2,g3,g4,t1,t2,Heap.get?_update_self _ t3 (Obj.isFreed_of_fields (Obj.data_mapFields t4 _)),Obj.data_mapFields t4 _,by simp [t6]⟩
theorem jm {oe:Obj} {vs:Array Value} (f1:A.frames=some (env::outer)) (f2:s.heap.FunFrames B (env::outer)) (f3:env.frame=some L) (k1:B.StaysIn s.heap) (k2:B.get? e=none)
  (g1:s.heap.get? e=some oe) (g2:oe.data = .fields vs) (g3:vs[1]? = some Value.none) (g4:vs[2]? = some Value.none) (h:∀ h',Fly B outer e oe.cls oe.dict .none h'->s.heap.UpToSlots h'->Q () { s with heap:=h' }) :
  wpAny M A (leaving env (.ref e)) Q E s:=by
 unfold leaving
 exact wpAny_bind (qAl f1 f2 f3 k1 k2 g1 g2 g3 g4 fun h1 x1 u1=>qAw x1 fun h2 x2 u2=>h h2 x2.tail (u1.trans u2))
theorem JI (f1:A.frames=some (env::outer)) (f3:env.frame=some L) (x:Fly B (env::outer) e cls dd .none s.heap) (h:∀ h',Fly B outer e cls dd .none h'->s.heap.UpToSlots h'->Q () { s with heap:=h' }) :
  wpAny M A (leaving env (.ref e)) Q E s:=by
 unfold leaving
 exact wpAny_bind (Yu f1 f3 x fun h1 x1 u1=>qAw x1 fun h2 x2 u2=>h h2 x2.tail (u1.trans u2))
end
end EX
end
section
namespace EX
open PySem PySem.Spec PyProof.Rows L2
structure UnB (fs:List Addr) (H H1:Hp) (h B:Heap):Prop where
 keep:∀ b o,h.get? b=some o->H b=none->b ∉ fs->B.get? b=some o
 free:∀ b o,h.get? b=some o->H b=none->H1 b=none
 there:∀ b o,h.get? b=some o->b ∉ fs -> ∃ o',B.get? b=some o'
 tups:∀ b xs,H b=some (.tup xs)->H1 b=some (.tup xs)
 frzs:∀ b o u,H b=some (.frz o u)->H1 b=some (.frz o u)
 tbls:∀ b ps,H b=some (.tbl ps) -> ∃ more,H1 b=some (.tbl (ps++more))
def CXF (P:Program) (w:World):CXT:=fun outer H s E e s' =>
 ∃ ea cls dd B H1,e=Value.ref ea∧Fly B outer ea cls dd .none s'.heap∧HOk P w H1 B∧s'.os=s.os∧AllBare s'.gens∧UnB (frs outer) H H1 s.heap B ∧
  (∀ b∈frs outer,∀ o,s.heap.get? b=some o -> ∃ sl,s'.heap.get? b=some { o with slots:=sl })∧E cls dd H1
theorem Jb {env:Env} {outer:List Env} {L:Addr} (h:env.frame=some L):frs (env::outer)=L::frs outer:=by
 unfold frs;rw [List.filterMap_cons,h]
theorem CXF.un {P:Program} {w:World} {outer:List Env} {H H1:Hp} {s s':Shared} {B:Heap} (hs:B.StaysIn s'.heap) (un:UnB (frs outer) H H1 s.heap B) (sl:∀ b∈frs outer,∀ o,s.heap.get? b=some o -> ∃ sl,s'.heap.get? b=some { o with slots:=sl }) :
  Un (frs outer) [] H H1 s.heap s'.heap where
 keep:=fun b o e n hb _=>hs b o (un.keep b o e n hb)
 slot:=fun b o e n hb _=>sl b hb o e
 free:=fun b o e n _=>un.free b o e n
 there:=fun b o e _=>by
  by_cases hb:b∈frs outer
  ·obtain ⟨x,q⟩:=sl b hb o e;exact ⟨_,q⟩
  ·obtain ⟨o',q⟩:=un.there b o e hb;exact ⟨o',hs b o' q⟩
 tups:=un.tups
 frzs:=un.frzs
 tbls:=un.tbls
section
variable {P:Program} {w:World} {K:W.Frag} {mg:Str->Option Value} {base:Heap} {N:List Str} {qual:Str} {scope:Scope} {f:Addr} {cd:Value} {A:Around} {outer:List Env} {s₀:Shared} {H₀:Hp} {E:XK}
theorem qg:zn (CXF P w) (wU (CXF P w) P w K mg base N qual scope f cd A outer s₀ H₀ E) E:=by
 intro pins σ H s e s' I c
 obtain ⟨ea,cls,dd,B,H1,rfl,fl,hok,os,bare,un,sl,q⟩:=c
 have hfr:(envOfC qual scope s₀.heap.objs.size f cd).frame=some s₀.heap.objs.size:=rfl
 have ef:frs (wU (CXF P w) P w K mg base N qual scope f cd A outer s₀ H₀ E).stack=s₀.heap.objs.size::frs outer:=Jb hfr
 have Ib:Un (frs outer) [] H₀ H s₀.heap s.heap:=I.base
 have ne:∀ b o,s₀.heap.get? b=some o->b≠s₀.heap.objs.size:=fun b o e=>Nat.ne_of_lt (Heap.lt_size e)
 refine JI I.ok.frames hfr fl fun h' x u=>⟨ea,cls,dd,B,H1,rfl,x,hok,os.trans I.os,bare,?_,fun b hb o e => ?_,q⟩
 ·refine ⟨fun b o e n hb => ?_,fun b o e n => ?_,fun b o e hb => ?_,fun b xs e=>un.tups b xs (Ib.tups b xs e),fun b o u e=>un.frzs b o u (Ib.frzs b o u e),fun b ps e => ?_⟩
  ·exact un.keep b o (Ib.keep b o e n hb (by simp)) (Ib.free b o e n (by simp)) (by rw [ef];intro z;exact (List.mem_cons.mp z).elim (ne b o e) hb)
  ·obtain ⟨o',e'⟩:=Ib.there b o e (by simp)
   exact un.free b o' e' (Ib.free b o e n (by simp))
  ·obtain ⟨o',e'⟩:=Ib.there b o e (by simp)
   exact un.there b o' e' (by rw [ef];intro z;exact (List.mem_cons.mp z).elim (ne b o e) hb)
  ·obtain ⟨m1,e1⟩:=Ib.tbls b ps e
   obtain ⟨m2,e2⟩:=un.tbls b _ e1
   exact ⟨m1++m2,by rw [e2,Array.append_assoc]⟩
 ·obtain ⟨sl1,e1⟩:=Ib.slot b o e (I.ok.frf b hb) hb (by simp)
  obtain ⟨sl2,e2⟩:=sl b (by rw [ef];exact List.mem_cons_of_mem _ hb) _ e1
  have nf:∀ vs,o.data ≠ .fields vs:=by
   obtain ⟨_,o2,ho2,nf⟩:=I.ok.funs.mem hb
   have e:(wU (CXF P w) P w K mg base N qual scope f cd A outer s₀ H₀ E).s₀.heap.get? b=some o:=e
   rw [e] at ho2;cases ho2;exact nf
  obtain ⟨sl3,e3⟩:=u b _ e2 nf
  exact ⟨sl3,e3⟩
theorem qB8 {pins:List (Addr×Obj)} {σ:L2.St} {H:Hp} {s:Shared} {h':Heap} {e:Addr} {oe:Obj} {vs:Array Value} {H1:Hp} {B0:Heap} (I:L2.Inv (wU (CXF P w) P w K mg base N qual scope f cd A outer s₀ H₀ E) pins σ H s) (k:∀ b o,s.heap.get? b=some o->h'.get? b=some o) (hn:s.heap.get? e=none)
  (g1:h'.get? e=some oe) (g2:oe.data = .fields vs) (g3:vs[1]? = some Value.none) (g4:vs[2]? = some Value.none) (q:E oe.cls oe.dict H):(wU (CXF P w) P w K mg base N qual scope f cd A outer s₀ H₀ E).xe (.ref e) { s with heap:=h' }:=by
 have hfr:(envOfC qual scope s₀.heap.objs.size f cd).frame=some s₀.heap.objs.size:=rfl
 have ef:frs (wU (CXF P w) P w K mg base N qual scope f cd A outer s₀ H₀ E).stack=s₀.heap.objs.size::frs outer:=Jb hfr
 have Ib:Un (frs outer) [] H₀ H s₀.heap s.heap:=I.base
 have ne:∀ b o,s₀.heap.get? b=some o->b≠s₀.heap.objs.size:=fun b o e=>Nat.ne_of_lt (Heap.lt_size e)
 generalize hB:PySem.W.hideAll s.heap (frs (wU (CXF P w) P w K mg base N qual scope f cd A outer s₀ H₀ E).stack)=B
 have toB:∀ b o,s.heap.get? b=some o->b ∉ frs (wU (CXF P w) P w K mg base N qual scope f cd A outer s₀ H₀ E).stack->B.get? b=some o:=fun b o e hb=>by rw [← hB];exact PySem.W.hideAll_get _ e hb
 have ofB:∀ b o,B.get? b=some o->s.heap.get? b=some o:=fun b o e=>by rw [← hB] at e;exact PySem.W.of_hideAll _ e
 have trk:∀ b u,H b=some u->b ∉ frs (wU (CXF P w) P w K mg base N qual scope f cd A outer s₀ H₀ E).stack:=fun b u e z=>by rw [I.stkFree b z] at e;cases e
 have fun1:h'.FunFrames B (wU (CXF P w) P w K mg base N qual scope f cd A outer s₀ H₀ E).stack:=by
  have:=PySem.W.funFrames_hide (as:=frs (wU (CXF P w) P w K mg base N qual scope f cd A outer s₀ H₀ E).stack) I.stack fun env he a ha=>List.mem_filterMap.mpr ⟨env,he,ha⟩
  rw [hB] at this
  exact this.of_keeps fun b o e _=>⟨o,k b o e,rfl⟩
 have eB:B.get? e=none:=by
  cases z:B.get? e with
  |none=>rfl
  |some o=>have:=ofB e o z;rw [hn] at this;cases this
 refine jm (s:={ s with heap:=h' }) I.ok.frames fun1 hfr (fun b o z=>k b o (ofB b o z)) eB g1 g2 g3 g4 fun h2 x u=>⟨e,oe.cls,oe.dict,B,H,rfl,x,?_,I.os,I.bare,?_,fun b hb o e1 => ?_,q⟩
 ·exact fun b u e1=>(I.hok b u e1).stay (fun c v hc z=>toB c v z (hc.elim (fun z=>by rw [z];exact trk b u e1) fun z=>trk c _ z)) (fun _ z=>z) fun _ _ z=>z
 ·refine ⟨fun b o e n hb => ?_,fun b o e n=>Ib.free b o e n (by simp),fun b o e hb => ?_,fun b xs e=>Ib.tups b xs e,fun b o u e=>Ib.frzs b o u e,fun b ps e=>Ib.tbls b ps e⟩
  ·exact toB b o (Ib.keep b o e n hb (by simp)) (by rw [ef];intro z;exact (List.mem_cons.mp z).elim (ne b o e) hb)
  ·obtain ⟨o',e'⟩:=Ib.there b o e (by simp)
   exact ⟨o',toB b o' e' (by rw [ef];intro z;exact (List.mem_cons.mp z).elim (ne b o e) hb)⟩
 ·obtain ⟨sl1,e2⟩:=Ib.slot b o e1 (I.ok.frf b hb) hb (by simp)
  have nf:∀ vs,o.data ≠ .fields vs:=by
   obtain ⟨_,o2,ho2,nf⟩:=I.ok.funs.mem hb
   have e1:(wU (CXF P w) P w K mg base N qual scope f cd A outer s₀ H₀ E).s₀.heap.get? b=some o:=e1
   rw [e1] at ho2;cases ho2;exact nf
  obtain ⟨sl3,e3⟩:=u b _ (k b _ e2) nf
  exact ⟨sl3,e3⟩
end
section
variable {prog:Program} {w:World} {A:Around} {E:Value->Shared->Prop} {s:Shared} {K:W.Frag} {x D:Addr} {ox:Obj} {od:Option Obj}
structure ExcK (K:W.Frag) (D:Addr):Prop where
 ga:PySem.W.findIn K (.ref D) "__getattribute__" = some (some (.builtin "BaseException.__getattribute__"))
 gn:PySem.W.findIn K (.ref D) "__getattr__" = some none
 fo:∀ od,PySem.W.findObj K D od "__class__" = some (.bind (.builtin "getset_descriptor.__get__") (.builtin "object.__class__"))
 mo:PySem.W.mroIn K D (.type "object")=some true
 mb:PySem.W.mroIn K D (.type "BaseException")=some true
theorem qBv {Q:Option Value->Shared->Prop} (C:ExcK K D) (X:K.In s.heap) (I:PySem.W.InstAt s.heap x ox D od) (h:Q (some (.ref D)) { s with toks:=s.toks + 1 }):wpAny (model prog w) A (getAttr? (.ref x) "__class__") Q E s:=by
 obtain ⟨hh,g,d,t,os⟩:=s
 have L0:=I.type (M:=model prog w)
 have L1:=PySem.W.looks_findIn (M:=model prog w) X C.ga
 have L2:=PySem.W.looks_findIn (M:=model prog w) X C.gn
 have L3:=PySem.W.looks_find (M:=model prog w) X I (C.fo od)
 have L4:=PySem.W.looks_mroIn (M:=model prog w) X C.mb
 have LI:PySem.W.Looks (model prog w) hh (isInstance (.ref x) (.type "BaseException")) true:=L0.andThen L4
 have f3:=F.attr_ValueError.ga.bind (.ref x)
 unfold getAttr? getAttrBy? getAttrBy
 refine wpAny_bind (wpAny_mkText (wpAny_bind (wpAny_attempt (wpAny_holding (wpAny_bind (L0.at (wpAny_bind (L1.at ?_))))))))
 show wpAny _ _ (getAttrByItsOwn _ _ _ _ _ _) _ _ _
 unfold getAttrByItsOwn
 refine wpAny_bind (L2.at (wpAny_bind (wpAny_attempt (wpAny_holding ?_))))
 show wpAny _ _ (boundAndCalled _ _ _) _ _ _
 unfold boundAndCalled
 refine wpAny_bind (wpAny_of_eq f3 ?_)
 refine wpAny_call (codeAny_call_builtin F.attr_ValueError.ga.plain F.entry_bexc_ga ?_)
 have hk:builtinKind "BaseException.__getattribute__" = some .slot:=by decide +kernel
 have hsp:splitId "BaseException.__getattribute__" = some ("BaseException","__getattribute__"):=by decide +kernel
 have ha:=F.args_bexc_ga (.ref x) (.str "__class__" t)
 simp only [checkBuiltinCall,hk,hsp]
 refine wpAny_bind (LI.at ?_)
 rw [if_neg (show ¬ ((!true)=true) by decide)]
 refine wpAny_of_eq (a:=()) ha ?_
 show wpAny _ A.in1 (Builtin.«object.__getattribute__» ⟨[.ref x,.str "__class__" t],[]⟩) _ _ _
 unfold Builtin.«object.__getattribute__»
 refine wpAny_bind (wpAny_pure ?_)
 refine wpAny_bind (wpAny_pure ?_)
 refine wpAny_bind (L0.at (wpAny_bind (L3.at ?_)))
 show wpAny _ A.in1 (holding [Value.builtin "object.__class__"] (call (.builtin "getset_descriptor.__get__") [.builtin "object.__class__",.ref x,.ref D]) >>= ret) _ _ _
 refine wpAny_bind (wpAny_holding (wpAny_call (PySem.W.class_get X I C.mo ?_)))
 exact wpAny_pure (wpAny_pure (wpAny_pure h))
end
theorem qE5 {K:W.Frag} {h:Heap} {C:Addr} {bmB:List Value} {newId:String} (X:K.In h) (q:PySem.W.excIn K C bmB newId=true) :
  ∃ bm N nm qn bs hd sn sb ab co dd k0 k1 k2 k3 k5 mN,h.get? C=some (excClassObj nm qn C N bs bm hd sn sb ab co dd k0 k1 k2 k3 k5 newId)∧h.Ns N mN∧mN "__init__" = none∧OwnTail h bmB bm:=by
 unfold PySem.W.excIn at q
 split at q
 ·rename_i dd cd sl ho
  split at q
  ·rename_i C' bm k0 k1 k2 k3 n k5 hm hs
   simp only [Bool.and_eq_true,beq_iff_eq,Bool.not_eq_true'] at q
   obtain ⟨⟨⟨⟨⟨e1,e2⟩,e3⟩,e4⟩,e5⟩,e6⟩:=q
   subst e1;subst e2
   cases cd with
   |mk nm bs mro ns qn hd sn sb ab co del =>
    have hm:mro=_:=hm
    have e3:del=false:=e3
    subst hm;subst e3
    have hsl:sl = #[k0,k1,k2,k3,some (.builtin n),k5]:=by cases sl with |mk l=>rw [show l=_ from hs]
    subst hsl
    exact ⟨bm,ns,nm,qn,bs,hd,sn,sb,ab,co,dd,k0,k1,k2,k3,k5,_,X _ _ ho,.of_isNs (PySem.W.isNs_of_in X e5),PySem.W.nsMap_none_of_in X e5 e6,PySem.W.tail_of_in X e4⟩
  ·cases q
 ·cases q
def Rz (X:Cx) (E:XK):Prop := ∀ (pins:List (Addr×Obj)) (σ:L2.St) (H:Hp) (s:Shared) (h':Heap) (e:Addr) (oe:Obj) (vs:Array Value),L2.Inv X pins σ H s->(∀ b o,s.heap.get? b=some o->h'.get? b=some o)->s.heap.get? e=none ->
 h'.get? e=some oe->oe.data = .fields vs->vs[1]? = some Value.none->vs[2]? = some Value.none->E oe.cls oe.dict H->X.xe (.ref e) { s with heap:=h' }
theorem qFh {P:Program} {w:World} {K:W.Frag} {mg:Str->Option Value} {base:Heap} {N:List Str} {qual:Str} {scope:Scope} {f:Addr} {cd:Value} {A:Around} {outer:List Env} {s₀:Shared} {H₀:Hp} {E:XK} :
  Rz (wU (CXF P w) P w K mg base N qual scope f cd A outer s₀ H₀ E) E:=fun _ _ _ _ _ _ _ _ I k hn g1 g2 g3 g4 q=>qB8 (H1:=H₀) (B0:=base) I k hn g1 g2 g3 g4 q
abbrev bmV:List Value:=[.type "ValueError",.type "Exception",.type "BaseException",.type "object"]
section
variable {X:Cx} {E:XK} {x:Str} {C:Addr} {e:Expr} {es:List Expr} {t:TA} {np cpos pos:Pos}
theorem qDF (hz:Rz X E) (hc:X.calm=true) (hg:Gl X x) (hm:X.mg x=some (.ref C)) (q:PySem.W.excIn X.K C bmV "ValueError.__new__" = true) (ha:PA X (e::es) t) (hdb:(x==("__debug__":Str))=false:=by decide)
  (he:starEach (e::es) X.env=(false,eval e X.env)::starEach es X.env:=by rfl) (hpl:(backTo cpos (starEach es X.env)).any (·.1)=false:=by rfl) :
  PS X (.Raise (some (.Call (.Name x np) (e::es) [] cpos)) none pos) (fun D σ H=>t σ H fun vs H1=>vs.length≤sizeLine∧E (.ref C) none H1):=by
 intro pins s σ H D I h
 obtain ⟨bm,N,nm,qn,bs,hd,sn,sb,ab,co,dd,k0,k1,k2,k3,k5,mN,o1,o2,o3,o4⟩:=qE5 I.ok.mod.kin q
 refine wpAny_Raise_call_subU (C:=C) (nm:=nm) (q:=qn) (N:=N) (bs:=bs) (bm:=bm) (hdct:=hd) (sn:=sn) (sub:=sb) (ab:=ab) (col:=co) (dd:=dd) (k0:=k0) (k1:=k1) (k2:=k2) (k3:=k3) (k5:=k5) (mN:=mN)
  F.excBase_ValueError F.excBase_ValueError.hasB F.excBase_ValueError (o4.hasType F.excBase_ValueError.hasBase) (I.ok.hd hc) (by rw [he];show (false || (backTo cpos (starEach es X.env)).any (·.1))=false;rw [hpl];rfl) o3 (jY I hg hm ⟨rfl,?_⟩ hdb)
 have ha':=ha cpos pins s σ H _ I h
 rw [he] at ha' ⊢
 refine Calls.evalArgs_plain (thn ha' fun us s1 ⟨vs,H1,I1,r1,q1,q2⟩=>⟨rfl,by rw [← r1.length];exact q1,I1.bk _ _ o1,o2.keeps I1.bk,o4.keeps I1.bk,fun h' ea hx => ?_⟩)
 obtain ⟨tt,h1,_,_⟩:=hx.there
 exact hz pins σ H1 s1 h' ea _ _ I1 hx.keeps hx.new h1 rfl rfl rfl q2
end
section
variable {M:Model} {A:Around} {E:Value->Shared->Prop} {K:W.Frag} {h:Heap} {g:Array GenState} {d:Drawn} {t:Nat} {os:OsState} {e Bx C:Addr} {oe:Obj} {dd:Option Addr} {cd:ClassData} {sl:Array (Option Value)} {Q:Bool->Shared->Prop}
theorem JW (X:K.In h) (o1:K.lookup Bx=some ⟨.type "type",dd,.cls cd,sl⟩) (m1:PySem.W.mroIn K Bx (.type "BaseException")=some true) (he:h.get? e=some oe) (hc:oe.cls = .ref C) (m2:PySem.W.mroIn K C (.ref Bx)=some true)
  (hq:Q true ⟨h,g,d,t,os⟩):wpAny M A (excMatches (.ref e) (.ref Bx)) Q E ⟨h,g,d,t,os⟩:=by
 have hB:=X _ _ o1
 have L4:=PySem.W.looks_mroIn (M:=M) X m1
 have L5:=PySem.W.looks_mroIn (M:=M) X m2
 have f:=tc_notTuple
 unfold excMatches
 repeat (first |(with_reducible refine wpAny_loadPart_at he ?_;rw [hc]) |with_reducible refine wpAny_loadPart_at hB ?_ |with_reducible refine L4.at ?_ |with_reducible refine L5.at ?_ |wp_step)
 exact hq
end
def Jd (X:Cx) (pins:List (Addr×Obj)) (xe:Value->Shared->Prop):Cx:={ X with xe:=xe,pn:=X.pn++pins }
def suX (X:Cx) (ea:Addr):Cx:={ X with A:=X.A.mark (some (.ref ea)),calm:=false,xe:=fun _ _=>False }
abbrev qCc:HO := .ext fun _=>True
section
variable {X:Cx} {pins:List (Addr×Obj)} {σ:L2.St} {H:Hp} {s:Shared} {xe:Value->Shared->Prop}
theorem qEf (I:L2.Inv X pins σ H s):L2.Inv (Jd X pins xe) [] σ H s :=
 ⟨⟨I.ok.mod,I.ok.kind,I.ok.glob,I.ok.blt,I.ok.above,I.ok.inj,I.ok.has,I.ok.cab,I.ok.hd,I.ok.frames,I.ok.stk,I.ok.exf,I.ok.bs,I.ok.bsz,I.ok.noex,I.ok.exfs,I.ok.funs,I.ok.frf⟩,I.os,I.bare,I.base,I.loc,I.cell,I.free,I.freeC,
  fun p hp=>I.pin p (by simpa [Jd] using hp),I.hok,I.len,I.hnd⟩
theorem zB {pins':List (Addr×Obj)} (I:L2.Inv (Jd X pins xe) pins' σ H s):L2.Inv X pins σ H s :=
 ⟨⟨I.ok.mod,I.ok.kind,I.ok.glob,I.ok.blt,I.ok.above,I.ok.inj,I.ok.has,I.ok.cab,I.ok.hd,I.ok.frames,I.ok.stk,I.ok.exf,I.ok.bs,I.ok.bsz,I.ok.noex,I.ok.exfs,I.ok.funs,I.ok.frf⟩,I.os,I.bare,I.base,I.loc,I.cell,I.free,I.freeC,
  fun p hp=>I.pin p (List.mem_append_left _ hp),I.hok,I.len,I.hnd⟩
theorem qDG {D:Ends} {f:Flow} (q:SP (Jd X pins xe) [] D f s):SP X pins D f s:=by
 cases f with
 |next=>obtain ⟨a,b,c,d⟩:=q;exact ⟨a,b,zB c,d⟩
 |brk=>obtain ⟨a,b,c,d⟩:=q;exact ⟨a,b,zB c,d⟩
 |cont=>obtain ⟨a,b,c,d⟩:=q;exact ⟨a,b,zB c,d⟩
 |ret u=>obtain ⟨v,a,b,c,d⟩:=q;exact ⟨v,a,b,zB c,d⟩
theorem qBn (I:L2.Inv X pins σ H s) {ea:Addr} {oe:Obj} (hn:H ea=none) (ho:s.heap.get? ea=some oe) (h0:X.s₀.heap.get? ea=none) (hL:ea≠X.env.locals) (hC:∀ x c,X.env.cells.lookup x=some c->c≠ea) (hP:∀ p∈X.pn++pins,p.1≠ea) :
  L2.Inv X pins σ (upd H ea (.frz oe qCc)) s:=by
 have ne:∀ b u,H b=some u->b≠ea:=fun b u e z=>by rw [z,hn] at e;cases e
 have nb:∀ b o,X.s₀.heap.get? b=some o->b≠ea:=fun b o e z=>by rw [z,h0] at e;cases e
 refine ⟨I.ok,I.os,I.bare,⟨I.base.keep,I.base.slot,fun b o e n hx => ?_,I.base.there,fun b xs e => ?_,fun b o u e => ?_,fun b ps e => ?_⟩,I.loc,I.cell,?_,fun x c e => ?_,fun p hp => ?_,fun b u e => ?_,I.len,fun v hv => ?_⟩
 ·rw [qQ (nb b o e)];exact I.base.free b o e n hx
 ·have:=I.base.tups b xs e;rw [qQ (ne b _ this)];exact this
 ·have:=I.base.frzs b o u e;rw [qQ (ne b _ this)];exact this
 ·obtain ⟨m,this⟩:=I.base.tbls b ps e;exact ⟨m,by rw [qQ (ne b _ this)];exact this⟩
 ·rw [qQ (Ne.symm hL)];exact I.free
 ·rw [qQ (hC x c e)];exact I.freeC x c e
 ·obtain ⟨a,b,c,d⟩:=I.pin p hp
  exact ⟨a,by rw [qQ (hP p hp)];exact b,c,d⟩
 ·by_cases hb:b=ea
  ·subst hb
   rw [QD] at e;cases e
   exact ⟨ho,trivial,⟨oe,ho⟩,fun _ _ z _=>z⟩
  ·rw [qQ hb] at e
   exact (I.hok b u e).stay (fun _ _ _ z=>z) (fun c z=>by rw [qQ (ne c _ z)];exact z) fun c xs z=>by rw [qQ (ne c _ z)];exact z
 ·obtain ⟨a,o,u,vs,e1,e2,e3⟩:=I.hnd v hv
  exact ⟨a,o,u,vs,e1,by rw [qQ (ne a _ e2)];exact e2,e3⟩
theorem qBr (I:L2.Inv X pins σ H s) {ea:Addr} {oe:Obj} {u:HO} {vs:Array Value} (h1:H ea=some (.frz oe u)) (h2:oe.data = .fields vs) (h3:vs[2]? = some Value.none):L2.Inv (suX X ea) pins σ H s :=
 ⟨⟨I.ok.mod,I.ok.kind,I.ok.glob,I.ok.blt,I.ok.above,I.ok.inj,I.ok.has,I.ok.cab,(fun z=>absurd (show false=true from z) Bool.false_ne_true),I.ok.frames,I.ok.stk,I.ok.exf,I.ok.bs,I.ok.bsz,I.ok.noex,I.ok.exfs,I.ok.funs,I.ok.frf⟩,I.os,I.bare,I.base,I.loc,I.cell,I.free,I.freeC,
  I.pin,I.hok,I.len,fun v hv=>by
   have hv:some (Value.ref ea)=some v:=hv
   cases hv
   exact ⟨ea,oe,u,vs,rfl,h1,h2,h3⟩⟩
theorem JC {ea:Addr} (ok:X.Ok) (hc:X.calm=true) (I:L2.Inv (suX X ea) pins σ H s):L2.Inv X pins σ H s :=
 ⟨ok,I.os,I.bare,I.base,I.loc,I.cell,I.free,I.freeC,I.pin,I.hok,I.len,HndH.none (ok.hd hc)⟩
theorem qC8 (I:L2.Inv X pins σ H s) (hN:X.N.Nodup) {i:Nat} {n:Str} (hi:X.N[i]? = some n) {m:Str->Option Value} {v:Option Value} {h':Heap} {tk:Nat} (hm:∀ (j:Nat) (x:Str) (w:V),X.N[j]? = some x->σ[j]? = some (some w)->Vis X.env.scope x -> ∃ u,RelV w u∧qHe X.env s.heap m x u)
  (hn:h'.Ns X.env.locals (fun x=>if x=n then v else m x)) (hs:Heap.SameBut X.env.locals s.heap h'):L2.Inv X pins (σ.set i none) H { s with heap:=h',toks:=tk }:=by
 have cne:=I.cne
 refine ⟨I.ok,I.os,I.bare,⟨fun b o e n hb hx => ?_,fun b o e n hb hx => ?_,I.base.free,fun b o e hx => ?_,I.base.tups,I.base.frzs,I.base.tbls⟩,⟨_,hn,fun j y w e1 e2 e3 => ?_⟩,fun y c e => ?_,I.free,I.freeC,fun p hp => ?_,fun b ob e => ?_,by simpa using I.len,I.hnd⟩
 ·exact (hs.2 b (Nat.ne_of_lt (Nat.lt_of_lt_of_le (Heap.lt_size e) I.ok.above))).trans (I.base.keep b o e n hb hx)
 ·obtain ⟨sl,e1⟩:=I.base.slot b o e n hb hx
  exact ⟨sl,(hs.2 b (Nat.ne_of_lt (Nat.lt_of_lt_of_le (Heap.lt_size e) I.ok.above))).trans e1⟩
 ·obtain ⟨o',e1⟩:=I.base.there b o e hx
  exact ⟨o',(hs.2 b (Nat.ne_of_lt (Nat.lt_of_lt_of_le (Heap.lt_size e) I.ok.above))).trans e1⟩
 ·have hj:j≠i:=fun z=>by
   subst z
   by_cases hl:j < σ.length
   ·rw [List.getElem?_set_self hl] at e2;cases e2
   ·rw [List.getElem?_eq_none (by simpa using hl)] at e2;cases e2
  rw [List.getElem?_set_ne (Ne.symm hj)] at e2
  obtain ⟨u,r,l⟩:=hm j y w e1 e2 e3
  refine ⟨u,r,?_⟩
  rcases l with ⟨k,l⟩ |⟨k,c,e,z⟩
  ·refine .inl ⟨k,?_⟩
   have:y≠n:=fun e=>hj (YT hN e1 (e ▸ hi))
   simp [this,l]
  ·exact .inr ⟨k,c,e,z.sameBut hs (cne y c e)⟩
 ·obtain ⟨w',z⟩:=I.cell y c e
  exact ⟨w',z.sameBut hs (cne y c e)⟩
 ·obtain ⟨e,n,ne,nf,d⟩:=I.pin p hp
  exact ⟨(hs.2 p.1 ne).trans e,n,ne,nf,d⟩
 ·refine (I.hok b ob e).stay (fun c w' hc q=>(hs.2 c ?_).trans q) (fun _ q=>q) fun _ _ q=>q
  rintro rfl
  rcases hc with rfl |hc
  ·rw [I.free] at e;cases e
  ·rw [I.free] at hc;cases hc
def qIS (i k:Nat) (ok:Value->Prop) (tb:XK->TS) (th:TS):TS:=fun D σ H=>tb (fun cls dd H1=>ok cls ∧ ∀ (σ':L2.St) (ea:Addr) (oe:Obj),σ'.length=k->H1 ea=none->oe.cls=cls->oe.dict=dd->(∃ vs,oe.data = .fields vs) ->
 th { nx:=fun σ2 H2=>D.nx (σ2.set i none) H2,rt:=D.rt,bk:=fun σ2 H2=>D.bk (σ2.set i none) H2,ct:=fun σ2 H2=>D.ct (σ2.set i none) H2 } (σ'.set i (some (.ref ea))) (upd H1 ea (.frz oe qCc))) D σ H
structure FrameX (X:Cx):Prop where
 stk:X.stack=X.env::X.outer
 fr:X.env.frame=some X.env.locals
 ex:X.ex=[]
theorem got {P:Program} {w:World} {H:Hp} {h:Heap} {a:Addr} {o:HO} (x:ObjOk P w H h a o):∃ u,h.get? a=some u:=by
 cases o with
 |lst xs=>obtain ⟨_,_,_,_,e⟩:=x;exact ⟨_,e⟩
 |tup xs=>obtain ⟨_,_,_,o,e,_⟩:=x;exact ⟨_,e⟩
 |dK kvs=>obtain ⟨_,_,_,_,o,_,_,e,_⟩:=x;exact ⟨_,e⟩
 |dT kvs=>obtain ⟨_,_,_,_,o,_,_,e,_⟩:=x;exact ⟨_,e⟩
 |set S n=>obtain ⟨o,_,_,_,e,_⟩:=x;exact ⟨_,e⟩
 |ins C dx fs=>obtain ⟨_,_,_,e,_⟩:=x;exact ⟨_,e⟩
 |own y=>exact x
 |xd fs=>obtain ⟨_,⟨_,_,_,e,_⟩,_⟩:=x;exact ⟨_,e⟩
 |rng lo hi=>obtain ⟨_,_,_,e⟩:=x;exact ⟨_,e⟩
 |frz ob u=>obtain ⟨e,_⟩:=x;exact ⟨_,e⟩
 |tbl ps=>exact ⟨_,x⟩
 |met f y=>exact ⟨_,x⟩
 |ext φ=>obtain ⟨_,e,_⟩:=x;exact e
theorem qGb {X:Cx} {x n:Str} {i:Nat} {Bx:Addr} {dd:Option Addr} {cd:ClassData} {sl:Array (Option Value)} {body:List Stmt} {b0:Stmt} {suite:List Stmt} {np hpos pos:Pos} {ok:Value->Prop} {tb:XK->TS} {th:TS} (FX:FrameX X) (hc:X.calm=true) (hN:X.N.Nodup) (hi:X.N[i]? = some n) (hl:X.env.scope.names.lookup n=some .local)
  (hg:Gl X x) (hm:X.mg x=some (.ref Bx)) (o1:X.K.lookup Bx=some ⟨.type "type",dd,.cls cd,sl⟩) (m1:PySem.W.mroIn X.K Bx (.type "BaseException")=some true) (hok:∀ v,ok v -> ∃ C,v = .ref C∧PySem.W.mroIn X.K C (.ref Bx)=some true)
  (hb:∀ (pins:List (Addr×Obj)) (xe:Value->Shared->Prop) (E':XK),zn (CXF X.prog X.w) (Jd X pins xe) E'->PSs (Jd X pins xe) body (tb E')) (hh:∀ ea,PSs (suX X ea) (b0::suite) th) (hdb:(x==("__debug__":Str))=false:=by decide) :
  PS X (.Try body [.ExceptHandler (some (.Name x np)) (some n) (b0::suite) hpos] [] [] pos) (qIS i X.N.length ok tb th):=by
 intro pins s σ H D I h
 refine wpAny_Try_except ?_
 generalize hE:(fun (cls:Value) (dd:Option Addr) (H1:Hp)=>ok cls ∧ ∀ (σ':L2.St) (ea:Addr) (oe:Obj),σ'.length=X.N.length->H1 ea=none->oe.cls=cls->oe.dict=dd->(∃ vs,oe.data = .fields vs) ->
  th { nx:=fun σ2 H2=>D.nx (σ2.set i none) H2,rt:=D.rt,bk:=fun σ2 H2=>D.bk (σ2.set i none) H2,ct:=fun σ2 H2=>D.ct (σ2.set i none) H2 } (σ'.set i (some (.ref ea))) (upd H1 ea (.frz oe qCc)))=E'
 have h:tb E' D σ H:=by rw [← hE];exact h
 refine wpAny_mono (hb pins _ E' ?_ [] s σ H D (qEf I) h) (fun f s1 q => ?_) fun e s1 q=>q
 rotate_left
 ·have q:=qDG q
  cases f with
  |next=>exact wpAny_execs_nil q
  |brk=>exact q
  |cont=>exact q
  |ret u=>exact q
 ·intro pins' σ' H' s1 e s2 J c
  obtain ⟨ea,cls,d2,B,H1,rfl,fl,hok1,os,bare,un,sl1,qE⟩:=c
  have J':=zB J
  rw [← hE] at qE
  obtain ⟨q1,q2⟩:=qE
  obtain ⟨C,rfl,m2⟩:=hok cls q1
  have fr':X.A.frames=some (X.env::X.outer):=by rw [← FX.stk];exact I.ok.frames
  have fl':Fly B (X.env::X.outer) ea (.ref C) d2 .none s2.heap:=by rw [← FX.stk];exact fl
  have un:UnB (frs X.stack) H' H1 s1.heap B:=un
  have sl1:∀ b∈frs X.stack,∀ o,s1.heap.get? b=some o -> ∃ sl,s2.heap.get? b=some { o with slots:=sl }:=sl1
  have stk1:s1.heap.FunFrames X.base X.stack:=J'.stack
  have baseB:∀ b o,X.base.get? b=some o->B.get? b=some o:=fun b o z=>un.keep b o (J'.bs b o z).1 (J'.bs b o z).2 fun hm=>by rw [(stk1.mem hm).1] at z;cases z
  refine Yu (A:=X.A) fr' FX.fr fl' fun h4 x4 u4=>qAw x4 fun h5 x5 u5 => ?_
  have ns5:h5.Ns X.env.globals X.mg:=by rw [I.ok.glob];exact I.mod.glob.keeps fun b o z=>x5.1 b o (baseB b o z)
  have k5:X.K.In h5:=I.ok.mod.kin.keeps fun b o z=>x5.1 b o (baseB b o z)
  obtain ⟨_,_,_,oe5,_,_,_,_,he5,hc5,_⟩:=id x5
  refine wpAny_handleBy_cons (codeAny_handlers_test (Calls.Name_function_global I.ok.kind hg (Calls.loadGlobal_global ns5 hm ?_) hdb)) (by intro q;cases q)
  refine JW k5 o1 m1 he5 hc5 m2 (codeAny_handlers_suite_as (qAw x5 fun h6 x6 u6 => ?_))
  have u26:s2.heap.UpToSlots h6:=(u4.trans u5).trans u6
  obtain ⟨k1,k2,k3,oe,vs,T,oT,ts,g1,g2,g3,g4,g5,g6,g7⟩:=x6
  have nf:∀ b∈frs X.stack,∀ o,s1.heap.get? b=some o -> ∀ vs,o.data ≠ .fields vs:=fun b hb o z=>by
   obtain ⟨_,o2,ho2,nf⟩:=stk1.mem hb
   rw [z] at ho2;cases ho2;exact nf
  have slN:∀ b∈frs X.stack,∀ o,s1.heap.get? b=some o -> ∃ sl,h6.get? b=some { o with slots:=sl }:=fun b hb o z=>by
   obtain ⟨sl2,z2⟩:=sl1 b hb o z
   obtain ⟨sl3,z3⟩:=u26 b _ z2 (nf b hb o z)
   exact ⟨sl3,z3⟩
  have I6:L2.Inv X pins σ' H1 { s2 with heap:=h6 }:=J'.call' (s':={ s2 with heap:=h6 }) (ch:=[]) os (CXF.un (P:=X.prog) (w:=X.w) (s:=s1) (s':={ s2 with heap:=h6 }) k1 un slN) (hok1.kept k1) bare fun b z=>by cases z
  have neW:∀ b o,s1.heap.get? b=some o->b≠ea:=fun b o z hz=>by
   subst hz
   by_cases hb:b∈frs X.stack
   ·obtain ⟨sl2,z2⟩:=slN b hb o z
    rw [g1] at z2;cases z2
    exact nf b hb o z vs g4
   ·obtain ⟨o',z'⟩:=un.there b o z hb
    rw [k2] at z';cases z'
  have hn1:H1 ea=none:=by
   cases z:H1 ea with
   |none=>rfl
   |some u=>obtain ⟨o',z'⟩:=got (hok1 ea u z);rw [k2] at z';cases z'
  have I7:L2.Inv X pins σ' (upd H1 ea (.frz oe qCc)) { s2 with heap:=h6 }:=by
   refine qBn I6 hn1 g1 ?_ ?_ (fun x c z => ?_) fun p hp => ?_
   ·cases z:X.s₀.heap.get? ea with
    |none=>rfl
    |some o=>obtain ⟨o',z'⟩:=J'.base.there ea o z (by rw [FX.ex];simp);exact (neW ea o' z' rfl).elim
   ·obtain ⟨m,⟨o,_,_,z,_⟩,_⟩:=J'.loc
    exact Ne.symm (neW _ o z)
   ·obtain ⟨v,o,z',_⟩:=J'.cell x c z
    exact neW c o z'
   ·exact neW p.1 p.2 (J'.pin p hp).1
  have I8:=qBr I7 QD g4 g6
  refine yC (X:=suX X ea) (v := .ref ea) I8 hN hi (.inl hl) (show RelV (.ref ea) (.ref ea) from rfl) (fun s7 I9 => ?_) (.inr hl)
  have hlen:σ'.length=X.N.length:=J'.len
  refine wpAny_noRaise (thn (hh ea pins s7 _ _ _ I9 (q2 σ' ea oe hlen hn1 g2 g3 ⟨vs,g4⟩)) fun f s8 q => ?_)
  have hp:(X.env.scope.kind == .class || (X.env.scope.kind == .module&&X.env.locals != X.env.globals))=false:=by rw [I.ok.kind];rfl
  have goes:∀ {σ8:L2.St} {H8:Hp} {Q:Shared->Prop},L2.Inv (suX X ea) pins σ8 H8 s8->(∀ s9,L2.Inv X pins (σ8.set i none) H8 s9->Q s9)->wpAny (model X.prog X.w) X.A (do bindName X.env n .none;unbindBehindTheSuite X.env n hpos) (fun _ s9=>Q s9) X.xe s8:=fun {σ8 H8 Q} I8 hQ=>by
   have I9:=JC I.ok hc I8
   obtain ⟨m,hn,hl'⟩:=id I9.loc
   exact wpAny_nameGoes_keeps hl hn hp fun h9 v hn9 hs9=>hQ _ (qC8 I9 hN hi hl' hn9 hs9)
  cases f with
  |next=>obtain ⟨σ8,H8,I8,q8⟩:=q;exact goes I8 fun s9 I9=>⟨_,H8,I9,q8⟩
  |brk=>obtain ⟨σ8,H8,I8,q8⟩:=q;exact goes I8 fun s9 I9=>⟨_,H8,I9,q8⟩
  |cont=>obtain ⟨σ8,H8,I8,q8⟩:=q;exact goes I8 fun s9 I9=>⟨_,H8,I9,q8⟩
  |ret u=>obtain ⟨v,σ8,H8,I8,r8,q8⟩:=q;exact goes I8 fun s9 I9=>⟨v,_,H8,I9,r8,q8⟩
end
def ZV (A:Around):List Addr:=match A.handled with
 |some (.ref ea)=>[ea]
 |_=>[]
theorem Hnd.frame {A:Around} {h h':Heap} (x:Hnd A h) (k:∀ b∈ZV A,∀ o,h.get? b=some o->h'.get? b=some o):Hnd A h':=fun v hv=>by
 obtain ⟨ea,oe,vs,e1,e2,e3⟩:=x v hv
 subst e1
 exact ⟨ea,oe,vs,rfl,k ea (by unfold ZV;rw [hv];simp) oe e2,e3⟩
theorem qFq {A:Around} {I:Addr} (hI:∀ ea∈ZV A,ea≠I):∀ v,A.handled=some v->v ≠ .ref I:=fun v hv z=>by
 subst z
 exact hI I (by unfold ZV;rw [hv];simp) rfl
theorem qAe {prog:Program} {w:World} {A:Around} (I ax:Addr) (hne:ax≠I) (items:Array Value) (hI:∀ ea∈ZV A,ea≠I) :
  Walks prog w A I (I::ax::ZV A) [I] items.size (fun i v=>items[i]? = some v) (fun i h=>(h.IsListIter I ax i∧h.IsList ax items)∧Hnd A h) where
 sub:=fun b hb=>by simp at hb;simp [hb]
 frame:=fun _ _ _ st hk=>⟨⟨st.1.1.at fun o e=>hk I (by simp) o e,st.1.2.at fun o e=>hk ax (by simp) o e⟩,st.2.frame fun b hb o e=>hk b (by simp [hb]) o e⟩
 item:=fun i s Q E hi st hQ=>wpAny_pyNext_list_item st.1.1 st.1.2 (x:=items[i]) (by simp [hi]) fun h' z1 z2 =>
  hQ _ h' s.toks (by simp [hi]) ⟨⟨z1,st.1.2.extBut z2.extBut hne⟩,st.2.frame fun b hb o e=>(z2.2 b (hI b hb)).trans e⟩ fun b o hb e=>z2.extBut b o (fun h=>hb (by simp [h])) e
 done:=fun s Q E st hQ=>list_end st.2 st.1.1 st.1.2 (by simp) (qFq hI) fun h' z=>hQ h' s.toks fun b o hb e=>z b o (fun h=>hb (by simp [h])) e
 self:=fun _ _ _ _ st hQ=>wpAny_pyIter_listiter st.1.1 hQ
theorem JJ {prog:Program} {w:World} {A:Around} (I ax:Addr) (hne:ax≠I) (items:Array Value) (hI:∀ ea∈ZV A,ea≠I) :
  Walks prog w A I (I::ax::ZV A) [I] items.size (fun i v=>items[i]? = some v) (fun i h=>(h.IsTupleIter I ax i∧h.IsTuple ax items)∧Hnd A h) where
 sub:=fun b hb=>by simp at hb;simp [hb]
 frame:=fun _ _ _ st hk=>⟨⟨st.1.1.at fun o e=>hk I (by simp) o e,st.1.2.at fun o e=>hk ax (by simp) o e⟩,st.2.frame fun b hb o e=>hk b (by simp [hb]) o e⟩
 item:=fun i s Q E hi st hQ=>wpAny_pyNext_tuple_item st.1.1 st.1.2 (x:=items[i]) (by simp [hi]) fun h' z1 z2 =>
  hQ _ h' s.toks (by simp [hi]) ⟨⟨z1,st.1.2.extBut z2.extBut hne⟩,st.2.frame fun b hb o e=>(z2.2 b (hI b hb)).trans e⟩ fun b o hb e=>z2.extBut b o (fun h=>hb (by simp [h])) e
 done:=fun s Q E st hQ=>tuple_end st.2 st.1.1 st.1.2 (by simp) (qFq hI) fun h' z=>hQ h' s.toks fun b o hb e=>z b o (fun h=>hb (by simp [h])) e
 self:=fun _ _ _ _ st hQ=>wpAny_pyIter_tupleiter st.1.1 hQ
section
variable {X:Cx} {pins:List (Addr×Obj)} {σ:L2.St} {H:Hp} {s:Shared}
theorem qFU (I:L2.Inv X pins σ H s):∀ ea∈ZV X.A,ea≠s.heap.objs.size:=fun ea hea=>by
 have hd:X.A.handled=some (.ref ea):=by
  unfold ZV at hea
  split at hea
  ·rename_i a ha;rw [List.mem_singleton.mp hea];exact ha
  ·cases hea
 obtain ⟨a,oe,vs,e1,e2,_⟩:=I.hndH _ hd
 cases e1
 exact Nat.ne_of_lt (Heap.lt_size e2)
theorem ZS (I:L2.Inv X pins σ H s) {p:Addr} {its:List Value} (pl:PlainL s.heap p its.toArray) {E:Value->Shared->Prop} {Q:Value->Shared->Prop}
  (h:Walks X.prog X.w X.A.in1 s.heap.objs.size (s.heap.objs.size::p::ZV X.A) [s.heap.objs.size] its.toArray.size (fun i v=>its.toArray[i]? = some v) (fun i h=>(h.IsListIter s.heap.objs.size p i∧h.IsList p its.toArray)∧Hnd X.A.in1 h) ->
   ((s.heap.push { cls := .type "list_iterator",data := .fields #[.ref p,.int 0 0] }).IsListIter s.heap.objs.size p 0∧(s.heap.push { cls := .type "list_iterator",data := .fields #[.ref p,.int 0 0] }).IsList p its.toArray)∧Hnd X.A.in1 (s.heap.push { cls := .type "list_iterator",data := .fields #[.ref p,.int 0 0] }) ->
   (∀ b∈s.heap.objs.size::p::ZV X.A,b < (s.heap.push { cls := .type "list_iterator",data := .fields #[.ref p,.int 0 0] }).objs.size) ->
   (∀ h':Heap,(∀ b o,b ∉ [s.heap.objs.size]->(s.heap.push { cls := .type "list_iterator",data := .fields #[.ref p,.int 0 0] }).get? b=some o->h'.get? b=some o) -> ∀ b o,s.heap.get? b=some o->h'.get? b=some o) ->
   Q (.ref s.heap.objs.size) { s with heap:=s.heap.push { cls := .type "list_iterator",data := .fields #[.ref p,.int 0 0] } }) :
  wpAny (model X.prog X.w) X.A.in1 (pyIter (.ref p)) Q E s:=by
 obtain ⟨ob,po,_⟩:=id pl.isList
 have hlt:p < s.heap.objs.size:=Heap.lt_size po
 refine wpAny_pyIter_list pl.isList (h (qAe _ p (Nat.ne_of_lt hlt) _ (qFU I)) ⟨⟨⟨_,Heap.get?_push_size _ rfl,rfl,rfl⟩,pl.isList.at fun o e=>Heap.get?_push_of_some _ e⟩,?_⟩ (fun b hb => ?_) fun h' k b o e => ?_)
 ·exact Hnd.frame (show Hnd X.A.in1 s.heap from I.hndH) fun b _ o e=>Heap.get?_push_of_some _ e
 ·rw [Heap.size_push]
  rcases List.mem_cons.mp hb with rfl |hb
  ·exact Nat.lt_succ_self _
  ·rcases List.mem_cons.mp hb with rfl |hb
   ·exact Nat.lt_succ_of_lt hlt
   ·have hd:X.A.handled=some (.ref b):=by
     unfold ZV at hb
     split at hb
     ·rename_i a ha;rw [List.mem_singleton.mp hb];exact ha
     ·cases hb
    obtain ⟨a,oe,vs,e1,e2,_⟩:=I.hndH _ hd
    cases e1
    exact Nat.lt_succ_of_lt (Heap.lt_size e2)
 ·exact k b o (by simp;exact Nat.ne_of_lt (Heap.lt_size e)) (Heap.get?_push_of_some _ e)
theorem jP:∀ {bs:List Bool} {us:List Value},Vals (bs.map V.bl) us->us=bs.map Value.bool
 |[],_,.nil=>rfl
 |b::bs,_,.cons r t=>by rw [show _=Value.bool b from r,jP t];rfl
theorem zr:∀ {ns:List Int} {us:List Value} {i:Nat} {v:Value},Vals (ns.map V.int) us->us[i]? = some v -> ∃ t,v=Value.int (ns.getD i 0) t
 |[],_,_,_,.nil,e=>by simp at e
 |n::ns,_,0,_,.cons r t,e=>by simp at e;subst e;exact r
 |n::ns,_,i + 1,v,.cons r t,e=>by simpa using zr (i:=i) t (by simpa using e)
theorem JQ {prog:Program} {w:World} {A:Around} {bs:List Bool}:TruthOf prog w A (fun i v=>(bs.map Value.bool).toArray[i]? = some v) (fun i=>bs.getD i false):=fun i v s Q E hP hQ=>by
 have hP:(bs.map Value.bool).toArray[i]? = some v:=hP
 rw [List.getElem?_toArray,List.getElem?_map] at hP
 cases e:bs[i]? with
 |none=>rw [e] at hP;cases hP
 |some b =>
  rw [e] at hP;cases hP
  have hQ:Q (bs.getD i false) s:=hQ
  rw [List.getD_eq_getElem?_getD,e] at hQ
  exact wpAny_pure hQ
theorem qBz (bs:List Bool):(List.range bs.length).all (fun i=>bs.getD i false)=bs.all id:=by
 induction bs with
 |nil=>rfl
 |cons b bs ih =>
  rw [List.length_cons,List.range_succ_eq_map,List.all_cons,List.all_map,List.all_cons]
  have:(((fun i=>(b::bs).getD i false) ∘ Nat.succ))=fun i=>bs.getD i false:=by funext i;simp
  rw [this,ih];simp
theorem qBV (bs:List Bool):(List.range bs.length).any (fun i=>bs.getD i false)=bs.any id:=by
 induction bs with
 |nil=>rfl
 |cons b bs ih =>
  rw [List.length_cons,List.range_succ_eq_map,List.any_cons,List.any_map,List.any_cons]
  have:(((fun i=>(b::bs).getD i false) ∘ Nat.succ))=fun i=>bs.getD i false:=by funext i;simp
  rw [this,ih];simp
theorem qBp:WH X (.builtin "all") (fun xs H Q => ∃ (p:Addr) (bs:List Bool),xs=[.ref p]∧SqL X.K H p (bs.map V.bl)∧Q (.bl (bs.all id)) H):=by
 intro pins s σ H xs us Q I r h
 obtain ⟨p,bs,rfl,hq,q⟩:=h
 obtain ⟨u,rfl,rx⟩:=ZF r
 cases rx
 obtain ⟨its,r',pl,hz⟩:=I.list hq
 have e:=jP r'
 subst e
 refine call_all_walk (ZS I pl fun W st fp k=>⟨_,_,_,_,_,_,_,rfl,W,st,JQ,fun h' tk hk => ?_⟩)
 rw [show (bs.map Value.bool).toArray.size=bs.length by simp,qBz]
 exact ⟨.bl _,H,I.kept (k h' hk),rfl,q⟩
theorem qCC:WH X (.builtin "any") (fun xs H Q => ∃ (p:Addr) (bs:List Bool),xs=[.ref p]∧SqL X.K H p (bs.map V.bl)∧Q (.bl (bs.any id)) H):=by
 intro pins s σ H xs us Q I r h
 obtain ⟨p,bs,rfl,hq,q⟩:=h
 obtain ⟨u,rfl,rx⟩:=ZF r
 cases rx
 obtain ⟨its,r',pl,hz⟩:=I.list hq
 have e:=jP r'
 subst e
 refine call_any_walk (ZS I pl fun W st fp k=>⟨_,_,_,_,_,_,_,rfl,W,st,JQ,fun h' tk hk => ?_⟩)
 rw [show (bs.map Value.bool).toArray.size=bs.length by simp,qBV]
 exact ⟨.bl _,H,I.kept (k h' hk),rfl,q⟩
theorem zi (ns:List Int):∀ k,k≤ns.length->preSum (fun i=>ns.getD i 0) k=(ns.take k).sum
 |0,_=>by simp [preSum]
 |k + 1,h=>by
  have hk:k < ns.length:=h
  rw [preSum,zi ns k (Nat.le_of_lt hk),List.take_succ_eq_append_getElem hk,List.sum_append]
  simp [List.getD_eq_getElem?_getD,hk]
theorem qBu:WH X (.builtin "sum") (fun xs H Q => ∃ (p:Addr) (ns:List Int),xs=[.ref p]∧SqL X.K H p (ns.map V.int)∧Q (.int ns.sum) H):=by
 intro pins s σ H xs us Q I r h
 obtain ⟨p,ns,rfl,hq,q⟩:=h
 obtain ⟨u,rfl,rx⟩:=ZF r
 cases rx
 obtain ⟨its,r',pl,hz⟩:=I.list hq
 have hl:=r'.length
 refine call_sum_walkAnyS (ZS I pl fun W st fp k=>⟨_,_,_,_,_,_,_,fun i=>ns.getD i 0,rfl,W.toS,st,fp,fun i v hv=>zr r' (by simpa using hv),fun s' t' m => ?_⟩)
 have hsz:its.toArray.size=ns.length:=by rw [List.size_toArray,← hl,List.length_map]
 rw [hsz,zi ns _ (Nat.le_refl _),List.take_length]
 obtain ⟨hh,g,d,t,o⟩:=s'
 have g1:g=s.gens:=m.gens
 have d1:d=s.drawn:=m.drawn
 have o1:o=s.os:=m.os
 subst g1;subst d1;subst o1
 exact ⟨.int _,H,I.kept (k hh fun b o hb e=>m.heap b o hb e),⟨t',rfl⟩,q⟩
end
theorem qCI {K:W.Frag} {x D:Addr} (C:ExcK K D):PySem.W.KitX K (.ref x) (.ref D) (fun h => ∃ ox od,PySem.W.InstAt h x ox D od):=by
 obtain ⟨cd,hcd,_⟩:=Option.bind_eq_some_iff.mp (C.fo none)
 unfold PySem.W.clsIn at hcd
 split at hcd
 ·rename_i c' d' cd' sl' ho
  refine ⟨fun _ _ _ ⟨ox,od,I⟩=>I.type,fun M h X p => ?_,fun h tp dd its n sl X htp => ?_,fun {prog w A E Q s} X ⟨ox,od,I⟩ k=>qBv C X I k⟩
  ·intro A' Q' E' s' k q
   unfold isType loadHead
   exact wpAny_bind (wpAny_loadPart (k _ _ (X _ _ ho)) (wpAny_pure q))
  ·refine Bool.eq_false_iff.mpr fun q => ?_
   have e:D=tp:=Value.ref.inj (beq_iff_eq.mp q)
   subst e
   have z:=(X _ _ ho).symm.trans htp
   cases z
 ·cases hcd
end EX
end
section
namespace EV
open PySem PySem.Spec PyProof.Rows L2
inductive PV where
 |non |bl (b:Bool) |int (i:Int) |str (x:Str) |tup (l:List PV) |lst (l:List PV) |ref (i:Nat) |dct |ty (n:String) |fn (a:Addr) |exc (c:Addr) (fs:List (Str×Int))
inductive SO where
 |l (xs:List PV)
 |d (kvs:List (List L2.Key×PV))
 |z (kvs:List (List L2.Key×PV))
abbrev qC:=List SO
structure Exc where
 cls:Addr
 fs:List (Str×Int)
inductive Rs (α:Type) where
 |ok (a:α) (st:qC) |ex (x:Exc) (st:qC) |no
def Rs.bind {α β:Type} (r:Rs α) (k:α->qC->Rs β):Rs β:=match r with
 | .ok a st=>k a st
 | .ex x st => .ex x st
 | .no => .no
abbrev q9:=List (Option PV)
abbrev FE:=q9->qC->Rs PV
abbrev FA:=q9->qC->Rs (List PV)
abbrev FT:=q9->qC->Rs Bool
inductive RS where
 |nx (e:q9) (st:qC) |rt (v:PV) (st:qC) |bk (e:q9) (st:qC) |ct (e:q9) (st:qC) |ex (x:Exc) (st:qC) |no
abbrev FS:=q9->qC->RS
structure Bz where
 b:List Addr
 z:List Addr
def Bz.out (b:Bz) (a:Addr):Prop:=a ∉ b.b∧a ∉ b.z
def KL (K:W.Frag) (a:Addr) (xs:List V):Prop :=
 ∃ (o:Obj) (its:Array Value) (n:Nat),K.lookup a=some o∧o.cls = .type "list" ∧ o.dict=none∧o.data = .seq its n∧its.size≤sizeLine∧Vals xs its.toList
def KT (K:W.Frag) (a:Addr) (xs:List V):Prop :=
 ∃ (o:Obj) (its:Array Value) (n:Nat),K.lookup a=some o∧o.cls = .type "tuple" ∧ o.data = .seq its n∧its.size≤sizeLine∧Vals xs its.toList
def LA (K:W.Frag) (H:Hp) (b:Bz) (a:Addr) (xs:List V):Prop:=(Rd H a (.lst xs)∧b.out a)∨KL K a xs
def TA' (K:W.Frag) (H:Hp) (b:Bz) (a:Addr) (xs:List V):Prop:=(H a=some (.tup xs)∧b.out a)∨KT K a xs
mutual
def RV (K:W.Frag) (H:Hp) (b:Bz):PV->V->Prop
 | .non,v=>v = .non
 | .bl x,v=>v = .bl x
 | .int i,v=>v = .int i
 | .str x,v=>v = .str x
 | .tup l,v => ∃ a xs,v = .ref a∧TA' K H b a xs∧RVs K H b l xs
 | .lst l,v => ∃ a xs,v = .ref a∧LA K H b a xs∧RVs K H b l xs
 | .ref i,v => ∃ a,v = .ref a∧b.b[i]? = some a
 | .dct,v => ∃ a,v = .ref a∧H a=some (.dK [])∧b.out a
 | .ty n,v=>v = .ty n
 | .fn a,v=>v = .ref a
 | .exc c fs,v => ∃ a o u,v = .ref a∧H a=some (.frz o u)∧b.out a∧o.cls = .ref c∧(∃ vs,o.data = .fields vs)∧((fs=[]∧o.dict=none) ∨ ∃ d,o.dict=some d∧H d=some (.xd (fs.map fun p=>(p.1,V.int p.2)))∧b.out d)
def RVs (K:W.Frag) (H:Hp) (b:Bz):List PV->List V->Prop
 |[],xs=>xs=[]
 |p::ps,xs => ∃ x r,xs=x::r∧RV K H b p x∧RVs K H b ps r
end
def SOk (K:W.Frag) (H:Hp) (b:Bz):SO->HO->Prop
 | .l xs,o => ∃ vs,o = .lst vs∧RVs K H b xs vs
 | .d kvs,o => ∃ vs,o = .dT vs∧kvs.map (·.1)=vs.map (·.1)∧RVs K H b (kvs.map (·.2)) (vs.map (·.2))
 | .z kvs,o => ∃ od vs,o = .frz od (.dT vs)∧kvs.map (·.1)=vs.map (·.1)∧RVs K H b (kvs.map (·.2)) (vs.map (·.2))
structure SR (K:W.Frag) (H:Hp) (b:Bz) (st:qC):Prop where
 len:b.b.length=st.length
 nd:b.b.Nodup
 at_:∀ (i:Nat) (x:SO),st[i]? = some x -> ∃ a o,b.b[i]? = some a∧H a=some o∧SOk K H b x o
 zo:∀ a∈b.z,∃ xs,H a=some (.lst xs)
 zb:∀ a∈b.z,a ∉ b.b
structure WE (H:Hp) (b:Bz) (H':Hp) (b':Bz):Prop where
 more:∃ n,b'.b=b.b++n ∧ ∀ a∈n,H a=none
 zm:∃ y,b'.z=y++b.z ∧ ∀ a∈y,H a=none
 keep:∀ a o,H a=some o->b.out a->H' a=some o
 dom:∀ a o,H a=some o -> ∃ o',H' a=some o'
theorem WE.refl (H:Hp) (b:Bz):WE H b H b:=⟨⟨[],by simp,by simp⟩,⟨[],rfl,by simp⟩,fun _ _ h _=>h,fun _ o h=>⟨o,h⟩⟩
theorem WE.none_of {H H':Hp} {b b':Bz} (e:WE H b H' b') {a:Addr} (h:H' a=none):H a=none:=by
 cases q:H a with
 |none=>rfl
 |some o=>obtain ⟨o',e'⟩:=e.dom a o q;rw [h] at e';cases e'
theorem WE.not_in {H H':Hp} {b b':Bz} (e:WE H b H' b') {a:Addr} {o:HO} (h:H a=some o) (hn:b.out a):b'.out a:=by
 obtain ⟨n,hb,hh⟩:=e.more
 obtain ⟨y,hz,hy⟩:=e.zm
 refine ⟨fun hm => ?_,fun hm => ?_⟩
 ·rw [hb] at hm
  rcases List.mem_append.mp hm with hm |hm
  ·exact hn.1 hm
  ·rw [hh a hm] at h;cases h
 ·rw [hz] at hm
  rcases List.mem_append.mp hm with hm |hm
  ·rw [hy a hm] at h;cases h
  ·exact hn.2 hm
theorem WE.trans {H H1 H2:Hp} {b b1 b2:Bz} (e:WE H b H1 b1) (f:WE H1 b1 H2 b2):WE H b H2 b2:=by
 obtain ⟨n,hn,hh⟩:=e.more
 obtain ⟨m,hm,hk⟩:=f.more
 obtain ⟨y,hz,hy⟩:=e.zm
 obtain ⟨x,hx,hw⟩:=f.zm
 refine ⟨⟨n++m,by rw [hm,hn,List.append_assoc],fun a ha => ?_⟩,⟨x++y,by rw [hx,hz,List.append_assoc],fun a ha => ?_⟩,fun a o h hb=>f.keep a o (e.keep a o h hb) (e.not_in h hb),fun a o h => ?_⟩
 ·rcases List.mem_append.mp ha with ha |ha
  ·exact hh a ha
  ·exact e.none_of (hk a ha)
 ·rcases List.mem_append.mp ha with ha |ha
  ·exact e.none_of (hw a ha)
  ·exact hy a ha
 ·obtain ⟨o',h'⟩:=e.dom a o h
  exact f.dom a o' h'
theorem WE.ix {H H':Hp} {b b':Bz} (e:WE H b H' b') {i:Nat} {a:Addr} (h:b.b[i]? = some a):b'.b[i]? = some a:=by
 obtain ⟨n,hb,_⟩:=e.more
 have hi:i < b.b.length:=(List.getElem?_eq_some_iff.mp h).1
 rw [hb,List.getElem?_append_left hi];exact h
theorem WE.new {H:Hp} {b:Bz} {p:Addr} {o:HO} (h:H p=none):WE H b (upd H p o) b :=
 ⟨⟨[],by simp,by simp⟩,⟨[],rfl,by simp⟩,fun a u e _=>by rw [qQ (qO e h)];exact e,fun a u e=>⟨u,by rw [qQ (qO e h)];exact e⟩⟩
theorem WE.hide {H:Hp} {b:Bz} {p:Addr} {o:HO} (h:H p=none):WE H b (upd H p o) ⟨b.b,p::b.z⟩ :=
 ⟨⟨[],by simp,by simp⟩,⟨[p],rfl,fun a ha=>by rw [List.mem_singleton.mp ha];exact h⟩,fun a u e _=>by rw [qQ (qO e h)];exact e,fun a u e=>⟨u,by rw [qQ (qO e h)];exact e⟩⟩
theorem WE.wr {H:Hp} {b:Bz} {p:Addr} {o:HO} (h:p∈b.b∨p∈b.z):WE H b (upd H p o) b :=
 ⟨⟨[],by simp,by simp⟩,⟨[],rfl,by simp⟩,fun a u e hb=>by rw [qQ (fun z=>h.elim (fun q=>hb.1 (by rw [z];exact q)) fun q=>hb.2 (by rw [z];exact q))];exact e,fun a u e=>by
  by_cases hz:a=p
  ·exact ⟨o,by rw [hz];exact QD⟩
  ·exact ⟨u,by rw [qQ hz];exact e⟩⟩
theorem Rd.some_of {H:Hp} {a:Addr} {u:HO} (h:Rd H a u):∃ o,H a=some o:=h.elim (fun h=>⟨_,h⟩) fun ⟨_,h⟩=>⟨_,h⟩
theorem Rd.wext {H H':Hp} {b b':Bz} {a:Addr} {u:HO} (e:WE H b H' b') (h:Rd H a u∧b.out a):Rd H' a u∧b'.out a:=by
 obtain ⟨o,ho⟩:=Rd.some_of h.1
 refine ⟨?_,e.not_in ho h.2⟩
 rcases h.1 with q |⟨o',q⟩
 ·exact .inl (e.keep _ _ q h.2)
 ·exact .inr ⟨o',e.keep _ _ q h.2⟩
theorem LA.wext {K:W.Frag} {H H':Hp} {b b':Bz} {a:Addr} {xs:List V} (e:WE H b H' b') (h:LA K H b a xs):LA K H' b' a xs:=h.elim (fun h => .inl (Rd.wext e h)) .inr
theorem TA'.wext {K:W.Frag} {H H':Hp} {b b':Bz} {a:Addr} {xs:List V} (e:WE H b H' b') (h:TA' K H b a xs):TA' K H' b' a xs:=h.elim (fun h => .inl ⟨e.keep _ _ h.1 h.2,e.not_in h.1 h.2⟩) .inr
theorem LA.sq {K:W.Frag} {H:Hp} {b:Bz} {a:Addr} {xs:List V} (h:LA K H b a xs):SqL K H a xs:=h.elim (fun h => .inl h.1) .inr
theorem TA'.sq {K:W.Frag} {H:Hp} {b:Bz} {a:Addr} {xs:List V} (h:TA' K H b a xs):SqT K H a xs:=h.elim (fun h => .inl (.inl h.1)) .inr
mutual
theorem RV.wext {K:W.Frag} {H H':Hp} {b b':Bz} (e:WE H b H' b'):∀ (p:PV) {v:V},RV K H b p v->RV K H' b' p v
 | .non,_,h=>by unfold RV at h ⊢;exact h
 | .bl _,_,h=>by unfold RV at h ⊢;exact h
 | .int _,_,h=>by unfold RV at h ⊢;exact h
 | .str _,_,h=>by unfold RV at h ⊢;exact h
 | .tup l,_,h=>by
  unfold RV at h ⊢
  obtain ⟨a,xs,h1,h2,h3⟩:=h
  exact ⟨a,xs,h1,h2.wext e,RVs.wext e l h3⟩
 | .lst l,_,h=>by
  unfold RV at h ⊢
  obtain ⟨a,xs,h1,h2,h3⟩:=h
  exact ⟨a,xs,h1,h2.wext e,RVs.wext e l h3⟩
 | .ref i,_,h=>by
  unfold RV at h ⊢
  obtain ⟨a,h1,h2⟩:=h
  exact ⟨a,h1,e.ix h2⟩
 | .ty _,_,h=>by unfold RV at h ⊢;exact h
 | .fn _,_,h=>by unfold RV at h ⊢;exact h
 | .exc _ _,_,h=>by
  unfold RV at h ⊢
  obtain ⟨a,o,u,h1,h2,h3,h4,h6,h5⟩:=h
  exact ⟨a,o,u,h1,e.keep _ _ h2 h3,e.not_in h2 h3,h4,h6,h5.imp id fun ⟨d,q1,q2,q3⟩=>⟨d,q1,e.keep _ _ q2 q3,e.not_in q2 q3⟩⟩
 | .dct,_,h=>by
  unfold RV at h ⊢
  obtain ⟨a,h1,h2,h3⟩:=h
  exact ⟨a,h1,e.keep _ _ h2 h3,e.not_in h2 h3⟩
theorem RVs.wext {K:W.Frag} {H H':Hp} {b b':Bz} (e:WE H b H' b'):∀ (l:List PV) {xs:List V},RVs K H b l xs->RVs K H' b' l xs
 |[],_,h=>by unfold RVs at h ⊢;exact h
 |p::ps,_,h=>by
  unfold RVs at h ⊢
  obtain ⟨x,r,h1,h2,h3⟩:=h
  exact ⟨x,r,h1,RV.wext e p h2,RVs.wext e ps h3⟩
end
structure Ext (H:Hp) (b:Bz) (H':Hp) (b':Bz):Prop extends WE H b H' b' where
 same:b'.z=b.z
 hid:∀ a o,a∈b.z->H a=some o->H' a=some o
 fz:∀ a o u,H a=some (.frz o u)->H' a=some (.frz o u)
theorem Ext.refl (H:Hp) (b:Bz):Ext H b H b:=⟨WE.refl H b,rfl,fun _ _ _ h=>h,fun _ _ _ h=>h⟩
theorem Ext.none_of {H H':Hp} {b b':Bz} (e:Ext H b H' b') {a:Addr} (h:H' a=none):H a=none:=e.toWE.none_of h
theorem Ext.trans {H H1 H2:Hp} {b b1 b2:Bz} (e:Ext H b H1 b1) (f:Ext H1 b1 H2 b2):Ext H b H2 b2:=⟨e.toWE.trans f.toWE,f.same.trans e.same,fun a o ha h=>f.hid a o (by rw [e.same];exact ha) (e.hid a o ha h),fun a o u h=>f.fz a o u (e.fz a o u h)⟩
theorem Ext.new {H:Hp} {b:Bz} {p:Addr} {o:HO} (h:H p=none):Ext H b (upd H p o) b:=⟨WE.new h,rfl,fun a u _ e=>by rw [qQ (qO e h)];exact e,fun a u _ e=>by rw [qQ (qO e h)];exact e⟩
theorem Ext.wr {H:Hp} {b:Bz} {p:Addr} {o:HO} (h:p∈b.b) (hz:∀ a∈b.z,a ∉ b.b) (hf:∀ o u,H p≠some (.frz o u)):Ext H b (upd H p o) b:=⟨WE.wr (.inl h),rfl,fun a u ha e=>by rw [qQ (fun z=>hz a ha (by rw [z];exact h))];exact e,fun a u v e=>by rw [qQ (fun z=>hf u v (by rw [← z];exact e))];exact e⟩
theorem nfz {H:Hp} {p:Addr} {u:HO} (h:H p=some u) (hu:∀ o v,u ≠ .frz o v):∀ o v,H p≠some (.frz o v):=fun o v z=>by rw [h] at z;cases z;exact hu _ _ rfl
theorem qFx {H:Hp} {p:Addr} {xs:List V} (h:H p=some (.lst xs)):∀ o v,H p≠some (.frz o v):=nfz h fun _ _ z=>nomatch z
theorem Ext.of_same {H H':Hp} {b:Bz} (h:Same H H'):Ext H b H' b:=⟨⟨⟨[],by simp,by simp⟩,⟨[],rfl,by simp⟩,fun a o e _=>h a o e,fun a o e=>⟨o,h a o e⟩⟩,rfl,fun a o _ e=>h a o e,fun a o u e=>h a _ e⟩
theorem RV.ext {K:W.Frag} {H H':Hp} {b b':Bz} (e:Ext H b H' b') (p:PV) {v:V} (h:RV K H b p v):RV K H' b' p v:=RV.wext e.toWE p h
theorem RVs.ext {K:W.Frag} {H H':Hp} {b b':Bz} (e:Ext H b H' b') (l:List PV) {xs:List V} (h:RVs K H b l xs):RVs K H' b' l xs:=RVs.wext e.toWE l h
theorem RVs.length {K:W.Frag} {H:Hp} {b:Bz}:∀ {l:List PV} {xs:List V},RVs K H b l xs->l.length=xs.length
 |[],_,h=>by unfold RVs at h;rw [h];rfl
 |p::ps,_,h=>by
  unfold RVs at h
  obtain ⟨x,r,rfl,_,h3⟩:=h
  rw [List.length_cons,List.length_cons,RVs.length h3]
theorem RVs.nil {K:W.Frag} {H:Hp} {b:Bz}:RVs K H b [] []:=by unfold RVs;rfl
theorem RVs.cons {K:W.Frag} {H:Hp} {b:Bz} {p:PV} {ps:List PV} {x:V} {r:List V} (h:RV K H b p x) (t:RVs K H b ps r):RVs K H b (p::ps) (x::r):=by
 unfold RVs;exact ⟨x,r,rfl,h,t⟩
theorem RVs.get {K:W.Frag} {H:Hp} {b:Bz}:∀ {l:List PV} {xs:List V} {i:Nat} {p:PV},RVs K H b l xs->l[i]? = some p -> ∃ x,xs[i]? = some x∧RV K H b p x
 |[],_,_,_,_,h=>by simp at h
 |q::ps,_,0,p,r,h=>by
  unfold RVs at r
  obtain ⟨x,t,rfl,h2,h3⟩:=r
  simp at h;subst h
  exact ⟨x,rfl,h2⟩
 |q::ps,_,i + 1,p,r,h=>by
  unfold RVs at r
  obtain ⟨x,t,rfl,h2,h3⟩:=r
  obtain ⟨y,e,hy⟩:=RVs.get (i:=i) h3 (by simpa using h)
  exact ⟨y,by simpa using e,hy⟩
theorem RVs.append {K:W.Frag} {H:Hp} {b:Bz}:∀ {l m:List PV} {xs ys:List V},RVs K H b l xs->RVs K H b m ys->RVs K H b (l++m) (xs++ys)
 |[],_,_,_,h,g=>by unfold RVs at h;subst h;exact g
 |p::ps,_,_,_,h,g=>by
  unfold RVs at h
  obtain ⟨x,r,rfl,h2,h3⟩:=h
  exact RVs.cons h2 (RVs.append h3 g)
theorem RVs.take {K:W.Frag} {H:Hp} {b:Bz}:∀ {l:List PV} {xs:List V} (n:Nat),RVs K H b l xs->RVs K H b (l.take n) (xs.take n)
 |_,_,0,_=>RVs.nil
 |[],_,_ + 1,h=>by unfold RVs at h;subst h;exact RVs.nil
 |p::ps,_,n + 1,h=>by
  unfold RVs at h
  obtain ⟨x,r,rfl,h2,h3⟩:=h
  exact RVs.cons h2 (RVs.take n h3)
theorem RVs.drop {K:W.Frag} {H:Hp} {b:Bz}:∀ {l:List PV} {xs:List V} (n:Nat),RVs K H b l xs->RVs K H b (l.drop n) (xs.drop n)
 |_,_,0,h=>h
 |[],_,_ + 1,h=>by unfold RVs at h;subst h;exact RVs.nil
 |p::ps,_,n + 1,h=>by
  unfold RVs at h
  obtain ⟨x,r,rfl,h2,h3⟩:=h
  exact RVs.drop n h3
theorem RVs.set {K:W.Frag} {H:Hp} {b:Bz} {p:PV} {x:V} (hp:RV K H b p x):∀ {l:List PV} {xs:List V} (n:Nat),RVs K H b l xs->RVs K H b (l.set n p) (xs.set n x)
 |[],_,_,h=>by unfold RVs at h;subst h;exact RVs.nil
 |q::ps,_,0,h=>by
  unfold RVs at h
  obtain ⟨y,r,rfl,h2,h3⟩:=h
  exact RVs.cons hp h3
 |q::ps,_,n + 1,h=>by
  unfold RVs at h
  obtain ⟨y,r,rfl,h2,h3⟩:=h
  exact RVs.cons h2 (RVs.set hp n h3)
theorem SOk.wext {K:W.Frag} {H H':Hp} {b b':Bz} (e:WE H b H' b'):∀ {x:SO} {o:HO},SOk K H b x o->SOk K H' b' x o
 | .l xs,_,⟨vs,h,r⟩=>⟨vs,h,RVs.wext e xs r⟩
 | .d kvs,_,⟨vs,h,q,r⟩=>⟨vs,h,q,RVs.wext e _ r⟩
 | .z kvs,_,⟨od,vs,h,q,r⟩=>⟨od,vs,h,q,RVs.wext e _ r⟩
theorem SOk.ext {K:W.Frag} {H H':Hp} {b b':Bz} (e:Ext H b H' b') {x:SO} {o:HO} (h:SOk K H b x o):SOk K H' b' x o:=h.wext e.toWE
theorem SR.mem {K:W.Frag} {H:Hp} {b:Bz} {st:qC} (S:SR K H b st) {a:Addr} (h:a∈b.b):∃ o,H a=some o:=by
 obtain ⟨i,hi⟩:=List.getElem?_of_mem h
 have hl:i < b.b.length:=(List.getElem?_eq_some_iff.mp hi).1
 have hs:st[i]? = some (st[i]'(by rw [← S.len];exact hl)):=List.getElem?_eq_getElem _
 obtain ⟨a',o,h1,h2,_⟩:=S.at_ i _ hs
 rw [hi] at h1;cases h1
 exact ⟨o,h2⟩
theorem SR.new_notin {K:W.Frag} {H:Hp} {b:Bz} {st:qC} (S:SR K H b st) {p:Addr} (h:H p=none):b.out p :=
 ⟨fun hm=>(by obtain ⟨o,e⟩:=S.mem hm;rw [h] at e;cases e),fun hm=>(by obtain ⟨o,e⟩:=S.zo p hm;rw [h] at e;cases e)⟩
theorem SR.new {K:W.Frag} {H:Hp} {b:Bz} {st:qC} (S:SR K H b st) {p:Addr} {o:HO} (h:H p=none):SR K (upd H p o) b st :=
 ⟨S.len,S.nd,fun i x hx=>by
  obtain ⟨a,u,h1,h2,h3⟩:=S.at_ i x hx
  exact ⟨a,u,h1,by rw [qQ (qO h2 h)];exact h2,h3.ext (Ext.new h)⟩,fun a ha=>by
  obtain ⟨u,e⟩:=S.zo a ha
  exact ⟨u,by rw [qQ (qO e h)];exact e⟩,S.zb⟩
theorem qHS {b:List Addr} (nd:b.Nodup) {i j:Nat} {x:Addr} (h1:b[i]? = some x) (h2:b[j]? = some x):i=j:=by
 obtain ⟨hi,e1⟩:=List.getElem?_eq_some_iff.mp h1
 obtain ⟨hj,e2⟩:=List.getElem?_eq_some_iff.mp h2
 exact (List.getElem_inj nd).mp (e1.trans e2.symm)
theorem SR.wr {K:W.Frag} {H:Hp} {b:Bz} {st:qC} (S:SR K H b st) {i:Nat} {p:Addr} {x:SO} {o:HO} (hp:b.b[i]? = some p) (hx:SOk K (upd H p o) b x o):SR K (upd H p o) b (st.set i x):=by
 have hm:p∈b.b:=List.mem_of_getElem? hp
 refine ⟨by simp [S.len],S.nd,fun j y hy => ?_,fun a ha => ?_,S.zb⟩
 ·have hl:i < b.b.length:=(List.getElem?_eq_some_iff.mp hp).1
  by_cases hj:j=i
  ·subst hj
   rw [List.getElem?_set_self (by rw [← S.len];exact hl)] at hy
   cases hy
   exact ⟨p,o,hp,QD,hx⟩
  ·rw [List.getElem?_set_ne (Ne.symm hj)] at hy
   obtain ⟨a,u,h1,h2,h3⟩:=S.at_ j y hy
   have hne:a≠p:=fun z=>hj (by subst z;exact qHS S.nd h1 hp)
   exact ⟨a,u,h1,by rw [qQ hne];exact h2,h3.wext (WE.wr (.inl hm))⟩
 ·obtain ⟨u,e⟩:=S.zo a ha
  have hz:a≠p:=fun z=>S.zb a ha (by rw [z];exact hm)
  exact ⟨u,by rw [qQ hz];exact e⟩
theorem SR.wrz {K:W.Frag} {H:Hp} {b:Bz} {st:qC} (S:SR K H b st) {p:Addr} {ys:List V} (hp:p∈b.z):SR K (upd H p (.lst ys)) b st:=by
 refine ⟨S.len,S.nd,fun j y hy => ?_,fun a ha => ?_,S.zb⟩
 ·obtain ⟨a,u,h1,h2,h3⟩:=S.at_ j y hy
  have hne:a≠p:=fun z=>by subst z;exact S.zb a hp (List.mem_of_getElem? h1)
  exact ⟨a,u,h1,by rw [qQ hne];exact h2,h3.wext (WE.wr (.inr hp))⟩
 ·obtain ⟨u,e⟩:=S.zo a ha
  by_cases hz:a=p
  ·exact ⟨ys,by rw [hz];exact QD⟩
  ·exact ⟨u,by rw [qQ hz];exact e⟩
structure Sh (b b':Bz):Prop where
 ix:∀ (i:Nat) (a:Addr),b.b[i]? = some a->b'.b[i]? = some a
 out:∀ a,b.out a->b'.out a
mutual
theorem RV.sh {K:W.Frag} {H:Hp} {b b':Bz} (e:Sh b b'):∀ (p:PV) {v:V},RV K H b p v->RV K H b' p v
 | .non,_,h=>by unfold RV at h ⊢;exact h
 | .bl _,_,h=>by unfold RV at h ⊢;exact h
 | .int _,_,h=>by unfold RV at h ⊢;exact h
 | .str _,_,h=>by unfold RV at h ⊢;exact h
 | .tup l,_,h=>by
  unfold RV at h ⊢
  obtain ⟨a,xs,h1,h2,h3⟩:=h
  exact ⟨a,xs,h1,h2.elim (fun q => .inl ⟨q.1,e.out a q.2⟩) .inr,RVs.sh e l h3⟩
 | .lst l,_,h=>by
  unfold RV at h ⊢
  obtain ⟨a,xs,h1,h2,h3⟩:=h
  exact ⟨a,xs,h1,h2.elim (fun q => .inl ⟨q.1,e.out a q.2⟩) .inr,RVs.sh e l h3⟩
 | .ref i,_,h=>by
  unfold RV at h ⊢
  obtain ⟨a,h1,h2⟩:=h
  exact ⟨a,h1,e.ix i a h2⟩
 | .ty _,_,h=>by unfold RV at h ⊢;exact h
 | .fn _,_,h=>by unfold RV at h ⊢;exact h
 | .exc _ _,_,h=>by
  unfold RV at h ⊢
  obtain ⟨a,o,u,h1,h2,h3,h4,h6,h5⟩:=h
  exact ⟨a,o,u,h1,h2,e.out a h3,h4,h6,h5.imp id fun ⟨d,q1,q2,q3⟩=>⟨d,q1,q2,e.out d q3⟩⟩
 | .dct,_,h=>by
  unfold RV at h ⊢
  obtain ⟨a,h1,h2,h3⟩:=h
  exact ⟨a,h1,h2,e.out a h3⟩
theorem RVs.sh {K:W.Frag} {H:Hp} {b b':Bz} (e:Sh b b'):∀ (l:List PV) {xs:List V},RVs K H b l xs->RVs K H b' l xs
 |[],_,h=>by unfold RVs at h ⊢;exact h
 |p::ps,_,h=>by
  unfold RVs at h ⊢
  obtain ⟨x,r,h1,h2,h3⟩:=h
  exact ⟨x,r,h1,RV.sh e p h2,RVs.sh e ps h3⟩
end
theorem SOk.sh {K:W.Frag} {H:Hp} {b b':Bz} (e:Sh b b'):∀ {x:SO} {o:HO},SOk K H b x o->SOk K H b' x o
 | .l xs,_,⟨vs,h,r⟩=>⟨vs,h,RVs.sh e xs r⟩
 | .d kvs,_,⟨vs,h,q,r⟩=>⟨vs,h,q,RVs.sh e _ r⟩
 | .z kvs,_,⟨od,vs,h,q,r⟩=>⟨od,vs,h,q,RVs.sh e _ r⟩
theorem Sh.bare {b:List Addr} {p:Addr} {z:List Addr}:Sh ⟨b,p::z⟩ ⟨b,z⟩:=⟨fun _ _ h=>h,fun a h=>⟨h.1,fun q=>h.2 (List.mem_cons_of_mem _ q)⟩⟩
theorem Sh.slot {b:List Addr} {p:Addr} {z:List Addr}:Sh ⟨b,p::z⟩ ⟨b++[p],z⟩:=⟨fun i a h=>by
  rw [List.getElem?_append_left (List.getElem?_eq_some_iff.mp h).1];exact h,fun a h=>⟨fun q=>(List.mem_append.mp q).elim h.1 fun q=>h.2 (by rw [List.mem_singleton.mp q];exact List.mem_cons_self),fun q=>h.2 (List.mem_cons_of_mem _ q)⟩⟩
theorem RV.hide {K:W.Frag} {H:Hp} {b z:List Addr} {p:Addr} {o:HO} (hp:H p=none) (q:PV) {v:V} (h:RV K H ⟨b,z⟩ q v):RV K (upd H p o) ⟨b,p::z⟩ q v:=hd q h
where
 outp {a:Addr} {u:HO} (e:H a=some u) (h:Bz.out ⟨b,z⟩ a):Bz.out ⟨b,p::z⟩ a:=⟨h.1,fun q=>(List.mem_cons.mp q).elim (fun q=>by subst q;rw [hp] at e;cases e) h.2⟩
 rdd {a:Addr} {u:HO} (h:Rd H a u∧Bz.out ⟨b,z⟩ a):Rd (upd H p o) a u∧Bz.out ⟨b,p::z⟩ a:=by
  obtain ⟨w,hw⟩:=Rd.some_of h.1
  refine ⟨?_,outp hw h.2⟩
  rcases h.1 with q |⟨o',q⟩
  ·exact .inl (by rw [qQ (qO q hp)];exact q)
  ·exact .inr ⟨o',by rw [qQ (qO q hp)];exact q⟩
 hd:∀ (q:PV) {v:V},RV K H ⟨b,z⟩ q v->RV K (upd H p o) ⟨b,p::z⟩ q v
 | .non,_,h=>by unfold RV at h ⊢;exact h
 | .bl _,_,h=>by unfold RV at h ⊢;exact h
 | .int _,_,h=>by unfold RV at h ⊢;exact h
 | .str _,_,h=>by unfold RV at h ⊢;exact h
 | .tup l,_,h=>by
  unfold RV at h ⊢
  obtain ⟨a,xs,h1,h2,h3⟩:=h
  exact ⟨a,xs,h1,h2.elim (fun q => .inl ⟨by rw [qQ (qO q.1 hp)];exact q.1,outp q.1 q.2⟩) .inr,hds l h3⟩
 | .lst l,_,h=>by
  unfold RV at h ⊢
  obtain ⟨a,xs,h1,h2,h3⟩:=h
  exact ⟨a,xs,h1,h2.elim (fun q => .inl (rdd q)) .inr,hds l h3⟩
 | .ref i,_,h=>by
  unfold RV at h ⊢
  exact h
 | .ty _,_,h=>by unfold RV at h ⊢;exact h
 | .fn _,_,h=>by unfold RV at h ⊢;exact h
 | .exc _ _,_,h=>by
  unfold RV at h ⊢
  obtain ⟨a,o',u,h1,h2,h3,h4,h6,h5⟩:=h
  exact ⟨a,o',u,h1,by rw [qQ (qO h2 hp)];exact h2,outp h2 h3,h4,h6,h5.imp id fun ⟨d,q1,q2,q3⟩=>⟨d,q1,by rw [qQ (qO q2 hp)];exact q2,outp q2 q3⟩⟩
 | .dct,_,h=>by
  unfold RV at h ⊢
  obtain ⟨a,h1,h2,h3⟩:=h
  exact ⟨a,h1,by rw [qQ (qO h2 hp)];exact h2,outp h2 h3⟩
 hds:∀ (l:List PV) {xs:List V},RVs K H ⟨b,z⟩ l xs->RVs K (upd H p o) ⟨b,p::z⟩ l xs
 |[],_,h=>by unfold RVs at h ⊢;exact h
 |q::ps,_,h=>by
  unfold RVs at h ⊢
  obtain ⟨x,r,h1,h2,h3⟩:=h
  exact ⟨x,r,h1,hd q h2,hds ps h3⟩
theorem SR.hide {K:W.Frag} {H:Hp} {b z:List Addr} {st:qC} (S:SR K H ⟨b,z⟩ st) {p:Addr} {ys:List V} (hp:H p=none):SR K (upd H p (.lst ys)) ⟨b,p::z⟩ st:=by
 have hn:=S.new_notin hp
 refine ⟨S.len,S.nd,fun i x hx => ?_,fun a ha => ?_,fun a ha => ?_⟩
 ·obtain ⟨a,u,h1,h2,h3⟩:=S.at_ i x hx
  refine ⟨a,u,h1,by rw [qQ (qO h2 hp)];exact h2,?_⟩
  cases x with
  |l xs =>
   obtain ⟨vs,e1,e2⟩:=h3
   exact ⟨vs,e1,RV.hide.hds hp xs e2⟩
  |d kvs =>
   obtain ⟨vs,e1,e2,e3⟩:=h3
   exact ⟨vs,e1,e2,RV.hide.hds hp _ e3⟩
  |z kvs =>
   obtain ⟨od,vs,e1,e2,e3⟩:=h3
   exact ⟨od,vs,e1,e2,RV.hide.hds hp _ e3⟩
 ·rcases List.mem_cons.mp ha with rfl |ha
  ·exact ⟨ys,QD⟩
  ·obtain ⟨u,e⟩:=S.zo a ha
   exact ⟨u,by rw [qQ (qO e hp)];exact e⟩
 ·rcases List.mem_cons.mp ha with rfl |ha
  ·exact hn.1
  ·exact S.zb a ha
theorem SR.bare {K:W.Frag} {H:Hp} {b z:List Addr} {st:qC} {p:Addr} (S:SR K H ⟨b,p::z⟩ st):SR K H ⟨b,z⟩ st :=
 ⟨S.len,S.nd,fun i x hx=>by
  obtain ⟨a,u,h1,h2,h3⟩:=S.at_ i x hx
  exact ⟨a,u,h1,h2,h3.sh Sh.bare⟩,fun a ha=>S.zo a (List.mem_cons_of_mem _ ha),fun a ha=>S.zb a (List.mem_cons_of_mem _ ha)⟩
theorem SR.slot {K:W.Frag} {H:Hp} {b z:List Addr} {st:qC} {p:Addr} {x:SO} {o:HO} (S:SR K H ⟨b,p::z⟩ st) (hz:p ∉ z) (ho:H p=some o) (hx:SOk K H ⟨b,p::z⟩ x o):SR K H ⟨b++[p],z⟩ (st++[x]):=by
 have hp:p ∉ b:=S.zb p List.mem_cons_self
 refine ⟨by simp [show b.length=st.length from S.len],?_,fun i y hy => ?_,fun a ha=>S.zo a (List.mem_cons_of_mem _ ha),fun a ha hm => ?_⟩
 ·exact List.nodup_append.mpr ⟨S.nd,by simp,fun a ha c hc=>by rw [List.mem_singleton.mp hc];intro z;subst z;exact hp ha⟩
 ·by_cases hi:i < st.length
  ·rw [List.getElem?_append_left hi] at hy
   obtain ⟨a,u,h1,h2,h3⟩:=S.at_ i y hy
   exact ⟨a,u,Sh.slot.ix i a h1,h2,h3.sh Sh.slot⟩
  ·have hi':i=st.length:=by
    have:=(List.getElem?_eq_some_iff.mp hy).1
    rw [List.length_append,List.length_singleton] at this;omega
   subst hi'
   have e1:(st++[x])[st.length]? = some x:=by simp
   rw [e1] at hy;cases hy
   have hl:b.length=st.length:=S.len
   exact ⟨p,o,by show (b++[p])[st.length]? = some p;rw [← hl];simp,ho,hx.sh Sh.slot⟩
 ·rcases List.mem_append.mp hm with q |q
  ·exact S.zb a (List.mem_cons_of_mem _ ha) q
  ·rw [List.mem_singleton.mp q] at ha;exact hz ha
def REnv (K:W.Frag) (H:Hp) (b:Bz) (r:q9) (s:L2.St):Prop:=r.length=s.length ∧ ∀ (i:Nat) (p:PV),r[i]? = some (some p) -> ∃ v,s[i]? = some (some v)∧RV K H b p v
theorem REnv.wext {K:W.Frag} {H H':Hp} {b b':Bz} {r:q9} {s:L2.St} (h:REnv K H b r s) (e:WE H b H' b'):REnv K H' b' r s:=⟨h.1,fun i p q=>by
 obtain ⟨v,h1,h2⟩:=h.2 i p q
 exact ⟨v,h1,RV.wext e p h2⟩⟩
theorem REnv.ext {K:W.Frag} {H H':Hp} {b b':Bz} {r:q9} {s:L2.St} (h:REnv K H b r s) (e:Ext H b H' b'):REnv K H' b' r s:=⟨h.1,fun i p q=>by
 obtain ⟨v,h1,h2⟩:=h.2 i p q
 exact ⟨v,h1,RV.ext e p h2⟩⟩
theorem REnv.set {K:W.Frag} {H:Hp} {b:Bz} {r:q9} {s:L2.St} {p:PV} {v:V} (h:REnv K H b r s) (hv:RV K H b p v) (i:Nat):REnv K H b (r.set i (some p)) (s.set i (some v)):=by
 refine ⟨by simp [h.1],fun j q hq => ?_⟩
 by_cases hj:i=j
 ·subst hj
  have hl:i < r.length:=by
   have:=(List.getElem?_eq_some_iff.mp hq).1
   simpa using this
  rw [List.getElem?_set_self hl] at hq
  cases hq
  exact ⟨v,by rw [List.getElem?_set_self (by rw [← h.1];exact hl)],hv⟩
 ·rw [List.getElem?_set_ne hj] at hq
  obtain ⟨w,h1,h2⟩:=h.2 j q hq
  exact ⟨w,by rw [List.getElem?_set_ne hj];exact h1,h2⟩
def RX (K:W.Frag) (H:Hp) (b:Bz) (x:Exc) (c:Value) (d:Option Addr):Prop :=
 c = .ref x.cls∧((x.fs=[]∧d=none) ∨ ∃ a,d=some a∧H a=some (.xd (x.fs.map fun p=>(p.1,V.int p.2)))∧b.out a)
def XP (K:W.Frag) (E:XK) (H:Hp) (b:Bz) (x:Exc) (st:qC):Prop := ∀ c d H' b',Ext H b H' b'->SR K H' b' st->RX K H' b' x c d->E c d H'
theorem XP.ext {K:W.Frag} {E:XK} {H H1:Hp} {b b1:Bz} {x:Exc} {st:qC} (h:XP K E H b x st) (e:Ext H b H1 b1):XP K E H1 b1 x st:=fun c d H' b' e' S r=>h c d H' b' (e.trans e') S r
def PostE (K:W.Frag) (E:XK) (H:Hp) (b:Bz) (r:Rs PV) (Q:VK):Prop:=match r with
 | .ok p st => ∀ v H' b',Ext H b H' b'->SR K H' b' st->RV K H' b' p v->Q v H'
 | .ex x st=>XP K E H b x st
 | .no=>False
def PostA (K:W.Frag) (E:XK) (H:Hp) (b:Bz) (r:Rs (List PV)) (Q:List V->Hp->Prop):Prop:=match r with
 | .ok ps st => ∀ vs H' b',Ext H b H' b'->SR K H' b' st->RVs K H' b' ps vs->Q vs H'
 | .ex x st=>XP K E H b x st
 | .no=>False
def PostT (K:W.Frag) (E:XK) (H:Hp) (b:Bz) (r:Rs Bool) (Q:Bool->Hp->Prop):Prop:=match r with
 | .ok k st => ∀ H' b',Ext H b H' b'->SR K H' b' st->Q k H'
 | .ex x st=>XP K E H b x st
 | .no=>False
def PostS (K:W.Frag) (E:XK) (H:Hp) (b:Bz) (r:RS) (D:Ends):Prop:=match r with
 | .nx e st => ∀ s H' b',Ext H b H' b'->SR K H' b' st->REnv K H' b' e s->D.nx s H'
 | .bk e st => ∀ s H' b',Ext H b H' b'->SR K H' b' st->REnv K H' b' e s->D.bk s H'
 | .ct e st => ∀ s H' b',Ext H b H' b'->SR K H' b' st->REnv K H' b' e s->D.ct s H'
 | .rt p st => ∀ v H' b',Ext H b H' b'->SR K H' b' st->RV K H' b' p v->D.rt v H'
 | .ex x st=>XP K E H b x st
 | .no=>False
theorem PostE.ext {K:W.Frag} {E:XK} {H H1:Hp} {b b1:Bz} {r:Rs PV} {Q:VK} (h:PostE K E H b r Q) (e:Ext H b H1 b1):PostE K E H1 b1 r Q:=by
 cases r with
 |ok p st=>exact fun v H' b' e'=>h v H' b' (e.trans e')
 |ex x st=>exact XP.ext h e
 |no=>exact h
theorem PostA.ext {K:W.Frag} {E:XK} {H H1:Hp} {b b1:Bz} {r:Rs (List PV)} {Q:List V->Hp->Prop} (h:PostA K E H b r Q) (e:Ext H b H1 b1):PostA K E H1 b1 r Q:=by
 cases r with
 |ok p st=>exact fun v H' b' e'=>h v H' b' (e.trans e')
 |ex x st=>exact XP.ext h e
 |no=>exact h
theorem PostT.ext {K:W.Frag} {E:XK} {H H1:Hp} {b b1:Bz} {r:Rs Bool} {Q:Bool->Hp->Prop} (h:PostT K E H b r Q) (e:Ext H b H1 b1):PostT K E H1 b1 r Q:=by
 cases r with
 |ok p st=>exact fun H' b' e'=>h H' b' (e.trans e')
 |ex x st=>exact XP.ext h e
 |no=>exact h
theorem PostS.ext {K:W.Frag} {E:XK} {H H1:Hp} {b b1:Bz} {r:RS} {D:Ends} (h:PostS K E H b r D) (e:Ext H b H1 b1):PostS K E H1 b1 r D:=by
 cases r with
 |nx p st=>exact fun v H' b' e'=>h v H' b' (e.trans e')
 |bk p st=>exact fun v H' b' e'=>h v H' b' (e.trans e')
 |ct p st=>exact fun v H' b' e'=>h v H' b' (e.trans e')
 |rt p st=>exact fun v H' b' e'=>h v H' b' (e.trans e')
 |ex x st=>exact XP.ext h e
 |no=>exact h
def rd (K:W.Frag) (E:XK) (f:FE):TE:=fun s H Q => ∃ b r st,SR K H b st∧REnv K H b r s∧PostE K E H b (f r st) Q
def rdA (K:W.Frag) (E:XK) (f:FA):L2.TA:=fun s H Q => ∃ b r st,SR K H b st∧REnv K H b r s∧PostA K E H b (f r st) Q
def rdT (K:W.Frag) (E:XK) (f:FT):TT:=fun s H Q => ∃ b r st,SR K H b st∧REnv K H b r s∧PostT K E H b (f r st) Q
def rdS (K:W.Frag) (E:XK) (f:FS):TS:=fun D s H => ∃ b r st,SR K H b st∧REnv K H b r s∧PostS K E H b (f r st) D
abbrev VE (X:Cx) (E:XK) (e:Expr) (f:FE):Prop:=PE X e (rd X.K E f)
abbrev VA (X:Cx) (E:XK) (e:List Expr) (f:FA):Prop:=PA X e (rdA X.K E f)
abbrev VT (X:Cx) (E:XK) (e:Expr) (f:FT):Prop:=PT X e (rdT X.K E f)
abbrev VS (X:Cx) (E:XK) (e:Stmt) (f:FS):Prop:=PS X e (rdS X.K E f)
abbrev VSs (X:Cx) (E:XK) (e:List Stmt) (f:FS):Prop:=PSs X e (rdS X.K E f)
theorem PE.imp {X:Cx} {e:Expr} {t t':TE} (h:PE X e t) (i:∀ s H Q,t' s H Q->t s H Q):PE X e t':=fun pins s σ H Q I q=>h pins s σ H Q I (i _ _ _ q)
theorem PT.imp {X:Cx} {e:Expr} {t t':TT} (h:PT X e t) (i:∀ s H Q,t' s H Q->t s H Q):PT X e t':=fun pins s σ H Q I q=>h pins s σ H Q I (i _ _ _ q)
theorem PA.imp {X:Cx} {e:List Expr} {t t':L2.TA} (h:PA X e t) (i:∀ s H Q,t' s H Q->t s H Q):PA X e t':=fun pos pins s σ H Q I q=>h pos pins s σ H Q I (i _ _ _ q)
theorem PS.imp {X:Cx} {e:Stmt} {t t':TS} (h:PS X e t) (i:∀ D s H,t' D s H->t D s H):PS X e t':=fun pins s σ H D I q=>h pins s σ H D I (i _ _ _ q)
theorem PSs.imp {X:Cx} {e:List Stmt} {t t':TS} (h:PSs X e t) (i:∀ D s H,t' D s H->t D s H):PSs X e t':=fun pins s σ H D I q=>h pins s σ H D I (i _ _ _ q)
theorem PostE.bind {K:W.Frag} {E:XK} {H:Hp} {b:Bz} {r:Rs PV} {k:PV->qC->Rs PV} {Q R:VK} (P:PostE K E H b (r.bind k) Q)
  (h:∀ p st v H1 b1,Ext H b H1 b1->SR K H1 b1 st->RV K H1 b1 p v->PostE K E H1 b1 (k p st) Q->R v H1):PostE K E H b r R:=by
 cases r with
 |ok p st=>exact fun v H1 b1 e S r=>h p st v H1 b1 e S r (PostE.ext (show PostE K E H b (k p st) Q from P) e)
 |ex x st=>exact P
 |no=>exact P
theorem PostE.bindT {K:W.Frag} {E:XK} {H:Hp} {b:Bz} {r:Rs PV} {k:PV->qC->Rs Bool} {Q:Bool->Hp->Prop} {R:VK} (P:PostT K E H b (r.bind k) Q)
  (h:∀ p st v H1 b1,Ext H b H1 b1->SR K H1 b1 st->RV K H1 b1 p v->PostT K E H1 b1 (k p st) Q->R v H1):PostE K E H b r R:=by
 cases r with
 |ok p st=>exact fun v H1 b1 e S r=>h p st v H1 b1 e S r (PostT.ext (show PostT K E H b (k p st) Q from P) e)
 |ex x st=>exact P
 |no=>exact P
theorem PostT.bind {K:W.Frag} {E:XK} {H:Hp} {b:Bz} {r:Rs Bool} {k:Bool->qC->Rs PV} {Q:VK} {R:Bool->Hp->Prop} (P:PostE K E H b (r.bind k) Q)
  (h:∀ p st H1 b1,Ext H b H1 b1->SR K H1 b1 st->PostE K E H1 b1 (k p st) Q->R p H1):PostT K E H b r R:=by
 cases r with
 |ok p st=>exact fun H1 b1 e S=>h p st H1 b1 e S (PostE.ext (show PostE K E H b (k p st) Q from P) e)
 |ex x st=>exact P
 |no=>exact P
theorem PostT.bindT {K:W.Frag} {E:XK} {H:Hp} {b:Bz} {r:Rs Bool} {k:Bool->qC->Rs Bool} {Q R:Bool->Hp->Prop} (P:PostT K E H b (r.bind k) Q)
  (h:∀ p st H1 b1,Ext H b H1 b1->SR K H1 b1 st->PostT K E H1 b1 (k p st) Q->R p H1):PostT K E H b r R:=by
 cases r with
 |ok p st=>exact fun H1 b1 e S=>h p st H1 b1 e S (PostT.ext (show PostT K E H b (k p st) Q from P) e)
 |ex x st=>exact P
 |no=>exact P
theorem PostA.bind {K:W.Frag} {E:XK} {H:Hp} {b:Bz} {r:Rs (List PV)} {k:List PV->qC->Rs PV} {Q:VK} {R:List V->Hp->Prop} (P:PostE K E H b (r.bind k) Q)
  (h:∀ p st v H1 b1,Ext H b H1 b1->SR K H1 b1 st->RVs K H1 b1 p v->PostE K E H1 b1 (k p st) Q->R v H1):PostA K E H b r R:=by
 cases r with
 |ok p st=>exact fun v H1 b1 e S r=>h p st v H1 b1 e S r (PostE.ext (show PostE K E H b (k p st) Q from P) e)
 |ex x st=>exact P
 |no=>exact P
theorem PostE.bindA {K:W.Frag} {E:XK} {H:Hp} {b:Bz} {r:Rs PV} {k:PV->qC->Rs (List PV)} {Q:List V->Hp->Prop} {R:VK} (P:PostA K E H b (r.bind k) Q)
  (h:∀ p st v H1 b1,Ext H b H1 b1->SR K H1 b1 st->RV K H1 b1 p v->PostA K E H1 b1 (k p st) Q->R v H1):PostE K E H b r R:=by
 cases r with
 |ok p st=>exact fun v H1 b1 e S r=>h p st v H1 b1 e S r (PostA.ext (show PostA K E H b (k p st) Q from P) e)
 |ex x st=>exact P
 |no=>exact P
theorem PostA.bindA {K:W.Frag} {E:XK} {H:Hp} {b:Bz} {r:Rs (List PV)} {k:List PV->qC->Rs (List PV)} {Q R:List V->Hp->Prop} (P:PostA K E H b (r.bind k) Q)
  (h:∀ p st v H1 b1,Ext H b H1 b1->SR K H1 b1 st->RVs K H1 b1 p v->PostA K E H1 b1 (k p st) Q->R v H1):PostA K E H b r R:=by
 cases r with
 |ok p st=>exact fun v H1 b1 e S r=>h p st v H1 b1 e S r (PostA.ext (show PostA K E H b (k p st) Q from P) e)
 |ex x st=>exact P
 |no=>exact P
def Rs.bindS {α:Type} (r:Rs α) (k:α->qC->RS):RS:=match r with
 | .ok a st=>k a st
 | .ex x st => .ex x st
 | .no => .no
theorem PostE.bindS {K:W.Frag} {E:XK} {H:Hp} {b:Bz} {r:Rs PV} {k:PV->qC->RS} {D:Ends} {R:VK} (P:PostS K E H b (r.bindS k) D)
  (h:∀ p st v H1 b1,Ext H b H1 b1->SR K H1 b1 st->RV K H1 b1 p v->PostS K E H1 b1 (k p st) D->R v H1):PostE K E H b r R:=by
 cases r with
 |ok p st=>exact fun v H1 b1 e S r=>h p st v H1 b1 e S r (PostS.ext (show PostS K E H b (k p st) D from P) e)
 |ex x st=>exact P
 |no=>exact P
theorem PostT.bindS {K:W.Frag} {E:XK} {H:Hp} {b:Bz} {r:Rs Bool} {k:Bool->qC->RS} {D:Ends} {R:Bool->Hp->Prop} (P:PostS K E H b (r.bindS k) D)
  (h:∀ p st H1 b1,Ext H b H1 b1->SR K H1 b1 st->PostS K E H1 b1 (k p st) D->R p H1):PostT K E H b r R:=by
 cases r with
 |ok p st=>exact fun H1 b1 e S=>h p st H1 b1 e S (PostS.ext (show PostS K E H b (k p st) D from P) e)
 |ex x st=>exact P
 |no=>exact P
def asL (st:qC):PV->Option (List PV)
 | .lst l=>some l
 | .ref i=>match st[i]? with
  |some (.l xs)=>some xs
  |_=>none
 |_=>none
def asT:PV->Option (List PV)
 | .tup l=>some l
 |_=>none
def zM (st:qC) (p:PV):Option (List PV):=match p with
 | .tup l=>some l
 |p=>asL st p
section
variable {K:W.Frag} {H:Hp} {b:Bz} {st:qC} {p:PV} {v:V} {l:List PV}
theorem QX (S:SR K H b st) (r:RV K H b p v) (h:asL st p=some l):∃ a xs,v = .ref a∧SqL K H a xs∧RVs K H b l xs:=by
 cases p with
 |lst m =>
  unfold RV at r
  obtain ⟨a,xs,h1,h2,h3⟩:=r
  have e:m=l:=Option.some.inj h
  subst e
  exact ⟨a,xs,h1,h2.sq,h3⟩
 |ref i =>
  unfold RV at r
  obtain ⟨a,h1,h2⟩:=r
  unfold asL at h
  dsimp only at h
  cases q:st[i]? with
  |none=>rw [q] at h;cases h
  |some o =>
   cases o with
   |l ys =>
    rw [q] at h
    have e:ys=l:=Option.some.inj h
    subst e
    obtain ⟨a',o,e1,e2,vs,e3,e4⟩:=S.at_ i _ q
    rw [h2] at e1;cases e1
    subst e3
    exact ⟨a,vs,h1,SqL.of e2,e4⟩
   |d ys=>rw [q] at h;cases h
   |z ys=>rw [q] at h;cases h
 |_=>cases h
theorem jV (S:SR K H b st) (r:RV K H b p v) (h:zM st p=some l):∃ a xs,v = .ref a∧(SqL K H a xs∨SqT K H a xs)∧RVs K H b l xs:=by
 cases p with
 |tup m =>
  unfold RV at r
  obtain ⟨a,xs,h1,h2,h3⟩:=r
  have e:m=l:=Option.some.inj h
  subst e
  exact ⟨a,xs,h1,.inr h2.sq,h3⟩
 |lst m =>
  obtain ⟨a,xs,h1,h2,h3⟩:=QX S r h
  exact ⟨a,xs,h1,.inl h2,h3⟩
 |ref i =>
  obtain ⟨a,xs,h1,h2,h3⟩:=QX S r h
  exact ⟨a,xs,h1,.inl h2,h3⟩
 |_=>cases h
end
abbrev FL:=q9->qC->Rs (List PV)
def PostN (K:W.Frag) (E:XK) (H:Hp) (b:Bz) (r:Rs (List PV)) (Q:VK):Prop:=match r with
 | .ok l st => ∀ p xs H' b',Ext H b H' b'->H p=none->H' p=some (.lst xs)->p ∉ b'.z->SR K H' ⟨b'.b,p::b'.z⟩ st->RVs K H' ⟨b'.b,p::b'.z⟩ l xs->Q (.ref p) H'
 | .ex x st=>XP K E H b x st
 | .no=>False
def rdN (K:W.Frag) (E:XK) (f:FL):TE:=fun s H Q => ∃ b r st,SR K H b st∧REnv K H b r s∧PostN K E H b (f r st) Q
abbrev VN (X:Cx) (E:XK) (e:Expr) (f:FL):Prop:=PE X e (rdN X.K E f)
def vFz (f:FL):FE:=fun r st=>(f r st).bind fun l s => .ok (.lst l) s
theorem PostN.of {K:W.Frag} {E:XK} {H:Hp} {b:Bz} {r:Rs (List PV)} {Q:VK} (P:PostE K E H b (r.bind fun l s => .ok (.lst l) s) Q):PostN K E H b r Q:=by
 cases r with
 |ok l st=>exact fun p xs H' b' e hn hp hz S r=>P _ H' b' e S.bare (by unfold RV;exact ⟨p,xs,rfl,.inl ⟨.inl hp,S.zb p List.mem_cons_self,hz⟩,RVs.sh Sh.bare l r⟩)
 |ex x st=>exact P
 |no=>exact P
theorem PostN.ext {K:W.Frag} {E:XK} {H H1:Hp} {b b1:Bz} {r:Rs (List PV)} {Q:VK} (h:PostN K E H b r Q) (e:Ext H b H1 b1):PostN K E H1 b1 r Q:=by
 cases r with
 |ok p st=>exact fun p xs H' b' e' hn=>h p xs H' b' (e.trans e') (e.none_of hn)
 |ex x st=>exact XP.ext h e
 |no=>exact h
theorem PostN.lay {K:W.Frag} {E:XK} {H:Hp} {b:Bz} {st:qC} {l:List PV} {xs:List V} {Q:VK} (P:PostN K E H b (.ok l st) Q) (S:SR K H b st) (r:RVs K H b l xs) {p:Addr} (h:H p=none):Q (.ref p) (upd H p (.lst xs)) :=
 P p xs _ b (Ext.new h) h QD (S.new_notin h).2 (SR.hide S h) (RV.hide.hds h l r)
theorem PostE.layT {K:W.Frag} {E:XK} {H:Hp} {b:Bz} {st:qC} {l:List PV} {xs:List V} {Q:VK} (P:PostE K E H b (.ok (.tup l) st) Q) (S:SR K H b st) (r:RVs K H b l xs) {p:Addr} (h:H p=none):Q (.ref p) (upd H p (.tup xs)) :=
 P _ _ b (Ext.new h) (S.new h) (by unfold RV;exact ⟨p,xs,rfl,.inl ⟨QD,S.new_notin h⟩,RVs.ext (Ext.new h) l r⟩)
theorem PostE.here {K:W.Frag} {E:XK} {H:Hp} {b:Bz} {st:qC} {p:PV} {v:V} {Q:VK} (P:PostE K E H b (.ok p st) Q) (S:SR K H b st) (r:RV K H b p v):Q v H:=P v H b (Ext.refl H b) S r
section
variable {X:Cx} {E:XK} {e a c d:Expr} {es:List Expr} {f fa fb fc:FE} {pos:Pos}
theorem ql {f:FL} (h:VN X E e f):VE X E e (vFz f):=PE.imp h fun s H Q ⟨b,r,st,S,R,P⟩=>⟨b,r,st,S,R,PostN.of P⟩
def vC (p:PV):FE:=fun _ st => .ok p st
def qB (i:Nat):FE:=fun r st=>match r[i]? with
 |some (some p) => .ok p st
 |_ => .no
theorem qAo {p:PV} {v:V} (h:PE X e (tC v)) (hv:∀ H b,RV X.K H b p v):VE X E e (vC p):=PE.imp h fun s H Q ⟨b,r,st,S,R,P⟩=>PostE.here P S (hv H b)
theorem qG {i:Int} {j pos}:VE X E (.Constant (.int i) j pos) (vC (.int i)):=qAo qHA fun _ _=>by unfold RV;rfl
theorem W4 {i:Bool} {j pos}:VE X E (.Constant (.bool i) j pos) (vC (.bl i)):=qAo qIK fun _ _=>by unfold RV;rfl
theorem wS {j pos}:VE X E (.Constant .none j pos) (vC .non):=qAo qGJ fun _ _=>by unfold RV;rfl
theorem QP {x:Str} {j pos}:VE X E (.Constant (.str x) j pos) (vC (.str x)):=qAo qGt fun _ _=>by unfold RV;rfl
theorem yA {x:Str} {i:Int} {t:Tok} {pos:Pos} (hg:Gl X x) (hm:X.mg x=some (.int i t)) (hd:(x==("__debug__":Str))=false:=by decide):VE X E (.Name x pos) (vC (.int i)) :=
 qAo (qBE (v := .int i) hg hm ⟨t,rfl⟩ hd) fun _ _=>by unfold RV;rfl
theorem qHt {i:Nat} (h:PE X e (qGn i)):VE X E e (qB i):=PE.imp h fun s H Q ⟨b,r,st,S,R,P⟩=>by
 unfold qB at P
 cases q:r[i]? with
 |none=>rw [q] at P;exact False.elim P
 |some o =>
  cases o with
  |none=>rw [q] at P;exact False.elim P
  |some p =>
   rw [q] at P
   obtain ⟨v,h1,h2⟩:=R.2 i p q
   exact ⟨v,h1,PostE.here P S h2⟩
def qL (g:PV->PV->qC->Rs PV) (fa fb:FE):FE:=fun r st=>(fa r st).bind fun p s1=>(fb r s1).bind fun q s2=>g p q s2
def OpG (X:Cx) (E:XK) (t:R2) (g:PV->PV->qC->Rs PV):Prop :=
 ∀ (H:Hp) (b:Bz) (st:qC) (p q:PV) (u v:V) (Q:VK),SR X.K H b st->RV X.K H b p u->RV X.K H b q v->PostE X.K E H b (g p q st) Q->t u v H Q
theorem jO {t:R2} {g:PV->PV->qC->Rs PV} (hg:OpG X E t g):∀ s H Q,rd X.K E (qL g fa fb) s H Q->tOp t (rd X.K E fa) (rd X.K E fb) s H Q:=fun s H Q ⟨b,r,st,S,R,P⟩ =>
 ⟨b,r,st,S,R,PostE.bind P fun p s1 u H1 b1 e1 S1 r1 P1=>⟨b1,r,s1,S1,R.ext e1,PostE.bind P1 fun q s2 v H2 b2 e2 S2 r2 P2=>hg H2 b2 s2 p q u v Q S2 (RV.ext e2 p r1) r2 P2⟩⟩
theorem ZZ {op:Operator} {t:R2} {g:PV->PV->qC->Rs PV} (ho:OpR X (binaryOp op) t) (hg:OpG X E t g) (ha:VE X E a fa) (hb:VE X E c fb):VE X E (.BinOp a op c pos) (qL g fa fb):=PE.imp (qFf ho ha hb) (jO hg)
theorem qAj {op:CmpOp} {t:R2} {g:PV->PV->qC->Rs PV} (ho:OpR X (compareOp op) t) (hg:OpG X E t g) (ha:VE X E a fa) (hb:VE X E c fb) (hm:behindInMarks op c=false:=by first |exact Qv _ |with_unfolding_all rfl):VE X E (.Compare a [op] [c] pos) (qL g fa fb):=PE.imp (qFQ ho ha hb hm) (jO hg)
def gI (g:Int->Int->Option PV):PV->PV->qC->Rs PV:=fun p q st=>match p,q with
 | .int i,.int j=>match g i j with
  |some z => .ok z st
  |none => .no
 |_,_ => .no
theorem qCP {C:Int->Int->Prop} {h:Int->Int->V} {g:Int->Int->Option PV} (hg:∀ i j z,g i j=some z->C i j ∧ ∀ H b,RV X.K H b z (h i j)):OpG X E (rI C h) (gI g):=by
 intro H b st p q u v Q S rp rq P
 unfold gI at P
 split at P
 ·rename_i i j
  unfold RV at rp rq
  split at P
  ·rename_i z e
   obtain ⟨c,r⟩:=hg i j z e
   exact ⟨i,j,rp,rq,c,PostE.here P S (r H b)⟩
  ·exact P.elim
 ·exact P.elim
theorem jx {h:Int->Int->V} {g:Int->Int->PV} (hg:∀ i j H b,RV X.K H b (g i j) (h i j)):OpG X E (rI0 h) (gI fun i j=>some (g i j)):=by
 intro H b st p q u v Q S rp rq P
 unfold gI at P
 split at P
 ·rename_i i j
  unfold RV at rp rq
  exact ⟨i,j,rp,rq,PostE.here P S (hg i j H b)⟩
 ·exact P.elim
theorem Qr {K:W.Frag} {H:Hp} {b:Bz} {i:Int}:RV K H b (.int i) (.int i):=by unfold RV;rfl
theorem WX {K:W.Frag} {H:Hp} {b:Bz} {i:Bool}:RV K H b (.bl i) (.bl i):=by unfold RV;rfl
def WL:=gI fun i j=>some (.int (i - j))
def ZD:=gI fun i j=>if (-(2 ^ 64) < i∧i < 2 ^ 64)∨(-(2 ^ 64) < j∧j < 2 ^ 64) then some (.int (i * j)) else none
def qET:=gI fun i j=>if 0 < j∧j < 1073741824 then some (.int (i / j)) else none
def jj:=gI fun i j=>if 0 < j then some (.int (i % j)) else none
def qAG:=gI fun i j=>if 0≤j∧j≤1000000∧i.natAbs < 2 ^ 64 then some (.int (i ^ j.toNat)) else none
theorem Wu (ha:VE X E a fa) (hb:VE X E c fb):VE X E (.BinOp a .Sub c pos) (qL WL fa fb):=ZZ qGH (jx fun _ _ _ _=>Qr) ha hb
theorem yE (ha:VE X E a fa) (hb:VE X E c fb):VE X E (.BinOp a .Mult c pos) (qL ZD fa fb):=ZZ qG1 (qCP fun i j z e=>by
 split at e
 ·rename_i h;cases e;exact ⟨h,fun _ _=>Qr⟩
 ·cases e) ha hb
theorem qHK (ha:VE X E a fa) (hb:VE X E c fb):VE X E (.BinOp a .FloorDiv c pos) (qL qET fa fb):=ZZ qEN (qCP fun i j z e=>by
 split at e
 ·rename_i h;cases e;exact ⟨h,fun _ _=>Qr⟩
 ·cases e) ha hb
theorem jg (ha:VE X E a fa) (hb:VE X E c fb):VE X E (.BinOp a .Mod c pos) (qL jj fa fb):=ZZ qG3 (qCP fun i j z e=>by
 split at e
 ·rename_i h;cases e;exact ⟨h,fun _ _=>Qr⟩
 ·cases e) ha hb
theorem yN (ha:VE X E a fa) (hb:VE X E c fb):VE X E (.BinOp a .Pow c pos) (qL qAG fa fb):=ZZ qGK (qCP fun i j z e=>by
 split at e
 ·rename_i h;cases e;exact ⟨h,fun _ _=>Qr⟩
 ·cases e) ha hb
def qz:=gI fun i j=>some (.int (i + j))
theorem QG (ha:VE X E a fa) (hb:VE X E c fb):VE X E (.BinOp a .Add c pos) (qL qz fa fb):=ZZ qGL (jx fun _ _ _ _=>Qr) ha hb
def qHI:PV->PV->qC->Rs PV:=fun p q st=>match p,q with
 | .str x,.str y=>if x.length + y.length≤sizeLine then .ok (.str (x++y)) st else .no
 |_,_ => .no
theorem qEI (ha:VE X E a fa) (hb:VE X E c fb):VE X E (.BinOp a .Add c pos) (qL qHI fa fb):=ZZ J8 (fun H b st p q u v Q S rp rq P=>by
 unfold qHI at P
 split at P
 ·rename_i x y
  unfold RV at rp rq
  split at P
  ·rename_i h;exact ⟨x,y,rp,rq,h,PostE.here P S (by unfold RV;rfl)⟩
  ·exact P.elim
 ·exact P.elim) ha hb
def gLt:=gI fun i j=>some (.bl (decide (i < j)))
def gLe:=gI fun i j=>some (.bl (decide (i≤j)))
def gGt:=gI fun i j=>some (.bl (decide (j < i)))
theorem qFd:OpG X E (rI0 fun i j => .bl (decide (i < j))) gLt:=jx fun _ _ _ _=>WX
theorem zk:OpG X E (rI0 fun i j => .bl (decide (i≤j))) gLe:=jx fun _ _ _ _=>WX
theorem qFj:OpG X E (rI0 fun i j => .bl (decide (j < i))) gGt:=jx fun _ _ _ _=>WX
theorem qHj (ha:VE X E a fa) (hb:VE X E c fb):VE X E (.Compare a [.Lt] [c] pos) (qL gLt fa fb):=qAj qFc qFd ha hb
theorem qHW (ha:VE X E a fa) (hb:VE X E c fb):VE X E (.Compare a [.Gt] [c] pos) (qL gGt fa fb):=qAj qFp qFj ha hb
def w4 (g g':PV->PV->qC->Rs PV) (fa fb fc:FE):FE:=fun r st=>(fa r st).bind fun p s1=>(fb r s1).bind fun q s2=>(g p q s2).bind fun z s3=>match z with
 | .bl true=>(fc r s3).bind fun w s4=>g' q w s4
 | .bl false => .ok (.bl false) s3
 |_ => .no
theorem Zx {op op':CmpOp} {t t':R2} {g g':PV->PV->qC->Rs PV} (ho:OpR X (compareOp op) t) (ho':OpR X (compareOp op') t') (hg:OpG X E t g) (hg':OpG X E t' g') (ha:VE X E a fa) (hb:VE X E c fb) (hc:VE X E d fc)
  (hm:lastMarks [op,op'] [c,d]=false:=by with_unfolding_all rfl):VE X E (.Compare a [op,op'] [c,d] pos) (w4 g g' fa fb fc):=by
 refine PE.imp (qDI ho ho' ha hb hc hm) fun s H Q ⟨b,r,st,S,R,P⟩ => ?_
 refine ⟨b,r,st,S,R,PostE.bind P fun p s1 u H1 b1 e1 S1 r1 P1=>⟨b1,r,s1,S1,R.ext e1,PostE.bind P1 fun q s2 v H2 b2 e2 S2 r2 P2 => ?_⟩⟩
 refine hg H2 b2 s2 p q u v _ S2 (RV.ext e2 p r1) r2 (PostE.bind P2 fun z s3 zv H3 b3 e3 S3 r3 P3 => ?_)
 split at P3
 ·unfold RV at r3
  refine ⟨true,r3,qCA ⟨b3,r,s3,S3,((R.ext e1).ext e2).ext e3,PostE.bind P3 fun w s4 wv H4 b4 e4 S4 r4 P4 => ?_⟩⟩
  exact hg' H4 b4 s4 q w v wv Q S4 (RV.ext e4 q (RV.ext e3 q r2)) r4 P4
 ·unfold RV at r3
  exact ⟨false,r3,qCE (PostE.here P3 S3 WX)⟩
 ·exact P3.elim
def qCn (st:qC):PV->Option Bool
 | .non=>some false
 | .bl x=>some x
 | .int i=>some (i != 0)
 | .tup l=>some (!l.isEmpty)
 | .lst l=>some (!l.isEmpty)
 | .ref i=>(asL st (.ref i)).map fun l => !l.isEmpty
 |_=>none
theorem qDd {K:W.Frag} {H:Hp} {b:Bz} {st:qC} {p:PV} {v:V} {k:Bool} (S:SR K H b st) (r:RV K H b p v) (h:qCn st p=some k):qEb K v H k:=by
 have emp:∀ {l:List PV} {xs:List V},RVs K H b l xs->(!l.isEmpty) = !xs.isEmpty:=fun {l xs} q=>by
  have:=q.length
  cases l <;> cases xs <;> first |rfl |(simp at this)
 cases p with
 |non=>unfold RV at r;subst r;exact (Option.some.inj h).symm
 |bl x=>unfold RV at r;subst r;exact (Option.some.inj h).symm
 |int x=>unfold RV at r;subst r;exact (Option.some.inj h).symm
 |tup l =>
  unfold RV at r
  obtain ⟨a,xs,rfl,h2,h3⟩:=r
  exact .inr (.inl ⟨xs,h2.sq,by rw [← emp h3];exact (Option.some.inj h).symm⟩)
 |lst l =>
  obtain ⟨a,xs,rfl,h2,h3⟩:=QX S r rfl
  exact .inl ⟨xs,h2,by rw [← emp h3];exact (Option.some.inj h).symm⟩
 |ref i =>
  unfold qCn at h
  dsimp only at h
  cases q:asL st (.ref i) with
  |none=>rw [q] at h;cases h
  |some l =>
   rw [q] at h
   obtain ⟨a,xs,rfl,h2,h3⟩:=QX S r q
   exact .inl ⟨xs,h2,by rw [← emp h3];exact (Option.some.inj h).symm⟩
 |_=>cases h
def Qw (f:FE):FT:=fun r st=>(f r st).bind fun p s=>match qCn s p with
 |some k => .ok k s
 |none => .no
theorem qCl {R:Bool->Hp->Prop} {s:L2.St} {H:Hp} (h:rdT X.K E (Qw f) s H R):rd X.K E f s H fun x H' => ∃ k,qEb X.K x H' k∧R k H':=by
 obtain ⟨b,r,st,S,RE,P⟩:=h
 refine ⟨b,r,st,S,RE,PostE.bindT P fun p s1 u H1 b1 e1 S1 r1 P1 => ?_⟩
 split at P1
 ·rename_i k e;exact ⟨k,qDd S1 r1 e,P1 H1 b1 (Ext.refl _ _) S1⟩
 ·exact P1.elim
theorem We (h:VE X E e f) (he:∀ whole,isTrue e X.env whole=(do let v ← whole;standAt e.pos;holding [v] (truthy v)):=by intro _;rfl):VT X E e (Qw f):=PT.imp (qDA h he) fun s H Q q=>qCl q
def vTB (f:FE):FT:=fun r st=>(f r st).bind fun p s=>match p with
 | .bl k => .ok k s
 |_ => .no
theorem qFT {R:Bool->Hp->Prop} {s:L2.St} {H:Hp} (h:rdT X.K E (vTB f) s H R):rd X.K E f s H fun x H' => ∃ k,x = .bl k∧R k H':=by
 obtain ⟨b,r,st,S,RE,P⟩:=h
 refine ⟨b,r,st,S,RE,PostE.bindT P fun p s1 u H1 b1 e1 S1 r1 P1 => ?_⟩
 split at P1
 ·rename_i k;unfold RV at r1;exact ⟨k,r1,P1 H1 b1 (Ext.refl _ _) S1⟩
 ·exact P1.elim
theorem wE {op:CmpOp} {t:R2} {g:PV->PV->qC->Rs PV} (ho:OpR X (compareOp op) t) (hg:OpG X E t g) (ha:VE X E a fa) (hb:VE X E c fb) (hm:behindInMarks op c=false:=by first |exact Qv _ |with_unfolding_all rfl):VT X E (.Compare a [op] [c] pos) (vTB (qL g fa fb)) :=
 PT.imp (qFC ho ha hb hm) fun s H Q q=>jO hg s H _ (qFT q)
theorem qDS {op op':CmpOp} {t t':R2} {g g':PV->PV->qC->Rs PV} (ho:OpR X (compareOp op) t) (ho':OpR X (compareOp op') t') (hg:OpG X E t g) (hg':OpG X E t' g') (ha:VE X E a fa) (hb:VE X E c fb) (hc:VE X E d fc)
  (hm:lastMarks [op,op'] [c,d]=false:=by with_unfolding_all rfl):VT X E (.Compare a [op,op'] [c,d] pos) (vTB (w4 g g' fa fb fc)):=by
 refine PT.imp (qDP ho ho' ha hb hc hm) fun s H Q q => ?_
 obtain ⟨b,r,st,S,R,P⟩:=qFT q
 refine ⟨b,r,st,S,R,PostE.bind P fun p s1 u H1 b1 e1 S1 r1 P1=>⟨b1,r,s1,S1,R.ext e1,PostE.bind P1 fun q s2 v H2 b2 e2 S2 r2 P2 => ?_⟩⟩
 refine hg H2 b2 s2 p q u v _ S2 (RV.ext e2 p r1) r2 (PostE.bind P2 fun z s3 zv H3 b3 e3 S3 r3 P3 => ?_)
 split at P3
 ·unfold RV at r3
  refine ⟨true,r3,qCA ⟨b3,r,s3,S3,((R.ext e1).ext e2).ext e3,PostE.bind P3 fun w s4 wv H4 b4 e4 S4 r4 P4 => ?_⟩⟩
  exact hg' H4 b4 s4 q w v wv _ S4 (RV.ext e4 q (RV.ext e3 q r2)) r4 P4
 ·unfold RV at r3
  exact ⟨false,r3,qCE (PostE.here P3 S3 WX)⟩
 ·exact P3.elim
def WP (f:FT):FT:=fun r st=>(f r st).bind fun k s => .ok (!k) s
theorem Ww {f:FT} (h:VT X E a f):VT X E (.UnaryOp .Not a pos) (WP f):=PT.imp (qGR h) fun s H Q ⟨b,r,st,S,R,P⟩=>⟨b,r,st,S,R,PostT.bindT P fun k s1 H1 b1 e1 S1 P1=>P1 H1 b1 (Ext.refl _ _) S1⟩
abbrev VW (X:Cx) (E:XK) (e:Expr) (f:FT):Prop:=PW X e (rdT X.K E f)
theorem PW.imp {X:Cx} {e:Expr} {t t':TT} (h:PW X e t) (i:∀ s H Q,t' s H Q->t s H Q):PW X e t':=fun w pins s σ H Q I q=>h w pins s σ H Q I (i _ _ _ q)
def W5 (f g:FT):FT:=fun r st=>(f r st).bind fun k s=>if k=true then .ok true s else g r s
theorem Zg {f:FT} (h:VT X E a f):VW X E (.BoolOp .Or [a] pos) f:=qGo h
theorem Zq {f g:FT} {rest:List Expr} (h:VT X E a f) (h2:VW X E (.BoolOp .Or (c::rest) pos) g):VW X E (.BoolOp .Or (a::c::rest) pos) (W5 f g):=PW.imp (qHg h h2) fun s H Q ⟨b,r,st,S,R,P⟩ =>
 ⟨b,r,st,S,R,PostT.bindT P fun k s1 H1 b1 e1 S1 P1=>by
  cases k with
  |true=>exact qCA (P1 H1 b1 (Ext.refl _ _) S1)
  |false=>exact qCE ⟨b1,r,s1,S1,R.ext e1,P1⟩⟩
theorem qAH {f:FT} (h:VW X E e f):VT X E e f:=h.pt
def qGF (f:FE):FE:=fun r st=>(f r st).bind fun p s=>match p with
 | .bl k => .ok (.bl (!k)) s
 |_ => .no
theorem qCj (h:VE X E a fa):VE X E (.UnaryOp .Not a pos) (qGF fa):=PE.imp (qGV h) fun s H Q ⟨b,r,st,S,R,P⟩ =>
 ⟨b,r,st,S,R,PostE.bind P fun p s1 u H1 b1 e1 S1 r1 P1=>by
  split at P1
  ·rename_i k;unfold RV at r1;exact ⟨k,r1,PostE.here P1 S1 WX⟩
  ·exact P1.elim⟩
def Zf (f g:FE):FE:=fun r st=>(f r st).bind fun p s=>match p with
 | .bl true=>g r s
 | .bl false => .ok (.bl false) s
 |_ => .no
theorem Zj {op} (h:VE X E a fa):VE X E (.BoolOp op [a] pos) fa:=qGp h
theorem zI {rest:List Expr} (h:VE X E a fa) (h2:VE X E (.BoolOp .And (c::rest) pos) fb):VE X E (.BoolOp .And (a::c::rest) pos) (Zf fa fb):=PE.imp (qGE h h2) fun s H Q ⟨b,r,st,S,R,P⟩ =>
 ⟨b,r,st,S,R,PostE.bind P fun p s1 u H1 b1 e1 S1 r1 P1=>by
  split at P1
  ·unfold RV at r1;exact ⟨true,r1,qCA ⟨b1,r,s1,S1,R.ext e1,P1⟩⟩
  ·unfold RV at r1;exact ⟨false,r1,qCE (PostE.here P1 S1 WX)⟩
  ·exact P1.elim⟩
def vIf (t:FT) (f g:FE):FE:=fun r st=>(t r st).bind fun k s=>if k=true then f r s else g r s
theorem qHs {t:FT} (hc:VT X E e t) (ha:VE X E a fa) (hb:VE X E c fb):VE X E (.IfExp e a c pos) (vIf t fa fb):=PE.imp (qD3 hc ha hb) fun s H Q ⟨b,r,st,S,R,P⟩ =>
 ⟨b,r,st,S,R,PostT.bind P fun k s1 H1 b1 e1 S1 P1=>by
  cases k with
  |true=>exact qCA ⟨b1,r,s1,S1,R.ext e1,P1⟩
  |false=>exact qCE ⟨b1,r,s1,S1,R.ext e1,P1⟩⟩
def qD:FA:=fun _ st => .ok [] st
def qA (f:FE) (g:FA):FA:=fun r st=>(f r st).bind fun p s=>(g r s).bind fun ps s' => .ok (p::ps) s'
theorem qF:VA X E [] qD:=PA.imp jK fun s H Q ⟨b,r,st,S,R,P⟩=>P [] H b (Ext.refl _ _) S RVs.nil
theorem Qy {f:FE} {g:FA} (h:VE X E e f) (h2:VA X E es g) (hs:starEach (e::es) X.env=(false,eval e X.env)::starEach es X.env:=by rfl):VA X E (e::es) (qA f g):=PA.imp (yo h h2 hs) fun s H Q ⟨b,r,st,S,R,P⟩ =>
 ⟨b,r,st,S,R,PostE.bindA P fun p s1 u H1 b1 e1 S1 r1 P1=>⟨b1,r,s1,S1,R.ext e1,PostA.bindA P1 fun ps s2 us H2 b2 e2 S2 r2 P2=>P2 (u::us) H2 b2 (Ext.refl _ _) S2 (RVs.cons (RV.ext e2 p r1) r2)⟩⟩
def qt (g:FA):FE:=fun r st=>(g r st).bind fun ps s=>if ps.length≤sizeLine then .ok (.tup ps) s else .no
theorem qX {g:FA} {x1} (h:VA X E es g):VE X E (.Tuple es x1 pos) (qt g):=PE.imp (qGw h) fun s H Q ⟨b,r,st,S,R,P⟩ =>
 ⟨b,r,st,S,R,PostA.bind P fun ps s1 us H1 b1 e1 S1 r1 P1=>by
  split at P1
  ·rename_i hl;exact ⟨by rw [← r1.length];exact hl,fun p hp=>PostE.layT P1 S1 r1 hp⟩
  ·exact P1.elim⟩
def Qt (g:FA):FL:=fun r st=>(g r st).bind fun ps s=>if ps.length≤sizeLine then .ok ps s else .no
theorem PostA.bindN {K:W.Frag} {E:XK} {H:Hp} {b:Bz} {r:Rs (List PV)} {k:List PV->qC->Rs (List PV)} {Q:VK} {R:List V->Hp->Prop} (P:PostN K E H b (r.bind k) Q)
  (h:∀ p st v H1 b1,Ext H b H1 b1->SR K H1 b1 st->RVs K H1 b1 p v->PostN K E H1 b1 (k p st) Q->R v H1):PostA K E H b r R:=by
 cases r with
 |ok p st=>exact fun v H1 b1 e S r=>h p st v H1 b1 e S r (PostN.ext (show PostN K E H b (k p st) Q from P) e)
 |ex x st=>exact P
 |no=>exact P
theorem PostE.bindN {K:W.Frag} {E:XK} {H:Hp} {b:Bz} {r:Rs PV} {k:PV->qC->Rs (List PV)} {Q:VK} {R:VK} (P:PostN K E H b (r.bind k) Q)
  (h:∀ p st v H1 b1,Ext H b H1 b1->SR K H1 b1 st->RV K H1 b1 p v->PostN K E H1 b1 (k p st) Q->R v H1):PostE K E H b r R:=by
 cases r with
 |ok p st=>exact fun v H1 b1 e S r=>h p st v H1 b1 e S r (PostN.ext (show PostN K E H b (k p st) Q from P) e)
 |ex x st=>exact P
 |no=>exact P
theorem QE {g:FA} (h:VA X E es g):VN X E (.List es pos) (Qt g):=PE.imp (qGU h) fun s H Q ⟨b,r,st,S,R,P⟩ =>
 ⟨b,r,st,S,R,PostA.bindN P fun ps s1 us H1 b1 e1 S1 r1 P1=>by
  split at P1
  ·rename_i hl;exact ⟨by rw [← r1.length];exact hl,fun p hp=>PostN.lay P1 S1 r1 hp⟩
  ·exact P1.elim⟩
theorem qFD {K:W.Frag} {H:Hp} {b:Bz} {l:List PV} {xs:List V} {i:Int} {p:PV} (r:RVs K H b l xs) (h:atI l i=some p):∃ x,atI xs i=some x∧RV K H b p x:=by
 unfold atI at h ⊢
 rw [← r.length]
 cases q:ixN l.length i with
 |none=>rw [q] at h;cases h
 |some j=>rw [q] at h;exact r.get h
def gIx:PV->PV->qC->Rs PV:=fun p q st=>match q with
 | .int i=>match zM st p with
  |some l=>match atI l i with
   |some z => .ok z st
   |none => .no
  |none => .no
 |_ => .no
theorem QU (ha:VE X E a fa) (hb:VE X E c fb) (hs:qA8 c:=by exact fun _ _=>rfl):VE X E (.Subscript a c pos) (qL gIx fa fb):=PE.imp (qHb qGy ha hb hs) (jO fun H b st p q u v Q S rp rq P=>by
 unfold gIx at P
 split at P
 ·rename_i i
  unfold RV at rq
  split at P
  ·rename_i l e
   split at P
   ·rename_i z ez
    obtain ⟨x1,xs,h1,h2,h3⟩:=jV S rp e
    obtain ⟨x,h4,h5⟩:=qFD h3 ez
    rcases h2 with h2 |h2
    ·exact .inl ⟨x1,xs,i,x,h1,rq,h2,h4,PostE.here P S h5⟩
    ·exact .inr (.inl ⟨x1,xs,i,x,h1,rq,h2,h4,PostE.here P S h5⟩)
   ·exact P.elim
  ·exact P.elim
 ·exact P.elim)
def qI (g:List PV->qC->Rs PV) (t:FA):FE:=fun r st=>(t r st).bind fun ps s=>g ps s
def spG (K:W.Frag) (n:Nat) (g:List PV->qC->Rs PV):Sp:=fun vs H Q E=>vs.length=n ∧ ∃ b ps st,SR K H b st∧RVs K H b ps vs∧PostE K E H b (g ps st) Q
def qGS (X:Cx) (E:XK) (x:Str) (g:List PV->qC->Rs PV):Prop := ∀ (p pos:Pos) (e:Expr) (es:List Expr) (t:FA),VA X E (e::es) t->starEach (e::es) X.env=(false,eval e X.env)::starEach es X.env->(backTo pos (starEach es X.env)).any (·.1)=false->VE X E (.Call (.Name x p) (e::es) [] pos) (qI g t)
theorem qV {x:Str} {g:List PV->qC->Rs PV} {t:FA} {p:Pos} (hc:qGS X E x g) (ha:VA X E (e::es) t) (he:starEach (e::es) X.env=(false,eval e X.env)::starEach es X.env:=by rfl) (hpl:(backTo pos (starEach es X.env)).any (·.1)=false:=by rfl):VE X E (.Call (.Name x p) (e::es) [] pos) (qI g t):=hc p pos e es t ha he hpl
theorem qIP {CX:CXT} {k n:Nat} {fa:Addr} {fd:FuncData} {ps:List Str} {x:Str} {g:List PV->qC->Rs PV} (F:FnOk X.prog X.w X.K X.mg X.base CX k fa fd ps (spG X.K ps.length g)) (hr:Room k X.A) (hg:Gl X x) (hm:X.mg x=some (.ref fa)) (hk:PySem.W.keepIn X.K (.ref fa)=true)
  (hb:Binds X.K fd ps []) (hx:zn CX X E) (hlen:∀ l st,g l st ≠ .no->l.length=ps.length) (hdb:(x==("__debug__":Str))=false:=by decide):qGS X E x g:=fun p pos e es t ha he hpl =>
 PE.imp (qEG F hr hg hm hk hb .nil hx ha hdb he hpl) fun s H Q ⟨b,r,st,S,R,P⟩=>⟨b,r,st,S,R,PostA.bind P fun l s1 us H1 b1 e1 S1 r1 P1=>by
  have hne:g l s1 ≠ .no:=fun z=>by rw [z] at P1;exact P1
  rw [List.append_nil]
  exact ⟨by rw [← r1.length];exact hlen l s1 hne,b1,l,s1,S1,r1,P1⟩⟩
def ZE (X:Cx) (E:XK) (t:List V->Hp->VK->Prop) (g:List PV->qC->Rs PV):Prop :=
 ∀ (H:Hp) (b:Bz) (st:qC) (ps:List PV) (vs:List V) (Q:VK),SR X.K H b st->RVs X.K H b ps vs->PostE X.K E H b (g ps st) Q->t vs H Q
theorem wT {x:Str} {id:String} {t:List V->Hp->VK->Prop} {g:List PV->qC->Rs PV} {ta:FA} {p:Pos} (hc:WH X (.builtin id) t) (hG:ZE X E t g) (hg:Gl X x) (hm:X.mg x=none) (hv:bootBuiltins x=some (.builtin id)) (ha:VA X E (e::es) ta) (hn:x ≠ "__name__" := by decide) (hdb:(x==("__debug__":Str))=false:=by decide)
  (he:starEach (e::es) X.env=(false,eval e X.env)::starEach es X.env:=by rfl) (hpl:(backTo pos (starEach es X.env)).any (·.1)=false:=by rfl):VE X E (.Call (.Name x p) (e::es) [] pos) (qI g ta) :=
 PE.imp (qCi hc hg hm hv ha hn hdb he hpl) fun s H Q ⟨b,r,st,S,R,P⟩=>⟨b,r,st,S,R,PostA.bind P fun l s1 us H1 b1 e1 S1 r1 P1=>hG H1 b1 s1 l us Q S1 r1 P1⟩
theorem Y0 {x:Str} {T:String} {t:List V->Hp->VK->Prop} {g:List PV->qC->Rs PV} {ta:FA} {p:Pos} (hc:WH X (.type T) t) (hG:ZE X E t g) (hg:Gl X x) (hm:X.mg x=none) (hv:bootBuiltins x=some (.type T)) (ha:VA X E (e::es) ta) (hn:x ≠ "__name__" := by decide) (hdb:(x==("__debug__":Str))=false:=by decide)
  (he:starEach (e::es) X.env=(false,eval e X.env)::starEach es X.env:=by rfl) (hpl:(backTo pos (starEach es X.env)).any (·.1)=false:=by rfl):VE X E (.Call (.Name x p) (e::es) [] pos) (qI g ta) :=
 PE.imp (Yn hc hg hm hv ha hn hdb he hpl) fun s H Q ⟨b,r,st,S,R,P⟩=>⟨b,r,st,S,R,PostA.bind P fun l s1 us H1 b1 e1 S1 r1 P1=>hG H1 b1 s1 l us Q S1 r1 P1⟩
theorem RVs.one {K:W.Frag} {H:Hp} {b:Bz} {p:PV} {vs:List V} (h:RVs K H b [p] vs):∃ v,vs=[v]∧RV K H b p v:=by
 unfold RVs at h
 obtain ⟨x,r,rfl,h2,h3⟩:=h
 unfold RVs at h3;subst h3
 exact ⟨x,rfl,h2⟩
theorem RVs.two {K:W.Frag} {H:Hp} {b:Bz} {p q:PV} {vs:List V} (h:RVs K H b [p,q] vs):∃ v w,vs=[v,w]∧RV K H b p v∧RV K H b q w:=by
 unfold RVs at h
 obtain ⟨x,r,rfl,h2,h3⟩:=h
 obtain ⟨y,rfl,h4⟩:=RVs.one h3
 exact ⟨x,y,rfl,h2,h4⟩
def W7:List PV->qC->Rs PV:=fun ps st=>match ps with
 |[p]=>match zM st p with
  |some l => .ok (.int l.length) st
  |none => .no
 |_ => .no
theorem qFy:ZE X E (fun xs H Q => ∃ p ys,xs=[.ref p]∧(SqL X.K H p ys∨SqT X.K H p ys)∧Q (.int ys.length) H) W7:=by
 intro H b st ps vs Q S r P
 unfold W7 at P
 split at P
 ·rename_i p
  obtain ⟨v,rfl,r1⟩:=RVs.one r
  split at P
  ·rename_i l e
   obtain ⟨a,xs,rfl,h2,h3⟩:=jV S r1 e
   refine ⟨a,xs,rfl,h2,?_⟩
   rw [← h3.length]
   exact PostE.here P S Qr
  ·exact P.elim
 ·exact P.elim
def Zm:List PV->qC->Rs PV:=fun ps st=>match ps with
 |[p]=>match zM st p with
  |some l => .ok (.tup l) st
  |none => .no
 |_ => .no
theorem qDp:ZE X E (fun xs H Q => ∃ p ys,xs=[.ref p]∧((SqL X.K H p ys ∧ ∀ l,H l=none->Q (.ref l) (upd H l (.tup ys)))∨(SqT X.K H p ys∧Q (.ref p) H))) Zm:=by
 intro H b st ps vs Q S r P
 unfold Zm at P
 split at P
 ·rename_i p
  obtain ⟨v,rfl,r1⟩:=RVs.one r
  split at P
  ·rename_i l e
   cases p with
   |tup m =>
    have e':m=l:=Option.some.inj e
    subst e'
    have r0:=r1
    unfold RV at r1
    obtain ⟨a,xs,rfl,h2,h3⟩:=r1
    exact ⟨a,xs,rfl,.inr ⟨h2.sq,PostE.here P S r0⟩⟩
   |lst m =>
    obtain ⟨a,xs,rfl,h2,h3⟩:=QX S r1 e
    exact ⟨a,xs,rfl,.inl ⟨h2,fun p hp=>PostE.layT P S h3 hp⟩⟩
   |ref i =>
    obtain ⟨a,xs,rfl,h2,h3⟩:=QX S r1 e
    exact ⟨a,xs,rfl,.inl ⟨h2,fun p hp=>PostE.layT P S h3 hp⟩⟩
   |_=>cases e
  ·exact P.elim
 ·exact P.elim
def qDR:List PV->qC->Rs PV:=fun ps st=>match ps with
 |[.int i] => .ok (.int i) st
 |[.bl k] => .ok (.int (if k then 1 else 0)) st
 |_ => .no
theorem qGP:ZE X E (fun xs H Q=>(∃ i,xs=[.int i]∧Q (.int i) H) ∨ ∃ k,xs=[.bl k]∧Q (.int (if k then 1 else 0)) H) qDR:=by
 intro H b st ps vs Q S r P
 unfold qDR at P
 split at P
 ·obtain ⟨v,rfl,r1⟩:=RVs.one r
  unfold RV at r1;subst r1
  exact .inl ⟨_,rfl,PostE.here P S Qr⟩
 ·obtain ⟨v,rfl,r1⟩:=RVs.one r
  unfold RV at r1;subst r1
  exact .inr ⟨_,rfl,PostE.here P S Qr⟩
 ·exact P.elim
def qCz:List PV->qC->Rs PV:=fun ps st=>match ps with
 |[.int i,.int j] => .ok (.int (if j > i then j else i)) st
 |_ => .no
def qDW:List PV->qC->Rs PV:=fun ps st=>match ps with
 |[.int i,.int j] => .ok (.int (if j < i then j else i)) st
 |_ => .no
theorem qGl:ZE X E (fun xs H Q => ∃ i j,xs=[.int i,.int j]∧Q (.int (if j > i then j else i)) H) qCz:=by
 intro H b st ps vs Q S r P
 unfold qCz at P
 split at P
 ·obtain ⟨v,w,rfl,r1,r2⟩:=RVs.two r
  unfold RV at r1 r2;subst r1;subst r2
  exact ⟨_,_,rfl,PostE.here P S Qr⟩
 ·exact P.elim
theorem qF6:ZE X E (fun xs H Q => ∃ i j,xs=[.int i,.int j]∧Q (.int (if j < i then j else i)) H) qDW:=by
 intro H b st ps vs Q S r P
 unfold qDW at P
 split at P
 ·obtain ⟨v,w,rfl,r1,r2⟩:=RVs.two r
  unfold RV at r1 r2;subst r1;subst r2
  exact ⟨_,_,rfl,PostE.here P S Qr⟩
 ·exact P.elim
def qFV:PV->qC->Rs (List PV):=fun p st=>match zM st p with
 |some l => .ok l st
 |none => .no
def qAy (f:FE):FL:=fun r st=>(f r st).bind qFV
theorem qFP {p:Pos} (hg:Gl X "list") (hm:X.mg "list" = none) (hv:bootBuiltins "list" = some (.type "list")) (ha:VE X E e f)
  (he:starEach [e] X.env=(false,eval e X.env)::starEach [] X.env:=by rfl) (hpl:(backTo pos (starEach [] X.env)).any (·.1)=false:=by rfl):VN X E (.Call (.Name "list" p) [e] [] pos) (qAy f) :=
 PE.imp (Yn jo hg hm hv (yo ha jK he) (he:=he) (hpl:=hpl)) fun s H Q ⟨b,r,st,S,R,P⟩=>⟨b,r,st,S,R,PostE.bindN P fun q s1 u H1 b1 e1 S1 r1 P1=>by
  unfold qFV at P1
  split at P1
  ·rename_i l el
   obtain ⟨a,xs,rfl,h2,h3⟩:=jV S1 r1 el
   exact ⟨a,xs,rfl,h2,fun p hp=>PostN.lay P1 S1 h3 hp⟩
  ·exact P1.elim⟩
end
def Q8:FS:=fun r st => .nx r st
def qR (F G:FS):FS:=fun r st=>match F r st with
 | .nx r' st'=>G r' st'
 |o=>o
section
variable {X:Cx} {E:XK} {e a c d:Expr} {es:List Expr} {f fa fb fc:FE} {pos:Pos} {F G:FS} {s1:Stmt} {ss:List Stmt}
theorem Qo:VSs X E [] Q8:=PSs.imp qFR fun D s H ⟨b,r,st,S,R,P⟩=>P s H b (Ext.refl _ _) S R
theorem PostS.seq {K:W.Frag} {E:XK} {H:Hp} {b:Bz} {o:RS} {G:FS} {D:Ends} (P:PostS K E H b (match o with | .nx r' st'=>G r' st' |o=>o) D):PostS K E H b o { D with nx:=rdS K E G D }:=by
 cases o with
 |nx r st=>exact fun s H' b' e S R=>⟨b',r,st,S,R,PostS.ext (show PostS K E H b (G r st) D from P) e⟩
 |rt p st=>exact P
 |bk p st=>exact P
 |ct p st=>exact P
 |ex x st=>exact P
 |no=>exact P
theorem qM (h1:VS X E s1 F) (h2:VSs X E ss G):VSs X E (s1::ss) (qR F G):=PSs.imp (qCd h1 h2) fun D s H ⟨b,r,st,S,R,P⟩=>⟨b,r,st,S,R,PostS.seq P⟩
theorem qS (h1:VS X E s1 F):VSs X E [s1] F:=qEW h1
def zO (f:FE):FS:=fun r st=>(f r st).bindS fun _ s => .nx r s
theorem qBT (h:VE X E e f) (hs:swapsWith e none pos.line X.env=pure false:=by rfl):VS X E (.Expr e pos) (zO f):=PS.imp (qBA h hs) fun D s H ⟨b,r,st,S,R,P⟩ =>
 ⟨b,r,st,S,R,PostE.bindS P fun p s1 u H1 b1 e1 S1 r1 P1=>P1 s H1 b1 (Ext.refl _ _) S1 (R.ext e1)⟩
def qr (f:FE):FS:=fun r st=>(f r st).bindS fun p s => .rt p s
theorem qj (h:VE X E e f):VS X E (.Return (some e) pos) (qr f):=PS.imp (qDJ h) fun D s H ⟨b,r,st,S,R,P⟩ =>
 ⟨b,r,st,S,R,PostE.bindS P fun p s1 u H1 b1 e1 S1 r1 P1=>P1 u H1 b1 (Ext.refl _ _) S1 r1⟩
def yv (f:FL):FS:=fun r st=>(f r st).bindS fun l s => .rt (.ref s.length) (s++[.l l])
def wN (t:FT) (F G:FS):FS:=fun r st=>(t r st).bindS fun k s=>if k=true then F r s else G r s
theorem WO {t:FT} {bs cs:List Stmt} (hc:VT X E e t) (ha:VSs X E bs F) (hb:VSs X E cs G):VS X E (.If e bs cs pos) (wN t F G):=PS.imp (qHp hc ha hb) fun D s H ⟨b,r,st,S,R,P⟩ =>
 ⟨b,r,st,S,R,PostT.bindS P fun k s1 H1 b1 e1 S1 P1=>by
  cases k with
  |true=>exact qCA ⟨b1,r,s1,S1,R.ext e1,P1⟩
  |false=>exact qCE ⟨b1,r,s1,S1,R.ext e1,P1⟩⟩
def qY (i:Nat) (f:FE):FS:=fun r st=>(f r st).bindS fun p s => .nx (r.set i (some p)) s
theorem qk (i:Nat) {x:Str} {p':Pos} (hN:X.N.Nodup) (h:VE X E e f) (hi:X.N[i]? = some x:=by rfl) (hx:Loc X.env.scope x:=by first |exact Or.inl rfl |exact Or.inr rfl) (hs:swapsWith e (some (.Name x p')) pos.line X.env=pure false:=by rfl) (hf:X.fn x=true∨X.env.scope.names.lookup x=some .local:=by first |exact .inl rfl |exact .inr rfl |assumption) :
  VS X E (.Assign [.Name x p'] e pos) (qY i f):=PS.imp (qDo hN hi hx h hs hf) fun D s H ⟨b,r,st,S,R,P⟩ =>
 ⟨b,r,st,S,R,PostE.bindS P fun p s1 u H1 b1 e1 S1 r1 P1=>P1 _ H1 b1 (Ext.refl _ _) S1 ((R.ext e1).set r1 i)⟩
def ZH (i:Nat) (f:FL):FS:=fun r st=>(f r st).bindS fun l s => .nx (r.set i (some (.ref s.length))) (s++[.l l])
theorem Ext.adopt {H H':Hp} {b b':Bz} {p:Addr} (e:Ext H b H' b') (hn:H p=none):Ext H b H' ⟨b'.b++[p],b'.z⟩:=by
 obtain ⟨n,hb,hh⟩:=e.more
 refine ⟨⟨⟨n++[p],by rw [hb,List.append_assoc],fun a ha => ?_⟩,e.zm,e.keep,e.dom⟩,e.same,e.hid,e.fz⟩
 rcases List.mem_append.mp ha with ha |ha
 ·exact hh a ha
 ·rw [List.mem_singleton.mp ha];exact hn
theorem PostN.bindS {K:W.Frag} {E:XK} {H:Hp} {b:Bz} {r:Rs (List PV)} {k:PV->qC->RS} {D:Ends} {R:VK} (P:PostS K E H b (r.bindS fun l s=>k (.ref s.length) (s++[.l l])) D)
  (h:∀ q st v H1 b1,Ext H b H1 b1->SR K H1 b1 st->RV K H1 b1 q v->PostS K E H1 b1 (k q st) D->R v H1):PostN K E H b r R:=by
 cases r with
 |ok l st =>
  intro p xs H' b' e hn hp hz S rs
  have e':=e.adopt hn
  have hl:b'.b.length=st.length:=S.len
  refine h (.ref st.length) (st++[.l l]) (.ref p) H' ⟨b'.b++[p],b'.z⟩ e' (S.slot (x := .l l) hz hp ⟨xs,rfl,rs⟩) ?_ (PostS.ext (show PostS K E H b (k (.ref st.length) (st++[.l l])) D from P) e')
  unfold RV
  exact ⟨p,rfl,by show (b'.b++[p])[st.length]? = some p;rw [← hl];simp⟩
 |ex x st=>exact P
 |no=>exact P
theorem yn (i:Nat) {f:FL} {x:Str} {p':Pos} (hN:X.N.Nodup) (h:VN X E e f) (hi:X.N[i]? = some x:=by rfl) (hx:Loc X.env.scope x:=by first |exact Or.inl rfl |exact Or.inr rfl) (hs:swapsWith e (some (.Name x p')) pos.line X.env=pure false:=by rfl) (hf:X.fn x=true∨X.env.scope.names.lookup x=some .local:=by first |exact .inl rfl |exact .inr rfl |assumption) :
  VS X E (.Assign [.Name x p'] e pos) (ZH i f):=PS.imp (qDo hN hi hx h hs hf) fun D s H ⟨b,r,st,S,R,P⟩ =>
 ⟨b,r,st,S,R,PostN.bindS (k:=fun q s => .nx (r.set i (some q)) s) P fun p s1 u H1 b1 e1 S1 r1 P1=>P1 _ H1 b1 (Ext.refl _ _) S1 ((R.ext e1).set r1 i)⟩
theorem qA4 {f:FL} (h:VN X E e f):VS X E (.Return (some e) pos) (yv f):=PS.imp (qDJ h) fun D s H ⟨b,r,st,S,R,P⟩ =>
 ⟨b,r,st,S,R,PostN.bindS (k:=fun q s => .rt q s) P fun p s1 u H1 b1 e1 S1 r1 P1=>P1 u H1 b1 (Ext.refl _ _) S1 r1⟩
abbrev FG:=PV->q9->Option q9
abbrev FGs:=List PV->q9->Option q9
def rdG (K:W.Frag) (g:FG):TG:=fun v s H Q => ∃ b r p st,SR K H b st∧REnv K H b r s∧RV K H b p v ∧ ∃ r',g p r=some r' ∧ ∀ s',REnv K H b r' s'->Q s' H
def qIk (K:W.Frag) (g:FGs):TGs:=fun v s H Q => ∃ b r p st,SR K H b st∧REnv K H b r s∧RVs K H b p v ∧ ∃ r',g p r=some r' ∧ ∀ s',REnv K H b r' s'->Q s' H
abbrev VG (X:Cx) (e:Expr) (g:FG):Prop:=PG X e (rdG X.K g)
abbrev VGs (X:Cx) (e:List Expr) (g:FGs):Prop:=PGs X e (qIk X.K g)
theorem PG.imp {X:Cx} {e:Expr} {t t':TG} (h:PG X e t) (i:∀ v s H Q,t' v s H Q->t v s H Q):PG X e t':=fun pins s σ H v u Q I r q=>h pins s σ H v u Q I r (i _ _ _ _ q)
theorem PGs.imp {X:Cx} {e:List Expr} {t t':TGs} (h:PGs X e t) (i:∀ v s H Q,t' v s H Q->t v s H Q):PGs X e t':=fun pins s σ H v u Q I r q=>h pins s σ H v u Q I r (i _ _ _ _ q)
def QT (i:Nat):FG:=fun p r=>some (r.set i (some p))
theorem Q7 (i:Nat) {x:Str} (hN:X.N.Nodup) (hi:X.N[i]? = some x:=by rfl) (hx:Loc X.env.scope x:=by first |exact Or.inl rfl |exact Or.inr rfl) (hf:X.fn x=true∨X.env.scope.names.lookup x=some .local:=by first |exact .inl rfl |exact .inr rfl |assumption):VG X (.Name x pos) (QT i) :=
 PG.imp (qD9 hN hi hx hf) fun v s H Q ⟨b,r,p,st,S,R,rv,r',e,q⟩=>q _ (by cases e;exact R.set rv i)
def WW:FGs:=fun l r=>match l with
 |[]=>some r
 |_=>none
def qp (g:FG) (gs:FGs):FGs:=fun l r=>match l with
 |p::ps=>match g p r with
  |some r'=>gs ps r'
  |none=>none
 |[]=>none
theorem WQ:VGs X [] WW:=PGs.imp qEB fun v s H Q ⟨b,r,p,st,S,R,rv,r',e,q⟩=>by
 cases p with
 |nil=>unfold RVs at rv;subst rv;cases e;exact ⟨rfl,q s R⟩
 |cons _ _=>cases e
theorem QC {g:FG} {gs:FGs} (h1:VG X e g) (h2:VGs X es gs) (hs:(assignEach (e::es) X.env).map (·.2)=assign e X.env::(assignEach es X.env).map (·.2):=by rfl):VGs X (e::es) (qp g gs) :=
 PGs.imp (qDn h1 h2 hs) fun v s H Q ⟨b,r,p,st,S,R,rv,r',e,q⟩=>by
  cases p with
  |nil=>cases e
  |cons p ps =>
   unfold RVs at rv
   obtain ⟨x,xr,rfl,h3,h4⟩:=rv
   unfold qp at e
   dsimp only at e
   cases e2:g p r with
   |none=>rw [e2] at e;cases e
   |some r2 =>
    rw [e2] at e
    exact ⟨x,xr,rfl,b,r,p,st,S,R,h3,r2,e2,fun s' R'=>⟨b,r2,ps,st,S,R',h4,r',e,q⟩⟩
def WS (n:Nat) (gs:FGs):FG:=fun p r=>match p with
 | .tup l=>if l.length=n then gs l r else none
 |_=>none
theorem zH {k:Nat} {n:Nat} {gs:FGs} (hc:X.calm=true) (h:VGs X es gs) (hn:(assignEach es X.env).length=n:=by rfl) (hst:(assignEach es X.env).findIdx? (·.1)=none:=by rfl):VG X (.Tuple es k pos) (WS n gs) :=
 PG.imp (qFu hc h hn hst) fun v s H Q ⟨b,r,p,st,S,R,rv,r',e,q⟩=>by
  unfold WS at e
  split at e
  ·rename_i l
   split at e
   ·rename_i hl
    unfold RV at rv
    obtain ⟨a,xs,rfl,h2,h3⟩:=rv
    exact ⟨a,xs,rfl,h2.sq,by rw [← h3.length];exact hl,b,r,l,st,S,R,h3,r',e,q⟩
   ·cases e
  ·cases e
def qBI (f:FE) (g:FG):FS:=fun r st=>(f r st).bindS fun p s=>match g p r with
 |some r' => .nx r' s
 |none => .no
theorem qF1 {g:FG} (h:VE X E e f) (hg:VG X d g) (hs:swapsWithSole [d] e pos.line X.env=pure false:=by rfl) (hw:swappedStores [d] e X.env=pure none:=by rfl)
  (h1:(assignEach [d] X.env).map (·.2)=[assign d X.env]:=by rfl):VS X E (.Assign [d] e pos) (qBI f g):=PS.imp (qDl h hg hs hw h1) fun D s H ⟨b,r,st,S,R,P⟩ =>
 ⟨b,r,st,S,R,PostE.bindS P fun p s1 u H1 b1 e1 S1 r1 P1=>by
  cases e2:g p r with
  |none=>rw [e2] at P1;exact P1.elim
  |some r'=>rw [e2] at P1;exact ⟨b1,r,p,s1,S1,R.ext e1,r1,r',e2,fun s' R'=>P1 s' H1 b1 (Ext.refl _ _) S1 R'⟩⟩
def qIt (i j:Nat) (t:FA):FS:=fun r st=>(t r st).bindS fun l s=>match l with
 |[p,q] => .nx ((r.set i (some p)).set j (some q)) s
 |_ => .no
def Y9 (st:qC) (o i v:PV):Option qC:=match o,i with
 | .ref n,.int k=>match st[n]? with
  |some (.l xs)=>match ixN xs.length k with
   |some j=>some (st.set n (.l (xs.set j v)))
   |none=>none
  |_=>none
 |_,_=>none
def qDe (fo fi f:FE):FS:=fun r st=>(f r st).bindS fun p s1=>(fo r s1).bindS fun o s2=>(fi r s2).bindS fun i s3=>match Y9 s3 o i p with
 |some s4 => .nx r s4
 |none => .no
theorem qDh {K:W.Frag} {H:Hp} {b:Bz} {st st':qC} {o i p:PV} {ov iv v:V} {Q:Hp->Prop} (S:SR K H b st) (ro:RV K H b o ov) (ri:RV K H b i iv) (rp:RV K H b p v) (e:Y9 st o i p=some st')
  (q:∀ H' b',Ext H b H' b'->SR K H' b' st'->Q H'):qFX ov iv v H Q:=by
 unfold Y9 at e
 split at e
 ·rename_i n k
  split at e
  ·rename_i xs e1
   split at e
   ·rename_i j e2
    cases e
    unfold RV at ro ri
    obtain ⟨a,rfl,ha⟩:=ro
    obtain ⟨a',o',h1,h2,vs,rfl,h4⟩:=S.at_ n _ e1
    rw [ha] at h1;cases h1
    have hm:a∈b.b:=List.mem_of_getElem? ha
    refine ⟨a,vs,k,j,rfl,ri,h2,by rw [← h4.length];exact e2,q _ b (Ext.wr hm S.zb (qFx h2)) (S.wr (x := .l (xs.set j p)) ha ⟨_,rfl,?_⟩)⟩
    have ew:Ext H b (upd H a (.lst (vs.set j v))) b:=Ext.wr hm S.zb (qFx h2)
    exact RVs.set (RV.ext ew p rp) j (RVs.ext ew xs h4)
   ·cases e
  ·cases e
 ·cases e
theorem qGM {fo fi:FE} {o i:Expr} {tpos:Pos} (ho:VE X E o fo) (hi:VE X E i fi) (h:VE X E e f)
  (hs:swapsWithSole [.Subscript o i tpos] e pos.line X.env=pure false:=by rfl) (hw:swappedStores [.Subscript o i tpos] e X.env=pure none:=by rfl) (h1:(assignEach [.Subscript o i tpos] X.env).map (·.2)=[assign (.Subscript o i tpos) X.env]:=by rfl)
  (ha:∀ v,assign (.Subscript o i tpos) X.env v=(do
   let ov ← holding [v] (eval o X.env)
   let iv ← holding [v,ov] (eval i X.env)
   standAt tpos
   holding [v,ov,iv] (setItem ov iv v)
   release [v,ov,iv] []):=by intro _;rfl):VS X E (.Assign [.Subscript o i tpos] e pos) (qDe fo fi f) :=
 PS.imp (qDl h (qG2 ho hi qDq ha) hs hw h1) fun D s H ⟨b,r,st,S,R,P⟩=>⟨b,r,st,S,R,PostE.bindS P fun p s1 u H1 b1 e1 S1 r1 P1 =>
  ⟨b1,r,s1,S1,R.ext e1,PostE.bindS P1 fun o s2 ou H2 b2 e2 S2 r2 P2=>⟨b2,r,s2,S2,(R.ext e1).ext e2,PostE.bindS P2 fun i s3 iu H3 b3 e3 S3 r3 P3=>by
   split at P3
   ·rename_i s4 e4
    exact qDh S3 (RV.ext e3 o r2) r3 (RV.ext e3 p (RV.ext e2 p r1)) e4 fun H' b' e' S'=>P3 s H' b' e' S' ((((R.ext e1).ext e2).ext e3).ext e')
   ·exact P3.elim⟩⟩⟩
structure ItP where
 l:List PV
 G:qC->Prop
def yg (K:W.Frag) (H0:Hp) (b0:Bz) (J:It) (w:ItP):Prop := ∀ H1 b1 st1,WE H0 b0 H1 b1->SR K H1 b1 st1->w.G st1 ->
 (∀ (i:Nat) (p:PV),w.l[i]? = some p->J.go i H1 ∧ ∀ x H2,J.yld i H1 x H2->Same H1 H2∧SR K H2 b1 st1∧RV K H2 b1 p x) ∧ ∀ i,w.l.length≤i->J.stop i H1
def PostI (K:W.Frag) (E:XK) (H:Hp) (b:Bz) (r:Rs ItP) (R:It->Hp->Prop):Prop:=match r with
 | .ok w st => ∀ J H' b',Ext H b H' b'->SR K H' b' st->yg K H' b' J w->R J H'
 | .ex x st=>XP K E H b x st
 | .no=>False
abbrev FI:=q9->qC->Rs ItP
def rdI (K:W.Frag) (E:XK) (f:FI):TI:=fun s H R => ∃ b r st,SR K H b st∧REnv K H b r s∧PostI K E H b (f r st) R
abbrev VI (X:Cx) (E:XK) (tg e:Expr) (f:FI):Prop:=PI X tg e (rdI X.K E f)
theorem PostI.ext {K:W.Frag} {E:XK} {H H1:Hp} {b b1:Bz} {r:Rs ItP} {R:It->Hp->Prop} (h:PostI K E H b r R) (e:Ext H b H1 b1):PostI K E H1 b1 r R:=by
 cases r with
 |ok p st=>exact fun J H' b' e'=>h J H' b' (e.trans e')
 |ex x st=>exact XP.ext h e
 |no=>exact h
theorem PostE.bindI {K:W.Frag} {E:XK} {H:Hp} {b:Bz} {r:Rs PV} {k:PV->qC->Rs ItP} {Q:It->Hp->Prop} {R:VK} (P:PostI K E H b (r.bind k) Q)
  (h:∀ p st v H1 b1,Ext H b H1 b1->SR K H1 b1 st->RV K H1 b1 p v->PostI K E H1 b1 (k p st) Q->R v H1):PostE K E H b r R:=by
 cases r with
 |ok p st=>exact fun v H1 b1 e S r=>h p st v H1 b1 e S r (PostI.ext (show PostI K E H b (k p st) Q from P) e)
 |ex x st=>exact P
 |no=>exact P
theorem PostA.bindI {K:W.Frag} {E:XK} {H:Hp} {b:Bz} {r:Rs (List PV)} {k:List PV->qC->Rs ItP} {Q:It->Hp->Prop} {R:List V->Hp->Prop} (P:PostI K E H b (r.bind k) Q)
  (h:∀ p st v H1 b1,Ext H b H1 b1->SR K H1 b1 st->RVs K H1 b1 p v->PostI K E H1 b1 (k p st) Q->R v H1):PostA K E H b r R:=by
 cases r with
 |ok p st=>exact fun v H1 b1 e S r=>h p st v H1 b1 e S r (PostI.ext (show PostI K E H b (k p st) Q from P) e)
 |ex x st=>exact P
 |no=>exact P
def qE6 (p:PV) (st:qC):Rs ItP:=match p with
 | .ref i=>match asL st (.ref i) with
  |some l => .ok ⟨l,fun s=>s[i]? = some (.l l)⟩ st
  |none => .no
 |p=>match zM st p with
  |some l => .ok ⟨l,fun _=>True⟩ st
  |none => .no
def QA (f:FE):FI:=fun r st=>(f r st).bind qE6
theorem qGT {l tg:Expr} {tl:TE} (hl:PE X l tl):PI X tg l (fun σ H R=>tl σ H fun x H1 => ∃ a,x = .ref a∧(((∃ xs,SqL X.K H1 a xs)∧R (Itl X.K a) H1)∨((∃ xs,SqT X.K H1 a xs)∧R (Itt X.K a) H1))):=by
 intro pins s σ H R I h
 refine thn (hl pins s σ H _ I h) fun v s1 ⟨x,H1,I1,r1,q1⟩ => ?_
 obtain ⟨a,e,q⟩:=q1
 subst e
 cases r1
 rcases q with ⟨⟨xs,hq⟩,q⟩ |⟨⟨xs,hq⟩,q⟩
 ·obtain ⟨its,rv,p,hz⟩:=I1.list hq
  refine wpAny_pyIter_list p.isList ?_
  refine ⟨s1.heap.objs.size,[s1.heap.objs.size],_,_,H1,rfl,I1.kept (t':=s1.toks) fun b o e=>Heap.get?_push_of_some _ e,qBo a _,⟨_,Heap.get?_push_size _ rfl,rfl,rfl⟩,fun b hb => ?_,q⟩
  have e:b=s1.heap.objs.size:=by simpa using hb
  subst e
  exact I1.fpOk (Nat.le_refl _) (I1.hok.fresh (Nat.le_refl _))
 ·obtain ⟨its,rv,p,hz⟩:=I1.tuple hq
  refine wpAny_pyIter_tuple (show s1.heap.IsTuple a its.toArray from p) ?_
  refine ⟨s1.heap.objs.size,[s1.heap.objs.size],_,_,H1,rfl,I1.kept (t':=s1.toks) fun b o e=>Heap.get?_push_of_some _ e,qAU a _,⟨_,Heap.get?_push_size _ rfl,rfl,rfl⟩,fun b hb => ?_,q⟩
  have e:b=s1.heap.objs.size:=by simpa using hb
  subst e
  exact I1.fpOk (Nat.le_refl _) (I1.hok.fresh (Nat.le_refl _))
theorem Yo {K:W.Frag} {H0:Hp} {b0:Bz} {a:Addr} {l:List PV} {G:qC->Prop}
  (h:∀ H1 b1 st1,WE H0 b0 H1 b1->SR K H1 b1 st1->G st1 -> ∃ xs,SqL K H1 a xs∧RVs K H1 b1 l xs):yg K H0 b0 (Itl K a) ⟨l,G⟩:=by
 intro H1 b1 st1 e S g
 obtain ⟨xs,hq,r⟩:=h H1 b1 st1 e S g
 refine ⟨fun i p hp => ?_,fun i hi=>⟨xs,hq,by rw [← r.length];exact hi⟩⟩
 obtain ⟨x,hx,rx⟩:=r.get hp
 exact ⟨⟨xs,x,hq,hx⟩,fun y H2 ⟨e2,hy⟩=>by
  subst e2
  have:=hy xs hq
  rw [hx] at this;cases this
  exact ⟨Same.refl _,S,rx⟩⟩
theorem qCe {K:W.Frag} {H0:Hp} {b0:Bz} {a:Addr} {l:List PV} {G:qC->Prop}
  (h:∀ H1 b1 st1,WE H0 b0 H1 b1->SR K H1 b1 st1->G st1 -> ∃ xs,SqT K H1 a xs∧RVs K H1 b1 l xs):yg K H0 b0 (Itt K a) ⟨l,G⟩:=by
 intro H1 b1 st1 e S g
 obtain ⟨xs,hq,r⟩:=h H1 b1 st1 e S g
 refine ⟨fun i p hp => ?_,fun i hi=>⟨xs,hq,by rw [← r.length];exact hi⟩⟩
 obtain ⟨x,hx,rx⟩:=r.get hp
 exact ⟨⟨xs,x,hq,hx⟩,fun y H2 ⟨e2,hy⟩=>by
  subst e2
  have:=hy xs hq
  rw [hx] at this;cases this
  exact ⟨Same.refl _,S,rx⟩⟩
theorem wI {tg:Expr} (h:VE X E e f):VI X E tg e (QA f):=fun pins s σ H R I q=>qGT h pins s σ H R I (by
 obtain ⟨b,r,st,S,RE,P⟩:=q
 refine ⟨b,r,st,S,RE,PostE.bindI P fun p s1 u H1 b1 e1 S1 r1 P1 => ?_⟩
 unfold qE6 at P1
 split at P1
 ·rename_i i
  split at P1
  ·rename_i l el
   have r0:=r1
   unfold RV at r1
   obtain ⟨a,rfl,ha⟩:=r1
   obtain ⟨a',xs,e2,hq,hr⟩:=QX S1 r0 el
   cases e2
   refine ⟨a,rfl,.inl ⟨⟨xs,hq⟩,P1 _ H1 b1 (Ext.refl _ _) S1 (Yo fun H2 b2 st2 e2 S2 g2 => ?_)⟩⟩
   obtain ⟨a'',o,k1,k2,vs,rfl,k4⟩:=S2.at_ i _ g2
   rw [e2.ix ha] at k1;cases k1
   exact ⟨vs,SqL.of k2,k4⟩
  ·exact P1.elim
 ·split at P1
  ·rename_i l el
   cases p with
   |tup m =>
    have em:m=l:=Option.some.inj el
    subst em
    unfold RV at r1
    obtain ⟨a,xs,rfl,h2,h3⟩:=r1
    exact ⟨a,rfl,.inr ⟨⟨xs,h2.sq⟩,P1 _ H1 b1 (Ext.refl _ _) S1 (qCe fun H2 b2 st2 e2 S2 _=>⟨xs,(h2.wext e2).sq,RVs.wext e2 m h3⟩)⟩⟩
   |lst m =>
    have em:m=l:=Option.some.inj el
    subst em
    unfold RV at r1
    obtain ⟨a,xs,rfl,h2,h3⟩:=r1
    exact ⟨a,rfl,.inl ⟨⟨xs,h2.sq⟩,P1 _ H1 b1 (Ext.refl _ _) S1 (Yo fun H2 b2 st2 e2 S2 _=>⟨xs,(h2.wext e2).sq,RVs.wext e2 m h3⟩)⟩⟩
   |ref i=>rename_i hx;exact (hx i rfl).elim
   |_=>cases el
  ·exact P1.elim)
def YF (lo hi:Int):List PV:=(List.range (hi - lo).toNat).map fun (i:Nat)=>PV.int (lo + (i:Int))
def yT (l:List PV) (st:qC):Rs ItP:=match l with
 |[.int j]=>if -(2 ^ 62)≤j∧j < 2 ^ 62 then .ok ⟨YF 0 j,fun _=>True⟩ st else .no
 |_ => .no
def jD (l:List PV) (st:qC):Rs ItP:=match l with
 |[.int i,.int j]=>if -(2 ^ 62)≤i∧i < 2 ^ 62 ∧ -(2 ^ 62)≤j∧j < 2 ^ 62 then .ok ⟨YF i j,fun _=>True⟩ st else .no
 |_ => .no
theorem JD {K:W.Frag} {H0:Hp} {b0:Bz} {lo hi:Int}:yg K H0 b0 (Itr lo (hi - lo).toNat) ⟨YF lo hi,fun _=>True⟩:=by
 intro H1 b1 st1 e S g
 have hl:(YF lo hi).length=(hi - lo).toNat:=by simp [YF]
 refine ⟨fun i p hp => ?_,fun i hi'=>by rw [show (ItP.mk (YF lo hi) fun _=>True).l.length=(hi - lo).toNat from hl] at hi';exact hi'⟩
 have hi':i < (hi - lo).toNat:=by
  have:=(List.getElem?_eq_some_iff.mp hp).1
  rw [← hl];exact this
 unfold YF at hp
 dsimp only at hp
 rw [List.getElem?_map,List.getElem?_range hi'] at hp
 cases hp
 exact ⟨hi',fun x H2 ⟨e1,e2⟩=>by subst e1;subst e2;exact ⟨Same.refl _,S,Qr⟩⟩
def Wq (t:FA):FI:=fun r st=>(t r st).bind yT
def ZY (t:FA):FI:=fun r st=>(t r st).bind jD
theorem zA {tg:Expr} {t:FA} {p:Pos} (hg:Gl X "range") (hm:X.mg "range" = none) (ha:VA X E [a] t) (hs:starEach [a] X.env=[(false,eval a X.env)]:=by rfl):VI X E tg (.Call (.Name "range" p) [a] [] pos) (Wq t):=fun pins s σ H R I q=>qCB hg hm ha hs pins s σ H R I (by
 obtain ⟨b,r,st,S,RE,P⟩:=q
 refine ⟨b,r,st,S,RE,PostA.bindI P fun l s1 us H1 b1 e1 S1 r1 P1 => ?_⟩
 unfold yT at P1
 split at P1
 ·obtain ⟨u,rfl,h1⟩:=RVs.one r1
  unfold RV at h1;subst h1
  split at P1
  ·rename_i j hj
   refine ⟨j,rfl,hj.1,hj.2,?_⟩
   have:=P1 (Itr 0 (j - 0).toNat) H1 b1 (Ext.refl _ _) S1 JD
   rw [Int.sub_zero] at this
   exact this
  ·exact P1.elim
 ·exact P1.elim)
theorem yO {tg:Expr} {t:FA} {p:Pos} (hg:Gl X "range") (hm:X.mg "range" = none) (ha:VA X E [a,c] t) (hs:starEach [a,c] X.env=[(false,eval a X.env),(false,eval c X.env)]:=by rfl) (hs2:starEach [c] X.env=[(false,eval c X.env)]:=by rfl):VI X E tg (.Call (.Name "range" p) [a,c] [] pos) (ZY t):=fun pins s σ H R I q=>qBZ hg hm ha hs hs2 pins s σ H R I (by
 obtain ⟨b,r,st,S,RE,P⟩:=q
 refine ⟨b,r,st,S,RE,PostA.bindI P fun l s1 us H1 b1 e1 S1 r1 P1 => ?_⟩
 unfold jD at P1
 split at P1
 ·obtain ⟨u,v,rfl,h1,h2⟩:=RVs.two r1
  unfold RV at h1 h2;subst h1;subst h2
  split at P1
  ·rename_i i j hj
   exact ⟨i,j,rfl,hj,P1 _ H1 b1 (Ext.refl _ _) S1 JD⟩
  ·exact P1.elim
 ·exact P1.elim)
theorem PSs.unbare {X:Cx} {st:List Stmt} {t:TS} (h:PSs X.nox st t) {pins:List (Addr×Obj)} {s:Shared} {σ:L2.St} {H:Hp} {D:Ends} {E:Value->Shared->Prop} (I:L2.Inv X pins σ H s) (q:t D σ H):wpAny (model X.prog X.w) X.A (execs st X.env) (SP X pins D) E s :=
 wpAny_noRaise (thn (h pins s σ H D (I.wish _) q) fun f s' hs=>hs.unwish)
theorem PG.unbare {X:Cx} {tg:Expr} {t:TG} (h:PG X.nox tg t) {pins:List (Addr×Obj)} {s:Shared} {σ:L2.St} {H:Hp} {v:V} {u:Value} {Q:L2.St->Hp->Prop} {E:Value->Shared->Prop} (I:L2.Inv X pins σ H s) (r:RelV v u) (q:t v σ H Q):wpAny (model X.prog X.w) X.A (assign tg X.env u) (fun _ s' => ∃ σ' H',L2.Inv X pins σ' H' s'∧Q σ' H') E s :=
 wpAny_noRaise (thn (h pins s σ H v u Q (I.wish _) r q) fun f s' ⟨σ',H',I',q'⟩=>⟨σ',H',I'.unwish,q'⟩)
theorem qEk {tg iter:Expr} {body:List Stmt} {wi:TI} {g:TG} {tb:TS} {pos:Pos} (hi:PI X tg iter wi) (hg:PG X.nox tg g) (hb:PSs X.nox body tb)
  (hs:∀ x,foldedSetIterable iter X.env x=pure x:=by intro _;rfl):PS X (.For tg iter body [] pos) (qIX wi g tb):=by
 intro pins s σ H D I h
 refine wpAny_For (thn (hi pins s σ H _ I h) fun v s1 h1=>thn h1 fun itv s2 h2 => ?_) hs
 obtain ⟨it,fp,tn,J,H2,e,I2,T,st2,f2,W,⟨m0,w0⟩,turn⟩:=h2
 subst e
 have stat:∀ {H':Hp},(∀ b∈fp,H' b=none) -> ∀ b∈fp,Zi X pins H' b:=fun hn b hb=>⟨hn b hb,(f2 b hb).2⟩
 refine codeAny_forLoop_any (fun n s' => ∃ i σ' H',L2.Inv X pins σ' H' s'∧tn i s'.heap∧(∀ b∈fp,H' b=none)∧W i n σ' H') ?_ m0 ⟨0,σ,H2,I2,st2,fun b hb=>(f2 b hb).1,w0⟩
 rintro n s3 ⟨i,σ3,H3,I3,st3,fr3,w3⟩
 rcases turn i n σ3 H3 w3 with ⟨stop,qn⟩ |⟨go,N,hN,step⟩
 ·refine thn (T.done X rfl rfl rfl rfl i pins s3 σ3 H3 _ I3 (stat fr3) st3 stop) fun r s4 ⟨hr,I4⟩ => ?_
  subst hr
  exact wpAny_execs_nil ⟨σ3,H3,I4,qn⟩
 ·refine thn (T.item X rfl rfl rfl rfl i pins s3 σ3 H3 _ I3 (stat fr3) st3 go) fun r s4 ⟨u,hr,h4⟩ => ?_
  subst hr
  refine thn h4 fun _ s5 ⟨x,H5,I5,r5,y5,st5,fr5⟩ => ?_
  have I5':=I5.pinned (stat fr5) (T.obj _ _ st5)
  refine thn (PG.unbare hg I5' r5 (step x H5 y5)) fun _ s6 ⟨σ6,H6,I6,q6⟩ => ?_
  refine thn (PSs.unbare hb I6 q6) fun f s7 q7 => ?_
  have again:∀ {σ7:L2.St} {H7:Hp},L2.Inv X (pins++Ze fp s5.heap) σ7 H7 s7->N σ7 H7 -> ∃ m,m < n ∧ ∃ i σ' H',L2.Inv X pins σ' H' s7∧tn i s7.heap∧(∀ b∈fp,H' b=none)∧W i m σ' H':=fun {σ7 H7} I7 n7=>by
   obtain ⟨m',hm,w7⟩:=hN σ7 H7 n7
   refine ⟨m',hm,i + 1,σ7,H7,I7.unpinned,T.keep _ _ _ st5 fun b hb o e=>(I7.pin (b,o) (List.mem_append_right _ (List.mem_append_right _ (zJ hb e)))).1,fun b hb => ?_,w7⟩
   obtain ⟨o,e,d⟩:=T.obj _ _ st5 b hb
   exact (I7.pin (b,o) (List.mem_append_right _ (List.mem_append_right _ (zJ hb e)))).2.1
  cases f with
  |next=>obtain ⟨σ7,H7,I7,n7⟩:=q7;exact again I7 n7
  |cont=>obtain ⟨σ7,H7,I7,n7⟩:=q7;exact again I7 n7
  |brk=>obtain ⟨σ7,H7,I7,q7⟩:=q7;exact ⟨σ7,H7,I7.unpinned,q7⟩
  |ret v=>obtain ⟨x7,σ7,H7,I7,r7,q7⟩:=q7;exact ⟨x7,σ7,H7,I7.unpinned,r7,q7⟩
open Classical in
noncomputable def Qs (G:qC->Prop) (g:FG) (F:FS):List PV->q9->qC->RS
 |[],r,st=>if G st then .nx r st else .no
 |p::ps,r,st=>if G st then
   match g p r with
   |none => .no
   |some r1=>match F r1 st with
    | .nx r2 s2=>Qs G g F ps r2 s2
    | .ct r2 s2=>Qs G g F ps r2 s2
    | .bk r2 s2 => .nx r2 s2
    | .rt v s2 => .rt v s2
    | .ex _ _ => .no
    | .no => .no
  else .no
noncomputable def WN (fi:FI) (g:FG) (F:FS):FS:=fun r st=>(fi r st).bindS fun w s=>Qs w.G g F w.l r s
theorem PostI.bindS {K:W.Frag} {E:XK} {H:Hp} {b:Bz} {r:Rs ItP} {k:ItP->qC->RS} {D:Ends} {R:It->Hp->Prop} (P:PostS K E H b (r.bindS k) D)
  (h:∀ w st J H1 b1,Ext H b H1 b1->SR K H1 b1 st->yg K H1 b1 J w->PostS K E H1 b1 (k w st) D->R J H1):PostI K E H b r R:=by
 cases r with
 |ok p st=>exact fun J H1 b1 e S r=>h p st J H1 b1 e S r (PostS.ext (show PostS K E H b (k p st) D from P) e)
 |ex x st=>exact P
 |no=>exact P
theorem zf {tg iter:Expr} {body:List Stmt} {fi:FI} {g:FG} (hi:VI X E tg iter fi) (hg:VG X.nox tg g) (hb:VSs X.nox E0 body F) (hs:∀ x,foldedSetIterable iter X.env x=pure x:=by intro _;rfl):VS X E (.For tg iter body [] pos) (WN fi g F):=by
 refine PS.imp (qEk hi hg hb hs) fun D s H ⟨b,r,st,S,R,P⟩ => ?_
 refine ⟨b,r,st,S,R,PostI.bindS P fun w st1 J H1 b1 e1 S1 it P1 => ?_⟩
 refine ⟨fun i m σ' H' => ∃ b2 r2 st2,Ext H1 b1 H' b2∧SR X.K H' b2 st2∧REnv X.K H' b2 r2 σ'∧m=w.l.length + 1 - i∧i≤w.l.length∧PostS X.K E H' b2 (Qs w.G g F (w.l.drop i) r2 st2) D,⟨w.l.length + 1,b1,r,st1,Ext.refl _ _,S1,R.ext e1,by omega,Nat.zero_le _,by simpa using P1⟩,?_⟩
 rintro i m σ' H' ⟨b2,r2,st2,e2,S2,R2,hm,hi',P2⟩
 by_cases hlt:i < w.l.length
 ·have hd:w.l.drop i=w.l[i]::w.l.drop (i + 1):=List.drop_eq_getElem_cons hlt
  rw [hd] at P2
  unfold Qs at P2
  by_cases hG:w.G st2
  ·rw [if_pos hG] at P2
   obtain ⟨h1,h2⟩:=it H' b2 st2 e2.toWE S2 hG
   obtain ⟨go,yl⟩:=h1 i w.l[i] (List.getElem?_eq_getElem hlt)
   refine .inr ⟨go,fun σ3 H3 => ∃ b3 r3 st3,Ext H1 b1 H3 b3∧SR X.K H3 b3 st3∧REnv X.K H3 b3 r3 σ3∧PostS X.K E H3 b3 (Qs w.G g F (w.l.drop (i + 1)) r3 st3) D,?_,?_⟩
   ·rintro σ3 H3 ⟨b3,r3,st3,k1,k2,k3,k4⟩
    exact ⟨w.l.length + 1 - (i + 1),by omega,b3,r3,st3,k1,k2,k3,rfl,hlt,k4⟩
   ·intro x H3 hx
    obtain ⟨e3',S3,r3⟩:=yl x H3 hx
    have e3:Ext H' b2 H3 b2:=Ext.of_same e3'
    cases eg:g w.l[i] r2 with
    |none=>rw [eg] at P2;exact P2.elim
    |some r4 =>
     rw [eg] at P2
     refine ⟨b2,r2,w.l[i],st2,S3,R2.ext e3,r3,r4,eg,fun s4 R4=>⟨b2,r4,st2,S3,R4,?_⟩⟩
     have P3:=PostS.ext P2 e3
     dsimp only at P3
     have e13:=e2.trans e3
     cases eF:F r4 st2 with
     |nx r5 s5=>rw [eF] at P3;exact fun s6 H6 b6 e6 S6 R6=>⟨b6,r5,s5,e13.trans e6,S6,R6,PostS.ext P3 e6⟩
     |ct r5 s5=>rw [eF] at P3;exact fun s6 H6 b6 e6 S6 R6=>⟨b6,r5,s5,e13.trans e6,S6,R6,PostS.ext P3 e6⟩
     |bk r5 s5=>rw [eF] at P3;exact P3
     |rt v s5=>rw [eF] at P3;exact P3
     |ex x s5=>rw [eF] at P3;exact P3.elim
     |no=>rw [eF] at P3;exact P3.elim
  ·rw [if_neg hG] at P2;exact P2.elim
 ·have hl:i=w.l.length:=by omega
  subst hl
  rw [List.drop_length] at P2
  unfold Qs at P2
  by_cases hG:w.G st2
  ·rw [if_pos hG] at P2
   obtain ⟨h1,h2⟩:=it H' b2 st2 e2.toWE S2 hG
   exact .inl ⟨h2 _ (Nat.le_refl _),P2 σ' H' b2 (Ext.refl _ _) S2 R2⟩
  ·rw [if_neg hG] at P2;exact P2.elim
end
theorem QM {x n:Str} {a c:Addr} {r:List (Str×Addr)} (h:List.lookup x ((n,a)::r)=some c):(x=n∧a=c)∨(x≠n∧List.lookup x r=some c):=by
 rw [List.lookup_cons] at h
 cases hb:x==n with
 |true=>rw [hb] at h;exact .inl ⟨beq_iff_eq.mp hb,Option.some.inj h⟩
 |false=>rw [hb] at h;exact .inr ⟨fun z=>(by rw [beq_iff_eq.mpr z] at hb;cases hb),h⟩
theorem Q4 {x:Str} {c:Addr}:∀ {names:List (Str×NameKind)} {n:Nat} {acc:List (Str×Addr)},(cellsFrom n names acc).lookup x=some c->(n≤c∧(x,NameKind.cell)∈names)∨acc.lookup x=some c
 |[],_,_,h => .inr h
 |(nm,k)::r,n,acc,h=>by
  unfold cellsFrom at h
  split at h
  ·rename_i hk
   have hk':k = .cell:=by simpa using hk
   rcases Q4 h with ⟨h1,h2⟩ |h1
   ·exact .inl ⟨Nat.le_of_succ_le h1,List.mem_cons_of_mem _ h2⟩
   ·rcases QM h1 with ⟨e1,e2⟩ |⟨_,e2⟩
    ·exact .inl ⟨Nat.le_of_eq e2,by rw [e1,hk'];exact List.mem_cons_self⟩
    ·exact .inr e2
  ·rcases Q4 h with ⟨h1,h2⟩ |h1
   ·exact .inl ⟨h1,List.mem_cons_of_mem _ h2⟩
   ·exact .inr h1
theorem Wy {x:Str} {c:Addr} {n0:Nat}:∀ {names:List (Str×NameKind)} {n:Nat} {acc:List (Str×Addr)},n0≤n->((∃ a,acc.lookup x=some a∧n0≤a)∨(x,NameKind.cell)∈names)->(cellsFrom n names acc).lookup x=some c->n0≤c
 |[],_,acc,_,h,e=>by
  rcases h with ⟨a,h1,h2⟩ |h
  ·have:acc.lookup x=some c:=e
   rw [h1] at this;cases this;exact h2
  ·exact absurd h (by simp)
 |(nm,k)::r,n,acc,hn,h,e=>by
  unfold cellsFrom at e
  split at e
  ·rename_i hk
   refine Wy (n:=n + 1) (Nat.le_succ_of_le hn) ?_ e
   by_cases hx:x=nm
   ·exact .inl ⟨n,by rw [List.lookup_cons,hx,beq_self_eq_true],hn⟩
   ·rcases h with ⟨a,h1,h2⟩ |h
    ·exact .inl ⟨a,by rw [List.lookup_cons,beq_false_of_ne hx];exact h1,h2⟩
    ·rcases List.mem_cons.mp h with q |q
     ·exact absurd (Prod.mk.inj q).1 hx
     ·exact .inr q
  ·rename_i hk
   refine Wy hn ?_ e
   rcases h with h |h
   ·exact .inl h
   ·rcases List.mem_cons.mp h with q |q
    ·exact absurd (by rw [← (Prod.mk.inj q).2];rfl) hk
    ·exact .inr q
theorem W1 {x y:Str} {c:Addr}:∀ {names:List (Str×NameKind)} {n:Nat} {acc:List (Str×Addr)},(∀ z a,acc.lookup z=some a->a < n)->(cellsFrom n names acc).lookup x=some c->(cellsFrom n names acc).lookup y=some c ->
  x=y∨(acc.lookup x=some c∧acc.lookup y=some c)
 |[],_,_,_,h1,h2 => .inr ⟨h1,h2⟩
 |(nm,k)::r,n,acc,hb,h1,h2=>by
  unfold cellsFrom at h1 h2
  split at h1
  ·rename_i hk
   rw [if_pos hk] at h2
   have hb':∀ z a,List.lookup z ((nm,n)::acc)=some a->a < n + 1:=fun z a h=>by
    rcases QM h with ⟨_,e⟩ |⟨_,e⟩
    ·rw [← e];exact Nat.lt_succ_self _
    ·exact Nat.lt_succ_of_lt (hb z a e)
   rcases W1 hb' h1 h2 with e |⟨e1,e2⟩
   ·exact .inl e
   ·rcases QM e1 with ⟨p1,p2⟩ |⟨p1,p2⟩ <;> rcases QM e2 with ⟨q1,q2⟩ |⟨q1,q2⟩
    ·exact .inl (p1.trans q1.symm)
    ·exact absurd (hb y c q2) (by rw [← p2];exact Nat.lt_irrefl _)
    ·exact absurd (hb x c p2) (by rw [← q2];exact Nat.lt_irrefl _)
    ·exact .inr ⟨p2,q2⟩
  ·rename_i hk
   rw [if_neg hk] at h2
   exact W1 hb h1 h2
theorem WB {x:Str}:∀ {names:List (Str×NameKind)} {n:Nat} {acc:List (Str×Addr)},((∃ a,acc.lookup x=some a)∨(x,NameKind.cell)∈names) -> ∃ c,(cellsFrom n names acc).lookup x=some c
 |[],_,_,h=>h.elim (fun h=>h) fun h=>absurd h (by simp)
 |(nm,k)::r,n,acc,h=>by
  unfold cellsFrom
  split
  ·rename_i hk
   refine WB ?_
   by_cases hx:x=nm
   ·exact .inl ⟨n,by rw [List.lookup_cons,hx,beq_self_eq_true]⟩
   ·rcases h with ⟨a,h1⟩ |h
    ·exact .inl ⟨a,by rw [List.lookup_cons,beq_false_of_ne hx];exact h1⟩
    ·rcases List.mem_cons.mp h with q |q
     ·exact absurd (Prod.mk.inj q).1 hx
     ·exact .inr q
  ·rename_i hk
   refine WB ?_
   rcases h with h |h
   ·exact .inl h
   ·rcases List.mem_cons.mp h with q |q
    ·exact absurd (by rw [← (Prod.mk.inj q).2];rfl) hk
    ·exact .inr q
theorem WY {x:Str} {c:Addr}:∀ {names:List (Str×NameKind)} {h:Heap} {acc:List (Str×Addr)},(cellsFrom h.objs.size names acc).lookup x=some c->(∃ o,acc.lookup x=some c∧o=())∨(pushCells h names).IsCell c none
 |[],_,_,e => .inl ⟨(),e,rfl⟩
 |(nm,k)::r,h,acc,e=>by
  unfold cellsFrom at e
  unfold pushCells
  split at e
  ·rename_i hk
   rw [if_pos hk]
   have e':(cellsFrom (h.push { cls := .type "cell",data := .cell none }).objs.size r ((nm,h.objs.size)::acc)).lookup x=some c:=by rw [Heap.size_push];exact e
   rcases WY e' with ⟨_,q,_⟩ |q
   ·rcases QM q with ⟨_,e2⟩ |⟨_,e2⟩
    ·subst e2
     exact .inr ⟨_,pushCells_keeps _ _ _ _ (Heap.get?_push_size _ rfl),rfl⟩
    ·exact .inl ⟨(),e2,rfl⟩
   ·exact .inr q
  ·rename_i hk
   rw [if_neg hk]
   exact WY e
def clF (env:Env):List (Str×NameKind)->List (Str×Addr)->List (Str×Addr)
 |[],acc=>acc
 |(n,k)::r,acc=>if k == .free then clF env r ((n,(env.cells.lookup n).getD 0)::acc) else clF env r acc
theorem qDx {env:Env} (f:Str×NameKind->List (Str×Addr)->Sem (ForInStep (List (Str×Addr))))
  (hf:∀ n k acc,f (n,k) acc=if k == .free then (do let a ← cellOf env n;pure (.yield ((n,a)::acc))) else pure (.yield acc)) :
  ∀ (names:List (Str×NameKind)) (acc:List (Str×Addr)),(∀ x∈names,x.2 = .free -> ∃ c,env.cells.lookup x.1=some c)->forIn names acc f=(pure (clF env names acc):Sem _)
 |[],acc,_=>by rw [List.forIn_nil];rfl
 |(n,k)::r,acc,h=>by
  rw [List.forIn_cons,hf]
  unfold clF
  have ih:=fun a=>qDx f hf r a fun x hx=>h x (List.mem_cons_of_mem _ hx)
  split
  ·rename_i hk
   have hk':k = .free:=by simpa using hk
   obtain ⟨c,e⟩:=h (n,k) List.mem_cons_self hk'
   have ec:cellOf env n=pure c:=by unfold cellOf;rw [show env.cells.lookup n=some c from e]
   rw [ec]
   simp only [pure_bind]
   rw [ih,show env.cells.lookup n=some c from e];rfl
  ·simp only [pure_bind]
   exact ih acc
theorem yx {scope:Scope} {env:Env} (h:∀ x∈scope.names,x.2 = .free -> ∃ c,env.cells.lookup x.1=some c):closureFor scope env=pure (clF env scope.names []):=by
 unfold closureFor
 dsimp only
 rw [qDx _ (fun n k acc=>by cases hk:k==NameKind.free <;> simp [hk]) _ _ h]
 rfl
theorem YW {env:Env} {x:Str} {c:Addr}:∀ {names:List (Str×NameKind)} {acc:List (Str×Addr)},(∀ y∈names,y.2 = .free -> ∃ c,env.cells.lookup y.1=some c)->(clF env names acc).lookup x=some c->env.cells.lookup x=some c∨acc.lookup x=some c
 |[],_,_,e => .inr e
 |(n,k)::r,acc,h,e=>by
  unfold clF at e
  have h':=fun y hy=>h y (List.mem_cons_of_mem _ hy)
  split at e
  ·rename_i hk
   have hk':k = .free:=by simpa using hk
   obtain ⟨a,ea⟩:=h (n,k) List.mem_cons_self hk'
   rcases YW h' e with q |q
   ·exact .inl q
   ·rcases QM q with ⟨e1,e2⟩ |⟨_,e2⟩
    ·rw [show env.cells.lookup n=some a from ea] at e2
     exact .inl (by rw [e1,show env.cells.lookup n=some a from ea];exact congrArg some e2)
    ·exact .inr e2
  ·exact YW h' e
theorem ym {env:Env} {x:Str}:∀ {names:List (Str×NameKind)} {acc:List (Str×Addr)},((x,NameKind.free)∈names ∨ ∃ a,acc.lookup x=some a) -> ∃ c,(clF env names acc).lookup x=some c
 |[],_,h=>h.elim (fun h=>absurd h (by simp)) fun h=>h
 |(n,k)::r,acc,h=>by
  unfold clF
  split
  ·refine ym ?_
   by_cases hx:x=n
   ·exact .inr ⟨_,by rw [List.lookup_cons,hx,beq_self_eq_true]⟩
   ·rcases h with h |⟨a,h⟩
    ·rcases List.mem_cons.mp h with q |q
     ·exact absurd (Prod.mk.inj q).1 hx
     ·exact .inl q
    ·exact .inr ⟨a,by rw [List.lookup_cons,beq_false_of_ne hx];exact h⟩
  ·rename_i hk
   refine ym ?_
   rcases h with h |h
   ·rcases List.mem_cons.mp h with q |q
    ·exact absurd (by rw [← (Prod.mk.inj q).2];rfl) hk
    ·exact .inl q
   ·exact .inr h
def qIg (X:Cx) (scope:Scope) (C:Addr):Env :=
 { scope:=relabel scope X.env,locals:=C,globals:=X.env.globals,cells:=cellsFrom (C + 1) scope.names (clF X.env scope.names []),qual:=X.env.qual,func:=none,code:=X.env.code,frame:=X.env.frame,builtins:=X.env.builtins }
def cCx (X:Cx) (scope:Scope) (N:List Str) (s:Shared) (H:Hp) (fp:List Addr) (pn:List (Addr×Obj)):Cx where
 prog:=X.prog
 w:=X.w
 K:=X.K
 mg:=X.mg
 base:=X.base
 A:=X.A
 N:=N
 s₀:=s
 H₀:=H
 env:=qIg X scope s.heap.objs.size
 outer:=X.stack
 stack:=X.stack
 ex:=fp
 fn:=fun x=>scope.names.lookup x==some .cell
 calm:=X.calm
 pn:=pn
 xe:=fun _ _=>False
structure CSc (X:Cx) (scope:Scope) (capN locN:List Str) (caps:List Nat):Prop where
 kind:scope.kind = .function
 nd:(scope.names.map (·.1)).Nodup
 fr:∀ x∈scope.names,x.2 = .free->(X.env.kindOf x.1=some .cell∨X.env.kindOf x.1=some .free)
 len:capN.length=caps.length
 cap:∀ (i:Nat) (x:Str) (j:Nat),capN[i]? = some x->caps[i]? = some j->X.N[j]? = some x∧(x,NameKind.free)∈scope.names
theorem Wd {x:Str} {k:NameKind}:∀ {names:List (Str×NameKind)},(names.map (·.1)).Nodup->(x,k)∈names->names.lookup x=some k
 |(n,k')::r,nd,h=>by
  rw [List.map_cons,List.nodup_cons] at nd
  rw [List.lookup_cons]
  rcases List.mem_cons.mp h with q |q
  ·obtain ⟨rfl,rfl⟩:=Prod.mk.inj q
   rw [beq_self_eq_true]
  ·have hne:x≠n:=fun z=>nd.1 (by rw [← z];exact List.mem_map.mpr ⟨(x,k),q,rfl⟩)
   rw [beq_false_of_ne hne]
   exact Wd nd.2 q
theorem wk {env:Env} {x:Str}:∀ {names:List (Str×NameKind)},
  (names.map fun (n,k)=>if (k==NameKind.free&&env.scope.kind == .function&&env.kindOf n==some .cell) then (n,NameKind.cell) else (n,k)).lookup x=(names.lookup x).map fun k=>if (k==NameKind.free&&env.scope.kind == .function&&env.kindOf x==some .cell) then NameKind.cell else k
 |[]=>rfl
 |(n,k)::r=>by
  rw [List.map_cons,List.lookup_cons]
  show List.lookup x ((if (k==NameKind.free&&env.scope.kind == .function&&env.kindOf n==some .cell)=true then (n,NameKind.cell) else (n,k))::_)=_
  cases hx:x==n with
  |true =>
   have hx':x=n:=beq_iff_eq.mp hx
   subst hx'
   by_cases hc:(k==NameKind.free&&env.scope.kind == .function&&env.kindOf x==some .cell)=true
   ·rw [if_pos hc]
    simp only [List.lookup_cons,beq_self_eq_true,Option.map_some]
    rw [if_pos hc]
   ·rw [if_neg hc]
    simp only [List.lookup_cons,beq_self_eq_true,Option.map_some]
    rw [if_neg hc]
  |false =>
   by_cases hc:(k==NameKind.free&&env.scope.kind == .function&&env.kindOf n==some .cell)=true
   ·rw [if_pos hc]
    simp only [List.lookup_cons,hx]
    exact wk
   ·rw [if_neg hc]
    simp only [List.lookup_cons,hx]
    exact wk
theorem YQ {X:Cx} {scope:Scope} {capN locN:List Str} {caps:List Nat} (cs:CSc X scope capN locN caps) {pins:List (Addr×Obj)} {σ:L2.St} {H:Hp} {s s4:Shared} {fp:List Addr} (I:L2.Inv X pins σ H s) (hf:∀ b∈fp,Zi X pins H b) (hlt:∀ b∈fp,b < s.heap.objs.size)
  (h4:s4={ s with heap:=pushCells (s.heap.push { cls := .type "dict",data := .dict #[] }) scope.names }) :
  L2.Inv (cCx X scope (capN++locN) s H fp (X.pn++pins)) [] ((caps.map fun j=>(σ[j]?).join)++List.replicate locN.length none) H s4:=by
 have hfree:∀ x∈scope.names,x.2 = .free -> ∃ c,X.env.cells.lookup x.1=some c:=fun x hx hk=>I.ok.has x.1 (cs.fr x hx hk)
 have keep:∀ b o,s.heap.get? b=some o->s4.heap.get? b=some o:=fun b o e=>by subst h4;exact pushCells_keeps _ _ _ _ (Heap.get?_push_of_some _ e)
 have clook:∀ x c,(clF X.env scope.names []).lookup x=some c->X.env.cells.lookup x=some c:=fun x c e=>(YW hfree e).elim (fun q=>q) fun q=>by cases q
 have clt:∀ x c,(clF X.env scope.names []).lookup x=some c->c < s.heap.objs.size:=fun x c e=>by
  obtain ⟨v,q⟩:=I.cell x c (clook x c e)
  exact q.lt
 have cases':∀ x c,(cellsFrom (s.heap.objs.size + 1) scope.names (clF X.env scope.names [])).lookup x=some c->(s.heap.objs.size + 1≤c)∨(c < s.heap.objs.size∧X.env.cells.lookup x=some c):=fun x c e=>by
  rcases Q4 e with ⟨q,_⟩ |q
  ·exact .inl q
  ·exact .inr ⟨clt x c q,clook x c q⟩
 have isfree:∀ x,(X.env.kindOf x=some .cell∨X.env.kindOf x=some .free)->True:=fun _ _=>trivial
 refine ⟨⟨I.ok.mod,cs.kind,I.ok.glob,I.ok.blt,Nat.le_refl _,fun x y c h1 h2 => ?_,fun x hx => ?_,fun x c hx e => ?_,I.ok.hd,I.ok.frames,.inl rfl,fun b hb=>⟨Nat.ne_of_lt (hlt b hb),fun x c e => ?_⟩,fun b o e=>I.bs b o e,Nat.le_trans I.ok.bsz I.sz,fun b o e hb => ?_,fun b hb hm => ?_,I.stack,I.stkFree⟩,
  by subst h4;rfl,by subst h4;exact I.bare,Un.kept keep,?_,fun x c e => ?_,I.hok.fresh (Nat.le_refl _),fun x c e => ?_,fun p hp => ?_,I.hok.kept keep,?_,I.hnd⟩
 ·rcases W1 (fun z a e=>Nat.lt_succ_of_lt (clt z a e)) h1 h2 with e |⟨e1,e2⟩
  ·exact e
  ·exact I.ok.inj x y c (clook x c e1) (clook y c e2)
 ·refine WB ?_
  have hx':(relabel scope X.env).names.lookup x=some .cell∨(relabel scope X.env).names.lookup x=some .free:=hx
  have e:(relabel scope X.env).names.lookup x=(scope.names.lookup x).map fun k=>if (k==NameKind.free&&X.env.scope.kind == .function&&X.env.kindOf x==some .cell) then NameKind.cell else k:=wk
  rw [e] at hx'
  cases q:scope.names.lookup x with
  |none=>rw [q] at hx';rcases hx' with z |z <;> cases z
  |some k =>
   rw [q] at hx'
   have hm:=PySem.mem_of_lookup q
   by_cases hk:k = .free
   ·subst hk
    exact .inl (ym (.inl hm))
   ·have hkf:(k==NameKind.free)=false:=by simpa using hk
    simp only [Option.map_some,hkf,Bool.false_and,Bool.false_eq_true,if_false] at hx'
    rcases hx' with z |z
    ·cases z;exact .inr hm
    ·cases z;exact absurd rfl hk
 ·have hx':scope.names.lookup x=some .cell:=by simpa [cCx] using hx
  exact Nat.le_of_succ_le (Wy (n0:=s.heap.objs.size + 1) (Nat.le_refl _) (.inr (PySem.mem_of_lookup hx')) e)
 ·rcases cases' x c e with q |⟨q,q'⟩
  ·exact fun z=>by rw [z] at q;exact absurd (hlt b hb) (Nat.not_lt.mpr (Nat.le_of_succ_le q))
  ·exact (hf b hb).2.2.2.2.1 x c q'
 ·obtain ⟨_,_,_,h3,_⟩:=hf b hb
  rcases h3 with q |q
  ·exact I.ok.noex b o e q
  ·exact absurd (Heap.lt_size e) (Nat.not_lt.mpr (Nat.le_trans I.ok.bsz q))
 ·obtain ⟨_,h1,h2,_⟩:=hf b hb
  exact (List.mem_cons.mp (I.stkSub b hm)).elim h1 h2
 ·refine ⟨fun _=>none,?_,fun i x v e1 e2 e3 => ?_⟩
  ·subst h4
   exact (Heap.Ns.new s.heap (.type "dict")).keeps (pushCells_keeps _ _)
  ·have hi:i < caps.length:=by
    by_cases hi:i < caps.length
    ·exact hi
    ·rw [List.getElem?_append_right (by simpa using hi),List.getElem?_replicate] at e2
     split at e2 <;> cases e2
   rw [List.getElem?_append_left (by simpa using hi),List.getElem?_map] at e2
   have e1':(capN++locN)[i]? = some x:=e1
   rw [List.getElem?_append_left (by rw [cs.len];exact hi)] at e1'
   cases ej:caps[i]? with
   |none=>rw [ej] at e2;cases e2
   |some j =>
    rw [ej] at e2
    obtain ⟨k1,k2⟩:=cs.cap i x j e1' ej
    have e2':σ[j]? = some (some v):=by
     have e2'':(σ[j]?).join=some v:=Option.some.inj e2
     cases q:σ[j]? with
     |none=>rw [q] at e2'';cases e2''
     |some o=>rw [q] at e2'';exact congrArg some e2''
    have hk:=cs.fr _ k2 rfl
    obtain ⟨m,hn,hl⟩:=I.loc
    obtain ⟨u,ru,lu⟩:=hl j x v k1 e2' (hk.elim (fun z => .inr (.inl z)) fun z => .inr (.inr z))
    refine ⟨u,ru,.inr ?_⟩
    have hc:∃ c,X.env.cells.lookup x=some c∧s.heap.IsCell c (some u):=by
     rcases lu with ⟨z,_⟩ |⟨_,z⟩
     ·rcases hk with y |y <;> · rw [z] at y;cases y
     ·exact z
    obtain ⟨c,c1,c2⟩:=hc
    obtain ⟨c',e'⟩:=ym (env:=X.env) (acc:=[]) (.inl k2)
    have e2:=clook x c' e'
    rw [c1] at e2;cases e2
    have hlk:scope.names.lookup x=some .free:=Wd cs.nd k2
    refine ⟨?_,c,?_,c2.keeps keep⟩
    ·show (relabel scope X.env).names.lookup x=some .cell∨(relabel scope X.env).names.lookup x=some .free
     have e:(relabel scope X.env).names.lookup x=(scope.names.lookup x).map fun k=>if (k==NameKind.free&&X.env.scope.kind == .function&&X.env.kindOf x==some .cell) then NameKind.cell else k:=wk
     rw [e,hlk]
     simp only [Option.map_some]
     split
     ·exact .inl rfl
     ·exact .inr rfl
    ·obtain ⟨d,hd⟩:=WB (names:=scope.names) (n:=s.heap.objs.size + 1) (acc:=clF X.env scope.names []) (x:=x) (.inl ⟨c,e'⟩)
     rcases Q4 hd with ⟨q,q'⟩ |q
     ·have:=Wd cs.nd q'
      rw [hlk] at this;cases this
     ·rw [e'] at q;cases q;exact hd
 ·rcases Q4 e with ⟨q,_⟩ |q
  ·have e':(cellsFrom (s.heap.push { cls := .type "dict",data := .dict #[] }).objs.size scope.names (clF X.env scope.names [])).lookup x=some c:=by rw [Heap.size_push];exact e
   rcases WY e' with ⟨_,z,_⟩ |z
   ·obtain ⟨v,y⟩:=I.cell x c (clook x c z)
    exact ⟨v,y.keeps keep⟩
   ·subst h4;exact ⟨none,z⟩
  ·obtain ⟨v,y⟩:=I.cell x c (clook x c q)
   exact ⟨v,y.keeps keep⟩
 ·rcases cases' x c e with q |⟨q,q'⟩
  ·exact I.hok.fresh (Nat.le_of_succ_le q)
  ·exact I.freeC x c q'
 ·have hp':p∈X.pn++pins:=by simpa [cCx] using hp
  obtain ⟨k1,k2,k3,k4,k5⟩:=I.pin p hp'
  exact ⟨keep _ _ k1,k2,Nat.ne_of_lt (Heap.lt_size k1),fun z=>(List.mem_cons.mp (I.stkSub p.1 z)).elim k3 k4,k5⟩
 ·show ((caps.map fun j=>(σ[j]?).join)++List.replicate locN.length none).length=(capN++locN).length
  rw [List.length_append,List.length_map,List.length_replicate,List.length_append,cs.len]
theorem J3 {X:Cx} {scope:Scope} {N:List Str} {pins:List (Addr×Obj)} {σ σ':L2.St} {H H':Hp} {s s':Shared} {h'':Heap} {fp:List Addr} (I:L2.Inv X pins σ H s) (hf:∀ b∈fp,Zi X pins H b)
  (J:L2.Inv (cCx X scope N s H fp (X.pn++pins)) [] σ' H' s') (sb:Heap.SameBut s.heap.objs.size s'.heap h''):L2.Inv X pins σ H' { s' with heap:=h'' }:=by
 have hos:s'.os=s.os:=J.os
 have hC:∀ b o,s.heap.get? b=some o->b≠s.heap.objs.size:=fun b o e=>Nat.ne_of_lt (Heap.lt_size e)
 have u:Un (frs X.stack) fp H H' s.heap h'':=by
  have u0:=J.base
  exact ⟨fun b o e n h1 h2=>sb.extBut b o (hC b o e) (u0.keep b o e n h1 h2),fun b o e n h1 h2=>(u0.slot b o e n h1 h2).elim fun sl q=>⟨sl,sb.extBut b _ (hC b o e) q⟩,u0.free,fun b o e h2=>(u0.there b o e h2).elim fun o' q=>⟨o',sb.extBut b o' (hC b o e) q⟩,u0.tups,u0.frzs,u0.tbls⟩
 have hok:HOk X.prog X.w H' h'':=fun a o e=>by
  refine (J.hok a o e).stay (fun b v hb q=>sb.extBut b v ?_ q) (fun _ q=>q) fun _ _ q=>q
  have hn:H' s.heap.objs.size=none:=J.free
  rcases hb with z |z
  ·rw [z];exact qO e hn
  ·exact qO z hn
 obtain ⟨hh,g,d,t,os'⟩:=s'
 obtain rfl:os'=s.os:=hos
 have fin:=L2.Inv.call (s:=s) (h':=h'') (g':=g) (d':=d) (t':=t) (ch:=fp) I u hok J.bare fun b hb=>by
  obtain ⟨k0,k1,k2,k3,k4,k5⟩:=hf b hb
  exact ⟨k3,k1,k4,k5⟩
 exact fin
theorem Yf {elt:Expr} {gens:List Comprehension} {scope:Scope} {pos:Pos} {d:Nat} {it acc:Value} {env:Env} {g:Comprehension} (hg:gens[d]? = some g) (ha:g.is_async=0) (hn:gens[d + 1]? = none) :
  compTurn (.ListComp elt gens scope pos) d it acc env=(standAt g.iter.pos >>= fun _=>pyNext it >>= fun r=>match r with
   |none=>pure (.done .next)
   |some v=>letOwnedTupleGo g.target it v >>= fun _=>assign g.target env v >>= fun _ =>
    (forIn g.ifs true fun c r=>if r=true then do let ok ← isTrue c env (eval c env);pure (ForInStep.yield ok) else pure (ForInStep.yield r)) >>= fun ok =>
    if ok=true then (eval elt env >>= fun x=>call (.builtin "list.append") [acc,x] >>= fun _=>pure ()) >>= fun _=>again (.compLoop (.ListComp elt gens scope pos) d it acc env)
    else again (.compLoop (.ListComp elt gens scope pos) d it acc env)):=by
 unfold compTurn
 dsimp only
 rw [hg]
 dsimp only
 rw [hn,ha]
 rfl
theorem Yc {elt:Expr} {gens:List Comprehension} {scope:Scope} {pos:Pos} {d:Nat} {it acc:Value} {env:Env} {g g':Comprehension} (hg:gens[d]? = some g) (ha:g.is_async=0) (hn:gens[d + 1]? = some g') (ha':g'.is_async=0) :
  compTurn (.ListComp elt gens scope pos) d it acc env=(standAt g.iter.pos >>= fun _=>pyNext it >>= fun r=>match r with
   |none=>pure (.done .next)
   |some v=>letOwnedTupleGo g.target it v >>= fun _=>assign g.target env v >>= fun _ =>
    (forIn g.ifs true fun c r=>if r=true then do let ok ← isTrue c env (eval c env);pure (ForInStep.yield ok) else pure (ForInStep.yield r)) >>= fun ok =>
    if ok=true then (eval g'.iter env >>= fun x=>standAt g'.iter.pos >>= fun _=>foldedSetIterable g'.iter env x >>= fun x=>holding [x] (pyIter x) >>= fun it'=>runOwn (.compStart (.ListComp elt gens scope pos) (d + 1) it' acc env) env >>= fun _=>again (.compLoop (.ListComp elt gens scope pos) d it acc env))
    else again (.compLoop (.ListComp elt gens scope pos) d it acc env)):=by
 unfold compTurn
 dsimp only
 rw [hg]
 dsimp only
 rw [hn,ha]
 dsimp only
 rw [ha']
 rfl
theorem zQ {prog:Program} {w:World} {A:Around} {R:Result->Shared->Prop} {s:Shared} {elt:Expr} {gens:List Comprehension} {scope:Scope} {pos:Pos} {d:Nat} {it acc:Value} {env:Env} {g:Comprehension} (hg:gens[d]? = some g) (ha:g.is_async=0)
  (h0:codeAny (model prog w) A (.compLoop (.ListComp elt gens scope pos) d it acc env) R s)
  (h:wpAny (model prog w) A (pyIter it) (fun it' s'=>codeAny (model prog w) A (.compLoop (.ListComp elt gens scope pos) d it' acc env) R s') (notedBy (model prog w) A env fun x s'=>R (.error x) s') s) :
  codeAny (model prog w) A (.compStart (.ListComp elt gens scope pos) d it acc env) R s:=by
 refine codeAny_of_tree ?_
 show wpAny _ _ ((compStart (.ListComp elt gens scope pos) d it acc env).onRaise (fun x=>do noteFrame x env;standAt theWindowsPlace)) _ _ s
 refine wpAny_notedAt ?_
 unfold compStart
 have e1:(clausesOf (.ListComp elt gens scope pos))[d]? = some g:=hg
 rw [e1]
 simp only [Option.elim_some,ha]
 refine wpAny_bind (wpAny_askSetting (wpAny_ite ?_))
 split
 ·exact wpAny_bind (wpAny_pure (wpAny_pure (And.intro rfl h0)))
 ·exact wpAny_bind (wpAny_rule (wpAny_bind (wpAny_standAt (wpAny_bind (wpAny_mono h (fun it' s' h'=>wpAny_pure (And.intro rfl h')) fun _ _ x=>x)))))
structure GenF where
 fi:FI
 g:FG
 ts:List FT
def wz:List FT->FT
 |[],_,st => .ok true st
 |t::ts,r,st=>(t r st).bind fun k s=>if k=true then wz ts r s else .ok false s
open Classical in
noncomputable def qi (G:qC->Prop) (k:PV->qC->Rs (List PV)):List PV->qC->Rs (List PV)
 |[],st=>if G st then .ok [] st else .no
 |p::ps,st=>if G st then (k p st).bind fun l s=>(qi G k ps s).bind fun m s' => .ok (l++m) s' else .no
def Qd (g:GenF) (rest:FL) (r:q9) (p:PV) (s:qC):Rs (List PV):=match g.g p r with
 |none => .no
 |some r'=>(wz g.ts r' s).bind fun k s1=>if k=true then rest r' s1 else .ok [] s1
noncomputable def Qn:List GenF->FE->FL
 |[],f=>fun r st=>(f r st).bind fun p s => .ok [p] s
 |g::gs,f=>fun r st=>(g.fi r st).bind fun w s=>qi w.G (Qd g (Qn gs f) r) w.l s
def Le (r r':q9):Prop:=r.length=r'.length ∧ ∀ (i:Nat) (p:PV),r[i]? = some (some p)->r'[i]? = some (some p)
theorem REnv.le {K:W.Frag} {H:Hp} {b:Bz} {r r':q9} {s:L2.St} (h:REnv K H b r' s) (l:Le r r'):REnv K H b r s:=⟨l.1.trans h.1,fun i p e=>h.2 i p (l.2 i p e)⟩
def qBF (g:FG):Prop := ∀ p r r',g p r=some r'->Le r r'
inductive TsOk (X:Cx):List Expr->List FT->Prop where
 |nil:TsOk X [] []
 |cons {e:Expr} {t:FT} {es:List Expr} {ts:List FT} (h:VT X E0 e t) (r:TsOk X es ts):TsOk X (e::es) (t::ts)
theorem JR {X:Cx} (hx:∀ e s,X.xe e s->False):∀ {es:List Expr} {ts:List FT},TsOk X es ts -> ∀ {pins:List (Addr×Obj)} {s:Shared} {σ:L2.St} {H:Hp} {b:Bz} {r:q9} {st st':qC} {k:Bool} {Q:Bool->Shared->Prop} {E:Value->Shared->Prop},L2.Inv X pins σ H s->SR X.K H b st->REnv X.K H b r σ->wz ts r st = .ok k st' ->
  (∀ s' H' b',L2.Inv X pins σ H' s'->Ext H b H' b'->SR X.K H' b' st'->Q k s') ->
  wpAny (model X.prog X.w) X.A (forIn es true fun c r=>if r=true then do let ok ← isTrue c X.env (eval c X.env);pure (ForInStep.yield ok) else pure (ForInStep.yield r)) Q E s
 |_,_,.nil,pins,s,σ,H,b,r,st,st',k,Q,E,I,S,R,e,q=>by
  cases e
  exact wpAny_tests_nil (q s H b I (Ext.refl _ _) S)
 |_,_,@TsOk.cons _ c t es ts h hr,pins,s,σ,H,b,r,st,st',k,Q,E,I,S,R,e,q=>by
  rw [List.forIn_cons]
  simp only [if_true]
  unfold wz at e
  cases et:t r st with
  |no=>rw [et] at e;cases e
  |ex x s1=>rw [et] at e;cases e
  |ok k1 s1 =>
   rw [et] at e
   have e:(if k1=true then wz ts r s1 else .ok false s1) = .ok k st':=e
   refine wpAny_bind (wpAny_bind (wpAny_mono (h pins s σ H (fun k' H'=>k'=k1 ∧ ∃ b',Ext H b H' b'∧SR X.K H' b' s1) I ⟨b,r,st,S,R,by rw [et];exact fun H' b' e' S'=>⟨rfl,b',e',S'⟩⟩) (fun k' s2 hq => ?_) fun e' s' z=>(hx e' s' z).elim))
   obtain ⟨H2,I2,rfl,b2,e2,S2⟩:=hq
   refine wpAny_pure ?_
   dsimp only
   cases k' with
   |true =>
    rw [if_pos rfl] at e
    exact JR hx hr I2 S2 (R.ext e2) e fun s' H' b' I' e' S'=>q s' H' b' I' (e2.trans e') S'
   |false =>
    rw [if_neg Bool.false_ne_true] at e
    cases e
    have skip:∀ (es:List Expr),wpAny (model X.prog X.w) X.A (forIn es false fun c r=>if r=true then do let ok ← isTrue c X.env (eval c X.env);pure (ForInStep.yield ok) else pure (ForInStep.yield r)) Q E s2:=by
     intro es
     induction es with
     |nil=>rw [List.forIn_nil];exact wpAny_pure (q s2 H2 b2 I2 e2 S2)
     |cons c es ih =>
      rw [List.forIn_cons]
      simp only [Bool.false_eq_true,if_false]
      exact wpAny_bind (wpAny_pure ih)
    exact skip es
structure GOk (X:Cx) (c:Comprehension) (g:GenF):Prop where
 tg:VG X c.target g.g
 fr:qBF g.g
 ts:TsOk X c.ifs g.ts
 asy:c.is_async=0
structure GOk' (X:Cx) (c:Comprehension) (g:GenF):Prop extends GOk X c g where
 it:VI X E0 c.target c.iter g.fi
 fold:∀ x,foldedSetIterable c.iter X.env x=pure x
inductive GsOk (X:Cx):List Comprehension->List GenF->Prop where
 |nil:GsOk X [] []
 |cons {c:Comprehension} {g:GenF} {cs:List Comprehension} {gs:List GenF} (h:GOk' X c g) (r:GsOk X cs gs):GsOk X (c::cs) (g::gs)
theorem qBs {X:Cx} (hx:∀ e s,X.xe e s->False) {pins:List (Addr×Obj)} {s:Shared} {σ:L2.St} {H:Hp} {D:Addr} {xs:List V} {y:V} {u:Value} {Q:Value->Shared->Prop} {E:Value->Shared->Prop} (I:L2.Inv X pins σ H s) (hD:H D=some (.lst xs)) (hl:xs.length < sizeLine) (ry:RelV y u)
  (q:∀ v s',L2.Inv X pins σ (upd H D (.lst (xs++[y]))) s'->Q v s'):wpAny (model X.prog X.w) X.A (call (.builtin "list.append") [.ref D,u]) Q E s :=
 wpAny_mono (Y5 pins s σ H (.ref D) [y] (.ref D) [u] (fun v H'=>H'=upd H D (.lst (xs++[y]))) I rfl (.cons ry .nil) ⟨D,xs,y,rfl,rfl,hD,hl,rfl⟩) (fun v s' ⟨x,H',I',r',e⟩=>by subst e;exact q v s' I') fun e' s' z=>(hx e' s' z).elim
structure DE (D:Addr) (H:Hp) (b:Bz) (H':Hp) (b':Bz):Prop extends WE H b H' b' where
 same:b'.z=b.z
 hid:∀ a o,a∈b.z->a≠D->H a=some o->H' a=some o
 fz:∀ a o u,a≠D->H a=some (.frz o u)->H' a=some (.frz o u)
theorem DE.of {D:Addr} {H H':Hp} {b b':Bz} (e:Ext H b H' b'):DE D H b H' b':=⟨e.toWE,e.same,fun a o ha _ h=>e.hid a o ha h,fun a o u _ h=>e.fz a o u h⟩
theorem DE.trans {D:Addr} {H H1 H2:Hp} {b b1 b2:Bz} (e:DE D H b H1 b1) (f:DE D H1 b1 H2 b2):DE D H b H2 b2:=⟨e.toWE.trans f.toWE,f.same.trans e.same,fun a o ha hn h=>f.hid a o (by rw [e.same];exact ha) hn (e.hid a o ha hn h),fun a o u n h=>f.fz a o u n (e.fz a o u n h)⟩
theorem DE.wr {D:Addr} {H:Hp} {b:Bz} {o:HO} (h:D∈b.z):DE D H b (upd H D o) b:=⟨WE.wr (.inr h),rfl,fun a u ha hn e=>by rw [qQ hn];exact e,fun a u v hn e=>by rw [qQ hn];exact e⟩
def qIT (X:Cx) (D:Addr) (c:Code) (inner:Sem Fin) (rest:FL):Prop :=
 ∀ (pins:List (Addr×Obj)) (s:Shared) (σ:L2.St) (H:Hp) (b:Bz) (r:q9) (st st':qC) (l:List PV) (accV:List V) (QF:Fin->Shared->Prop) (E:Value->Shared->Prop),L2.Inv X pins σ H s->SR X.K H b st->REnv X.K H b r σ->D∈b.z->H D=some (.lst accV) ->
  rest r st = .ok l st'->accV.length + l.length≤sizeLine ->
  (∀ s' σ' H' b' lV,L2.Inv X pins σ' H' s'->DE D H b H' b'->SR X.K H' b' st'->REnv X.K H' b' r σ'->H' D=some (.lst (accV++lV))->RVs X.K H' b' l lV->QF (.again c) s')->wpAny (model X.prog X.w) X.A inner QF E s
theorem JL {X:Cx} (hx:∀ e s,X.xe e s->False) {elt:Expr} {gens:List Comprehension} {scope:Scope} {pos:Pos} {d:Nat} {it D:Addr} {c:Comprehension} {g:GenF} (hg:GOk X c g) {inner:Sem Fin} {rest:FL} (hin:qIT X D (.compLoop (.ListComp elt gens scope pos) d (.ref it) (.ref D) X.env) inner rest)
  (hturn:compTurn (.ListComp elt gens scope pos) d (.ref it) (.ref D) X.env=(standAt c.iter.pos >>= fun _=>pyNext (.ref it) >>= fun r=>match r with
   |none=>pure (.done .next)
   |some v=>letOwnedTupleGo c.target (.ref it) v >>= fun _=>assign c.target X.env v >>= fun _ =>
    (forIn c.ifs true fun c r=>if r=true then do let ok ← isTrue c X.env (eval c X.env);pure (ForInStep.yield ok) else pure (ForInStep.yield r)) >>= fun ok =>
    if ok=true then inner else again (.compLoop (.ListComp elt gens scope pos) d (.ref it) (.ref D) X.env)))
  {pins:List (Addr×Obj)} {s:Shared} {σ:L2.St} {H:Hp} {b:Bz} {r:q9} {st st':qC} {fp:List Addr} {tn:Nat->Heap->Prop} {J:It} {w:ItP} {accV:List V} {l:List PV} {R:Result->Shared->Prop}
  (I:L2.Inv X pins σ H s) (S:SR X.K H b st) (RE:REnv X.K H b r σ) (hDz:D∈b.z) (hD:H D=some (.lst accV)) (T:Turn X.prog X.w X.K X.A c.target J fp it tn) (t0:tn 0 s.heap) (hf:∀ a∈fp,Zi X pins H a)
  (hit:yg X.K H b J w)
  (hv:qi w.G (Qd g rest r) w.l st = .ok l st') (hsz:accV.length + l.length≤sizeLine)
  (hR:∀ s' σ' H' b' lV,L2.Inv X pins σ' H' s'->DE D H b H' b'->SR X.K H' b' st'->REnv X.K H' b' r σ'->H' D=some (.lst (accV++lV))->RVs X.K H' b' l lV->R (.ok .next) s') :
  codeAny (model X.prog X.w) X.A (.compLoop (.ListComp elt gens scope pos) d (.ref it) (.ref D) X.env) R s:=by
 have stat:∀ {H':Hp},(∀ a∈fp,H' a=none) -> ∀ a∈fp,Zi X pins H' a:=fun hn a ha=>⟨hn a ha,(hf a ha).2⟩
 refine codeAny_loop rfl (fun n s1 => ∃ i σ1 H1 b1 st1 done doneV m,n=w.l.length + 1 - i∧i≤w.l.length∧L2.Inv X pins σ1 H1 s1∧DE D H b H1 b1∧SR X.K H1 b1 st1∧REnv X.K H1 b1 r σ1∧H1 D=some (.lst (accV++doneV))∧RVs X.K H1 b1 done doneV∧tn i s1.heap∧(∀ a∈fp,H1 a=none) ∧
  qi w.G (Qd g rest r) (w.l.drop i) st1 = .ok m st'∧done++m=l) ?_ (w.l.length + 1)
  ⟨0,σ,H,b,st,[],[],l,by omega,Nat.zero_le _,I,DE.of (Ext.refl _ _),S,RE,by simpa using hD,RVs.nil,t0,fun a ha=>(hf a ha).1,by simpa using hv,rfl⟩
 rintro n s1 ⟨i,σ1,H1,b1,st1,done,doneV,m,hn,hi,I1,e1,S1,R1,hD1,rd1,t1,fr1,hv1,hm⟩
 show wpAny _ X.A ((compTurn (.ListComp elt gens scope pos) d (.ref it) (.ref D) X.env).onRaise (fun x=>do noteFrame x X.env;theTreesLotGoes x)) _ _ s1
 refine wpAny_noted ?_
 rw [hturn]
 refine wpAny_bind (wpAny_standAt (wpAny_bind ?_))
 have hz1:D∈b1.z:=by rw [e1.same];exact hDz
 by_cases hlt:i < w.l.length
 ·have hd:w.l.drop i=w.l[i]::w.l.drop (i + 1):=List.drop_eq_getElem_cons hlt
  rw [hd] at hv1
  unfold qi at hv1
  by_cases hG:w.G st1
  ·rw [if_pos hG] at hv1
   obtain ⟨h1,h2⟩:=hit H1 b1 st1 e1.toWE S1 hG
   obtain ⟨go,yl⟩:=h1 i w.l[i] (List.getElem?_eq_getElem hlt)
   cases ek:Qd g rest r w.l[i] st1 with
   |no=>rw [ek] at hv1;cases hv1
   |ex x s5=>rw [ek] at hv1;cases hv1
   |ok l1 s5 =>
    rw [ek] at hv1
    have hv1:(qi w.G (Qd g rest r) (w.l.drop (i + 1)) s5).bind (fun m s' => .ok (l1++m) s') = .ok m st':=hv1
    cases ek2:qi w.G (Qd g rest r) (w.l.drop (i + 1)) s5 with
    |no=>rw [ek2] at hv1;cases hv1
    |ex x s6=>rw [ek2] at hv1;cases hv1
    |ok m2 s6 =>
     rw [ek2] at hv1
     have hv1:Rs.ok (l1++m2) s6 = .ok m st':=hv1
     injection hv1 with hv1a hv1b
     subst hv1a;subst hv1b
     refine thn (T.item X rfl rfl rfl rfl i pins s1 σ1 H1 _ I1 (stat fr1) t1 go) fun rr s2 ⟨u,hr,h4⟩ => ?_
     subst hr
     refine wpAny_bind (thn h4 fun _ s3 ⟨x,H3,I3,r3,y3,t3,fr3⟩ => ?_)
     obtain ⟨sm3,S3,rx3⟩:=yl x H3 y3
     have e3:Ext H1 b1 H3 b1:=Ext.of_same sm3
     have hD3:=sm3 _ _ hD1
     unfold Qd at ek
     cases eg:g.g w.l[i] r with
     |none=>rw [eg] at ek;cases ek
     |some r' =>
      rw [eg] at ek
      have ek:(wz g.ts r' st1).bind (fun k s1=>if k=true then rest r' s1 else .ok [] s1) = .ok l1 s5:=ek
      cases et:wz g.ts r' st1 with
      |no=>rw [et] at ek;cases ek
      |ex x s7=>rw [et] at ek;cases ek
      |ok k s7 =>
       rw [et] at ek
       have ek:(if k=true then rest r' s7 else .ok [] s7) = .ok l1 s5:=ek
       have I3':=I3.pinned (stat fr3) (T.obj _ _ t3)
       refine wpAny_bind (wpAny_mono (hg.tg _ s3 σ1 H3 x u (fun σ' H'=>H'=H3∧REnv X.K H3 b1 r' σ') I3' r3 ⟨b1,r,w.l[i],st1,S3,R1.ext e3,rx3,r',eg,fun s' R'=>⟨rfl,R'⟩⟩) (fun _ s4 hq => ?_) fun e' s' z=>(hx e' s' z).elim)
       obtain ⟨σ4,H4,I4,rfl,R4⟩:=hq
       refine wpAny_bind (JR hx hg.ts I4 S3 R4 et fun s5' H5 b5 I5 e5 S5 => ?_)
       have hz5:D∈b5.z:=by rw [e5.same];exact hz1
       have hD5:=e5.hid _ _ hz1 hD3
       have e15:DE D H b H5 b5:=(e1.trans (DE.of e3)).trans (DE.of e5)
       have back:∀ {s7':Shared} {σ7:L2.St} {H7:Hp} {b7:Bz} {l1V:List V},L2.Inv X (pins++Ze fp s3.heap) σ7 H7 s7'->DE D H5 b5 H7 b7->SR X.K H7 b7 s5->REnv X.K H7 b7 r' σ7->H7 D=some (.lst (accV++doneV++l1V))->RVs X.K H7 b7 l1 l1V ->
         ∃ m,m < n ∧ ∃ i σ1 H1 b1 st1 done doneV mm,m=w.l.length + 1 - i∧i≤w.l.length∧L2.Inv X pins σ1 H1 s7'∧DE D H b H1 b1∧SR X.K H1 b1 st1∧REnv X.K H1 b1 r σ1∧H1 D=some (.lst (accV++doneV))∧RVs X.K H1 b1 done doneV∧tn i s7'.heap∧(∀ a∈fp,H1 a=none) ∧
         qi w.G (Qd g rest r) (w.l.drop i) st1 = .ok mm s6∧done++mm=l:=fun {s7' σ7 H7 b7 l1V} I7 e7 S7 R7 hD7 rl7=>by
        refine ⟨w.l.length + 1 - (i + 1),by omega,i + 1,σ7,H7,b7,s5,done++l1,doneV++l1V,m2,rfl,hlt,I7.unpinned,e15.trans e7,S7,R7.le (hg.fr _ _ _ eg),by rw [hD7,List.append_assoc],?_,T.keep _ _ _ t3 fun a ha o e=>(I7.pin (a,o) (List.mem_append_right _ (List.mem_append_right _ (zJ ha e)))).1,fun a ha => ?_,ek2,by rw [List.append_assoc];exact hm⟩
        ·exact RVs.append (RVs.wext e7.toWE done (RVs.ext e5 done (RVs.ext e3 done rd1))) rl7
        ·obtain ⟨o,e,_⟩:=T.obj _ _ t3 a ha
         exact (I7.pin (a,o) (List.mem_append_right _ (List.mem_append_right _ (zJ ha e)))).2.1
       cases k with
       |false =>
        rw [if_neg Bool.false_ne_true] at ek ⊢
        injection ek with ek1 ek2'
        subst ek1;subst ek2'
        refine wpAny_pure ⟨rfl,back I5 (DE.of (Ext.refl _ _)) S5 (R4.ext e5) (by rw [List.append_nil];exact hD5) RVs.nil⟩
       |true =>
        rw [if_pos rfl] at ek ⊢
        refine hin _ s5' σ4 H5 b5 r' s7 s5 l1 (accV++doneV) _ _ I5 S5 (R4.ext e5) hz5 hD5 ek ?_ fun s8 σ8 H8 b8 lV I8 e8 S8 R8 hD8 r8=>⟨rfl,back I8 e8 S8 R8 hD8 r8⟩
        have h1:=rd1.length
        have h2:l.length=done.length + (l1.length + m2.length):=by rw [← hm,List.length_append,List.length_append]
        rw [List.length_append];omega
  ·rw [if_neg hG] at hv1;cases hv1
 ·have hl:i=w.l.length:=by omega
  subst hl
  rw [List.drop_length] at hv1
  unfold qi at hv1
  by_cases hG:w.G st1
  ·rw [if_pos hG] at hv1
   injection hv1 with k1 k2
   subst k1;subst k2
   obtain ⟨h1,h2⟩:=hit H1 b1 st1 e1.toWE S1 hG
   refine thn (T.done X rfl rfl rfl rfl _ pins s1 σ1 H1 _ I1 (stat fr1) t1 (h2 _ (Nat.le_refl _))) fun r2 s2 ⟨hr,I2⟩ => ?_
   subst hr
   rw [List.append_nil] at hm
   subst hm
   exact wpAny_pure (hR s2 σ1 H1 b1 doneV I2 e1 S1 R1 hD1 rd1)
  ·rw [if_neg hG] at hv1;cases hv1
theorem Yl {X:Cx} (hx:∀ e s,X.xe e s->False) {elt:Expr} {gens:List Comprehension} {scope:Scope} {pos:Pos} {f:FE} {D:Addr} (he:VE X E0 elt f) :
  ∀ (gs:List GenF) (cs:List Comprehension) (d:Nat) (c:Comprehension) (g:GenF),gens.drop d=c::cs->GOk X c g->GsOk X cs gs ->
  ∀ (pins:List (Addr×Obj)) (s:Shared) (σ:L2.St) (H:Hp) (b:Bz) (r:q9) (st st':qC) (it:Addr) (fp:List Addr) (tn:Nat->Heap->Prop) (J:It) (w:ItP) (accV:List V) (l:List PV) (R:Result->Shared->Prop),
  L2.Inv X pins σ H s->SR X.K H b st->REnv X.K H b r σ->D∈b.z->H D=some (.lst accV)->Turn X.prog X.w X.K X.A c.target J fp it tn->tn 0 s.heap->(∀ a∈fp,Zi X pins H a)->yg X.K H b J w ->
  qi w.G (Qd g (Qn gs f) r) w.l st = .ok l st'->accV.length + l.length≤sizeLine ->
  (∀ s' σ' H' b' lV,L2.Inv X pins σ' H' s'->DE D H b H' b'->SR X.K H' b' st'->REnv X.K H' b' r σ'->H' D=some (.lst (accV++lV))->RVs X.K H' b' l lV->R (.ok .next) s') ->
  codeAny (model X.prog X.w) X.A (.compLoop (.ListComp elt gens scope pos) d (.ref it) (.ref D) X.env) R s:=by
 intro gs
 induction gs with
 |nil =>
  intro cs d c g hdr hg hgs pins s σ H b r st st' it fp tn J w accV l R I S RE hDz hD T t0 hf hit hv hsz hR
  cases hgs
  have hgd:gens[d]? = some c:=by
   have:(gens.drop d)[0]? = some c:=by rw [hdr];rfl
   simpa using this
  have hgn:gens[d + 1]? = none:=by
   have:(gens.drop d)[1]? = none:=by rw [hdr];rfl
   simpa using this
  refine JL hx hg ?_ (Yf hgd hg.asy hgn) I S RE hDz hD T t0 hf hit hv hsz hR
  intro pins s σ H b r st st' l accV QF E I S RE hDz hD hv hsz q
  have hv:(f r st).bind (fun p s => .ok [p] s) = .ok l st':=hv
  cases ef:f r st with
  |no=>rw [ef] at hv;cases hv
  |ex x s1=>rw [ef] at hv;cases hv
  |ok p s1 =>
   rw [ef] at hv
   have hv:Rs.ok [p] s1 = .ok l st':=hv
   injection hv with h1 h2
   subst h1;subst h2
   refine wpAny_bind (wpAny_bind (wpAny_mono (he pins s σ H (fun v H' => ∃ b',Ext H b H' b'∧SR X.K H' b' s1∧RV X.K H' b' p v) I ⟨b,r,st,S,RE,by rw [ef];exact fun v H' b' e' S' r'=>⟨b',e',S',r'⟩⟩) (fun u s2 hq => ?_) fun e' s' z=>(hx e' s' z).elim))
   obtain ⟨v,H2,I2,rv,b2,e2,S2,r2⟩:=hq
   have hz2:D∈b2.z:=by rw [e2.same];exact hDz
   refine wpAny_bind (qBs hx I2 (e2.hid _ _ hDz hD) (by rw [List.length_singleton] at hsz;omega) rv fun _ s3 I3=>wpAny_pure (wpAny_pure ?_))
   have dw:DE D H2 b2 (upd H2 D (.lst (accV++[v]))) b2:=DE.wr hz2
   exact q s3 σ _ b2 [v] I3 ((DE.of e2).trans dw) (SR.wrz S2 hz2) ((RE.ext e2).wext dw.toWE) QD (RVs.cons (RV.wext dw.toWE p r2) RVs.nil)
 |cons g2 gs ih =>
  intro cs d c g hdr hg hgs pins s σ H b r st st' it fp tn J w accV l R I S RE hDz hD T t0 hf hit hv hsz hR
  cases hgs with
  | @cons c2 _ cs _ h2 hr2 =>
   have hgd:gens[d]? = some c:=by
    have:(gens.drop d)[0]? = some c:=by rw [hdr];rfl
    simpa using this
   have hgn:gens[d + 1]? = some c2:=by
    have:(gens.drop d)[1]? = some c2:=by rw [hdr];rfl
    simpa using this
   have hdr2:gens.drop (d + 1)=c2::cs:=by
    have:(gens.drop d).drop 1=c2::cs:=by rw [hdr];rfl
    rwa [List.drop_drop] at this
   refine JL hx hg ?_ (Yc hgd hg.asy hgn h2.asy) I S RE hDz hD T t0 hf hit hv hsz hR
   intro pins s σ H b r st st' l accV QF E I S RE hDz hD hv hsz q
   have hv:(g2.fi r st).bind (fun w s=>qi w.G (Qd g2 (Qn gs f) r) w.l s) = .ok l st':=hv
   cases ef:g2.fi r st with
   |no=>rw [ef] at hv;cases hv
   |ex x s1=>rw [ef] at hv;cases hv
   |ok w2 s1 =>
    rw [ef] at hv
    have hv:qi w2.G (Qd g2 (Qn gs f) r) w2.l s1 = .ok l st':=hv
    have hi:=h2.it pins s σ H (fun J H' => ∃ b',Ext H b H' b'∧SR X.K H' b' s1∧yg X.K H' b' J w2) I ⟨b,r,st,S,RE,by rw [ef];exact fun J H' b' e' S' i'=>⟨b',e',S',i'⟩⟩
    refine wpAny_bind (wpAny_mono hi (fun u s2 hq => ?_) fun e' s' z=>(hx e' s' z).elim)
    refine wpAny_bind (wpAny_standAt (wpAny_bind (wpAny_of_eq (h2.fold u) (wpAny_bind (wpAny_holding (wpAny_mono hq (fun itv s3 hq3 => ?_) fun e' s' z=>(hx e' s' z).elim))))))
    obtain ⟨it2,fp2,tn2,J2,H3,rfl,I3,T2,t2,f2,b3,e3,S3,i3⟩:=hq3
    have hz3:D∈b3.z:=by rw [e3.same];exact hDz
    have hD3:=e3.hid _ _ hDz hD
    refine wpAny_bind (wpAny_runOwn ?_)
    have loop:=ih cs (d + 1) c2 g2 hdr2 h2.toGOk hr2 pins s3 σ H3 b3 r s1 st' it2 fp2 tn2 J2 w2 accV l (fun r s'=>match r with
     | .ok f=>wpAny (model X.prog X.w) X.A (again (.compLoop (.ListComp elt gens scope pos) d (.ref it) (.ref D) X.env)) QF E s'
     | .error e=>cameBackBy (model X.prog X.w) X.A X.env E e s') I3 S3 (RE.ext e3) hz3 hD3 T2 t2 f2 i3 hv hsz
     fun s' σ' H' b' lV I' e' S' R' hD' r'=>wpAny_pure (q s' σ' H' b' lV I' ((DE.of e3).trans e') S' R' hD' r')
    exact zQ hgn h2.asy loop (T2.self X.A 0 s3 _ _ t2 loop)
theorem JZ {M:Model} {A:Around} {E:Value->Shared->Prop} {s:Shared} {scope:Scope} {env:Env} {cl:List (Str×Addr)} {Q:Env->Shared->Prop}
  (h:Q { scope:=scope,locals:=s.heap.objs.size,globals:=env.globals,cells:=cellsFrom (s.heap.objs.size + 1) scope.names cl,qual:=env.qual,func:=none,code:=env.code,frame:=env.frame,builtins:=env.builtins } { s with heap:=pushCells (s.heap.push { cls := .type "dict",data := .dict #[] }) scope.names }) :
  wpAny M A (newFunctionEnv scope env.globals cl [] env.qual none .none (some env)) Q E s:=by
 simp only [newFunctionEnv,Option.isSome_some,if_true]
 refine wpAny_bind (wpAny_alloc ?_)
 refine wpAny_bind (wpAny_layCells _ (fun name kind cells=>by cases hkc:kind==NameKind.cell <;> simp [hkc]) _ _ _ _ ?_)
 rw [show ({ s with heap:=s.heap.push { cls := .type "dict",data := .dict #[] } }:Shared).heap.objs.size=s.heap.objs.size + 1 from Heap.size_push ..]
 exact wpAny_bind (wpAny_pure (wpAny_pure h))
def Wc (caps:List Nat) (n:Nat) (r:q9):q9:=(caps.map fun j=>(r[j]?).join)++List.replicate n none
noncomputable def qm (caps:List Nat) (n:Nat) (fi:FI) (g:FG) (ts:List FT) (gs:List GenF) (f:FE):FL:=fun r st=>(fi r st).bind fun w s=>match qi w.G (Qd ⟨fi,g,ts⟩ (Qn gs f) (Wc caps n r)) w.l s with
 | .ok l s'=>if l.length≤sizeLine then .ok l s' else .no
 |_ => .no
theorem JT {K:W.Frag} {H:Hp} {b:Bz} {r:q9} {σ:L2.St} {caps:List Nat} {n:Nat} (R:REnv K H b r σ):REnv K H b (Wc caps n r) ((caps.map fun j=>(σ[j]?).join)++List.replicate n none):=by
 refine ⟨by simp [Wc],fun i p e => ?_⟩
 unfold Wc at e
 by_cases hi:i < caps.length
 ·rw [List.getElem?_append_left (by simpa using hi),List.getElem?_map] at e
  rw [List.getElem?_append_left (by simpa using hi),List.getElem?_map]
  cases ej:caps[i]? with
  |none=>rw [ej] at e;cases e
  |some j =>
   rw [ej] at e
   have e':(r[j]?).join=some p:=Option.some.inj e
   have e2:r[j]? = some (some p):=by
    cases q:r[j]? with
    |none=>rw [q] at e';cases e'
    |some o=>rw [q] at e';exact congrArg some e'
   obtain ⟨v,h1,h2⟩:=R.2 j p e2
   refine ⟨v,?_,h2⟩
   show some (σ[j]?).join=some (some v)
   rw [h1];rfl
 ·rw [List.getElem?_append_right (by simpa using hi),List.getElem?_replicate] at e
  split at e <;> cases e
theorem Yy {K:W.Frag} {H:Hp} {b:Bz} {J:It} {w:ItP} {D:Addr} {o:HO} (h:yg K H b J w) (hD:H D=none):yg K (upd H D o) ⟨b.b,D::b.z⟩ J w:=fun H1 b1 st1 e S g=>h H1 b1 st1 ((WE.hide hD).trans e) S g
theorem Q0 {X:Cx} {E:XK} {elt:Expr} {c:Comprehension} {cs:List Comprehension} {scope:Scope} {pos:Pos} {capN locN:List Str} {caps:List Nat} {fi:FI} {g:FG} {ts:List FT} {gs:List GenF} {f:FE} (hcs:CSc X scope capN locN caps)
  (hi:VI X E c.target c.iter fi) (sub:∀ s H fp pn,VE (cCx X scope (capN++locN) s H fp pn) E0 elt f∧GOk (cCx X scope (capN++locN) s H fp pn) c ⟨fi,g,ts⟩∧GsOk (cCx X scope (capN++locN) s H fp pn) cs gs)
  (hs:∀ x,foldedSetIterable c.iter X.env x=pure x:=by intro _;rfl):VN X E (.ListComp elt (c::cs) scope pos) (qm caps locN.length fi g ts gs f):=by
 intro pins s σ H Q I hq
 obtain ⟨b,r,st,S,RE,P⟩:=hq
 have hfree:∀ x∈scope.names,x.2 = .free -> ∃ c,X.env.cells.lookup x.1=some c:=fun x hx hk=>I.ok.has x.1 (hcs.fr x hx hk)
 obtain ⟨c1,c2,c3,c4⟩:=c
 have hasy:c4=0:=(sub s H [] []).2.1.asy
 subst hasy
 rw [eval_ListComp]
 refine wpAny_comprehension_free (use:=none) rfl hs (yx hfree) hcs.kind (fun x hx hl=>Wd hcs.nd (by rw [← hl];exact hx)) ?_
 show wpAny _ _ (eval c2 X.env) _ _ s
 unfold qm at P
 cases ef:fi r st with
 |no=>rw [ef] at P;exact P.elim
 |ex x s1 =>
  rw [ef] at P
  refine thn (hi pins s σ H (fun _ _=>False) I ⟨b,r,st,S,RE,by rw [ef];exact P⟩) fun v s2 h2=>thn h2 fun itv s3 h3 => ?_
  obtain ⟨_,_,_,_,_,_,_,_,_,_,z⟩:=h3
  exact z.elim
 |ok w s1 =>
  rw [ef] at P
  refine thn (hi pins s σ H (fun J H' => ∃ b',Ext H b H' b'∧SR X.K H' b' s1∧yg X.K H' b' J w) I ⟨b,r,st,S,RE,by rw [ef];exact fun J H' b' e' S' i'=>⟨b',e',S',i'⟩⟩) fun v s2 h2=>thn h2 fun itv s3 h3 => ?_
  obtain ⟨it,fp,tn,J,H2,rfl,I2,T,t2,f2,b2,e2,S2,i2⟩:=h3
  have P:PostN X.K E H b (match qi w.G (Qd ⟨fi,g,ts⟩ (Qn gs f) (Wc caps locN.length r)) w.l s1 with | .ok l s'=>if l.length≤sizeLine then .ok l s' else .no |_ => .no) Q:=P
  cases ev:qi w.G (Qd ⟨fi,g,ts⟩ (Qn gs f) (Wc caps locN.length r)) w.l s1 with
  |no=>rw [ev] at P;exact P.elim
  |ex x s4=>rw [ev] at P;exact P.elim
  |ok l st' =>
   rw [ev] at P
   have P:PostN X.K E H b (if l.length≤sizeLine then .ok l st' else .no) Q:=P
   by_cases hl:l.length≤sizeLine
   ·rw [if_pos hl] at P
    have hfr:H2 s3.heap.objs.size=none:=I2.hok.fresh (Nat.le_refl _)
    refine wpAny_newList ?_
    generalize hs3:({ s3 with heap:=s3.heap.push { cls := .type "list",data := .seq ([]:List Value).toArray } }:Shared)=s3'
    have I3:L2.Inv X pins σ (upd H2 s3.heap.objs.size (.lst [])) s3':=by
     rw [← hs3]
     exact I2.laid (t':=s3.toks) (fun a u e=>Heap.get?_push_of_some _ e) (Nat.le_refl _) (show ObjOk X.prog X.w _ _ _ (.lst []) from ⟨Nat.zero_le _,[],0,.nil,Heap.get?_push_size _ rfl⟩)
    have k3:∀ a o,s3.heap.get? a=some o->s3'.heap.get? a=some o:=fun a o e=>by rw [← hs3];exact Heap.get?_push_of_some _ e
    have hlt:∀ a∈fp,a < s3.heap.objs.size:=fun a ha=>by
     obtain ⟨o,e,_⟩:=T.obj _ _ t2 a ha
     exact Heap.lt_size e
    have f3:∀ a∈fp,Zi X pins (upd H2 s3.heap.objs.size (.lst [])) a:=fun a ha=>⟨by rw [qQ (Nat.ne_of_lt (hlt a ha))];exact (f2 a ha).1,(f2 a ha).2⟩
    have hlt3:∀ a∈fp,a < s3'.heap.objs.size:=fun a ha=>by
     obtain ⟨o,e,_⟩:=T.obj _ _ t2 a ha
     exact Heap.lt_size (k3 a o e)
    generalize hD:s3.heap.objs.size=D at I3 f3 hfr
    refine JZ ?_
    have J0:=YQ hcs I3 f3 hlt3 rfl
    obtain ⟨he,hg,hgs⟩:=sub s3' (upd H2 D (.lst [])) fp (X.pn++pins)
    have k4:∀ a o,s3'.heap.get? a=some o->(pushCells (s3'.heap.push { cls := .type "dict",data := .dict #[] }) scope.names).get? a=some o:=fun a o e=>pushCells_keeps _ _ _ _ (Heap.get?_push_of_some _ e)
    have hDz:D ∉ b2.z:=(S2.new_notin hfr).2
    have loop:=Yl (X:=cCx X scope (capN++locN) s3' (upd H2 D (.lst [])) fp (X.pn++pins)) (fun _ _ z=>z) (gens:=⟨c1,c2,c3,0⟩::cs) (scope:=scope) (pos:=pos) (D:=D) he gs cs 0 ⟨c1,c2,c3,0⟩ ⟨fi,g,ts⟩ rfl hg hgs [] _ _ _ ⟨b2.b,D::b2.z⟩ (Wc caps locN.length r) s1 st' it fp tn J w [] l
     (compPost (model X.prog X.w) X.A X.xe none (EP X pins σ Q) (.ref D) s3'.heap.objs.size) J0 (SR.hide S2 hfr) (JT ((RE.ext e2).wext (WE.hide hfr))) List.mem_cons_self QD T (T.keep _ _ _ t2 fun a ha o e=>k4 a o (k3 a o e))
     (fun a ha=>⟨(f3 a ha).1,(J0.ok.exf a ha).1,J0.ok.exfs a ha,.inl ha,(J0.ok.exf a ha).2,fun p hp=>(f3 a ha).2.2.2.2.2 p (by simpa [cCx] using hp)⟩) (Yy i2 hfr) ev (by simpa using hl)
     (fun s' σ' H' b' lV I' e' S' R' hD' r'=>by
      obtain ⟨m,hn,_⟩:=I'.loc
      refine ⟨m,hn,fun h'' sb => ?_⟩
      have fin:=J3 I3 f3 I' sb
      have hz':b'.z=D::b2.z:=e'.same
      refine ⟨.ref D,H',fin,rfl,?_⟩
      have ex:Ext H2 b2 H' ⟨b'.b,b2.z⟩:=by
       refine ⟨⟨?_,⟨[],rfl,by simp⟩,fun a o ha ho => ?_,fun a o ha => ?_⟩,rfl,fun a o hz ha => ?_,fun a o u ha=>e'.fz a o u (qO ha hfr) (by rw [qQ (qO ha hfr)];exact ha)⟩
       ·obtain ⟨n,hb,hh⟩:=e'.more
        exact ⟨n,hb,fun a ha=>by
         have:=hh a ha
         by_cases q:a=D
         ·rw [q];exact hfr
         ·rwa [qQ q] at this⟩
       ·have hne:a≠D:=qO ha hfr
        exact e'.keep a o (by rw [qQ hne];exact ha) ⟨ho.1,fun z=>(List.mem_cons.mp z).elim hne ho.2⟩
       ·have hne:a≠D:=qO ha hfr
        exact e'.dom a o (by rw [qQ hne];exact ha)
       ·have hne:a≠D:=qO ha hfr
        exact e'.hid a o (List.mem_cons_of_mem _ hz) hne (by rw [qQ hne];exact ha)
      have hb':(⟨b'.b,D::b2.z⟩:Bz)=b':=by rw [← hz']
      refine P D lV H' ⟨b'.b,b2.z⟩ (e2.trans ex) (e2.none_of hfr) (by simpa using hD') hDz ?_ ?_
      ·show SR X.K H' ⟨b'.b,D::b2.z⟩ st'
       rw [hb'];exact S'
      ·show RVs X.K H' ⟨b'.b,D::b2.z⟩ l lV
       rw [hb'];exact r')
    exact zQ rfl rfl loop (T.self X.A 0 _ _ _ (T.keep _ _ _ t2 fun a ha o e=>k4 a o (k3 a o e)) loop)
   ·rw [if_neg hl] at P;exact P.elim
def QV (n:Nat) (l:List PV):q9:=l.map some++List.replicate (n - l.length) none
def qEe:RS->Rs PV
 | .nx _ st => .ok .non st
 | .rt v st => .ok v st
 | .ex x st => .ex x st
 |_ => .no
def Refn (n:Nat) (r r':Rs PV):Prop := ∀ (K:W.Frag) (E:XK) (H:Hp) (b:Bz) (Q:VK),b.b.length=n->PostE K E H b r' Q->PostE K E H b r Q
theorem Refn.refl {n:Nat} {r:Rs PV}:Refn n r r:=fun _ _ _ _ _ _ h=>h
theorem REnv.init {K:W.Frag} {H:Hp} {b:Bz} {N:List Str} {l:List PV} {vs:List V} (h:RVs K H b l vs):REnv K H b (QV N.length l) (start N vs):=by
 have hl:=h.length
 refine ⟨by simp [QV,L2.start,hl],fun i p e => ?_⟩
 unfold QV at e
 unfold L2.start
 by_cases hi:i < l.length
 ·rw [List.getElem?_append_left (by simpa using hi),List.getElem?_map] at e
  rw [List.getElem?_append_left (by simpa [← hl] using hi),List.getElem?_map]
  cases q:l[i]? with
  |none=>rw [q] at e;cases e
  |some p' =>
   rw [q] at e
   cases e
   obtain ⟨v,h1,h2⟩:=h.get q
   exact ⟨v,by rw [h1];rfl,h2⟩
 ·rw [List.getElem?_append_right (by simpa using hi),List.getElem?_replicate] at e
  split at e <;> cases e
section
variable {P:Program} {w:World} {K:W.Frag} {mg:Str->Option Value} {base:Heap}
theorem okV {CX:CXT} {x qual:Str} {st:Stmt} {f:Addr} {fd:FuncData} {N ps:List Str} {k:Nat} {g:List PV->qC->Rs PV} (F:Fun K x qual st f fd) (S:FnScope N ps (qK st))
  (body:∀ (cdv:Value) (A:Around) (outer:List Env) (s:Shared) (H:Hp) (E:XK),Room k (A.deeper (envOfC qual (qK st) s.heap.objs.size f cdv))->(0 < k->A.handled=none) ->
   ∃ B:FS,VSs (wU CX P w K mg base N qual (qK st) f cdv A outer s H E) E (qe st) B ∧ ∀ l s0,l.length=ps.length->g l s0 ≠ .no->Refn s0.length (qEe (B (QV N.length l) s0)) (g l s0)):FnOk P w K mg base CX (k + 1) f fd ps (spG K ps.length g):=by
 obtain ⟨oc,od,kV,doc,pm,an,cdv,ct,osl,rfl,lk,hcd⟩:=F.ex
 refine qIM lk hcd S (fun vs H Q E h=>h.1) fun A outer s H vs Q E hr hcm hsp => ?_
 obtain ⟨B,hB,hg⟩:=body cdv A outer s H E hr hcm
 obtain ⟨hl,b,l,st0,S0,r0,P0⟩:=hsp
 refine ⟨_,hB,b,QV N.length l,st0,S0,REnv.init r0,?_⟩
 have hne:g l st0 ≠ .no:=fun z=>by rw [z] at P0;exact P0
 have P1:=hg l st0 (by rw [r0.length];exact hl) hne K E H b Q S0.len P0
 cases e:B (QV N.length l) st0 with
 |nx r st=>rw [e] at P1;exact fun s H' b' e' S' R'=>P1 .non H' b' e' S' (by unfold RV;rfl)
 |rt v st=>rw [e] at P1;exact P1
 |bk r st=>rw [e] at P1;exact P1.elim
 |ct r st=>rw [e] at P1;exact P1.elim
 |ex x st=>rw [e] at P1;exact P1
 |no=>rw [e] at P1;exact P1.elim
end
mutual
def peq:PV->PV->Bool
 | .non,.non=>true
 | .bl a,.bl c=>a==c
 | .int a,.int c=>a==c
 | .bl a,.int c=>(if a then 1 else 0)==c
 | .int a,.bl c=>a==(if c then 1 else 0)
 | .str a,.str c=>a==c
 | .tup l,.tup m=>peqs l m
 | .lst l,.lst m=>peqs l m
 |_,_=>false
def peqs:List PV->List PV->Bool
 |[],[]=>true
 |p::ps,q::qs=>peq p q&&peqs ps qs
 |_,_=>false
end
mutual
def nr:PV->Bool
 | .tup l=>nrs l
 | .lst l=>nrs l
 | .ref _=>false
 | .dct=>false
 | .ty _=>false
 | .fn _=>false
 | .exc _ _=>false
 |_=>true
def nrs:List PV->Bool
 |[]=>true
 |p::ps=>nr p&&nrs ps
end
mutual
def dep:PV->Nat
 | .tup l=>deps l + 1
 | .lst l=>deps l + 1
 |_=>0
def deps:List PV->Nat
 |[]=>0
 |p::ps=>max (dep p) (deps ps)
end
mutual
def RW (K:W.Frag) (H:Hp):PV->V->Prop
 | .non,v=>v = .non
 | .bl x,v=>v = .bl x
 | .int i,v=>v = .int i
 | .str x,v=>v = .str x
 | .tup l,v => ∃ a xs,v = .ref a∧SqT K H a xs∧RWs K H l xs
 | .lst l,v => ∃ a xs,v = .ref a∧SqL K H a xs∧RWs K H l xs
 |_,_=>False
def RWs (K:W.Frag) (H:Hp):List PV->List V->Prop
 |[],xs=>xs=[]
 |p::ps,xs => ∃ x r,xs=x::r∧RW K H p x∧RWs K H ps r
end
mutual
theorem RV.rw {K:W.Frag} {H:Hp} {b:Bz}:∀ (p:PV) {v:V},nr p=true->RV K H b p v->RW K H p v
 | .non,_,_,h=>by unfold RV at h;unfold RW;exact h
 | .bl _,_,_,h=>by unfold RV at h;unfold RW;exact h
 | .int _,_,_,h=>by unfold RV at h;unfold RW;exact h
 | .str _,_,_,h=>by unfold RV at h;unfold RW;exact h
 | .tup l,_,n,h=>by
  unfold RV at h;unfold RW;unfold nr at n
  obtain ⟨a,xs,h1,h2,h3⟩:=h
  exact ⟨a,xs,h1,h2.sq,RVs.rws l n h3⟩
 | .lst l,_,n,h=>by
  unfold RV at h;unfold RW;unfold nr at n
  obtain ⟨a,xs,h1,h2,h3⟩:=h
  exact ⟨a,xs,h1,h2.sq,RVs.rws l n h3⟩
 | .ref _,_,n,_=>by unfold nr at n;cases n
 | .dct,_,n,_=>by unfold nr at n;cases n
 | .ty _,_,n,_=>by unfold nr at n;cases n
 | .fn _,_,n,_=>by unfold nr at n;cases n
 | .exc _ _,_,n,_=>by unfold nr at n;cases n
theorem RVs.rws {K:W.Frag} {H:Hp} {b:Bz}:∀ (l:List PV) {xs:List V},nrs l=true->RVs K H b l xs->RWs K H l xs
 |[],_,_,h=>by unfold RVs at h;unfold RWs;exact h
 |p::ps,_,n,h=>by
  unfold RVs at h;unfold RWs;unfold nrs at n
  rw [Bool.and_eq_true] at n
  obtain ⟨x,r,h1,h2,h3⟩:=h
  exact ⟨x,r,h1,RV.rw p n.1 h2,RVs.rws ps n.2 h3⟩
end
theorem RWs.length {K:W.Frag} {H:Hp}:∀ {l:List PV} {xs:List V},RWs K H l xs->l.length=xs.length
 |[],_,h=>by unfold RWs at h;rw [h];rfl
 |p::ps,_,h=>by
  unfold RWs at h
  obtain ⟨x,r,rfl,_,h3⟩:=h
  rw [List.length_cons,List.length_cons,RWs.length h3]
section
variable {X:Cx} {pins:List (Addr×Obj)} {σ:L2.St} {H:Hp} {s:Shared}
theorem Z9 (I:L2.Inv X pins σ H s) {a:Addr} {xs ys:List V} (h1:SqL X.K H a xs) (h2:SqT X.K H a ys):False:=by
 obtain ⟨its,_,p,_⟩:=I.list h1
 obtain ⟨its',_,q,_⟩:=I.tuple h2
 obtain ⟨o,ho,hc,n,hd⟩:=p.isList
 obtain ⟨o',ho',hc',_⟩:=q
 rw [ho] at ho';cases ho'
 rw [hc] at hc'
 injection hc' with z
 exact absurd z (by decide)
mutual
theorem RW.same (I:L2.Inv X pins σ H s):∀ (p q:PV) {v:V},RW X.K H p v->RW X.K H q v->peq p q=true
 | .non,q,v,h,g=>by
  unfold RW at h;subst h
  cases q <;> unfold RW at g <;> first |rfl |exact (g:False).elim |(obtain ⟨_,_,e,_⟩:=g;cases e) |cases g
 | .bl x,q,v,h,g=>by
  unfold RW at h;subst h
  cases q <;> unfold RW at g <;> first |(obtain ⟨_,_,e,_⟩:=g;cases e) |(cases g;simp [peq];done) |exact (g:False).elim |cases g
 | .int x,q,v,h,g=>by
  unfold RW at h;subst h
  cases q <;> unfold RW at g <;> first |(obtain ⟨_,_,e,_⟩:=g;cases e) |(cases g;simp [peq];done) |exact (g:False).elim |cases g
 | .str x,q,v,h,g=>by
  unfold RW at h;subst h
  cases q <;> unfold RW at g <;> first |(obtain ⟨_,_,e,_⟩:=g;cases e) |(cases g;simp [peq];done) |exact (g:False).elim |cases g
 | .tup l,q,v,h,g=>by
  unfold RW at h
  obtain ⟨a,xs,rfl,h2,h3⟩:=h
  cases q with
  |tup m =>
   unfold RW at g
   obtain ⟨a',ys,e,g2,g3⟩:=g
   cases e
   have:=I.tuple_inj h2 g2
   subst this
   unfold peq
   exact RWs.same I l m h3 g3
  |lst m =>
   unfold RW at g
   obtain ⟨a',ys,e,g2,g3⟩:=g
   cases e
   exact (Z9 I g2 h2).elim
  |ref _=>unfold RW at g;exact g.elim
  |dct=>unfold RW at g;exact g.elim
  |ty _=>unfold RW at g;exact g.elim
  |fn _=>unfold RW at g;exact g.elim
  |exc _ _=>unfold RW at g;exact g.elim
  |non=>unfold RW at g;cases g
  |bl _=>unfold RW at g;cases g
  |int _=>unfold RW at g;cases g
  |str _=>unfold RW at g;cases g
 | .lst l,q,v,h,g=>by
  unfold RW at h
  obtain ⟨a,xs,rfl,h2,h3⟩:=h
  cases q with
  |lst m =>
   unfold RW at g
   obtain ⟨a',ys,e,g2,g3⟩:=g
   cases e
   have:=I.list_inj h2 g2
   subst this
   unfold peq
   exact RWs.same I l m h3 g3
  |tup m =>
   unfold RW at g
   obtain ⟨a',ys,e,g2,g3⟩:=g
   cases e
   exact (Z9 I h2 g2).elim
  |ref _=>unfold RW at g;exact g.elim
  |dct=>unfold RW at g;exact g.elim
  |ty _=>unfold RW at g;exact g.elim
  |fn _=>unfold RW at g;exact g.elim
  |exc _ _=>unfold RW at g;exact g.elim
  |non=>unfold RW at g;cases g
  |bl _=>unfold RW at g;cases g
  |int _=>unfold RW at g;cases g
  |str _=>unfold RW at g;cases g
 | .ref _,_,_,h,_=>by unfold RW at h;exact h.elim
 | .dct,_,_,h,_=>by unfold RW at h;exact h.elim
 | .ty _,_,_,h,_=>by unfold RW at h;exact h.elim
 | .fn _,_,_,h,_=>by unfold RW at h;exact h.elim
 | .exc _ _,_,_,h,_=>by unfold RW at h;exact h.elim
theorem RWs.same (I:L2.Inv X pins σ H s):∀ (l m:List PV) {xs:List V},RWs X.K H l xs->RWs X.K H m xs->peqs l m=true
 |[],m,xs,h,g=>by
  unfold RWs at h;subst h
  cases m with
  |nil=>rfl
  |cons _ _=>unfold RWs at g;obtain ⟨_,_,e,_⟩:=g;cases e
 |p::ps,m,xs,h,g=>by
  unfold RWs at h
  obtain ⟨x,r,rfl,h2,h3⟩:=h
  cases m with
  |nil=>unfold RWs at g;cases g
  |cons q qs =>
   unfold RWs at g
   obtain ⟨y,t,e,g2,g3⟩:=g
   cases e
   unfold peqs
   rw [RW.same I p q h2 g2,RWs.same I ps qs h3 g3];rfl
end
def eqN (l m:List PV) (j:Nat):Bool:=match l[j]?,m[j]? with
 |some p,some q=>peq p q
 |_,_=>false
theorem zT:∀ (l m:List PV),l.length=m.length->(List.range l.length).all (eqN l m)=peqs l m
 |[],[],_=>rfl
 |p::ps,q::qs,h=>by
  have ih:=zT ps qs (by simpa using h)
  rw [List.length_cons,List.range_succ_eq_map,List.all_cons,List.all_map]
  unfold peqs
  have e0:eqN (p::ps) (q::qs) 0=peq p q:=rfl
  have e1:(eqN (p::ps) (q::qs) ∘ Nat.succ)=eqN ps qs:=by funext j;rfl
  rw [e0,e1,ih]
 |[],_::_,h=>by simp at h
 |_::_,[],h=>by simp at h
theorem Wb:∀ (l m:List PV),l.length≠m.length->peqs l m=false
 |[],[],h=>absurd rfl h
 |[],_::_,_=>rfl
 |_::_,[],_=>rfl
 |p::ps,q::qs,h=>by
  unfold peqs
  rw [Wb ps qs (by intro z;apply h;rw [List.length_cons,List.length_cons,z]),Bool.and_false]
theorem RWs.get' {K:W.Frag} {H:Hp}:∀ {l:List PV} {xs:List V} {i:Nat} {x:V},RWs K H l xs->xs[i]? = some x -> ∃ p,l[i]? = some p∧RW K H p x
 |[],_,_,_,h,e=>by unfold RWs at h;subst h;simp at e
 |p::ps,_,0,x,h,e=>by
  unfold RWs at h
  obtain ⟨y,r,rfl,h2,h3⟩:=h
  simp at e;subst e
  exact ⟨p,rfl,h2⟩
 |p::ps,_,i + 1,x,h,e=>by
  unfold RWs at h
  obtain ⟨y,r,rfl,h2,h3⟩:=h
  obtain ⟨q,e1,e2⟩:=RWs.get' (i:=i) h3 (by simpa using e)
  exact ⟨q,by simpa using e1,e2⟩
theorem Vals.get2:∀ {xs:List V} {us:List Value} {i:Nat} {u:Value},Vals xs us->us[i]? = some u -> ∃ x,xs[i]? = some x∧RelV x u
 |_,_,_,_,.nil,e=>by simp at e
 |_,_,0,_,.cons r _,e=>by simp at e;subst e;exact ⟨_,rfl,r⟩
 |_,_,i + 1,u,.cons _ t,e=>by
  obtain ⟨x,h1,h2⟩:=Vals.get2 (i:=i) (u:=u) t (by simpa using e)
  exact ⟨x,by simpa using h1,h2⟩
theorem Q5 (I:L2.Inv X pins σ H s) (p q:PV) {v u:V} {uv uu:Value} {A:Around} (hd:dep p=0) (hu':A.units < cLine) (hp:RW X.K H p v) (hq:RW X.K H q u) (rv:RelV v uv) (ru:RelV u uu):SeqAt.EqAt A s uv uu (peq p q):=by
 cases p with
 |tup l=>unfold dep at hd;omega
 |lst l=>unfold dep at hd;omega
 |ref _=>unfold RW at hp;exact hp.elim
 |dct=>unfold RW at hp;exact hp.elim
 |ty _=>unfold RW at hp;exact hp.elim
 |fn _=>unfold RW at hp;exact hp.elim
 |exc _ _=>unfold RW at hp;exact hp.elim
 |non =>
  unfold RW at hp;subst hp;cases rv
  cases q with
  |non=>unfold RW at hq;subst hq;cases ru;exact SeqAt.EqAt.same _
  |bl _=>unfold RW at hq;subst hq;cases ru;exact SeqAt.EqAt.none_bool _
  |int _=>unfold RW at hq;subst hq;obtain ⟨t,rfl⟩:=ru;exact SeqAt.EqAt.none_int _ _
  |str _=>unfold RW at hq;subst hq;obtain ⟨t,rfl⟩:=ru;exact SeqAt.EqAt.none_str _ _
  |tup _=>unfold RW at hq;obtain ⟨a,xs,rfl,h2,_⟩:=hq;cases ru;obtain ⟨its,_,t,_⟩:=I.tuple h2;exact SeqAt.EqAt.none_tuple t hu'
  |lst _=>unfold RW at hq;obtain ⟨a,xs,rfl,h2,_⟩:=hq;cases ru;obtain ⟨its,_,t,_⟩:=I.list h2;exact SeqAt.EqAt.none_list t.isList hu'
  |ref _=>unfold RW at hq;exact hq.elim
  |dct=>unfold RW at hq;exact hq.elim
  |ty _=>unfold RW at hq;exact hq.elim
  |fn _=>unfold RW at hq;exact hq.elim
  |exc _ _=>unfold RW at hq;exact hq.elim
 |bl x =>
  unfold RW at hp;subst hp;cases rv
  cases q with
  |non=>unfold RW at hq;subst hq;cases ru;exact SeqAt.EqAt.bool_none _
  |bl _=>unfold RW at hq;subst hq;cases ru;exact SeqAt.EqAt.bool_bool _ _
  |int _=>unfold RW at hq;subst hq;obtain ⟨t,rfl⟩:=ru;exact SeqAt.EqAt.bool_int _ _ _
  |str _=>unfold RW at hq;subst hq;obtain ⟨t,rfl⟩:=ru;exact SeqAt.EqAt.bool_str _ _ _
  |tup _=>unfold RW at hq;obtain ⟨a,xs,rfl,h2,_⟩:=hq;cases ru;obtain ⟨its,_,t,_⟩:=I.tuple h2;exact SeqAt.EqAt.bool_tuple _ t hu'
  |lst _=>unfold RW at hq;obtain ⟨a,xs,rfl,h2,_⟩:=hq;cases ru;obtain ⟨its,_,t,_⟩:=I.list h2;exact SeqAt.EqAt.bool_list _ t.isList hu'
  |ref _=>unfold RW at hq;exact hq.elim
  |dct=>unfold RW at hq;exact hq.elim
  |ty _=>unfold RW at hq;exact hq.elim
  |fn _=>unfold RW at hq;exact hq.elim
  |exc _ _=>unfold RW at hq;exact hq.elim
 |int x =>
  unfold RW at hp;subst hp;obtain ⟨t0,rfl⟩:=rv
  cases q with
  |non=>unfold RW at hq;subst hq;cases ru;exact SeqAt.EqAt.int_none _ _
  |bl _=>unfold RW at hq;subst hq;cases ru;exact SeqAt.EqAt.int_bool _ _ _
  |int _=>unfold RW at hq;subst hq;obtain ⟨t,rfl⟩:=ru;exact SeqAt.EqAt.int_int _ _ _ _
  |str _=>unfold RW at hq;subst hq;obtain ⟨t,rfl⟩:=ru;exact SeqAt.EqAt.int_str _ _ _ _
  |tup _=>unfold RW at hq;obtain ⟨a,xs,rfl,h2,_⟩:=hq;cases ru;obtain ⟨its,_,t,_⟩:=I.tuple h2;exact SeqAt.EqAt.int_tuple _ _ t hu'
  |lst _=>unfold RW at hq;obtain ⟨a,xs,rfl,h2,_⟩:=hq;cases ru;obtain ⟨its,_,t,_⟩:=I.list h2;exact SeqAt.EqAt.int_list _ _ t.isList hu'
  |ref _=>unfold RW at hq;exact hq.elim
  |dct=>unfold RW at hq;exact hq.elim
  |ty _=>unfold RW at hq;exact hq.elim
  |fn _=>unfold RW at hq;exact hq.elim
  |exc _ _=>unfold RW at hq;exact hq.elim
 |str x =>
  unfold RW at hp;subst hp;obtain ⟨t0,rfl⟩:=rv
  cases q with
  |non=>unfold RW at hq;subst hq;cases ru;exact SeqAt.EqAt.str_none _ _
  |bl _=>unfold RW at hq;subst hq;cases ru;exact SeqAt.EqAt.str_bool _ _ _
  |int _=>unfold RW at hq;subst hq;obtain ⟨t,rfl⟩:=ru;exact SeqAt.EqAt.str_int _ _ _ _
  |str _=>unfold RW at hq;subst hq;obtain ⟨t,rfl⟩:=ru;exact SeqAt.EqAt.str_str _ _ _ _
  |tup _=>unfold RW at hq;obtain ⟨a,xs,rfl,h2,_⟩:=hq;cases ru;obtain ⟨its,_,t,_⟩:=I.tuple h2;exact SeqAt.EqAt.str_tuple _ _ t hu'
  |lst _=>unfold RW at hq;obtain ⟨a,xs,rfl,h2,_⟩:=hq;cases ru;obtain ⟨its,_,t,_⟩:=I.list h2;exact SeqAt.EqAt.str_list _ _ t.isList hu'
  |ref _=>unfold RW at hq;exact hq.elim
  |dct=>unfold RW at hq;exact hq.elim
  |ty _=>unfold RW at hq;exact hq.elim
  |fn _=>unfold RW at hq;exact hq.elim
  |exc _ _=>unfold RW at hq;exact hq.elim
theorem zt:∀ {l:List PV} {i:Nat} {p:PV},l[i]? = some p->dep p≤deps l
 |[],_,_,h=>by simp at h
 |q::qs,0,p,h=>by simp at h;subst h;unfold deps;exact Nat.le_max_left _ _
 |q::qs,i + 1,p,h=>by unfold deps;exact Nat.le_trans (zt (l:=qs) (i:=i) (by simpa using h)) (Nat.le_max_right _ _)
theorem qAr (I:L2.Inv X pins σ H s):∀ (n:Nat) (p q:PV) (v u:V) (uv uu:Value) (A:Around),dep p≤n->A.units + n < cLine->RW X.K H p v->RW X.K H q u->RelV v uv->RelV u uu->SeqAt.EqAt A s uv uu (peq p q):=by
 intro n
 induction n with
 |zero=>intro p q v u uv uu A hd hu hp hq rv ru;exact Q5 I p q (Nat.le_zero.mp hd) hu hp hq rv ru
 |succ n ih =>
  intro p q v u uv uu A hd hu hp hq rv ru
  have hu':A.units < cLine:=Nat.lt_of_le_of_lt (Nat.le_add_right _ _) hu
  have hin:A.in1.units + n < cLine:=by show A.units + 1 + n < cLine;omega
  have elt:∀ {l m:List PV} {xs ys:List V} {its its2:List Value},deps l≤n->RWs X.K H l xs->RWs X.K H m ys->Vals xs its->Vals ys its2 -> ∀ j (h1:j < its.toArray.size) (h2:j < its2.toArray.size),SeqAt.EqAt A.in1 s its.toArray[j] its2.toArray[j] (eqN l m j):=fun {l m xs ys its its2} hdl hl hm vl vm j h1 h2=>by
   have e1:its[j]? = some its.toArray[j]:=by simp
   have e2:its2[j]? = some its2.toArray[j]:=by simp
   obtain ⟨x,hx,rx⟩:=Vals.get2 vl e1
   obtain ⟨y,hy,ry⟩:=Vals.get2 vm e2
   obtain ⟨p',hp',rp'⟩:=RWs.get' hl hx
   obtain ⟨q',hq',rq'⟩:=RWs.get' hm hy
   have:eqN l m j=peq p' q':=by unfold eqN;rw [hp',hq']
   rw [this]
   exact ih p' q' x y _ _ A.in1 (Nat.le_trans (zt hp') hdl) hin rp' rq' rx ry
  cases p with
  |tup l =>
   have hp0:=hp
   unfold RW at hp
   unfold dep at hd
   obtain ⟨a,xs,rfl,h2,h3⟩:=hp
   cases rv
   obtain ⟨its,vl,tl,_⟩:=I.tuple h2
   cases q with
   |non=>unfold RW at hq;subst hq;cases ru;exact SeqAt.EqAt.tuple_none tl hu'
   |bl _=>unfold RW at hq;subst hq;cases ru;exact SeqAt.EqAt.tuple_bool _ tl hu'
   |int _=>unfold RW at hq;subst hq;obtain ⟨t,rfl⟩:=ru;exact SeqAt.EqAt.tuple_int _ _ tl hu'
   |str _=>unfold RW at hq;subst hq;obtain ⟨t,rfl⟩:=ru;exact SeqAt.EqAt.tuple_str _ _ tl hu'
   |lst _=>unfold RW at hq;obtain ⟨a,xs,rfl,h2,_⟩:=hq;cases ru;obtain ⟨its,_,t,_⟩:=I.list h2;exact SeqAt.EqAt.tuple_list tl t.isList hu'
   |ref _=>unfold RW at hq;exact hq.elim
   |dct=>unfold RW at hq;exact hq.elim
   |ty _=>unfold RW at hq;exact hq.elim
   |fn _=>unfold RW at hq;exact hq.elim
   |exc _ _=>unfold RW at hq;exact hq.elim
   |tup m =>
    have hq0:=hq
    unfold RW at hq
    obtain ⟨a2,ys,rfl,g2,g3⟩:=hq
    cases ru
    obtain ⟨its2,vm,tm,_⟩:=I.tuple g2
    by_cases ha:a=a2
    ·subst ha
     rw [RW.same I _ _ hp0 hq0]
     exact SeqAt.EqAt.same _
    ·refine SeqAt.EqAt.of_refs ha ?_
     have rc:=SeqAt.RcAt.tuples (e:=eqN l m) tl tm hu' (elt (by omega) h3 g3 vl vm)
     have hl1:its.toArray.size=l.length:=by rw [List.size_toArray,← vl.length,h3.length]
     have hl2:its2.toArray.size=m.length:=by rw [List.size_toArray,← vm.length,g3.length]
     rw [hl1,hl2] at rc
     have e:((List.range (min l.length m.length)).all (eqN l m)&&l.length==m.length)=peq (.tup l) (.tup m):=by
      unfold peq
      by_cases hlm:l.length=m.length
      ·rw [← hlm,Nat.min_self,zT l m hlm,beq_self_eq_true,Bool.and_true]
      ·rw [Wb l m hlm,beq_false_of_ne hlm,Bool.and_false]
     rw [e] at rc
     exact rc
  |lst l =>
   have hp0:=hp
   unfold RW at hp
   unfold dep at hd
   obtain ⟨a,xs,rfl,h2,h3⟩:=hp
   cases rv
   obtain ⟨its,vl,tl',_⟩:=I.list h2
   have tl:=tl'.isList
   cases q with
   |non=>unfold RW at hq;subst hq;cases ru;exact SeqAt.EqAt.list_none tl hu'
   |bl _=>unfold RW at hq;subst hq;cases ru;exact SeqAt.EqAt.list_bool _ tl hu'
   |int _=>unfold RW at hq;subst hq;obtain ⟨t,rfl⟩:=ru;exact SeqAt.EqAt.list_int _ _ tl hu'
   |str _=>unfold RW at hq;subst hq;obtain ⟨t,rfl⟩:=ru;exact SeqAt.EqAt.list_str _ _ tl hu'
   |tup _=>unfold RW at hq;obtain ⟨a,xs,rfl,h2,_⟩:=hq;cases ru;obtain ⟨its,_,t,_⟩:=I.tuple h2;exact SeqAt.EqAt.list_tuple tl t hu'
   |ref _=>unfold RW at hq;exact hq.elim
   |dct=>unfold RW at hq;exact hq.elim
   |ty _=>unfold RW at hq;exact hq.elim
   |fn _=>unfold RW at hq;exact hq.elim
   |exc _ _=>unfold RW at hq;exact hq.elim
   |lst m =>
    have hq0:=hq
    unfold RW at hq
    obtain ⟨a2,ys,rfl,g2,g3⟩:=hq
    cases ru
    obtain ⟨its2,vm,tm',_⟩:=I.list g2
    have tm:=tm'.isList
    by_cases ha:a=a2
    ·subst ha
     rw [RW.same I _ _ hp0 hq0]
     exact SeqAt.EqAt.same _
    ·refine SeqAt.EqAt.of_refs ha ?_
     have hl1:its.toArray.size=l.length:=by rw [List.size_toArray,← vl.length,h3.length]
     have hl2:its2.toArray.size=m.length:=by rw [List.size_toArray,← vm.length,g3.length]
     unfold peq
     by_cases hlm:l.length=m.length
     ·have rc:=SeqAt.RcAt.lists (e:=eqN l m) tl tm (by rw [hl1,hl2,hlm]) hu' (elt (by omega) h3 g3 vl vm)
      rw [hl1,zT l m hlm] at rc
      exact rc
     ·rw [Wb l m hlm]
      exact SeqAt.RcAt.lists_lengths tl tm (by rw [hl1,hl2];exact bne_iff_ne.mpr hlm) hu'
  |non=>exact Q5 I _ q rfl hu' hp hq rv ru
  |bl _=>exact Q5 I _ q rfl hu' hp hq rv ru
  |int _=>exact Q5 I _ q rfl hu' hp hq rv ru
  |str _=>exact Q5 I _ q rfl hu' hp hq rv ru
  |ref _=>exact Q5 I _ q rfl hu' hp hq rv ru
  |dct=>exact Q5 I _ q rfl hu' hp hq rv ru
  |ty _=>exact Q5 I _ q rfl hu' hp hq rv ru
  |fn _=>exact Q5 I _ q rfl hu' hp hq rv ru
  |exc _ _=>exact Q5 I _ q rfl hu' hp hq rv ru
end
section
variable {X:Cx} {pins:List (Addr×Obj)} {σ:L2.St} {H:Hp} {s:Shared}
mutual
theorem RW.det (I:L2.Inv X pins σ H s):∀ (p q:PV) {v:V},RW X.K H p v->RW X.K H q v->p=q
 | .non,q,v,h,g=>by
  unfold RW at h;subst h
  cases q <;> unfold RW at g <;> first |rfl |exact (g:False).elim |(obtain ⟨_,_,e,_⟩:=g;cases e) |cases g
 | .bl x,q,v,h,g=>by
  unfold RW at h;subst h
  cases q <;> unfold RW at g <;> first |(obtain ⟨_,_,e,_⟩:=g;cases e) |(cases g;rfl) |exact (g:False).elim |cases g
 | .int x,q,v,h,g=>by
  unfold RW at h;subst h
  cases q <;> unfold RW at g <;> first |(obtain ⟨_,_,e,_⟩:=g;cases e) |(cases g;rfl) |exact (g:False).elim |cases g
 | .str x,q,v,h,g=>by
  unfold RW at h;subst h
  cases q <;> unfold RW at g <;> first |(obtain ⟨_,_,e,_⟩:=g;cases e) |(cases g;rfl) |exact (g:False).elim |cases g
 | .tup l,q,v,h,g=>by
  unfold RW at h
  obtain ⟨a,xs,rfl,h2,h3⟩:=h
  cases q with
  |tup m =>
   unfold RW at g
   obtain ⟨a',ys,e,g2,g3⟩:=g
   cases e
   have:=I.tuple_inj h2 g2
   subst this
   rw [RWs.det I l m h3 g3]
  |lst m =>
   unfold RW at g
   obtain ⟨a',ys,e,g2,g3⟩:=g
   cases e
   exact (Z9 I g2 h2).elim
  |ref _=>unfold RW at g;exact g.elim
  |dct=>unfold RW at g;exact g.elim
  |ty _=>unfold RW at g;exact g.elim
  |fn _=>unfold RW at g;exact g.elim
  |exc _ _=>unfold RW at g;exact g.elim
  |non=>unfold RW at g;cases g
  |bl _=>unfold RW at g;cases g
  |int _=>unfold RW at g;cases g
  |str _=>unfold RW at g;cases g
 | .lst l,q,v,h,g=>by
  unfold RW at h
  obtain ⟨a,xs,rfl,h2,h3⟩:=h
  cases q with
  |lst m =>
   unfold RW at g
   obtain ⟨a',ys,e,g2,g3⟩:=g
   cases e
   have:=I.list_inj h2 g2
   subst this
   rw [RWs.det I l m h3 g3]
  |tup m =>
   unfold RW at g
   obtain ⟨a',ys,e,g2,g3⟩:=g
   cases e
   exact (Z9 I h2 g2).elim
  |ref _=>unfold RW at g;exact g.elim
  |dct=>unfold RW at g;exact g.elim
  |ty _=>unfold RW at g;exact g.elim
  |fn _=>unfold RW at g;exact g.elim
  |exc _ _=>unfold RW at g;exact g.elim
  |non=>unfold RW at g;cases g
  |bl _=>unfold RW at g;cases g
  |int _=>unfold RW at g;cases g
  |str _=>unfold RW at g;cases g
 | .ref _,_,_,h,_=>by unfold RW at h;exact h.elim
 | .dct,_,_,h,_=>by unfold RW at h;exact h.elim
 | .ty _,_,_,h,_=>by unfold RW at h;exact h.elim
 | .fn _,_,_,h,_=>by unfold RW at h;exact h.elim
 | .exc _ _,_,_,h,_=>by unfold RW at h;exact h.elim
theorem RWs.det (I:L2.Inv X pins σ H s):∀ (l m:List PV) {xs:List V},RWs X.K H l xs->RWs X.K H m xs->l=m
 |[],m,xs,h,g=>by
  unfold RWs at h;subst h
  cases m with
  |nil=>rfl
  |cons _ _=>unfold RWs at g;obtain ⟨_,_,e,_⟩:=g;cases e
 |p::ps,m,xs,h,g=>by
  unfold RWs at h
  obtain ⟨x,r,rfl,h2,h3⟩:=h
  cases m with
  |nil=>unfold RWs at g;cases g
  |cons q qs =>
   unfold RWs at g
   obtain ⟨y,t,e,g2,g3⟩:=g
   cases e
   rw [RW.det I p q h2 g2,RWs.det I ps qs h3 g3]
end
theorem wP (I:L2.Inv X pins σ H s) (p q:PV) {v u:V} {uv uu:Value} {A:Around} (hd:dep p=0) (hu':A.units < cLine) (hp:RW X.K H p v) (hq:RW X.K H q u) (rv:RelV v uv) (ru:RelV u uu):SeqAt.RcAt A s uv uu (peq p q):=by
 cases p with
 |tup l=>unfold dep at hd;omega
 |lst l=>unfold dep at hd;omega
 |ref _=>unfold RW at hp;exact hp.elim
 |dct=>unfold RW at hp;exact hp.elim
 |ty _=>unfold RW at hp;exact hp.elim
 |fn _=>unfold RW at hp;exact hp.elim
 |exc _ _=>unfold RW at hp;exact hp.elim
 |non =>
  unfold RW at hp;subst hp;cases rv
  cases q with
  |non=>unfold RW at hq;subst hq;cases ru;exact SeqAt.RcAt.none_none
  |bl _=>unfold RW at hq;subst hq;cases ru;exact SeqAt.RcAt.none_bool _
  |int _=>unfold RW at hq;subst hq;obtain ⟨t,rfl⟩:=ru;exact SeqAt.RcAt.none_int _ _
  |str _=>unfold RW at hq;subst hq;obtain ⟨t,rfl⟩:=ru;exact SeqAt.RcAt.none_str _ _
  |tup _=>unfold RW at hq;obtain ⟨a,xs,rfl,h2,_⟩:=hq;cases ru;obtain ⟨its,_,t,_⟩:=I.tuple h2;exact SeqAt.RcAt.none_tuple t hu'
  |lst _=>unfold RW at hq;obtain ⟨a,xs,rfl,h2,_⟩:=hq;cases ru;obtain ⟨its,_,t,_⟩:=I.list h2;exact SeqAt.RcAt.none_list t.isList hu'
  |ref _=>unfold RW at hq;exact hq.elim
  |dct=>unfold RW at hq;exact hq.elim
  |ty _=>unfold RW at hq;exact hq.elim
  |fn _=>unfold RW at hq;exact hq.elim
  |exc _ _=>unfold RW at hq;exact hq.elim
 |bl x =>
  unfold RW at hp;subst hp;cases rv
  cases q with
  |non=>unfold RW at hq;subst hq;cases ru;exact SeqAt.RcAt.bool_none _
  |bl _=>unfold RW at hq;subst hq;cases ru;exact SeqAt.RcAt.bool_bool _ _
  |int _=>unfold RW at hq;subst hq;obtain ⟨t,rfl⟩:=ru;exact SeqAt.RcAt.bool_int _ _ _
  |str _=>unfold RW at hq;subst hq;obtain ⟨t,rfl⟩:=ru;exact SeqAt.RcAt.bool_str _ _ _
  |tup _=>unfold RW at hq;obtain ⟨a,xs,rfl,h2,_⟩:=hq;cases ru;obtain ⟨its,_,t,_⟩:=I.tuple h2;exact SeqAt.RcAt.bool_tuple _ t hu'
  |lst _=>unfold RW at hq;obtain ⟨a,xs,rfl,h2,_⟩:=hq;cases ru;obtain ⟨its,_,t,_⟩:=I.list h2;exact SeqAt.RcAt.bool_list _ t.isList hu'
  |ref _=>unfold RW at hq;exact hq.elim
  |dct=>unfold RW at hq;exact hq.elim
  |ty _=>unfold RW at hq;exact hq.elim
  |fn _=>unfold RW at hq;exact hq.elim
  |exc _ _=>unfold RW at hq;exact hq.elim
 |int x =>
  unfold RW at hp;subst hp;obtain ⟨t0,rfl⟩:=rv
  cases q with
  |non=>unfold RW at hq;subst hq;cases ru;exact SeqAt.RcAt.int_none _ _
  |bl _=>unfold RW at hq;subst hq;cases ru;exact SeqAt.RcAt.int_bool _ _ _
  |int _=>unfold RW at hq;subst hq;obtain ⟨t,rfl⟩:=ru;exact SeqAt.RcAt.int_int _ _ _ _
  |str _=>unfold RW at hq;subst hq;obtain ⟨t,rfl⟩:=ru;exact SeqAt.RcAt.int_str _ _ _ _
  |tup _=>unfold RW at hq;obtain ⟨a,xs,rfl,h2,_⟩:=hq;cases ru;obtain ⟨its,_,t,_⟩:=I.tuple h2;exact SeqAt.RcAt.int_tuple _ _ t hu'
  |lst _=>unfold RW at hq;obtain ⟨a,xs,rfl,h2,_⟩:=hq;cases ru;obtain ⟨its,_,t,_⟩:=I.list h2;exact SeqAt.RcAt.int_list _ _ t.isList hu'
  |ref _=>unfold RW at hq;exact hq.elim
  |dct=>unfold RW at hq;exact hq.elim
  |ty _=>unfold RW at hq;exact hq.elim
  |fn _=>unfold RW at hq;exact hq.elim
  |exc _ _=>unfold RW at hq;exact hq.elim
 |str x =>
  unfold RW at hp;subst hp;obtain ⟨t0,rfl⟩:=rv
  cases q with
  |non=>unfold RW at hq;subst hq;cases ru;exact SeqAt.RcAt.str_none _ _
  |bl _=>unfold RW at hq;subst hq;cases ru;exact SeqAt.RcAt.str_bool _ _ _
  |int _=>unfold RW at hq;subst hq;obtain ⟨t,rfl⟩:=ru;exact SeqAt.RcAt.str_int _ _ _ _
  |str _=>unfold RW at hq;subst hq;obtain ⟨t,rfl⟩:=ru;exact SeqAt.RcAt.str_str _ _ _ _
  |tup _=>unfold RW at hq;obtain ⟨a,xs,rfl,h2,_⟩:=hq;cases ru;obtain ⟨its,_,t,_⟩:=I.tuple h2;exact SeqAt.RcAt.str_tuple _ _ t hu'
  |lst _=>unfold RW at hq;obtain ⟨a,xs,rfl,h2,_⟩:=hq;cases ru;obtain ⟨its,_,t,_⟩:=I.list h2;exact SeqAt.RcAt.str_list _ _ t.isList hu'
  |ref _=>unfold RW at hq;exact hq.elim
  |dct=>unfold RW at hq;exact hq.elim
  |ty _=>unfold RW at hq;exact hq.elim
  |fn _=>unfold RW at hq;exact hq.elim
  |exc _ _=>unfold RW at hq;exact hq.elim
theorem wO (I:L2.Inv X pins σ H s) (p q:PV) {v u:V} {uv uu:Value} {A:Around} (hd:dep p=0) (hu':A.units < cLine) (hp:RW X.K H p v) (hq:RW X.K H q u) (rv:RelV v uv) (ru:RelV u uu):SeqAt.RcNeAt A s uv uu (!peq p q):=by
 cases p with
 |tup l=>unfold dep at hd;omega
 |lst l=>unfold dep at hd;omega
 |ref _=>unfold RW at hp;exact hp.elim
 |dct=>unfold RW at hp;exact hp.elim
 |ty _=>unfold RW at hp;exact hp.elim
 |fn _=>unfold RW at hp;exact hp.elim
 |exc _ _=>unfold RW at hp;exact hp.elim
 |non =>
  unfold RW at hp;subst hp;cases rv
  cases q with
  |non=>unfold RW at hq;subst hq;cases ru;exact SeqAt.RcNeAt.none_none
  |bl _=>unfold RW at hq;subst hq;cases ru;exact SeqAt.RcNeAt.none_bool _
  |int _=>unfold RW at hq;subst hq;obtain ⟨t,rfl⟩:=ru;exact SeqAt.RcNeAt.none_int _ _
  |str _=>unfold RW at hq;subst hq;obtain ⟨t,rfl⟩:=ru;exact SeqAt.RcNeAt.none_str _ _
  |tup _=>unfold RW at hq;obtain ⟨a,xs,rfl,h2,_⟩:=hq;cases ru;obtain ⟨its,_,t,_⟩:=I.tuple h2;exact SeqAt.RcNeAt.none_tuple t hu'
  |lst _=>unfold RW at hq;obtain ⟨a,xs,rfl,h2,_⟩:=hq;cases ru;obtain ⟨its,_,t,_⟩:=I.list h2;exact SeqAt.RcNeAt.none_list t.isList hu'
  |ref _=>unfold RW at hq;exact hq.elim
  |dct=>unfold RW at hq;exact hq.elim
  |ty _=>unfold RW at hq;exact hq.elim
  |fn _=>unfold RW at hq;exact hq.elim
  |exc _ _=>unfold RW at hq;exact hq.elim
 |bl x =>
  unfold RW at hp;subst hp;cases rv
  cases q with
  |non=>unfold RW at hq;subst hq;cases ru;exact SeqAt.RcNeAt.bool_none _
  |bl _=>unfold RW at hq;subst hq;cases ru;exact SeqAt.RcNeAt.bool_bool _ _
  |int _=>unfold RW at hq;subst hq;obtain ⟨t,rfl⟩:=ru;exact SeqAt.RcNeAt.bool_int _ _ _
  |str _=>unfold RW at hq;subst hq;obtain ⟨t,rfl⟩:=ru;exact SeqAt.RcNeAt.bool_str _ _ _
  |tup _=>unfold RW at hq;obtain ⟨a,xs,rfl,h2,_⟩:=hq;cases ru;obtain ⟨its,_,t,_⟩:=I.tuple h2;exact SeqAt.RcNeAt.bool_tuple _ t hu'
  |lst _=>unfold RW at hq;obtain ⟨a,xs,rfl,h2,_⟩:=hq;cases ru;obtain ⟨its,_,t,_⟩:=I.list h2;exact SeqAt.RcNeAt.bool_list _ t.isList hu'
  |ref _=>unfold RW at hq;exact hq.elim
  |dct=>unfold RW at hq;exact hq.elim
  |ty _=>unfold RW at hq;exact hq.elim
  |fn _=>unfold RW at hq;exact hq.elim
  |exc _ _=>unfold RW at hq;exact hq.elim
 |int x =>
  unfold RW at hp;subst hp;obtain ⟨t0,rfl⟩:=rv
  cases q with
  |non=>unfold RW at hq;subst hq;cases ru;exact SeqAt.RcNeAt.int_none _ _
  |bl _=>unfold RW at hq;subst hq;cases ru;exact SeqAt.RcNeAt.int_bool _ _ _
  |int _=>unfold RW at hq;subst hq;obtain ⟨t,rfl⟩:=ru;exact SeqAt.RcNeAt.int_int _ _ _ _
  |str _=>unfold RW at hq;subst hq;obtain ⟨t,rfl⟩:=ru;exact SeqAt.RcNeAt.int_str _ _ _ _
  |tup _=>unfold RW at hq;obtain ⟨a,xs,rfl,h2,_⟩:=hq;cases ru;obtain ⟨its,_,t,_⟩:=I.tuple h2;exact SeqAt.RcNeAt.int_tuple _ _ t hu'
  |lst _=>unfold RW at hq;obtain ⟨a,xs,rfl,h2,_⟩:=hq;cases ru;obtain ⟨its,_,t,_⟩:=I.list h2;exact SeqAt.RcNeAt.int_list _ _ t.isList hu'
  |ref _=>unfold RW at hq;exact hq.elim
  |dct=>unfold RW at hq;exact hq.elim
  |ty _=>unfold RW at hq;exact hq.elim
  |fn _=>unfold RW at hq;exact hq.elim
  |exc _ _=>unfold RW at hq;exact hq.elim
 |str x =>
  unfold RW at hp;subst hp;obtain ⟨t0,rfl⟩:=rv
  cases q with
  |non=>unfold RW at hq;subst hq;cases ru;exact SeqAt.RcNeAt.str_none _ _
  |bl _=>unfold RW at hq;subst hq;cases ru;exact SeqAt.RcNeAt.str_bool _ _ _
  |int _=>unfold RW at hq;subst hq;obtain ⟨t,rfl⟩:=ru;exact SeqAt.RcNeAt.str_int _ _ _ _
  |str _=>unfold RW at hq;subst hq;obtain ⟨t,rfl⟩:=ru;exact SeqAt.RcNeAt.str_str _ _ _ _
  |tup _=>unfold RW at hq;obtain ⟨a,xs,rfl,h2,_⟩:=hq;cases ru;obtain ⟨its,_,t,_⟩:=I.tuple h2;exact SeqAt.RcNeAt.str_tuple _ _ t hu'
  |lst _=>unfold RW at hq;obtain ⟨a,xs,rfl,h2,_⟩:=hq;cases ru;obtain ⟨its,_,t,_⟩:=I.list h2;exact SeqAt.RcNeAt.str_list _ _ t.isList hu'
  |ref _=>unfold RW at hq;exact hq.elim
  |dct=>unfold RW at hq;exact hq.elim
  |ty _=>unfold RW at hq;exact hq.elim
  |fn _=>unfold RW at hq;exact hq.elim
  |exc _ _=>unfold RW at hq;exact hq.elim
theorem qIF (I:L2.Inv X pins σ H s) (p q:PV) {v u:V} {uv uu:Value} {A:Around} (hu:A.units + (dep p + 1) < cLine) (hp:RW X.K H p v) (hq:RW X.K H q u) (rv:RelV v uv) (ru:RelV u uu):SeqAt.RcAt A s uv uu (peq p q):=by
 have hu':A.units < cLine:=Nat.lt_of_le_of_lt (Nat.le_add_right _ _) hu
 have elt:∀ {n:Nat} {l m:List PV} {xs ys:List V} {its its2:List Value},A.in1.units + n < cLine->deps l≤n->RWs X.K H l xs->RWs X.K H m ys->Vals xs its->Vals ys its2 -> ∀ j (h1:j < its.toArray.size) (h2:j < its2.toArray.size),SeqAt.EqAt A.in1 s its.toArray[j] its2.toArray[j] (eqN l m j):=fun {n l m xs ys its its2} hin hdl hl hm vl vm j h1 h2=>by
  have e1:its[j]? = some its.toArray[j]:=by simp
  have e2:its2[j]? = some its2.toArray[j]:=by simp
  obtain ⟨x,hx,rx⟩:=Vals.get2 vl e1
  obtain ⟨y,hy,ry⟩:=Vals.get2 vm e2
  obtain ⟨p',hp',rp'⟩:=RWs.get' hl hx
  obtain ⟨q',hq',rq'⟩:=RWs.get' hm hy
  have:eqN l m j=peq p' q':=by unfold eqN;rw [hp',hq']
  rw [this]
  exact qAr I n p' q' x y _ _ A.in1 (Nat.le_trans (zt hp') hdl) hin rp' rq' rx ry
 cases p with
 |tup l =>
  have hp0:=hp
  unfold RW at hp
  obtain ⟨a,xs,rfl,h2,h3⟩:=hp
  cases rv
  obtain ⟨its,vl,tl,_⟩:=I.tuple h2
  unfold dep at hu
  cases q with
  |non=>unfold RW at hq;subst hq;cases ru;exact SeqAt.RcAt.tuple_none tl hu'
  |bl _=>unfold RW at hq;subst hq;cases ru;exact SeqAt.RcAt.tuple_bool _ tl hu'
  |int _=>unfold RW at hq;subst hq;obtain ⟨t,rfl⟩:=ru;exact SeqAt.RcAt.tuple_int _ _ tl hu'
  |str _=>unfold RW at hq;subst hq;obtain ⟨t,rfl⟩:=ru;exact SeqAt.RcAt.tuple_str _ _ tl hu'
  |lst _=>unfold RW at hq;obtain ⟨a,xs,rfl,h2,_⟩:=hq;cases ru;obtain ⟨its,_,t,_⟩:=I.list h2;exact SeqAt.RcAt.tuple_list tl t.isList hu'
  |ref _=>unfold RW at hq;exact hq.elim
  |dct=>unfold RW at hq;exact hq.elim
  |ty _=>unfold RW at hq;exact hq.elim
  |fn _=>unfold RW at hq;exact hq.elim
  |exc _ _=>unfold RW at hq;exact hq.elim
  |tup m =>
   unfold RW at hq
   obtain ⟨a2,ys,rfl,g2,g3⟩:=hq
   cases ru
   obtain ⟨its2,vm,tm,_⟩:=I.tuple g2
   have rc:=SeqAt.RcAt.tuples (e:=eqN l m) tl tm hu' (elt (n:=deps l) (by show A.units + 1 + deps l < cLine;omega) (Nat.le_refl _) h3 g3 vl vm)
   have hl1:its.toArray.size=l.length:=by rw [List.size_toArray,← vl.length,h3.length]
   have hl2:its2.toArray.size=m.length:=by rw [List.size_toArray,← vm.length,g3.length]
   rw [hl1,hl2] at rc
   have e:((List.range (min l.length m.length)).all (eqN l m)&&l.length==m.length)=peq (.tup l) (.tup m):=by
    unfold peq
    by_cases hlm:l.length=m.length
    ·rw [← hlm,Nat.min_self,zT l m hlm,beq_self_eq_true,Bool.and_true]
    ·rw [Wb l m hlm,beq_false_of_ne hlm,Bool.and_false]
   rw [e] at rc
   exact rc
 |lst l =>
  have hp0:=hp
  unfold RW at hp
  obtain ⟨a,xs,rfl,h2,h3⟩:=hp
  cases rv
  obtain ⟨its,vl,tl',_⟩:=I.list h2
  have tl:=tl'.isList
  unfold dep at hu
  cases q with
  |non=>unfold RW at hq;subst hq;cases ru;exact SeqAt.RcAt.list_none tl hu'
  |bl _=>unfold RW at hq;subst hq;cases ru;exact SeqAt.RcAt.list_bool _ tl hu'
  |int _=>unfold RW at hq;subst hq;obtain ⟨t,rfl⟩:=ru;exact SeqAt.RcAt.list_int _ _ tl hu'
  |str _=>unfold RW at hq;subst hq;obtain ⟨t,rfl⟩:=ru;exact SeqAt.RcAt.list_str _ _ tl hu'
  |tup _=>unfold RW at hq;obtain ⟨a,xs,rfl,h2,_⟩:=hq;cases ru;obtain ⟨its,_,t,_⟩:=I.tuple h2;exact SeqAt.RcAt.list_tuple tl t hu'
  |ref _=>unfold RW at hq;exact hq.elim
  |dct=>unfold RW at hq;exact hq.elim
  |ty _=>unfold RW at hq;exact hq.elim
  |fn _=>unfold RW at hq;exact hq.elim
  |exc _ _=>unfold RW at hq;exact hq.elim
  |lst m =>
   unfold RW at hq
   obtain ⟨a2,ys,rfl,g2,g3⟩:=hq
   cases ru
   obtain ⟨its2,vm,tm',_⟩:=I.list g2
   have tm:=tm'.isList
   have hl1:its.toArray.size=l.length:=by rw [List.size_toArray,← vl.length,h3.length]
   have hl2:its2.toArray.size=m.length:=by rw [List.size_toArray,← vm.length,g3.length]
   unfold peq
   by_cases hlm:l.length=m.length
   ·have rc:=SeqAt.RcAt.lists (e:=eqN l m) tl tm (by rw [hl1,hl2,hlm]) hu' (elt (n:=deps l) (by show A.units + 1 + deps l < cLine;omega) (Nat.le_refl _) h3 g3 vl vm)
    rw [hl1,zT l m hlm] at rc
    exact rc
   ·rw [Wb l m hlm]
    exact SeqAt.RcAt.lists_lengths tl tm (by rw [hl1,hl2];exact bne_iff_ne.mpr hlm) hu'
 |non=>exact wP I _ q rfl hu' hp hq rv ru
 |bl _=>exact wP I _ q rfl hu' hp hq rv ru
 |int _=>exact wP I _ q rfl hu' hp hq rv ru
 |str _=>exact wP I _ q rfl hu' hp hq rv ru
 |ref _=>exact wP I _ q rfl hu' hp hq rv ru
 |dct=>exact wP I _ q rfl hu' hp hq rv ru
 |ty _=>exact wP I _ q rfl hu' hp hq rv ru
 |fn _=>exact wP I _ q rfl hu' hp hq rv ru
 |exc _ _=>exact wP I _ q rfl hu' hp hq rv ru
theorem qIL (I:L2.Inv X pins σ H s) (p q:PV) {v u:V} {uv uu:Value} {A:Around} (hu:A.units + (dep p + 1) < cLine) (hp:RW X.K H p v) (hq:RW X.K H q u) (rv:RelV v uv) (ru:RelV u uu):SeqAt.RcNeAt A s uv uu (!peq p q):=by
 have hu':A.units < cLine:=Nat.lt_of_le_of_lt (Nat.le_add_right _ _) hu
 have elt:∀ {n:Nat} {l m:List PV} {xs ys:List V} {its its2:List Value},A.in1.units + n < cLine->deps l≤n->RWs X.K H l xs->RWs X.K H m ys->Vals xs its->Vals ys its2 -> ∀ j (h1:j < its.toArray.size) (h2:j < its2.toArray.size),SeqAt.EqAt A.in1 s its.toArray[j] its2.toArray[j] (eqN l m j):=fun {n l m xs ys its its2} hin hdl hl hm vl vm j h1 h2=>by
  have e1:its[j]? = some its.toArray[j]:=by simp
  have e2:its2[j]? = some its2.toArray[j]:=by simp
  obtain ⟨x,hx,rx⟩:=Vals.get2 vl e1
  obtain ⟨y,hy,ry⟩:=Vals.get2 vm e2
  obtain ⟨p',hp',rp'⟩:=RWs.get' hl hx
  obtain ⟨q',hq',rq'⟩:=RWs.get' hm hy
  have:eqN l m j=peq p' q':=by unfold eqN;rw [hp',hq']
  rw [this]
  exact qAr I n p' q' x y _ _ A.in1 (Nat.le_trans (zt hp') hdl) hin rp' rq' rx ry
 cases p with
 |tup l =>
  have hp0:=hp
  unfold RW at hp
  obtain ⟨a,xs,rfl,h2,h3⟩:=hp
  cases rv
  obtain ⟨its,vl,tl,_⟩:=I.tuple h2
  unfold dep at hu
  cases q with
  |non=>unfold RW at hq;subst hq;cases ru;exact SeqAt.RcNeAt.tuple_none tl hu'
  |bl _=>unfold RW at hq;subst hq;cases ru;exact SeqAt.RcNeAt.tuple_bool _ tl hu'
  |int _=>unfold RW at hq;subst hq;obtain ⟨t,rfl⟩:=ru;exact SeqAt.RcNeAt.tuple_int _ _ tl hu'
  |str _=>unfold RW at hq;subst hq;obtain ⟨t,rfl⟩:=ru;exact SeqAt.RcNeAt.tuple_str _ _ tl hu'
  |lst _=>unfold RW at hq;obtain ⟨a,xs,rfl,h2,_⟩:=hq;cases ru;obtain ⟨its,_,t,_⟩:=I.list h2;exact SeqAt.RcNeAt.tuple_list tl t.isList hu'
  |ref _=>unfold RW at hq;exact hq.elim
  |dct=>unfold RW at hq;exact hq.elim
  |ty _=>unfold RW at hq;exact hq.elim
  |fn _=>unfold RW at hq;exact hq.elim
  |exc _ _=>unfold RW at hq;exact hq.elim
  |tup m =>
   unfold RW at hq
   obtain ⟨a2,ys,rfl,g2,g3⟩:=hq
   cases ru
   obtain ⟨its2,vm,tm,_⟩:=I.tuple g2
   have rc:=SeqAt.RcNeAt.tuples (e:=eqN l m) tl tm hu' (elt (n:=deps l) (by show A.units + 1 + deps l < cLine;omega) (Nat.le_refl _) h3 g3 vl vm)
   have hl1:its.toArray.size=l.length:=by rw [List.size_toArray,← vl.length,h3.length]
   have hl2:its2.toArray.size=m.length:=by rw [List.size_toArray,← vm.length,g3.length]
   rw [hl1,hl2] at rc
   have e:((List.range (min l.length m.length)).all (eqN l m)&&l.length==m.length)=peq (.tup l) (.tup m):=by
    unfold peq
    by_cases hlm:l.length=m.length
    ·rw [← hlm,Nat.min_self,zT l m hlm,beq_self_eq_true,Bool.and_true]
    ·rw [Wb l m hlm,beq_false_of_ne hlm,Bool.and_false]
   rw [e] at rc
   exact rc
 |lst l =>
  have hp0:=hp
  unfold RW at hp
  obtain ⟨a,xs,rfl,h2,h3⟩:=hp
  cases rv
  obtain ⟨its,vl,tl',_⟩:=I.list h2
  have tl:=tl'.isList
  unfold dep at hu
  cases q with
  |non=>unfold RW at hq;subst hq;cases ru;exact SeqAt.RcNeAt.list_none tl hu'
  |bl _=>unfold RW at hq;subst hq;cases ru;exact SeqAt.RcNeAt.list_bool _ tl hu'
  |int _=>unfold RW at hq;subst hq;obtain ⟨t,rfl⟩:=ru;exact SeqAt.RcNeAt.list_int _ _ tl hu'
  |str _=>unfold RW at hq;subst hq;obtain ⟨t,rfl⟩:=ru;exact SeqAt.RcNeAt.list_str _ _ tl hu'
  |tup _=>unfold RW at hq;obtain ⟨a,xs,rfl,h2,_⟩:=hq;cases ru;obtain ⟨its,_,t,_⟩:=I.tuple h2;exact SeqAt.RcNeAt.list_tuple tl t hu'
  |ref _=>unfold RW at hq;exact hq.elim
  |dct=>unfold RW at hq;exact hq.elim
  |ty _=>unfold RW at hq;exact hq.elim
  |fn _=>unfold RW at hq;exact hq.elim
  |exc _ _=>unfold RW at hq;exact hq.elim
  |lst m =>
   unfold RW at hq
   obtain ⟨a2,ys,rfl,g2,g3⟩:=hq
   cases ru
   obtain ⟨its2,vm,tm',_⟩:=I.list g2
   have tm:=tm'.isList
   have hl1:its.toArray.size=l.length:=by rw [List.size_toArray,← vl.length,h3.length]
   have hl2:its2.toArray.size=m.length:=by rw [List.size_toArray,← vm.length,g3.length]
   unfold peq
   by_cases hlm:l.length=m.length
   ·have rc:=SeqAt.RcNeAt.lists (e:=eqN l m) tl tm (by rw [hl1,hl2,hlm]) hu' (elt (n:=deps l) (by show A.units + 1 + deps l < cLine;omega) (Nat.le_refl _) h3 g3 vl vm)
    rw [hl1,zT l m hlm] at rc
    exact rc
   ·rw [Wb l m hlm]
    exact SeqAt.RcNeAt.lists_lengths tl tm (by rw [hl1,hl2];exact bne_iff_ne.mpr hlm) hu'
 |non=>exact wO I _ q rfl hu' hp hq rv ru
 |bl _=>exact wO I _ q rfl hu' hp hq rv ru
 |int _=>exact wO I _ q rfl hu' hp hq rv ru
 |str _=>exact wO I _ q rfl hu' hp hq rv ru
 |ref _=>exact wO I _ q rfl hu' hp hq rv ru
 |dct=>exact wO I _ q rfl hu' hp hq rv ru
 |ty _=>exact wO I _ q rfl hu' hp hq rv ru
 |fn _=>exact wO I _ q rfl hu' hp hq rv ru
 |exc _ _=>exact wO I _ q rfl hu' hp hq rv ru
end
def res (st:qC) (p:PV):PV:=match asL st p with
 |some l => .lst l
 |none=>p
theorem yI {K:W.Frag} {H:Hp} {b:Bz} {st:qC} {p:PV} {v:V} (S:SR K H b st) (r:RV K H b p v) (h:nr (res st p)=true):RW K H (res st p) v:=by
 unfold res at h ⊢
 cases e:asL st p with
 |none=>rw [e] at h;exact RV.rw p h r
 |some l =>
  rw [e] at h
  obtain ⟨a,xs,rfl,h2,h3⟩:=QX S r e
  dsimp only at h ⊢
  unfold nr at h
  unfold RW
  exact ⟨a,xs,rfl,h2,RVs.rws l h h3⟩
abbrev qAK:Nat:=60
def Jv (p q:PV):Bool:=nr p&&nr q&&decide (dep p≤qAK)
def gEq:PV->PV->qC->Rs PV:=fun p q st=>if Jv (res st p) (res st q)=true then .ok (.bl (peq (res st p) (res st q))) st else .no
def gNe:PV->PV->qC->Rs PV:=fun p q st=>if Jv (res st p) (res st q)=true then .ok (.bl (!peq (res st p) (res st q))) st else .no
section
variable {X:Cx} {E:XK} {e a c d:Expr} {es:List Expr} {f fa fb fc:FE} {pos:Pos}
def qEY (K:W.Frag) (neg:Bool):R2:=fun u v H Q => ∃ p q,RW K H p u∧RW K H q v∧dep p≤qAK∧Q (.bl (if neg then !peq p q else peq p q)) H
theorem qC2 (hr:X.A.units + 64 < cLine):OpR X (compareOp .Eq) (qEY X.K false):=by
 intro pins s σ H x y v u Q I rx ry h
 obtain ⟨p,q,hp,hq,hd,h⟩:=h
 exact qIF I p q (by have:dep p≤60:=hd;omega) hp hq rx ry _ _ _ _ ⟨.bl _,H,I,rfl,h⟩
theorem za (hr:X.A.units + 64 < cLine):OpR X (compareOp .NotEq) (qEY X.K true):=by
 intro pins s σ H x y v u Q I rx ry h
 obtain ⟨p,q,hp,hq,hd,h⟩:=h
 exact qIL I p q (by have:dep p≤60:=hd;omega) hp hq rx ry _ _ _ _ ⟨.bl _,H,I,rfl,h⟩
theorem YY {p q:PV} (h:Jv p q=true):nr p=true∧nr q=true∧dep p≤qAK:=by
 unfold Jv at h
 rw [Bool.and_eq_true,Bool.and_eq_true] at h
 exact ⟨h.1.1,h.1.2,of_decide_eq_true h.2⟩
theorem qFr:OpG X E (qEY X.K false) gEq:=by
 intro H b st p q u v Q S rp rq P
 unfold gEq at P
 split at P
 ·rename_i h
  obtain ⟨h1,h2,h3⟩:=YY h
  exact ⟨_,_,yI S rp h1,yI S rq h2,h3,PostE.here P S WX⟩
 ·exact P.elim
theorem yb:OpG X E (qEY X.K true) gNe:=by
 intro H b st p q u v Q S rp rq P
 unfold gNe at P
 split at P
 ·rename_i h
  obtain ⟨h1,h2,h3⟩:=YY h
  exact ⟨_,_,yI S rp h1,yI S rq h2,h3,PostE.here P S WX⟩
 ·exact P.elim
theorem qCv (hr:X.A.units + 64 < cLine) (ha:VE X E a fa) (hb:VE X E c fb):VE X E (.Compare a [.Eq] [c] pos) (qL gEq fa fb):=qAj (qC2 hr) qFr ha hb
end
end EV
end
section
namespace EV
open PySem PySem.Spec PyProof.Rows L2 EX
section
variable {X:Cx} {E:XK} {e a c d:Expr} {es:List Expr} {f fa fb fc:FE} {pos:Pos} {F G:FS}
def yj (C:Addr) (t:FA):FS:=fun r st=>match t r st with
 | .ok ps s=>if ps.length≤sizeLine then .ex ⟨C,[]⟩ s else .no
 | .ex x s => .ex x s
 | .no => .no
theorem Je {x:Str} {C:Addr} {t:FA} {np cpos:Pos} (hz:Rz X E) (hc:X.calm=true) (hg:Gl X x) (hm:X.mg x=some (.ref C)) (q:PySem.W.excIn X.K C bmV "ValueError.__new__" = true) (ha:VA X E (e::es) t) (hdb:(x==("__debug__":Str))=false:=by decide)
  (he:starEach (e::es) X.env=(false,eval e X.env)::starEach es X.env:=by rfl) (hpl:(backTo cpos (starEach es X.env)).any (·.1)=false:=by rfl):VS X E (.Raise (some (.Call (.Name x np) (e::es) [] cpos)) none pos) (yj C t) :=
 PS.imp (qDF hz hc hg hm q ha hdb he hpl) fun D s H ⟨b,r,st,S,R,P⟩=>⟨b,r,st,S,R,by
  unfold yj at P
  cases ef:t r st with
  |no=>rw [ef] at P;exact P.elim
  |ex x s1=>rw [ef] at P;exact P
  |ok ps s1 =>
   rw [ef] at P
   dsimp only at P
   by_cases hl:ps.length≤sizeLine
   ·rw [if_pos hl] at P
    exact fun vs H' b' e' S' r'=>⟨by rw [← r'.length];exact hl,P (.ref C) none H' b' e' S' ⟨rfl,.inl ⟨rfl,rfl⟩⟩⟩
   ·rw [if_neg hl] at P;exact P.elim⟩
theorem REnv.lose {K:W.Frag} {H:Hp} {b:Bz} {r:q9} {s:L2.St} (h:REnv K H b r s) (i:Nat):REnv K H b (r.set i none) (s.set i none):=by
 refine ⟨by simp [h.1],fun j q hq => ?_⟩
 by_cases hj:i=j
 ·subst hj
  by_cases hl:i < r.length
  ·rw [List.getElem?_set_self hl] at hq;cases hq
  ·rw [List.getElem?_eq_none (by simpa using hl)] at hq;cases hq
 ·rw [List.getElem?_set_ne hj] at hq ⊢
  exact h.2 j q hq
def Jo (i n:Nat) (cs:List Addr) (Fb Fh:FS):FS:=fun r st=>match Fb r st with
 | .ex x s=>if x.cls∈cs then (match Fh ((List.replicate n none).set i (some (.exc x.cls x.fs))) s with
  | .nx r' s' => .nx (r'.set i none) s'
  | .bk r' s' => .bk (r'.set i none) s'
  | .ct r' s' => .ct (r'.set i none) s'
  | .rt v s' => .rt v s'
  | .ex _ _ => .no
  | .no => .no) else .no
 |o=>o
theorem qGD {x n:Str} {Bx:Addr} {dd:Option Addr} {cd:ClassData} {sl:Array (Option Value)} {body:List Stmt} {b0:Stmt} {suite:List Stmt} {np hpos:Pos} {cs:List Addr} {Fb Fh:FS} (i:Nat) (FX:FrameX X) (hc:X.calm=true) (hN:X.N.Nodup)
  (hg:Gl X x) (hm:X.mg x=some (.ref Bx)) (o1:X.K.lookup Bx=some ⟨.type "type",dd,.cls cd,sl⟩) (m1:PySem.W.mroIn X.K Bx (.type "BaseException")=some true) (hcs:∀ C∈cs,PySem.W.mroIn X.K C (.ref Bx)=some true)
  (hb:∀ (pins:List (Addr×Obj)) (xe:Value->Shared->Prop) (E':XK),zn (CXF X.prog X.w) (Jd X pins xe) E'->VSs (Jd X pins xe) E' body Fb) (hh:∀ ea,VSs (suX X ea) E0 (b0::suite) Fh)
  (hi:X.N[i]? = some n:=by rfl) (hl:X.env.scope.names.lookup n=some .local:=by rfl) (hdb:(x==("__debug__":Str))=false:=by decide) :
  VS X E (.Try body [.ExceptHandler (some (.Name x np)) (some n) (b0::suite) hpos] [] [] pos) (Jo i X.N.length cs Fb Fh):=by
 refine PS.imp (qGb (ok:=fun v => ∃ C∈cs,v = .ref C) (tb:=fun E'=>rdS X.K E' Fb) (th:=rdS X.K E0 Fh) FX hc hN hi hl hg hm o1 m1 (fun v ⟨C,hC,e⟩=>⟨C,e,hcs C hC⟩) hb hh hdb) fun D σ H ⟨b,r,st,S,R,P⟩=>⟨b,r,st,S,R,?_⟩
 unfold Jo at P
 cases eb:Fb r st with
 |nx r' s'=>rw [eb] at P;exact P
 |rt r' s'=>rw [eb] at P;exact P
 |bk r' s'=>rw [eb] at P;exact P
 |ct r' s'=>rw [eb] at P;exact P
 |no=>rw [eb] at P;exact P
 |ex x s1 =>
  rw [eb] at P
  dsimp only at P
  by_cases hx:x.cls∈cs
  ·rw [if_pos hx] at P
   intro c d H' b' e' S' rx
   obtain ⟨rc,rf⟩:=rx
   refine ⟨⟨x.cls,hx,rc⟩,fun σ' ea oe hlen hn hcls hdict hdata=>⟨b',(List.replicate X.N.length none).set i (some (.exc x.cls x.fs)),s1,S'.new hn,⟨by simp [hlen],fun j p hp => ?_⟩,?_⟩⟩
   ·by_cases hj:i=j
    ·subst hj
     have hl':i < X.N.length:=(List.getElem?_eq_some_iff.mp hi).1
     rw [List.getElem?_set_self (by simpa using hl')] at hp
     cases hp
     refine ⟨.ref ea,by rw [List.getElem?_set_self (by rw [hlen];exact hl')],?_⟩
     unfold RV
     refine ⟨ea,oe,_,rfl,QD,S'.new_notin hn,hcls.trans rc,hdata,rf.imp (fun q=>⟨q.1,hdict.trans q.2⟩) fun ⟨a,q1,q2,q3⟩=>⟨a,hdict.trans q1,by rw [qQ (qO q2 hn)];exact q2,q3⟩⟩
    ·rw [List.getElem?_set_ne hj,List.getElem?_replicate] at hp
     split at hp <;> cases hp
   ·have P2:=PostS.ext P (e'.trans (Ext.new (o := .frz oe qCc) hn))
    cases eh:Fh ((List.replicate X.N.length none).set i (some (.exc x.cls x.fs))) s1 with
    |nx r' s'=>rw [eh] at P2;exact fun s2 H2 b2 e2 S2 R2=>P2 _ H2 b2 e2 S2 (R2.lose i)
    |bk r' s'=>rw [eh] at P2;exact fun s2 H2 b2 e2 S2 R2=>P2 _ H2 b2 e2 S2 (R2.lose i)
    |ct r' s'=>rw [eh] at P2;exact fun s2 H2 b2 e2 S2 R2=>P2 _ H2 b2 e2 S2 (R2.lose i)
    |rt v s'=>rw [eh] at P2;exact P2
    |ex y s'=>rw [eh] at P2;exact P2.elim
    |no=>rw [eh] at P2;exact P2.elim
  ·rw [if_neg hx] at P;exact P.elim
def tyP:PV->Option Value
 | .non=>some (.type "NoneType")
 | .bl _=>some (.type "bool")
 | .int _=>some (.type "int")
 | .str _=>some (.type "str")
 | .tup _=>some (.type "tuple")
 | .lst _=>some (.type "list")
 | .ref _=>some (.type "list")
 | .dct=>some (.type "dict")
 | .exc c _=>some (.ref c)
 |_=>none
def clP:PV->Option Value
 | .ty n=>some (.type n)
 | .fn a=>some (.ref a)
 |_=>none
def qBU (kit:Value->Value->Option Bool) (p c:PV):Option Bool:=match tyP p,clP c with
 |some t,some c=>kit t c
 |_,_=>none
def Ja (kit:Value->Value->Option Bool) (p:PV):List PV->Option Bool
 |[]=>some false
 |c::r=>match qBU kit p c with
  |some true=>some true
  |some false=>Ja kit p r
  |none=>none
def qH3 (kit:Value->Value->Option Bool) (p:PV):PV->Option Bool
 | .tup cs=>if (tyP p).isSome then Ja kit p cs else none
 |c=>qBU kit p c
structure KitOk (K:W.Frag) (kit:Value->Value->Option Bool):Prop where
 one:∀ t c b,kit t c=some b->PySem.W.kitOne K t c=some b
 exc:∀ a c b,kit (.ref a) c=some b->ExcK K a
end
end EV
end
section
namespace EX
open PySem PySem.Spec PyProof.Rows L2
def Itz (K:W.Frag) (l1 l2:Addr):It :=
 ⟨fun i H => ∃ xs ys x y,SqL K H l1 xs∧SqL K H l2 ys∧xs[i]? = some x∧ys[i]? = some y,
  fun i H v H' => ∃ T x y,H T=none∧v = .ref T∧H'=upd H T (.tup [x,y]) ∧ ∀ xs ys,SqL K H l1 xs->SqL K H l2 ys->xs[i]? = some x∧ys[i]? = some y,
  fun i H => ∃ xs ys,SqL K H l1 xs∧SqL K H l2 ys∧(xs.length≤i∨ys.length≤i)⟩
def qFs (z TI TO i1 i2 l1 l2:Addr) (i:Nat) (h:Heap):Prop:=IsZip h z TI TO .none∧IsPair h TI (.ref i1) (.ref i2)∧(∃ a b,IsPair h TO a b)∧h.IsListIter i1 l1 i∧h.IsListIter i2 l2 i
theorem qAv {X:Cx} {pins:List (Addr×Obj)} {σ:L2.St} {H:Hp} {s:Shared} (I:L2.Inv X pins σ H s) {fp:List Addr} (hf:∀ b∈fp,Zi X pins H b) {h':Heap} {t':Nat} {x y:V} {u v:Value} (rx:RelV x u) (ry:RelV y v)
  (k:∀ b o,b ∉ fp->s.heap.get? b=some o->h'.get? b=some o) (kf:∀ b∈fp,∃ o,h'.get? b=some o) (hT:IsPair h' s.heap.objs.size u v):L2.Inv X pins σ (upd H s.heap.objs.size (.tup [x,y])) { s with heap:=h',toks:=t' }:=by
 have hn:H s.heap.objs.size=none:=I.hok.fresh (Nat.le_refl _)
 have nt:∀ b o,s.heap.get? b=some o->b≠s.heap.objs.size:=fun b o e=>Nat.ne_of_lt (Heap.lt_size e)
 have nf:∀ b u,H b=some u->b ∉ fp:=fun b u e z=>by rw [(hf b z).1] at e;cases e
 have un:Un (frs X.stack) fp H (upd H s.heap.objs.size (.tup [x,y])) s.heap h' :=
  ⟨fun b o e _ _ hb=>k b o hb e,fun b o e _ _ hb=>⟨o.slots,k b o hb e⟩,fun b o e n _=>by rw [qQ (nt b o e)];exact n,fun b o e hb=>⟨o,k b o hb e⟩,fun b xs e=>by rw [qQ (qO e hn)];exact e,fun b o u e=>by rw [qQ (qO e hn)];exact e,fun b ps e=>⟨#[],by rw [qQ (qO e hn),e];simp⟩⟩
 refine I.call (g':=s.gens) (d':=s.drawn) (t':=t') (ch:=fp) un (fun b u' e => ?_) I.bare fun b hb=>⟨(hf b hb).2.2.2.1,(hf b hb).2.1,(hf b hb).2.2.2.2.1,(hf b hb).2.2.2.2.2⟩
 by_cases hb:b=s.heap.objs.size
 ·subst hb
  rw [QD] at e;cases e
  exact ⟨by show 2≤sizeLine;decide,[u,v],.cons rx (.cons ry .nil),_,hT,rfl,0,rfl⟩
 ·rw [qQ hb] at e
  refine (I.hok b u' e).stay (fun c w hc q=>k c w ?_ q) (fun c q=>by rw [qQ (qO q hn)];exact q) fun c xs q=>by rw [qQ (qO q hn)];exact q
  rcases hc with rfl |hc
  ·exact nf _ _ e
  ·exact nf _ _ hc
theorem qD4 {P:Program} {w:World} {K:W.Frag} {A:Around} {elts:List Expr} {n:Nat} {pos:Pos} (hA:A.handled=none) (z TI TO i1 i2 l1 l2:Addr) (D:ZipApart z TI TO i1 i2 l1 l2) :
  Turn P w K A (.Tuple elts n pos) (Itz K l1 l2) [z,TI,TO,i1,i2] z (qFs z TI TO i1 i2 l1 l2) where
 mem:=by simp
 obj:=fun i h st b hb=>by
  obtain ⟨a1,a2,⟨a,c,a3⟩,⟨o4,a4,c4,d4⟩,⟨o5,a5,c5,d5⟩⟩:=st
  simp only [List.mem_cons,List.not_mem_nil,or_false] at hb
  rcases hb with rfl |rfl |rfl |rfl |rfl
  ·exact ⟨_,a1,fun v q=>by cases (show Data.fields _=Data.cell v from q)⟩
  ·exact ⟨_,a2,fun v q=>by cases (show Data.seq _ _=Data.cell v from q)⟩
  ·exact ⟨_,a3,fun v q=>by cases (show Data.seq _ _=Data.cell v from q)⟩
  ·exact ⟨_,a4,fun v q=>by rw [d4] at q;cases q⟩
  ·exact ⟨_,a5,fun v q=>by rw [d5] at q;cases q⟩
 keep:=fun i h h' st k=>by
  obtain ⟨a1,a2,⟨a,c,a3⟩,a4,a5⟩:=st
  exact ⟨k z (by simp) _ a1,k TI (by simp) _ a2,⟨a,c,k TO (by simp) _ a3⟩,a4.at fun o e=>k i1 (by simp) o e,a5.at fun o e=>k i2 (by simp) o e⟩
 item:=by
  intro X hP hw hK hA' i pins s σ H E I hf st hg
  subst hP hw hK
  obtain ⟨xs,ys,x,y,q1,q2,e1,e2⟩:=hg
  obtain ⟨a1,a2,⟨a,c,a3⟩,a4,a5⟩:=st
  obtain ⟨us,r1,p1,_⟩:=I.list q1
  obtain ⟨vs,r2,p2,_⟩:=I.list q2
  obtain ⟨u,g1,ru⟩:=r1.get e1
  obtain ⟨v,g2,rv⟩:=r2.get e2
  refine wpAny_pyNext_zip_item D a1 a2 a3 a4 a5 p1.isList p2.isList (x:=u) (y:=v) (by simpa using g1) (by simpa using g2) fun h' z1 z2 z3 z4 z5 z6 z7=>⟨_,rfl,?_⟩
  refine wpAny_letOwnedTupleGo_zip (s:={ s with heap:=h' }) z1 fun h2 y1 y2 => ?_
  have nz:s.heap.objs.size≠z:=Nat.ne_of_gt (Heap.lt_size a1)
  have oth:∀ b,b≠z->h2.get? b=h'.get? b:=fun b hb=>y2.2 b hb
  have tz:qFs z TI TO i1 i2 l1 l2 (i + 1) h2:=⟨y1,(oth TI D.TIz).trans (z7 TI _ D.TIz D.TITO D.TIi1 D.TIi2 a2),⟨u,v,(oth TO D.TOz).trans z2⟩,z3.at fun o e=>(oth i1 D.i1z).trans e,z4.at fun o e=>(oth i2 D.i2z).trans e⟩
  have hT:IsPair h2 s.heap.objs.size u v:=(oth _ nz).trans z5
  have I2:=qAv (t':=s.toks) (h':=h2) I hf ru rv (fun b o hb e=>(oth b fun q=>hb (by simp [q])).trans (z7 b o (fun q=>hb (by simp [q])) (fun q=>hb (by simp [q])) (fun q=>hb (by simp [q])) (fun q=>hb (by simp [q])) e)) (fun b hb=>by
   obtain ⟨b1,b2,⟨a',c',b3⟩,⟨o4,b4,_⟩,⟨o5,b5,_⟩⟩:=tz
   simp only [List.mem_cons,List.not_mem_nil,or_false] at hb
   rcases hb with rfl |rfl |rfl |rfl |rfl
   ·exact ⟨_,b1⟩
   ·exact ⟨_,b2⟩
   ·exact ⟨_,b3⟩
   ·exact ⟨_,b4⟩
   ·exact ⟨_,b5⟩) hT
  refine ⟨.ref s.heap.objs.size,_,I2,rfl,⟨_,x,y,I.hok.fresh (Nat.le_refl _),rfl,rfl,fun xs' ys' h1 h2 => ?_⟩,tz,fun b hb => ?_⟩
  ·rw [I.list_inj h1 q1,I.list_inj h2 q2];exact ⟨e1,e2⟩
  ·have:=(hf b hb).1
   have ne:b≠s.heap.objs.size:=by
    simp only [List.mem_cons,List.not_mem_nil,or_false] at hb
    obtain ⟨o4,b4,_⟩:=a4
    obtain ⟨o5,b5,_⟩:=a5
    rcases hb with rfl |rfl |rfl |rfl |rfl
    ·exact Nat.ne_of_lt (Heap.lt_size a1)
    ·exact Nat.ne_of_lt (Heap.lt_size a2)
    ·exact Nat.ne_of_lt (Heap.lt_size a3)
    ·exact Nat.ne_of_lt (Heap.lt_size b4)
    ·exact Nat.ne_of_lt (Heap.lt_size b5)
   rw [qQ ne];exact this
 done:=by
  intro X hP hw hK hA' i pins s σ H E I hf st hg
  subst hP hw hK
  obtain ⟨xs,ys,q1,q2,e1⟩:=hg
  obtain ⟨a1,a2,⟨a,c,a3⟩,a4,a5⟩:=st
  obtain ⟨us,r1,p1,_⟩:=I.list q1
  obtain ⟨vs,r2,p2,_⟩:=I.list q2
  have n1:=r1.length
  have n2:=r2.length
  refine wpAny_pyNext_zip_end (by rw [hA'];exact hA) D a1 a2 a3 a4 a5 p1.isList p2.isList (e1.imp (fun q=>by simp;omega) fun q=>by simp;omega) fun h' k=>⟨rfl,?_⟩
  have nf:∀ b u,H b=some u->b ∉ [z,TI,TO,i1,i2]:=fun b u e q=>by rw [(hf b q).1] at e;cases e
  have kk:∀ b o,b ∉ [z,TI,TO,i1,i2]->s.heap.get? b=some o->h'.get? b=some o:=fun b o hb e=>k b o (fun q=>hb (by simp [q])) (fun q=>hb (by simp [q])) (fun q=>hb (by simp [q])) (fun q=>hb (by simp [q])) e
  exact I.call (g':=s.gens) (d':=s.drawn) (t':=s.toks) (ch:=[z,TI,TO,i1,i2]) ⟨fun b o e _ _ hb=>kk b o hb e,fun b o e _ _ hb=>⟨o.slots,kk b o hb e⟩,fun b o e n _=>n,fun b o e hb=>⟨o,kk b o hb e⟩,fun b xs e=>e,fun b o u e=>e,fun b ps e=>⟨#[],by rw [e];simp⟩⟩
   (fun b u' e=>(I.hok b u' e).stay (fun c w hc q=>kk c w (hc.elim (fun z=>by rw [z];exact nf _ _ e) fun z=>nf _ _ z) q) (fun c q=>q) fun c xs q=>q) I.bare fun b hb=>⟨(hf b hb).2.2.2.1,(hf b hb).2.1,(hf b hb).2.2.2.2.1,(hf b hb).2.2.2.2.2⟩
 self:=fun _ _ _ _ _ st h=>wpAny_pyIter_zip st.1 h
section
variable {X:Cx} {a b:Expr} {ta:TA} {p pos:Pos} {elts:List Expr} {n:Nat} {tpos:Pos}
def qIq (K:W.Frag) (ta:TA):TI:=fun σ H R=>ta σ H fun vs H1 => ∃ l1 l2,vs=[.ref l1,.ref l2]∧(∃ xs,SqL K H1 l1 xs)∧(∃ ys,SqL K H1 l2 ys)∧R (Itz K l1 l2) H1
theorem qGW (hc:X.calm=true) (hg:Gl X "zip") (hm:X.mg "zip" = none) (ha:PA X [a,b] ta) (he:starEach [a,b] X.env=(false,eval a X.env)::starEach [b] X.env:=by rfl) (hpl:(backTo pos (starEach [b] X.env)).any (·.1)=false:=by rfl) :
  PI X (.Tuple elts n tpos) (.Call (.Name "zip" p) [a,b] [] pos) (qIq X.K ta):=by
 intro pins s σ H R I h
 refine wpAny_Call_Name_kw (zK I hg hm PyProof.Rows.boot_zip ?_)
 refine PyProof.Rows.callWith_type1 (thn (ha pos pins s σ H _ I h) fun us s1 ⟨vs,H1,I1,r1,q1⟩ => ?_) he hpl
 obtain ⟨l1,l2,rfl,⟨xs,h1⟩,⟨ys,h2⟩,q⟩:=q1
 obtain ⟨u,v,rfl,ru,rv⟩:=jt r1
 cases ru
 cases rv
 obtain ⟨ts,r1,p1,_⟩:=I1.list h1
 obtain ⟨ws,r2,p2,_⟩:=I1.list h2
 refine call_zip_2 p1.isList p2.isList fun h' b1 b2 b3 b4 b5 b6 b7 => ?_
 refine wpAny_pyIter_zip b1 ?_
 have lt1:l1 < s1.heap.objs.size:=by obtain ⟨_,e,_⟩:=p1.isList;exact Heap.lt_size e
 have lt2:l2 < s1.heap.objs.size:=by obtain ⟨_,e,_⟩:=p2.isList;exact Heap.lt_size e
 have I2:L2.Inv X pins σ H1 { s1 with heap:=h' }:=I1.kept (t':=s1.toks) b7
 refine ⟨_,_,_,_,H1,rfl,I2,qD4 (I1.ok.hd hc) _ _ _ _ _ _ _ (PyProof.Rows.zipApart_new lt1 lt2),⟨b1,b2,⟨_,_,b3⟩,b4,b5⟩,fun c hc' => ?_,q⟩
 have hle:s1.heap.objs.size≤c:=by
  simp only [List.mem_cons,List.not_mem_nil,or_false] at hc'
  rcases hc' with rfl |rfl |rfl |rfl |rfl
  ·exact Nat.le_add_right _ _
  ·exact Nat.le_add_right _ _
  ·exact Nat.le_add_right _ _
  ·exact Nat.le_refl _
  ·exact Nat.le_add_right _ _
 exact I1.fpOk hle (I1.hok.fresh hle)
end
section
variable {X:Cx}
def qH9 (K:W.Frag):R2:=fun x y H Q => ∃ l b xs zs,x = .ref l∧y = .ref b∧SqL K H l xs∧SqL K H b zs∧xs.length + zs.length≤sizeLine ∧ ∀ p,H p=none->Q (.ref p) (upd H p (.lst (xs++zs)))
theorem qFG:OpR X (binaryOp .Add) (qH9 X.K):=by
 intro pins s σ H x y v u Q I rx ry h
 obtain ⟨l,b,xs,zs,rfl,rfl,h1,h2,hz,q⟩:=h
 cases rx
 cases ry
 obtain ⟨us,r1,p1,_⟩:=I.list h1
 obtain ⟨ws,r2,p2,_⟩:=I.list h2
 obtain ⟨⟨c1,d1,a1,s1⟩,o1,e1,m1,f1⟩:=id p1.isList
 obtain ⟨⟨c2,d2,a2,s2⟩,o2,e2,m2,f2⟩:=id p2.isList
 have e1:c1=_:=e1
 have e2:c2=_:=e2
 have f1:a1=_:=f1
 have f2:a2=_:=f2
 subst e1;subst e2;subst f1;subst f2
 have z:us.length + ws.length≤sizeLine:=by rw [← r1.length,← r2.length];exact hz
 refine concat_meets ⟨_,o1,rfl⟩ ⟨_,o2,rfl⟩ noFill_list_add seq_list_add F.slot_list_add F.entry_list_add (F.args_list_add_2 _ _) (list_addW l b us.toArray ws.toArray m1 m2 d1 d2 s1 s2 (by simpa using z)) ⟨o1,o2,?_⟩
 rw [show us.toArray++ws.toArray=(us++ws).toArray by simp]
 exact ⟨.ref _,_,I.lnew (t':=s.toks) (r1.append r2) (by rw [List.length_append];exact hz),rfl,q _ I.fresh⟩
def qGC (K:W.Frag):R2:=fun x y H Q => ∃ a b xs ys,x = .ref a∧y = .ref b∧SqT K H a xs∧SqT K H b ys∧xs.length + ys.length≤sizeLine ∧
 (xs=[]->Q (.ref b) H)∧(xs≠[]->ys=[]->Q (.ref a) H)∧(xs≠[]->ys≠[] -> ∀ p,H p=none->Q (.ref p) (upd H p (.tup (xs++ys))))
theorem qDT:OpR X (binaryOp .Add) (qGC X.K):=by
 intro pins s σ H x y v u Q I rx ry h
 obtain ⟨a,b,xs,ys,rfl,rfl,ha,hb,hz,q0,q1,q2⟩:=h
 by_cases hx:xs=[]
 ·cases rx
  cases ry
  obtain ⟨us,r1,p1,_⟩:=I.tuple ha
  obtain ⟨ws,r2,p2,_⟩:=I.tuple hb
  obtain ⟨⟨c1,d1,a1,s1⟩,o1,e1,m1,f1⟩:=id p1
  obtain ⟨⟨c2,d2,a2,s2⟩,o2,e2,m2,f2⟩:=id p2
  have e1:c1=_:=e1
  have e2:c2=_:=e2
  have f1:a1=_:=f1
  have f2:a2=_:=f2
  subst e1;subst e2;subst f1;subst f2
  exact concat_meets ⟨_,o1,rfl⟩ ⟨_,o2,rfl⟩ noFill_tuple_add seq_tuple_add F.slot_tuple_add F.entry_tuple_add (F.args_tuple_add_2 _ _) (tuple_addW0 a b us.toArray ws.toArray m1 m2 d1 d2 s1 s2 (by simp [r1.nil_iff.mpr hx])) ⟨o1,o2,.ref b,H,I,rfl,q0 hx⟩
 ·exact qEX pins s σ H _ _ v u Q I rx ry ⟨a,b,xs,ys,rfl,rfl,ha,hb,hx,hz,q1 hx,q2 hx⟩
def qIl (K:W.Frag):V->Option Int->Option Int->Hp->VK->Prop:=fun x lo hi H Q => ∃ a xs,x = .ref a∧SqT K H a xs∧HT.sIx xs.length 0 lo=0∧HT.sIx xs.length xs.length hi=xs.length∧Q (.ref a) H
theorem qCg:SlR X (qIl X.K):=by
 intro pins s σ H x v vl vu lo hi sl Q I rx hs pl pu h
 obtain ⟨a,xs,rfl,hx,w1,w2,q⟩:=h
 cases rx
 obtain ⟨its,r,ht,hz⟩:=I.tuple hx
 have hlen:its.toArray.size=xs.length:=by rw [List.size_toArray];exact r.length.symm
 refine ⟨"tuple",_,PyProof.Rows.slot_tuple_getitem.lookup,ht.typeIs,?_⟩
 obtain ⟨os,hos,hcs,hds⟩:=id hs
 have hTs:s.TypeIs (.ref sl) "slice" := ⟨os,hos,hcs⟩
 unfold getItem
 try with_reducible refine wpAny_holding ?_
 first |refine wpAny_bind (wpAny_pure ?_) |skip
 refine wpAny_bind (wpAny_sequenceKey ht.typeIs (by decide) ?_)
 refine wpAny_bind (wpAny_callSpecial?_slot (name:=Str.ofString "__getitem__") ht.typeIs PyProof.Rows.slot_tuple_getitem (wpAny_call_entry PyProof.Rows.slot_tuple_getitem ht.typeIs PyProof.Rows.entry_tuple_getitem ?_ (PyProof.Rows.args_tuple_getitem _ _)))
 show wpAny _ _ (Builtin.Tuple.tupleItemsOf (.ref a) >>= _) _ _ s
 refine wpAny_bind (tupleItemsOf_ ht ?_)
 refine wpAny_bind (wpAny_typeOf hTs ?_)
 rw [if_pos (by decide)]
 refine wpAny_bind (HT.sliceApplied_gen hs pl pu ?_)
 rw [hlen,w1,w2]
 dsimp only
 rw [if_pos (show ((((0:Nat):Int)==0&&(1:Int)==1&&xs.length - 0==xs.length)=true) by simp)]
 unfold Builtin.Tuple.tupleIsExact
 refine wpAny_bind (wpAny_bind (wpAny_typeOf ht.typeIs (wpAny_pure ?_)))
 rw [if_pos (by simp)]
 exact wpAny_bind (wpAny_rule (wpAny_pure ⟨_,rfl,wpAny_pure ⟨.ref a,H,I,rfl,q⟩⟩))
def PJ (X:Cx) (es:List Expr) (t:Str->L2.St->Hp->(Str->Hp->Prop)->Prop):Prop := ∀ (out:Str) (pins:List (Addr×Obj)) (s:Shared) (σ:L2.St) (H:Hp) (Q:Str->Hp->Prop),L2.Inv X pins σ H s->t out σ H Q ->
 wpAny (model X.prog X.w) X.A (joinParts out (evalEach es X.env)) (fun u s' => ∃ x H',L2.Inv X pins σ H' s'∧(∃ t,u = .str x t)∧Q x H') X.xe s
theorem qGi:PJ X [] (fun out _ H Q=>out.length≤sizeLine∧Q out H):=fun out pins s σ H Q I h=>joinParts_nil ⟨out,H,I.tok _,⟨_,rfl⟩,h.2⟩ h.1
theorem qFH {e:Expr} {es:List Expr} {te:TE} {t:Str->L2.St->Hp->(Str->Hp->Prop)->Prop} (h1:PE X e te) (h2:PJ X es t):PJ X (e::es) (fun out σ H Q=>te σ H fun v H1 => ∃ y,v = .str y∧(out++y).length≤sizeLine∧t (out++y) σ H1 Q) :=
 fun out pins s σ H Q I h=>joinParts_cons (thn (h1 pins s σ H _ I h) fun u s1 ⟨v,H1,I1,r1,y,e,z,q⟩=>by
  subst e
  obtain ⟨t',rfl⟩:=r1
  exact ⟨z,h2 (out++y) pins s1 σ H1 Q I1 q⟩)
theorem qGQ {e:Expr} {te:TE} {pos:Pos} (h:PE X e te):PE X (.FormattedValue e (-1) none pos) (fun σ H Q=>te σ H fun v H1 => ∃ i,v = .int i∧i.natAbs.log2 < 1920∧Q (.str (toString i)) H1) :=
 fun pins s σ H Q I q=>FormattedValue_plain (thn (h pins s σ H _ I q) fun u s1 ⟨v,H1,I1,r1,i,e,z,q⟩=>by
  subst e
  obtain ⟨t',rfl⟩:=r1
  exact wpAny_formatField_int z ⟨.str _,H1,I1.tok _,⟨_,rfl⟩,q⟩)
theorem qEF {e1 e2:Expr} {es:List Expr} {t:Str->L2.St->Hp->(Str->Hp->Prop)->Prop} {pos:Pos} (h:PJ X (e1::e2::es) t):PE X (.JoinedStr (e1::e2::es) pos) (fun σ H Q=>t Str.empty σ H fun x H1=>Q (.str x) H1) :=
 fun pins s σ H Q I q=>JoinedStr_many (thn (h Str.empty pins s σ H _ I q) fun u s1 ⟨x,H1,I1,r1,q1⟩=>⟨.str x,H1,I1,r1,q1⟩)
end
end EX
end
section
namespace EV
open PySem PySem.Spec PyProof.Rows L2 EX
section
variable {X:Cx} {E:XK} {e a c d:Expr} {es:List Expr} {f fa fb fc:FE} {pos:Pos} {F G:FS}
theorem WM {x:Str} {n:String} {pos:Pos} (hg:Gl X x) (hm:X.mg x=none) (hv:bootBuiltins x=some (.type n)) (hn:x ≠ "__name__" := by decide) (hd:(x==("__debug__":Str))=false:=by decide):VE X E (.Name x pos) (vC (.ty n)) :=
 qAo (qEc (v := .ty n) hg hm hv rfl hn hd) fun _ _=>by unfold RV;rfl
theorem ZG {x:Str} {a:Addr} {pos:Pos} (hg:Gl X x) (hm:X.mg x=some (.ref a)) (hd:(x==("__debug__":Str))=false:=by decide):VE X E (.Name x pos) (vC (.fn a)) :=
 qAo (qBE (v := .ref a) hg hm rfl hd) fun _ _=>by unfold RV;rfl
def lk (st:qC):PV->Bool
 | .ref i=>match st[i]? with
  |some (.l _)=>true
  |_=>false
 |_=>true
theorem qD0 {kit:Value->Value->Option Bool} (hk:KitOk X.K kit) {pins:List (Addr×Obj)} {σ:L2.St} {H:Hp} {s:Shared} (I:L2.Inv X pins σ H s) {b:Bz} {st:qC} (S:SR X.K H b st) {p:PV} {v:V} {u t:Value} (r:RV X.K H b p v) (ru:RelV v u) (ht:tyP p=some t) (hlk:lk st p=true) (hx:∀ a,t = .ref a->ExcK X.K a) :
  ∃ Hh,PySem.W.KitX X.K u t Hh∧Hh s.heap∧u ≠ .builtin "__main__.__loader__#opaque" := by
 cases p with
 |non=>unfold RV at r;subst r;cases ht;cases (show u=Value.none from ru);exact ⟨_,PySem.W.kitx_none,trivial,fun z=>nomatch z⟩
 |bl x=>unfold RV at r;subst r;cases ht;cases (show u=Value.bool x from ru);exact ⟨_,PySem.W.kitx_bool,trivial,fun z=>nomatch z⟩
 |int x=>unfold RV at r;subst r;cases ht;obtain ⟨t,rfl⟩:=(show ∃ t,u=Value.int x t from ru);exact ⟨_,PySem.W.kitx_int,trivial,fun z=>nomatch z⟩
 |str x=>unfold RV at r;subst r;cases ht;obtain ⟨t,rfl⟩:=(show ∃ t,u=Value.str x t from ru);exact ⟨_,PySem.W.kitx_str,trivial,fun z=>nomatch z⟩
 |tup l =>
  unfold RV at r
  obtain ⟨a,xs,rfl,h2,h3⟩:=r
  cases ht
  cases (show u=Value.ref a from ru)
  obtain ⟨its,_,⟨o,h4,h5,_⟩,_⟩:=I.tuple h2.sq
  exact ⟨_,PySem.W.kitx_tuple,⟨o,h4,h5⟩,fun z=>nomatch z⟩
 |lst l =>
  unfold RV at r
  obtain ⟨a,xs,rfl,h2,h3⟩:=r
  cases ht
  cases (show u=Value.ref a from ru)
  obtain ⟨its,_,⟨o,n,h4,h5,_⟩,_⟩:=I.list h2.sq
  exact ⟨_,PySem.W.kitx_list,⟨o,h4,h5⟩,fun z=>nomatch z⟩
 |ref i =>
  unfold RV at r
  obtain ⟨a,rfl,h2⟩:=r
  cases ht
  cases (show u=Value.ref a from ru)
  have hl:i < st.length:=by rw [← S.len];exact (List.getElem?_eq_some_iff.mp h2).1
  obtain ⟨a',o,h3,h4,h5⟩:=S.at_ i _ (List.getElem?_eq_getElem hl)
  rw [h2] at h3;cases h3
  have hq:∃ vs,o = .lst vs:=by
   cases hx:st[i] with
   |l xs=>rw [hx] at h5;obtain ⟨vs,e,_⟩:=h5;exact ⟨vs,e⟩
   |z xs=>unfold lk at hlk;dsimp only at hlk;rw [List.getElem?_eq_getElem hl,hx] at hlk;cases hlk
   |d xs=>unfold lk at hlk;dsimp only at hlk;rw [List.getElem?_eq_getElem hl,hx] at hlk;cases hlk
  obtain ⟨vs,rfl⟩:=hq
  obtain ⟨its,_,⟨o,n,h6,h7,_⟩,_⟩:=I.list (SqL.of h4)
  exact ⟨_,PySem.W.kitx_list,⟨o,h6,h7⟩,fun z=>nomatch z⟩
 |dct =>
  unfold RV at r
  obtain ⟨a,rfl,h2,h3⟩:=r
  cases ht
  cases (show u=Value.ref a from ru)
  obtain ⟨_,_,vs,_,o,_,_,h4,h5,_⟩:=(show ObjOk X.prog X.w H s.heap a (.dK []) from I.hok a _ h2)
  exact ⟨_,PySem.W.kitx_dict,⟨o,h4,h5.1⟩,fun z=>nomatch z⟩
 |exc c fs =>
  unfold RV at r
  obtain ⟨a,o,w,rfl,h2,h3,h4,⟨vs,h6⟩,h5⟩:=r
  cases ht
  cases (show u=Value.ref a from ru)
  have ho:s.heap.get? a=some o:=(I.hok a _ h2).1
  have hn:PySem.W.notCls o=true:=by
   obtain ⟨c',d',dt,sl⟩:=o
   have h6:dt=_:=h6
   subst h6;rfl
  refine ⟨_,qCI (hx c rfl),?_,fun z=>nomatch z⟩
  rcases h5 with ⟨_,h5⟩ |⟨d,h5,h7,h8⟩
  ·exact ⟨o,none,ho,h4,hn,by rw [h5];trivial⟩
  ·obtain ⟨od,h9⟩:=got (I.hok d _ h7)
   exact ⟨o,some od,ho,h4,hn,by rw [h5];exact h9⟩
 |ty n=>cases ht
 |fn n=>cases ht
theorem qFW {K:W.Frag} {H:Hp} {b:Bz} {c:PV} {v:V} {u t:Value} (r:RV K H b c v) (ru:RelV v u) (ht:clP c=some t):u=t:=by
 cases c with
 |ty n=>unfold RV at r;subst r;cases ht;exact ru
 |fn a=>unfold RV at r;subst r;cases ht;exact ru
 |_=>cases ht
theorem JS {kit:Value->Value->Option Bool} (hk:KitOk X.K kit) {H:Hp} {b:Bz} {p:PV} {t:Value} (ht:tyP p=some t):∀ {cs:List PV} {xs:List V} {us:List Value} {k:Bool},RVs X.K H b cs xs->Vals xs us->Ja kit p cs=some k->PySem.W.kitAny X.K t us=some k
 |[],_,_,k,h,r,e=>by
  unfold RVs at h;subst h;cases r;exact e
 |c::cs,_,_,k,h,r,e=>by
  unfold RVs at h
  obtain ⟨x,xs,rfl,h1,h2⟩:=h
  cases r with
  | @cons _ u _ us r1 r2 =>
   unfold Ja qBU at e
   rw [ht] at e
   cases hc:clP c with
   |none=>rw [hc] at e;cases e
   |some c' =>
    rw [hc] at e
    have eu:=qFW h1 r1 hc
    subst eu
    dsimp only at e
    unfold PySem.W.kitAny
    cases q:kit t u with
    |none=>rw [q] at e;cases e
    |some bb =>
     rw [q] at e
     rw [hk.one _ _ _ q]
     cases bb with
     |true=>exact e
     |false=>exact JS hk ht h2 r2 e
theorem qC5 {kit:Value->Value->Option Bool} (hk:KitOk X.K kit) {p:PV} {t:Value} (ht:tyP p=some t):∀ {cs:List PV} {k:Bool},cs≠[]->Ja kit p cs=some k -> ∀ a,t = .ref a->ExcK X.K a
 |[],_,h,_,_,_=>absurd rfl h
 |c::cs,k,_,e,a,ha=>by
  unfold Ja qBU at e
  rw [ht] at e
  cases hc:clP c with
  |none=>rw [hc] at e;cases e
  |some c' =>
   rw [hc] at e
   dsimp only at e
   cases q:kit t c' with
   |none=>rw [q] at e;cases e
   |some bb=>subst ha;exact hk.exc _ _ _ q
theorem qDE {kit:Value->Value->Option Bool} (hk:KitOk X.K kit):WH X (.builtin "isinstance") (fun vs H Q => ∃ b st p c k,SR X.K H b st∧RVs X.K H b [p,c] vs∧(∀ cs,c = .tup cs->cs≠[])∧lk st p=true∧qH3 kit p c=some k∧Q (.bl k) H):=by
 intro pins s σ H xs us Q I r h
 obtain ⟨b,st,p,c,k,S,rs,hne,hlk,e,q⟩:=h
 obtain ⟨x,y,rfl,r1,r2⟩:=RVs.two rs
 obtain ⟨u,v,rfl,ru,rv⟩:=jt r
 by_cases hc:∃ cs,c = .tup cs
 ·obtain ⟨cs,rfl⟩:=hc
  have e:(if (tyP p).isSome then Ja kit p cs else none)=some k:=e
  cases ht:tyP p with
  |none=>rw [ht] at e;cases e
  |some t =>
   rw [ht] at e
   have e:Ja kit p cs=some k:=e
   obtain ⟨Hh,Z,hh,hx⟩:=qD0 hk I S r1 ru ht hlk (qC5 hk ht (hne cs rfl) e)
   unfold RV at r2
   obtain ⟨a,ys,rfl,h2,h3⟩:=r2
   cases (show v=Value.ref a from rv)
   obtain ⟨its,r',⟨o,h4,h5,n,h6⟩,_⟩:=I.tuple h2.sq
   obtain ⟨c1,d1,dt,sl⟩:=o
   have h5:c1=_:=h5
   have h6:dt=_:=h6
   subst h5;subst h6
   exact PySem.W.kia_tup Z I.kIn hh h4 (JS hk ht h3 r' e) hx fun tk=>⟨.bl k,H,I.tok _,rfl,q⟩
 ·have e:qBU kit p c=some k:=by
   cases c <;> first |exact e |exact (hc ⟨_,rfl⟩).elim
  unfold qBU at e
  cases ht:tyP p with
  |none=>rw [ht] at e;cases e
  |some t =>
   cases hc2:clP c with
   |none=>rw [ht,hc2] at e;cases e
   |some c' =>
    rw [ht,hc2] at e
    have eu:=qFW r2 rv hc2
    subst eu
    obtain ⟨Hh,Z,hh,hx⟩:=qD0 hk I S r1 ru ht hlk (fun a ha=>by subst ha;exact hk.exc _ _ _ e)
    exact PySem.W.kia_one Z I.kIn hh (hk.one _ _ _ e) hx fun tk=>⟨.bl k,H,I.tok _,rfl,q⟩
def QN (kit:Value->Value->Option Bool):List PV->qC->Rs PV:=fun ps st=>match ps with
 |[p,c]=>match c with
  | .tup [] => .no
  |c=>match qH3 kit p c with
   |some b=>if lk st p=true then .ok (.bl b) st else .no
   |none => .no
 |_ => .no
theorem QK {kit:Value->Value->Option Bool} {ta:FA} {p:Pos} (hk:KitOk X.K kit) (hm:X.mg "isinstance" = none) (ha:VA X E (e::es) ta) (hg:Gl X "isinstance" := by rfl)
  (he:starEach (e::es) X.env=(false,eval e X.env)::starEach es X.env:=by rfl) (hpl:(backTo pos (starEach es X.env)).any (·.1)=false:=by rfl):VE X E (.Call (.Name "isinstance" p) (e::es) [] pos) (qI (QN kit) ta) :=
 wT (qDE hk) (fun H b st ps vs Q S r P=>by
  unfold QN at P
  split at P
  ·rename_i p c
   split at P
   ·exact P.elim
   ·rename_i hc
    split at P
    ·rename_i k hk'
     split at P
     ·rename_i hlk
      exact ⟨b,st,p,c,k,S,r,fun cs e z=>by subst e;subst z;exact hc rfl,hlk,hk',PostE.here P S WX⟩
     ·exact P.elim
    ·exact P.elim
  ·exact P.elim) hg hm PyProof.Rows.boot_isinstance ha (he:=he) (hpl:=hpl)
end
def pbl:PV->Option Bool
 | .bl b=>some b
 |_=>none
def jd:PV->Option Int
 | .int i=>some i
 |_=>none
def WI {α:Type} (f:PV->Option α):List PV->Option (List α)
 |[]=>some []
 |p::ps=>match f p with
  |some a=>match WI f ps with
   |some r=>some (a::r)
   |none=>none
  |none=>none
section
variable {X:Cx} {E:XK} {e a c d:Expr} {es:List Expr} {f fa fb fc:FE} {pos:Pos} {F G:FS}
theorem qAF {K:W.Frag} {H:Hp} {b:Bz}:∀ {l:List PV} {xs:List V} {bs:List Bool},RVs K H b l xs->WI pbl l=some bs->xs=bs.map V.bl
 |[],_,_,h,e=>by unfold RVs at h;subst h;cases e;rfl
 |p::ps,_,bs,h,e=>by
  unfold RVs at h
  obtain ⟨x,r,rfl,h1,h2⟩:=h
  unfold WI at e
  cases p with
  |bl k =>
   unfold RV at h1;subst h1
   cases q:WI pbl ps with
   |none=>rw [q] at e;cases e
   |some r'=>rw [q] at e;cases e;rw [qAF h2 q];rfl
  |_=>cases e
theorem Z7 {K:W.Frag} {H:Hp} {b:Bz}:∀ {l:List PV} {xs:List V} {bs:List Int},RVs K H b l xs->WI jd l=some bs->xs=bs.map V.int
 |[],_,_,h,e=>by unfold RVs at h;subst h;cases e;rfl
 |p::ps,_,bs,h,e=>by
  unfold RVs at h
  obtain ⟨x,r,rfl,h1,h2⟩:=h
  unfold WI at e
  cases p with
  |int k =>
   unfold RV at h1;subst h1
   cases q:WI jd ps with
   |none=>rw [q] at e;cases e
   |some r'=>rw [q] at e;cases e;rw [Z7 h2 q];rfl
  |_=>cases e
def Zo {α:Type} (k:PV->Option α) (g:List α->PV):List PV->qC->Rs PV:=fun ps st=>match ps with
 |[p]=>match asL st p with
  |some l=>match WI k l with
   |some r => .ok (g r) st
   |none => .no
  |none => .no
 |_ => .no
def Z6:=Zo pbl fun bs => .bl (bs.all id)
def qAW:=Zo pbl fun bs => .bl (bs.any id)
def jF:=Zo jd fun ns => .int ns.sum
theorem qGO:ZE X E (fun xs H Q => ∃ (p:Addr) (bs:List Bool),xs=[.ref p]∧SqL X.K H p (bs.map V.bl)∧Q (.bl (bs.all id)) H) Z6:=by
 intro H b st ps vs Q S r P
 unfold Z6 Zo at P
 split at P
 ·obtain ⟨v,rfl,r1⟩:=RVs.one r
  split at P
  ·rename_i l e
   split at P
   ·rename_i bs eb
    obtain ⟨a,xs,rfl,h2,h3⟩:=QX S r1 e
    rw [qAF h3 eb] at h2
    exact ⟨a,bs,rfl,h2,PostE.here P S WX⟩
   ·exact P.elim
  ·exact P.elim
 ·exact P.elim
theorem qF0:ZE X E (fun xs H Q => ∃ (p:Addr) (bs:List Bool),xs=[.ref p]∧SqL X.K H p (bs.map V.bl)∧Q (.bl (bs.any id)) H) qAW:=by
 intro H b st ps vs Q S r P
 unfold qAW Zo at P
 split at P
 ·obtain ⟨v,rfl,r1⟩:=RVs.one r
  split at P
  ·rename_i l e
   split at P
   ·rename_i bs eb
    obtain ⟨a,xs,rfl,h2,h3⟩:=QX S r1 e
    rw [qAF h3 eb] at h2
    exact ⟨a,bs,rfl,h2,PostE.here P S WX⟩
   ·exact P.elim
  ·exact P.elim
 ·exact P.elim
theorem qGB:ZE X E (fun xs H Q => ∃ (p:Addr) (ns:List Int),xs=[.ref p]∧SqL X.K H p (ns.map V.int)∧Q (.int ns.sum) H) jF:=by
 intro H b st ps vs Q S r P
 unfold jF Zo at P
 split at P
 ·obtain ⟨v,rfl,r1⟩:=RVs.one r
  split at P
  ·rename_i l e
   split at P
   ·rename_i bs eb
    obtain ⟨a,xs,rfl,h2,h3⟩:=QX S r1 e
    rw [Z7 h3 eb] at h2
    exact ⟨a,bs,rfl,h2,PostE.here P S Qr⟩
   ·exact P.elim
  ·exact P.elim
 ·exact P.elim
section
variable {ta:FA} {p:Pos} (ha:VA X E (e::es) ta)
include ha
theorem YM (hm:X.mg "all" = none) (hg:Gl X "all" := by rfl) (he:starEach (e::es) X.env=(false,eval e X.env)::starEach es X.env:=by rfl) (hpl:(backTo pos (starEach es X.env)).any (·.1)=false:=by rfl):VE X E (.Call (.Name "all" p) (e::es) [] pos) (qI Z6 ta) :=
 wT qBp qGO hg hm Boot.«all» ha (he:=he) (hpl:=hpl)
theorem qG9 (hm:X.mg "any" = none) (hg:Gl X "any" := by rfl) (he:starEach (e::es) X.env=(false,eval e X.env)::starEach es X.env:=by rfl) (hpl:(backTo pos (starEach es X.env)).any (·.1)=false:=by rfl):VE X E (.Call (.Name "any" p) (e::es) [] pos) (qI qAW ta) :=
 wT qCC qF0 hg hm Boot.«any» ha (he:=he) (hpl:=hpl)
theorem qDK (hm:X.mg "sum" = none) (hg:Gl X "sum" := by rfl) (he:starEach (e::es) X.env=(false,eval e X.env)::starEach es X.env:=by rfl) (hpl:(backTo pos (starEach es X.env)).any (·.1)=false:=by rfl):VE X E (.Call (.Name "sum" p) (e::es) [] pos) (qI jF ta) :=
 wT qBu qGB hg hm Boot.«sum» ha (he:=he) (hpl:=hpl)
theorem WF (hm:X.mg "len" = none) (hg:Gl X "len" := by rfl) (he:starEach (e::es) X.env=(false,eval e X.env)::starEach es X.env:=by rfl) (hpl:(backTo pos (starEach es X.env)).any (·.1)=false:=by rfl):VE X E (.Call (.Name "len" p) (e::es) [] pos) (qI W7 ta) :=
 wT jC qFy hg hm Boot.«len» ha (he:=he) (hpl:=hpl)
theorem qEU (hc:X.calm=true) (hm:X.mg "max" = none) (hg:Gl X "max" := by rfl) (he:starEach (e::es) X.env=(false,eval e X.env)::starEach es X.env:=by rfl) (hpl:(backTo pos (starEach es X.env)).any (·.1)=false:=by rfl):VE X E (.Call (.Name "max" p) (e::es) [] pos) (qI qCz ta) :=
 wT (qB1 hc) qGl hg hm Boot.«max» ha (he:=he) (hpl:=hpl)
theorem qEP (hc:X.calm=true) (hm:X.mg "min" = none) (hg:Gl X "min" := by rfl) (he:starEach (e::es) X.env=(false,eval e X.env)::starEach es X.env:=by rfl) (hpl:(backTo pos (starEach es X.env)).any (·.1)=false:=by rfl):VE X E (.Call (.Name "min" p) (e::es) [] pos) (qI qDW ta) :=
 wT (qB7 hc) qF6 hg hm Boot.«min» ha (he:=he) (hpl:=hpl)
theorem Y1 (hm:X.mg "tuple" = none) (hg:Gl X "tuple" := by rfl) (he:starEach (e::es) X.env=(false,eval e X.env)::starEach es X.env:=by rfl) (hpl:(backTo pos (starEach es X.env)).any (·.1)=false:=by rfl):VE X E (.Call (.Name "tuple" p) (e::es) [] pos) (qI Zm ta) :=
 Y0 Ya qDp hg hm Boot.«tuple» ha (he:=he) (hpl:=hpl)
theorem qEJ (hm:X.mg "int" = none) (hg:Gl X "int" := by rfl) (he:starEach (e::es) X.env=(false,eval e X.env)::starEach es X.env:=by rfl) (hpl:(backTo pos (starEach es X.env)).any (·.1)=false:=by rfl):VE X E (.Call (.Name "int" p) (e::es) [] pos) (qI qDR ta) :=
 Y0 qBg qGP hg hm Boot.«int» ha (he:=he) (hpl:=hpl)
end
theorem Jl {p:Pos} (hm:X.mg "list" = none) (ha:VE X E e f) (hg:Gl X "list" := by rfl) (he:starEach [e] X.env=(false,eval e X.env)::starEach [] X.env:=by rfl) (hpl:(backTo pos (starEach [] X.env)).any (·.1)=false:=by rfl):VN X E (.Call (.Name "list" p) [e] [] pos) (qAy f) :=
 qFP hg hm Boot.«list» ha he hpl
def Z4 (fa fb:FE):FL:=fun r st=>(fa r st).bind fun p s1=>(fb r s1).bind fun q s2=>match asL s2 p with
 |some l=>match asL s2 q with
  |some m=>if l.length + m.length≤sizeLine then .ok (l++m) s2 else .no
  |none => .no
 |none => .no
theorem Zd (ha:VE X E a fa) (hb:VE X E c fb):VN X E (.BinOp a .Add c pos) (Z4 fa fb):=PE.imp (qFf qFG ha hb) fun s H Q ⟨b,r,st,S,R,P⟩ =>
 ⟨b,r,st,S,R,PostE.bindN P fun p s1 u H1 b1 e1 S1 r1 P1=>⟨b1,r,s1,S1,R.ext e1,PostE.bindN P1 fun q s2 v H2 b2 e2 S2 r2 P2=>by
  split at P2
  ·rename_i l el
   split at P2
   ·rename_i m em
    split at P2
    ·rename_i hl
     obtain ⟨x,xs,rfl,h2,h3⟩:=QX S2 (RV.ext e2 p r1) el
     obtain ⟨y,ys,rfl,h4,h5⟩:=QX S2 r2 em
     exact ⟨x,y,xs,ys,rfl,rfl,h2,h4,by rw [← h3.length,← h5.length];exact hl,fun z hz=>PostN.lay P2 S2 (h3.append h5) hz⟩
    ·exact P2.elim
   ·exact P2.elim
  ·exact P2.elim⟩⟩
theorem RVs.rep {K:W.Frag} {H:Hp} {b:Bz} {l:List PV} {xs:List V} (h:RVs K H b l xs):∀ n,RVs K H b (List.replicate n l).flatten (List.replicate n xs).flatten
 |0=>RVs.nil
 |n + 1=>by rw [List.replicate_succ,List.replicate_succ,List.flatten_cons,List.flatten_cons];exact h.append (RVs.rep h n)
end
section
variable {X:Cx} {E:XK} {e a c d:Expr} {es:List Expr} {f fa fb fc:FE} {fl:FL} {pos:Pos} {F G:FS}
def wc:PV->PV->qC->Rs PV:=fun p q st=>match p,q with
 | .tup l,.tup m=>if l.length + m.length≤sizeLine then .ok (.tup (l++m)) st else .no
 |_,_ => .no
theorem WC (ha:VE X E a fa) (hb:VE X E c fb):VE X E (.BinOp a .Add c pos) (qL wc fa fb):=ZZ qDT (fun H b st p q u v Q S rp rq P=>by
 unfold wc at P
 split at P
 ·rename_i l m
  split at P
  ·rename_i hl
   have rp0:=rp
   have rq0:=rq
   unfold RV at rp rq
   obtain ⟨x,xs,rfl,h2,h3⟩:=rp
   obtain ⟨y,ys,rfl,h4,h5⟩:=rq
   have n1:=h3.length
   have n2:=h5.length
   refine ⟨x,y,xs,ys,rfl,rfl,h2.sq,h4.sq,by rw [← n1,← n2];exact hl,fun z => ?_,fun _ z => ?_,fun _ _ w hw=>PostE.layT P S (h3.append h5) hw⟩
   ·have:l=[]:=List.length_eq_zero_iff.mp (by rw [n1,z];rfl)
    subst this
    exact PostE.here P S rq0
   ·have:m=[]:=List.length_eq_zero_iff.mp (by rw [n2,z];rfl)
    subst this
    rw [List.append_nil] at P
    exact PostE.here P S rp0
  ·exact P.elim
 ·exact P.elim) ha hb
abbrev FO:=q9->qC->Rs (Option Int)
def PostO (K:W.Frag) (E:XK) (H:Hp) (b:Bz) (r:Rs (Option Int)) (Q:Option Int->Hp->Prop):Prop:=match r with
 | .ok k st => ∀ H' b',Ext H b H' b'->SR K H' b' st->Q k H'
 | .ex x st=>XP K E H b x st
 | .no=>False
def rdO (K:W.Frag) (E:XK) (f:FO):TO:=fun s H Q => ∃ b r st,SR K H b st∧REnv K H b r s∧PostO K E H b (f r st) Q
abbrev VO (X:Cx) (E:XK) (e:Option Expr) (f:FO):Prop:=PO X e (rdO X.K E f)
def Q1:FO:=fun _ st => .ok none st
def Qh (f:FE):FO:=fun r st=>(f r st).bind fun p s=>match p with
 | .int i => .ok (some i) s
 |_ => .no
theorem wV:VO X E none Q1:=fun pins s σ H Q I ⟨b,r,st,S,R,P⟩=>qE8 pins s σ H Q I (P H b (Ext.refl _ _) S)
theorem wQ (h:VE X E e f):VO X E (some e) (Qh f):=fun pins s σ H Q I ⟨b,r,st,S,R,P⟩=>qFM h pins s σ H Q I ⟨b,r,st,S,R,by
 unfold Qh at P
 cases ef:f r st with
 |no=>rw [ef] at P;exact P.elim
 |ex x s1=>rw [ef] at P;exact P
 |ok p s1 =>
  rw [ef] at P
  intro v H1 b1 e1 S1 r1
  dsimp only [Rs.bind] at P
  split at P
  ·rename_i i
   unfold RV at r1
   exact ⟨i,r1,P H1 b1 e1 S1⟩
  ·exact P.elim⟩
def QQ (l:List PV) (lo hi:Option Int):List PV:=(l.drop (HT.sIx l.length 0 lo)).take (HT.sIx l.length l.length hi - HT.sIx l.length 0 lo)
def yG (f:FE) (lo hi:FO):FE:=fun r st=>(f r st).bind fun p s1=>(lo r s1).bind fun a s2=>(hi r s2).bind fun c s3=>match p with
 | .tup l => .ok (.tup (QQ l a c)) s3
 |_ => .no
theorem PostO.bind {K:W.Frag} {E:XK} {H:Hp} {b:Bz} {r:Rs (Option Int)} {k:Option Int->qC->Rs PV} {Q:VK} {R:Option Int->Hp->Prop} (P:PostE K E H b (r.bind k) Q)
  (h:∀ p st H1 b1,Ext H b H1 b1->SR K H1 b1 st->PostE K E H1 b1 (k p st) Q->R p H1):PostO K E H b r R:=by
 cases r with
 |ok p st=>exact fun H1 b1 e S=>h p st H1 b1 e S (PostE.ext (show PostE K E H b (k p st) Q from P) e)
 |ex x st=>exact P
 |no=>exact P
theorem zU {lo hi:Option Expr} {flo fhi:FO} {p2:Pos} (h:VE X E e f) (hl:VO X E lo flo) (hh:VO X E hi fhi):VE X E (.Subscript e (.Slice lo hi none p2) pos) (yG f flo fhi) :=
 PE.imp (Jh (sl_tup.or qCg) h hl hh) fun s H Q ⟨b,r,st,S,R,P⟩=>⟨b,r,st,S,R,PostE.bind P fun p s1 u H1 b1 e1 S1 r1 P1=>⟨b1,r,s1,S1,R.ext e1,PostO.bind P1 fun k s2 H2 b2 e2 S2 P2=>⟨b2,r,s2,S2,(R.ext e1).ext e2,PostO.bind P2 fun m s3 H3 b3 e3 S3 P3=>by
  split at P3
  ·rename_i l
   have r3:=RV.ext e3 _ (RV.ext e2 _ r1)
   have r0:=r3
   unfold RV at r3
   obtain ⟨x,xs,rfl,h2,h3⟩:=r3
   have hlen:=h3.length
   by_cases hw:HT.sIx xs.length 0 k=0∧HT.sIx xs.length xs.length m=xs.length
   ·refine .inr ⟨x,xs,rfl,h2.sq,hw.1,hw.2,?_⟩
    have:QQ l k m=l:=by
     unfold QQ
     rw [hlen,hw.1,hw.2,List.drop_zero,Nat.sub_zero,← hlen,List.take_length]
    rw [this] at P3
    exact PostE.here P3 S3 r0
   ·refine .inl ⟨x,xs,rfl,h2.sq,hw,fun z hz => ?_⟩
    have hc:RVs X.K H3 b3 (QQ l k m) (Yb xs k m):=by
     unfold QQ Yb
     rw [hlen]
     exact (h3.drop _).take _
    exact PostE.layT P3 S3 hc hz
  ·exact P3.elim⟩⟩⟩
def WJ (fo f:FE):FS:=fun r st=>(fo r st).bindS fun o s1=>match o with
 | .ref n=>if lk s1 (.ref n)=true then (f r s1).bindS fun p s2=>match s2[n]? with
  |some (.l xs)=>if xs.length < sizeLine then .nx r (s2.set n (.l (xs++[p]))) else .no
  |_ => .no else .no
 |_ => .no
theorem yU {fo:FE} {o:Expr} {apos cpos:Pos} (ho:VE X E o fo) (h:VE X E e f) (hs:swapsWith (.Call (.Attribute o "append" apos) [e] [] cpos) none pos.line X.env=pure false:=by rfl)
  (hbase:attributeBase o "append" X.env (eval o X.env)=eval o X.env:=by rfl)
  (hfew:((backTo cpos (starEach [e] X.env)).all (fun x => !x.1)&&(backToKw cpos (keywordEach [] X.env)).all (fun x=>x.1.isSome)&&decide ([e].length + ([]:List Keyword).length + (if ([]:List Keyword).isEmpty then 0 else 1) < 30))=true:=by rfl)
  (hline:(apos.endLine==cpos.line)=true:=by rfl) (h1:starEach [e] X.env=(false,eval e X.env)::starEach [] X.env:=by rfl) (hplain:(backTo cpos (starEach [] X.env)).any (·.1)=false:=by rfl) :
  VS X E (.Expr (.Call (.Attribute o "append" apos) [e] [] cpos) pos) (WJ fo f) :=
 PS.imp (qBA (qFn PySem.F.plainAttrs_list PySem.F.slot_list_append PySem.F.type_list_append Y5 ho (yo h jK h1) hbase hfew hline h1 hplain) hs) fun D s H ⟨b,r,st,S,R,P⟩=>⟨b,r,st,S,R,PostE.bindS P fun o s1 u H1 b1 e1 S1 r1 P1=>by
  have key:∀ {n:Nat},o = .ref n->lk s1 (.ref n)=true->tyV X.K "list" u H1:=fun {n} ho hlk=>by
   subst ho
   unfold RV at r1
   obtain ⟨x,rfl,hx⟩:=r1
   have hl:n < s1.length:=by rw [← S1.len];exact (List.getElem?_eq_some_iff.mp hx).1
   obtain ⟨a',o',h3,h4,h5⟩:=S1.at_ n _ (List.getElem?_eq_getElem hl)
   rw [hx] at h3;cases h3
   cases hq:s1[n] with
   |l xs=>rw [hq] at h5;obtain ⟨vs,e,_⟩:=h5;subst e;exact .inl ⟨rfl,vs,SqL.of h4⟩
   |z xs=>unfold lk at hlk;dsimp only at hlk;rw [List.getElem?_eq_getElem hl,hq] at hlk;cases hlk
   |d xs=>unfold lk at hlk;dsimp only at hlk;rw [List.getElem?_eq_getElem hl,hq] at hlk;cases hlk
  cases o with
  |ref n =>
   have P1:PostS X.K E H1 b1 (if lk s1 (.ref n)=true then ((f r s1).bindS fun p s2=>match s2[n]? with |some (.l xs)=>if xs.length < sizeLine then .nx r (s2.set n (.l (xs++[p]))) else .no |_ => .no) else .no) D:=P1
   by_cases hlk:lk s1 (.ref n)=true
   rotate_left
   ·rw [if_neg hlk] at P1;exact P1.elim
   rw [if_pos hlk] at P1
   refine ⟨key rfl hlk,b1,r,s1,S1,R.ext e1,?_⟩
   cases eb:f r s1 with
   |no=>rw [eb] at P1;exact P1.elim
   |ex x s2=>rw [eb] at P1;exact P1
   |ok p s2 =>
    rw [eb] at P1
    intro v H2 b2 e2 S2 r2
    have P2:PostS X.K E H1 b1 (match s2[n]? with |some (.l xs)=>if xs.length < sizeLine then .nx r (s2.set n (.l (xs++[p]))) else .no |_ => .no) D:=P1
    split at P2
    ·rename_i xs ex
     split at P2
     ·rename_i hl
      have r1':=RV.ext e2 _ r1
      unfold RV at r1'
      obtain ⟨x,rfl,hx⟩:=r1'
      obtain ⟨x',o',h1,h2,vs,rfl,h4⟩:=S2.at_ n _ ex
      rw [hx] at h1;cases h1
      refine ⟨x,vs,v,rfl,rfl,h2,by rw [← h4.length];exact hl,?_⟩
      have hm:x∈b2.b:=List.mem_of_getElem? hx
      have ew:Ext H2 b2 (upd H2 x (.lst (vs++[v]))) b2:=Ext.wr hm S2.zb (qFx h2)
      exact P2 s _ b2 (e2.trans ew) (S2.wr (x := .l (xs++[p])) hx ⟨_,rfl,(RVs.ext ew xs h4).append (RVs.cons (RV.ext ew p r2) RVs.nil)⟩) (((R.ext e1).ext e2).ext ew)
     ·exact P2.elim
    ·exact P2.elim
  |_=>exact P1.elim⟩
def qBm (p:PV):List PV->Option Nat
 |[]=>none
 |q::qs=>if peq q p=true then some 0 else (qBm p qs).map (· + 1)
theorem Ys (p:PV):∀ {l:List PV} {j:Nat},qBm p l=some j->(∃ q,l[j]? = some q∧peq q p=true) ∧ ∀ m,m < j -> ∃ q,l[m]? = some q∧peq q p=false
 |[],_,h=>by cases h
 |q::qs,j,h=>by
  unfold qBm at h
  split at h
  ·rename_i hq;cases h;exact ⟨⟨q,rfl,hq⟩,fun m hm=>by omega⟩
  ·rename_i hq
   cases e:qBm p qs with
   |none=>rw [e] at h;cases h
   |some k =>
    rw [e] at h;cases h
    obtain ⟨⟨q',h1,h2⟩,h3⟩:=Ys p e
    refine ⟨⟨q',by simpa using h1,h2⟩,fun m hm => ?_⟩
    cases m with
    |zero=>exact ⟨q,rfl,by simpa using hq⟩
    |succ m=>obtain ⟨q2,h4,h5⟩:=h3 m (by have hm:m + 1 < k + 1:=hm;omega);exact ⟨q2,by simpa using h4,h5⟩
theorem qGm {pins:List (Addr×Obj)} {σ:L2.St} {H:Hp} {s:Shared} (I:L2.Inv X pins σ H s) {A:Around} {p:PV} {u:V} {uu:Value} (hp:RW X.K H p u) (ru:RelV u uu) (hA:A.units + 60 < cLine)
  {l:List PV} {xs:List V} {its:List Value} (hl:RWs X.K H l xs) (vl:Vals xs its) (hd:deps l≤qAK):∃ g:Value->Bool,(∀ y∈its,SeqAt.EqAt A s y uu (g y)) ∧ ∀ (i:Nat) (q:PV) (y:Value),l[i]? = some q->its[i]? = some y->g y=peq q p:=by
 classical
 have key:∀ (q:PV) (x:V) (y:Value),RW X.K H q x->RelV x y->decide (∃ q x,RW X.K H q x∧RelV x y∧peq q p=true)=peq q p:=fun q x y h1 h2=>by
  by_cases hb:peq q p=true
  ·rw [hb];exact decide_eq_true ⟨q,x,h1,h2,hb⟩
  ·rw [show peq q p=false by simpa using hb]
   refine decide_eq_false fun ⟨q',x',k1,k2,k3⟩=>hb ?_
   have ex:x'=x:=k2.inj h2
   subst ex
   rw [RW.det I q q' h1 k1];exact k3
 refine ⟨fun y=>decide (∃ q x,RW X.K H q x∧RelV x y∧peq q p=true),fun y hy => ?_,fun i q y hq hy => ?_⟩
 ·obtain ⟨i,hi⟩:=List.getElem?_of_mem hy
  obtain ⟨x,hx,rx⟩:=Vals.get2 vl hi
  obtain ⟨q,hq,rq⟩:=RWs.get' hl hx
  dsimp only
  rw [key q x y rq rx]
  exact qAr I 60 q p x u y uu A (Nat.le_trans (zt hq) hd) hA rq hp rx ru
 ·obtain ⟨x,hx,rx⟩:=Vals.get2 vl hy
  obtain ⟨q',hq',rq⟩:=RWs.get' hl hx
  rw [hq] at hq';cases hq'
  exact key q x y rq rx
theorem qCW (hr:X.A.units + 64 < cLine):MtM X "list.index" (fun x vs H Q => ∃ l xs a p v j,x = .ref a∧vs=[v]∧SqL X.K H a xs∧RWs X.K H l xs∧RW X.K H p v∧deps l≤qAK∧qBm p l=some j∧Q (.int j) H):=by
 intro pins s σ H x vs v us Q I rx rv h
 obtain ⟨l,xs,ad,p,y,j,rfl,rfl,hs,hl,hp,hd,hj,q⟩:=h
 cases rx
 obtain ⟨u,rfl,ru⟩:=rv.one
 obtain ⟨its,r',pl,hz⟩:=I.list hs
 obtain ⟨⟨c1,d1,a1,s1⟩,o1,e1,m1,f1⟩:=id pl.isList
 have e1:c1=_:=e1
 have f1:a1=_:=f1
 subst e1;subst f1
 have hA:X.A.in1.units + 60 < cLine:=by show X.A.units + 1 + 60 < cLine;omega
 obtain ⟨g,g1,g2⟩:=qGm I hp ru hA hl r' hd
 obtain ⟨⟨q1,k1,k2⟩,k3⟩:=Ys p hj
 have n1:l.length=its.length:=by rw [hl.length,r'.length]
 have jl:j < l.length:=(List.getElem?_eq_some_iff.mp k1).1
 have ji:j < its.length:=by rw [← n1];exact jl
 refine call_meets F.slot_list_index ⟨_,o1,rfl⟩ F.entry_list_index (F.args_list_index_2 _ _) (SeqAt.list_indexAt ad its.toArray m1 d1 s1 u g j (by simpa using ji) ?_ ?_ fun m hm hlt => ?_) ⟨o1,fun y hy=>g1 y (by simpa using hy),⟨.int j,H,I.tok _,⟨_,rfl⟩,q⟩⟩
 ·have:its.length≤sizeLine:=by rw [← r'.length];exact hz
  have h2:(sizeLine:Nat) < 2 ^ 62:=by decide
  omega
 ·rw [show its.toArray[j]=its[j] by simp,g2 j q1 _ k1 (List.getElem?_eq_getElem ji)];exact k2
 ·obtain ⟨q2,k4,k5⟩:=k3 m hlt
  have mi:m < its.length:=by simpa using hm
  rw [show its.toArray[m]=its[m] by simp,g2 m q2 _ k4 (List.getElem?_eq_getElem mi)];exact k5
def qHo (fo f:FE):FE:=fun r st=>(fo r st).bind fun o s1=>match asL s1 o with
 |some _=>(f r s1).bind fun p s2=>match asL s2 o with
  |some l=>if nrs l=true∧nr p=true∧deps l≤qAK then (match qBm p l with |some j => .ok (.int j) s2 |none => .no) else .no
  |none => .no
 |none => .no
theorem qDr {fo:FE} {o:Expr} {apos cpos:Pos} (hr:X.A.units + 64 < cLine) (ho:VE X E o fo) (h:VE X E e f) (hbase:attributeBase o "index" X.env (eval o X.env)=eval o X.env:=by rfl)
  (hfew:((backTo cpos (starEach [e] X.env)).all (fun x => !x.1)&&(backToKw cpos (keywordEach [] X.env)).all (fun x=>x.1.isSome)&&decide ([e].length + ([]:List Keyword).length + (if ([]:List Keyword).isEmpty then 0 else 1) < 30))=true:=by rfl)
  (hline:(apos.endLine==cpos.line)=true:=by rfl) (h1:starEach [e] X.env=(false,eval e X.env)::starEach [] X.env:=by rfl) (hplain:(backTo cpos (starEach [] X.env)).any (·.1)=false:=by rfl) :
  VE X E (.Call (.Attribute o "index" apos) [e] [] cpos) (qHo fo f) :=
 PE.imp (qFn PySem.F.plainAttrs_list PySem.F.slot_list_index PySem.F.type_list_index (qCW hr) ho (yo h jK h1) hbase hfew hline h1 hplain) fun s H Q ⟨b,r,st,S,R,P⟩=>⟨b,r,st,S,R,PostE.bind P fun o s1 u H1 b1 e1 S1 r1 P1=>by
  split at P1
  ·rename_i l1 el1
   obtain ⟨x,xs,rfl,h2,h3⟩:=QX S1 r1 el1
   refine ⟨.inl ⟨rfl,xs,h2⟩,b1,r,s1,S1,R.ext e1,PostE.bind P1 fun p s2 v H2 b2 e2 S2 r2 P2 => ?_⟩
   split at P2
   ·rename_i l el
    split at P2
    ·rename_i hc
     split at P2
     ·rename_i j hj
      obtain ⟨x',ys,ex,h4,h5⟩:=QX S2 (RV.ext e2 o r1) el
      cases ex
      exact ⟨l,ys,x,p,v,j,rfl,rfl,h4,RVs.rws l hc.1 h5,RV.rw p hc.2.1 r2,hc.2.2,hj,PostE.here P2 S2 Qr⟩
     ·exact P2.elim
    ·exact P2.elim
   ·exact P2.elim
  ·exact P1.elim⟩
def zP:List PV->List PV->List PV
 |x::l,y::m => .tup [x,y]::zP l m
 |_,_=>[]
theorem Zw:∀ {l m:List PV} {i:Nat} {p:PV},(zP l m)[i]? = some p -> ∃ x y,l[i]? = some x∧m[i]? = some y∧p = .tup [x,y]
 |[],_,_,_,h=>by simp [zP] at h
 |_::_,[],_,_,h=>by simp [zP] at h
 |x::l,y::m,0,p,h=>⟨x,y,rfl,rfl,by simpa [zP] using h.symm⟩
 |x::l,y::m,i + 1,p,h=>by
  obtain ⟨u,v,h1,h2,h3⟩:=Zw (l:=l) (m:=m) (i:=i) (p:=p) (by simpa [zP] using h)
  exact ⟨u,v,by simpa using h1,by simpa using h2,h3⟩
theorem Z5:∀ (l m:List PV),(zP l m).length=min l.length m.length
 |[],m=>by simp [zP]
 |_::_,[]=>by simp [zP]
 |x::l,y::m=>by simp [zP,Z5 l m]
def qFo (ps:List PV) (st:qC):Rs ItP:=match ps with
 |[p,q]=>match asL st p,asL st q with
  |some l,some m => .ok ⟨zP l m,fun s=>asL s p=some l∧asL s q=some m⟩ st
  |_,_ => .no
 |_ => .no
def qAL (t:FA):FI:=fun r st=>(t r st).bind qFo
theorem qGa {elts:List Expr} {n:Nat} {tpos p:Pos} {t:FA} (hc:X.calm=true) (hm:X.mg "zip" = none) (ha:VA X E [a,c] t) (hg:Gl X "zip" := by rfl) (he:starEach [a,c] X.env=(false,eval a X.env)::starEach [c] X.env:=by rfl) (hpl:(backTo pos (starEach [c] X.env)).any (·.1)=false:=by rfl) :
  VI X E (.Tuple elts n tpos) (.Call (.Name "zip" p) [a,c] [] pos) (qAL t):=fun pins s σ H R I q=>qGW hc hg hm ha he hpl pins s σ H R I (by
 obtain ⟨b,r,st,S,RE,P⟩:=q
 refine ⟨b,r,st,S,RE,PostA.bindI P fun l s1 us H1 b1 e1 S1 r1 P1 => ?_⟩
 unfold qFo at P1
 split at P1
 ·rename_i p q
  obtain ⟨u,v,rfl,h1,h2⟩:=RVs.two r1
  split at P1
  ·rename_i l m el em
   obtain ⟨x,xs,rfl,k1,k2⟩:=QX S1 h1 el
   obtain ⟨y,ys,rfl,k3,k4⟩:=QX S1 h2 em
   refine ⟨x,y,rfl,⟨xs,k1⟩,⟨ys,k3⟩,P1 _ H1 b1 (Ext.refl _ _) S1 fun H2 b2 st2 e2 S2 g2 => ?_⟩
   obtain ⟨x',xs',ex,j1,j2⟩:=QX S2 (RV.wext e2 p h1) g2.1
   cases ex
   obtain ⟨y',ys',ey,j3,j4⟩:=QX S2 (RV.wext e2 q h2) g2.2
   cases ey
   refine ⟨fun i w hw => ?_,fun i hi => ?_⟩
   ·obtain ⟨x1,y1,w1,w2,rfl⟩:=Zw hw
    obtain ⟨v1,z1,z2⟩:=j2.get w1
    obtain ⟨v2,z3,z4⟩:=j4.get w2
    refine ⟨⟨xs',ys',v1,v2,j1,j3,z1,z3⟩,fun z H3 ⟨T,a1,a2,hn,hz,hH,ha⟩ => ?_⟩
    subst hz;subst hH
    obtain ⟨q1,q2⟩:=ha xs' ys' j1 j3
    rw [z1] at q1;cases q1
    rw [z3] at q2;cases q2
    refine ⟨fun b' o h=>by rw [qQ (qO h hn)];exact h,S2.new hn,?_⟩
    unfold RV
    exact ⟨T,_,rfl,.inl ⟨QD,S2.new_notin hn⟩,RVs.cons (RV.wext (WE.new hn) _ z2) (RVs.cons (RV.wext (WE.new hn) _ z4) RVs.nil)⟩
   ·have hi:min l.length m.length≤i:=by rw [← Z5];exact hi
    exact ⟨xs',ys',j1,j3,by rw [← j2.length,← j4.length];omega⟩
  ·exact P1.elim
 ·exact P1.elim)
def qIZ (i:Int):Str:=toString i
def qEQ (f:FE):FE:=fun r st=>(f r st).bind fun p s=>match p with
 | .int i=>if i.natAbs.log2 < 1920 then .ok (.str (qIZ i)) s else .no
 |_ => .no
theorem qAV (h:VE X E e f):VE X E (.FormattedValue e (-1) none pos) (qEQ f):=PE.imp (qGQ h) fun s H Q ⟨b,r,st,S,R,P⟩=>⟨b,r,st,S,R,PostE.bind P fun p s1 u H1 b1 e1 S1 r1 P1=>by
 split at P1
 ·rename_i i
  split at P1
  ·rename_i hi
   unfold RV at r1
   exact ⟨i,r1,hi,PostE.here P1 S1 (by unfold RV;rfl)⟩
  ·exact P1.elim
 ·exact P1.elim⟩
def vJ:List FE->Str->q9->qC->Rs PV
 |[],out,_,st=>if out.length≤sizeLine then .ok (.str out) st else .no
 |f::fs,out,r,st=>(f r st).bind fun p s=>match p with
  | .str y=>if (out++y).length≤sizeLine then vJ fs (out++y) r s else .no
  |_ => .no
def VJ (X:Cx) (E:XK) (es:List Expr) (fs:List FE):Prop:=PJ X es (fun out σ H Q => ∃ b r st,SR X.K H b st∧REnv X.K H b r σ∧PostE X.K E H b (vJ fs out r st) (fun v H' => ∃ x,v = .str x∧Q x H'))
theorem qCV:VJ X E [] []:=fun out pins s σ H Q I ⟨b,r,st,S,R,P⟩=>qGi out pins s σ H Q I (by
 unfold vJ at P
 split at P
 ·rename_i h
  obtain ⟨x,e,q⟩:=PostE.here P S (by unfold RV;rfl)
  cases e
  exact ⟨h,q⟩
 ·exact P.elim)
theorem Wl {fs:List FE} (h1:VE X E e f) (h2:VJ X E es fs):VJ X E (e::es) (f::fs):=fun out pins s σ H Q I ⟨b,r,st,S,R,P⟩=>qFH h1 h2 out pins s σ H Q I (by
 unfold vJ at P
 refine ⟨b,r,st,S,R,PostE.bind P fun p s1 u H1 b1 e1 S1 r1 P1 => ?_⟩
 split at P1
 ·rename_i y
  split at P1
  ·rename_i h
   unfold RV at r1
   exact ⟨y,r1,h,b1,r,s1,S1,R.ext e1,P1⟩
  ·exact P1.elim
 ·exact P1.elim)
theorem qBL {e1 e2:Expr} {fs:List FE} (h:VJ X E (e1::e2::es) fs):VE X E (.JoinedStr (e1::e2::es) pos) (vJ fs Str.empty):=fun pins s σ H Q I ⟨b,r,st,S,R,P⟩=>qEF h pins s σ H Q I ⟨b,r,st,S,R,by
 cases e:vJ fs Str.empty r st with
 |ex x s1=>rw [e] at P;exact P
 |no=>rw [e] at P;exact P
 |ok p s1 =>
  rw [e] at P
  intro v H' b' e' S' r'
  have q:=P v H' b' e' S' r'
  have hp:∃ y,p = .str y:=by
   have key:∀ (fs:List FE) (out:Str) (st:qC) (p:PV) (s1:qC),vJ fs out r st = .ok p s1 -> ∃ y,p = .str y:=by
    intro fs
    induction fs with
    |nil=>intro out st p s1 h;unfold vJ at h;split at h;(cases h;exact ⟨_,rfl⟩);cases h
    |cons g gs ih =>
     intro out st p s1 h
     unfold vJ at h
     cases eg:g r st with
     |no=>rw [eg] at h;cases h
     |ex x s2=>rw [eg] at h;cases h
     |ok p2 s2 =>
      rw [eg] at h
      dsimp only [Rs.bind] at h
      split at h
      ·split at h
       ·exact ih _ _ _ _ h
       ·cases h
      ·cases h
   exact key _ _ _ _ _ e
  obtain ⟨y,rfl⟩:=hp
  unfold RV at r'
  exact ⟨y,r',by rw [r'] at q;exact q⟩⟩
theorem QI {P:Program} {w:World} (X:Cx):zn (CXF P w) X E0:=fun pins σ H s e s' I h=>by
 obtain ⟨_,_,_,_,_,_,_,_,_,_,_,_,q⟩:=h
 exact q.elim
def QR (i:Nat):FG:=fun p r=>match r[i]? with
 |some none=>some (r.set i (some p))
 |_=>none
theorem qA6 {i:Nat} {p:PV} {r r':q9} (h:QR i p r=some r'):r[i]? = some none∧r'=r.set i (some p):=by
 unfold QR at h
 split at h
 ·rename_i e;cases h;exact ⟨e,rfl⟩
 ·cases h
theorem QS (i:Nat) {x:Str} (hN:X.N.Nodup) (hi:X.N[i]? = some x:=by rfl) (hx:Loc X.env.scope x:=by first |exact Or.inl rfl |exact Or.inr rfl) (hf:X.fn x=true∨X.env.scope.names.lookup x=some .local:=by first |exact .inl rfl |exact .inr rfl |assumption):VG X (.Name x pos) (QR i) :=
 PG.imp (Q7 i hN hi hx hf) fun v s H Q ⟨b,r,p,st,S,R,rv,r',e,q⟩=>⟨b,r,p,st,S,R,rv,r',by rw [(qA6 e).2];rfl,q⟩
theorem Le.refl (r:q9):Le r r:=⟨rfl,fun _ _ h=>h⟩
theorem Le.trans {r r1 r2:q9} (h:Le r r1) (g:Le r1 r2):Le r r2:=⟨h.1.trans g.1,fun i p e=>g.2 i p (h.2 i p e)⟩
theorem qc (i:Nat):qBF (QR i):=fun p r r' h=>by
 obtain ⟨h1,rfl⟩:=qA6 h
 refine ⟨by simp,fun j q e => ?_⟩
 by_cases hj:i=j
 ·subst hj;rw [h1] at e;cases e
 ·rw [List.getElem?_set_ne hj];exact e
def jf (g:FGs):Prop := ∀ p r r',g p r=some r'->Le r r'
theorem W2:jf WW:=fun p r r' h=>by
 unfold WW at h
 split at h
 ·cases h;exact Le.refl _
 ·cases h
theorem Qk {g:FG} {gs:FGs} (h1:qBF g) (h2:jf gs):jf (qp g gs):=fun p r r' h=>by
 unfold qp at h
 split at h
 ·split at h
  ·rename_i r1 e;exact (h1 _ _ _ e).trans (h2 _ _ _ h)
  ·cases h
 ·cases h
theorem W3 {n:Nat} {gs:FGs} (h1:jf gs):qBF (WS n gs):=fun p r r' h=>by
 unfold WS at h
 split at h
 ·split at h
  ·exact h1 _ _ _ h
  ·cases h
 ·cases h
theorem max_at {ns:List Int} {m:Int} {i:Nat} (hm:ns.max? = some m) (hi:i≤ns.length - 1) (h:∀ j,j≤ns.length - 1->ns.getD j 0≤ns.getD i 0):ns.getD i 0=m:=by
 have hne:ns≠[]:=by intro z;subst z;cases hm
 have hl:0 < ns.length:=List.length_pos_iff.mpr hne
 obtain ⟨h1,h2⟩:=List.max?_eq_some_iff.mp hm
 have hil:i < ns.length:=by omega
 have e1:ns.getD i 0=ns[i]:=by simp [List.getD_eq_getElem?_getD,hil]
 have a1:ns.getD i 0≤m:=by rw [e1];exact h2 _ (List.getElem_mem hil)
 obtain ⟨j,hj,rfl⟩:=List.mem_iff_getElem.mp h1
 have:=h j (by omega)
 have e2:ns.getD j 0=ns[j]:=by simp [List.getD_eq_getElem?_getD,hj]
 omega
end
structure DefG (P:Program) (w:World) (K:W.Frag) (mg:Str->Option Value) (base:Heap) (k:Nat) (x:Str) (fa:Addr) (n:Nat) (g:List PV->qC->Rs PV):Prop where
 ok:∃ fd ps,ps.length=n∧FnOk P w K mg base (CXF P w) k fa fd ps (spG K ps.length g)∧L2.Binds K fd ps [] ∧ ∀ l st,g l st ≠ .no->l.length=ps.length
 mg:mg x=some (.ref fa)
 kp:PySem.W.keepIn K (.ref fa)=true
section
variable {X:Cx} {E:XK} {e a c d:Expr} {es:List Expr} {f fa fb fc:FE} {fl:FL} {pos:Pos} {F G:FS}
theorem DefG.call {k n:Nat} {x:Str} {fa:Addr} {g:List PV->qC->Rs PV} (D:DefG X.prog X.w X.K X.mg X.base k x fa n g) (hr:Room k X.A) (hx:zn (CXF X.prog X.w) X E) (hg:Gl X x:=by rfl) (hdb:(x==("__debug__":Str))=false:=by decide):qGS X E x g:=by
 obtain ⟨fd,ps,_,F,B,hl⟩:=D.ok
 exact qIP (n:=n) F hr hg D.mg D.kp B hx hl hdb
end
def QB (n N:Nat) (B:FS):List PV->qC->Rs PV:=fun l st=>if l.length=n then qEe (B (QV N l) st) else .no
theorem qd {n N:Nat} {B:FS} {l:List PV} {st:qC} (h:QB n N B l st ≠ .no):l.length=n:=by
 unfold QB at h
 split at h
 ·assumption
 ·exact absurd rfl h
section
variable {X:Cx} {E:XK} {e a c d:Expr} {f fa fb fc:FE} {pos:Pos}
def yP (f:FE):FE:=fun r st=>(f r st).bind fun p s=>match p with
 | .int i => .ok (.int (-i)) s
 |_ => .no
theorem zc (h:VE X E e f):VE X E (.UnaryOp .USub e pos) (yP f):=PE.imp (qIJ qGq h) fun s H Q ⟨b,r,st,S,R,P⟩=>⟨b,r,st,S,R,PostE.bind P fun p s1 u H1 b1 e1 S1 r1 P1=>by
 split at P1
 ·rename_i i
  unfold RV at r1
  exact ⟨i,r1,PostE.here P1 S1 Qr⟩
 ·exact P1.elim⟩
end
theorem qEh {k:Nat} {A:Around} {v:Option Value} (h:Room k A) (hk:1≤k:=by omega):Room 1 (A.mark v) :=
 ⟨fun z=>absurd z (by decide),by have:=h.dp;show A.depth + 3 * 1 + 5 < recursionLimit;omega,by have:=h.un;show A.units + 16 * 1 + 200 < cLine;omega,h.gd⟩
theorem qb {n N m:Nat} {B:FS} {l:List PV} {s0:qC} (hl:l.length=n):Refn m (qEe (B (QV N l) s0)) (QB n N B l s0):=by
 unfold QB;rw [if_pos hl];exact Refn.refl
section
variable {P:Program} {w:World} {K:W.Frag} {mg:Str->Option Value} {base:Heap}
theorem Q9 {x:Str} {st:Stmt} {fa:Addr} {fd:FuncData} {N ps:List Str} {k:Nat} {B:FS} {g:List PV->qC->Rs PV} (F:Fun K x x st fa fd) (S:FnScope N ps (qK st)) (b:L2.Binds K fd ps []) (m:mg x=some (.ref fa)) (hlen:∀ l s,g l s ≠ .no->l.length=ps.length)
  (body:∀ (cdv:Value) (A:Around) (outer:List Env) (s:Shared) (H:Hp) (E:XK),Room k (A.deeper (envOfC x (qK st) s.heap.objs.size fa cdv))->(0 < k->A.handled=none)->VSs (wU (CXF P w) P w K mg base N x (qK st) fa cdv A outer s H E) E (qe st) B)
  (hg:∀ l s0,l.length=ps.length->g l s0 ≠ .no->Refn s0.length (qEe (B (QV N.length l) s0)) (g l s0)):DefG P w K mg base (k + 1) x fa ps.length g :=
 ⟨⟨fd,ps,rfl,okV F S fun cdv A outer s H E hr hc=>⟨B,body cdv A outer s H E hr hc,hg⟩,b,hlen⟩,m,F.kp⟩
theorem qF8 {x:Str} {st:Stmt} {fa:Addr} {fd:FuncData} {ps:List Str} {k:Nat} {g:List PV->qC->Rs PV} (F:Fun K x x st fa fd) (b:L2.Binds K fd ps []) (m:mg x=some (.ref fa)) (hg:∀ l s,g l s = .no):DefG P w K mg base k x fa ps.length g:=by
 have no:∀ vs H Q E,¬ spG K ps.length g vs H Q E:=fun vs H Q E ⟨_,b,l,st,_,_,h⟩=>by rw [hg] at h;exact h
 exact ⟨⟨fd,ps,rfl,⟨fun vs H Q E h=>absurd h (no vs H Q E),fun A outer s H args us vs Q E _ _ _ _ h=>absurd h (no vs H Q E)⟩,b,fun l s h=>absurd (hg l s) h⟩,m,F.kp⟩
end
section
variable {X:Cx} {E:XK} {es:List Expr} {f:FE} {g:FA} {pos:Pos}
theorem qW {c:Const} {j:Nat} (h:VE X E (.Constant c j pos) f) (h2:VA X E es g):VA X E (.Constant c j pos::es) (qA f g):=Qy h h2 rfl
theorem qP {x:Str} (h:VE X E (.Name x pos) f) (h2:VA X E es g):VA X E (.Name x pos::es) (qA f g):=Qy h h2 rfl
theorem Wt {a b c} (h:VE X E (.Call a b c pos) f) (h2:VA X E es g):VA X E (.Call a b c pos::es) (qA f g):=Qy h h2 rfl
theorem Wi {a b c} (h:VE X E (.BinOp a b c pos) f) (h2:VA X E es g):VA X E (.BinOp a b c pos::es) (qA f g):=Qy h h2 rfl
theorem Q2 {a b} (h:VE X E (.Tuple a b pos) f) (h2:VA X E es g):VA X E (.Tuple a b pos::es) (qA f g):=Qy h h2 rfl
theorem qGc {a} (h:VE X E (.List a pos) f) (h2:VA X E es g):VA X E (.List a pos::es) (qA f g):=Qy h h2 rfl
theorem qAQ {a b} (h:VE X E (.Subscript a b pos) f) (h2:VA X E es g):VA X E (.Subscript a b pos::es) (qA f g):=Qy h h2 rfl
theorem qEz {a b} (h:VE X E (.UnaryOp a b pos) f) (h2:VA X E es g):VA X E (.UnaryOp a b pos::es) (qA f g):=Qy h h2 rfl
theorem qIu {a b c} (h:VE X E (.Compare a b c pos) f) (h2:VA X E es g):VA X E (.Compare a b c pos::es) (qA f g):=Qy h h2 rfl
theorem yi {a b c} (h:VE X E (.ListComp a b c pos) f) (h2:VA X E es g):VA X E (.ListComp a b c pos::es) (qA f g):=Qy h h2 rfl
theorem qHT {a} (h:VE X E (.JoinedStr a pos) f) (h2:VA X E es g):VA X E (.JoinedStr a pos::es) (qA f g):=Qy h h2 rfl
theorem qIw {a b c} (h:VE X E (.IfExp a b c pos) f) (h2:VA X E es g):VA X E (.IfExp a b c pos::es) (qA f g):=Qy h h2 rfl
theorem qIx {a b} (h:VE X E (.BoolOp a b pos) f) (h2:VA X E es g):VA X E (.BoolOp a b pos::es) (qA f g):=Qy h h2 rfl
end
section
variable {X:Cx} {E:XK} {e a c d:Expr} {es:List Expr} {f fa fb fc:FE} {pos:Pos}
def qDO:PV->Bool
 | .non=>true
 |_=>false
theorem Jp {K:W.Frag} {H:Hp} {b:Bz} {p:PV} {u:V} (r:RV K H b p u):decide (u = .non)=qDO p:=by
 cases p with
 |non=>unfold RV at r;subst r;rfl
 |bl x=>unfold RV at r;subst r;rfl
 |int x=>unfold RV at r;subst r;rfl
 |str x=>unfold RV at r;subst r;rfl
 |tup l=>unfold RV at r;obtain ⟨a,xs,rfl,_⟩:=r;rfl
 |lst l=>unfold RV at r;obtain ⟨a,xs,rfl,_⟩:=r;rfl
 |ref i=>unfold RV at r;obtain ⟨a,rfl,_⟩:=r;rfl
 |dct=>unfold RV at r;obtain ⟨a,rfl,_⟩:=r;rfl
 |ty n=>unfold RV at r;subst r;rfl
 |fn n=>unfold RV at r;subst r;rfl
 |exc x y=>unfold RV at r;obtain ⟨a,o,u,rfl,_⟩:=r;rfl
def yf (neg:Bool):PV->PV->qC->Rs PV:=fun p q st=>match q with
 | .non => .ok (.bl (if neg then !qDO p else qDO p)) st
 |_ => .no
theorem qFl:OpG X E (fun x y H Q=>y = .non∧Q (.bl (decide (x = .non))) H) (yf false):=by
 intro H b st p q u v Q S rp rq P
 unfold yf at P
 split at P
 ·unfold RV at rq
  refine ⟨rq,?_⟩
  rw [Jp rp]
  exact PostE.here P S WX
 ·exact P.elim
theorem JF:OpG X E (fun x y H Q=>y = .non∧Q (.bl (!decide (x = .non))) H) (yf true):=by
 intro H b st p q u v Q S rp rq P
 unfold yf at P
 split at P
 ·unfold RV at rq
  refine ⟨rq,?_⟩
  rw [Jp rp]
  exact PostE.here P S WX
 ·exact P.elim
end
section
variable {X:Cx} {E:XK} {e a c d:Expr} {es:List Expr} {f fa fb fc:FE} {fl:FL} {pos:Pos} {F G:FS}
theorem qF5:VE X E (.Dict [] [] pos) (vC .dct):=PE.imp qDQ fun s H Q ⟨b,r,st,S,R,P⟩ p hp=>by
 refine P (.ref p) _ b (Ext.new hp) (S.new hp) ?_
 unfold RV
 exact ⟨p,rfl,QD,S.new_notin hp⟩
end
section
variable {X:Cx} {E:XK} {es:List Expr} {f:FE} {g:FA} {pos:Pos}
theorem qIh {a b} (h:VE X E (.Dict a b pos) f) (h2:VA X E es g):VA X E (.Dict a b pos::es) (qA f g):=Qy h h2 rfl
end
end EV
end
section
namespace Att
open PySem PySem.W PySem.Calls PyProof.Rows
theorem YO:∀ {ns:List Int} {n:Int},n∈ns->WData.weight (.int n)≤WData.weightAll (ns.map WData.int)
 |m::ns,n,h=>by
  show _≤WData.weight (.int m) + 1 + WData.weightAll (ns.map WData.int)
  rcases List.mem_cons.mp h with rfl |h
  ·omega
  ·have:=YO h;omega
theorem JE {ns:List Int} (h:WData.layableAll [WData.list (ns.map WData.int)]=true):∀ n∈ns,Builtin.Int.intBits n≤2 ^ 20:=by
 intro n hn
 unfold WData.layableAll at h
 have h1:WData.layable (WData.list (ns.map WData.int))=true:=by simpa using h
 unfold WData.layable at h1
 rw [Bool.and_eq_true] at h1
 have h2:WData.weight (WData.list (ns.map WData.int))≤2 ^ 20:=of_decide_eq_true h1.2
 have h3:WData.weightAll (ns.map WData.int)≤2 ^ 20:=h2
 exact Nat.le_trans (YO hn) h3
theorem attach_callB {l:OpenLaw} {n:Nat} {q:Program} {loose:List Str} {XP:(Str->Option Value)->Heap->Prop} {YP:World->Heap->Prop} {d:DefRec}
  (hn:l.most=some n) (hdf:d.params.defaults=[])
  (call:∀ (w:World) (s₀ s₁:Shared) (mg mb:Str->Option Value) (fa:Addr) (o:Obj) (pm cd doc:Value) (a:Addr) (vs:List Value) (ns:List Int),
   Ground q loose [] XP w s₀ mg mb s₁.heap->YP w s₁.heap ->
   s₁.heap.get? fa=some o->o.data = .func (docDef d.name d.params d.body d.scope pm cd doc)->s₁.heap.CodeRec cd d.name->mg d.name=some (.ref fa) ->
   s₁.heap.get? a=some { cls := .type "list",data := .seq vs.toArray }->IntsAre vs ns->ns.length≤n->(∀ k∈ns,Builtin.Int.intBits k≤2 ^ 20)->s₁.gens = #[] ->
   codeAny (model l.prog w) callerA (.call (.ref fa) ⟨[.ref a],[]⟩) (fun r s'=>r = .ok (.ret (.bool true))∧OldK s₁.heap s'.heap∧s'.os=s₁.os∧AllBare s'.gens) s₁) :
  WalkO q loose XP YP l.row.toRowW d [] (fun f vs=>PySem.call f vs):=by
 intro w s₀ s₁ mg mb G Y fa o pm cd doc dV kV ho hd hcd hD hmg hg args vals as hpre hlay hrd hwl hlo
 obtain rfl:dV = .none:=Dflts.none hD hdf
 obtain rfl:kV = .none:=Dflts.noKw hD
 obtain ⟨a,vs,ns,rfl,rfl,hobj,hints,hlen⟩:=qBb hn hpre hwl
 refine enter_call (codeAny_mono (call w s₀ s₁ mg mb fa o pm cd doc a vs ns G Y ho (fd_plain hd) hcd hmg hobj hints hlen (JE hlay) hg) fun r s' hq => ?_)
 obtain ⟨rfl,h2,h3,h4⟩:=hq
 exact ⟨.inl ⟨.bool true,.bool true,[],rfl,fun _=>rfl,.bool true,qBy l _,fun _=>⟨List.Pairwise.nil,fun _ hm=>(nomatch hm)⟩⟩,h2,h3,h4⟩
end Att
end
section
namespace EX
open PySem PySem.Spec PyProof.Rows L2
section
variable {X:Cx} {pins:List (Addr×Obj)} {σ:L2.St} {H:Hp} {s:Shared}
theorem qAZ (I:L2.Inv X pins σ H s) {p:Addr} {its:List Value} (pl:IsTup s.heap p its.toArray) {E:Value->Shared->Prop} {Q:Value->Shared->Prop}
  (h:Walks X.prog X.w X.A.in1 s.heap.objs.size (s.heap.objs.size::p::ZV X.A) [s.heap.objs.size] its.toArray.size (fun i v=>its.toArray[i]? = some v) (fun i h=>(h.IsTupleIter s.heap.objs.size p i∧h.IsTuple p its.toArray)∧Hnd X.A.in1 h) ->
   ((s.heap.push { cls := .type "tuple_iterator",data := .fields #[.ref p,.int 0 0] }).IsTupleIter s.heap.objs.size p 0∧(s.heap.push { cls := .type "tuple_iterator",data := .fields #[.ref p,.int 0 0] }).IsTuple p its.toArray)∧Hnd X.A.in1 (s.heap.push { cls := .type "tuple_iterator",data := .fields #[.ref p,.int 0 0] }) ->
   (∀ b∈s.heap.objs.size::p::ZV X.A,b < (s.heap.push { cls := .type "tuple_iterator",data := .fields #[.ref p,.int 0 0] }).objs.size) ->
   (∀ h':Heap,(∀ b o,b ∉ [s.heap.objs.size]->(s.heap.push { cls := .type "tuple_iterator",data := .fields #[.ref p,.int 0 0] }).get? b=some o->h'.get? b=some o) -> ∀ b o,s.heap.get? b=some o->h'.get? b=some o) ->
   Q (.ref s.heap.objs.size) { s with heap:=s.heap.push { cls := .type "tuple_iterator",data := .fields #[.ref p,.int 0 0] } }) :
  wpAny (model X.prog X.w) X.A.in1 (pyIter (.ref p)) Q E s:=by
 obtain ⟨ob,po,_⟩:=id pl
 have hlt:p < s.heap.objs.size:=Heap.lt_size po
 refine wpAny_pyIter_tuple pl (h (JJ _ p (Nat.ne_of_lt hlt) _ (qFU I)) ⟨⟨⟨_,Heap.get?_push_size _ rfl,rfl,rfl⟩,(show s.heap.IsTuple p its.toArray from pl).at fun o e=>Heap.get?_push_of_some _ e⟩,?_⟩ (fun b hb => ?_) fun h' k b o e => ?_)
 ·exact Hnd.frame (show Hnd X.A.in1 s.heap from I.hndH) fun b _ o e=>Heap.get?_push_of_some _ e
 ·rw [Heap.size_push]
  rcases List.mem_cons.mp hb with rfl |hb
  ·exact Nat.lt_succ_self _
  ·rcases List.mem_cons.mp hb with rfl |hb
   ·exact Nat.lt_succ_of_lt hlt
   ·have hd:X.A.handled=some (.ref b):=by
     unfold ZV at hb
     split at hb
     ·rename_i a ha;rw [List.mem_singleton.mp hb];exact ha
     ·cases hb
    obtain ⟨a,oe,vs,e1,e2,_⟩:=I.hndH _ hd
    cases e1
    exact Nat.lt_succ_of_lt (Heap.lt_size e2)
 ·exact k b o (by simp;exact Nat.ne_of_lt (Heap.lt_size e)) (Heap.get?_push_of_some _ e)
theorem qCD:WH X (.builtin "sum") (fun xs H Q => ∃ (p:Addr) (ns:List Int),xs=[.ref p]∧SqT X.K H p (ns.map V.int)∧Q (.int ns.sum) H):=by
 intro pins s σ H xs us Q I r h
 obtain ⟨p,ns,rfl,hq,q⟩:=h
 obtain ⟨u,rfl,rx⟩:=ZF r
 cases rx
 obtain ⟨its,r',pl,hz⟩:=I.tuple hq
 have hl:=r'.length
 refine call_sum_walkAnyS (qAZ I pl fun W st fp k=>⟨_,_,_,_,_,_,_,fun i=>ns.getD i 0,rfl,W.toS,st,fp,fun i v hv=>zr r' (by simpa using hv),fun s' t' m => ?_⟩)
 have hsz:its.toArray.size=ns.length:=by rw [List.size_toArray,← hl,List.length_map]
 rw [hsz,zi ns _ (Nat.le_refl _),List.take_length]
 obtain ⟨hh,g,d,t,o⟩:=s'
 have g1:g=s.gens:=m.gens
 have d1:d=s.drawn:=m.drawn
 have o1:o=s.os:=m.os
 subst g1;subst d1;subst o1
 exact ⟨.int _,H,I.kept (k hh fun b o hb e=>m.heap b o hb e),⟨t',rfl⟩,q⟩
theorem qBd:WH X (.builtin "max") (fun xs H Q => ∃ (p:Addr) (ns:List Int) (m:Int),xs=[.ref p]∧SqL X.K H p (ns.map V.int)∧ns.max? = some m∧Q (.int m) H):=by
 intro pins s σ H xs us Q I r h
 obtain ⟨p,ns,m,rfl,hq,hm,q⟩:=h
 obtain ⟨u,rfl,rx⟩:=ZF r
 cases rx
 obtain ⟨its,r',pl,hz⟩:=I.list hq
 have hl:=r'.length
 rw [List.length_map] at hl
 have hne:ns≠[]:=by intro z;subst z;cases hm
 have hpos:0 < ns.length:=List.length_pos_iff.mpr hne
 have hsz:its.toArray.size=ns.length:=by rw [List.size_toArray,← hl]
 refine call_max_walk (ZS I pl fun W st fp k=>⟨_,_,_,_,_,_,_,rfl,W,st,fp,by rw [hsz];exact hpos,CmpOf.ints_gt (fun i=>ns.getD i 0) fun i v hv=>zr r' (by simpa using hv),fun v h' tk hv hk => ?_⟩)
 rw [hsz] at hv
 rw [List.getElem?_toArray] at hv
 obtain ⟨t,rfl⟩:=zr r' hv
 obtain ⟨g1,g2⟩:=argBest_gt (fun i=>ns.getD i 0) (ns.length - 1)
 rw [EV.max_at hm g1 g2]
 exact ⟨.int m,H,I.kept (t':=tk) (k h' hk),⟨t,rfl⟩,q⟩
end
end EX
namespace EV
open PySem PySem.Spec PyProof.Rows L2 EX
section
variable {X:Cx} {E:XK} {e a c d:Expr} {es:List Expr} {f fa fb fc:FE} {fl:FL} {pos:Pos} {F G:FS}
def y0:List PV->qC->Rs PV:=fun ps st=>match ps with
 |[.tup l]=>match WI jd l with
  |some ns => .ok (.int ns.sum) st
  |none => .no
 |_ => .no
theorem qBD {ta:FA} {p:Pos} (ha:VA X E (e::es) ta) (hm:X.mg "sum" = none) (hg:Gl X "sum" := by rfl) (he:starEach (e::es) X.env=(false,eval e X.env)::starEach es X.env:=by rfl) (hpl:(backTo pos (starEach es X.env)).any (·.1)=false:=by rfl):VE X E (.Call (.Name "sum" p) (e::es) [] pos) (qI y0 ta) :=
 wT qCD (fun H b st ps vs Q S r P=>by
  unfold y0 at P
  split at P
  ·rename_i l
   split at P
   ·rename_i ns en
    obtain ⟨v,rfl,r1⟩:=RVs.one r
    unfold RV at r1
    obtain ⟨x,xs,rfl,h2,h3⟩:=r1
    rw [Z7 h3 en] at h2
    exact ⟨x,ns,rfl,h2.sq,PostE.here P S Qr⟩
   ·exact P.elim
  ·exact P.elim) hg hm Boot.«sum» ha (he:=he) (hpl:=hpl)
def qA9:List PV->qC->Rs PV:=fun ps st=>match ps with
 |[p]=>match asL st p with
  |some l=>match WI jd l with
   |some ns=>match ns.max? with
    |some m => .ok (.int m) st
    |none => .no
   |none => .no
  |none => .no
 |_ => .no
theorem qE0 {ta:FA} {p:Pos} (ha:VA X E (e::es) ta) (hm:X.mg "max" = none) (hg:Gl X "max" := by rfl) (he:starEach (e::es) X.env=(false,eval e X.env)::starEach es X.env:=by rfl) (hpl:(backTo pos (starEach es X.env)).any (·.1)=false:=by rfl):VE X E (.Call (.Name "max" p) (e::es) [] pos) (qI qA9 ta) :=
 wT qBd (fun H b st ps vs Q S r P=>by
  unfold qA9 at P
  split at P
  ·rename_i p'
   split at P
   ·rename_i l el
    split at P
    ·rename_i ns en
     split at P
     ·rename_i m em
      obtain ⟨v,rfl,r1⟩:=RVs.one r
      obtain ⟨x,xs,rfl,h2,h3⟩:=QX S r1 el
      rw [Z7 h3 en] at h2
      exact ⟨x,ns,m,rfl,h2,em,PostE.here P S Qr⟩
     ·exact P.elim
    ·exact P.elim
   ·exact P.elim
  ·exact P.elim) hg hm Boot.«max» ha (he:=he) (hpl:=hpl)
end
end EV
end
section
namespace HT
open PySem PySem.Spec PyProof.Rows L2
section
variable {prog:Program} {w:World} {A:Around} {E:Value->Shared->Prop} {s:Shared}
def cutS {α:Type} (l:List α) (lo hi:Option Int) (st:Int):List α :=
 (List.range (Builtin.Slice.slicePlaces (Builtin.Slice.sliceAdjust lo hi st l.length).1 (Builtin.Slice.sliceAdjust lo hi st l.length).2 st)).filterMap fun (m:Nat)=>l[((Builtin.Slice.sliceAdjust lo hi st l.length).1 + (m:Int) * st).toNat]?
theorem Zu {sl:Addr} {vl vu vs:Value} {lo hi:Option Int} {st:Int} {n:Nat} {Q:Int×Int×Nat->Shared->Prop} (hs:s.heap.IsSliceOf sl vl vu vs) (pl:IsPart vl lo) (pu:IsPart vu hi) (ps:IsPart vs (some st)) (h0:st≠0)
  (h:Q ((Builtin.Slice.sliceAdjust lo hi st n).1,st,Builtin.Slice.slicePlaces (Builtin.Slice.sliceAdjust lo hi st n).1 (Builtin.Slice.sliceAdjust lo hi st n).2 st) s):wpAny (model prog w) A (Builtin.Slice.sliceApplied (.ref sl) (pure (n:Int))) Q E s:=by
 obtain ⟨os,hos,hcs,hds⟩:=id hs
 unfold Builtin.Slice.sliceApplied Builtin.Slice.sliceFields
 refine wpAny_bind (wpAny_bind (wpAny_field hos hds (x:=vl) rfl (wpAny_bind (wpAny_field hos hds (x:=vu) rfl (wpAny_bind (wpAny_field hos hds (x:=vs) rfl (wpAny_pure ?_)))))))
 refine wpAny_bind (Wf ps ?_)
 show wpAny _ _ (if (st==0)=true then _ else _) _ _ s
 rw [if_neg (by simpa using h0)]
 refine wpAny_bind (Wf pl (wpAny_bind (Wf pu (wpAny_bind (wpAny_pure ?_)))))
 exact wpAny_pure h
theorem getItem_tuple_step {t sl:Addr} {items:Array Value} {vl vu vs:Value} {lo hi:Option Int} {st:Int} {Q:Value->Shared->Prop} (ht:IsTup s.heap t items) (hs:s.heap.IsSliceOf sl vl vu vs) (pl:IsPart vl lo) (pu:IsPart vu hi) (ps:IsPart vs (some st)) (h0:st < 0)
  (h:Q (.ref s.heap.objs.size) { s with heap:=s.heap.push { cls := .type "tuple",data := .seq (cutS items.toList lo hi st).toArray } })
  (hsz:(cutS items.toList lo hi st).length≤sizeLine):wpAny (model prog w) A (getItem (.ref t) (.ref sl)) Q E s:=by
 have htake:sizeOk (.seq (cutS items.toList lo hi st).toArray):=by
  show (cutS items.toList lo hi st).toArray.size≤sizeLine
  rw [List.size_toArray];exact hsz
 obtain ⟨os,hos,hcs,hds⟩:=id hs
 have hTs:s.TypeIs (.ref sl) "slice" := ⟨os,hos,hcs⟩
 unfold getItem
 try with_reducible refine wpAny_holding ?_
 first |refine wpAny_bind (wpAny_pure ?_) |skip
 refine wpAny_bind (wpAny_sequenceKey ht.typeIs (by decide) ?_)
 refine wpAny_bind (wpAny_callSpecial?_slot (name:=Str.ofString "__getitem__") ht.typeIs PyProof.Rows.slot_tuple_getitem
  (wpAny_call_entry PyProof.Rows.slot_tuple_getitem ht.typeIs entry_tuple_getitem ?_ (args_tuple_getitem _ _)))
 show wpAny _ _ (Builtin.Tuple.tupleItemsOf (.ref t) >>= _) _ _ s
 refine wpAny_bind (tupleItemsOf_ ht ?_)
 refine wpAny_bind (wpAny_typeOf hTs ?_)
 rw [if_pos (by decide)]
 refine wpAny_bind (Zu hs pl pu ps (by omega) ?_)
 have hno:¬ (((Builtin.Slice.sliceAdjust lo hi st items.size).1==0&&st==1&&Builtin.Slice.slicePlaces (Builtin.Slice.sliceAdjust lo hi st items.size).1 (Builtin.Slice.sliceAdjust lo hi st items.size).2 st==items.size)=true):=by
  intro q
  rw [Bool.and_eq_true,Bool.and_eq_true] at q
  have q1:st=1:=eq_of_beq q.1.2
  omega
 show wpAny _ _ (if ((Builtin.Slice.sliceAdjust lo hi st items.size).1==0&&st==1&&Builtin.Slice.slicePlaces (Builtin.Slice.sliceAdjust lo hi st items.size).1 (Builtin.Slice.sliceAdjust lo hi st items.size).2 st==items.size)=true then _ else _) _ _ s
 rw [if_neg hno]
 have e:((List.range (Builtin.Slice.slicePlaces (Builtin.Slice.sliceAdjust lo hi st items.size).1 (Builtin.Slice.sliceAdjust lo hi st items.size).2 st)).filterMap fun (m:Nat)=>items[((Builtin.Slice.sliceAdjust lo hi st items.size).1 + (m:Int) * st).toNat]?).toArray=(cutS items.toList lo hi st).toArray:=by
  unfold cutS
  rw [Array.length_toList]
  congr 2
  funext m
  rw [Array.getElem?_toList]
 rw [e]
 first
  |exact wpAny_bind (m:=Builtin.Tuple.tupleExact _) (wpAny_newObj_type (wpAny_pure ⟨_,rfl,wpAny_pure h⟩) htake)
  |exact wpAny_bind (m:=Builtin.Tuple.tupleExact _) (wpAny_newObj_type (wpAny_bind (wpAny_pure (wpAny_pure ⟨_,rfl,wpAny_pure h⟩))) htake)
  |exact wpAny_bind (wpAny_bind (m:=Builtin.Tuple.tupleExact _) (wpAny_newObj_type (wpAny_pure (wpAny_pure ⟨_,rfl,wpAny_pure h⟩)) htake))
  |exact wpAny_bind (wpAny_bind (m:=Builtin.Tuple.tupleExact _) (wpAny_newObj_type (wpAny_pure ⟨_,rfl,wpAny_pure h⟩) htake))
end
end HT
namespace L2
open PySem PySem.Spec PyProof.Rows
section
variable {X:Cx} {e:Expr} {te:TE} {lo hi:Option Expr} {tl th tt:TO} {sp:Expr} {p2 pos:Pos}
theorem Vals.pick {xs:List V} {us:List Value} (r:Vals xs us) (f:Nat->Nat):∀ js:List Nat,Vals (js.filterMap fun m=>xs[f m]?) (js.filterMap fun m=>us[f m]?)
 |[] => .nil
 |j::js=>by
  have hl:=r.length
  rw [List.filterMap_cons,List.filterMap_cons]
  by_cases hj:f j < xs.length
  ·obtain ⟨u,hu,ru⟩:∃ u,us[f j]? = some u∧RelV (xs[f j]) u:=by
    have hju:f j < us.length:=by rw [← hl];exact hj
    obtain ⟨x,hx,rx⟩:=EV.Vals.get2 r (List.getElem?_eq_getElem hju)
    rw [List.getElem?_eq_getElem hj] at hx;cases hx
    exact ⟨_,List.getElem?_eq_getElem hju,rx⟩
   rw [hu,List.getElem?_eq_getElem hj]
   exact .cons ru (Vals.pick r f js)
  ·rw [List.getElem?_eq_none (by omega),List.getElem?_eq_none (by omega)]
   exact Vals.pick r f js
def qIp (K:W.Frag) (te:TE) (tl th tt:TO):TE:=fun σ H Q=>te σ H fun x H1=>tl σ H1 fun l H2=>th σ H2 fun u H3=>tt σ H3 fun o H4 => ∃ st a xs,o=some st∧st < 0∧x = .ref a∧SqT K H4 a xs∧(HT.cutS xs l u st).length≤sizeLine ∧ ∀ p,H4 p=none->Q (.ref p) (upd H4 p (.tup (HT.cutS xs l u st)))
theorem qBi (he:PE X e te) (hl:PO X lo tl) (hu:PO X hi th) (hp:PO X (some sp) tt):PE X (.Subscript e (.Slice lo hi (some sp) p2) pos) (qIp X.K te tl th tt):=by
 intro pins s σ H Q I h
 refine Subscript_ (thn (he pins s σ H _ I h) fun v s1 ⟨x,H1,I1,r1,q1⟩ => ?_)
 refine wpAny_Slice (thn (hl pins s1 σ H1 _ I1 q1) fun vl s2 ⟨l,H2,I2,pl,q2⟩=>thn (hu pins s2 σ H2 _ I2 q2) fun vu s3 ⟨u,H3,I3,pu,q3⟩=>thn (hp pins s3 σ H3 _ I3 q3) fun vs s4 ⟨o,H4,I4,po,st,a,xs,eo,h0,ex,hx,hz,q⟩ => ?_)
 subst eo;subst ex
 cases r1
 have I5:Inv X pins σ H4 { s4 with heap:=s4.heap.push { cls := .type "slice",data := .fields #[vl,vu,vs] } }:=I4.kept (t':=s4.toks) fun b ob q=>Heap.get?_push_of_some _ q
 obtain ⟨its,r,ht,hz2⟩:=I5.tuple hx
 have hlen:=r.length
 have hc:Vals (HT.cutS xs l u st) (HT.cutS its l u st):=by
  unfold HT.cutS
  rw [← hlen]
  exact Vals.pick r _ _
 show wpAny (model X.prog X.w) X.A (subscriptTail e (.Slice lo hi (some sp) p2) (.ref a) (.ref s4.heap.objs.size)) (EP X pins σ Q) X.xe { s4 with heap:=s4.heap.push { cls := .type "slice",data := .fields #[vl,vu,vs] } }
 refine tail_any (T := "tuple") (id := "tuple.__getitem__") (ops:=[.ref a,.ref s4.heap.objs.size]) ht.typeIs ?_ (HT.getItem_tuple_step ht (Heap.IsSliceOf.new ..) pl pu po h0 ?_ ?_) (by with_unfolding_all rfl)
 ·exact PyProof.Rows.slot_tuple_getitem.lookup
 ·refine ⟨.ref _,_,I5.laid (t':=s4.toks) (o := .tup (HT.cutS xs l u st)) (fun b ob q=>Heap.get?_push_of_some _ q) (Nat.le_refl _) ?_,rfl,q _ (I5.hok.fresh (Nat.le_refl _))⟩
  exact ⟨hz,_,hc,IsTup.new _ _⟩
 ·have:=hc.length
  rw [← this];exact hz
end
end L2
end
section
namespace EV
open PySem PySem.Spec PyProof.Rows L2 EX
section
variable {X:Cx} {E:XK} {e a c d:Expr} {es:List Expr} {f fa fb fc:FE} {fl:FL} {pos:Pos} {F G:FS}
theorem RVs.pick {K:W.Frag} {H:Hp} {b:Bz} {l:List PV} {xs:List V} (r:RVs K H b l xs) (f:Nat->Nat):∀ js:List Nat,RVs K H b (js.filterMap fun m=>l[f m]?) (js.filterMap fun m=>xs[f m]?)
 |[]=>RVs.nil
 |j::js=>by
  have hl:=r.length
  rw [List.filterMap_cons,List.filterMap_cons]
  by_cases hj:f j < l.length
  ·obtain ⟨x,hx,rx⟩:=r.get (List.getElem?_eq_getElem hj)
   rw [hx,List.getElem?_eq_getElem hj]
   exact RVs.cons rx (RVs.pick r f js)
  ·rw [List.getElem?_eq_none (by omega),List.getElem?_eq_none (by omega)]
   exact RVs.pick r f js
def qAs (f:FE) (lo hi sp:FO):FE:=fun r st=>(f r st).bind fun p s1=>(lo r s1).bind fun a s2=>(hi r s2).bind fun c s3=>(sp r s3).bind fun o s4=>match p,o with
 | .tup l,some k=>if k < 0∧(HT.cutS l a c k).length≤sizeLine then .ok (.tup (HT.cutS l a c k)) s4 else .no
 |_,_ => .no
theorem qEr {lo hi:Option Expr} {sp:Expr} {flo fhi fsp:FO} {p2:Pos} (h:VE X E e f) (hl:VO X E lo flo) (hh:VO X E hi fhi) (hs:VO X E (some sp) fsp):VE X E (.Subscript e (.Slice lo hi (some sp) p2) pos) (qAs f flo fhi fsp) :=
 PE.imp (qBi h hl hh hs) fun s H Q ⟨b,r,st,S,R,P⟩=>⟨b,r,st,S,R,PostE.bind P fun p s1 u H1 b1 e1 S1 r1 P1=>⟨b1,r,s1,S1,R.ext e1,PostO.bind P1 fun k s2 H2 b2 e2 S2 P2=>⟨b2,r,s2,S2,(R.ext e1).ext e2,PostO.bind P2 fun m s3 H3 b3 e3 S3 P3=>⟨b3,r,s3,S3,((R.ext e1).ext e2).ext e3,PostO.bind P3 fun o s4 H4 b4 e4 S4 P4=>by
  split at P4
  ·rename_i l k'
   split at P4
   ·rename_i hc
    have r3:=RV.ext e4 _ (RV.ext e3 _ (RV.ext e2 _ r1))
    unfold RV at r3
    obtain ⟨x,xs,rfl,h2,h3⟩:=r3
    have hlen:=h3.length
    have hr:RVs X.K H4 b4 (HT.cutS l k m k') (HT.cutS xs k m k'):=by
     unfold HT.cutS
     rw [← hlen]
     exact RVs.pick h3 _ _
    exact ⟨k',x,xs,rfl,hc.1,rfl,h2.sq,by rw [← hr.length];exact hc.2,fun z hz=>PostE.layT P4 S4 hr hz⟩
   ·exact P4.elim
  ·exact P4.elim⟩⟩⟩⟩
end
end EV
end
section
namespace EV
open PySem PySem.Spec PyProof.Rows L2
theorem qEd {X:Cx} {E:XK} (i:Nat) {x:Str} {p' pos2:Pos} {elt:Expr} {c:Comprehension} {cs:List Comprehension} {scope:Scope} {pos:Pos} {capN locN:List Str} {caps:List Nat} {fi:FI} {g:FG} {ts:List FT} {gs:List GenF} {f:FE} (hN:X.N.Nodup) (hi':X.N[i]? = some x) (hx:Loc X.env.scope x) (hf:X.fn x=true∨X.env.scope.names.lookup x=some .local) (hsw:swapsWith (.ListComp elt (c::cs) scope pos) (some (.Name x p')) pos2.line X.env=pure true) (hcs:CSc X scope capN locN caps)
  (hi:VI X E c.target c.iter fi) (sub:∀ s H fp pn,VE (cCx X scope (capN++locN) s H fp pn) E0 elt f∧GOk (cCx X scope (capN++locN) s H fp pn) c ⟨fi,g,ts⟩∧GsOk (cCx X scope (capN++locN) s H fp pn) cs gs)
  (hs:∀ x,foldedSetIterable c.iter X.env x=pure x):PS X (.Assign [.Name x p'] (.ListComp elt (c::cs) scope pos) pos2) (qGA (rdN X.K E (qm caps locN.length fi g ts gs f)) (qC4 i)):=by
 intro pins s σ H D0 I hq
 obtain ⟨b,r,st,S,RE,P⟩:=hq
 have hfree:∀ x∈scope.names,x.2 = .free -> ∃ c,X.env.cells.lookup x.1=some c:=fun x hx hk=>I.ok.has x.1 (hcs.fr x hx hk)
 obtain ⟨c1,c2,c3,c4⟩:=c
 have hasy:c4=0:=(sub s H [] []).2.1.asy
 subst hasy
 rw [exec_Assign_Name_used x p' _ pos2 hsw]
 refine wpAny_bind (wpAny_standAt ?_)
 refine wpAny_bind (wpAny_mono (Q:=fun _ s' => ∃ v H',L2.Inv X pins (σ.set i (some v)) H' s'∧D0.nx (σ.set i (some v)) H') ?_ (fun _ s' ⟨v,H',I',q'⟩=>wpAny_pure ⟨_,H',I',q'⟩) fun _ _ z=>z)
 rw [arm_evalThenUse_ListComp]
 refine wpAny_bind (wpAny_mono (Q:=fun _ s' => ∃ v H',L2.Inv X pins (σ.set i (some v)) H' s'∧D0.nx (σ.set i (some v)) H') ?_ (fun _ s' q'=>wpAny_pure q') fun _ _ z=>z)
 refine wpAny_comprehension_free (e := .ListComp elt (⟨c1,c2,c3,0⟩::cs) scope pos) (use:=some (assign (.Name x p') X.env)) rfl hs (yx hfree) hcs.kind (fun x hx hl=>Wd hcs.nd (by rw [← hl];exact hx)) ?_
 show wpAny _ _ (eval c2 X.env) _ _ s
 unfold qm at P
 cases ef:fi r st with
 |no=>rw [ef] at P;exact P.elim
 |ex xx s1 =>
  rw [ef] at P
  refine thn (hi pins s σ H (fun _ _=>False) I ⟨b,r,st,S,RE,by rw [ef];exact P⟩) fun v s2 h2=>thn h2 fun itv s3 h3 => ?_
  obtain ⟨_,_,_,_,_,_,_,_,_,_,z⟩:=h3
  exact z.elim
 |ok w s1 =>
  rw [ef] at P
  refine thn (hi pins s σ H (fun J H' => ∃ b',Ext H b H' b'∧SR X.K H' b' s1∧yg X.K H' b' J w) I ⟨b,r,st,S,RE,by rw [ef];exact fun J H' b' e' S' i'=>⟨b',e',S',i'⟩⟩) fun v s2 h2=>thn h2 fun itv s3 h3 => ?_
  obtain ⟨it,fp,tn,J,H2,rfl,I2,T,t2,f2,b2,e2,S2,i2⟩:=h3
  have P:PostN X.K E H b (match qi w.G (Qd ⟨fi,g,ts⟩ (Qn gs f) (Wc caps locN.length r)) w.l s1 with | .ok l s'=>if l.length≤sizeLine then .ok l s' else .no |_ => .no) (fun v H'=>D0.nx (σ.set i (some v)) H'):=P
  cases ev:qi w.G (Qd ⟨fi,g,ts⟩ (Qn gs f) (Wc caps locN.length r)) w.l s1 with
  |no=>rw [ev] at P;exact P.elim
  |ex xx s4=>rw [ev] at P;exact P.elim
  |ok l st' =>
   rw [ev] at P
   have P:PostN X.K E H b (if l.length≤sizeLine then .ok l st' else .no) (fun v H'=>D0.nx (σ.set i (some v)) H'):=P
   by_cases hl:l.length≤sizeLine
   ·rw [if_pos hl] at P
    have hfr:H2 s3.heap.objs.size=none:=I2.hok.fresh (Nat.le_refl _)
    refine wpAny_newList ?_
    generalize hs3:({ s3 with heap:=s3.heap.push { cls := .type "list",data := .seq ([]:List Value).toArray } }:Shared)=s3'
    have I3:L2.Inv X pins σ (upd H2 s3.heap.objs.size (.lst [])) s3':=by
     rw [← hs3]
     exact I2.laid (t':=s3.toks) (fun a u e=>Heap.get?_push_of_some _ e) (Nat.le_refl _) (show ObjOk X.prog X.w _ _ _ (.lst []) from ⟨Nat.zero_le _,[],0,.nil,Heap.get?_push_size _ rfl⟩)
    have k3:∀ a o,s3.heap.get? a=some o->s3'.heap.get? a=some o:=fun a o e=>by rw [← hs3];exact Heap.get?_push_of_some _ e
    have hlt:∀ a∈fp,a < s3.heap.objs.size:=fun a ha=>by
     obtain ⟨o,e,_⟩:=T.obj _ _ t2 a ha
     exact Heap.lt_size e
    have f3:∀ a∈fp,Zi X pins (upd H2 s3.heap.objs.size (.lst [])) a:=fun a ha=>⟨by rw [qQ (Nat.ne_of_lt (hlt a ha))];exact (f2 a ha).1,(f2 a ha).2⟩
    have hlt3:∀ a∈fp,a < s3'.heap.objs.size:=fun a ha=>by
     obtain ⟨o,e,_⟩:=T.obj _ _ t2 a ha
     exact Heap.lt_size (k3 a o e)
    generalize hD:s3.heap.objs.size=D at I3 f3 hfr
    refine JZ ?_
    have J0:=YQ hcs I3 f3 hlt3 rfl
    obtain ⟨he,hg,hgs⟩:=sub s3' (upd H2 D (.lst [])) fp (X.pn++pins)
    have k4:∀ a o,s3'.heap.get? a=some o->(pushCells (s3'.heap.push { cls := .type "dict",data := .dict #[] }) scope.names).get? a=some o:=fun a o e=>pushCells_keeps _ _ _ _ (Heap.get?_push_of_some _ e)
    have hDz:D ∉ b2.z:=(S2.new_notin hfr).2
    have loop:=Yl (X:=cCx X scope (capN++locN) s3' (upd H2 D (.lst [])) fp (X.pn++pins)) (fun _ _ z=>z) (gens:=⟨c1,c2,c3,0⟩::cs) (scope:=scope) (pos:=pos) (D:=D) he gs cs 0 ⟨c1,c2,c3,0⟩ ⟨fi,g,ts⟩ rfl hg hgs [] _ _ _ ⟨b2.b,D::b2.z⟩ (Wc caps locN.length r) s1 st' it fp tn J w [] l
     (compPost (model X.prog X.w) X.A X.xe (some (assign (.Name x p') X.env)) (fun _ s' => ∃ v H',L2.Inv X pins (σ.set i (some v)) H' s'∧D0.nx (σ.set i (some v)) H') (.ref D) s3'.heap.objs.size) J0 (SR.hide S2 hfr) (JT ((RE.ext e2).wext (WE.hide hfr))) List.mem_cons_self QD T (T.keep _ _ _ t2 fun a ha o e=>k4 a o (k3 a o e))
     (fun a ha=>⟨(f3 a ha).1,(J0.ok.exf a ha).1,J0.ok.exfs a ha,.inl ha,(J0.ok.exf a ha).2,fun p hp=>(f3 a ha).2.2.2.2.2 p (by simpa [cCx] using hp)⟩) (Yy i2 hfr) ev (by simpa using hl)
     (fun s' σ' H' b' lV I' e' S' R' hD' r'=>by
      obtain ⟨m,hn,_⟩:=I'.loc
      have hn:s'.heap.Ns s3'.heap.objs.size m:=hn
      have fin:L2.Inv X pins σ H' s':=J3 I3 f3 I' ⟨rfl,fun _ _=>rfl⟩
      have hC:H' s3'.heap.objs.size=none:=I'.free
      have fpC:Zi X pins H' s3'.heap.objs.size:=I3.fpOk (Nat.le_refl _) hC
      obtain ⟨oC,esC,epC,hoC,hdC,hkC⟩:=id hn
      have finp:=fin.pinned (fp:=[s3'.heap.objs.size]) (fun b hb=>by rw [List.mem_singleton.mp hb];exact fpC) (fun b hb=>by rw [List.mem_singleton.mp hb];exact ⟨oC,hoC,fun v z=>by rw [hdC] at z;cases z⟩)
      have hz':b'.z=D::b2.z:=e'.same
      show wpAny (model X.prog X.w) X.A (assign (.Name x p') X.env (.ref D)) _ _ s'
      refine wpAny_assign_Name ?_
      refine yC finp hN hi' hx (v := .ref D) rfl (fun s'' I'' => ?_) hf
      have hpin:s''.heap.get? s3'.heap.objs.size=some oC:=by
       have hm:(s3'.heap.objs.size,oC)∈X.pn++(pins++Ze [s3'.heap.objs.size] s'.heap):=by
        unfold Ze
        simp [hoC]
       exact (I''.pin _ hm).1
      refine ⟨m,⟨oC,esC,epC,hpin,hdC,hkC⟩,fun h'' sb=>⟨.ref D,H',(I''.unpinned).turned (t':=s''.toks) (fun b o hb e=>sb.extBut b o hb e) fpC.1 fpC.2.1 fpC.2.2.2.1 fpC.2.2.2.2.1 (fun p hp=>fpC.2.2.2.2.2 p hp),?_⟩⟩
      have ex:Ext H2 b2 H' ⟨b'.b,b2.z⟩:=by
       refine ⟨⟨?_,⟨[],rfl,by simp⟩,fun a o ha ho => ?_,fun a o ha => ?_⟩,rfl,fun a o hz ha => ?_,fun a o u ha=>e'.fz a o u (qO ha hfr) (by rw [qQ (qO ha hfr)];exact ha)⟩
       ·obtain ⟨n,hb,hh⟩:=e'.more
        exact ⟨n,hb,fun a ha=>by
         have:=hh a ha
         by_cases q:a=D
         ·rw [q];exact hfr
         ·rwa [qQ q] at this⟩
       ·have hne:a≠D:=qO ha hfr
        exact e'.keep a o (by rw [qQ hne];exact ha) ⟨ho.1,fun z=>(List.mem_cons.mp z).elim hne ho.2⟩
       ·have hne:a≠D:=qO ha hfr
        exact e'.dom a o (by rw [qQ hne];exact ha)
       ·have hne:a≠D:=qO ha hfr
        exact e'.hid a o (List.mem_cons_of_mem _ hz) hne (by rw [qQ hne];exact ha)
      have hb':(⟨b'.b,D::b2.z⟩:Bz)=b':=by rw [← hz']
      refine P D lV H' ⟨b'.b,b2.z⟩ (e2.trans ex) (e2.none_of hfr) (by simpa using hD') hDz ?_ ?_
      ·show SR X.K H' ⟨b'.b,D::b2.z⟩ st'
       rw [hb'];exact S'
      ·show RVs X.K H' ⟨b'.b,D::b2.z⟩ l lV
       rw [hb'];exact r')
    exact zQ rfl rfl loop (T.self X.A 0 _ _ _ (T.keep _ _ _ t2 fun a ha o e=>k4 a o (k3 a o e)) loop)
   ·rw [if_neg hl] at P;exact P.elim
end EV
namespace EV
open PySem PySem.Spec PyProof.Rows L2
section
variable {X:Cx} {E:XK} {x:Str} {p' pos2:Pos} {elt:Expr} {c:Comprehension} {cs:List Comprehension} {scope:Scope} {pos:Pos} {capN locN:List Str} {caps:List Nat} {fi:FI} {g:FG} {ts:List FT} {gs:List GenF} {f:FE}
theorem yp (i:Nat) (hN:X.N.Nodup) (hcs:CSc X scope capN locN caps)
  (hi:VI X E c.target c.iter fi) (sub:∀ s H fp pn,VE (cCx X scope (capN++locN) s H fp pn) E0 elt f∧GOk (cCx X scope (capN++locN) s H fp pn) c ⟨fi,g,ts⟩∧GsOk (cCx X scope (capN++locN) s H fp pn) cs gs)
  (hi':X.N[i]? = some x:=by rfl) (hx:Loc X.env.scope x:=by first |exact Or.inl rfl |exact Or.inr rfl) (hf:X.fn x=true∨X.env.scope.names.lookup x=some .local:=by first |exact .inl rfl |exact .inr rfl |assumption)
  (hsw:swapsWith (.ListComp elt (c::cs) scope pos) (some (.Name x p')) pos2.line X.env=pure true:=by rfl) (hs:∀ x,foldedSetIterable c.iter X.env x=pure x:=by intro _;rfl) :
  VS X E (.Assign [.Name x p'] (.ListComp elt (c::cs) scope pos) pos2) (qY i (vFz (qm caps locN.length fi g ts gs f))) :=
 PS.imp (qEd i hN hi' hx hf hsw hcs hi sub hs) fun D s H ⟨b,r,st,S,R,P⟩=>⟨b,r,st,S,R,PostN.of (PostE.bindS P fun p s1 u H1 b1 e1 S1 r1 P1=>P1 _ H1 b1 (Ext.refl _ _) S1 ((R.ext e1).set r1 i))⟩
end
end EV
end
section
namespace EX
open PySem PySem.Spec PyProof.Rows L2
def Src (b:Bool) (i l:Addr) (xs:Array Value) (k:Nat) (h:Heap):Prop:=match b with
 |true=>h.IsTupleIter i l k∧h.IsTuple l xs
 |false=>h.IsListIter i l k∧h.IsList l xs
theorem Src.keep {b:Bool} {i l:Addr} {xs:Array Value} {k:Nat} {h h':Heap} (S:Src b i l xs k h) (e1:∀ o,h.get? i=some o->h'.get? i=some o) (e2:∀ o,h.get? l=some o->h'.get? l=some o):Src b i l xs k h':=by
 cases b
 ·exact ⟨S.1.at e1,S.2.at e2⟩
 ·exact ⟨S.1.at e1,S.2.at e2⟩
theorem Src.but {b:Bool} {i l c:Addr} {xs:Array Value} {k:Nat} {h h':Heap} (S:Src b i l xs k h) (e:Heap.ExtBut c h h') (n1:i≠c) (n2:l≠c):Src b i l xs k h':=S.keep (fun o q=>e _ o n1 q) fun o q=>e _ o n2 q
section
variable {prog:Program} {w:World} {A:Around} {E:Value->Shared->Prop} {s:Shared}
theorem Src.item {b:Bool} {i l:Addr} {xs:Array Value} {k:Nat} {x:Value} {Q:Value->Shared->Prop} (S:Src b i l xs k s.heap) (hne:l≠i) (hx:xs[k]? = some x)
  (hQ:∀ h',Src b i l xs (k + 1) h'->Heap.SameBut i s.heap h'->Q x { s with heap:=h' }):wpAny (model prog w) A (Builtin.SmallTypes.nextOf (.ref i)) Q E s:=by
 cases b
 ·exact wpAny_nextOf_list_item S.1 S.2 hx fun h' a1 a2=>hQ h' ⟨a1,S.2.extBut a2.extBut hne⟩ a2
 ·obtain ⟨hit,ht⟩:=S
  obtain ⟨o,ho,hc,hd⟩:=id hit
  obtain ⟨ol,hol,_,nl,hdl⟩:=id ht
  unfold Builtin.SmallTypes.nextOf
  refine wpAny_bind (wpAny_callSpecial?_slot (name:=Str.ofString "__next__") hit.typeIs F.slot_tuple_iterator_next
   (wpAny_call_entry F.slot_tuple_iterator_next hit.typeIs F.entry_tuple_iterator_next ?_ (F.args_tuple_iterator_next_1 _)))
  show wpAny _ _ (field (.ref i) 0 >>= _) _ _ s
  refine wpAny_bind (wpAny_field ho hd (x := .ref l) rfl ?_)
  show wpAny _ _ (if (Value.ref l==Value.none)=true then _ else _) _ _ s
  rw [if_neg (show ¬ ((Value.ref l==Value.none)=true) from Bool.false_ne_true)]
  show wpAny _ _ (field (.ref i) 1 >>= _) _ _ s
  refine wpAny_bind (wpAny_field ho hd (x := .int k 0) rfl ?_)
  show wpAny _ _ (seqItems? (.ref l) >>= _) _ _ s
  refine wpAny_bind (wpAny_seqItems hol hdl ?_)
  simp only [Int.toNat_natCast,hx]
  refine wpAny_bind (wpAny_setField ho hd (by simp) (wpAny_pure ⟨x,rfl,wpAny_pure (hQ _ ⟨?_,ht.extBut (Heap.SameBut.update ..).extBut hne⟩ (Heap.SameBut.update ..))⟩))
  exact ⟨_,Heap.get?_update_self _ ho (Obj.isFreed_of_fields (Obj.data_mapFields hd _)),(Obj.cls_mapFields ..).trans hc,by
   rw [Obj.data_mapFields hd];simp [rawInt]⟩
theorem Src.over {b:Bool} {i l:Addr} {xs:Array Value} {k:Nat} {Q:Value->Shared->Prop} (hh:A.handled=none) (S:Src b i l xs k s.heap) (hx:xs[k]? = none)
  (hE:∀ h' e,Heap.ExtBut i s.heap h'->(∃ o,h'.get? e=some o∧o.cls = .type "StopIteration")->E (.ref e) { s with heap:=h' }):wpAny (model prog w) A (Builtin.SmallTypes.nextOf (.ref i)) Q E s:=by
 cases b
 ·exact wpAny_nextOf_list_end hh S.1 S.2 hx hE
 ·obtain ⟨hit,ht⟩:=S
  obtain ⟨o,ho,hc,hd⟩:=id hit
  obtain ⟨ol,hol,_,nl,hdl⟩:=ht
  unfold Builtin.SmallTypes.nextOf
  refine wpAny_bind (wpAny_callSpecial?_slot (name:=Str.ofString "__next__") hit.typeIs F.slot_tuple_iterator_next
   (wpAny_call_entry F.slot_tuple_iterator_next hit.typeIs F.entry_tuple_iterator_next ?_ (F.args_tuple_iterator_next_1 _)))
  show wpAny _ _ (field (.ref i) 0 >>= _) _ _ s
  refine wpAny_bind (wpAny_field ho hd (x := .ref l) rfl ?_)
  show wpAny _ _ (if (Value.ref l==Value.none)=true then _ else _) _ _ s
  rw [if_neg (show ¬ ((Value.ref l==Value.none)=true) from Bool.false_ne_true)]
  show wpAny _ _ (field (.ref i) 1 >>= _) _ _ s
  refine wpAny_bind (wpAny_field ho hd (x := .int k 0) rfl ?_)
  show wpAny _ _ (seqItems? (.ref l) >>= _) _ _ s
  refine wpAny_bind (wpAny_seqItems hol hdl ?_)
  simp only [Int.toNat_natCast,hx]
  refine wpAny_bind (wpAny_rule (wpAny_bind (wpAny_setField ho hd (by simp) ?_)))
  show wpAny _ _ (newExc (.type "StopIteration") [] >>= _) _ _ _
  refine wpAny_bind ?_
  simp only [newExc,newTuple]
  refine wpAny_bind (wpAny_newObj_type ?_ (by size_fits))
  refine wpAny_bind (m:=firstArgMember _ _) (wpAny_of_eq (a:=Value.none) (by first |rfl |(simp only [firstArgMember];rfl)) ?_)
  refine wpAny_newObj_type ?_ (by size_fits)
  simp only [raiseNew]
  refine wpAny_bind (wpAny_handled ?_)
  first |rw [show A.in1.handled=none from hh] |rw [hh]
  refine wpAny_bind (wpAny_pure (wpAny_throw ?_))
  exact hE _ _ (((Heap.SameBut.update ..).extBut.push _).push _) ⟨_,Heap.get?_push_size _ rfl,rfl⟩
theorem qBl {b1 b2:Bool} {z TI TO i1 i2 l1 l2:Addr} {k:Nat} {xs ys:Array Value} {x y a b:Value} {Q:Option Value->Shared->Prop} (D:ZipApart z TI TO i1 i2 l1 l2)
  (hz:IsZip s.heap z TI TO .none) (hTI:IsPair s.heap TI (.ref i1) (.ref i2)) (hTO:IsPair s.heap TO a b) (h1:Src b1 i1 l1 xs k s.heap) (h2:Src b2 i2 l2 ys k s.heap) (hx:xs[k]? = some x) (hy:ys[k]? = some y)
  (hQ:∀ h',IsZip h' z TI TO (rawInt s.heap.objs.size)->IsPair h' TO x y->Src b1 i1 l1 xs (k + 1) h'->Src b2 i2 l2 ys (k + 1) h'->IsPair h' s.heap.objs.size x y ->
   (∀ c o,c≠z->c≠TO->c≠i1->c≠i2->s.heap.get? c=some o->h'.get? c=some o)->Q (some (.ref s.heap.objs.size)) { s with heap:=h' }) :
  wpAny (model prog w) A (pyNext (.ref z)) Q E s:=by
 have hT:s.TypeIs (.ref z) "zip" := ⟨_,hz,rfl⟩
 unfold pyNext
 refine wpAny_bind (wpAny_attempt (wpAny_callSpecial?_slot (name:=Str.ofString "__next__") hT F.slot_zip_next (wpAny_call_entry F.slot_zip_next hT F.entry_zip_next ?_ (F.args_zip_next_1 _))))
 show wpAny _ _ (field (.ref z) 2 >>= _) _ _ _
 refine wpAny_bind (wpAny_field hz rfl (x := .bool false) rfl ?_)
 show wpAny _ _ (field (.ref z) 3 >>= _) _ _ _
 refine wpAny_bind (wpAny_field hz rfl (x := .ref TI) rfl ?_)
 refine wpAny_bind (wpAny_seqItems hTI rfl ?_)
 show wpAny _ _ (Builtin.SmallTypes.ownedTupleIsFree (.ref z) >>= _) _ _ _
 refine wpAny_bind ?_
 unfold Builtin.SmallTypes.ownedTupleIsFree
 refine wpAny_bind (wpAny_field hz rfl (x := .none) rfl (wpAny_pure ?_))
 simp only [if_true]
 refine wpAny_bind (wpAny_rule ?_)
 refine wpAny_bind (wpAny_field hz rfl (x := .ref TO) rfl ?_)
 refine wpAny_bind (wpAny_setField_rec hz (by simp) fun g1 hz1 s1 => ?_)
 replace hz1:IsZip g1 z TI TO .ellipsis:=hz1
 refine wpAny_bind ?_
 simp only [List.zipIdx_cons,List.zipIdx_nil,List.forIn_cons,List.forIn_nil]
 refine wpAny_bind (wpAny_bind (wpAny_onRaise ?_))
 show wpAny _ _ (Builtin.SmallTypes.nextOf (.ref i1) >>= _) _ _ _
 refine wpAny_bind ((h1.but s1.extBut D.i1z D.l1z).item D.l1i1 hx fun g2 q1 s2=>wpAny_pure ?_)
 have t2:IsPair g2 TO a b:=s2.extBut _ _ D.TOi1 (s1.extBut _ _ D.TOz hTO)
 refine wpAny_bind (wpAny_seqItems t2 rfl ?_)
 refine wpAny_bind (wpAny_updateSeq_pair t2 fun g3 t3 s3 => ?_)
 replace t3:IsPair g3 TO x b:=t3
 refine wpAny_bind (wpAny_letGo (wpAny_pure ?_))
 refine wpAny_bind (wpAny_bind (wpAny_onRaise ?_))
 show wpAny _ _ (Builtin.SmallTypes.nextOf (.ref i2) >>= _) _ _ _
 refine wpAny_bind ((((h2.but s1.extBut D.i2z D.l2z).but s2.extBut D.i12.symm D.l2i1).but s3.extBut D.TOi2.symm D.l2TO).item D.l2i2 hy fun g4 q2 s4=>wpAny_pure ?_)
 have t4:IsPair g4 TO x b:=s4.extBut _ _ D.TOi2 t3
 refine wpAny_bind (wpAny_seqItems t4 rfl ?_)
 refine wpAny_bind (wpAny_updateSeq_pair t4 fun g5 t5 s5 => ?_)
 replace t5:IsPair g5 TO x y:=t5
 refine wpAny_bind (wpAny_letGo (wpAny_pure (wpAny_pure ?_)))
 refine wpAny_bind (wpAny_seqItems t5 rfl ?_)
 refine wpAny_bind (wpAny_newTuple ?_)
 have hsz:g5.objs.size=s.heap.objs.size:=by rw [s5.1,s4.1,s3.1,s2.1,s1.1]
 have hz5:IsZip g5 z TI TO .ellipsis:=s5.extBut _ _ D.TOz.symm (s4.extBut _ _ D.i2z.symm (s3.extBut _ _ D.TOz.symm (s2.extBut _ _ D.i1z.symm hz1)))
 have k5:∀ c o,c≠z->c≠TO->c≠i1->c≠i2->s.heap.get? c=some o->g5.get? c=some o:=fun c o c1 c2 c3 c4 e =>
  s5.extBut _ _ c2 (s4.extBut _ _ c4 (s3.extBut _ _ c2 (s2.extBut _ _ c3 (s1.extBut _ _ c1 e))))
 have p1:Src b1 i1 l1 xs (k + 1) g5:=((q1.but s3.extBut D.TOi1.symm D.l1TO).but s4.extBut D.i12 D.l1i2).but s5.extBut D.TOi1.symm D.l1TO
 have p2:Src b2 i2 l2 ys (k + 1) g5:=q2.but s5.extBut D.TOi2.symm D.l2TO
 have hzlt:z < g5.objs.size:=Heap.lt_size hz5
 show wpAny _ _ (Builtin.SmallTypes.ownedTupleHandOut (.ref z) (.ref g5.objs.size) >>= _) _ _ _
 refine wpAny_bind ?_
 unfold Builtin.SmallTypes.ownedTupleHandOut
 have hz6:IsZip (g5.push { cls := .type "tuple",data := .seq #[x,y] }) z TI TO .ellipsis:=Heap.get?_push_of_some _ hz5
 refine wpAny_bind (wpAny_setField_rec hz6 (by simp) fun g7 hz7 s7 => ?_)
 replace hz7:IsZip g7 z TI TO (rawInt g5.objs.size):=hz7
 refine wpAny_setField_rec hz7 (by simp) fun g8 hz8 s8 => ?_
 replace hz8:IsZip g8 z TI TO (rawInt g5.objs.size):=hz8
 have up:∀ c o,c≠z->g5.get? c=some o->g8.get? c=some o:=fun c o c1 e=>s8.extBut _ _ c1 (s7.extBut _ _ c1 (Heap.get?_push_of_some _ e))
 have t8:IsPair g8 g5.objs.size x y:=s8.extBut _ _ (Nat.ne_of_gt hzlt) (s7.extBut _ _ (Nat.ne_of_gt hzlt) (Heap.get?_push_size _ rfl))
 rw [hsz] at hz8 t8
 refine wpAny_pure ⟨_,rfl,wpAny_pure ?_⟩
 show Q (some (.ref g5.objs.size)) _
 rw [hsz]
 exact hQ g8 hz8 (up _ _ D.TOz t5) (p1.keep (fun o e=>up _ o D.i1z e) fun o e=>up _ o D.l1z e) (p2.keep (fun o e=>up _ o D.i2z e) fun o e=>up _ o D.l2z e) t8 fun c o c1 c2 c3 c4 e=>up c o c1 (k5 c o c1 c2 c3 c4 e)
theorem qBh {b1 b2:Bool} {z TI TO i1 i2 l1 l2:Addr} {k:Nat} {xs ys:Array Value} {a b:Value} {Q:Fin->Shared->Prop} (hh:A.handled=none) (D:ZipApart z TI TO i1 i2 l1 l2)
  (hz:IsZip s.heap z TI TO .none) (hTI:IsPair s.heap TI (.ref i1) (.ref i2)) (hTO:IsPair s.heap TO a b) (h1:Src b1 i1 l1 xs k s.heap) (h2:Src b2 i2 l2 ys k s.heap) (hend:xs[k]? = none∨ys[k]? = none)
  (stop:∀ h' e,(∀ c o,c≠z->c≠TO->c≠i1->c≠i2->s.heap.get? c=some o->h'.get? c=some o)->(∃ o,h'.get? e=some o∧o.cls = .type "StopIteration")->E (.ref e) { s with heap:=h' }) :
  wpAny (model prog w) A (Builtin.«zip.__next__» ⟨[.ref z],[]⟩) Q E s:=by
 show wpAny _ _ (field (.ref z) 2 >>= _) _ _ _
 refine wpAny_bind (wpAny_field hz rfl (x := .bool false) rfl ?_)
 show wpAny _ _ (field (.ref z) 3 >>= _) _ _ _
 refine wpAny_bind (wpAny_field hz rfl (x := .ref TI) rfl ?_)
 refine wpAny_bind (wpAny_seqItems hTI rfl ?_)
 show wpAny _ _ (Builtin.SmallTypes.ownedTupleIsFree (.ref z) >>= _) _ _ _
 refine wpAny_bind ?_
 unfold Builtin.SmallTypes.ownedTupleIsFree
 refine wpAny_bind (wpAny_field hz rfl (x := .none) rfl (wpAny_pure ?_))
 simp only [if_true]
 refine wpAny_bind (wpAny_rule ?_)
 refine wpAny_bind (wpAny_field hz rfl (x := .ref TO) rfl ?_)
 refine wpAny_bind (wpAny_setField_rec hz (by simp) fun g1 hz1 s1 => ?_)
 replace hz1:IsZip g1 z TI TO .ellipsis:=hz1
 refine wpAny_bind ?_
 simp only [List.zipIdx_cons,List.zipIdx_nil,List.forIn_cons,List.forIn_nil]
 refine wpAny_bind (wpAny_bind (wpAny_onRaise ?_))
 show wpAny _ _ (Builtin.SmallTypes.nextOf (.ref i1) >>= _) _ _ _
 cases hx:xs[k]? with
 |none =>
  refine wpAny_bind ((h1.but s1.extBut D.i1z D.l1z).over hh hx fun g2 e s2 he => ?_)
  obtain ⟨oe,hoe,hce⟩:=he
  have hz2:IsZip g2 z TI TO .ellipsis:=s2 _ _ D.i1z.symm hz1
  have hez:e≠z:=fun x=>by subst x;rw [hz2] at hoe;cases hoe;simp at hce
  exact wpAny_setField_rec hz2 (by simp) fun g3 _ s3=>stop g3 e (fun c o c1 _ c3 _ x=>s3.extBut _ _ c1 (s2 _ _ c3 (s1.extBut _ _ c1 x))) ⟨oe,s3.extBut _ _ hez hoe,hce⟩
 |some x =>
  have hy:ys[k]? = none:=by rcases hend with h |h;rw [hx] at h;cases h;exact h
  refine wpAny_bind ((h1.but s1.extBut D.i1z D.l1z).item D.l1i1 hx fun g2 q1 s2=>wpAny_pure ?_)
  have t2:IsPair g2 TO a b:=s2.extBut _ _ D.TOi1 (s1.extBut _ _ D.TOz hTO)
  refine wpAny_bind (wpAny_seqItems t2 rfl ?_)
  refine wpAny_bind (wpAny_updateSeq_pair t2 fun g3 t3 s3 => ?_)
  refine wpAny_bind (wpAny_letGo (wpAny_pure ?_))
  refine wpAny_bind (wpAny_bind (wpAny_onRaise ?_))
  show wpAny _ _ (Builtin.SmallTypes.nextOf (.ref i2) >>= _) _ _ _
  refine wpAny_bind ((((h2.but s1.extBut D.i2z D.l2z).but s2.extBut D.i12.symm D.l2i1).but s3.extBut D.TOi2.symm D.l2TO).over hh hy fun g4 e s4 he => ?_)
  obtain ⟨oe,hoe,hce⟩:=he
  have hz4:IsZip g4 z TI TO .ellipsis:=s4 _ _ D.i2z.symm (s3.extBut _ _ D.TOz.symm (s2.extBut _ _ D.i1z.symm hz1))
  have hez:e≠z:=fun x=>by subst x;rw [hz4] at hoe;cases hoe;simp at hce
  exact wpAny_setField_rec hz4 (by simp) fun g5 _ s5=>stop g5 e (fun c o c1 c2 c3 c4 x=>s5.extBut _ _ c1 (s4 _ _ c4 (s3.extBut _ _ c2 (s2.extBut _ _ c3 (s1.extBut _ _ c1 x))))) ⟨oe,s5.extBut _ _ hez hoe,hce⟩
theorem qCR {b1 b2:Bool} {z TI TO i1 i2 l1 l2:Addr} {k:Nat} {xs ys:Array Value} {a b:Value} {Q:Option Value->Shared->Prop} (hh:A.handled=none) (D:ZipApart z TI TO i1 i2 l1 l2)
  (hz:IsZip s.heap z TI TO .none) (hTI:IsPair s.heap TI (.ref i1) (.ref i2)) (hTO:IsPair s.heap TO a b) (h1:Src b1 i1 l1 xs k s.heap) (h2:Src b2 i2 l2 ys k s.heap) (hend:xs[k]? = none∨ys[k]? = none)
  (hQ:∀ h',(∀ c o,c≠z->c≠TO->c≠i1->c≠i2->s.heap.get? c=some o->h'.get? c=some o)->Q none { s with heap:=h' }):wpAny (model prog w) A (pyNext (.ref z)) Q E s:=by
 have hT:s.TypeIs (.ref z) "zip" := ⟨_,hz,rfl⟩
 unfold pyNext
 refine wpAny_bind (wpAny_attempt (wpAny_callSpecial?_slot (name:=Str.ofString "__next__") hT F.slot_zip_next (wpAny_call_entry F.slot_zip_next hT F.entry_zip_next (qBh hh D hz hTI hTO h1 h2 hend fun h' e hk he => ?_) (F.args_zip_next_1 _))))
 obtain ⟨o,ho,hc⟩:=he
 refine wpAny_bind (wpAny_isInstance (T := "StopIteration") (b:=true) ⟨o,ho,hc⟩ isSubtype_stop ?_)
 exact wpAny_pure (hQ _ hk)
def Wa (b:Bool) (l:Addr):Obj:={ cls := .type (cond b "tuple_iterator" "list_iterator"),data := .fields #[.ref l,.int 0 0] }
def SqAt (b:Bool) (l:Addr) (xs:Array Value) (h:Heap):Prop:=match b with
 |true=>h.IsTuple l xs
 |false=>h.IsList l xs
theorem SqAt.push {b:Bool} {l:Addr} {xs:Array Value} {h:Heap} (S:SqAt b l xs h) (o:Obj):SqAt b l xs (h.push o):=by
 cases b
 ·exact Heap.IsList.push S o
 ·exact Heap.IsTuple.push S o
theorem SqAt.here {b:Bool} {l:Addr} {xs:Array Value} {h:Heap} (S:SqAt b l xs h):∃ o,h.get? l=some o:=by
 cases b
 ·obtain ⟨o,e,_⟩:=S;exact ⟨o,e⟩
 ·obtain ⟨o,e,_⟩:=S;exact ⟨o,e⟩
theorem SqAt.at {b:Bool} {l:Addr} {xs:Array Value} {h h':Heap} (S:SqAt b l xs h) (e:∀ o,h.get? l=some o->h'.get? l=some o):SqAt b l xs h':=by
 cases b
 ·exact Heap.IsList.at S e
 ·obtain ⟨o,q,r⟩:=S;exact ⟨o,e o q,r⟩
theorem SqAt.iter {b:Bool} {l:Addr} {xs:Array Value} {Q:Value->Shared->Prop} (S:SqAt b l xs s.heap) (hQ:Q (.ref s.heap.objs.size) { s with heap:=s.heap.push (Wa b l) }):wpAny (model prog w) A (pyIter (.ref l)) Q E s:=by
 cases b
 ·exact wpAny_pyIter_list S hQ
 ·exact wpAny_pyIter_tuple S hQ
theorem SqAt.src {b:Bool} {i l:Addr} {xs:Array Value} {h:Heap} (S:SqAt b l xs h) (e:h.get? i=some (Wa b l)):Src b i l xs 0 h:=by
 cases b
 ·exact ⟨⟨_,e,rfl,rfl⟩,S⟩
 ·exact ⟨⟨_,e,rfl,rfl⟩,S⟩
def zH2 (b1 b2:Bool) (h:Heap) (l1 l2:Addr):Heap:=(h.push (Wa b1 l1)).push (Wa b2 l2)
def zH5 (b1 b2:Bool) (h:Heap) (l1 l2:Addr):Heap:=(((zH2 b1 b2 h l1 l2).push { cls := .type "tuple",data := .seq #[.ref h.objs.size,.ref (h.objs.size + 1)] }).push { cls := .type "tuple",data := .seq #[.none,.none] }).push { cls := .type "zip",data := .fields #[.none,.bool false,.bool false,.ref (h.objs.size + 2),.ref (h.objs.size + 3)] }
theorem qAB (b1 b2:Bool) (l1 l2:Addr) (xs ys:Array Value) :
  Meets (Builtin.«zip.__new__» ⟨[.type "zip",.ref l1,.ref l2],[]⟩) (fun _ R s=>SqAt b1 l1 xs s.heap∧SqAt b2 l2 ys s.heap ∧
   R (.ok (.ret (.ref (s.heap.objs.size + 4)))) { s with heap:=zH5 b1 b2 s.heap l1 l2 }) :=
 .of_wp fun prog w A R s h=>by
  obtain ⟨hp,g,d,tk,os⟩:=s;obtain ⟨hl1,hl2,h⟩:=h
  have hsub:=sub_zip
  have hL1:SqAt b1 l1 xs (Shared.heap ⟨hp,g,d,tk,os⟩):=hl1
  have hL2:SqAt b2 l2 ys (Shared.heap ⟨hp.push (Wa b1 l1),g,d,tk,os⟩):=hl2.push _
  wp_walk using SqAt.iter hL1,SqAt.iter hL2
  refine ⟨_,rfl,?_⟩
  have z1:(hp.push (Wa b1 l1)).objs.size=hp.objs.size + 1:=Heap.size_push ..
  unfold zH5 zH2 at h
  simp only [Heap.size_push]
  exact h
theorem qBX {b1 b2:Bool} {l1 l2:Addr} {xs ys:Array Value} {Q:Value->Shared->Prop} (hl1:SqAt b1 l1 xs s.heap) (hl2:SqAt b2 l2 ys s.heap)
  (h:∀ h',IsZip h' (s.heap.objs.size + 4) (s.heap.objs.size + 2) (s.heap.objs.size + 3) .none->IsPair h' (s.heap.objs.size + 2) (.ref s.heap.objs.size) (.ref (s.heap.objs.size + 1)) ->
   IsPair h' (s.heap.objs.size + 3) .none .none->Src b1 s.heap.objs.size l1 xs 0 h'->Src b2 (s.heap.objs.size + 1) l2 ys 0 h' ->
   (∀ c o,s.heap.get? c=some o->h'.get? c=some o)->Q (.ref (s.heap.objs.size + 4)) { s with heap:=h' }) :
  wpAny (model prog w) A (call (.type "zip") [.ref l1,.ref l2]) Q E s:=by
 refine callType_new F.called_zip (by decide) (F.typeCall_zip_2 _ _) (F.newCall_zip_2 _ _) (fun obj=>F.args_object_init_3 obj _ _) F.entry_zip_new
  (qAB b1 b2 l1 l2 xs ys) ⟨hl1,hl2,?_⟩
 have z1:(s.heap.push (Wa b1 l1)).objs.size=s.heap.objs.size + 1:=Heap.size_push ..
 have z2:(zH2 b1 b2 s.heap l1 l2).objs.size=s.heap.objs.size + 2:=by unfold zH2;rw [Heap.size_push,z1]
 have g5:(zH5 b1 b2 s.heap l1 l2).get? (s.heap.objs.size + 4)=some { cls := .type "zip",data := .fields #[.none,.bool false,.bool false,.ref (s.heap.objs.size + 2),.ref (s.heap.objs.size + 3)] }:=by
  have:=Heap.get?_push_size (((zH2 b1 b2 s.heap l1 l2).push { cls := .type "tuple",data := .seq #[.ref s.heap.objs.size,.ref (s.heap.objs.size + 1)] }).push { cls := .type "tuple",data := .seq #[.none,.none] }) (o:={ cls := .type "zip",data := .fields #[.none,.bool false,.bool false,.ref (s.heap.objs.size + 2),.ref (s.heap.objs.size + 3)] }) rfl
  simp only [Heap.size_push,z2] at this
  exact this
 have g4:(zH5 b1 b2 s.heap l1 l2).get? (s.heap.objs.size + 3)=some { cls := .type "tuple",data := .seq #[.none,.none] }:=by
  have:=Heap.get?_push_size ((zH2 b1 b2 s.heap l1 l2).push { cls := .type "tuple",data := .seq #[.ref s.heap.objs.size,.ref (s.heap.objs.size + 1)] }) (o:={ cls := .type "tuple",data := .seq #[.none,.none] }) rfl
  simp only [Heap.size_push,z2] at this
  exact Heap.get?_push_of_some _ this
 have g3:(zH5 b1 b2 s.heap l1 l2).get? (s.heap.objs.size + 2)=some { cls := .type "tuple",data := .seq #[.ref s.heap.objs.size,.ref (s.heap.objs.size + 1)] }:=by
  have:=Heap.get?_push_size (zH2 b1 b2 s.heap l1 l2) (o:={ cls := .type "tuple",data := .seq #[.ref s.heap.objs.size,.ref (s.heap.objs.size + 1)] }) rfl
  rw [z2] at this
  exact Heap.get?_push_of_some _ (Heap.get?_push_of_some _ this)
 have up:∀ c o,(zH2 b1 b2 s.heap l1 l2).get? c=some o->(zH5 b1 b2 s.heap l1 l2).get? c=some o:=fun c o e=>Heap.get?_push_of_some _ (Heap.get?_push_of_some _ (Heap.get?_push_of_some _ e))
 have g2:(zH5 b1 b2 s.heap l1 l2).get? (s.heap.objs.size + 1)=some (Wa b2 l2):=by
  have:=Heap.get?_push_size (s.heap.push (Wa b1 l1)) (o:=Wa b2 l2) rfl
  rw [z1] at this
  exact up _ _ this
 have g1:(zH5 b1 b2 s.heap l1 l2).get? s.heap.objs.size=some (Wa b1 l1):=up _ _ (Heap.get?_push_of_some _ (Heap.get?_push_size _ rfl))
 have old:∀ c o,s.heap.get? c=some o->(zH5 b1 b2 s.heap l1 l2).get? c=some o:=fun c o e=>up _ _ (Heap.get?_push_of_some _ (Heap.get?_push_of_some _ e))
 show _∧_
 exact ⟨⟨_,g5,rfl⟩,h _ g5 g3 g4 ((hl1.at fun o e=>old _ o e).src g1) ((hl2.at fun o e=>old _ o e).src g2) old⟩
end
def SqG (b:Bool) (K:W.Frag) (H:Hp) (l:Addr) (xs:List V):Prop:=match b with
 |true=>SqT K H l xs
 |false=>SqL K H l xs
theorem yK {X:Cx} {pins:List (Addr×Obj)} {σ:L2.St} {H:Hp} {s:Shared} (I:L2.Inv X pins σ H s) {b:Bool} {l:Addr} {xs:List V} (h:SqG b X.K H l xs):∃ us:List Value,Vals xs us∧SqAt b l us.toArray s.heap:=by
 cases b
 ·obtain ⟨us,r,p,_⟩:=I.list h;exact ⟨us,r,p.isList⟩
 ·obtain ⟨us,r,p,_⟩:=I.tuple h;exact ⟨us,r,p⟩
theorem qA7 {X:Cx} {pins:List (Addr×Obj)} {σ:L2.St} {H:Hp} {s:Shared} (I:L2.Inv X pins σ H s) {b:Bool} {l:Addr} {xs ys:List V} (h:SqG b X.K H l xs) (h':SqG b X.K H l ys):xs=ys:=by
 cases b
 ·exact I.list_inj h h'
 ·exact I.tuple_inj h h'
def qHc (b1 b2:Bool) (K:W.Frag) (l1 l2:Addr):It :=
 ⟨fun i H => ∃ xs ys x y,SqG b1 K H l1 xs∧SqG b2 K H l2 ys∧xs[i]? = some x∧ys[i]? = some y,
  fun i H v H' => ∃ T x y,H T=none∧v = .ref T∧H'=upd H T (.tup [x,y]) ∧ ∀ xs ys,SqG b1 K H l1 xs->SqG b2 K H l2 ys->xs[i]? = some x∧ys[i]? = some y,
  fun i H => ∃ xs ys,SqG b1 K H l1 xs∧SqG b2 K H l2 ys∧(xs.length≤i∨ys.length≤i)⟩
def IterAt (b:Bool) (i l:Addr) (k:Nat) (h:Heap):Prop:=match b with
 |true=>h.IsTupleIter i l k
 |false=>h.IsListIter i l k
theorem IterAt.at {b:Bool} {i l:Addr} {k:Nat} {h h':Heap} (S:IterAt b i l k h) (e:∀ o,h.get? i=some o->h'.get? i=some o):IterAt b i l k h':=by
 cases b
 ·exact Heap.IsListIter.at S e
 ·exact Heap.IsTupleIter.at S e
theorem IterAt.here {b:Bool} {i l:Addr} {k:Nat} {h:Heap} (S:IterAt b i l k h):∃ o,h.get? i=some o ∧ ∃ vs,o.data = .fields vs:=by
 cases b
 ·obtain ⟨o,e,_,d⟩:=S;exact ⟨o,e,_,d⟩
 ·obtain ⟨o,e,_,d⟩:=S;exact ⟨o,e,_,d⟩
theorem IterAt.src {b:Bool} {i l:Addr} {k:Nat} {xs:Array Value} {h:Heap} (S:IterAt b i l k h) (S2:SqAt b l xs h):Src b i l xs k h:=by
 cases b
 ·exact ⟨S,S2⟩
 ·exact ⟨S,S2⟩
theorem Src.iter {b:Bool} {i l:Addr} {k:Nat} {xs:Array Value} {h:Heap} (S:Src b i l xs k h):IterAt b i l k h:=by
 cases b
 ·exact S.1
 ·exact S.1
def qDm (b1 b2:Bool) (z TI TO i1 i2 l1 l2:Addr) (i:Nat) (h:Heap):Prop:=IsZip h z TI TO .none∧IsPair h TI (.ref i1) (.ref i2)∧(∃ a b,IsPair h TO a b)∧IterAt b1 i1 l1 i h∧IterAt b2 i2 l2 i h
theorem qB6 {P:Program} {w:World} {K:W.Frag} {A:Around} {elts:List Expr} {n:Nat} {pos:Pos} (hA:A.handled=none) (b1 b2:Bool) (z TI TO i1 i2 l1 l2:Addr) (D:ZipApart z TI TO i1 i2 l1 l2) :
  Turn P w K A (.Tuple elts n pos) (qHc b1 b2 K l1 l2) [z,TI,TO,i1,i2] z (qDm b1 b2 z TI TO i1 i2 l1 l2) where
 mem:=by simp
 obj:=fun i h st b hb=>by
  obtain ⟨a1,a2,⟨a,c,a3⟩,s4,s5⟩:=st
  obtain ⟨o4,a4,_,d4⟩:=s4.here
  obtain ⟨o5,a5,_,d5⟩:=s5.here
  simp only [List.mem_cons,List.not_mem_nil,or_false] at hb
  rcases hb with rfl |rfl |rfl |rfl |rfl
  ·exact ⟨_,a1,fun v q=>by cases (show Data.fields _=Data.cell v from q)⟩
  ·exact ⟨_,a2,fun v q=>by cases (show Data.seq _ _=Data.cell v from q)⟩
  ·exact ⟨_,a3,fun v q=>by cases (show Data.seq _ _=Data.cell v from q)⟩
  ·exact ⟨_,a4,fun v q=>by rw [d4] at q;cases q⟩
  ·exact ⟨_,a5,fun v q=>by rw [d5] at q;cases q⟩
 keep:=fun i h h' st k=>by
  obtain ⟨a1,a2,⟨a,c,a3⟩,a4,a5⟩:=st
  exact ⟨k z (by simp) _ a1,k TI (by simp) _ a2,⟨a,c,k TO (by simp) _ a3⟩,a4.at fun o e=>k i1 (by simp) o e,a5.at fun o e=>k i2 (by simp) o e⟩
 item:=by
  intro X hP hw hK hA' i pins s σ H E I hf st hg
  subst hP hw hK
  obtain ⟨xs,ys,x,y,q1,q2,e1,e2⟩:=hg
  obtain ⟨a1,a2,⟨a,c,a3⟩,a4,a5⟩:=st
  obtain ⟨us,r1,p1⟩:=yK I q1
  obtain ⟨vs,r2,p2⟩:=yK I q2
  obtain ⟨u,g1,ru⟩:=r1.get e1
  obtain ⟨v,g2,rv⟩:=r2.get e2
  refine qBl D a1 a2 a3 (a4.src p1) (a5.src p2) (x:=u) (y:=v) (by simpa using g1) (by simpa using g2) fun h' z1 z2 z3 z4 z5 z7=>⟨_,rfl,?_⟩
  refine wpAny_letOwnedTupleGo_zip (s:={ s with heap:=h' }) z1 fun h2 y1 y2 => ?_
  have nz:s.heap.objs.size≠z:=Nat.ne_of_gt (Heap.lt_size a1)
  have oth:∀ b,b≠z->h2.get? b=h'.get? b:=fun b hb=>y2.2 b hb
  have tz:qDm b1 b2 z TI TO i1 i2 l1 l2 (i + 1) h2:=⟨y1,(oth TI D.TIz).trans (z7 TI _ D.TIz D.TITO D.TIi1 D.TIi2 a2),⟨u,v,(oth TO D.TOz).trans z2⟩,z3.iter.at fun o e=>(oth i1 D.i1z).trans e,z4.iter.at fun o e=>(oth i2 D.i2z).trans e⟩
  have hT:IsPair h2 s.heap.objs.size u v:=(oth _ nz).trans z5
  have I2:=qAv (t':=s.toks) (h':=h2) I hf ru rv (fun b o hb e=>(oth b fun q=>hb (by simp [q])).trans (z7 b o (fun q=>hb (by simp [q])) (fun q=>hb (by simp [q])) (fun q=>hb (by simp [q])) (fun q=>hb (by simp [q])) e)) (fun b hb=>by
   obtain ⟨b1,b2,⟨a',c',b3⟩,s4,s5⟩:=tz
   obtain ⟨o4,b4,_⟩:=s4.here
   obtain ⟨o5,b5,_⟩:=s5.here
   simp only [List.mem_cons,List.not_mem_nil,or_false] at hb
   rcases hb with rfl |rfl |rfl |rfl |rfl
   ·exact ⟨_,b1⟩
   ·exact ⟨_,b2⟩
   ·exact ⟨_,b3⟩
   ·exact ⟨_,b4⟩
   ·exact ⟨_,b5⟩) hT
  refine ⟨.ref s.heap.objs.size,_,I2,rfl,⟨_,x,y,I.hok.fresh (Nat.le_refl _),rfl,rfl,fun xs' ys' h1 h2 => ?_⟩,tz,fun b hb => ?_⟩
  ·rw [qA7 I h1 q1,qA7 I h2 q2];exact ⟨e1,e2⟩
  ·have:=(hf b hb).1
   have ne:b≠s.heap.objs.size:=by
    simp only [List.mem_cons,List.not_mem_nil,or_false] at hb
    obtain ⟨o4,b4,_⟩:=a4.here
    obtain ⟨o5,b5,_⟩:=a5.here
    rcases hb with rfl |rfl |rfl |rfl |rfl
    ·exact Nat.ne_of_lt (Heap.lt_size a1)
    ·exact Nat.ne_of_lt (Heap.lt_size a2)
    ·exact Nat.ne_of_lt (Heap.lt_size a3)
    ·exact Nat.ne_of_lt (Heap.lt_size b4)
    ·exact Nat.ne_of_lt (Heap.lt_size b5)
   rw [qQ ne];exact this
 done:=by
  intro X hP hw hK hA' i pins s σ H E I hf st hg
  subst hP hw hK
  obtain ⟨xs,ys,q1,q2,e1⟩:=hg
  obtain ⟨a1,a2,⟨a,c,a3⟩,a4,a5⟩:=st
  obtain ⟨us,r1,p1⟩:=yK I q1
  obtain ⟨vs,r2,p2⟩:=yK I q2
  have n1:=r1.length
  have n2:=r2.length
  refine qCR (by rw [hA'];exact hA) D a1 a2 a3 (a4.src p1) (a5.src p2) (e1.imp (fun q=>by simp;omega) fun q=>by simp;omega) fun h' k=>⟨rfl,?_⟩
  have nf:∀ b u,H b=some u->b ∉ [z,TI,TO,i1,i2]:=fun b u e q=>by rw [(hf b q).1] at e;cases e
  have kk:∀ b o,b ∉ [z,TI,TO,i1,i2]->s.heap.get? b=some o->h'.get? b=some o:=fun b o hb e=>k b o (fun q=>hb (by simp [q])) (fun q=>hb (by simp [q])) (fun q=>hb (by simp [q])) (fun q=>hb (by simp [q])) e
  exact I.call (g':=s.gens) (d':=s.drawn) (t':=s.toks) (ch:=[z,TI,TO,i1,i2]) ⟨fun b o e _ _ hb=>kk b o hb e,fun b o e _ _ hb=>⟨o.slots,kk b o hb e⟩,fun b o e n _=>n,fun b o e hb=>⟨o,kk b o hb e⟩,fun b xs e=>e,fun b o u e=>e,fun b ps e=>⟨#[],by rw [e];simp⟩⟩
   (fun b u' e=>(I.hok b u' e).stay (fun c w hc q=>kk c w (hc.elim (fun z=>by rw [z];exact nf _ _ e) fun z=>nf _ _ z) q) (fun c q=>q) fun c xs q=>q) I.bare fun b hb=>⟨(hf b hb).2.2.2.1,(hf b hb).2.1,(hf b hb).2.2.2.2.1,(hf b hb).2.2.2.2.2⟩
 self:=fun _ _ _ _ _ st h=>wpAny_pyIter_zip st.1 h
section
variable {X:Cx} {a b:Expr} {ta:TA} {p pos:Pos} {elts:List Expr} {n:Nat} {tpos:Pos}
def qHd (K:W.Frag) (ta:TA):TI:=fun σ H R=>ta σ H fun vs H1 => ∃ b1 b2 l1 l2,vs=[.ref l1,.ref l2]∧(∃ xs,SqG b1 K H1 l1 xs)∧(∃ ys,SqG b2 K H1 l2 ys)∧R (qHc b1 b2 K l1 l2) H1
theorem qFN (hc:X.calm=true) (hg:Gl X "zip") (hm:X.mg "zip" = none) (ha:PA X [a,b] ta) (he:starEach [a,b] X.env=(false,eval a X.env)::starEach [b] X.env:=by rfl) (hpl:(backTo pos (starEach [b] X.env)).any (·.1)=false:=by rfl) :
  PI X (.Tuple elts n tpos) (.Call (.Name "zip" p) [a,b] [] pos) (qHd X.K ta):=by
 intro pins s σ H R I h
 refine wpAny_Call_Name_kw (zK I hg hm PyProof.Rows.boot_zip ?_)
 refine PyProof.Rows.callWith_type1 (thn (ha pos pins s σ H _ I h) fun us s1 ⟨vs,H1,I1,r1,q1⟩ => ?_) he hpl
 obtain ⟨b1,b2,l1,l2,rfl,⟨xs,h1⟩,⟨ys,h2⟩,q⟩:=q1
 obtain ⟨u,v,rfl,ru,rv⟩:=jt r1
 cases ru
 cases rv
 obtain ⟨ts,r1,p1⟩:=yK I1 h1
 obtain ⟨ws,r2,p2⟩:=yK I1 h2
 refine qBX p1 p2 fun h' c1 c2 c3 c4 c5 c7 => ?_
 refine wpAny_pyIter_zip c1 ?_
 have lt1:l1 < s1.heap.objs.size:=by obtain ⟨_,e⟩:=p1.here;exact Heap.lt_size e
 have lt2:l2 < s1.heap.objs.size:=by obtain ⟨_,e⟩:=p2.here;exact Heap.lt_size e
 have I2:L2.Inv X pins σ H1 { s1 with heap:=h' }:=I1.kept (t':=s1.toks) c7
 refine ⟨_,_,_,_,H1,rfl,I2,qB6 (I1.ok.hd hc) b1 b2 _ _ _ _ _ _ _ (PyProof.Rows.zipApart_new lt1 lt2),⟨c1,c2,⟨_,_,c3⟩,c4.iter,c5.iter⟩,fun c hc' => ?_,q⟩
 have hle:s1.heap.objs.size≤c:=by
  simp only [List.mem_cons,List.not_mem_nil,or_false] at hc'
  rcases hc' with rfl |rfl |rfl |rfl |rfl
  ·exact Nat.le_add_right _ _
  ·exact Nat.le_add_right _ _
  ·exact Nat.le_add_right _ _
  ·exact Nat.le_refl _
  ·exact Nat.le_add_right _ _
 exact I1.fpOk hle (I1.hok.fresh hle)
end
end EX
namespace EV
open PySem PySem.Spec PyProof.Rows L2 EX
section
variable {X:Cx} {E:XK} {e a c d:Expr} {es:List Expr} {f fa fb fc:FE} {fl:FL} {pos:Pos} {F G:FS}
def kQ:PV->Bool
 | .tup _=>true
 |_=>false
theorem Zr {K:W.Frag} {H:Hp} {b:Bz} {st:qC} {p:PV} {v:V} {l:List PV} (S:SR K H b st) (r:RV K H b p v) (h:zM st p=some l) :
  ∃ x xs,v = .ref x∧SqG (kQ p) K H x xs∧RVs K H b l xs:=by
 unfold zM at h
 split at h
 ·cases h
  unfold RV at r
  obtain ⟨x,xs,rfl,h2,h3⟩:=r
  exact ⟨x,xs,rfl,h2.sq,h3⟩
 ·rename_i hp
  have:kQ p=false:=by unfold kQ;split <;> first |(exact absurd rfl (hp _)) |rfl
  rw [this]
  exact QX S r h
def qDb (ps:List PV) (st:qC):Rs ItP:=match ps with
 |[p,q]=>match zM st p,zM st q with
  |some l,some m => .ok ⟨zP l m,fun s=>zM s p=some l∧zM s q=some m⟩ st
  |_,_ => .no
 |_ => .no
def qBB (t:FA):FI:=fun r st=>(t r st).bind qDb
theorem qEM {elts:List Expr} {n:Nat} {tpos p:Pos} {t:FA} (hc:X.calm=true) (hm:X.mg "zip" = none) (ha:VA X E [a,c] t) (hg:Gl X "zip" := by rfl) (he:starEach [a,c] X.env=(false,eval a X.env)::starEach [c] X.env:=by rfl) (hpl:(backTo pos (starEach [c] X.env)).any (·.1)=false:=by rfl) :
  VI X E (.Tuple elts n tpos) (.Call (.Name "zip" p) [a,c] [] pos) (qBB t):=fun pins s σ H R I q=>qFN hc hg hm ha he hpl pins s σ H R I (by
 obtain ⟨b,r,st,S,RE,P⟩:=q
 refine ⟨b,r,st,S,RE,PostA.bindI P fun l s1 us H1 b1 e1 S1 r1 P1 => ?_⟩
 unfold qDb at P1
 split at P1
 ·rename_i p q
  obtain ⟨u,v,rfl,h1,h2⟩:=RVs.two r1
  split at P1
  ·rename_i l m el em
   obtain ⟨x,xs,rfl,k1,k2⟩:=Zr S1 h1 el
   obtain ⟨y,ys,rfl,k3,k4⟩:=Zr S1 h2 em
   refine ⟨kQ p,kQ q,x,y,rfl,⟨xs,k1⟩,⟨ys,k3⟩,P1 _ H1 b1 (Ext.refl _ _) S1 fun H2 b2 st2 e2 S2 g2 => ?_⟩
   obtain ⟨x',xs',ex,j1,j2⟩:=Zr S2 (RV.wext e2 p h1) g2.1
   cases ex
   obtain ⟨y',ys',ey,j3,j4⟩:=Zr S2 (RV.wext e2 q h2) g2.2
   cases ey
   refine ⟨fun i w hw => ?_,fun i hi => ?_⟩
   ·obtain ⟨x1,y1,w1,w2,rfl⟩:=Zw hw
    obtain ⟨v1,z1,z2⟩:=j2.get w1
    obtain ⟨v2,z3,z4⟩:=j4.get w2
    refine ⟨⟨xs',ys',v1,v2,j1,j3,z1,z3⟩,fun z H3 ⟨T,a1,a2,hn,hz,hH,ha⟩ => ?_⟩
    subst hz;subst hH
    obtain ⟨q1,q2⟩:=ha xs' ys' j1 j3
    rw [z1] at q1;cases q1
    rw [z3] at q2;cases q2
    refine ⟨fun b' o h=>by rw [qQ (qO h hn)];exact h,S2.new hn,?_⟩
    unfold RV
    exact ⟨T,_,rfl,.inl ⟨QD,S2.new_notin hn⟩,RVs.cons (RV.wext (WE.new hn) _ z2) (RVs.cons (RV.wext (WE.new hn) _ z4) RVs.nil)⟩
   ·have hi:min l.length m.length≤i:=by rw [← Z5];exact hi
    exact ⟨xs',ys',j1,j3,by rw [← j2.length,← j4.length];omega⟩
  ·exact P1.elim
 ·exact P1.elim)
end
end EV
end
section
namespace EV
open PySem PySem.Spec PyProof.Rows L2 EX
section
variable {X:Cx} {E:XK}
def qHG (sc:Scope) (x:Str):Bool:=match sc.names.lookup x with
 |some .local=>true
 |some .cell=>true
 |some .free=>true
 |_=>false
theorem qGf {sc:Scope} {x:Str} (h:qHG sc x=true):Vis sc x:=by
 unfold qHG at h
 unfold Vis
 split at h
 ·rename_i e;exact .inl e
 ·rename_i e;exact .inr (.inl e)
 ·rename_i e;exact .inr (.inr e)
 ·cases h
theorem qH (i:Nat) {x:Str} {pos:Pos} (hN:X.N[i]? = some x:=by rfl) (hv:qHG X.env.scope x=true:=by rfl) (hd:((x==("__debug__":Str)) || (x==("__classdict__":Str)))=false:=by rfl):VE X E (.Name x pos) (qB i):=by
 rw [Bool.or_eq_false_iff] at hd
 exact qHt (pv i hN (qGf hv) hd.1 hd.2)
def frB (X:Cx):List (Str×NameKind)->Bool
 |[]=>true
 |(x,.free)::l=>(match X.env.kindOf x with |some .cell=>true |some .free=>true |_=>false)&&frB X l
 |_::l=>frB X l
theorem qDi:∀ {l:List (Str×NameKind)},frB X l=true -> ∀ x∈l,x.2 = .free->(X.env.kindOf x.1=some .cell∨X.env.kindOf x.1=some .free)
 |[],_,x,hx,_=>by cases hx
 |(y,k)::l,h,x,hx,hk=>by
  rcases List.mem_cons.mp hx with rfl |hx
  ·have hk:k = .free:=hk
   subst hk
   unfold frB at h
   rw [Bool.and_eq_true] at h
   have h:=h.1
   split at h
   ·rename_i e;exact .inl e
   ·rename_i e;exact .inr e
   ·cases h
  ·refine qDi (l:=l) ?_ x hx hk
   unfold frB at h
   split at h
   ·rename_i he;cases he
   ·rename_i he;cases he;rw [Bool.and_eq_true] at h;exact h.2
   ·rename_i he;cases he;exact h
def qEw (X:Cx) (l:List (Str×NameKind)):List Str->List Nat->Prop
 |x::xs,j::js=>(X.N[j]? = some x∧l.lookup x=some .free)∧qEw X l xs js
 |_,_=>True
theorem YU {x:Str} {k:NameKind}:∀ {l:List (Str×NameKind)},l.lookup x=some k->(x,k)∈l
 |[],h=>by cases h
 |(y,q)::l,h=>by
  rw [List.lookup_cons] at h
  split at h
  ·rename_i e;cases h;rw [eq_of_beq e];exact List.mem_cons_self
  ·exact List.mem_cons_of_mem _ (YU h)
theorem qAu {l:List (Str×NameKind)}:∀ {xs:List Str} {js:List Nat},qEw X l xs js -> ∀ (i:Nat) (x:Str) (j:Nat),xs[i]? = some x->js[i]? = some j->X.N[j]? = some x∧(x,NameKind.free)∈l
 |[],_,_,i,x,j,h1,_=>by cases h1
 |_::_,[],_,i,x,j,_,h2=>by cases h2
 |a::xs,b::js,h,i,x,j,h1,h2=>by
  unfold qEw at h
  cases i with
  |zero=>cases h1;cases h2;exact ⟨h.1.1,YU h.1.2⟩
  |succ i=>exact qAu h.2 i x j h1 h2
theorem Qz {scope:Scope} {capN locN:List Str} {caps:List Nat} (h1:scope.kind = .function) (h2:(scope.names.map (·.1)).Nodup) (h3:frB X scope.names=true) (h4:capN.length=caps.length) (h5:qEw X scope.names capN caps):CSc X scope capN locN caps :=
 ⟨h1,h2,qDi h3,h4,qAu h5⟩
end
end EV
end
section
namespace EX
open PySem PySem.Spec PyProof.Rows L2
end EX
namespace EV
open PySem PySem.Spec PyProof.Rows L2 EX
end EV
end
section
namespace EV
open PySem PySem.Spec PyProof.Rows L2 EX
section
variable {X:Cx} {E:XK} {e:Expr} {es:List Expr} {pos:Pos}
theorem qIv {a:Expr} {n:Str} {f:FE} {g:FA} (h:VE X E (.Attribute a n pos) f) (h2:VA X E es g):VA X E (.Attribute a n pos::es) (qA f g):=Qy h h2 rfl
end
end EV
end
section
namespace EX
open PySem PySem.Spec PyProof.Rows L2
theorem W8:fillsNumberSlot (.type "tuple") "mul" = pure false :=
 PySem.fillsNumberSlot_seq (id := "tuple.__mul__") (r:=some (.builtin "tuple.__rmul__")) F.slot_tuple_mul.lookup (by decide +kernel) F.slot_tuple_rmul.lookup (by decide +kernel)
theorem Zs:seqRepeat? (.type "tuple")=pure (some (.builtin "tuple.__mul__")):=by
 unfold seqRepeat?
 rw [PySem.seqSlot_of (T := "tuple") (name := "__mul__") (id := "tuple.__mul__") F.slot_tuple_mul.lookup (by decide +kernel),PySem.seqSlot_of (T := "tuple") (name := "__rmul__") (id := "tuple.__rmul__") F.slot_tuple_rmul.lookup (by decide +kernel)]
 rfl
theorem yB (a:Int) (t:Tok) (l:Addr) (items:Array Value) (n:Nat) (d:Option Addr) (sl:Array (Option Value)) :
  Meets (Builtin.«int.__rmul__» ⟨[.int a t,.ref l],[]⟩) (fun _ R s=>s.heap.get? l=some { cls := .type "tuple",dict:=d,data := .seq items n,slots:=sl }∧R (.ok (.ret Value.notImplemented)) s) :=
 .of_wp fun prog w A R s h=>by obtain ⟨hp,g,d,tk,os⟩:=s;obtain ⟨hl,h⟩:=h;wp_walk;exact ⟨_,rfl,h⟩
theorem JU (l:Addr) (items:Array Value) (n:Nat) (d:Option Addr) (sl:Array (Option Value)) (u:Tok) :
  Meets (Builtin.«tuple.__mul__» ⟨[.ref l,.int 1 u],[]⟩) (fun _ R s=>s.heap.get? l=some { cls := .type "tuple",dict:=d,data := .seq items n,slots:=sl }∧R (.ok (.ret (.ref l))) s) :=
 .of_wp fun prog w A R s h=>by
  obtain ⟨hp,g,d,tk,os⟩:=s;obtain ⟨hl,h⟩:=h
  have f1:=PySem.AutoSeq1.idx_int
  wp_walk using wpAny_loadPart' hl
  exact ⟨_,rfl,h⟩
theorem qAb (l:Addr) (items:Array Value) (n:Nat) (d:Option Addr) (sl:Array (Option Value)) (x:Int) (u:Tok) (h0:¬(x < -(2 ^ 63) || x ≥ 2 ^ 63)=true) (h1:¬(items.isEmpty || x==1)=true) (h2:¬(x≤0 || items.isEmpty)=true) (h3:¬items.size * x > (2 ^ 63 - 1) / 8) (h4:¬Builtin.Tuple.tupleTooMany (items.size * x)=true) (hsz:(List.foldl (fun x1 x2=>x1++x2) #[] (List.replicate x.toNat items)).size≤sizeLine) :
  Meets (Builtin.«tuple.__mul__» ⟨[.ref l,.int x u],[]⟩) (fun _ R s=>s.heap.get? l=some { cls := .type "tuple",dict:=d,data := .seq items n,slots:=sl }∧R (.ok (.ret (.ref s.heap.objs.size))) { s with heap:=s.heap.push { cls := .type "tuple",data := .seq (List.foldl (fun x1 x2=>x1++x2) #[] (List.replicate x.toNat items)) } }) :=
 .of_wp fun prog w A R s h=>by
  obtain ⟨hp,g,d,tk,os⟩:=s;obtain ⟨hl,h⟩:=h
  have f1:=PySem.AutoSeq1.idx_int
  wp_walk using wpAny_loadPart' hl
  rw [if_neg h0]
  wp_walk using wpAny_loadPart' hl
  rw [if_neg h3]
  wp_walk
  exact ⟨_,rfl,h⟩
section
variable {X:Cx}
def qFe (K:W.Frag):R2:=fun x y H Q => ∃ l k xs,x = .ref l∧y = .int k∧SqT K H l xs∧1≤k∧k < 2 ^ 40∧xs≠[]∧xs.length * k.toNat≤sizeLine ∧
 (k=1->Q (.ref l) H)∧(k≠1 -> ∀ p,H p=none->Q (.ref p) (upd H p (.tup (List.replicate k.toNat xs).flatten)))
theorem qFS:OpR X (binaryOp .Mult) (qFe X.K):=by
 intro pins s σ H x y v u Q I rx ry h
 obtain ⟨l,k,xs,rfl,rfl,hH,h1,h2,hne,hz,q1,q2⟩:=h
 cases rx
 obtain ⟨t,rfl⟩:=ry
 obtain ⟨its,r,p1,_⟩:=I.tuple hH
 obtain ⟨⟨c1,d1,a1,s1⟩,e,e1,m1,f1⟩:=id p1
 have e1:c1=_:=e1
 have f1:a1=_:=f1
 subst e1;subst f1
 have hl:=r.length
 have hne':its≠[]:=fun z=>hne (List.length_eq_zero_iff.mp (by rw [hl,z];rfl))
 refine wpAny_binaryOp_repeat_ref (T := "tuple") (U := "int") (by decide) ⟨_,e,rfl⟩ (fun s'=>typeIs_int s' k t) W8 F.fills_int_mul F.slot_int_rmul Zs F.slot_int_index.lookup
  (call_meets F.slot_int_rmul (typeIs_int s k t) F.entry_int_rmul (F.args_int_rmul_2 _ _) (yB k t l its.toArray m1 d1 s1)
   ⟨e,rfl,⟨_,e,rfl⟩,?_⟩)
 by_cases hk:k=1
 ·subst hk
  exact call_meets F.slot_tuple_mul ⟨_,e,rfl⟩ F.entry_tuple_mul (F.args_tuple_mul_2 _ _) (JU l its.toArray m1 d1 s1 t) ⟨e,.ref l,H,I,rfl,q1 rfl⟩
 ·have em:its.toArray.isEmpty=false:=by cases its with
   |nil=>exact absurd rfl hne'
   |cons a b=>rfl
  have hlen:its.toArray.size * k.toNat≤sizeLine:=by rw [List.size_toArray,← hl];exact hz
  have hle:(sizeLine:Nat)=2 ^ 24:=sizeLine_eq
  have hc:(its.toArray.size:Int) * k=((its.toArray.size * k.toNat:Nat):Int):=by rw [Int.natCast_mul,Int.toNat_of_nonneg (by omega)]
  have hnew:List.foldl (fun x1 x2=>x1++x2) #[] (List.replicate k.toNat its.toArray)=(List.replicate k.toNat its).flatten.toArray:=by
   have:=Yk its k.toNat []
   rw [List.nil_append] at this
   exact this
  have hsz:(List.foldl (fun x1 x2=>x1++x2) #[] (List.replicate k.toNat its.toArray)).size≤sizeLine:=by
   rw [hnew,List.size_toArray,qBN,Nat.mul_comm];rw [List.size_toArray] at hlen;exact hlen
  refine call_meets F.slot_tuple_mul ⟨_,e,rfl⟩ F.entry_tuple_mul (F.args_tuple_mul_2 _ _) (qAb l its.toArray m1 d1 s1 k t (by simp;omega) (by rw [em];simpa using hk) (by rw [em];simp;omega) (by rw [hc];omega) (by unfold Builtin.Tuple.tupleTooMany;rw [hc];simp only [decide_eq_true_eq];omega) hsz) ⟨e,?_⟩
  have rr:Vals (List.replicate k.toNat xs).flatten (List.replicate k.toNat its).flatten:=r.rep k.toNat
  rw [hnew]
  refine ⟨.ref _,_,I.laid (t':=s.toks) (o := .tup (List.replicate k.toNat xs).flatten) (fun _ _ q=>Heap.get?_push_of_some _ q) (Nat.le_refl _) ⟨by rw [qBN,Nat.mul_comm];exact hz,_,rr,IsTup.new s.heap _⟩,rfl,q2 hk _ I.fresh⟩
end
end EX
namespace EV
open PySem PySem.Spec PyProof.Rows L2 EX
end EV
end
section
namespace EX
open PySem PySem.Spec PyProof.Rows L2
theorem j0 (l:Addr) (items:Array Value) (n:Nat) (d:Option Addr) (sl:Array (Option Value)) (x:Int) (u:Tok) (h0:¬(x < -(2 ^ 63) || x ≥ 2 ^ 63)=true) (h1:¬(items.isEmpty || x==1)=true) (h2:(x≤0 || items.isEmpty)=true) :
  Meets (Builtin.«tuple.__mul__» ⟨[.ref l,.int x u],[]⟩) (fun _ R s=>s.heap.get? l=some { cls := .type "tuple",dict:=d,data := .seq items n,slots:=sl }∧R (.ok (.ret (.ref s.heap.objs.size))) { s with heap:=s.heap.push { cls := .type "tuple",data := .seq #[] } }) :=
 .of_wp fun prog w A R s h=>by
  obtain ⟨hp,g,d,tk,os⟩:=s;obtain ⟨hl,h⟩:=h
  have f1:=PySem.AutoSeq1.idx_int
  wp_walk using wpAny_loadPart' hl
  rw [if_neg h0]
  wp_walk using wpAny_loadPart' hl
  exact ⟨_,rfl,h⟩
section
variable {X:Cx}
def qGv (K:W.Frag):R2:=fun x y H Q=>qFe K x y H Q ∨ ∃ l k xs,x = .ref l∧y = .int k∧SqT K H l xs∧k≤0 ∧ -(2 ^ 40) < k∧xs≠[] ∧ ∀ p,H p=none->Q (.ref p) (upd H p (.tup []))
theorem qDy:OpR X (binaryOp .Mult) (qGv X.K):=by
 intro pins s σ H x y v u Q I rx ry h
 rcases h with h |⟨l,k,xs,rfl,rfl,hH,h1,h2,hne,q⟩
 ·exact qFS pins s σ H x y v u Q I rx ry h
 cases rx
 obtain ⟨t,rfl⟩:=ry
 obtain ⟨its,r,p1,_⟩:=I.tuple hH
 obtain ⟨⟨c1,d1,a1,s1⟩,e,e1,m1,f1⟩:=id p1
 have e1:c1=_:=e1
 have f1:a1=_:=f1
 subst e1;subst f1
 have em:its.toArray.isEmpty=false:=by cases its with
  |nil=>exact absurd (List.length_eq_zero_iff.mp (by rw [r.length];rfl)) hne
  |cons a b=>rfl
 refine wpAny_binaryOp_repeat_ref (T := "tuple") (U := "int") (by decide) ⟨_,e,rfl⟩ (fun s'=>typeIs_int s' k t) W8 F.fills_int_mul F.slot_int_rmul Zs F.slot_int_index.lookup
  (call_meets F.slot_int_rmul (typeIs_int s k t) F.entry_int_rmul (F.args_int_rmul_2 _ _) (yB k t l its.toArray m1 d1 s1)
   ⟨e,rfl,⟨_,e,rfl⟩,?_⟩)
 refine call_meets F.slot_tuple_mul ⟨_,e,rfl⟩ F.entry_tuple_mul (F.args_tuple_mul_2 _ _) (j0 l its.toArray m1 d1 s1 k t (by simp;omega) (by rw [em];simp;omega) (by rw [em];simp;omega)) ⟨e,?_⟩
 exact ⟨.ref _,_,I.laid (t':=s.toks) (o := .tup []) (fun _ _ q=>Heap.get?_push_of_some _ q) (Nat.le_refl _) ⟨Nat.zero_le _,[],.nil,IsTup.new s.heap _⟩,rfl,q _ I.fresh⟩
end
end EX
namespace EV
open PySem PySem.Spec PyProof.Rows L2 EX
section
variable {X:Cx} {E:XK} {e a c d o:Expr} {es:List Expr} {f fa fb fc fd fk fx:FE} {pos:Pos} {F G:FS}
def yF:PV->PV->qC->Rs PV:=fun p q st=>match p,q with
 | .tup l,.int k=>if l≠[] ∧ -(2 ^ 40) < k∧k < 2 ^ 40∧l.length * k.toNat≤sizeLine then .ok (.tup (List.replicate k.toNat l).flatten) st else .no
 |_,_ => .no
theorem qCb (ha:VE X E a fa) (hb:VE X E c fb):VE X E (.BinOp a .Mult c pos) (qL yF fa fb):=ZZ qDy (fun H b st p q u v Q S rp rq P=>by
 unfold yF at P
 split at P
 ·rename_i l k
  split at P
  ·rename_i hl
   have rp0:=rp
   unfold RV at rp rq
   obtain ⟨x,xs,rfl,h2,h3⟩:=rp
   subst rq
   have n1:=h3.length
   have hne:xs≠[]:=fun z=>hl.1 (List.length_eq_zero_iff.mp (by rw [n1,z];rfl))
   by_cases hk:k≤0
   ·refine .inr ⟨x,k,xs,rfl,rfl,h2.sq,hk,hl.2.1,hne,fun w hw => ?_⟩
    rw [show k.toNat=0 by omega] at P
    exact PostE.layT P S RVs.nil hw
   refine .inl ⟨x,k,xs,rfl,rfl,h2.sq,by omega,hl.2.2.1,hne,by rw [← n1];exact hl.2.2.2,fun z => ?_,fun _ w hw=>PostE.layT P S (h3.rep k.toNat) hw⟩
   subst z
   have:(List.replicate (1:Int).toNat l).flatten=l:=by simp
   rw [this] at P
   exact PostE.here P S rp0
  ·exact P.elim
 ·exact P.elim) ha hb
end
end EV
end
section
namespace EX
open PySem PySem.Spec PyProof.Rows L2
end EX
namespace EV
open PySem PySem.Spec PyProof.Rows L2 EX
end EV
end
section
namespace EV
open PySem PySem.Spec PyProof.Rows L2 EX
section
variable {X:Cx} {E:XK} {e a c d:Expr} {es:List Expr} {f fa fb fc:FE} {fl:FL} {pos:Pos} {F G:FS}
def qD8 (f:FE) (lo hi:FO):FE:=fun r st=>(f r st).bind fun p s1=>(lo r s1).bind fun k s2=>(hi r s2).bind fun m s3=>match asL s3 p with
 |some l => .ok (.lst (QQ l k m)) s3
 |none => .no
theorem qFO {l:List PV} {xs:List V} (h:l.length=xs.length) {K:W.Frag} {H:Hp} {b:Bz} (r:RVs K H b l xs) (k m:Option Int):RVs K H b (QQ l k m) (Yb xs k m):=by
 unfold QQ Yb
 rw [h]
 exact RVs.take _ (RVs.drop _ r)
theorem qD7 {lo hi:Option Expr} {flo fhi:FO} {p2:Pos} (h:VE X E e f) (hl:VO X E lo flo) (hh:VO X E hi fhi):VE X E (.Subscript e (.Slice lo hi none p2) pos) (qD8 f flo fhi) :=
 PE.imp (Jh qFK h hl hh) fun s H Q ⟨b,r,st,S,R,P⟩=>⟨b,r,st,S,R,PostE.bind P fun p s1 u H1 b1 e1 S1 r1 P1=>⟨b1,r,s1,S1,R.ext e1,PostO.bind P1 fun k s2 H2 b2 e2 S2 P2=>⟨b2,r,s2,S2,(R.ext e1).ext e2,PostO.bind P2 fun m s3 H3 b3 e3 S3 P3=>by
  split at P3
  ·rename_i l el
   obtain ⟨x,xs,rfl,h2,h3⟩:=QX S3 (RV.ext e3 _ (RV.ext e2 _ r1)) el
   refine ⟨x,xs,rfl,h2,fun p hp=>PostN.lay (PostN.of (r := .ok (QQ l k m) s3) P3) S3 (qFO h3.length h3 k m) hp⟩
  ·exact P3.elim⟩⟩⟩
end
end EV
end
section
namespace EX
open PySem PySem.Spec PyProof.Rows L2
end EX
namespace EV
open PySem PySem.Spec PyProof.Rows L2 EX
end EV
end
section
namespace EX
open PySem PySem.Spec PyProof.Rows L2
def byT (w:World):Bool:=w.params.followText "set-order"
def qCU:List Nat->List (List Nat)
 |[]=>[[]]
 |x::xs=>qCU xs++(qCU xs).map (x :: ·)
def Wp (k:Nat):List (List Nat):=(qCU (List.range 8)).filter fun l=>Nat.beq l.length k
def YR (place:Array Nat):SetTable:=⟨7,place,#[],0,true,0,true⟩
def qCK (pl:List Nat) (k:Nat) (h:Int):Bool:=match (YR pl.toArray).freeSlot h with
 |some (slot,false)=>decide ((SetTable.insertAt pl.toArray (SetTable.below pl.toArray slot) slot).toList∈Wp (k + 1))
 |_=>false
theorem qDH:([0,1,2,3].all fun k=>(Wp k).all fun pl=>[1,2,3,4,5,6,7,8,9].all fun h=>qCK pl k h)=true:=by decide +kernel
structure TbOk (w:World) (t:SetTable) (k:Nat):Prop where
 mask:t.mask=7
 dum:t.dummies = #[]
 led:t.led = !byT w
 pl:t.plain=true
 ris:t.place.toList∈Wp k
def SetI (w:World) (h:Heap) (a:Addr) (ns:List Int):Prop := ∃ o es ep t,h.get? a=some o∧o.ExactSet∧o.data=Data.set es ep t∧(∀ e∈es.toList,(∃ tk,e.2=Value.int e.1 tk)∧1≤e.1∧e.1≤9)∧es.toList.map (·.1)=ns∧TbOk w t ns.length
theorem ZO {k:Nat} {l:List Nat} (h:l∈Wp k):l.length=k:=by
 unfold Wp at h
 exact Nat.eq_of_beq_eq_true (List.mem_filter.mp h).2
theorem qG0 {n:Int} (h1:1≤n) (h2:n≤9):n∈([1,2,3,4,5,6,7,8,9]:List Int):=by
 have:n=1∨n=2∨n=3∨n=4∨n=5∨n=6∨n=7∨n=8∨n=9:=by omega
 simp only [List.mem_cons,List.not_mem_nil,or_false]
 exact this
theorem qDZ {n:Int} (h1:1≤n) (h2:n≤9):hashInt n=n:=by
 have:n=1∨n=2∨n=3∨n=4∨n=5∨n=6∨n=7∨n=8∨n=9:=by omega
 rcases this with rfl |rfl |rfl |rfl |rfl |rfl |rfl |rfl |rfl <;> rfl
theorem Jm {t:SetTable} (hm:t.mask=7) (hd:t.dummies = #[]) (f:Nat->Int) (h:Int):∀ (n:Nat) (p:SetTable.Probe),SetTable.probe.go t f h n p=SetTable.probe.go (YR t.place) f h n p:=by
 intro n
 obtain ⟨m,pl,d,fi,le,mo,pn⟩:=t
 have hm:m=7:=hm
 have hd:d = #[]:=hd
 subst hm;subst hd
 induction n with
 |zero=>intro p;rfl
 |succ n ih =>
  intro p
  rw [SetTable.probe.go,SetTable.probe.go]
  simp only [ih]
  rfl
theorem yu {t:SetTable} (hm:t.mask=7) (hd:t.dummies = #[]) (h:Int):t.freeSlot h=(YR t.place).freeSlot h:=by
 have e0:(YR t.place).probeStart h=t.probeStart h:=by unfold SetTable.probeStart YR;rw [hm]
 unfold SetTable.freeSlot SetTable.probe
 rw [Jm hm hd,e0,hm]
 rfl
theorem qEv {w:World} {t:SetTable} {k:Nat} {h:Int} (T:TbOk w t k) (hk:k≤3) (h1:1≤h) (h2:h≤9):∃ slot,t.freeSlot h=some (slot,false)∧(SetTable.insertAt t.place (SetTable.below t.place slot) slot).toList∈Wp (k + 1):=by
 have hk':k∈[0,1,2,3]:=by
  have:k=0∨k=1∨k=2∨k=3:=by omega
  simp only [List.mem_cons,List.not_mem_nil,or_false];exact this
 have e:=List.all_eq_true.mp (List.all_eq_true.mp (List.all_eq_true.mp qDH k hk') _ T.ris) h (qG0 h1 h2)
 unfold qCK at e
 rw [yu T.mask T.dum]
 have et:t.place.toList.toArray=t.place:=by simp
 rw [et] at e
 split at e
 ·rename_i slot es
  exact ⟨slot,es,of_decide_eq_true e⟩
 ·cases e
section
variable {prog:Program} {w:World} {A:Around} {E:Value->Shared->Prop} {s:Shared}
theorem qDk {es:List (Int×Value)} (h:∀ e∈es,(∃ tk,e.2=Value.int e.1 tk)∧1≤e.1∧e.1≤9):ElemsOf (intKind prog w) es:=fun e he=>by
 obtain ⟨⟨tk,h1⟩,h2,h3⟩:=h e he
 refine ⟨⟨e.1,?_,(qDZ h2 h3).symm⟩,?_⟩
 ·rw [h1];exact intKind_is prog w e.1 tk
 ·rw [h1];rfl
theorem qG6 {k n:Int} {tk:Tok}:(intKind prog w).is k (.int n tk)=decide (n=k):=by
 by_cases h:n=k
 ·subst h;rw [intKind_is];exact (decide_eq_true rfl).symm
 ·rw [decide_eq_false h]
  cases e:(intKind prog w).is k (.int n tk) with
  |false=>rfl
  |true=>exact absurd ((intKind prog w).inj _ _ _ (intKind_is prog w n tk) e) h
theorem qER {a:Addr} {k:Int} {tk:Tok} {ns:List Int} {Q:Bool->Shared->Prop} (S:SetI w s.heap a ns) (hn:ns.length≤3) (h1:1≤k) (h2:k≤9)
  (h:∀ (h':Heap) (ns':List Int),Heap.SameBut a s.heap h'->SetI w h' a ns'->ns'.Perm (if k∈ns then ns else ns++[k])->Q (decide (k ∉ ns)) { s with heap:=h' }):wpAny (model prog w) A (setAddHashed a (.int k tk) k) Q E s:=by
 obtain ⟨o,es,ep,t,ho,hx,hd,hes,hm,T⟩:=S
 have hsz:es.size=ns.length:=by rw [← hm,List.length_map,Array.length_toList]
 have hfit:t.fits es.size=true:=by
  unfold SetTable.fits
  rw [Bool.and_eq_true]
  have:=ZO T.ris
  rw [Array.length_toList] at this
  refine ⟨by rw [this,hsz];exact beq_self_eq_true _,decide_eq_true ?_⟩
  unfold SetTable.fill
  rw [T.dum,T.mask,this]
  show ns.length + 0≤7
  omega
 have hel:=qDk (prog:=prog) (w:=w) hes
 have hk:=qDZ h1 h2
 unfold setAddHashed
 refine wpAny_holding ?_
 rw [setAddHashedIn.eq_def]
 refine wpAny_bind (wpAny_setState_of ho hd hfit ?_)
 dsimp only
 rw [if_pos (byScan_of (knd:=intKind prog w) (x := .int k tk) rfl (by rw [hsz];exact Nat.lt_of_le_of_lt hn (by decide)) hel)]
 refine wpAny_bind ?_
 rw [setAddByScan.eq_def]
 refine wpAny_bind (wpAny_rule (wpAny_bind ?_))
 have hscan := @wpAny_setScan_of prog w Int _ (intKind prog w) A E s a o es ep t (.int k tk) k true
 rw [show (intKind prog w).hash k=k from hk] at hscan
 refine hscan (intKind_is prog w k tk) ho hd hfit hel ?_
 have hfind:∀ l:List (Int×Value),(∀ e∈l,(∃ tk,e.2=Value.int e.1 tk)∧1≤e.1∧e.1≤9)->(l.findIdx? fun e=>(intKind prog w).is k e.2).isSome=decide (k∈l.map (·.1)):=by
  intro l hl
  induction l with
  |nil=>rfl
  |cons e l ih =>
   obtain ⟨⟨tk',he⟩,_⟩:=hl e List.mem_cons_self
   rw [List.findIdx?_cons,he,qG6]
   by_cases hq:e.1=k
   ·rw [if_pos (by rw [decide_eq_true hq])]
    exact (decide_eq_true (by rw [List.map_cons,hq];exact List.mem_cons_self)).symm
   ·rw [if_neg (by rw [decide_eq_false hq];simp),Option.isSome_map,ih fun x hx=>hl x (List.mem_cons_of_mem _ hx)]
    refine decide_eq_decide.mpr ⟨fun z=>List.mem_cons_of_mem _ z,fun z => ?_⟩
    rcases List.mem_cons.mp z with z |z
    ·exact absurd z.symm hq
    ·exact z
 have hf:=hfind es.toList hes
 rw [hm] at hf
 cases hi:es.toList.findIdx? fun e=>(intKind prog w).is k e.2 with
 |some j =>
  rw [hi] at hf
  have hk:k∈ns:=of_decide_eq_true hf.symm
  dsimp only
  refine wpAny_pure (wpAny_pure ?_)
  have:=h s.heap ns ⟨rfl,fun _ _=>rfl⟩ ⟨o,es,ep,t,ho,hx,hd,hes,hm,T⟩ (by rw [if_pos hk])
  rw [decide_eq_false (not_not_intro hk)] at this
  exact this
 |none =>
  rw [hi] at hf
  have hk':k ∉ ns:=of_decide_eq_false hf.symm
  dsimp only
  obtain ⟨slot,hs1,hs2⟩:=qEv T hn h1 h2
  have hT1:TbOk w (t.put slot).1 (ns.length + 1):=by
   refine ⟨T.mask,?_,T.led,T.pl,hs2⟩
   show (if SetTable.has t.dummies slot=true then SetTable.eraseAt t.dummies (SetTable.below t.dummies slot) else t.dummies) = #[]
   rw [T.dum]
   rfl
  have hsz1:(SetTable.insertAt es (t.put slot).2 (k,Value.int k tk)).size=ns.length + 1:=by
   unfold SetTable.insertAt
   simp only [Array.size_append,Array.size_push,Array.size_extract]
   omega
  have hfit1:(t.put slot).1.fits (ns.length + 1)=true:=by
   unfold SetTable.fits
   rw [Bool.and_eq_true]
   have:=ZO hT1.ris
   rw [Array.length_toList] at this
   refine ⟨by rw [this];exact beq_self_eq_true _,decide_eq_true ?_⟩
   unfold SetTable.fill
   rw [hT1.dum,hT1.mask,this]
   show ns.length + 1 + 0≤7
   omega
  have hl:layNew t es k (.int k tk)=(SetTable.insertAt es (t.put slot).2 (k,.int k tk),(t.put slot).1,false,false):=by
   unfold layNew
   rw [hs1]
   show (SetTable.insertAt es (t.put slot).2 (k,Value.int k tk),(t.put slot).1.orStandIn (SetTable.insertAt es (t.put slot).2 (k,Value.int k tk)).size,false,!(t.put slot).1.fits (SetTable.insertAt es (t.put slot).2 (k,Value.int k tk)).size)=_
   rw [hsz1]
   unfold SetTable.orStandIn
   rw [if_pos hfit1,hfit1]
   rfl
  have hperm:=layNew_perm t es k (.int k tk)
  rw [hl] at hperm ⊢
  dsimp only
  refine wpAny_bind (wpAny_of_eq (a:=()) (by with_unfolding_all rfl) ?_)
  rw [if_pos hT1.pl]
  refine wpAny_bind (wpAny_of_eq (a:=true) (by rw [hashByValue_scannable 8 (x := .int k tk) rfl];rfl) ?_)
  rw [if_pos rfl]
  refine wpAny_bind (wpAny_storeSet_of ho hd ?_ (by rw [hsz1];exact Nat.le_trans (Nat.succ_le_succ hn) (by decide)))
  have hfull:(t.put slot).1.tooFull=false:=by
   unfold SetTable.tooFull
   refine decide_eq_false ?_
   have:=ZO hT1.ris
   rw [Array.length_toList] at this
   unfold SetTable.fill
   rw [hT1.dum,hT1.mask,this]
   show ¬ (ns.length + 1 + 0) * 5 ≥ 7 * 3
   omega
  rw [hfull]
  rw [if_neg (by decide)]
  refine wpAny_pure (wpAny_pure ?_)
  obtain ⟨oc,od,odt,osl⟩:=o
  have hd:odt=Data.set es ep t:=hd
  subst hd
  have hu:({ s with heap:=s.heap.update a (Obj.putSet (SetTable.insertAt es (t.put slot).2 (k,.int k tk)) (t.put slot).1) }:Shared).heap.get? a=some ⟨oc,od,Data.set (SetTable.insertAt es (t.put slot).2 (k,.int k tk)) (ep + 1) (t.put slot).1,osl⟩:=by
   show (s.heap.update a _).get? a=_
   rw [Heap.get?_update_self _ ho rfl]
   rfl
  have hns:((SetTable.insertAt es (t.put slot).2 (k,Value.int k tk)).toList.map (·.1)).Perm (ns++[k]):=by
   refine (hperm.map (·.1)).trans (.of_eq ?_)
   rw [Array.toList_push,List.map_append,hm]
   rfl
  have:=h _ ((SetTable.insertAt es (t.put slot).2 (k,Value.int k tk)).toList.map (·.1)) ⟨Heap.size_update ..,fun b hb=>Heap.get?_update_ne _ _ _ _ hb⟩ ⟨_,_,_,_,hu,hx,rfl,fun e he => ?_,rfl,?_⟩ (by rw [if_neg hk'];exact hns)
  ·rw [decide_eq_true hk'] at this
   exact this
  ·have he:=hperm.mem_iff.mp he
   rw [Array.toList_push] at he
   rcases List.mem_append.mp he with he |he
   ·exact hes e he
   ·rw [List.mem_singleton.mp he];exact ⟨⟨tk,rfl⟩,h1,h2⟩
  ·rw [hns.length_eq,List.length_append];exact hT1
end
def ddS (acc:List Int) (k:Int):List Int:=if k∈acc then acc else acc++[k]
def dd (vs:List Int):List Int:=vs.foldl ddS []
theorem qFA {vs:List Int} {i:Nat} (h:i < vs.length):dd (vs.take (i + 1))=ddS (dd (vs.take i)) (vs.getD i 0):=by
 unfold dd
 rw [List.take_succ_eq_append_getElem h,List.foldl_append,List.getD_eq_getElem?_getD,List.getElem?_eq_getElem h]
 rfl
theorem qDu {a b:List Int} {k:Int} (h:a.Perm b):(if k∈a then a else a++[k]).Perm (ddS b k):=by
 unfold ddS
 by_cases q:k∈a
 ·rw [if_pos q,if_pos (h.mem_iff.mp q)];exact h
 ·rw [if_neg q,if_neg (fun z=>q (h.mem_iff.mpr z))];exact h.append_right _
theorem yy:∀ (vs:List Int) (acc:List Int),(vs.foldl ddS acc).length≤acc.length + vs.length
 |[],acc=>Nat.le_refl _
 |k::vs,acc=>by
  rw [List.foldl_cons,List.length_cons]
  have h:=yy vs (ddS acc k)
  have:(ddS acc k).length≤acc.length + 1:=by
   unfold ddS
   split
   ·omega
   ·rw [List.length_append];exact Nat.le_refl _
  omega
section
variable {prog:Program} {w:World} {A:Around} {E:Value->Shared->Prop} {R:Result->Shared->Prop}
theorem SetI.same {h h':Heap} {a:Addr} {ns:List Int} (S:SetI w h a ns) (e:∀ o,h.get? a=some o->h'.get? a=some o):SetI w h' a ns:=by
 obtain ⟨o,es,ep,t,h1,h2⟩:=S
 exact ⟨o,es,ep,t,e o h1,h2⟩
theorem qEH {I:Addr} {fp wr:List Addr} {n:Nat} {P:Nat->Value->Prop} {St:Nat->Heap->Prop} (W:Walks prog w A.in1 I fp wr n P St) {Sa:Addr} (hS:Sa ∉ fp) {vs:List Int} (hn:vs.length=n) (h4:n≤4) (hv:∀ i v,P i v -> ∃ t,v=Value.int (vs.getD i 0) t) (hb:∀ v∈vs,1≤v∧v≤9) :
  ∀ (k i:Nat) (s:Shared) (ns:List Int),n - i=k->i≤n->St i s.heap->SetI w s.heap Sa ns->ns.Perm (dd (vs.take i)) ->
   (∀ (h':Heap) (tk:Nat) (ns':List Int),(∀ b o,b ∉ Sa::wr->s.heap.get? b=some o->h'.get? b=some o)->SetI w h' Sa ns'->ns'.Perm (dd vs)->R (.ok (.ret .none)) { s with heap:=h',toks:=tk }) ->
   codeAny (model prog w) A (.builtin "set.update.loop" ⟨[.ref Sa,.ref I],[]⟩) R s:=by
 intro k
 induction k with
 |zero =>
  intro i s ns hk hi hSt S hp h
  have:i=n:=by omega
  subst this
  refine codeAny_builtin F.entry_set_update_loop ?_
  rw [Around.under_plainId F.plain_set_update_loop]
  unfold Builtin.«set.update.loop»
  refine wpAny_bind (W.done _ _ _ hSt fun h' tk hk' => ?_)
  dsimp only
  refine wpAny_pure ?_
  refine h h' tk ns (fun b o hb'=>hk' b o fun q=>hb' (List.mem_cons_of_mem _ q)) (S.same fun o=>hk' Sa o fun q=>hS (W.sub _ q)) ?_
  rw [← hn,List.take_length] at hp
  exact hp
 |succ k ih =>
  intro i s ns hk hi hSt S hp h
  have hi':i < n:=by omega
  refine codeAny_builtin F.entry_set_update_loop ?_
  rw [Around.under_plainId F.plain_set_update_loop]
  unfold Builtin.«set.update.loop»
  refine wpAny_bind (W.item i _ _ _ hi' hSt fun v h' tk hP hSt' hk' => ?_)
  obtain ⟨t,rfl⟩:=hv i v hP
  have hm:vs.getD i 0∈vs:=by rw [List.getD_eq_getElem?_getD,List.getElem?_eq_getElem (by omega)];exact List.getElem_mem _
  have hb':=hb _ hm
  dsimp only
  refine wpAny_bind (wpAny_holding ?_)
  unfold setAdd
  refine wpAny_holding (wpAny_bind ((intKind prog w).pyHash (intKind_is prog w _ t) ?_))
  rw [show (intKind prog w).hash (vs.getD i 0)=vs.getD i 0 from qDZ hb'.1 hb'.2]
  have hl:ns.length≤3:=by
   have:=yy (vs.take i) []
   have e:(dd (vs.take i)).length≤i:=by
    have q:=List.length_take_le i vs
    unfold dd
    have z:([]:List Int).length=0:=rfl
    omega
   rw [hp.length_eq];omega
  refine qER (S.same fun o=>hk' Sa o fun q=>hS (W.sub _ q)) hl hb'.1 hb'.2 fun h2 ns2 hs2 S2 hp2 => ?_
  refine wpAny_pure ⟨plainId_quiet F.plain_set_update_loop _,?_⟩
  refine ih (i + 1) _ ns2 (by omega) (by omega) (W.frame _ _ _ hSt' fun b hbf o ho=>by
   rw [hs2.2 b (fun z=>hS (by rw [← z];exact hbf))];exact ho) S2 ?_ fun h3 tk3 ns3 hh S3 hp3 => ?_
  ·rw [qFA (by omega)]
   exact hp2.trans (qDu hp)
  ·exact h h3 tk3 ns3 (fun b o hbn ho=>hh b o hbn (by
    have:b≠Sa:=fun z=>hbn (by rw [z];exact List.mem_cons_self)
    rw [hs2.2 b this]
    exact hk' b o (fun q=>hbn (List.mem_cons_of_mem _ q)) ho)) S3 hp3
end
section
variable {prog:Program} {w:World} {A:Around} {E:Value->Shared->Prop} {s:Shared}
theorem qEi {a:Value} {Q:Value->Shared->Prop} (h:Q (.ref s.heap.objs.size) { s with heap:=s.heap.push { cls := .type "set",data := .set #[] 0 (SetTable.fresh 0 0 (!byT w)) } }) :
  codeAny (model prog w) A (.call (.builtin "set.__new__") ⟨[.type "set",a],[]⟩) (wants Q E) s:=by
 refine codeAny_call_builtin F.plain_set_new F.entry_set_new (wpAny_of_eq (F.newCall_set_1 a) ?_)
 unfold Builtin.«set.__new__» Builtin.Frozenset.newClass
 dsimp only
 refine wpAny_bind (wpAny_bind (wpAny_of_eq (a:=true) rfl ?_))
 rw [if_neg (by decide)]
 refine wpAny_bind (wpAny_of_eq sub_set_self ?_)
 rw [if_neg (by decide)]
 refine wpAny_pure (wpAny_bind ?_)
 unfold newSet setsByText
 refine wpAny_bind (wpAny_bind (wpAny_askSetting (wpAny_pure ?_)))
 dsimp only
 unfold newObj
 dsimp only
 rw [if_neg (by decide)]
 unfold newObjAsIs
 refine wpAny_bind (wpAny_alloc ?_)
 dsimp only
 exact wpAny_pure (wpAny_pure h)
theorem qB2 {h:Heap} {led:Bool} (hl:led = !byT w):SetI w (h.push { cls := .type "set",data := .set #[] 0 (SetTable.fresh 0 0 led) }) h.objs.size [] :=
 ⟨_,#[],0,_,Heap.get?_push_size _ rfl,⟨rfl,rfl,rfl⟩,rfl,(fun e he=>(List.not_mem_nil he).elim),rfl,⟨rfl,rfl,hl,rfl,show ([]:List Nat)∈Wp 0 from by decide⟩⟩
theorem qBW {l:Addr} {items:Array Value} {vs:List Int} {Q:Value->Shared->Prop} (hh:A.handled=none) (hl:s.heap.IsList l items) (hv:IntsAre items.toList vs) (h4:vs.length≤4) (hb:∀ v∈vs,1≤v∧v≤9)
  (h:∀ (h':Heap) (tk:Nat) (ns':List Int),SetI w h' s.heap.objs.size ns'->ns'.Perm (dd vs)->(∀ b o,b < s.heap.objs.size->s.heap.get? b=some o->h'.get? b=some o)->Q (.ref s.heap.objs.size) { s with heap:=h',toks:=tk }) :
  wpAny (model prog w) A (call (.type "set") [.ref l]) Q E s:=by
 refine wpAny_call (codeAny_of_tree (wpAny_of_eq (a:=Fin.again (.builtin "type.__call__" ⟨[.type "set",.ref l],[]⟩)) rfl ⟨Code.quiet_builtin _ (by decide +kernel),?_⟩))
 refine codeAny_builtin F.entry_type_call ?_
 rw [Around.under_plain (weight_type_call_type _ _ _) rfl]
 unfold Builtin.«type.__call__»
 dsimp only
 rw [if_neg (by rw [F.called_set.notType];decide),if_neg (by rw [F.called_set.canCreate];decide)]
 refine wpAny_bind (wpAny_of_eq (F.typeCall_set_1 _) ?_)
 obtain ⟨c,tl,hm⟩:=F.called_set.mro
 refine wpAny_bind (wpAny_of_eq hm ?_)
 rw [if_neg (by simp)]
 refine wpAny_bind (wpAny_of_eq F.called_set.made ?_)
 dsimp only
 refine wpAny_bind (wpAny_pure (wpAny_bind (wpAny_holding (wpAny_call (qEi ?_)))))
 have hT:({ s with heap:=s.heap.push { cls := .type "set",data := .set #[] 0 (SetTable.fresh 0 0 (!byT w)) } }:Shared).TypeIs (.ref s.heap.objs.size) "set" := ⟨_,Heap.get?_push_size _ rfl,rfl⟩
 refine wpAny_bind (wpAny_isInstance hT sub_set_self ?_)
 rw [if_neg (by decide)]
 refine wpAny_bind (wpAny_holding ?_)
 unfold callSpecial?
 refine wpAny_bind (wpAny_specialOf hT F.called_set.init.lookup ?_)
 dsimp only
 refine wpAny_holding (wpAny_bind (wpAny_of_eq (F.called_set.init.bind _) ?_))
 dsimp only
 refine wpAny_bind (wpAny_call (codeAny_call_builtin F.called_set.init.plain F.entry_set_init (check_set_init_1 hT ?_)))
 unfold Builtin.«set.__init__»
 refine wpAny_bind (wpAny_of_eq (a:=()) rfl ?_)
 show wpAny _ _ (do
  let n ← typeNameOfCut 200 (.ref s.heap.objs.size)
  checkCount n 0 1 1
  let a ← Builtin.Frozenset.addrOf (.ref s.heap.objs.size)
  let u ← setUsed a
  if u=true then do
   Builtin.Frozenset.clearAll a
   Builtin.Frozenset.updateFrom "set.__init__" a (.ref l)
   ret Value.none
  else do
   Builtin.Frozenset.updateFrom "set.__init__" a (.ref l)
   ret Value.none) _ _ _
 unfold typeNameOfCut shownTypeOf
 refine wpAny_bind (wpAny_bind (wpAny_bind (wpAny_typeOf hT ?_)))
 rw [if_neg (by decide)]
 refine wpAny_pure (wpAny_of_eq (a := "set") (by rfl) ?_)
 refine wpAny_bind (wpAny_of_eq (a:=()) rfl ?_)
 refine wpAny_bind (wpAny_of_eq (a:=s.heap.objs.size) rfl ?_)
 unfold setUsed
 have hg:(s.heap.push { cls := .type "set",data := .set #[] 0 (SetTable.fresh 0 0 (!byT w)) }).get? s.heap.objs.size=some { cls := .type "set",data := .set #[] 0 (SetTable.fresh 0 0 (!byT w)) }:=Heap.get?_push_size _ rfl
 refine wpAny_bind (wpAny_bind (wpAny_setState_of hg rfl rfl (wpAny_pure ?_)))
 rw [if_neg (by intro q;exact Bool.noConfusion (show false=true from q))]
 refine wpAny_bind ?_
 unfold Builtin.Frozenset.updateFrom Builtin.Frozenset.isAnySet
 have hl':(s.heap.push { cls := .type "set",data := .set #[] 0 (SetTable.fresh 0 0 (!byT w)) }).IsList l items:=hl.push _
 refine wpAny_bind (wpAny_bind (wpAny_isInstance (T := "list") hl'.typeIs F.sub_list_set ?_))
 show wpAny _ _ (isInstance (.ref l) (.type "frozenset")) _ _ _
 refine wpAny_isInstance (T := "list") hl'.typeIs F.sub_list_frozenset ?_
 rw [if_neg (by decide)]
 refine wpAny_bind (wpAny_typeOf (T := "list") hl'.typeIs ?_)
 rw [if_neg (by decide)]
 refine wpAny_bind (wpAny_pyIter_list hl' (wpAny_bind (wpAny_runValue ?_)))
 have hlt:l < s.heap.objs.size:=by obtain ⟨o,ho,_⟩:=hl;exact Heap.lt_size ho
 have hS:=qB2 (w:=w) (h:=s.heap) (led := !byT w) rfl
 have hsz:(s.heap.push { cls := .type "set",data := .set #[] 0 (SetTable.fresh 0 0 (!byT w)) }).objs.size=s.heap.objs.size + 1:=Heap.size_push ..
 have hlen:vs.length=items.size:=by
  rw [← Array.length_toList]
  clear hb h4 h hl hl'
  generalize items.toList=its at hv
  induction hv with
  |nil=>rfl
  |cons n t _ ih=>rw [List.length_cons,List.length_cons,ih]
 refine qEH (A:=A.in1.in1) (Walks.list (A:=A.in1.in1.in1) hh (s.heap.push { cls := .type "set",data := .set #[] 0 (SetTable.fresh 0 0 (!byT w)) }).objs.size l (by rw [hsz];exact Nat.ne_of_lt (Nat.lt_succ_of_lt hlt)) items) (Sa:=s.heap.objs.size) (by
  rw [hsz];intro q
  rcases List.mem_cons.mp q with q |q
  ·exact absurd q (by show ¬ s.heap.objs.size=s.heap.objs.size + 1;omega)
  ·have:=List.mem_singleton.mp q;exact absurd hlt (by rw [← this];exact Nat.lt_irrefl _)) hlen (by omega) (fun i v hi=>hv.int_at i v (by rw [← Array.getElem?_toList] at hi;exact hi)) hb _ 0 _ [] rfl (Nat.zero_le _) ⟨⟨_,Heap.get?_push_size _ rfl,rfl,rfl⟩,hl'.push _⟩ (hS.same fun o ho=>Heap.get?_push_of_some _ ho) (by rw [List.take_zero];exact .refl _) fun h' tk ns' hk S' hp => ?_
 refine wpAny_pure (wpAny_pure ?_)
 refine wpAny_pure ?_
 dsimp only
 rw [if_neg (by decide)]
 refine wpAny_pure ?_
 refine h h' tk ns' S' hp fun b o hb' ho=>hk b o (fun q => ?_) (Heap.get?_push_of_some _ (Heap.get?_push_of_some _ ho))
 rw [hsz] at q
 rcases List.mem_cons.mp q with q |q
 ·exact absurd hb' (by rw [q];exact Nat.lt_irrefl _)
 ·have:=List.mem_singleton.mp q;exact absurd hb' (by rw [this];exact Nat.not_lt_of_le (Nat.le_succ _))
end
theorem jE:entryFor table "set.__iter__" = some Builtin.«frozenset.__iter__» := entryFor_alias (id' := "frozenset.__iter__") (by kernel_rfl) (by kernel_rfl) (by kernel_rfl) (by kernel_rfl)
theorem yD:entryFor table "set_iterator.__next__" = some Builtin.«set_iterator.__next__» := entryFor_of_fast (by kernel_rfl)
theorem slot_setit:Slot "set_iterator" (Str.ofString "__next__") "set_iterator.__next__" := @Slot.of "set_iterator" (Str.ofString "__next__") "set_iterator.__next__" "set_iterator" "__next__" (by rw [typeLookup_type,builtinLookup_eq_fast];rfl) (by decide) (by decide) (by decide) (Or.inl (by decide +kernel)) (by rw [isSubtype_type];rfl) (by decide +kernel)
theorem YS (a:Value):argsOk "set_iterator.__next__" { pos:=[a] }:=by
 unfold argsOk
 kernel_rfl
theorem qBJ {α:Type}:∀ {l:List α} {i:Nat} (h:i < l.length),(l[i]::l.eraseIdx i).Perm l
 |x::l,0,_ => .refl _
 |x::l,i + 1,h=>(List.Perm.swap x _ _).trans ((qBJ (l:=l) (i:=i) (by simpa using h)).cons x)
theorem qBH {α:Type} (next:Nat->Nat):∀ (n k:Nat) (left:List α) (out:Array α),left.length=n->(pickOrder.go next n k left out).toList.Perm (out.toList++left)
 |0,k,left,out,h=>by
  have:left=[]:=List.eq_nil_of_length_eq_zero h
  subst this
  show out.toList.Perm _
  rw [List.append_nil]
 |n + 1,k,left,out,h=>by
  have hl:next k % left.length < left.length:=Nat.mod_lt _ (by omega)
  show (match left[next k % left.length]? with |some x=>pickOrder.go next n (k + 1) (left.eraseIdx (next k % left.length)) (out.push x) |none=>out).toList.Perm _
  rw [List.getElem?_eq_getElem hl]
  dsimp only
  refine (qBH next n (k + 1) _ _ (by rw [List.length_eraseIdx_of_lt hl];omega)).trans ?_
  rw [Array.toList_push,List.append_assoc]
  exact List.Perm.append_left _ (qBJ hl)
def wo (w:World) (a:Addr) (ep:Nat) (es:Array (Int×Value)):Array (Int×Value):=if byT w=true then pickOrder (w.params.setOrder a ep) es else es
theorem Jt {w:World} {a:Addr} {ep:Nat} {es:Array (Int×Value)}:(wo w a ep es).toList.Perm es.toList:=by
 unfold wo
 split
 ·exact qBH _ _ _ _ _ (by simp)
 ·exact .refl _
theorem W6 {w:World} {a:Addr} {ep:Nat} {es:Array (Int×Value)}:(wo w a ep es).size=es.size:=by
 have:=(Jt (w:=w) (a:=a) (ep:=ep) (es:=es)).length_eq
 rwa [Array.length_toList,Array.length_toList] at this
def qFb (pl:List Nat):Bool:=Nat.beq (SetTable.below pl.toArray 0) 0&&(List.range pl.length).all fun i=>Nat.beq (SetTable.below pl.toArray (pl.getD i 0 + 1)) (i + 1)
theorem qEp:([0,1,2,3,4].all fun k=>(Wp k).all qFb)=true:=by decide +kernel
theorem qDC {w:World} {t:SetTable} {k:Nat} (T:TbOk w t k) (hk:k≤4):SetTable.below t.place 0=0 ∧ ∀ i,i < k->SetTable.below t.place (t.place.getD i 0 + 1)=i + 1:=by
 have hk':k∈[0,1,2,3,4]:=by
  have:k=0∨k=1∨k=2∨k=3∨k=4:=by omega
  simp only [List.mem_cons,List.not_mem_nil,or_false];exact this
 have e:=List.all_eq_true.mp (List.all_eq_true.mp qEp k hk') _ T.ris
 unfold qFb at e
 rw [Bool.and_eq_true,List.all_eq_true,show t.place.toList.toArray=t.place by simp] at e
 refine ⟨Nat.eq_of_beq_eq_true e.1,fun i hi => ?_⟩
 have:=Nat.eq_of_beq_eq_true (e.2 i (List.mem_range.mpr (by rw [ZO T.ris];exact hi)))
 rw [show t.place.toList.getD i 0=t.place.getD i 0 by simp [Array.getD_eq_getD_getElem?,List.getD_eq_getElem?_getD]] at this
 exact this
structure SetL (w:World) (h:Heap) (a:Addr) (es:Array (Int×Value)) (ep:Nat) (t:SetTable):Prop where
 ex:∃ o,h.get? a=some o∧o.ExactSet∧o.data=Data.set es ep t
 T:TbOk w t es.size
 n:es.size≤4
def ItS (w:World) (h:Heap) (it a:Addr) (es:Array (Int×Value)) (ep:Nat) (t:SetTable) (i:Nat):Prop := ∃ (o:Obj) (slot:Nat),h.get? it=some o∧o.cls = .type "set_iterator" ∧ o.data = .fields #[.int slot 0,.int i 0,.ref a,.int es.size 0,.int ep 0]∧(byT w=false->SetTable.below t.place slot=i)
section
variable {prog:Program} {w:World} {A:Around} {E:Value->Shared->Prop} {s:Shared} {a it:Addr} {es:Array (Int×Value)} {ep i:Nat} {t:SetTable}
theorem SetL.fits (L:SetL w s.heap a es ep t):t.fits es.size=true:=by
 unfold SetTable.fits
 rw [Bool.and_eq_true]
 have:=ZO L.T.ris
 rw [Array.length_toList] at this
 refine ⟨by rw [this];exact beq_self_eq_true _,decide_eq_true ?_⟩
 unfold SetTable.fill
 rw [L.T.dum,L.T.mask,this]
 have:=L.n
 show es.size + 0≤7
 omega
theorem SetL.typeIs (L:SetL w s.heap a es ep t):s.TypeIs (.ref a) "set" := let ⟨o,h,c,_⟩:=L.ex;⟨o,h,c.1⟩
theorem ItS.typeIs (I:ItS w s.heap it a es ep t i):s.TypeIs (.ref it) "set_iterator" := let ⟨o,_,h,c,_⟩:=I;⟨o,h,c⟩
theorem qDs {Q:Value->Shared->Prop} (L:SetL w s.heap a es ep t)
  (hQ:Q (.ref s.heap.objs.size) { s with heap:=s.heap.push { cls := .type "set_iterator",data := .fields #[.int 0 0,.int 0 0,.ref a,.int es.size 0,.int ep 0] } }):wpAny (model prog w) A (pyIter (.ref a)) Q E s:=by
 obtain ⟨o,ho,hx,hd⟩:=L.ex
 refine wpAny_pyIter_slot L.typeIs F.slot_set_iter (wpAny_call_entry F.slot_set_iter L.typeIs jE ?_ (F.args_set_iter_1 _))
 unfold Builtin.«frozenset.__iter__» Builtin.Frozenset.slot0 Builtin.Frozenset.sizeOf setEntries
 refine wpAny_bind (wpAny_of_eq (a:=a) rfl ?_)
 refine wpAny_bind (wpAny_bind (wpAny_bind (wpAny_setState_of ho hd L.fits (wpAny_pure (wpAny_pure ?_)))))
 unfold setDrawn setsByText
 refine wpAny_bind (wpAny_bind (wpAny_setState_of ho hd L.fits ?_))
 dsimp only
 refine wpAny_bind (wpAny_bind (wpAny_askSetting (wpAny_pure (wpAny_pure ?_))))
 rw [if_neg (by
  rw [Bool.and_eq_true]
  intro q
  have q2:(!t.plain&&decide (es.size > 1))=true:=q.2
  rw [L.T.pl] at q2
  cases q2)]
 refine wpAny_bind (wpAny_pure ?_)
 unfold setEpoch newFields
 refine wpAny_bind (wpAny_bind (wpAny_setState_of ho hd L.fits (wpAny_pure ?_)))
 exact wpAny_bind (wpAny_newObj_type (wpAny_pure ⟨_,rfl,"set_iterator",_,⟨_,Heap.get?_push_size _ rfl,rfl⟩,slot_setit.lookup,by simpa [rawInt] using hQ⟩))
theorem J1 {R:Option (Value×Nat)->Shared->Prop} {slot:Nat} (L:SetL w s.heap a es ep t) (hb:byT w=false->SetTable.below t.place slot=i)
  (h1:∀ e nx,(wo w a ep es)[i]? = some e->(byT w=false->SetTable.below t.place nx=i + 1)->R (some (e.2,nx)) s) (h2:(wo w a ep es)[i]? = none->R none s):wpAny (model prog w) A (setNext a ((slot:Int)).toNat ((i:Int)).toNat ((ep:Int)).toNat) R E s:=by
 obtain ⟨o,ho,hxs,hd⟩:=L.ex
 have hf:=L.fits
 unfold setNext
 refine wpAny_bind (wpAny_setState_of ho hd hf ?_)
 unfold setsByText
 dsimp only
 refine wpAny_bind (wpAny_bind (wpAny_askSetting (wpAny_pure ?_)))
 rw [Int.toNat_natCast,Int.toNat_natCast,Int.toNat_natCast]
 by_cases hby:byT w=true
 ·rw [if_pos (by exact hby),if_neg (by simp)]
  unfold setWalk setsByText
  refine wpAny_bind (wpAny_bind (wpAny_setState_of ho hd hf ?_))
  dsimp only
  refine wpAny_bind (wpAny_bind (wpAny_askSetting (wpAny_pure ?_)))
  rw [if_pos (by exact hby)]
  refine wpAny_bind (wpAny_askSetting (wpAny_pure (wpAny_pure ?_)))
  have eo:wo w a ep es=pickOrder (w.params.setOrder a ep) es:=by unfold wo;rw [if_pos hby]
  rw [eo] at h1 h2
  show R (((pickOrder (w.params.setOrder a ep) es)[i]?).map fun e=>(e.2,slot)) s
  cases hx:(pickOrder (w.params.setOrder a ep) es)[i]? with
  |none=>exact h2 hx
  |some e=>exact h1 e slot hx fun q=>by rw [q] at hby;cases hby
 ·have hby':byT w=false:=by cases h:byT w with |true=>exact absurd h hby |false=>rfl
  rw [if_neg (by exact hby),if_neg (by
   intro q
   have q2:(!t.plain&&decide (es.size > 1))=true:=q
   rw [L.T.pl] at q2
   cases q2)]
  have eo:wo w a ep es=es:=by unfold wo;rw [if_neg hby]
  rw [eo] at h1 h2
  have hled:t.led=true:=by rw [L.T.led,hby'];rfl
  refine wpAny_bind (wpAny_of_eq (a:=()) ?_ (wpAny_pure ?_))
  ·show (if (!t.led && !es.isEmpty)=true then unsupported "set:maker-not-led" else pure ())=pure ()
   rw [hled]
   rfl
  ·rw [hb hby']
   have hps:t.place.size=es.size:=by have:=ZO L.T.ris;rwa [Array.length_toList] at this
   cases hx:es[i]? with
   |none=>exact h2 hx
   |some e =>
    have hi:i < es.size:=(Array.getElem?_eq_some_iff.mp hx).1
    have hp:t.place[i]? = some (t.place.getD i 0):=by
     rw [Array.getD_eq_getD_getElem?,Array.getElem?_eq_getElem (by omega)];rfl
    rw [hp]
    exact h1 e _ hx fun _=>(qDC L.T L.n).2 i hi
theorem qC7 {Q:Option Value->Shared->Prop} (L:SetL w s.heap a es ep t) (I:ItS w s.heap it a es ep t i) {e:Int×Value} (hx:(wo w a ep es)[i]? = some e)
  (hQ:∀ h',ItS w h' it a es ep t (i + 1)->Heap.SameBut it s.heap h'->Q (some e.2) { s with heap:=h' }):wpAny (model prog w) A (pyNext (.ref it)) Q E s:=by
 obtain ⟨o,ho,hxs,hd⟩:=L.ex
 obtain ⟨oi,slot,hoi,hci,hdi,hb⟩:=id I
 unfold pyNext
 refine wpAny_bind (wpAny_attempt (wpAny_callSpecial?_slot (name:=Str.ofString "__next__") I.typeIs slot_setit (wpAny_call_entry slot_setit I.typeIs yD ?_ (YS _))))
 unfold Builtin.«set_iterator.__next__»
 refine wpAny_bind (wpAny_of_eq (a:=(.ref it,[])) rfl ?_)
 dsimp only
 refine wpAny_bind (wpAny_fieldsOf hoi hdi ?_)
 dsimp only
 unfold setEntries
 refine wpAny_bind (wpAny_bind (wpAny_setState_of ho hd L.fits (wpAny_pure ?_)))
 rw [if_neg (by simp)]
 refine wpAny_bind (J1 L hb (fun e' nx he hn => ?_) fun he => ?_)
 ·rw [hx] at he;cases he
  dsimp only
  refine wpAny_bind (wpAny_setField hoi hdi (by simp) ?_)
  have ho1:=Heap.get?_update_self (Obj.mapFields fun x=>x.setIfInBounds 0 (rawInt (nx:Int))) hoi (Obj.isFreed_of_fields (Obj.data_mapFields hdi _))
  refine wpAny_bind (wpAny_setField ho1 (Obj.data_mapFields hdi _) (by simp) ?_)
  have ho2:=Heap.get?_update_self (Obj.mapFields fun x=>x.setIfInBounds 1 (rawInt ((i:Int) + 1))) ho1 (Obj.isFreed_of_fields (Obj.data_mapFields (Obj.data_mapFields hdi _) _))
  refine wpAny_pure ⟨_,rfl,wpAny_pure (hQ _ ⟨_,nx,ho2,?_,?_,hn⟩ ⟨?_,fun b hb' => ?_⟩)⟩
  ·rw [Obj.cls_mapFields,Obj.cls_mapFields];exact hci
  ·rw [Obj.data_mapFields (Obj.data_mapFields hdi _)];simp [rawInt]
  ·rw [Heap.size_update,Heap.size_update]
  ·exact (Heap.get?_update_other _ _ (Ne.symm hb')).trans (Heap.get?_update_other _ _ (Ne.symm hb'))
 ·rw [hx] at he;cases he
theorem qEt {Q:Option Value->Shared->Prop} (hh:A.handled=none) (L:SetL w s.heap a es ep t) (I:ItS w s.heap it a es ep t i) (hx:(wo w a ep es)[i]? = none)
  (hQ:∀ h',(∀ b o,b≠it->s.heap.get? b=some o->h'.get? b=some o)->Q none { s with heap:=h' }):wpAny (model prog w) A (pyNext (.ref it)) Q E s:=by
 obtain ⟨o,ho,hxs,hd⟩:=L.ex
 obtain ⟨oi,slot,hoi,hci,hdi,hb⟩:=id I
 unfold pyNext
 refine wpAny_bind (wpAny_attempt (wpAny_callSpecial?_slot (name:=Str.ofString "__next__") I.typeIs slot_setit (wpAny_call_entry slot_setit I.typeIs yD ?_ (YS _))))
 unfold Builtin.«set_iterator.__next__»
 refine wpAny_bind (wpAny_of_eq (a:=(.ref it,[])) rfl ?_)
 dsimp only
 refine wpAny_bind (wpAny_fieldsOf hoi hdi ?_)
 dsimp only
 unfold setEntries
 refine wpAny_bind (wpAny_bind (wpAny_setState_of ho hd L.fits (wpAny_pure ?_)))
 rw [if_neg (by simp)]
 refine wpAny_bind (J1 L hb (fun e' nx he hn=>by rw [hx] at he;cases he) fun he => ?_)
 dsimp only
 refine wpAny_bind (wpAny_setField hoi hdi (by simp) ?_)
 refine zD (A:=A.in1) (fun v hv=>by rw [show A.in1.handled=A.handled from rfl,hh] at hv;cases hv) fun h' e k ht => ?_
 refine wpAny_bind (wpAny_isInstance (T := "StopIteration") (b:=true) ht isSubtype_stop ?_)
 exact wpAny_pure (hQ _ fun b o' hb' q=>k b o' ((Heap.get?_update_other _ _ (Ne.symm hb')).trans q))
end
theorem Yq:entryFor table "list.extend.loop" = some Builtin.«list.extend.loop» := entryFor_of_fast (by kernel_rfl)
theorem Wo:plainId "list.extend.loop" = true:=by decide +kernel
section
variable {prog:Program} {w:World} {A:Around} {E:Value->Shared->Prop} {R:Result->Shared->Prop} {a it:Addr} {es:Array (Int×Value)} {ep:Nat} {t:SetTable}
theorem SetL.same {h h':Heap} (L:SetL w h a es ep t) (e:∀ o,h.get? a=some o->h'.get? a=some o):SetL w h' a es ep t:=by
 obtain ⟨⟨o,h1,h2⟩,T,n⟩:=L
 exact ⟨⟨o,e o h1,h2⟩,T,n⟩
theorem ItS.same {h h':Heap} {i:Nat} (L:ItS w h it a es ep t i) (e:∀ o,h.get? it=some o->h'.get? it=some o):ItS w h' it a es ep t i:=by
 obtain ⟨o,sl,h1,h2⟩:=L
 exact ⟨o,sl,e o h1,h2⟩
theorem qHO {D:Addr} (hh:A.handled=none) (hDa:a≠D) (hDi:it≠D) (hai:a≠it):∀ (k i:Nat) (s:Shared) (n:Nat),es.size - i=k->i≤es.size->SetL w s.heap a es ep t->ItS w s.heap it a es ep t i->s.heap.get? D=some (seqObj "list" (((wo w a ep es).toList.take i).map (·.2)).toArray n) ->
  (∀ (h':Heap) (n':Nat),(∀ b o,b≠D->b≠it->s.heap.get? b=some o->h'.get? b=some o)->h'.get? D=some (seqObj "list" ((wo w a ep es).toList.map (·.2)).toArray n')->R (.ok (.ret (.ref D))) { s with heap:=h' }) ->
  codeAny (model prog w) A (.builtin "list.extend.loop" ⟨[.ref D,.ref it,.ref D],[]⟩) R s:=by
 intro k
 induction k with
 |zero =>
  intro i s n hk hi L I hD h
  have hi':i=es.size:=by omega
  refine codeAny_builtin Yq ?_
  rw [Around.under_plainId Wo]
  unfold Builtin.«list.extend.loop»
  refine wpAny_bind (qEt hh L I (by rw [Array.getElem?_eq_none];rw [W6];omega) fun h' hk' => ?_)
  dsimp only
  refine wpAny_pure (h h' n (fun b o h1 h2=>hk' b o h2) ?_)
  rw [hk' D _ (Ne.symm hDi) hD,List.take_of_length_le (by rw [Array.length_toList,W6];omega)]
 |succ k ih =>
  intro i s n hk hi L I hD h
  have hi':i < (wo w a ep es).size:=by rw [W6];omega
  refine codeAny_builtin Yq ?_
  rw [Around.under_plainId Wo]
  unfold Builtin.«list.extend.loop»
  refine wpAny_bind (qC7 L I (Array.getElem?_eq_getElem hi') fun h' I' sb => ?_)
  dsimp only
  unfold Builtin.List.listUpdate
  dsimp only
  have hD':h'.get? D=some (seqObj "list" (((wo w a ep es).toList.take i).map (·.2)).toArray n):=(sb.2 D (Ne.symm hDi)).trans hD
  have hlen:(((wo w a ep es).toList.take i).map (·.2)).length≤4:=by
   rw [List.length_map,List.length_take,Array.length_toList,W6]
   have:=L.n
   omega
  have hsz:(((wo w a ep es).toList.take i).map (·.2)).toArray.size≤4:=by rw [List.size_toArray];exact hlen
  refine wpAny_bind (wpAny_updateSeq hD' rfl ?_ (Nat.le_trans hsz (by decide)) (by rw [Array.size_push];exact Nat.le_trans (Nat.succ_le_succ hsz) (by decide)))
  have e1:((((wo w a ep es).toList.take i).map (·.2)).toArray.push (wo w a ep es)[i].2)=((((wo w a ep es).toList.take (i + 1)).map (·.2)).toArray):=by
   have hl:i < (wo w a ep es).toList.length:=by rw [Array.length_toList];exact hi'
   rw [List.take_succ_eq_append_getElem hl,List.map_append,List.push_toArray]
   rfl
  have hu:∃ n2,(h'.update D (Obj.mapSeq fun x=>x.push (wo w a ep es)[i].2)).get? D=some (seqObj "list" (((wo w a ep es).toList.take (i + 1)).map (·.2)).toArray n2):=by
   rw [Heap.get?_update_self _ hD' rfl,← e1]
   exact ⟨_,rfl⟩
  obtain ⟨n2,hu⟩:=hu
  refine wpAny_pure ⟨plainId_quiet Wo _,?_⟩
  refine ih (i + 1) _ n2 (by omega) (by rw [W6] at hi';omega) (L.same fun o ho => ?_) (I'.same fun o ho => ?_) hu fun h2 n3 hb2 hD2=>h h2 n3 (fun b o h3 h4 ho=>hb2 b o h3 h4 ?_) hD2
  ·exact (Heap.get?_update_other _ _ (Ne.symm hDa)).trans ((sb.2 a hai).trans ho)
  ·exact (Heap.get?_update_other _ _ (Ne.symm hDi)).trans ho
  ·exact (Heap.get?_update_other _ _ (Ne.symm h3)).trans ((sb.2 b h4).trans ho)
theorem qCO {s:Shared} {Q:Bool->Shared->Prop} (hT:s.TypeIs (.ref a) "set") (h:Q false s):wpAny (model prog w) A (Builtin.List.listLengthHint (.ref a)) Q E s:=by
 unfold Builtin.List.listLengthHint
 refine wpAny_bind (wpAny_specialOf hT F.slot_set_len.lookup ?_)
 dsimp only
 rw [show splitId "set.__len__" = some ("set","__len__") by decide]
 dsimp only
 refine wpAny_bind (wpAny_isInstance hT sub_set_self ?_)
 rw [if_neg (by decide),if_pos (by decide +kernel)]
 exact wpAny_bind (wpAny_typeOf hT (wpAny_pure h))
theorem jz {s:Shared} {Q:List Value->Shared->Prop} (hh:A.handled=none) (L:SetL w s.heap a es ep t)
  (hQ:∀ h',(∀ b o,s.heap.get? b=some o->h'.get? b=some o)->s.heap.objs.size≤h'.objs.size->Q ((wo w a ep es).toList.map (·.2)) { s with heap:=h' }):wpAny (model prog w) A (collect (.ref a)) Q E s:=by
 have hlt:a < s.heap.objs.size:=by obtain ⟨o,ho,_⟩:=L.ex;exact Heap.lt_size ho
 unfold collect
 refine wpAny_bind (wpAny_runValue (codeAny_builtin F.entry_proto_collect ?_))
 rw [Around.under_plainId F.plain_proto_collect]
 unfold Builtin.«proto.collect»
 dsimp only
 refine wpAny_bind (wpAny_newList ?_)
 refine wpAny_pure ⟨plainId_quiet F.plain_list_iadd _,codeAny_builtin F.entry_list_iadd ?_⟩
 rw [Around.under_plainId F.plain_list_iadd]
 unfold Builtin.«list.__iadd__»
 refine wpAny_bind (wpAny_of_eq (a:=(.ref s.heap.objs.size,[.ref a])) rfl ?_)
 dsimp only
 unfold Builtin.List.listExtendWith
 have L1:SetL w (s.heap.push { cls := .type "list",data := .seq ([]:List Value).toArray }) a es ep t:=L.same fun o ho=>Heap.get?_push_of_some _ ho
 refine wpAny_bind (wpAny_typeOf (T := "set") L1.typeIs ?_)
 have hne:(s.heap.objs.size==a)=false:=beq_eq_false_iff_ne.mpr (Nat.ne_of_gt hlt)
 rw [if_neg (by
  show ¬ ((s.heap.objs.size==a || _ || _)=true)
  rw [hne]
  decide)]
 refine wpAny_bind (qDs L1 ?_)
 have L2:SetL w ((s.heap.push { cls := .type "list",data := .seq ([]:List Value).toArray }).push { cls := .type "set_iterator",data := .fields #[.int 0 0,.int 0 0,.ref a,.int es.size 0,.int ep 0] }) a es ep t:=L1.same fun o ho=>Heap.get?_push_of_some _ ho
 refine wpAny_bind (wpAny_holding (qCO L2.typeIs ?_))
 dsimp only
 rw [if_pos (by decide +kernel)]
 have hz:(s.heap.push { cls := .type "list",data := .seq ([]:List Value).toArray }).objs.size=s.heap.objs.size + 1:=Heap.size_push ..
 have hD0:((s.heap.push { cls := .type "list",data := .seq ([]:List Value).toArray }).push { cls := .type "set_iterator",data := .fields #[.int 0 0,.int 0 0,.ref a,.int es.size 0,.int ep 0] }).get? s.heap.objs.size=some (seqObj "list" #[] 0):=Heap.get?_push_of_some _ (Heap.get?_push_size _ rfl)
 refine wpAny_bind (wpAny_rule (wpAny_bind ?_))
 unfold Builtin.List.listTouch Builtin.List.listUpdate
 dsimp only
 refine wpAny_bind (wpAny_updateSeq hD0 rfl ?_ (by decide) (by decide))
 have hD1:=Heap.get?_update_self (Obj.mapSeq fun x=>x.push Value.none) hD0 rfl
 refine wpAny_updateSeq hD1 rfl ?_ (by decide) (by decide)
 have hD2:∃ n,((((s.heap.push { cls := .type "list",data := .seq ([]:List Value).toArray }).push { cls := .type "set_iterator",data := .fields #[.int 0 0,.int 0 0,.ref a,.int es.size 0,.int ep 0] }).update s.heap.objs.size (Obj.mapSeq fun x=>x.push Value.none)).update s.heap.objs.size (Obj.mapSeq fun x=>x.pop)).get? s.heap.objs.size=some (seqObj "list" #[] n):=by
  rw [Heap.get?_update_self _ hD1 rfl];exact ⟨_,rfl⟩
 obtain ⟨n2,hD2⟩:=hD2
 have hkeep:∀ b o,b≠s.heap.objs.size->((s.heap.push { cls := .type "list",data := .seq ([]:List Value).toArray }).push { cls := .type "set_iterator",data := .fields #[.int 0 0,.int 0 0,.ref a,.int es.size 0,.int ep 0] }).get? b=some o->((((s.heap.push { cls := .type "list",data := .seq ([]:List Value).toArray }).push { cls := .type "set_iterator",data := .fields #[.int 0 0,.int 0 0,.ref a,.int es.size 0,.int ep 0] }).update s.heap.objs.size (Obj.mapSeq fun x=>x.push Value.none)).update s.heap.objs.size (Obj.mapSeq fun x=>x.pop)).get? b=some o:=fun b o hb ho=>(Heap.get?_update_other _ _ (Ne.symm hb)).trans ((Heap.get?_update_other _ _ (Ne.symm hb)).trans ho)
 have hi1:(s.heap.push { cls := .type "list",data := .seq ([]:List Value).toArray }).objs.size≠s.heap.objs.size:=by rw [hz];exact Nat.ne_of_gt (Nat.lt_succ_self _)
 refine wpAny_pure ⟨plainId_quiet Wo _,?_⟩
 refine qHO (w:=w) (t:=t) (ep:=ep) (es:=es) (a:=a) hh (Nat.ne_of_lt hlt) hi1 (by rw [hz];exact Nat.ne_of_lt (Nat.lt_succ_of_lt hlt)) _ 0 _ n2 rfl (Nat.zero_le _) (L2.same fun o ho=>hkeep a o (Nat.ne_of_lt hlt) ho) ⟨_,0,hkeep _ _ hi1 (Heap.get?_push_size _ rfl),rfl,rfl,fun _=>(qDC L.T L.n).1⟩ hD2 fun h' n' hk hD => ?_
 dsimp only
 refine wpAny_bind (wpAny_load' hD ?_)
 refine wpAny_pure ?_
 have:=hQ h' (fun b o ho=>hk b o (Nat.ne_of_lt (Heap.lt_size ho)) (by rw [hz];exact Nat.ne_of_lt (Nat.lt_succ_of_lt (Heap.lt_size ho))) (hkeep b o (Nat.ne_of_lt (Heap.lt_size ho)) (Heap.get?_push_of_some _ (Heap.get?_push_of_some _ ho)))) (Nat.le_of_lt (Heap.lt_size hD))
 simpa using this
end
section
variable {prog:Program} {w:World} {A:Around} {E:Value->Shared->Prop} {s:Shared}
theorem ZU:∀ {l:List (Int×Value)},(∀ e∈l,(∃ tk,e.2=Value.int e.1 tk)∧1≤e.1∧e.1≤9)->IntsAre (l.map (·.2)) (l.map (·.1))
 |[],_ => .nil
 |e::l,h=>by
  obtain ⟨⟨tk,h1⟩,_⟩:=h e List.mem_cons_self
  rw [List.map_cons,List.map_cons,h1]
  exact .cons _ tk (ZU fun x hx=>h x (List.mem_cons_of_mem _ hx))
theorem JN {a:Addr} {ns:List Int} {Q:Value->Shared->Prop} (hh:A.handled=none) (S:SetI w s.heap a ns) (hn:ns.length≤4)
  (h:∀ (h':Heap) (D:Addr) (out:Array Value) (e:Nat) (ns':List Int),s.heap.objs.size≤D->h'.get? D=some (seqObj "list" out e)->IntsAre out.toList ns'->ns'.Perm ns->ns'.Pairwise (· ≤ ·)->(∀ b o,s.heap.get? b=some o->h'.get? b=some o)->Q (.ref D) { s with heap:=h' }) :
  wpAny (model prog w) A (call (.builtin "sorted") [.ref a]) Q E s:=by
 obtain ⟨o,es,ep,t,ho,hx,hd,hes,hm,T⟩:=S
 have hsz:es.size=ns.length:=by rw [← hm,List.length_map,Array.length_toList]
 have L:SetL w s.heap a es ep t:=⟨⟨o,ho,hx,hd⟩,by rw [hsz];exact T,by rw [hsz];exact hn⟩
 refine Calls.call_function_entry kind_sorted plain_sorted entry_sorted (args_sorted1 _) ?_
 unfold Builtin.sorted
 refine wpAny_bind (wpAny_of_eq (a:=()) rfl ?_)
 refine wpAny_bind (jz (A:=A.in1) hh L fun h1 hk1 hs1 => ?_)
 have hperm:=Jt (w:=w) (a:=a) (ep:=ep) (es:=es)
 have hlen:((wo w a ep es).toList.map (·.2)).length≤4:=by rw [List.length_map,Array.length_toList,W6,hsz];exact hn
 have hints:=ZU (l:=(wo w a ep es).toList) fun e he=>hes e (hperm.mem_iff.mp he)
 refine wpAny_bind (wpAny_newList ?_ (Nat.le_trans hlen (by decide)))
 have hD:(h1.push { cls := .type "list",data := .seq ((wo w a ep es).toList.map (·.2)).toArray }).get? h1.objs.size=some (seqObj "list" ((wo w a ep es).toList.map (·.2)).toArray 0):=Heap.get?_push_size _ rfl
 refine wpAny_bind (wpAny_holding (wpAny_call_entry slot_list_sort ⟨_,hD,rfl⟩ entry_list_sort ?_ (args_list_sort _)))
 refine list_sort_tree hD hints (Nat.lt_of_le_of_lt hlen (by decide)) fun out ns' hi hp hpw=>⟨_,rfl,?_⟩
 refine wpAny_pure ⟨_,rfl,?_⟩
 obtain ⟨e,he⟩:=sortedHeap_at (vs:=(wo w a ep es).toList.map (·.2)) (out:=out) hD
 refine h _ _ out e ns' hs1 he hi (hp.trans ?_) hpw fun b o' hb => ?_
 ·rw [← hm];exact hperm.map _
 ·have hb1:=hk1 b o' hb
  have hlt:=Heap.lt_size hb1
  rw [sortedHeap_old (Nat.ne_of_lt hlt) (by rw [Heap.size_push];exact Nat.lt_succ_of_lt hlt)]
  exact Heap.get?_push_of_some _ hb1
end
theorem Y8:∀ {l m:List Int},l.Pairwise (· ≤ ·)->m.Pairwise (· ≤ ·)->l.Perm m->l=m
 |[],m,_,_,p=>(List.Perm.eq_nil p.symm).symm
 |x::l,[],_,_,p=>by have:=p.length_eq;simp at this
 |x::l,y::m,hl,hm,p=>by
  have hx:x∈y::m:=p.mem_iff.mp List.mem_cons_self
  have hy:y∈x::l:=p.mem_iff.mpr List.mem_cons_self
  have e:x=y:=by
   have h1:x≤y:=by
    rcases List.mem_cons.mp hy with q |q
    ·omega
    ·exact (List.pairwise_cons.mp hl).1 y q
   have h2:y≤x:=by
    rcases List.mem_cons.mp hx with q |q
    ·omega
    ·exact (List.pairwise_cons.mp hm).1 x q
   omega
  subst e
  rw [Y8 (List.pairwise_cons.mp hl).2 (List.pairwise_cons.mp hm).2 (List.Perm.cons_inv p)]
def sdd (vs:List Int):List Int:=(dd vs).mergeSort fun a b=>decide (a≤b)
theorem zq (vs:List Int):(sdd vs).Perm (dd vs):=List.mergeSort_perm _ _
theorem qCq (vs:List Int):(sdd vs).Pairwise (· ≤ ·):=by
 have:=List.pairwise_mergeSort (le:=fun a b:Int=>decide (a≤b)) (fun a b c h1 h2=>by simp at *;omega) (fun a b=>by simp;omega) (dd vs)
 exact this.imp fun h=>by simpa using h
section
variable {X:Cx} {e:Expr} {te:TE} {p p2 pos pos2:Pos}
def qHu (K:W.Frag) (te:TE):TE:=fun σ H Q=>te σ H fun x H1 => ∃ a vs,x = .ref a∧SqL K H1 a (vs.map V.int)∧vs.length≤4∧(∀ v∈vs,1≤v∧v≤9) ∧ ∀ p,H1 p=none->Q (.ref p) (upd H1 p (.lst ((sdd vs).map V.int)))
theorem qEx {us:List Value} {ns:List Int} (h:IntsAre us ns):Vals (ns.map V.int) us:=by
 induction h with
 |nil=>exact .nil
 |cons n t _ ih=>exact .cons ⟨t,rfl⟩ ih
theorem qFB (hc:X.calm=true) (hg:Gl X "sorted") (hm:X.mg "sorted" = none) (hg2:Gl X "set") (hm2:X.mg "set" = none) (he:PE X e te)
  (h1:starEach [.Call (.Name "set" p2) [e] [] pos2] X.env=(false,eval (.Call (.Name "set" p2) [e] [] pos2) X.env)::starEach [] X.env:=by rfl) (h2:starEach [e] X.env=(false,eval e X.env)::starEach [] X.env:=by rfl) :
  PE X (.Call (.Name "sorted" p) [.Call (.Name "set" p2) [e] [] pos2] [] pos) (qHu X.K te):=by
 intro pins s σ H Q I h
 refine wpAny_Call_Name_kw (zK I hg hm PyProof.Rows.boot_sorted ?_ (by decide) (by decide))
 refine PyProof.Rows.callWith_builtin1 ?_ h1 rfl
 rw [h1]
 show wpAny _ _ (spliced ((false,eval (.Call (.Name "set" p2) [e] [] pos2) X.env)::[])) _ _ s
 refine Calls.spliced_cons ?_
 refine wpAny_Call_Name_kw (zK I hg2 hm2 PyProof.Rows.Boot.«set» ?_ (by decide) (by decide))
 refine PyProof.Rows.callWith_type1 ?_ h2 rfl
 rw [h2]
 show wpAny _ _ (spliced ((false,eval e X.env)::[])) _ _ s
 refine Calls.spliced_cons (thn (he pins s σ H _ I h) fun u s1 ⟨x,H1,I1,r1,q1⟩=>Calls.spliced_nil ?_)
 obtain ⟨a,vs,rfl,hq,h4,hb,q⟩:=q1
 cases r1
 obtain ⟨its,rv,ht,hz⟩:=I1.list hq
 have hh:X.A.handled=none:=I.ok.hd hc
 refine qBW hh ht.isList (qAg rv) h4 hb fun h' tk ns' S hp hk=>Calls.spliced_nil ?_
 refine JN (s:={ s1 with heap:=h',toks:=tk }) hh S (by rw [hp.length_eq];have:=yy vs [];unfold dd;have z:([]:List Int).length=0:=rfl;omega) fun h3 D out e' ns3 hD hg3 hi hp3 hpw hk3 => ?_
 have es:ns3=sdd vs:=Y8 hpw (qCq vs) ((hp3.trans hp).trans (zq vs).symm)
 subst es
 have hSz:s1.heap.objs.size≤h'.objs.size:=by obtain ⟨o,_,_,_,ho,_⟩:=S;exact Nat.le_of_lt (Heap.lt_size ho)
 have hDz:s1.heap.objs.size≤D:=Nat.le_trans hSz hD
 have hlen:(sdd vs).length≤4:=by
  rw [(zq vs).length_eq]
  have:=yy vs []
  have z:([]:List Int).length=0:=rfl
  unfold dd
  omega
 refine ⟨.ref D,_,I1.laid (t':=tk) (h':=h3) (o := .lst ((sdd vs).map V.int)) (fun b ob hb=>hk3 b ob (hk b ob (Heap.lt_size hb) hb)) hDz ⟨by rw [List.length_map];exact Nat.le_trans hlen (by decide),out.toList,e',qEx hi,by simpa using hg3⟩,rfl,q _ (I1.hok.fresh hDz)⟩
end
end EX
namespace EV
open PySem PySem.Spec PyProof.Rows L2 EX
section
variable {X:Cx} {E:XK} {e:Expr} {f:FE} {p p2 pos pos2:Pos}
def qBC:PV->qC->Rs PV:=fun q st=>match asL st q with
 |some l=>match WI jd l with
  |some ns=>if ns.length≤4∧(∀ v∈ns,1≤v∧v≤9) then .ok (.lst ((sdd ns).map PV.int)) st else .no
  |none => .no
 |none => .no
def qCw (f:FE):FE:=fun r st=>(f r st).bind qBC
theorem ZK {K:W.Frag} {H:Hp} {b:Bz}:∀ (ns:List Int),RVs K H b (ns.map PV.int) (ns.map V.int)
 |[]=>RVs.nil
 |n::ns=>RVs.cons Qr (ZK ns)
theorem qEj (hc:X.calm=true) (hm:X.mg "sorted" = none) (hm2:X.mg "set" = none) (h:VE X E e f) (hg:Gl X "sorted" := by rfl) (hg2:Gl X "set" := by rfl)
  (h1:starEach [.Call (.Name "set" p2) [e] [] pos2] X.env=(false,eval (.Call (.Name "set" p2) [e] [] pos2) X.env)::starEach [] X.env:=by rfl) (h2:starEach [e] X.env=(false,eval e X.env)::starEach [] X.env:=by rfl) :
  VE X E (.Call (.Name "sorted" p) [.Call (.Name "set" p2) [e] [] pos2] [] pos) (qCw f) :=
 PE.imp (qFB hc hg hm hg2 hm2 h h1 h2) fun s H Q ⟨b,r,st,S,R,P⟩=>⟨b,r,st,S,R,PostE.bind P fun q s1 u H1 b1 e1 S1 r1 P1=>by
  unfold qBC at P1
  split at P1
  ·rename_i l el
   split at P1
   ·rename_i ns en
    split at P1
    ·rename_i hn
     obtain ⟨x,xs,rfl,h2,h3⟩:=QX S1 r1 el
     rw [Z7 h3 en] at h2
     exact ⟨x,ns,rfl,h2,hn.1,hn.2,fun p hp=>PostN.lay (PostN.of (r := .ok ((sdd ns).map PV.int) s1) P1) S1 (ZK _) hp⟩
    ·exact P1.elim
   ·exact P1.elim
  ·exact P1.elim⟩
end
end EV
end
section
namespace EX
open PySem PySem.Spec PyProof.Rows L2
inductive LexG (A:Around) (s:Shared) (r:Bool):List Value->List Value->Prop where
 |nn:r=false->LexG A s r [] []
 |nc {w ws}:r=true->LexG A s r [] (w::ws)
 |cn {v vs}:r=false->LexG A s r (v::vs) []
 |eq {v vs w ws}:SeqAt.EqAt A s v w true->LexG A s r vs ws->LexG A s r (v::vs) (w::ws)
 |ne {v vs w ws}:SeqAt.EqAt A s v w false->(∀ (prog:Program) (wd:World) (E:Value->Shared->Prop) (Q:Value->Shared->Prop),Q (.bool r) s->wpAny (model prog wd) A (richCompare .Lt v w) Q E s)->LexG A s r (v::vs) (w::ws)
section
open PySem.SeqAt
open PySem.AutoSeq1 (wpAny_loadPart')
open PySem.MeetsSeq PySem.MeetsSeq2 PySem.MeetsSeq3
theorem jB (l b:Addr) (items items2:Array Value) (n n2:Nat) (dd dd2:Option Addr) (sl sl2:Array (Option Value)) (r:Bool) :
  Meets (Builtin.«tuple.__lt__» ⟨[.ref l,.ref b],[]⟩)
   (fun A R s=>s.heap.get? l=some { cls := .type "tuple",dict:=dd,data := .seq items n,slots:=sl }∧s.heap.get? b=some { cls := .type "tuple",dict:=dd2,data := .seq items2 n2,slots:=sl2 }∧LexG A.in1 s r items.toList items2.toList ∧
    R (.ok (.ret (.bool r))) s) :=
 .of_wp fun prog w A R s h=>by
  obtain ⟨hp,g,d,tk,os⟩:=s;obtain ⟨hl,hb,hG,h⟩:=h
  have f2:=AutoSeq1.sub_tuple_tuple
  wp_walk using wpAny_loadPart' hl,wpAny_loadPart' hb,wpAny_forIn_list _ (fun rest b s'=>b.1=none∧s'=⟨hp,g,d,tk,os⟩ ∧ ∃ (vs ws:List Value),rest=vs.zip ws∧LexG A.in1 ⟨hp,g,d,tk,os⟩ r vs ws ∧
   vs.length + items2.size=ws.length + items.size) _
  case turn =>
   rintro ⟨y,x⟩ rest b s' ⟨hb',rfl,vs,ws,hz,hG',hlen⟩
   cases hG' with
   |nn _=>cases hz
   |nc _=>cases hz
   |cn _=>rw [List.zip_nil_right] at hz;cases hz
   |eq he hG2 =>
    rw [List.zip_cons_cons] at hz
    injection hz with hyx hrest
    injection hyx with hy hx
    subst hy hx
    simp only [List.length_cons] at hlen
    refine wpAny_bind (he prog w _ _ ?_)
    wp_walk
    exact ⟨rfl,rfl,_,_,hrest,hG2,by omega⟩
   |ne he hc =>
    rw [List.zip_cons_cons] at hz
    injection hz with hyx hrest
    injection hyx with hy hx
    subst hy hx
    refine wpAny_bind (he prog w _ _ ?_)
    have hri:=hc prog w
    wp_walk using hri
    exact ⟨_,rfl,by simpa using h⟩
  case fin =>
   rintro ⟨b1,b2⟩ s' ⟨hb',rfl,vs,ws,hz,hG',hlen⟩
   simp only at hb'
   subst hb'
   have hv:r=decide (items.size < items2.size):=by
    cases hG' with
    |nn hr =>
     simp only [List.length_nil] at hlen
     rw [hr];exact (decide_eq_false (by omega)).symm
    |nc hr =>
     simp only [List.length_nil,List.length_cons] at hlen
     rw [hr];exact (decide_eq_true (by omega)).symm
    |cn hr =>
     simp only [List.length_nil,List.length_cons] at hlen
     rw [hr];exact (decide_eq_false (by omega)).symm
    |eq he hG2=>rw [List.zip_cons_cons] at hz;cases hz
    |ne he hc=>rw [List.zip_cons_cons] at hz;cases hz
   rw [hv] at h
   wp_walk
   exact ⟨_,rfl,by simpa [Builtin.Tuple.tupleCompareSizes] using h⟩
  case h =>
   exact ⟨rfl,rfl,items.toList,items2.toList,rfl,hG,by simp;omega⟩
end
end EX
namespace EV
open PySem PySem.Spec PyProof.Rows L2 EX
mutual
def plt:PV->PV->Option Bool
 | .int i,.int j=>some (decide (i < j))
 | .tup l,.tup m=>plts l m
 |_,_=>none
def plts:List PV->List PV->Option Bool
 |[],[]=>some false
 |[],_::_=>some true
 |_::_,[]=>some false
 |p::ps,q::qs=>if peq p q=true then plts ps qs else plt p q
end
section
variable {X:Cx} {pins:List (Addr×Obj)} {σ:L2.St} {H:Hp} {s:Shared}
def qHv (X:Cx) (H:Hp) (s:Shared) (A:Around) (p q:PV):Prop := ∀ {v u:V} {uv uu:Value} {r:Bool},RW X.K H p v->RW X.K H q u->RelV v uv->RelV u uu->plt p q=some r ->
  ∀ (prog:Program) (wd:World) (E:Value->Shared->Prop) (Q:Value->Shared->Prop),Q (.bool r) s->wpAny (model prog wd) A (richCompare .Lt uv uu) Q E s
theorem qGk (I:L2.Inv X pins σ H s) {n:Nat} {A:Around} {r:Bool} (hu:A.units + n < cLine) (ih:∀ p q,dep p≤n->qHv X H s A p q):∀ {l m:List PV} {xs ys:List V} {its its2:List Value},deps l≤n->RWs X.K H l xs->RWs X.K H m ys->Vals xs its->Vals ys its2->plts l m=some r->LexG A s r its its2:=by
 intro l
 induction l with
 |nil =>
  intro m xs ys its its2 _ h1 h2 r1 r2 e
  unfold RWs at h1;subst h1;cases r1
  cases m with
  |nil=>unfold RWs at h2;subst h2;cases r2;unfold plts at e;cases e;exact .nn rfl
  |cons q qs=>unfold RWs at h2;obtain ⟨y,yr,rfl,_,_⟩:=h2;cases r2;unfold plts at e;cases e;exact .nc rfl
 |cons p ps ihl =>
  intro m xs ys its its2 hd h1 h2 r1 r2 e
  unfold RWs at h1
  obtain ⟨x,xr,rfl,hx,hxs⟩:=h1
  unfold deps at hd
  cases r1 with
  |cons rx rxs =>
   cases m with
   |nil=>unfold RWs at h2;subst h2;cases r2;unfold plts at e;cases e;exact .cn rfl
   |cons q qs =>
    unfold RWs at h2
    obtain ⟨y,yr,rfl,hy,hys⟩:=h2
    cases r2 with
    |cons ry rys =>
     have he:=qAr I n p q x y _ _ A (by omega) hu hx hy rx ry
     unfold plts at e
     cases hq:peq p q with
     |true =>
      rw [hq] at e he
      exact .eq he (ihl (by omega) hxs hys rxs rys e)
     |false =>
      rw [hq] at e he
      exact .ne he (ih p q (by omega) hx hy rx ry e)
theorem qHV (I:L2.Inv X pins σ H s):∀ (n:Nat) (p q:PV) (A:Around),dep p≤n->A.units + n < cLine->qHv X H s A p q:=by
 intro n
 induction n with
 |zero =>
  intro p q A hd hu v u uv uu r hp hq rv ru e prog wd E Q h
  cases p with
  |int i =>
   cases q with
   |int j =>
    unfold RW at hp hq
    subst hp;subst hq
    obtain ⟨t,rfl⟩:=rv
    obtain ⟨t',rfl⟩:=ru
    unfold plt at e
    cases e
    exact HT.rcLt_int A s i t j t' prog wd E Q h
   |_=>simp [plt] at e
  |tup l=>unfold dep at hd;omega
  |_=>cases q <;> simp [plt] at e
 |succ n ih =>
  intro p q A hd hu v u uv uu r hp hq rv ru e prog wd E Q h
  cases p with
  |int i =>
   cases q with
   |int j =>
    unfold RW at hp hq
    subst hp;subst hq
    obtain ⟨t,rfl⟩:=rv
    obtain ⟨t',rfl⟩:=ru
    unfold plt at e
    cases e
    exact HT.rcLt_int A s i t j t' prog wd E Q h
   |_=>simp [plt] at e
  |tup l =>
   cases q with
   |tup m =>
    unfold RW at hp hq
    obtain ⟨a,xs,rfl,h2,h3⟩:=hp
    obtain ⟨a',ys,rfl,k2,k3⟩:=hq
    cases rv;cases ru
    obtain ⟨its,r1,t1,_⟩:=I.tuple h2
    obtain ⟨its2,r2,t2,_⟩:=I.tuple k2
    unfold plt at e
    unfold dep at hd
    obtain ⟨⟨cls,dd,data,sl⟩,ho,hc,n1,hda⟩:=id t1
    obtain ⟨⟨cls2,dd2,data2,sl2⟩,ho2,hc2,n2,hda2⟩:=id t2
    simp only at hc hda hc2 hda2
    subst hc hda hc2 hda2
    have hu1:A.in1.units + n < cLine:=by show A.units + 1 + n < cLine;omega
    have G:=qGk I (n:=n) (A:=A.in1) hu1 (fun p q hd=>ih p q A.in1 hd hu1) (by omega) h3 k3 r1 r2 e
    exact richCompare_meets_room (op := .Lt) ⟨_,ho,rfl⟩ ⟨_,ho2,rfl⟩ PySem.F.slot_tuple_lt PySem.F.entry_tuple_lt (PySem.F.args_tuple_lt_2 _ _) (jB _ _ its.toArray its2.toArray n1 n2 dd dd2 sl sl2 r)
     ⟨ho,ho2,by simpa using G,show Value.bool r≠Value.notImplemented∧Q (.bool r) s from ⟨(fun x=>nomatch x),h⟩⟩ (by omega)
   |_=>simp [plt] at e
  |_=>cases q <;> simp [plt] at e
end
section
variable {X:Cx} {E:XK} {a c:Expr} {fa fb:FE} {pos:Pos}
def qHm (K:W.Frag):R2:=fun u v H Q => ∃ p q r,RW K H p u∧RW K H q v∧dep p≤qAK∧plt p q=some r∧Q (.bl r) H
theorem qHD (hr:X.A.units + 64 < cLine):OpR X (compareOp .Lt) (qHm X.K):=by
 intro pins s σ H x y v u Q I rx ry h
 obtain ⟨p,q,r,hp,hq,hd,e,h⟩:=h
 exact qHV I 60 p q X.A hd (by omega) hp hq rx ry e _ _ _ _ ⟨.bl _,H,I,rfl,h⟩
def JM:PV->PV->qC->Rs PV:=fun p q st=>if Jv (res st p) (res st q)=true then (match plt (res st p) (res st q) with |some r => .ok (.bl r) st |none => .no) else .no
theorem qGI:OpG X E (qHm X.K) JM:=by
 intro H b st p q u v Q S rp rq P
 unfold JM at P
 split at P
 ·rename_i h
  obtain ⟨h1,h2,h3⟩:=YY h
  split at P
  ·rename_i r hr
   exact ⟨_,_,r,yI S rp h1,yI S rq h2,h3,hr,PostE.here P S WX⟩
  ·exact P.elim
 ·exact P.elim
end
end EV
end
section
namespace EV
open PySem PySem.Spec PyProof.Rows L2 EX
section
variable {X:Cx} {E:XK} {e:Expr} {te:TE} {f:FE} {p kp kpos pos:Pos} {j:Nat}
def qAx:=gI fun i j=>if 0 < j∧j < 2 ^ 64 then some (.int (i / j)) else none
theorem qDB:OpR X (binaryOp .FloorDiv) (rI (fun _ j=>0 < j∧j < 2 ^ 64) fun i j => .int (i / j)):=opI fun i j _ _ _ _ _ hc q=>by
 have h1:(0:Int) < j:=hc.1
 have h2:j < 2 ^ 64:=hc.2
 refine floordiv_int (by omega) (by rw [Int.fdiv_eq_ediv_of_nonneg i (by omega)];exact q) (.inl (PyProof.noPylong_of_log2 ?_))
 have h3:j.natAbs < 2 ^ 64:=by omega
 have h4:j.natAbs≠0:=by omega
 exact Nat.lt_trans ((Nat.log2_lt h4).mpr h3) (by decide)
theorem qFI {a c:Expr} {fa fb:FE} (ha:VE X E a fa) (hb:VE X E c fb):VE X E (.BinOp a .FloorDiv c pos) (qL qAx fa fb):=ZZ qDB (qCP fun i j z e=>by
 split at e
 ·rename_i h;cases e;exact ⟨h,fun _ _=>Qr⟩
 ·cases e) ha hb
end
mutual
def zY:PV->Option PyData
 | .non=>some .none
 | .bl b=>some (.bool b)
 | .int i=>some (.int i)
 | .str x=>some (.str x)
 | .tup l=>(pdats l).map .tuple
 | .lst l=>(pdats l).map .list
 |_=>none
def pdats:List PV->Option (List PyData)
 |[]=>some []
 |p::ps=>match zY p,pdats ps with
  |some d,some ds=>some (d::ds)
  |_,_=>none
end
def shw (d:PyData):Option Str:=if d.showable=true∧d.depth≤60∧d.shown.length≤sizeLine then some d.shown else none
def rpr:PV->Option Str
 | .non=>some "None"
 | .bl b=>some (if b=true then "True" else "False")
 | .int i=>if i.natAbs.log2 < 1920 then some (Str.ofString (toString i)) else none
 | .str x=>if (reprText x).length≤sizeLine then some (reprText x) else none
 | .dct=>shw (.dict [])
 | .tup l=>(zY (.tup l)).bind shw
 | .lst l=>(zY (.lst l)).bind shw
 |_=>none
section
variable {X:Cx} {E:XK} {e:Expr} {es:List Expr} {pos:Pos} {pins:List (Addr×Obj)} {σ:L2.St} {H:Hp} {s:Shared} {b:Bz}
mutual
theorem yz (I:L2.Inv X pins σ H s):∀ (p:PV) {v:V} {u:Value} {d:PyData},RV X.K H b p v->RelV v u->zY p=some d->d.hasDict=false ∧ ∃ as,Reads s.heap u d as
 | .non,_,_,_,r,q,e=>by unfold RV at r;subst r;cases q;cases e;exact ⟨rfl,_,.none⟩
 | .bl x,_,_,_,r,q,e=>by unfold RV at r;subst r;cases q;cases e;exact ⟨rfl,_,.bool x⟩
 | .int x,_,_,_,r,q,e=>by unfold RV at r;subst r;obtain ⟨t,rfl⟩:=q;cases e;exact ⟨rfl,_,.int x t⟩
 | .str x,_,_,_,r,q,e=>by unfold RV at r;subst r;obtain ⟨t,rfl⟩:=q;cases e;exact ⟨rfl,_,.str x t⟩
 | .tup l,_,_,d,r,q,e=>by
  unfold RV at r
  obtain ⟨a,xs,rfl,h1,h2⟩:=r
  cases q
  unfold zY at e
  cases el:pdats l with
  |none=>rw [el] at e;cases e
  |some ds =>
   rw [el] at e;cases e
   obtain ⟨its,rv,⟨o,g1,g2,n,g3⟩,_⟩:=I.tuple h1.sq
   obtain ⟨hd,as,ha⟩:=readsAll_of I l h2 rv el
   exact ⟨hd,as,.tuple g1 g2 g3 (by simpa using ha)⟩
 | .lst l,_,_,d,r,q,e=>by
  unfold RV at r
  obtain ⟨a,xs,rfl,h1,h2⟩:=r
  cases q
  unfold zY at e
  cases el:pdats l with
  |none=>rw [el] at e;cases e
  |some ds =>
   rw [el] at e;cases e
   obtain ⟨its,rv,⟨o,n,g1,g2,_,g3⟩,_⟩:=I.list h1.sq
   obtain ⟨hd,as,ha⟩:=readsAll_of I l h2 rv el
   exact ⟨hd,_,.list g1 g2 g3 (by simpa using ha)⟩
 | .ref _,_,_,_,_,_,e=>by cases e
 | .dct,_,_,_,_,_,e=>by cases e
 | .ty _,_,_,_,_,_,e=>by cases e
 | .fn _,_,_,_,_,_,e=>by cases e
 | .exc _ _,_,_,_,_,_,e=>by cases e
theorem readsAll_of (I:L2.Inv X pins σ H s):∀ (l:List PV) {xs:List V} {us:List Value} {ds:List PyData},RVs X.K H b l xs->Vals xs us->pdats l=some ds->PyData.hasDictAll ds=false ∧ ∃ as,ReadsAll s.heap us ds as
 |[],_,_,_,r,q,e=>by unfold RVs at r;subst r;cases q;cases e;exact ⟨rfl,_,.nil⟩
 |p::ps,_,_,ds,r,q,e=>by
  unfold RVs at r
  obtain ⟨x,t,rfl,h2,h3⟩:=r
  cases q with
  |cons q1 q2 =>
   unfold pdats at e
   cases e1:zY p with
   |none=>rw [e1] at e;cases e
   |some d =>
    cases e2:pdats ps with
    |none=>rw [e1,e2] at e;cases e
    |some ds =>
     rw [e1,e2] at e;cases e
     obtain ⟨a1,a2,a3⟩:=yz I p h2 q1 e1
     obtain ⟨b1,b2,b3⟩:=readsAll_of I ps h3 q2 e2
     exact ⟨by rw [PyData.hasDictAll.eq_2,a1,b1];rfl,_,.cons a3 b3⟩
end
theorem J7 {a:Addr} {d:PyData} {as:List Addr} {t:Str} {Q:VK} (I:L2.Inv X pins σ H s) (hg:X.A.guards=some []) (hu:X.A.units + 64 < cLine) (hr:Reads s.heap (.ref a) d as) (hd:d.hasDict=true -> ¬sysModules∈as) (e:shw d=some t) (q:Q (.str t) H) :
  wpAny (model X.prog X.w) X.A (call (.builtin "repr") [.ref a]) (EP X pins σ Q) X.xe s:=by
 unfold shw at e
 split at e
 ·rename_i hs
  cases e
  exact repr_of_reads' hr hs.1 hd hg (by have:=hs.2.1;omega) (fun _ _ h=>h) (fun h' u tk hk=>⟨.str d.shown,H,I.kept (h':=h') (t':=tk) hk,⟨u,rfl⟩,q⟩) hs.2.2
 ·cases e
theorem qAO (hg:X.A.guards=some []) (hu:X.A.units + 64 < cLine):WH X (.builtin "repr") (fun xs H Q => ∃ x p b t,xs=[x]∧RV X.K H b p x∧rpr p=some t∧Q (.str t) H):=by
 intro pins s σ H xs us Q I r h
 obtain ⟨x,p,b,t,rfl,rp,e,q⟩:=h
 obtain ⟨u,rfl,rx⟩:=ZF r
 cases p with
 |non =>
  unfold RV at rp;subst rp;cases rx;cases e
  exact P.repr_of_none ⟨.str _,H,I.tok _,⟨_,rfl⟩,q⟩
 |bl x =>
  unfold RV at rp;subst rp;cases rx;cases e
  refine P.repr_of_bool ⟨.str _,H,I.tok _,⟨_,rfl⟩,q⟩
 |int i =>
  unfold RV at rp;subst rp;obtain ⟨t',rfl⟩:=rx
  have e:(if i.natAbs.log2 < 1920 then some (Str.ofString (toString i)) else none)=some t:=e
  split at e
  ·rename_i hl
   cases e
   exact P.repr_of_int hl ⟨.str _,H,I.tok _,⟨_,rfl⟩,q⟩
  ·cases e
 |str x =>
  unfold RV at rp;subst rp;obtain ⟨t',rfl⟩:=rx
  have e:(if (reprText x).length≤sizeLine then some (reprText x) else none)=some t:=e
  split at e
  ·rename_i hl
   cases e
   exact P.repr_of_str ⟨.str _,H,I.tok _,⟨_,rfl⟩,q⟩ hl
  ·cases e
 |dct =>
  unfold RV at rp
  obtain ⟨a,rfl,ha,_⟩:=rp
  cases rx
  obtain ⟨_,hs,vs,kv,ob,es,ep,g1,g2,g3,_,g5,_⟩:=qHR I.hok ha
  cases kv
  have h0:es.toList=[]:=by cases h:es.toList with
   |nil=>rfl
   |cons=>rw [h] at g5;cases g5
  refine J7 I hg hu (d := .dict []) (as:=[a]) (Reads.dict (as:=[]) (bs:=[]) g1 g2.1 g3 (by rw [h0];exact .nil) (by rw [h0];exact .nil)) (fun _ hm => ?_) e q
  simp only [List.mem_singleton] at hm
  rw [← hm] at hs
  exact absurd hs (by decide)
 |tup l =>
  have e2:(zY (.tup l)).bind shw=some t:=e
  cases el:zY (.tup l) with
  |none=>rw [el] at e2;cases e2
  |some d =>
   rw [el] at e2
   have hv:=yz I _ rp rx el
   unfold RV at rp
   obtain ⟨a,xs,rfl,h1,h2⟩:=rp
   cases rx
   obtain ⟨z,as,ha⟩:=hv
   exact J7 I hg hu ha (fun y=>absurd (z.symm.trans y) (by decide)) e2 q
 |lst l =>
  have e2:(zY (.lst l)).bind shw=some t:=e
  cases el:zY (.lst l) with
  |none=>rw [el] at e2;cases e2
  |some d =>
   rw [el] at e2
   have hv:=yz I _ rp rx el
   unfold RV at rp
   obtain ⟨a,xs,rfl,h1,h2⟩:=rp
   cases rx
   obtain ⟨z,as,ha⟩:=hv
   exact J7 I hg hu ha (fun y=>absurd (z.symm.trans y) (by decide)) e2 q
 |_=>cases e
def Zv:List PV->qC->Rs PV:=fun ps st=>match ps with
 |[p]=>match rpr p with
  |some t => .ok (.str t) st
  |none => .no
 |_ => .no
theorem qES:ZE X E (fun xs H Q => ∃ x p b t,xs=[x]∧RV X.K H b p x∧rpr p=some t∧Q (.str t) H) Zv:=by
 intro H b st ps vs Q S r P
 unfold Zv at P
 split at P
 ·obtain ⟨v,rfl,r1⟩:=RVs.one r
  split at P
  ·rename_i t et
   exact ⟨v,_,b,t,rfl,r1,et,PostE.here P S (by unfold RV;rfl)⟩
  ·exact P.elim
 ·exact P.elim
theorem qAt {ta:FA} {p:Pos} (hgd:X.A.guards=some []) (hu:X.A.units + 64 < cLine) (ha:VA X E (e::es) ta) (hm:X.mg "repr" = none) (hg:Gl X "repr" := by rfl) (he:starEach (e::es) X.env=(false,eval e X.env)::starEach es X.env:=by rfl) (hpl:(backTo pos (starEach es X.env)).any (·.1)=false:=by rfl):VE X E (.Call (.Name "repr" p) (e::es) [] pos) (qI Zv ta) :=
 wT (qAO hgd hu) qES hg hm PyProof.Rows.boot_repr ha (he:=he) (hpl:=hpl)
end
end EV
end
section
namespace K87
open PySem PySem.Spec PyProof.Rows L2 EX EV
structure Ad where
 (BarError NoLength NoNumber NoBars NoBox NoWeights NoSorts NoTurn NoPlace NoText NoRow TooMany:Addr)
 (is_whole is_whole_within are_wholes is_rising need_number is_sort are_sorts need_line line_paper_shows law_cell law_box law_take law_whole law_odd law_kind law_same law_sorts law_no_sorts law_no_cells law_least law_shows law_paper law_bent law_asked law:Addr)
def kitTab:List ((String×String)×Bool):=[(("NoneType","int"),false),(("NoneType","bool"),false),(("NoneType","tuple"),false),(("NoneType","list"),false),(("int","int"),true),(("int","bool"),false),(("int","tuple"),false),(("int","list"),false),(("bool","int"),true),(("bool","bool"),true),(("bool","tuple"),false),(("bool","list"),false),(("str","int"),false),(("str","bool"),false),(("str","tuple"),false),(("str","list"),false),(("tuple","int"),false),(("tuple","bool"),false),(("tuple","tuple"),true),(("tuple","list"),false),(("list","int"),false),(("list","bool"),false),(("list","tuple"),false),(("list","list"),true),(("dict","int"),false),(("dict","bool"),false),(("dict","tuple"),false),(("dict","list"),false)]
def qHh (s T:String):Option Bool:=kitTab.lookup (s,T)
def Ad.kinds (a:Ad):List Addr:=[a.NoLength,a.NoNumber,a.NoBars,a.NoBox,a.NoWeights,a.NoSorts,a.NoTurn,a.NoPlace,a.NoText,a.NoRow,a.TooMany]
def Dist (a:Ad):Prop:=a.kinds.Nodup
instance (a:Ad):Decidable (Dist a):=by unfold Dist;infer_instance
theorem Dist.nd {a:Ad} (h:Dist a):a.kinds.Nodup:=h
def Qg (a:Ad):List Addr:=[a.NoSorts,a.NoNumber]
def kit (a:Ad):Value->Value->Option Bool
 | .type s,.type T=>qHh s T
 | .ref x,.ref d=>if x∈Qg a∧d∈a.kinds then some (x==d) else none
 | .ref x,.type T=>if x∈Qg a∧T = "ValueError" then some true else none
 |_,_=>none
def top (i:Nat):Stmt:=PySem.Challenge.pw_barfloors_k87_line_papers_looked_at.main.body.getD i (.Pass ⟨0,0,0,0⟩)
abbrev w9:Stmt:=top 14
abbrev QO:Stmt:=top 15
abbrev wR:Stmt:=top 16
abbrev wZ:Stmt:=top 17
abbrev Ql:Stmt:=top 18
abbrev WV:Stmt:=top 24
abbrev wM:Stmt:=top 25
abbrev wA:Stmt:=top 26
abbrev qw:Stmt:=top 27
abbrev wx:Stmt:=top 29
abbrev WT:Stmt:=top 30
abbrev WA:Stmt:=top 31
abbrev we:Stmt:=top 32
abbrev WU:Stmt:=top 33
abbrev wu:Stmt:=top 34
abbrev wX:Stmt:=top 35
abbrev wD:Stmt:=top 36
abbrev QY:Stmt:=top 37
abbrev Qp:Stmt:=top 38
abbrev wH:Stmt:=top 39
abbrev wB:Stmt:=top 40
abbrev wJ:Stmt:=top 41
abbrev wy:Stmt:=top 42
abbrev wK:Stmt:=top 43
abbrev zW:Stmt:=top 44
noncomputable def YK (a:Ad):FS:=(qr (Zf (qI (QN (kit a)) (qA (qB 0) (qA (vC (.ty "int")) qD))) (qGF (qI (QN (kit a)) (qA (qB 0) (qA (vC (.ty "bool")) qD))))))
noncomputable def zR (a:Ad):List PV->qC->Rs PV:=QB 1 1 (YK a)
noncomputable def wp (a:Ad):FS:=(qr (Zf (qI (zR a) (qA (qB 0) qD)) (w4 gLe gLe (qB 1) (qB 0) (qB 2))))
noncomputable def wn (a:Ad):List PV->qC->Rs PV:=QB 3 3 (wp a)
noncomputable def Zz (a:Ad):FS:=(qr (Zf (qI (QN (kit a)) (qA (qB 0) (qA (vC (.ty "tuple")) qD))) (Zf (w4 gLe gLe (qB 1) (qI W7 (qA (qB 0) qD)) (qB 2)) (qI Z6 (qA (vFz (qm [] 1 (QA (qB 0)) (QR 0) [] [] (qI (zR a) (qA (qB 0) qD)))) qD)))))
noncomputable def wm (a:Ad):List PV->qC->Rs PV:=QB 3 3 (Zz a)
noncomputable def yZ (a:Ad):FS:=(qr (qI Z6 (qA (vFz (qm [0] 1 (ZY (qA (vC (.int 1)) (qA (qI W7 (qA (qB 0) qD)) qD))) (QR 1) [] [] (qL gLt (qL gIx (qB 0) (qL WL (qB 1) (vC (.int 1)))) (qL gIx (qB 0) (qB 1))))) qD)))
noncomputable def ze (a:Ad):List PV->qC->Rs PV:=QB 1 1 (yZ a)
noncomputable def Wv (a:Ad):FS:=(wN (WP (Qw (qI (wn a) (qA (qB 0) (qA (qB 1) (qA (qB 2) qD)))))) (yj a.NoNumber (qA (vJ [(vC (.str "a whole number from ")),(qEQ (qB 1)),(vC (.str " to ")),(qEQ (qB 2)),(vC (.str " is wanted"))] Str.empty) qD)) Q8)
noncomputable def WD (a:Ad):List PV->qC->Rs PV:=QB 3 3 (Wv a)
noncomputable def Yp (a:Ad):FS:=(qr (Zf (qI (wm a) (qA (qB 0) (qA (vC (.int 2)) (qA (vC (.int 2)) qD)))) (Zf (w4 gLe gLe (vC (.int 1)) (qL gIx (qB 0) (vC (.int 0))) (vC (.int 9))) (w4 gLe gLe (vC (.int 0)) (qL gIx (qB 0) (vC (.int 1))) (vC (.int 1000000000000))))))
noncomputable def ZM (a:Ad):List PV->qC->Rs PV:=QB 1 1 (Yp a)
noncomputable def Wk (a:Ad):FS:=(qR (wN (W5 (WP (Qw (qI (QN (kit a)) (qA (qB 0) (qA (vC (.ty "tuple")) qD))))) (W5 (WP (vTB (w4 gLe gLe (vC (.int 1)) (qI W7 (qA (qB 0) qD)) (vC (.int 4))))) (WP (Qw (qI Z6 (qA (vFz (qm [] 1 (QA (qB 0)) (QR 0) [] [] (qI (ZM a) (qA (qB 0) qD)))) qD)))))) (qr (vC (.bl false))) Q8) (qr (qI (ze a) (qA (vFz (qm [] 2 (QA (qB 0)) (WS 2 (qp (QR 0) (qp (QR 1) WW))) [] [] (qB 0))) qD))))
noncomputable def Qu (a:Ad):List PV->qC->Rs PV:=QB 1 1 (Wk a)
noncomputable def WK (a:Ad):FS:=(qR (wN (WP (Qw (qI (Qu a) (qA (qB 0) qD)))) (yj a.NoSorts (qA (vJ [(vC (.str "sorts are a rising tuple of one to ")),(qEQ (vC (.int 4))),(vC (.str " tuples of a long and a price"))] Str.empty) qD)) Q8) (zO (qI (WD a) (qA (qB 1) (qA (vC (.int 0)) (qA (vC (.int 200)) qD))))))
noncomputable def wb (a:Ad):List PV->qC->Rs PV:=QB 2 2 (WK a)
noncomputable def Qa (a:Ad):FS:=(qR (zO (qI (wb a) (qA (qB 0) (qA (qB 1) qD)))) (qR (wN (WP (Qw (qI (wm a) (qA (qB 2) (qA (qB 1) (qA (qB 1) qD)))))) (qr (vC .non)) Q8) (qR (WN (QA (qB 0)) (WS 2 (qp (QT 3) (qp (QT 4) WW))) (wN (Qw (qI qAW (qA (vFz (qm [4,2,3] 1 (Wq (qA (qL qz (qL WL (qB 1) (qB 3)) (vC (.int 1))) qD)) (QR 3) [] [] (qL gGt (qI y0 (qA (yG (qB 1) (Qh (qB 3)) (Qh (qL qz (qB 3) (qB 2)))) qD)) (qB 0)))) qD))) (qr (vC .non)) Q8)) (qr (qI y0 (qA (qB 2) qD))))))
noncomputable def qu (a:Ad):List PV->qC->Rs PV:=QB 3 5 (Qa a)
noncomputable def zN (a:Ad):FS:=(qR (wN (vTB (qL gLt (qB 1) (qI W7 (qA (qB 0) qD)))) (qr (qL gIx (qB 0) (qB 1))) Q8) (qr (qL qz (qL ZD (vC (.int 6151)) (qB 1)) (vC (.int 29)))))
noncomputable def zV (a:Ad):List PV->qC->Rs PV:=QB 2 2 (zN a)
noncomputable def ZQ (a:Ad):FS:=(qR (qY 2 (qI (zV a) (qA (qB 0) (qA (qB 1) qD)))) (qR (wN (vTB (qL gEq (qL jj (qB 2) (vC (.int 2))) (vC (.int 0)))) (yv (Qt (qA (qL qET (qB 2) (vC (.int 2))) qD))) Q8) (qR (qY 3 (vC (.int 0))) (qR (qY 4 (qL jj (qB 2) (vC (.int 2147483647)))) (qR (WN (Wq (qA (vC (.int 24)) qD)) (QT 5) (qR (qY 4 (qL jj (qL qz (qL qz (qL qz (qL ZD (qB 4) (vC (.int 48271))) (qL ZD (qL ZD (vC (.int 7)) (qB 5)) (qB 5))) (qL ZD (vC (.int 11)) (qB 1))) (vC (.int 1))) (vC (.int 2147483647)))) (qY 3 (qL qz (qL ZD (qB 3) (vC (.int 2147483647))) (qB 4))))) (yv (Qt (qA (qB 3) qD))))))))
noncomputable def ZR (a:Ad):List PV->qC->Rs PV:=QB 2 6 (ZQ a)
noncomputable def Za (a:Ad):FS:=(qR (qY 2 (qL jj (qL gIx (qB 0) (vC (.int 0))) (qB 1))) (qR (qDe (qB 0) (vC (.int 0)) (qL qAx (qL gIx (qB 0) (vC (.int 0))) (qB 1))) (qr (qB 2))))
noncomputable def qZ (a:Ad):List PV->qC->Rs PV:=QB 2 3 (Za a)
noncomputable def yc (a:Ad):FS:=(qr (Zf (qI (QN (kit a)) (qA (qB 0) (qA (vC (.ty "int")) qD))) (qGF (qI (QN (kit a)) (qA (qB 0) (qA (vC (.ty "bool")) qD))))))
noncomputable def Ws (a:Ad):List PV->qC->Rs PV:=QB 1 1 (yc a)
noncomputable def Yr (a:Ad):FS:=(qR (qY 1 (vFz (Qt (qA (vC .non) (qA (vC (.bl true)) (qA (vC (.int 7)) (qA (vC (.str "")) (qA (vC (.str "0")) (qA (qt qD) (qA (vFz (Qt qD)) (qA (vC .dct) (qA (qt (qA (vC (.int 1)) (qA (vC (.int 2)) qD))) (qA (qt (qA (vC (.int 0)) qD)) (qA (qt (qA (vC (.int 1)) (qA (vC (.int 0)) (qA (vC (.int 0)) qD)))) (qA (yP (vC (.int 1))) (qA (qt (qA (vC (.int 0)) (qA (vC (.int 0)) qD))) (qA (vFz (Qt (qA (qt (qA (vC (.int 0)) (qA (vC (.int 0)) qD))) qD))) (qA (vC (.bl false)) (qA (qt (qA (qt (qA (vC (.int 0)) (qA (vC (.int 0)) qD))) (qA (qt (qA (vC (.int 0)) (qA (vC (.int 1)) qD))) qD))) qD))))))))))))))))))) (qr (qL gIx (qB 1) (qI (qZ a) (qA (qB 0) (qA (vC (.int 16)) qD))))))
noncomputable def yS (a:Ad):List PV->qC->Rs PV:=QB 1 2 (Yr a)
noncomputable def zL (a:Ad):FS:=(qR (qY 1 (vFz (Qt (qA (qI (QN (kit a)) (qA (qB 0) (qA (vC (.fn a.NoLength)) qD))) (qA (qI (QN (kit a)) (qA (qB 0) (qA (vC (.fn a.NoNumber)) qD))) (qA (qI (QN (kit a)) (qA (qB 0) (qA (vC (.fn a.NoBars)) qD))) (qA (qI (QN (kit a)) (qA (qB 0) (qA (vC (.fn a.NoBox)) qD))) qD))))))) (qR (qY 1 (vFz (Z4 (qB 1) (vFz (Qt (qA (qI (QN (kit a)) (qA (qB 0) (qA (vC (.fn a.NoWeights)) qD))) (qA (qI (QN (kit a)) (qA (qB 0) (qA (vC (.fn a.NoSorts)) qD))) (qA (qI (QN (kit a)) (qA (qB 0) (qA (vC (.fn a.NoTurn)) qD))) (qA (qI (QN (kit a)) (qA (qB 0) (qA (vC (.fn a.NoPlace)) qD))) qD))))))))) (qR (qY 1 (vFz (Z4 (qB 1) (vFz (Qt (qA (qI (QN (kit a)) (qA (qB 0) (qA (vC (.fn a.NoText)) qD))) (qA (qI (QN (kit a)) (qA (qB 0) (qA (vC (.fn a.NoRow)) qD))) (qA (qI (QN (kit a)) (qA (qB 0) (qA (vC (.fn a.TooMany)) qD))) qD)))))))) (qR (wN (W5 (WP (Qw (qI (QN (kit a)) (qA (qB 0) (qA (vC (.ty "ValueError")) qD))))) (vTB (qL gNe (qI jF (qA (vFz (qm [] 1 (QA (qB 1)) (QR 0) [] [] (qI qDR (qA (qB 0) qD)))) qD)) (vC (.int 1))))) (qr (vC (.str "! none of the classes"))) Q8) (qR (qY 2 (vFz (Qt (qA (vC (.str "length")) (qA (vC (.str "number")) (qA (vC (.str "bars")) (qA (vC (.str "box")) (qA (vC (.str "weights")) (qA (vC (.str "sorts")) (qA (vC (.str "turn")) (qA (vC (.str "place")) (qA (vC (.str "text")) (qA (vC (.str "row")) (qA (vC (.str "many")) qD)))))))))))))) (qr (qL qHI (vC (.str "! ")) (qL gIx (qB 2) (qHo (qB 1) (vC (.bl true)))))))))))
noncomputable def Wg (a:Ad):List PV->qC->Rs PV:=QB 1 3 (zL a)
noncomputable def ww (a:Ad) (rec:List PV->qC->Rs PV):FS:=(qR (wN (Qw (qI (QN (kit a)) (qA (qB 1) (qA (qt (qA (vC (.ty "tuple")) (qA (vC (.ty "list")) qD))) qD)))) (qR (wN (W5 (vTB (qL gNe (qI (QN (kit a)) (qA (qB 0) (qA (vC (.ty "tuple")) qD))) (qI (QN (kit a)) (qA (qB 1) (qA (vC (.ty "tuple")) qD))))) (vTB (qL gNe (qI (QN (kit a)) (qA (qB 0) (qA (vC (.ty "list")) qD))) (qI (QN (kit a)) (qA (qB 1) (qA (vC (.ty "list")) qD)))))) (qr (vC (.bl false))) Q8) (qr (Zf (qL gEq (qI W7 (qA (qB 0) qD)) (qI W7 (qA (qB 1) qD))) (qI Z6 (qA (vFz (qm [] 2 (qBB (qA (qB 0) (qA (qB 1) qD))) (WS 2 (qp (QR 0) (qp (QR 1) WW))) [] [] (qI rec (qA (qB 0) (qA (qB 1) qD))))) qD))))) Q8) (qr (Zf (qL gEq (qB 0) (qB 1)) (qL gEq (qI (QN (kit a)) (qA (qB 0) (qA (vC (.ty "bool")) qD))) (qI (QN (kit a)) (qA (qB 1) (qA (vC (.ty "bool")) qD)))))))
noncomputable def QZ:Nat->Ad->List PV->qC->Rs PV
 |0,_=>fun _ _ => .no
 |n + 1,a=>QB 2 2 (ww a (QZ n a))
noncomputable def ZC (a:Ad):FS:=(qR (qY 1 (qCw (vFz (qm [0] 1 (Wq (qA (qL qz (vC (.int 1)) (qI (qZ a) (qA (qB 0) (qA (vC (.int 4)) qD)))) qD)) (QR 1) [] [] (qL qz (vC (.int 1)) (qI (qZ a) (qA (qB 0) (qA (qL gIx (vFz (Qt (qA (vC (.int 3)) (qA (vC (.int 9)) qD)))) (qI (qZ a) (qA (qB 0) (qA (vC (.int 2)) qD)))) qD)))))))) (qR (qY 2 (qL gIx (vFz (Qt (qA (vC (.int 3)) (qA (vC (.int 12)) (qA (qL qz (qL qAG (vC (.int 10)) (vC (.int 12))) (vC (.int 1))) qD))))) (qI (qZ a) (qA (qB 0) (qA (vC (.int 3)) qD))))) (qr (qI Zm (qA (vFz (qm [0,2] 1 (QA (qB 1)) (QR 2) [] [] (qt (qA (qB 2) (qA (qI (qZ a) (qA (qB 0) (qA (qB 1) qD))) qD))))) qD)))))
noncomputable def Wj (a:Ad):List PV->qC->Rs PV:=QB 1 3 (ZC a)
noncomputable def WZ (a:Ad):FS:=(qR (qY 2 (qI (qZ a) (qA (qB 0) (qA (qI W7 (qA (qB 1) qD)) qD)))) (qR (qBI (qL gIx (qB 1) (qB 2)) (WS 2 (qp (QT 3) (qp (QT 4) WW)))) (qR (qY 5 (qL gIx (vFz (Qt (qA (vC (.int 0)) (qA (vC (.int 10)) (qA (yP (vC (.int 1))) (qA (vC (.bl true)) (qA (vC .non) (qA (vC (.str "2")) (qA (qL qz (qL qAG (vC (.int 10)) (vC (.int 12))) (vC (.int 1))) (qA (qt (qA (vC (.int 1)) qD)) qD)))))))))) (qI (qZ a) (qA (qB 0) (qA (vC (.int 8)) qD))))) (qR (ZH 6 (Qt (qA (qt (qA (vC (.int 10)) (qA (qB 4) qD))) (qA (qt (qA (vC (.int 0)) (qA (qB 4) qD))) (qA (qt (qA (vC (.bl true)) (qA (qB 4) qD))) (qA (qt (qA (qB 3) (qA (yP (vC (.int 1))) qD))) (qA (qt (qA (qB 3) (qA (qL qz (qL qAG (vC (.int 10)) (vC (.int 12))) (vC (.int 1))) qD))) (qA (qt (qA (qB 3) (qA (vC (.bl true)) qD))) (qA (qt (qA (qB 3) (qA (vC .non) qD))) qD))))))))) (qR (WJ (qB 6) (vFz (Qt (qA (qB 3) (qA (qB 4) qD))))) (qR (ZH 6 (Z4 (qB 6) (vFz (Qt (qA (qt (qA (qB 3) qD)) (qA (qt (qA (qB 3) (qA (qB 4) (qA (vC (.int 0)) qD)))) (qA (qB 5) qD))))))) (qR (qY 7 (vFz (qm [1,2] 1 (QA (qB 6)) (QR 2) [] [] (qL wc (qL wc (yG (qB 0) Q1 (Qh (qB 1))) (qt (qA (qB 2) qD))) (yG (qB 0) (Qh (qL qz (qB 1) (vC (.int 1)))) Q1))))) (qR (qY 7 (vFz (Z4 (qB 7) (vFz (Qt (qA (qL wc (qB 1) (yG (qB 1) Q1 (Qh (vC (.int 1))))) (qA (qt qD) (qA (vFz (qAy (qB 1))) (qA (vC .non) (qA (qt (qA (qt (qA (vC (.int 1)) (qA (vC (.int 1)) qD))) (qA (qt (qA (vC (.int 2)) (qA (vC (.int 1)) qD))) (qA (qt (qA (vC (.int 3)) (qA (vC (.int 1)) qD))) (qA (qt (qA (vC (.int 4)) (qA (vC (.int 1)) qD))) (qA (qt (qA (vC (.int 5)) (qA (vC (.int 1)) qD))) qD)))))) qD)))))))))) (qr (qL gIx (vFz (Z4 (qB 7) (vFz (Qt (qA (qt (qA (qt (qA (vC (.int 2)) (qA (vC (.int 1)) qD))) (qA (qt (qA (vC (.int 2)) (qA (vC (.int 3)) qD))) qD))) (qA (qt (qA (qt (qA (vC (.int 3)) (qA (vC (.int 1)) qD))) (qA (qt (qA (vC (.int 2)) (qA (vC (.int 1)) qD))) qD))) qD)))))) (qI (qZ a) (qA (qB 0) (qA (vC (.int 18)) qD)))))))))))))
noncomputable def wg (a:Ad):List PV->qC->Rs PV:=QB 2 8 (WZ a)
noncomputable def zx (a:Ad):FS:=(qr (qL gIx (vFz (Qt (qA (yP (vC (.int 1))) (qA (vC (.int 201)) (qA (vC (.bl true)) (qA (vC .non) (qA (vC (.str "3")) (qA (qt (qA (vC (.int 1)) qD)) (qA (qL qAG (vC (.int 10)) (vC (.int 39))) (qA (vFz (Qt (qA (vC (.int 2)) qD))) qD)))))))))) (qI (qZ a) (qA (qB 0) (qA (vC (.int 8)) qD)))))
noncomputable def wL (a:Ad):List PV->qC->Rs PV:=QB 1 1 (zx a)
noncomputable def zj (a:Ad):FS:=(qR (ZH 2 (Qt (qA (qt (qA (vC (.int 1)) (qA (qt (qA (vC (.int 0)) (qA (qt qD) qD))) qD))) qD))) (qR (WN (ZY (qA (vC (.int 1)) (qA (qL qz (qB 1) (vC (.int 1))) qD))) (QT 3) (qR (qY 4 (vFz (qm [3] 2 (QA (qB 0)) (WS 2 (qp (QR 1) (qp (QR 2) WW))) [(vTB (qL gLe (qB 1) (qB 0)))] [] (qt (qA (qB 1) (qA (qB 2) qD)))))) (qR (qY 5 (qI jF (qA (vFz (qm [2,3] 2 (QA (qB 4)) (WS 2 (qp (QR 2) (qp (QR 3) WW))) [] [] (qL gIx (qL gIx (qB 0) (qL WL (qB 1) (qB 2))) (vC (.int 0))))) qD))) (qR (qY 6 (vC .non)) (qR (WN (QA (qB 4)) (WS 2 (qp (QT 7) (qp (QT 8) WW))) (qR (qY 9 (qL gIx (qL gIx (qB 2) (qL WL (qB 3) (qB 7))) (vC (.int 1)))) (wN (vTB (qL (yf true) (qB 9) (vC .non))) (qR (qY 10 (qt (qA (qL qz (qL gIx (qB 9) (vC (.int 0))) (qB 8)) (qA (qL wc (qt (qA (qB 7) qD)) (qL gIx (qB 9) (vC (.int 1)))) qD)))) (wN (W5 (vTB (qL (yf false) (qB 6) (vC .non))) (vTB (qL JM (qB 10) (qB 6)))) (qY 6 (qB 10)) Q8)) Q8))) (WJ (qB 2) (qt (qA (qB 5) (qA (qB 6) qD))))))))) (qr (qB 2))))
noncomputable def ZB (a:Ad):List PV->qC->Rs PV:=QB 2 11 (zj a)
noncomputable def Wn (a:Ad):FS:=(qR (wN (W5 (WP (Qw (qI (QN (kit a)) (qA (qB 2) (qA (vC (.ty "tuple")) qD))))) (W5 (vTB (qL gNe (qI W7 (qA (qB 2) qD)) (qB 1))) (WP (Qw (qI Z6 (qA (vFz (qm [] 1 (QA (qB 2)) (QR 0) [] [] (qI (Ws a) (qA (qB 0) qD)))) qD)))))) (qr (vC .non)) Q8) (qR (ZH 3 (Qt (qA (vC (.int 0)) qD))) (qR (WN (QA (qB 2)) (QT 4) (WJ (qB 3) (qL qz (qL gIx (qB 3) (yP (vC (.int 1)))) (qB 4)))) (qR (WN (QA (qB 0)) (WS 2 (qp (QT 5) (qp (QT 6) WW))) (wN (vTB (qL gNe (vFz (qm [6,3,5] 1 (ZY (qA (qB 5) (qA (qL qz (qB 1) (vC (.int 1))) qD))) (QR 3) [(vTB (qL gGt (qL WL (qL gIx (qB 1) (qB 3)) (qL gIx (qB 1) (qL WL (qB 3) (qB 2)))) (qB 0)))] [] (qB 3))) (vFz (Qt qD)))) (qr (vC .non)) Q8)) (qr (qL gIx (qB 3) (yP (vC (.int 1)))))))))
noncomputable def wa (a:Ad):List PV->qC->Rs PV:=QB 3 7 (Wn a)
noncomputable def zu (a:Ad):FS:=(qR (qY 2 (vFz (qm [] 1 (QA (qI (ZB a) (qA (qB 0) (qA (qB 1) qD)))) (QR 0) [] [] (qL gIx (qB 0) (vC (.int 1)))))) (qR (qY 3 (qI qA9 (qA (vFz (qm [] 1 (QA (qB 2)) (QR 0) [(vTB (qL (yf true) (qB 0) (vC .non)))] [] (qL gIx (qB 0) (vC (.int 0))))) qD))) (qR (qY 4 (vFz (qm [3] 1 (QA (qB 2)) (QR 1) [] [] (vIf (vTB (qL (yf false) (qB 1) (vC .non))) (qB 0) (qL gIx (qB 1) (vC (.int 0))))))) (qr (qI Zm (qA (vFz (qm [] 2 (qAL (qA (qD8 (qB 4) Q1 (Qh (yP (vC (.int 1))))) (qA (qD8 (qB 4) (Qh (vC (.int 1))) Q1) qD))) (WS 2 (qp (QR 0) (qp (QR 1) WW))) [] [] (qL WL (qB 1) (qB 0)))) qD))))))
noncomputable def Wr (a:Ad):List PV->qC->Rs PV:=QB 2 5 (zu a)
noncomputable def Zn (a:Ad):FS:=(qR (qY 2 (qI (qZ a) (qA (qB 0) (qA (qL qz (qI W7 (qA (qB 1) qD)) (vC (.int 1))) qD)))) (qR (qY 3 (qL gIx (qL wc (qB 1) (qt (qA (vC (.int 0)) qD))) (qB 2))) (qR (qY 4 (qL gIx (vFz (Qt (qA (qL qz (qB 3) (vC (.int 1))) (qA (qL WL (qB 3) (vC (.int 1))) (qA (qL WL (qB 3) (qL qAG (vC (.int 10)) (vC (.int 12)))) (qA (vC (.bl true)) (qA (vC .non) (qA (vC (.str "1")) (qA (qt (qA (vC (.int 0)) qD)) (qA (qL qAG (vC (.int 10)) (vC (.int 39))) (qA (vC (.int 0)) (qA (qL WL (vC (.int 0)) (qB 3)) qD)))))))))))) (qI (qZ a) (qA (qB 0) (qA (vC (.int 10)) qD))))) (qR (qY 5 (vFz (Qt (qA (qL wc (qL wc (yG (qB 1) Q1 (Qh (qB 2))) (qt (qA (qB 4) qD))) (yG (qB 1) (Qh (qL qz (qB 2) (vC (.int 1)))) Q1)) (qA (qL wc (qL wc (yG (qB 1) Q1 (Qh (qB 2))) (qt (qA (qB 4) qD))) (yG (qB 1) (Qh (qL qz (qB 2) (vC (.int 1)))) Q1)) (qA (qL wc (qB 1) (qt (qA (vC (.int 0)) qD))) (qA (yG (qB 1) (Qh (vC (.int 1))) Q1) qD))))))) (qr (qL gIx (vFz (Z4 (qB 5) (vFz (Qt (qA (vFz (qAy (qB 1))) (qA (qAs (qB 1) Q1 Q1 (Qh (yP (vC (.int 1))))) (qA (vC .non) (qA (qI (yS a) (qA (qB 0) qD)) qD)))))))) (qI (qZ a) (qA (qB 0) (qA (vC (.int 8)) qD)))))))))
noncomputable def zE (a:Ad):List PV->qC->Rs PV:=QB 2 6 (Zn a)
noncomputable def Wm (a:Ad):FS:=(Jo 3 4 (Qg a) (qr (qI (qu a) (qA (qB 0) (qA (qB 1) (qA (qB 2) qD))))) (qr (qI (Wg a) (qA (qB 3) qD))))
noncomputable def Qj (a:Ad):List PV->qC->Rs PV:=QB 3 4 (Wm a)
noncomputable def qFZ (a:Ad):FS:=(qR (WN (Wq (qA (qI qCz (qA (vC (.int 1)) (qA (qI qDW (qA (qI W7 (qA (qB 0) qD)) (qA (vC (.int 5)) qD))) qD))) qD)) (QT 1) (qR (qY 2 (qI (ZR a) (qA (qB 0) (qA (qB 1) qD)))) (qR (qY 3 (qI (Wj a) (qA (qB 2) qD))) (qR (qY 4 (qI (qZ a) (qA (qB 2) (qA (qL gIx (vFz (Qt (qA (vC (.int 9)) (qA (vC (.int 40)) (qA (vC (.int 201)) qD))))) (qI (qZ a) (qA (qB 2) (qA (vC (.int 3)) qD)))) qD)))) (qR (qY 5 (qI (Wr a) (qA (qB 3) (qA (qB 4) qD)))) (qR (WN (QA (vFz (Z4 (vFz (Qt (qA (qB 5) (qA (qL yF (qt (qA (vC (.int 0)) qD)) (qB 4)) qD)))) (vFz (qm [2,5] 1 (Wq (qA (vC (.int 5)) qD)) (QR 2) [] [] (qI (zE a) (qA (qB 0) (qA (qB 1) qD)))))))) (QT 6) (qR (qY 7 (qI Zv (qA (qB 6) qD))) (qR (qY 8 (qI (Qj a) (qA (qB 3) (qA (qB 4) (qA (qB 6) qD))))) (wN (W5 (WP (Qw (qI (QZ 3 a) (qA (qB 8) (qA (qI (wa a) (qA (qB 3) (qA (qB 4) (qA (qB 6) qD)))) qD))))) (vTB (qL gNe (qI Zv (qA (qB 6) qD)) (qB 7)))) (qr (vC (.bl false))) Q8)))) (qR (qY 9 (qI (wL a) (qA (qB 2) qD))) (qR (qY 10 (qI (wg a) (qA (qB 2) (qA (qB 3) qD)))) (wN (W5 (vTB (qL gNe (qI (Qj a) (qA (qB 10) (qA (qB 9) (qA (qB 5) qD)))) (vC (.str "! sorts")))) (vTB (qL gNe (qI (Qj a) (qA (qB 3) (qA (qB 9) (qA (qB 5) qD)))) (vC (.str "! number"))))) (qr (vC (.bl false))) Q8))))))))) (qr (vC (.bl true))))
noncomputable def j5 (a:Ad):List PV->qC->Rs PV:=QB 1 11 (qFZ a)
structure Env (K:W.Frag) (mg:Str->Option Value) (a:Ad):Prop where
 kit:KitOk K (kit a)
 n_ValueError:mg "ValueError" = none
 n_all:mg "all" = none
 n_any:mg "any" = none
 n_bool:mg "bool" = none
 n_int:mg "int" = none
 n_isinstance:mg "isinstance" = none
 n_len:mg "len" = none
 n_list:mg "list" = none
 n_max:mg "max" = none
 n_min:mg "min" = none
 n_range:mg "range" = none
 n_repr:mg "repr" = none
 n_set:mg "set" = none
 n_sorted:mg "sorted" = none
 n_sum:mg "sum" = none
 n_tuple:mg "tuple" = none
 n_zip:mg "zip" = none
 c_MOST_SORTS:∃ t,mg "MOST_SORTS" = some (.int 4 t)
 c_MOST_LONG:∃ t,mg "MOST_LONG" = some (.int 9 t)
 c_MOST_PRICE:∃ t,mg "MOST_PRICE" = some (.int 1000000000000 t)
 c_MOST_LINE:∃ t,mg "MOST_LINE" = some (.int 200 t)
 k_BarError:mg "BarError" = some (.ref a.BarError)
 k_NoLength:mg "NoLength" = some (.ref a.NoLength)
 k_NoNumber:mg "NoNumber" = some (.ref a.NoNumber)
 k_NoBars:mg "NoBars" = some (.ref a.NoBars)
 k_NoBox:mg "NoBox" = some (.ref a.NoBox)
 k_NoWeights:mg "NoWeights" = some (.ref a.NoWeights)
 k_NoSorts:mg "NoSorts" = some (.ref a.NoSorts)
 k_NoTurn:mg "NoTurn" = some (.ref a.NoTurn)
 k_NoPlace:mg "NoPlace" = some (.ref a.NoPlace)
 k_NoText:mg "NoText" = some (.ref a.NoText)
 k_NoRow:mg "NoRow" = some (.ref a.NoRow)
 k_TooMany:mg "TooMany" = some (.ref a.TooMany)
 x_NoSorts:PySem.W.excIn K a.NoSorts bmV "ValueError.__new__" = true
 e_NoSorts:PySem.W.mroIn K a.NoSorts (.ref a.BarError)=some true
 x_NoNumber:PySem.W.excIn K a.NoNumber bmV "ValueError.__new__" = true
 e_NoNumber:PySem.W.mroIn K a.NoNumber (.ref a.BarError)=some true
 o_BarError:∃ dd cd sl,K.lookup a.BarError=some ⟨.type "type",dd,.cls cd,sl⟩
 b_BarError:PySem.W.mroIn K a.BarError (.type "BaseException")=some true
 m_is_whole:mg "is_whole" = some (.ref a.is_whole)
 f_is_whole:∃ fd,Fun K "is_whole" "is_whole" w9 a.is_whole fd
 m_is_whole_within:mg "is_whole_within" = some (.ref a.is_whole_within)
 f_is_whole_within:∃ fd,Fun K "is_whole_within" "is_whole_within" QO a.is_whole_within fd
 m_are_wholes:mg "are_wholes" = some (.ref a.are_wholes)
 f_are_wholes:∃ fd,Fun K "are_wholes" "are_wholes" wR a.are_wholes fd
 m_is_rising:mg "is_rising" = some (.ref a.is_rising)
 f_is_rising:∃ fd,Fun K "is_rising" "is_rising" wZ a.is_rising fd
 m_need_number:mg "need_number" = some (.ref a.need_number)
 f_need_number:∃ fd,Fun K "need_number" "need_number" Ql a.need_number fd
 m_is_sort:mg "is_sort" = some (.ref a.is_sort)
 f_is_sort:∃ fd,Fun K "is_sort" "is_sort" WV a.is_sort fd
 m_are_sorts:mg "are_sorts" = some (.ref a.are_sorts)
 f_are_sorts:∃ fd,Fun K "are_sorts" "are_sorts" wM a.are_sorts fd
 m_need_line:mg "need_line" = some (.ref a.need_line)
 f_need_line:∃ fd,Fun K "need_line" "need_line" wA a.need_line fd
 m_line_paper_shows:mg "line_paper_shows" = some (.ref a.line_paper_shows)
 f_line_paper_shows:∃ fd,Fun K "line_paper_shows" "line_paper_shows" qw a.line_paper_shows fd
 m_law_cell:mg "_law_cell" = some (.ref a.law_cell)
 f_law_cell:∃ fd,Fun K "_law_cell" "_law_cell" wx a.law_cell fd
 m_law_box:mg "_law_box" = some (.ref a.law_box)
 f_law_box:∃ fd,Fun K "_law_box" "_law_box" WT a.law_box fd
 m_law_take:mg "_law_take" = some (.ref a.law_take)
 f_law_take:∃ fd,Fun K "_law_take" "_law_take" WA a.law_take fd
 m_law_whole:mg "_law_whole" = some (.ref a.law_whole)
 f_law_whole:∃ fd,Fun K "_law_whole" "_law_whole" we a.law_whole fd
 m_law_odd:mg "_law_odd" = some (.ref a.law_odd)
 f_law_odd:∃ fd,Fun K "_law_odd" "_law_odd" WU a.law_odd fd
 m_law_kind:mg "_law_kind" = some (.ref a.law_kind)
 f_law_kind:∃ fd,Fun K "_law_kind" "_law_kind" wu a.law_kind fd
 m_law_same:mg "_law_same" = some (.ref a.law_same)
 f_law_same:∃ fd,Fun K "_law_same" "_law_same" wX a.law_same fd
 m_law_sorts:mg "_law_sorts" = some (.ref a.law_sorts)
 f_law_sorts:∃ fd,Fun K "_law_sorts" "_law_sorts" wD a.law_sorts fd
 m_law_no_sorts:mg "_law_no_sorts" = some (.ref a.law_no_sorts)
 f_law_no_sorts:∃ fd,Fun K "_law_no_sorts" "_law_no_sorts" QY a.law_no_sorts fd
 m_law_no_cells:mg "_law_no_cells" = some (.ref a.law_no_cells)
 f_law_no_cells:∃ fd,Fun K "_law_no_cells" "_law_no_cells" Qp a.law_no_cells fd
 m_law_least:mg "_law_least" = some (.ref a.law_least)
 f_law_least:∃ fd,Fun K "_law_least" "_law_least" wH a.law_least fd
 m_law_shows:mg "_law_shows" = some (.ref a.law_shows)
 f_law_shows:∃ fd,Fun K "_law_shows" "_law_shows" wB a.law_shows fd
 m_law_paper:mg "_law_paper" = some (.ref a.law_paper)
 f_law_paper:∃ fd,Fun K "_law_paper" "_law_paper" wJ a.law_paper fd
 m_law_bent:mg "_law_bent" = some (.ref a.law_bent)
 f_law_bent:∃ fd,Fun K "_law_bent" "_law_bent" wy a.law_bent fd
 m_law_asked:mg "_law_asked" = some (.ref a.law_asked)
 f_law_asked:∃ fd,Fun K "_law_asked" "_law_asked" wK a.law_asked fd
 m_law:mg "law" = some (.ref a.law)
 f_law:∃ fd,Fun K "law" "law" zW a.law fd
section
variable {P:Program} {w:World} {K:W.Frag} {mg:Str->Option Value} {base:Heap} {a:Ad}
theorem J4:FnScope ["thing"] ["thing"] (qK w9):=⟨rfl,rfl,rfl,by decide +kernel,rfl,by decide +kernel,by decide +kernel⟩
theorem YV (V:Env K mg a):DefG P w K mg base 2 "is_whole" a.is_whole 1 (zR a):=by
 obtain ⟨fd,F⟩:=V.f_is_whole
 refine Q9 (B:=YK a) F J4 (F.binds (ps:=["thing"]) fun _ _ _ _ _ _ us hl=>match us,hl with |[_],_=>rfl) V.m_is_whole (fun l st h=>qd h) (fun cdv A outer s H E hr hcm => ?_) (fun l s0 hl hn=>qb hl)
 have hu:=hr.units
 exact (@qS _ _ _ _ (@qj _ _ _ _ _ (@zI _ _ _ _ _ _ _ _ (@QK _ _ _ _ _ _ _ _ V.kit V.n_isinstance (@qP _ _ _ _ _ _ _ (@qH _ _ 0 _ _ (by rfl) (by rfl) (by rfl)) (@qP _ _ _ _ _ _ _ (@WM _ _ _ _ _ rfl V.n_int Boot.«int» (by decide) (by decide)) qF)) (by rfl) (by rfl) (by rfl)) (@Zj _ _ _ _ _ _ (@qCj _ _ _ _ _ (@QK _ _ _ _ _ _ _ _ V.kit V.n_isinstance (@qP _ _ _ _ _ _ _ (@qH _ _ 0 _ _ (by rfl) (by rfl) (by rfl)) (@qP _ _ _ _ _ _ _ (@WM _ _ _ _ _ rfl V.n_bool Boot.«bool» (by decide) (by decide)) qF)) (by rfl) (by rfl) (by rfl)))))))
theorem Zc:FnScope ["thing","least","most"] ["thing","least","most"] (qK QO):=⟨rfl,rfl,rfl,by decide +kernel,rfl,by decide +kernel,by decide +kernel⟩
theorem Z2 (V:Env K mg a):DefG P w K mg base 3 "is_whole_within" a.is_whole_within 3 (wn a):=by
 obtain ⟨fd,F⟩:=V.f_is_whole_within
 refine Q9 (B:=wp a) F Zc (F.binds (ps:=["thing","least","most"]) fun _ _ _ _ _ _ us hl=>match us,hl with |[_,_,_],_=>rfl) V.m_is_whole_within (fun l st h=>qd h) (fun cdv A outer s H E hr hcm => ?_) (fun l s0 hl hn=>qb hl)
 have hu:=hr.units
 exact (@qS _ _ _ _ (@qj _ _ _ _ _ (@zI _ _ _ _ _ _ _ _ (@qV _ _ _ _ _ _ _ _ _ ((YV V).call (hr.mono (by omega)) qg) (@qP _ _ _ _ _ _ _ (@qH _ _ 0 _ _ (by rfl) (by rfl) (by rfl)) qF) (by rfl) (by rfl)) (@Zj _ _ _ _ _ _ (@Zx _ _ _ _ _ _ _ _ _ _ _ _ _ _ _ zg zg zk zk (@qH _ _ 1 _ _ (by rfl) (by rfl) (by rfl)) (@qH _ _ 0 _ _ (by rfl) (by rfl) (by rfl)) (@qH _ _ 2 _ _ (by rfl) (by rfl) (by rfl)) (by with_unfolding_all rfl))))))
theorem Yg:FnScope ["thing","least","most"] ["thing","least","most"] (qK wR):=⟨rfl,rfl,rfl,by decide +kernel,rfl,by decide +kernel,by decide +kernel⟩
theorem Z3 (V:Env K mg a):DefG P w K mg base 3 "are_wholes" a.are_wholes 3 (wm a):=by
 obtain ⟨fd,F⟩:=V.f_are_wholes
 refine Q9 (B:=Zz a) F Yg (F.binds (ps:=["thing","least","most"]) fun _ _ _ _ _ _ us hl=>match us,hl with |[_,_,_],_=>rfl) V.m_are_wholes (fun l st h=>qd h) (fun cdv A outer s H E hr hcm => ?_) (fun l s0 hl hn=>qb hl)
 have hu:=hr.units
 exact (@qS _ _ _ _ (@qj _ _ _ _ _ (@zI _ _ _ _ _ _ _ _ (@QK _ _ _ _ _ _ _ _ V.kit V.n_isinstance (@qP _ _ _ _ _ _ _ (@qH _ _ 0 _ _ (by rfl) (by rfl) (by rfl)) (@qP _ _ _ _ _ _ _ (@WM _ _ _ _ _ rfl V.n_tuple Boot.«tuple» (by decide) (by decide)) qF)) (by rfl) (by rfl) (by rfl)) (@zI _ _ _ _ _ _ _ _ (@Zx _ _ _ _ _ _ _ _ _ _ _ _ _ _ _ zg zg zk zk (@qH _ _ 1 _ _ (by rfl) (by rfl) (by rfl)) (@WF _ _ _ _ _ _ _ (@qP _ _ _ _ _ _ _ (@qH _ _ 0 _ _ (by rfl) (by rfl) (by rfl)) qF) V.n_len (by rfl) (by rfl) (by rfl)) (@qH _ _ 2 _ _ (by rfl) (by rfl) (by rfl)) (by with_unfolding_all rfl)) (@Zj _ _ _ _ _ _ (@YM _ _ _ _ _ _ _ (@yi _ _ _ _ _ _ _ _ _ (@ql _ _ _ _ (@Q0 _ _ _ _ _ _ _ ([]) (["number"]) ([]) _ _ _ _ _ (by exact Qz rfl (by decide +kernel) rfl rfl trivial) (@wI _ _ _ _ _ (@qH _ _ 0 _ _ (by rfl) (by rfl) (by rfl))) (fun s' H' fp pn=>⟨(@qV _ _ _ _ _ _ _ _ _ ((YV V).call (hr.mono (by omega)) (QI _)) (@qP _ _ _ _ _ _ _ (@qH _ _ 0 _ _ (by rfl) (by rfl) (by rfl)) qF) (by rfl) (by rfl)),⟨(@QS _ _ 0 _ (show (["number"]:List Str).Nodup by decide +kernel) (by rfl) (by first |exact Or.inl rfl |exact Or.inr rfl) (by first |exact .inl rfl |exact .inr rfl |assumption)),(qc 0),TsOk.nil,rfl⟩,GsOk.nil⟩) (by intro _;rfl))) qF) V.n_all (by rfl) (by rfl) (by rfl)))))))
theorem jN:FnScope ["things"] ["things"] (qK wZ):=⟨rfl,rfl,rfl,by decide +kernel,rfl,by decide +kernel,by decide +kernel⟩
theorem JY (V:Env K mg a):DefG P w K mg base 2 "is_rising" a.is_rising 1 (ze a):=by
 obtain ⟨fd,F⟩:=V.f_is_rising
 refine Q9 (B:=yZ a) F jN (F.binds (ps:=["things"]) fun _ _ _ _ _ _ us hl=>match us,hl with |[_],_=>rfl) V.m_is_rising (fun l st h=>qd h) (fun cdv A outer s H E hr hcm => ?_) (fun l s0 hl hn=>qb hl)
 have hu:=hr.units
 exact (@qS _ _ _ _ (@qj _ _ _ _ _ (@YM _ _ _ _ _ _ _ (@yi _ _ _ _ _ _ _ _ _ (@ql _ _ _ _ (@Q0 _ _ _ _ _ _ _ (["things"]) (["at"]) ([0]) _ _ _ _ _ (by exact Qz rfl (by decide +kernel) rfl rfl ⟨⟨rfl,rfl⟩,trivial⟩) (@yO _ _ _ _ _ _ _ _ rfl V.n_range (@qW _ _ _ _ _ _ _ _ qG (@Wt _ _ _ _ _ _ _ _ _ (@WF _ _ _ _ _ _ _ (@qP _ _ _ _ _ _ _ (@qH _ _ 0 _ _ (by rfl) (by rfl) (by rfl)) qF) V.n_len (by rfl) (by rfl) (by rfl)) qF)) (by rfl) (by rfl)) (fun s' H' fp pn=>⟨(@qHj _ _ _ _ _ _ _ (@QU _ _ _ _ _ _ _ (@qH _ _ 0 _ _ (by rfl) (by rfl) (by rfl)) (@Wu _ _ _ _ _ _ _ (@qH _ _ 1 _ _ (by rfl) (by rfl) (by rfl)) qG) (by exact fun _ _=>rfl)) (@QU _ _ _ _ _ _ _ (@qH _ _ 0 _ _ (by rfl) (by rfl) (by rfl)) (@qH _ _ 1 _ _ (by rfl) (by rfl) (by rfl)) (by exact fun _ _=>rfl))),⟨(@QS _ _ 1 _ (show (["things","at"]:List Str).Nodup by decide +kernel) (by rfl) (by first |exact Or.inl rfl |exact Or.inr rfl) (by first |exact .inl rfl |exact .inr rfl |assumption)),(qc 1),TsOk.nil,rfl⟩,GsOk.nil⟩) (by intro _;rfl))) qF) V.n_all (by rfl) (by rfl) (by rfl))))
theorem YJ:FnScope ["thing","least","most"] ["thing","least","most"] (qK Ql):=⟨rfl,rfl,rfl,by decide +kernel,rfl,by decide +kernel,by decide +kernel⟩
theorem Ye (V:Env K mg a):DefG P w K mg base 4 "need_number" a.need_number 3 (WD a):=by
 obtain ⟨fd,F⟩:=V.f_need_number
 refine Q9 (B:=Wv a) F YJ (F.binds (ps:=["thing","least","most"]) fun _ _ _ _ _ _ us hl=>match us,hl with |[_,_,_],_=>rfl) V.m_need_number (fun l st h=>qd h) (fun cdv A outer s H E hr hcm => ?_) (fun l s0 hl hn=>qb hl)
 have hu:=hr.units
 have hc:(wU (CXF P w) P w K mg base ["thing","least","most"] "need_number" (qK Ql) a.need_number cdv A outer s H E).calm=true:=by show A.handled.isNone=true;rw [hcm (by omega)];rfl
 exact (@qS _ _ _ _ (@WO _ _ _ _ _ _ _ _ _ (@Ww _ _ _ _ _ (@We _ _ _ _ (@qV _ _ _ _ _ _ _ _ _ ((Z2 V).call (hr.mono (by omega)) qg) (@qP _ _ _ _ _ _ _ (@qH _ _ 0 _ _ (by rfl) (by rfl) (by rfl)) (@qP _ _ _ _ _ _ _ (@qH _ _ 1 _ _ (by rfl) (by rfl) (by rfl)) (@qP _ _ _ _ _ _ _ (@qH _ _ 2 _ _ (by rfl) (by rfl) (by rfl)) qF))) (by rfl) (by rfl)) (by intro _;rfl))) (@qS _ _ _ _ (@Je _ _ _ _ _ _ _ _ _ _ qFh hc rfl V.k_NoNumber V.x_NoNumber (@qHT _ _ _ _ _ _ _ (@qBL _ _ _ _ _ _ _ (@Wl _ _ _ _ _ _ QP (@Wl _ _ _ _ _ _ (@qAV _ _ _ _ _ (@qH _ _ 1 _ _ (by rfl) (by rfl) (by rfl))) (@Wl _ _ _ _ _ _ QP (@Wl _ _ _ _ _ _ (@qAV _ _ _ _ _ (@qH _ _ 2 _ _ (by rfl) (by rfl) (by rfl))) (@Wl _ _ _ _ _ _ QP qCV)))))) qF) (by decide) (by rfl) (by rfl))) Qo))
theorem qAJ:FnScope ["thing"] ["thing"] (qK WV):=⟨rfl,rfl,rfl,by decide +kernel,rfl,by decide +kernel,by decide +kernel⟩
theorem qBk (V:Env K mg a):DefG P w K mg base 4 "is_sort" a.is_sort 1 (ZM a):=by
 obtain ⟨fd,F⟩:=V.f_is_sort
 obtain ⟨_,c_MOST_LONG⟩:=V.c_MOST_LONG
 obtain ⟨_,c_MOST_PRICE⟩:=V.c_MOST_PRICE
 refine Q9 (B:=Yp a) F qAJ (F.binds (ps:=["thing"]) fun _ _ _ _ _ _ us hl=>match us,hl with |[_],_=>rfl) V.m_is_sort (fun l st h=>qd h) (fun cdv A outer s H E hr hcm => ?_) (fun l s0 hl hn=>qb hl)
 have hu:=hr.units
 exact (@qS _ _ _ _ (@qj _ _ _ _ _ (@zI _ _ _ _ _ _ _ _ (@qV _ _ _ _ _ _ _ _ _ ((Z3 V).call (hr.mono (by omega)) qg) (@qP _ _ _ _ _ _ _ (@qH _ _ 0 _ _ (by rfl) (by rfl) (by rfl)) (@qW _ _ _ _ _ _ _ _ qG (@qW _ _ _ _ _ _ _ _ qG qF))) (by rfl) (by rfl)) (@zI _ _ _ _ _ _ _ _ (@Zx _ _ _ _ _ _ _ _ _ _ _ _ _ _ _ zg zg zk zk qG (@QU _ _ _ _ _ _ _ (@qH _ _ 0 _ _ (by rfl) (by rfl) (by rfl)) qG (by exact fun _ _=>rfl)) (@yA _ _ _ _ _ _ rfl c_MOST_LONG (by decide)) (by with_unfolding_all rfl)) (@Zj _ _ _ _ _ _ (@Zx _ _ _ _ _ _ _ _ _ _ _ _ _ _ _ zg zg zk zk qG (@QU _ _ _ _ _ _ _ (@qH _ _ 0 _ _ (by rfl) (by rfl) (by rfl)) qG (by exact fun _ _=>rfl)) (@yA _ _ _ _ _ _ rfl c_MOST_PRICE (by decide)) (by with_unfolding_all rfl)))))))
theorem jX:FnScope ["thing"] ["thing"] (qK wM):=⟨rfl,rfl,rfl,by decide +kernel,rfl,by decide +kernel,by decide +kernel⟩
theorem JK (V:Env K mg a):DefG P w K mg base 5 "are_sorts" a.are_sorts 1 (Qu a):=by
 obtain ⟨fd,F⟩:=V.f_are_sorts
 obtain ⟨_,c_MOST_SORTS⟩:=V.c_MOST_SORTS
 refine Q9 (B:=Wk a) F jX (F.binds (ps:=["thing"]) fun _ _ _ _ _ _ us hl=>match us,hl with |[_],_=>rfl) V.m_are_sorts (fun l st h=>qd h) (fun cdv A outer s H E hr hcm => ?_) (fun l s0 hl hn=>qb hl)
 have hu:=hr.units
 have hc:(wU (CXF P w) P w K mg base ["thing"] "are_sorts" (qK wM) a.are_sorts cdv A outer s H E).calm=true:=by show A.handled.isNone=true;rw [hcm (by omega)];rfl
 exact (@qM _ _ _ _ _ _ (@WO _ _ _ _ _ _ _ _ _ (@qAH _ _ _ _ (@Zq _ _ _ _ _ _ _ _ (@Ww _ _ _ _ _ (@We _ _ _ _ (@QK _ _ _ _ _ _ _ _ V.kit V.n_isinstance (@qP _ _ _ _ _ _ _ (@qH _ _ 0 _ _ (by rfl) (by rfl) (by rfl)) (@qP _ _ _ _ _ _ _ (@WM _ _ _ _ _ rfl V.n_tuple Boot.«tuple» (by decide) (by decide)) qF)) (by rfl) (by rfl) (by rfl)) (by intro _;rfl))) (@Zq _ _ _ _ _ _ _ _ (@Ww _ _ _ _ _ (@qDS _ _ _ _ _ _ _ _ _ _ _ _ _ _ _ zg zg zk zk qG (@WF _ _ _ _ _ _ _ (@qP _ _ _ _ _ _ _ (@qH _ _ 0 _ _ (by rfl) (by rfl) (by rfl)) qF) V.n_len (by rfl) (by rfl) (by rfl)) (@yA _ _ _ _ _ _ rfl c_MOST_SORTS (by decide)) (by with_unfolding_all rfl))) (@Zg _ _ _ _ _ (@Ww _ _ _ _ _ (@We _ _ _ _ (@YM _ _ _ _ _ _ _ (@yi _ _ _ _ _ _ _ _ _ (@ql _ _ _ _ (@Q0 _ _ _ _ _ _ _ ([]) (["part"]) ([]) _ _ _ _ _ (by exact Qz rfl (by decide +kernel) rfl rfl trivial) (@wI _ _ _ _ _ (@qH _ _ 0 _ _ (by rfl) (by rfl) (by rfl))) (fun s' H' fp pn=>⟨(@qV _ _ _ _ _ _ _ _ _ ((qBk V).call (hr.mono (by omega)) (QI _)) (@qP _ _ _ _ _ _ _ (@qH _ _ 0 _ _ (by rfl) (by rfl) (by rfl)) qF) (by rfl) (by rfl)),⟨(@QS _ _ 0 _ (show (["part"]:List Str).Nodup by decide +kernel) (by rfl) (by first |exact Or.inl rfl |exact Or.inr rfl) (by first |exact .inl rfl |exact .inr rfl |assumption)),(qc 0),TsOk.nil,rfl⟩,GsOk.nil⟩) (by intro _;rfl))) qF) V.n_all (by rfl) (by rfl) (by rfl)) (by intro _;rfl))))))) (@qS _ _ _ _ (@qj _ _ _ _ _ W4)) Qo) (@qS _ _ _ _ (@qj _ _ _ _ _ (@qV _ _ _ _ _ _ _ _ _ ((JY V).call (hr.mono (by omega)) qg) (@yi _ _ _ _ _ _ _ _ _ (@ql _ _ _ _ (@Q0 _ _ _ _ _ _ _ ([]) (["long","price"]) ([]) _ _ _ _ _ (by exact Qz rfl (by decide +kernel) rfl rfl trivial) (@wI _ _ _ _ _ (@qH _ _ 0 _ _ (by rfl) (by rfl) (by rfl))) (fun s' H' fp pn=>⟨(@qH _ _ 0 _ _ (by rfl) (by rfl) (by rfl)),⟨(@zH _ _ _ _ _ _ hc (@QC _ _ _ _ _ (@QS _ _ 0 _ (show (["long","price"]:List Str).Nodup by decide +kernel) (by rfl) (by first |exact Or.inl rfl |exact Or.inr rfl) (by first |exact .inl rfl |exact .inr rfl |assumption)) (@QC _ _ _ _ _ (@QS _ _ 1 _ (show (["long","price"]:List Str).Nodup by decide +kernel) (by rfl) (by first |exact Or.inl rfl |exact Or.inr rfl) (by first |exact .inl rfl |exact .inr rfl |assumption)) WQ (by rfl)) (by rfl)) (by rfl) (by rfl)),(W3 (Qk (qc 0) (Qk (qc 1) W2))),TsOk.nil,rfl⟩,GsOk.nil⟩) (by intro _;rfl))) qF) (by rfl) (by rfl)))))
theorem jH:FnScope ["sorts","cells"] ["sorts","cells"] (qK wA):=⟨rfl,rfl,rfl,by decide +kernel,rfl,by decide +kernel,by decide +kernel⟩
theorem Jn (V:Env K mg a):DefG P w K mg base 6 "need_line" a.need_line 2 (wb a):=by
 obtain ⟨fd,F⟩:=V.f_need_line
 obtain ⟨_,c_MOST_SORTS⟩:=V.c_MOST_SORTS
 obtain ⟨_,c_MOST_LINE⟩:=V.c_MOST_LINE
 refine Q9 (B:=WK a) F jH (F.binds (ps:=["sorts","cells"]) fun _ _ _ _ _ _ us hl=>match us,hl with |[_,_],_=>rfl) V.m_need_line (fun l st h=>qd h) (fun cdv A outer s H E hr hcm => ?_) (fun l s0 hl hn=>qb hl)
 have hu:=hr.units
 have hc:(wU (CXF P w) P w K mg base ["sorts","cells"] "need_line" (qK wA) a.need_line cdv A outer s H E).calm=true:=by show A.handled.isNone=true;rw [hcm (by omega)];rfl
 exact (@qM _ _ _ _ _ _ (@WO _ _ _ _ _ _ _ _ _ (@Ww _ _ _ _ _ (@We _ _ _ _ (@qV _ _ _ _ _ _ _ _ _ ((JK V).call (hr.mono (by omega)) qg) (@qP _ _ _ _ _ _ _ (@qH _ _ 0 _ _ (by rfl) (by rfl) (by rfl)) qF) (by rfl) (by rfl)) (by intro _;rfl))) (@qS _ _ _ _ (@Je _ _ _ _ _ _ _ _ _ _ qFh hc rfl V.k_NoSorts V.x_NoSorts (@qHT _ _ _ _ _ _ _ (@qBL _ _ _ _ _ _ _ (@Wl _ _ _ _ _ _ QP (@Wl _ _ _ _ _ _ (@qAV _ _ _ _ _ (@yA _ _ _ _ _ _ rfl c_MOST_SORTS (by decide))) (@Wl _ _ _ _ _ _ QP qCV)))) qF) (by decide) (by rfl) (by rfl))) Qo) (@qS _ _ _ _ (@qBT _ _ _ _ _ (@qV _ _ _ _ _ _ _ _ _ ((Ye V).call (hr.mono (by omega)) qg) (@qP _ _ _ _ _ _ _ (@qH _ _ 1 _ _ (by rfl) (by rfl) (by rfl)) (@qW _ _ _ _ _ _ _ _ qG (@qP _ _ _ _ _ _ _ (@yA _ _ _ _ _ _ rfl c_MOST_LINE (by decide)) qF))) (by rfl) (by rfl)) (by rfl))))
theorem sc_line_paper_shows:FnScope ["sorts","cells","thing","long","price"] ["sorts","cells","thing"] (qK qw):=⟨rfl,rfl,rfl,by decide +kernel,rfl,by decide +kernel,by decide +kernel⟩
theorem Zk (V:Env K mg a):DefG P w K mg base 7 "line_paper_shows" a.line_paper_shows 3 (qu a):=by
 obtain ⟨fd,F⟩:=V.f_line_paper_shows
 refine Q9 (B:=Qa a) F sc_line_paper_shows (F.binds (ps:=["sorts","cells","thing"]) fun _ _ _ _ _ _ us hl=>match us,hl with |[_,_,_],_=>rfl) V.m_line_paper_shows (fun l st h=>qd h) (fun cdv A outer s H E hr hcm => ?_) (fun l s0 hl hn=>qb hl)
 have hu:=hr.units
 have hc:(wU (CXF P w) P w K mg base ["sorts","cells","thing","long","price"] "line_paper_shows" (qK qw) a.line_paper_shows cdv A outer s H E).calm=true:=by show A.handled.isNone=true;rw [hcm (by omega)];rfl
 exact (@qM _ _ _ _ _ _ (@qBT _ _ _ _ _ (@qV _ _ _ _ _ _ _ _ _ ((Jn V).call (hr.mono (by omega)) qg) (@qP _ _ _ _ _ _ _ (@qH _ _ 0 _ _ (by rfl) (by rfl) (by rfl)) (@qP _ _ _ _ _ _ _ (@qH _ _ 1 _ _ (by rfl) (by rfl) (by rfl)) qF)) (by rfl) (by rfl)) (by rfl)) (@qM _ _ _ _ _ _ (@WO _ _ _ _ _ _ _ _ _ (@Ww _ _ _ _ _ (@We _ _ _ _ (@qV _ _ _ _ _ _ _ _ _ ((Z3 V).call (hr.mono (by omega)) qg) (@qP _ _ _ _ _ _ _ (@qH _ _ 2 _ _ (by rfl) (by rfl) (by rfl)) (@qP _ _ _ _ _ _ _ (@qH _ _ 1 _ _ (by rfl) (by rfl) (by rfl)) (@qP _ _ _ _ _ _ _ (@qH _ _ 1 _ _ (by rfl) (by rfl) (by rfl)) qF))) (by rfl) (by rfl)) (by intro _;rfl))) (@qS _ _ _ _ (@qj _ _ _ _ _ wS)) Qo) (@qM _ _ _ _ _ _ (@zf _ _ _ _ _ _ _ _ _ (@wI _ _ _ _ _ (@qH _ _ 0 _ _ (by rfl) (by rfl) (by rfl))) (@zH _ _ _ _ _ _ hc (@QC _ _ _ _ _ (@Q7 _ _ 3 _ sc_line_paper_shows.nd (by rfl) (by first |exact Or.inl rfl |exact Or.inr rfl) (by first |exact .inl rfl |exact .inr rfl |assumption)) (@QC _ _ _ _ _ (@Q7 _ _ 4 _ sc_line_paper_shows.nd (by rfl) (by first |exact Or.inl rfl |exact Or.inr rfl) (by first |exact .inl rfl |exact .inr rfl |assumption)) WQ (by rfl)) (by rfl)) (by rfl) (by rfl)) (@qS _ _ _ _ (@WO _ _ _ _ _ _ _ _ _ (@We _ _ _ _ (@qG9 _ _ _ _ _ _ _ (@yi _ _ _ _ _ _ _ _ _ (@ql _ _ _ _ (@Q0 _ _ _ _ _ _ _ (["price","thing","long"]) (["first"]) ([4,2,3]) _ _ _ _ _ (by exact Qz rfl (by decide +kernel) rfl rfl ⟨⟨rfl,rfl⟩,⟨⟨rfl,rfl⟩,⟨⟨rfl,rfl⟩,trivial⟩⟩⟩) (@zA _ _ _ _ _ _ _ rfl V.n_range (@Wi _ _ _ _ _ _ _ _ _ (@QG _ _ _ _ _ _ _ (@Wu _ _ _ _ _ _ _ (@qH _ _ 1 _ _ (by rfl) (by rfl) (by rfl)) (@qH _ _ 3 _ _ (by rfl) (by rfl) (by rfl))) qG) qF) (by rfl)) (fun s' H' fp pn=>⟨(@qHW _ _ _ _ _ _ _ (@qBD _ _ _ _ _ _ _ (@qAQ _ _ _ _ _ _ _ _ (@zU _ _ _ _ _ _ _ _ _ _ (@qH _ _ 1 _ _ (by rfl) (by rfl) (by rfl)) (@wQ _ _ _ _ (@qH _ _ 3 _ _ (by rfl) (by rfl) (by rfl))) (@wQ _ _ _ _ (@QG _ _ _ _ _ _ _ (@qH _ _ 3 _ _ (by rfl) (by rfl) (by rfl)) (@qH _ _ 2 _ _ (by rfl) (by rfl) (by rfl))))) qF) V.n_sum (by rfl) (by rfl) (by rfl)) (@qH _ _ 0 _ _ (by rfl) (by rfl) (by rfl))),⟨(@QS _ _ 3 _ (show (["price","thing","long","first"]:List Str).Nodup by decide +kernel) (by rfl) (by first |exact Or.inl rfl |exact Or.inr rfl) (by first |exact .inl rfl |exact .inr rfl |assumption)),(qc 3),TsOk.nil,rfl⟩,GsOk.nil⟩) (by intro _;rfl))) qF) V.n_any (by rfl) (by rfl) (by rfl)) (by intro _;rfl)) (@qS _ _ _ _ (@qj _ _ _ _ _ wS)) Qo)) (by intro _;rfl)) (@qS _ _ _ _ (@qj _ _ _ _ _ (@qBD _ _ _ _ _ _ _ (@qP _ _ _ _ _ _ _ (@qH _ _ 2 _ _ (by rfl) (by rfl) (by rfl)) qF) V.n_sum (by rfl) (by rfl) (by rfl)))))))
theorem j8:FnScope ["_law_script","_law_k"] ["_law_script","_law_k"] (qK wx):=⟨rfl,rfl,rfl,by decide +kernel,rfl,by decide +kernel,by decide +kernel⟩
theorem qAa (V:Env K mg a):DefG P w K mg base 2 "_law_cell" a.law_cell 2 (zV a):=by
 obtain ⟨fd,F⟩:=V.f_law_cell
 refine Q9 (B:=zN a) F j8 (F.binds (ps:=["_law_script","_law_k"]) fun _ _ _ _ _ _ us hl=>match us,hl with |[_,_],_=>rfl) V.m_law_cell (fun l st h=>qd h) (fun cdv A outer s H E hr hcm => ?_) (fun l s0 hl hn=>qb hl)
 have hu:=hr.units
 exact (@qM _ _ _ _ _ _ (@WO _ _ _ _ _ _ _ _ _ (@wE _ _ _ _ _ _ _ _ _ _ qFc qFd (@qH _ _ 1 _ _ (by rfl) (by rfl) (by rfl)) (@WF _ _ _ _ _ _ _ (@qP _ _ _ _ _ _ _ (@qH _ _ 0 _ _ (by rfl) (by rfl) (by rfl)) qF) V.n_len (by rfl) (by rfl) (by rfl)) (by first |exact Qv _ |with_unfolding_all rfl)) (@qS _ _ _ _ (@qj _ _ _ _ _ (@QU _ _ _ _ _ _ _ (@qH _ _ 0 _ _ (by rfl) (by rfl) (by rfl)) (@qH _ _ 1 _ _ (by rfl) (by rfl) (by rfl)) (by exact fun _ _=>rfl)))) Qo) (@qS _ _ _ _ (@qj _ _ _ _ _ (@QG _ _ _ _ _ _ _ (@yE _ _ _ _ _ _ _ qG (@qH _ _ 1 _ _ (by rfl) (by rfl) (by rfl))) qG))))
theorem sc_law_box:FnScope ["_law_script","_law_k","_law_cell_here","_law_number","_law_mixed","_law_j"] ["_law_script","_law_k"] (qK WT):=⟨rfl,rfl,rfl,by decide +kernel,rfl,by decide +kernel,by decide +kernel⟩
theorem qBf (V:Env K mg a):DefG P w K mg base 3 "_law_box" a.law_box 2 (ZR a):=by
 obtain ⟨fd,F⟩:=V.f_law_box
 refine Q9 (B:=ZQ a) F sc_law_box (F.binds (ps:=["_law_script","_law_k"]) fun _ _ _ _ _ _ us hl=>match us,hl with |[_,_],_=>rfl) V.m_law_box (fun l st h=>qd h) (fun cdv A outer s H E hr hcm => ?_) (fun l s0 hl hn=>qb hl)
 have hu:=hr.units
 exact (@qM _ _ _ _ _ _ (@qk _ _ _ _ _ 2 _ _ sc_law_box.nd (@qV _ _ _ _ _ _ _ _ _ ((qAa V).call (hr.mono (by omega)) qg) (@qP _ _ _ _ _ _ _ (@qH _ _ 0 _ _ (by rfl) (by rfl) (by rfl)) (@qP _ _ _ _ _ _ _ (@qH _ _ 1 _ _ (by rfl) (by rfl) (by rfl)) qF)) (by rfl) (by rfl)) (by rfl) (by first |exact Or.inl rfl |exact Or.inr rfl) (by rfl) (by first |exact .inl rfl |exact .inr rfl |assumption)) (@qM _ _ _ _ _ _ (@WO _ _ _ _ _ _ _ _ _ (@wE _ _ _ _ _ _ _ _ _ _ (qC2 hu) qFr (@jg _ _ _ _ _ _ _ (@qH _ _ 2 _ _ (by rfl) (by rfl) (by rfl)) qG) qG (by first |exact Qv _ |with_unfolding_all rfl)) (@qS _ _ _ _ (@qA4 _ _ _ _ _ (@QE _ _ _ _ _ (@Wi _ _ _ _ _ _ _ _ _ (@qHK _ _ _ _ _ _ _ (@qH _ _ 2 _ _ (by rfl) (by rfl) (by rfl)) qG) qF)))) Qo) (@qM _ _ _ _ _ _ (@qk _ _ _ _ _ 3 _ _ sc_law_box.nd qG (by rfl) (by first |exact Or.inl rfl |exact Or.inr rfl) (by rfl) (by first |exact .inl rfl |exact .inr rfl |assumption)) (@qM _ _ _ _ _ _ (@qk _ _ _ _ _ 4 _ _ sc_law_box.nd (@jg _ _ _ _ _ _ _ (@qH _ _ 2 _ _ (by rfl) (by rfl) (by rfl)) qG) (by rfl) (by first |exact Or.inl rfl |exact Or.inr rfl) (by rfl) (by first |exact .inl rfl |exact .inr rfl |assumption)) (@qM _ _ _ _ _ _ (@zf _ _ _ _ _ _ _ _ _ (@zA _ _ _ _ _ _ _ rfl V.n_range (@qW _ _ _ _ _ _ _ _ qG qF) (by rfl)) (@Q7 _ _ 5 _ sc_law_box.nd (by rfl) (by first |exact Or.inl rfl |exact Or.inr rfl) (by first |exact .inl rfl |exact .inr rfl |assumption)) (@qM _ _ _ _ _ _ (@qk _ _ _ _ _ 4 _ _ sc_law_box.nd (@jg _ _ _ _ _ _ _ (@QG _ _ _ _ _ _ _ (@QG _ _ _ _ _ _ _ (@QG _ _ _ _ _ _ _ (@yE _ _ _ _ _ _ _ (@qH _ _ 4 _ _ (by rfl) (by rfl) (by rfl)) qG) (@yE _ _ _ _ _ _ _ (@yE _ _ _ _ _ _ _ qG (@qH _ _ 5 _ _ (by rfl) (by rfl) (by rfl))) (@qH _ _ 5 _ _ (by rfl) (by rfl) (by rfl)))) (@yE _ _ _ _ _ _ _ qG (@qH _ _ 1 _ _ (by rfl) (by rfl) (by rfl)))) qG) qG) (by rfl) (by first |exact Or.inl rfl |exact Or.inr rfl) (by rfl) (by first |exact .inl rfl |exact .inr rfl |assumption)) (@qS _ _ _ _ (@qk _ _ _ _ _ 3 _ _ sc_law_box.nd (@QG _ _ _ _ _ _ _ (@yE _ _ _ _ _ _ _ (@qH _ _ 3 _ _ (by rfl) (by rfl) (by rfl)) qG) (@qH _ _ 4 _ _ (by rfl) (by rfl) (by rfl))) (by rfl) (by first |exact Or.inl rfl |exact Or.inr rfl) (by rfl) (by first |exact .inl rfl |exact .inr rfl |assumption)))) (by intro _;rfl)) (@qS _ _ _ _ (@qA4 _ _ _ _ _ (@QE _ _ _ _ _ (@qP _ _ _ _ _ _ _ (@qH _ _ 3 _ _ (by rfl) (by rfl) (by rfl)) qF)))))))))
theorem sc_law_take:FnScope ["_law_box_here","_law_many","_law_digit"] ["_law_box_here","_law_many"] (qK WA):=⟨rfl,rfl,rfl,by decide +kernel,rfl,by decide +kernel,by decide +kernel⟩
theorem qv (V:Env K mg a):DefG P w K mg base 2 "_law_take" a.law_take 2 (qZ a):=by
 obtain ⟨fd,F⟩:=V.f_law_take
 refine Q9 (B:=Za a) F sc_law_take (F.binds (ps:=["_law_box_here","_law_many"]) fun _ _ _ _ _ _ us hl=>match us,hl with |[_,_],_=>rfl) V.m_law_take (fun l st h=>qd h) (fun cdv A outer s H E hr hcm => ?_) (fun l s0 hl hn=>qb hl)
 have hu:=hr.units
 exact (@qM _ _ _ _ _ _ (@qk _ _ _ _ _ 2 _ _ sc_law_take.nd (@jg _ _ _ _ _ _ _ (@QU _ _ _ _ _ _ _ (@qH _ _ 0 _ _ (by rfl) (by rfl) (by rfl)) qG (by exact fun _ _=>rfl)) (@qH _ _ 1 _ _ (by rfl) (by rfl) (by rfl))) (by rfl) (by first |exact Or.inl rfl |exact Or.inr rfl) (by rfl) (by first |exact .inl rfl |exact .inr rfl |assumption)) (@qM _ _ _ _ _ _ (@qGM _ _ _ _ _ _ _ _ _ _ (@qH _ _ 0 _ _ (by rfl) (by rfl) (by rfl)) qG (@qFI _ _ _ _ _ _ _ (@QU _ _ _ _ _ _ _ (@qH _ _ 0 _ _ (by rfl) (by rfl) (by rfl)) qG (by exact fun _ _=>rfl)) (@qH _ _ 1 _ _ (by rfl) (by rfl) (by rfl))) (by rfl) (by rfl) (by rfl) (by intro _;rfl)) (@qS _ _ _ _ (@qj _ _ _ _ _ (@qH _ _ 2 _ _ (by rfl) (by rfl) (by rfl))))))
theorem jG:FnScope ["_law_thing"] ["_law_thing"] (qK we):=⟨rfl,rfl,rfl,by decide +kernel,rfl,by decide +kernel,by decide +kernel⟩
theorem Jg (V:Env K mg a):DefG P w K mg base 2 "_law_whole" a.law_whole 1 (Ws a):=by
 obtain ⟨fd,F⟩:=V.f_law_whole
 refine Q9 (B:=yc a) F jG (F.binds (ps:=["_law_thing"]) fun _ _ _ _ _ _ us hl=>match us,hl with |[_],_=>rfl) V.m_law_whole (fun l st h=>qd h) (fun cdv A outer s H E hr hcm => ?_) (fun l s0 hl hn=>qb hl)
 have hu:=hr.units
 exact (@qS _ _ _ _ (@qj _ _ _ _ _ (@zI _ _ _ _ _ _ _ _ (@QK _ _ _ _ _ _ _ _ V.kit V.n_isinstance (@qP _ _ _ _ _ _ _ (@qH _ _ 0 _ _ (by rfl) (by rfl) (by rfl)) (@qP _ _ _ _ _ _ _ (@WM _ _ _ _ _ rfl V.n_int Boot.«int» (by decide) (by decide)) qF)) (by rfl) (by rfl) (by rfl)) (@Zj _ _ _ _ _ _ (@qCj _ _ _ _ _ (@QK _ _ _ _ _ _ _ _ V.kit V.n_isinstance (@qP _ _ _ _ _ _ _ (@qH _ _ 0 _ _ (by rfl) (by rfl) (by rfl)) (@qP _ _ _ _ _ _ _ (@WM _ _ _ _ _ rfl V.n_bool Boot.«bool» (by decide) (by decide)) qF)) (by rfl) (by rfl) (by rfl)))))))
theorem sc_law_odd:FnScope ["_law_box_here","_law_some"] ["_law_box_here"] (qK WU):=⟨rfl,rfl,rfl,by decide +kernel,rfl,by decide +kernel,by decide +kernel⟩
theorem qB4 (V:Env K mg a):DefG P w K mg base 3 "_law_odd" a.law_odd 1 (yS a):=by
 obtain ⟨fd,F⟩:=V.f_law_odd
 refine Q9 (B:=Yr a) F sc_law_odd (F.binds (ps:=["_law_box_here"]) fun _ _ _ _ _ _ us hl=>match us,hl with |[_],_=>rfl) V.m_law_odd (fun l st h=>qd h) (fun cdv A outer s H E hr hcm => ?_) (fun l s0 hl hn=>qb hl)
 have hu:=hr.units
 exact (@qM _ _ _ _ _ _ (@qk _ _ _ _ _ 1 _ _ sc_law_odd.nd (@ql _ _ _ _ (@QE _ _ _ _ _ (@qW _ _ _ _ _ _ _ _ wS (@qW _ _ _ _ _ _ _ _ W4 (@qW _ _ _ _ _ _ _ _ qG (@qW _ _ _ _ _ _ _ _ QP (@qW _ _ _ _ _ _ _ _ QP (@Q2 _ _ _ _ _ _ _ _ (@qX _ _ _ _ _ _ qF) (@qGc _ _ _ _ _ _ _ (@ql _ _ _ _ (@QE _ _ _ _ _ qF)) (@qIh _ _ _ _ _ _ _ _ qF5 (@Q2 _ _ _ _ _ _ _ _ (@qX _ _ _ _ _ _ (@qW _ _ _ _ _ _ _ _ qG (@qW _ _ _ _ _ _ _ _ qG qF))) (@Q2 _ _ _ _ _ _ _ _ (@qX _ _ _ _ _ _ (@qW _ _ _ _ _ _ _ _ qG qF)) (@Q2 _ _ _ _ _ _ _ _ (@qX _ _ _ _ _ _ (@qW _ _ _ _ _ _ _ _ qG (@qW _ _ _ _ _ _ _ _ qG (@qW _ _ _ _ _ _ _ _ qG qF)))) (@qEz _ _ _ _ _ _ _ _ (@zc _ _ _ _ _ qG) (@Q2 _ _ _ _ _ _ _ _ (@qX _ _ _ _ _ _ (@qW _ _ _ _ _ _ _ _ qG (@qW _ _ _ _ _ _ _ _ qG qF))) (@qGc _ _ _ _ _ _ _ (@ql _ _ _ _ (@QE _ _ _ _ _ (@Q2 _ _ _ _ _ _ _ _ (@qX _ _ _ _ _ _ (@qW _ _ _ _ _ _ _ _ qG (@qW _ _ _ _ _ _ _ _ qG qF))) qF))) (@qW _ _ _ _ _ _ _ _ W4 (@Q2 _ _ _ _ _ _ _ _ (@qX _ _ _ _ _ _ (@Q2 _ _ _ _ _ _ _ _ (@qX _ _ _ _ _ _ (@qW _ _ _ _ _ _ _ _ qG (@qW _ _ _ _ _ _ _ _ qG qF))) (@Q2 _ _ _ _ _ _ _ _ (@qX _ _ _ _ _ _ (@qW _ _ _ _ _ _ _ _ qG (@qW _ _ _ _ _ _ _ _ qG qF))) qF))) qF)))))))))))))))))) (by rfl) (by first |exact Or.inl rfl |exact Or.inr rfl) (by rfl) (by first |exact .inl rfl |exact .inr rfl |assumption)) (@qS _ _ _ _ (@qj _ _ _ _ _ (@QU _ _ _ _ _ _ _ (@qH _ _ 1 _ _ (by rfl) (by rfl) (by rfl)) (@qV _ _ _ _ _ _ _ _ _ ((qv V).call (hr.mono (by omega)) qg) (@qP _ _ _ _ _ _ _ (@qH _ _ 0 _ _ (by rfl) (by rfl) (by rfl)) (@qW _ _ _ _ _ _ _ _ qG qF)) (by rfl) (by rfl)) (by exact fun _ _=>rfl)))))
theorem sc_law_kind:FnScope ["_law_e","_law_kinds","_law_words"] ["_law_e"] (qK wu):=⟨rfl,rfl,rfl,by decide +kernel,rfl,by decide +kernel,by decide +kernel⟩
theorem qAp (V:Env K mg a):DefG P w K mg base 1 "_law_kind" a.law_kind 1 (Wg a):=by
 obtain ⟨fd,F⟩:=V.f_law_kind
 refine Q9 (B:=zL a) F sc_law_kind (F.binds (ps:=["_law_e"]) fun _ _ _ _ _ _ us hl=>match us,hl with |[_],_=>rfl) V.m_law_kind (fun l st h=>qd h) (fun cdv A outer s H E hr hcm => ?_) (fun l s0 hl hn=>qb hl)
 have hu:=hr.units
 exact (@qM _ _ _ _ _ _ (@qk _ _ _ _ _ 1 _ _ sc_law_kind.nd (@ql _ _ _ _ (@QE _ _ _ _ _ (@Wt _ _ _ _ _ _ _ _ _ (@QK _ _ _ _ _ _ _ _ V.kit V.n_isinstance (@qP _ _ _ _ _ _ _ (@qH _ _ 0 _ _ (by rfl) (by rfl) (by rfl)) (@qP _ _ _ _ _ _ _ (@ZG _ _ _ _ _ rfl V.k_NoLength (by decide)) qF)) (by rfl) (by rfl) (by rfl)) (@Wt _ _ _ _ _ _ _ _ _ (@QK _ _ _ _ _ _ _ _ V.kit V.n_isinstance (@qP _ _ _ _ _ _ _ (@qH _ _ 0 _ _ (by rfl) (by rfl) (by rfl)) (@qP _ _ _ _ _ _ _ (@ZG _ _ _ _ _ rfl V.k_NoNumber (by decide)) qF)) (by rfl) (by rfl) (by rfl)) (@Wt _ _ _ _ _ _ _ _ _ (@QK _ _ _ _ _ _ _ _ V.kit V.n_isinstance (@qP _ _ _ _ _ _ _ (@qH _ _ 0 _ _ (by rfl) (by rfl) (by rfl)) (@qP _ _ _ _ _ _ _ (@ZG _ _ _ _ _ rfl V.k_NoBars (by decide)) qF)) (by rfl) (by rfl) (by rfl)) (@Wt _ _ _ _ _ _ _ _ _ (@QK _ _ _ _ _ _ _ _ V.kit V.n_isinstance (@qP _ _ _ _ _ _ _ (@qH _ _ 0 _ _ (by rfl) (by rfl) (by rfl)) (@qP _ _ _ _ _ _ _ (@ZG _ _ _ _ _ rfl V.k_NoBox (by decide)) qF)) (by rfl) (by rfl) (by rfl)) qF)))))) (by rfl) (by first |exact Or.inl rfl |exact Or.inr rfl) (by rfl) (by first |exact .inl rfl |exact .inr rfl |assumption)) (@qM _ _ _ _ _ _ (@qk _ _ _ _ _ 1 _ _ sc_law_kind.nd (@ql _ _ _ _ (@Zd _ _ _ _ _ _ _ (@qH _ _ 1 _ _ (by rfl) (by rfl) (by rfl)) (@ql _ _ _ _ (@QE _ _ _ _ _ (@Wt _ _ _ _ _ _ _ _ _ (@QK _ _ _ _ _ _ _ _ V.kit V.n_isinstance (@qP _ _ _ _ _ _ _ (@qH _ _ 0 _ _ (by rfl) (by rfl) (by rfl)) (@qP _ _ _ _ _ _ _ (@ZG _ _ _ _ _ rfl V.k_NoWeights (by decide)) qF)) (by rfl) (by rfl) (by rfl)) (@Wt _ _ _ _ _ _ _ _ _ (@QK _ _ _ _ _ _ _ _ V.kit V.n_isinstance (@qP _ _ _ _ _ _ _ (@qH _ _ 0 _ _ (by rfl) (by rfl) (by rfl)) (@qP _ _ _ _ _ _ _ (@ZG _ _ _ _ _ rfl V.k_NoSorts (by decide)) qF)) (by rfl) (by rfl) (by rfl)) (@Wt _ _ _ _ _ _ _ _ _ (@QK _ _ _ _ _ _ _ _ V.kit V.n_isinstance (@qP _ _ _ _ _ _ _ (@qH _ _ 0 _ _ (by rfl) (by rfl) (by rfl)) (@qP _ _ _ _ _ _ _ (@ZG _ _ _ _ _ rfl V.k_NoTurn (by decide)) qF)) (by rfl) (by rfl) (by rfl)) (@Wt _ _ _ _ _ _ _ _ _ (@QK _ _ _ _ _ _ _ _ V.kit V.n_isinstance (@qP _ _ _ _ _ _ _ (@qH _ _ 0 _ _ (by rfl) (by rfl) (by rfl)) (@qP _ _ _ _ _ _ _ (@ZG _ _ _ _ _ rfl V.k_NoPlace (by decide)) qF)) (by rfl) (by rfl) (by rfl)) qF)))))))) (by rfl) (by first |exact Or.inl rfl |exact Or.inr rfl) (by rfl) (by first |exact .inl rfl |exact .inr rfl |assumption)) (@qM _ _ _ _ _ _ (@qk _ _ _ _ _ 1 _ _ sc_law_kind.nd (@ql _ _ _ _ (@Zd _ _ _ _ _ _ _ (@qH _ _ 1 _ _ (by rfl) (by rfl) (by rfl)) (@ql _ _ _ _ (@QE _ _ _ _ _ (@Wt _ _ _ _ _ _ _ _ _ (@QK _ _ _ _ _ _ _ _ V.kit V.n_isinstance (@qP _ _ _ _ _ _ _ (@qH _ _ 0 _ _ (by rfl) (by rfl) (by rfl)) (@qP _ _ _ _ _ _ _ (@ZG _ _ _ _ _ rfl V.k_NoText (by decide)) qF)) (by rfl) (by rfl) (by rfl)) (@Wt _ _ _ _ _ _ _ _ _ (@QK _ _ _ _ _ _ _ _ V.kit V.n_isinstance (@qP _ _ _ _ _ _ _ (@qH _ _ 0 _ _ (by rfl) (by rfl) (by rfl)) (@qP _ _ _ _ _ _ _ (@ZG _ _ _ _ _ rfl V.k_NoRow (by decide)) qF)) (by rfl) (by rfl) (by rfl)) (@Wt _ _ _ _ _ _ _ _ _ (@QK _ _ _ _ _ _ _ _ V.kit V.n_isinstance (@qP _ _ _ _ _ _ _ (@qH _ _ 0 _ _ (by rfl) (by rfl) (by rfl)) (@qP _ _ _ _ _ _ _ (@ZG _ _ _ _ _ rfl V.k_TooMany (by decide)) qF)) (by rfl) (by rfl) (by rfl)) qF))))))) (by rfl) (by first |exact Or.inl rfl |exact Or.inr rfl) (by rfl) (by first |exact .inl rfl |exact .inr rfl |assumption)) (@qM _ _ _ _ _ _ (@WO _ _ _ _ _ _ _ _ _ (@qAH _ _ _ _ (@Zq _ _ _ _ _ _ _ _ (@Ww _ _ _ _ _ (@We _ _ _ _ (@QK _ _ _ _ _ _ _ _ V.kit V.n_isinstance (@qP _ _ _ _ _ _ _ (@qH _ _ 0 _ _ (by rfl) (by rfl) (by rfl)) (@qP _ _ _ _ _ _ _ (@WM _ _ _ _ _ rfl V.n_ValueError Boot.«ValueError» (by decide) (by decide)) qF)) (by rfl) (by rfl) (by rfl)) (by intro _;rfl))) (@Zg _ _ _ _ _ (@wE _ _ _ _ _ _ _ _ _ _ (za hu) yb (@qDK _ _ _ _ _ _ _ (@yi _ _ _ _ _ _ _ _ _ (@ql _ _ _ _ (@Q0 _ _ _ _ _ _ _ ([]) (["_law_kind_here"]) ([]) _ _ _ _ _ (by exact Qz rfl (by decide +kernel) rfl rfl trivial) (@wI _ _ _ _ _ (@qH _ _ 1 _ _ (by rfl) (by rfl) (by rfl))) (fun s' H' fp pn=>⟨(@qEJ _ _ _ _ _ _ _ (@qP _ _ _ _ _ _ _ (@qH _ _ 0 _ _ (by rfl) (by rfl) (by rfl)) qF) V.n_int (by rfl) (by rfl) (by rfl)),⟨(@QS _ _ 0 _ (show (["_law_kind_here"]:List Str).Nodup by decide +kernel) (by rfl) (by first |exact Or.inl rfl |exact Or.inr rfl) (by first |exact .inl rfl |exact .inr rfl |assumption)),(qc 0),TsOk.nil,rfl⟩,GsOk.nil⟩) (by intro _;rfl))) qF) V.n_sum (by rfl) (by rfl) (by rfl)) qG (by first |exact Qv _ |with_unfolding_all rfl))))) (@qS _ _ _ _ (@qj _ _ _ _ _ QP)) Qo) (@qM _ _ _ _ _ _ (@qk _ _ _ _ _ 2 _ _ sc_law_kind.nd (@ql _ _ _ _ (@QE _ _ _ _ _ (@qW _ _ _ _ _ _ _ _ QP (@qW _ _ _ _ _ _ _ _ QP (@qW _ _ _ _ _ _ _ _ QP (@qW _ _ _ _ _ _ _ _ QP (@qW _ _ _ _ _ _ _ _ QP (@qW _ _ _ _ _ _ _ _ QP (@qW _ _ _ _ _ _ _ _ QP (@qW _ _ _ _ _ _ _ _ QP (@qW _ _ _ _ _ _ _ _ QP (@qW _ _ _ _ _ _ _ _ QP (@qW _ _ _ _ _ _ _ _ QP qF))))))))))))) (by rfl) (by first |exact Or.inl rfl |exact Or.inr rfl) (by rfl) (by first |exact .inl rfl |exact .inr rfl |assumption)) (@qS _ _ _ _ (@qj _ _ _ _ _ (@qEI _ _ _ _ _ _ _ QP (@QU _ _ _ _ _ _ _ (@qH _ _ 2 _ _ (by rfl) (by rfl) (by rfl)) (@qDr _ _ _ _ _ _ _ _ hu (@qH _ _ 1 _ _ (by rfl) (by rfl) (by rfl)) W4 (by rfl) (by rfl) (by rfl) (by rfl) (by rfl)) (by exact fun _ _=>rfl))))))))))
theorem JG:FnScope ["_law_found","_law_due"] ["_law_found","_law_due"] (qK wX):=⟨rfl,rfl,rfl,by decide +kernel,rfl,by decide +kernel,by decide +kernel⟩
theorem yd (V:Env K mg a):∀ n,DefG P w K mg base (n + 1) "_law_same" a.law_same 2 (QZ n a)
 |0=>by
  obtain ⟨fd,F⟩:=V.f_law_same
  exact qF8 F (F.binds (ps:=["_law_found","_law_due"]) fun _ _ _ _ _ _ us hl=>match us,hl with |[_,_],_=>rfl) V.m_law_same fun _ _=>rfl
 |n + 1=>by
  obtain ⟨fd,F⟩:=V.f_law_same
  have DR:=yd V n
  refine Q9 (B:=ww a (QZ n a)) F JG (F.binds (ps:=["_law_found","_law_due"]) fun _ _ _ _ _ _ us hl=>match us,hl with |[_,_],_=>rfl) V.m_law_same (fun l st h=>qd h) (fun cdv A outer s H E hr hcm => ?_) (fun l s0 hl hn=>qb hl)
  have hu:=hr.units
  have hc:(wU (CXF P w) P w K mg base ["_law_found","_law_due"] "_law_same" (qK wX) a.law_same cdv A outer s H E).calm=true:=by show A.handled.isNone=true;rw [hcm (by omega)];rfl
  exact (@qM _ _ _ _ _ _ (@WO _ _ _ _ _ _ _ _ _ (@We _ _ _ _ (@QK _ _ _ _ _ _ _ _ V.kit V.n_isinstance (@qP _ _ _ _ _ _ _ (@qH _ _ 1 _ _ (by rfl) (by rfl) (by rfl)) (@Q2 _ _ _ _ _ _ _ _ (@qX _ _ _ _ _ _ (@qP _ _ _ _ _ _ _ (@WM _ _ _ _ _ rfl V.n_tuple Boot.«tuple» (by decide) (by decide)) (@qP _ _ _ _ _ _ _ (@WM _ _ _ _ _ rfl V.n_list Boot.«list» (by decide) (by decide)) qF))) qF)) (by rfl) (by rfl) (by rfl)) (by intro _;rfl)) (@qM _ _ _ _ _ _ (@WO _ _ _ _ _ _ _ _ _ (@qAH _ _ _ _ (@Zq _ _ _ _ _ _ _ _ (@wE _ _ _ _ _ _ _ _ _ _ (za hu) yb (@QK _ _ _ _ _ _ _ _ V.kit V.n_isinstance (@qP _ _ _ _ _ _ _ (@qH _ _ 0 _ _ (by rfl) (by rfl) (by rfl)) (@qP _ _ _ _ _ _ _ (@WM _ _ _ _ _ rfl V.n_tuple Boot.«tuple» (by decide) (by decide)) qF)) (by rfl) (by rfl) (by rfl)) (@QK _ _ _ _ _ _ _ _ V.kit V.n_isinstance (@qP _ _ _ _ _ _ _ (@qH _ _ 1 _ _ (by rfl) (by rfl) (by rfl)) (@qP _ _ _ _ _ _ _ (@WM _ _ _ _ _ rfl V.n_tuple Boot.«tuple» (by decide) (by decide)) qF)) (by rfl) (by rfl) (by rfl)) (by first |exact Qv _ |with_unfolding_all rfl)) (@Zg _ _ _ _ _ (@wE _ _ _ _ _ _ _ _ _ _ (za hu) yb (@QK _ _ _ _ _ _ _ _ V.kit V.n_isinstance (@qP _ _ _ _ _ _ _ (@qH _ _ 0 _ _ (by rfl) (by rfl) (by rfl)) (@qP _ _ _ _ _ _ _ (@WM _ _ _ _ _ rfl V.n_list Boot.«list» (by decide) (by decide)) qF)) (by rfl) (by rfl) (by rfl)) (@QK _ _ _ _ _ _ _ _ V.kit V.n_isinstance (@qP _ _ _ _ _ _ _ (@qH _ _ 1 _ _ (by rfl) (by rfl) (by rfl)) (@qP _ _ _ _ _ _ _ (@WM _ _ _ _ _ rfl V.n_list Boot.«list» (by decide) (by decide)) qF)) (by rfl) (by rfl) (by rfl)) (by first |exact Qv _ |with_unfolding_all rfl))))) (@qS _ _ _ _ (@qj _ _ _ _ _ W4)) Qo) (@qS _ _ _ _ (@qj _ _ _ _ _ (@zI _ _ _ _ _ _ _ _ (@qCv _ _ _ _ _ _ _ hu (@WF _ _ _ _ _ _ _ (@qP _ _ _ _ _ _ _ (@qH _ _ 0 _ _ (by rfl) (by rfl) (by rfl)) qF) V.n_len (by rfl) (by rfl) (by rfl)) (@WF _ _ _ _ _ _ _ (@qP _ _ _ _ _ _ _ (@qH _ _ 1 _ _ (by rfl) (by rfl) (by rfl)) qF) V.n_len (by rfl) (by rfl) (by rfl))) (@Zj _ _ _ _ _ _ (@YM _ _ _ _ _ _ _ (@yi _ _ _ _ _ _ _ _ _ (@ql _ _ _ _ (@Q0 _ _ _ _ _ _ _ ([]) (["_law_one","_law_other"]) ([]) _ _ _ _ _ (by exact Qz rfl (by decide +kernel) rfl rfl trivial) (@qEM _ _ _ _ _ _ _ _ _ _ hc V.n_zip (@qP _ _ _ _ _ _ _ (@qH _ _ 0 _ _ (by rfl) (by rfl) (by rfl)) (@qP _ _ _ _ _ _ _ (@qH _ _ 1 _ _ (by rfl) (by rfl) (by rfl)) qF)) (by rfl) (by rfl) (by rfl)) (fun s' H' fp pn=>⟨(@qV _ _ _ _ _ _ _ _ _ (DR.call (hr.mono (by omega)) (QI _)) (@qP _ _ _ _ _ _ _ (@qH _ _ 0 _ _ (by rfl) (by rfl) (by rfl)) (@qP _ _ _ _ _ _ _ (@qH _ _ 1 _ _ (by rfl) (by rfl) (by rfl)) qF)) (by rfl) (by rfl)),⟨(@zH _ _ _ _ _ _ hc (@QC _ _ _ _ _ (@QS _ _ 0 _ (show (["_law_one","_law_other"]:List Str).Nodup by decide +kernel) (by rfl) (by first |exact Or.inl rfl |exact Or.inr rfl) (by first |exact .inl rfl |exact .inr rfl |assumption)) (@QC _ _ _ _ _ (@QS _ _ 1 _ (show (["_law_one","_law_other"]:List Str).Nodup by decide +kernel) (by rfl) (by first |exact Or.inl rfl |exact Or.inr rfl) (by first |exact .inl rfl |exact .inr rfl |assumption)) WQ (by rfl)) (by rfl)) (by rfl) (by rfl)),(W3 (Qk (qc 0) (Qk (qc 1) W2))),TsOk.nil,rfl⟩,GsOk.nil⟩) (by intro _;rfl))) qF) V.n_all (by rfl) (by rfl) (by rfl))))))) Qo) (@qS _ _ _ _ (@qj _ _ _ _ _ (@zI _ _ _ _ _ _ _ _ (@qCv _ _ _ _ _ _ _ hu (@qH _ _ 0 _ _ (by rfl) (by rfl) (by rfl)) (@qH _ _ 1 _ _ (by rfl) (by rfl) (by rfl))) (@Zj _ _ _ _ _ _ (@qCv _ _ _ _ _ _ _ hu (@QK _ _ _ _ _ _ _ _ V.kit V.n_isinstance (@qP _ _ _ _ _ _ _ (@qH _ _ 0 _ _ (by rfl) (by rfl) (by rfl)) (@qP _ _ _ _ _ _ _ (@WM _ _ _ _ _ rfl V.n_bool Boot.«bool» (by decide) (by decide)) qF)) (by rfl) (by rfl) (by rfl)) (@QK _ _ _ _ _ _ _ _ V.kit V.n_isinstance (@qP _ _ _ _ _ _ _ (@qH _ _ 1 _ _ (by rfl) (by rfl) (by rfl)) (@qP _ _ _ _ _ _ _ (@WM _ _ _ _ _ rfl V.n_bool Boot.«bool» (by decide) (by decide)) qF)) (by rfl) (by rfl) (by rfl))))))))
theorem qAf (V:Env K mg a):DefG P w K mg base 4 "_law_same" a.law_same 2 (QZ 3 a):=yd V 3
theorem sc_law_sorts:FnScope ["_law_box_here","_law_longs","_law_most"] ["_law_box_here"] (qK wD):=⟨rfl,rfl,rfl,by decide +kernel,rfl,by decide +kernel,by decide +kernel⟩
theorem ju (V:Env K mg a):DefG P w K mg base 3 "_law_sorts" a.law_sorts 1 (Wj a):=by
 obtain ⟨fd,F⟩:=V.f_law_sorts
 refine Q9 (B:=ZC a) F sc_law_sorts (F.binds (ps:=["_law_box_here"]) fun _ _ _ _ _ _ us hl=>match us,hl with |[_],_=>rfl) V.m_law_sorts (fun l st h=>qd h) (fun cdv A outer s H E hr hcm => ?_) (fun l s0 hl hn=>qb hl)
 have hu:=hr.units
 have hc:(wU (CXF P w) P w K mg base ["_law_box_here","_law_longs","_law_most"] "_law_sorts" (qK wD) a.law_sorts cdv A outer s H E).calm=true:=by show A.handled.isNone=true;rw [hcm (by omega)];rfl
 exact (@qM _ _ _ _ _ _ (@qk _ _ _ _ _ 1 _ _ sc_law_sorts.nd (@qEj _ _ _ _ _ _ _ _ hc V.n_sorted V.n_set (@ql _ _ _ _ (@Q0 _ _ _ _ _ _ _ (["_law_box_here"]) (["_law_turn"]) ([0]) _ _ _ _ _ (by exact Qz rfl (by decide +kernel) rfl rfl ⟨⟨rfl,rfl⟩,trivial⟩) (@zA _ _ _ _ _ _ _ rfl V.n_range (@Wi _ _ _ _ _ _ _ _ _ (@QG _ _ _ _ _ _ _ qG (@qV _ _ _ _ _ _ _ _ _ ((qv V).call (hr.mono (by omega)) qg) (@qP _ _ _ _ _ _ _ (@qH _ _ 0 _ _ (by rfl) (by rfl) (by rfl)) (@qW _ _ _ _ _ _ _ _ qG qF)) (by rfl) (by rfl))) qF) (by rfl)) (fun s' H' fp pn=>⟨(@QG _ _ _ _ _ _ _ qG (@qV _ _ _ _ _ _ _ _ _ ((qv V).call (hr.mono (by omega)) (QI _)) (@qP _ _ _ _ _ _ _ (@qH _ _ 0 _ _ (by rfl) (by rfl) (by rfl)) (@qAQ _ _ _ _ _ _ _ _ (@QU _ _ _ _ _ _ _ (@ql _ _ _ _ (@QE _ _ _ _ _ (@qW _ _ _ _ _ _ _ _ qG (@qW _ _ _ _ _ _ _ _ qG qF)))) (@qV _ _ _ _ _ _ _ _ _ ((qv V).call (hr.mono (by omega)) (QI _)) (@qP _ _ _ _ _ _ _ (@qH _ _ 0 _ _ (by rfl) (by rfl) (by rfl)) (@qW _ _ _ _ _ _ _ _ qG qF)) (by rfl) (by rfl)) (by exact fun _ _=>rfl)) qF)) (by rfl) (by rfl))),⟨(@QS _ _ 1 _ (show (["_law_box_here","_law_turn"]:List Str).Nodup by decide +kernel) (by rfl) (by first |exact Or.inl rfl |exact Or.inr rfl) (by first |exact .inl rfl |exact .inr rfl |assumption)),(qc 1),TsOk.nil,rfl⟩,GsOk.nil⟩) (by intro _;rfl))) (by rfl) (by rfl) (by rfl) (by rfl)) (by rfl) (by first |exact Or.inl rfl |exact Or.inr rfl) (by rfl) (by first |exact .inl rfl |exact .inr rfl |assumption)) (@qM _ _ _ _ _ _ (@qk _ _ _ _ _ 2 _ _ sc_law_sorts.nd (@QU _ _ _ _ _ _ _ (@ql _ _ _ _ (@QE _ _ _ _ _ (@qW _ _ _ _ _ _ _ _ qG (@qW _ _ _ _ _ _ _ _ qG (@Wi _ _ _ _ _ _ _ _ _ (@QG _ _ _ _ _ _ _ (@yN _ _ _ _ _ _ _ qG qG) qG) qF))))) (@qV _ _ _ _ _ _ _ _ _ ((qv V).call (hr.mono (by omega)) qg) (@qP _ _ _ _ _ _ _ (@qH _ _ 0 _ _ (by rfl) (by rfl) (by rfl)) (@qW _ _ _ _ _ _ _ _ qG qF)) (by rfl) (by rfl)) (by exact fun _ _=>rfl)) (by rfl) (by first |exact Or.inl rfl |exact Or.inr rfl) (by rfl) (by first |exact .inl rfl |exact .inr rfl |assumption)) (@qS _ _ _ _ (@qj _ _ _ _ _ (@Y1 _ _ _ _ _ _ _ (@yi _ _ _ _ _ _ _ _ _ (@ql _ _ _ _ (@Q0 _ _ _ _ _ _ _ (["_law_box_here","_law_most"]) (["_law_long"]) ([0,2]) _ _ _ _ _ (by exact Qz rfl (by decide +kernel) rfl rfl ⟨⟨rfl,rfl⟩,⟨⟨rfl,rfl⟩,trivial⟩⟩) (@wI _ _ _ _ _ (@qH _ _ 1 _ _ (by rfl) (by rfl) (by rfl))) (fun s' H' fp pn=>⟨(@qX _ _ _ _ _ _ (@qP _ _ _ _ _ _ _ (@qH _ _ 2 _ _ (by rfl) (by rfl) (by rfl)) (@Wt _ _ _ _ _ _ _ _ _ (@qV _ _ _ _ _ _ _ _ _ ((qv V).call (hr.mono (by omega)) (QI _)) (@qP _ _ _ _ _ _ _ (@qH _ _ 0 _ _ (by rfl) (by rfl) (by rfl)) (@qP _ _ _ _ _ _ _ (@qH _ _ 1 _ _ (by rfl) (by rfl) (by rfl)) qF)) (by rfl) (by rfl)) qF))),⟨(@QS _ _ 2 _ (show (["_law_box_here","_law_most","_law_long"]:List Str).Nodup by decide +kernel) (by rfl) (by first |exact Or.inl rfl |exact Or.inr rfl) (by first |exact .inl rfl |exact .inr rfl |assumption)),(qc 2),TsOk.nil,rfl⟩,GsOk.nil⟩) (by intro _;rfl))) qF) V.n_tuple (by rfl) (by rfl) (by rfl))))))
theorem sc_law_no_sorts:FnScope ["_law_box_here","_law_sorts_here","_law_at","_law_long","_law_price","_law_odd_here","_law_new","_law_some"] ["_law_box_here","_law_sorts_here"] (qK QY):=⟨rfl,rfl,rfl,by decide +kernel,rfl,by decide +kernel,by decide +kernel⟩
theorem YD (V:Env K mg a):DefG P w K mg base 3 "_law_no_sorts" a.law_no_sorts 2 (wg a):=by
 obtain ⟨fd,F⟩:=V.f_law_no_sorts
 refine Q9 (B:=WZ a) F sc_law_no_sorts (F.binds (ps:=["_law_box_here","_law_sorts_here"]) fun _ _ _ _ _ _ us hl=>match us,hl with |[_,_],_=>rfl) V.m_law_no_sorts (fun l st h=>qd h) (fun cdv A outer s H E hr hcm => ?_) (fun l s0 hl hn=>qb hl)
 have hu:=hr.units
 have hc:(wU (CXF P w) P w K mg base ["_law_box_here","_law_sorts_here","_law_at","_law_long","_law_price","_law_odd_here","_law_new","_law_some"] "_law_no_sorts" (qK QY) a.law_no_sorts cdv A outer s H E).calm=true:=by show A.handled.isNone=true;rw [hcm (by omega)];rfl
 exact (@qM _ _ _ _ _ _ (@qk _ _ _ _ _ 2 _ _ sc_law_no_sorts.nd (@qV _ _ _ _ _ _ _ _ _ ((qv V).call (hr.mono (by omega)) qg) (@qP _ _ _ _ _ _ _ (@qH _ _ 0 _ _ (by rfl) (by rfl) (by rfl)) (@Wt _ _ _ _ _ _ _ _ _ (@WF _ _ _ _ _ _ _ (@qP _ _ _ _ _ _ _ (@qH _ _ 1 _ _ (by rfl) (by rfl) (by rfl)) qF) V.n_len (by rfl) (by rfl) (by rfl)) qF)) (by rfl) (by rfl)) (by rfl) (by first |exact Or.inl rfl |exact Or.inr rfl) (by rfl) (by first |exact .inl rfl |exact .inr rfl |assumption)) (@qM _ _ _ _ _ _ (@qF1 _ _ _ _ _ _ _ (@QU _ _ _ _ _ _ _ (@qH _ _ 1 _ _ (by rfl) (by rfl) (by rfl)) (@qH _ _ 2 _ _ (by rfl) (by rfl) (by rfl)) (by exact fun _ _=>rfl)) (@zH _ _ _ _ _ _ hc (@QC _ _ _ _ _ (@Q7 _ _ 3 _ sc_law_no_sorts.nd (by rfl) (by first |exact Or.inl rfl |exact Or.inr rfl) (by first |exact .inl rfl |exact .inr rfl |assumption)) (@QC _ _ _ _ _ (@Q7 _ _ 4 _ sc_law_no_sorts.nd (by rfl) (by first |exact Or.inl rfl |exact Or.inr rfl) (by first |exact .inl rfl |exact .inr rfl |assumption)) WQ (by rfl)) (by rfl)) (by rfl) (by rfl)) (by rfl) (by rfl) (by rfl)) (@qM _ _ _ _ _ _ (@qk _ _ _ _ _ 5 _ _ sc_law_no_sorts.nd (@QU _ _ _ _ _ _ _ (@ql _ _ _ _ (@QE _ _ _ _ _ (@qW _ _ _ _ _ _ _ _ qG (@qW _ _ _ _ _ _ _ _ qG (@qEz _ _ _ _ _ _ _ _ (@zc _ _ _ _ _ qG) (@qW _ _ _ _ _ _ _ _ W4 (@qW _ _ _ _ _ _ _ _ wS (@qW _ _ _ _ _ _ _ _ QP (@Wi _ _ _ _ _ _ _ _ _ (@QG _ _ _ _ _ _ _ (@yN _ _ _ _ _ _ _ qG qG) qG) (@Q2 _ _ _ _ _ _ _ _ (@qX _ _ _ _ _ _ (@qW _ _ _ _ _ _ _ _ qG qF)) qF)))))))))) (@qV _ _ _ _ _ _ _ _ _ ((qv V).call (hr.mono (by omega)) qg) (@qP _ _ _ _ _ _ _ (@qH _ _ 0 _ _ (by rfl) (by rfl) (by rfl)) (@qW _ _ _ _ _ _ _ _ qG qF)) (by rfl) (by rfl)) (by exact fun _ _=>rfl)) (by rfl) (by first |exact Or.inl rfl |exact Or.inr rfl) (by rfl) (by first |exact .inl rfl |exact .inr rfl |assumption)) (@qM _ _ _ _ _ _ (@yn _ _ _ _ 6 _ _ _ sc_law_no_sorts.nd (@QE _ _ _ _ _ (@Q2 _ _ _ _ _ _ _ _ (@qX _ _ _ _ _ _ (@qW _ _ _ _ _ _ _ _ qG (@qP _ _ _ _ _ _ _ (@qH _ _ 4 _ _ (by rfl) (by rfl) (by rfl)) qF))) (@Q2 _ _ _ _ _ _ _ _ (@qX _ _ _ _ _ _ (@qW _ _ _ _ _ _ _ _ qG (@qP _ _ _ _ _ _ _ (@qH _ _ 4 _ _ (by rfl) (by rfl) (by rfl)) qF))) (@Q2 _ _ _ _ _ _ _ _ (@qX _ _ _ _ _ _ (@qW _ _ _ _ _ _ _ _ W4 (@qP _ _ _ _ _ _ _ (@qH _ _ 4 _ _ (by rfl) (by rfl) (by rfl)) qF))) (@Q2 _ _ _ _ _ _ _ _ (@qX _ _ _ _ _ _ (@qP _ _ _ _ _ _ _ (@qH _ _ 3 _ _ (by rfl) (by rfl) (by rfl)) (@qEz _ _ _ _ _ _ _ _ (@zc _ _ _ _ _ qG) qF))) (@Q2 _ _ _ _ _ _ _ _ (@qX _ _ _ _ _ _ (@qP _ _ _ _ _ _ _ (@qH _ _ 3 _ _ (by rfl) (by rfl) (by rfl)) (@Wi _ _ _ _ _ _ _ _ _ (@QG _ _ _ _ _ _ _ (@yN _ _ _ _ _ _ _ qG qG) qG) qF))) (@Q2 _ _ _ _ _ _ _ _ (@qX _ _ _ _ _ _ (@qP _ _ _ _ _ _ _ (@qH _ _ 3 _ _ (by rfl) (by rfl) (by rfl)) (@qW _ _ _ _ _ _ _ _ W4 qF))) (@Q2 _ _ _ _ _ _ _ _ (@qX _ _ _ _ _ _ (@qP _ _ _ _ _ _ _ (@qH _ _ 3 _ _ (by rfl) (by rfl) (by rfl)) (@qW _ _ _ _ _ _ _ _ wS qF))) qF)))))))) (by rfl) (by first |exact Or.inl rfl |exact Or.inr rfl) (by rfl) (by first |exact .inl rfl |exact .inr rfl |assumption)) (@qM _ _ _ _ _ _ (@yU _ _ _ _ _ _ _ _ _ (@qH _ _ 6 _ _ (by rfl) (by rfl) (by rfl)) (@ql _ _ _ _ (@QE _ _ _ _ _ (@qP _ _ _ _ _ _ _ (@qH _ _ 3 _ _ (by rfl) (by rfl) (by rfl)) (@qP _ _ _ _ _ _ _ (@qH _ _ 4 _ _ (by rfl) (by rfl) (by rfl)) qF)))) (by rfl) (by rfl) (by rfl) (by rfl) (by rfl) (by rfl)) (@qM _ _ _ _ _ _ (@yn _ _ _ _ 6 _ _ _ sc_law_no_sorts.nd (@Zd _ _ _ _ _ _ _ (@qH _ _ 6 _ _ (by rfl) (by rfl) (by rfl)) (@ql _ _ _ _ (@QE _ _ _ _ _ (@Q2 _ _ _ _ _ _ _ _ (@qX _ _ _ _ _ _ (@qP _ _ _ _ _ _ _ (@qH _ _ 3 _ _ (by rfl) (by rfl) (by rfl)) qF)) (@Q2 _ _ _ _ _ _ _ _ (@qX _ _ _ _ _ _ (@qP _ _ _ _ _ _ _ (@qH _ _ 3 _ _ (by rfl) (by rfl) (by rfl)) (@qP _ _ _ _ _ _ _ (@qH _ _ 4 _ _ (by rfl) (by rfl) (by rfl)) (@qW _ _ _ _ _ _ _ _ qG qF)))) (@qP _ _ _ _ _ _ _ (@qH _ _ 5 _ _ (by rfl) (by rfl) (by rfl)) qF)))))) (by rfl) (by first |exact Or.inl rfl |exact Or.inr rfl) (by rfl) (by first |exact .inl rfl |exact .inr rfl |assumption)) (@qM _ _ _ _ _ _ (@yp _ _ _ _ _ _ _ _ _ _ (["_law_sorts_here","_law_at"]) (["_law_one"]) ([1,2]) _ _ _ _ _ 7 sc_law_no_sorts.nd (by exact Qz rfl (by decide +kernel) rfl rfl ⟨⟨rfl,rfl⟩,⟨⟨rfl,rfl⟩,trivial⟩⟩) (@wI _ _ _ _ _ (@qH _ _ 6 _ _ (by rfl) (by rfl) (by rfl))) (fun s' H' fp pn=>⟨(@WC _ _ _ _ _ _ _ (@WC _ _ _ _ _ _ _ (@zU _ _ _ _ _ _ _ _ _ _ (@qH _ _ 0 _ _ (by rfl) (by rfl) (by rfl)) wV (@wQ _ _ _ _ (@qH _ _ 1 _ _ (by rfl) (by rfl) (by rfl)))) (@qX _ _ _ _ _ _ (@qP _ _ _ _ _ _ _ (@qH _ _ 2 _ _ (by rfl) (by rfl) (by rfl)) qF))) (@zU _ _ _ _ _ _ _ _ _ _ (@qH _ _ 0 _ _ (by rfl) (by rfl) (by rfl)) (@wQ _ _ _ _ (@QG _ _ _ _ _ _ _ (@qH _ _ 1 _ _ (by rfl) (by rfl) (by rfl)) qG)) wV)),⟨(@QS _ _ 2 _ (show (["_law_sorts_here","_law_at","_law_one"]:List Str).Nodup by decide +kernel) (by rfl) (by first |exact Or.inl rfl |exact Or.inr rfl) (by first |exact .inl rfl |exact .inr rfl |assumption)),(qc 2),TsOk.nil,rfl⟩,GsOk.nil⟩) (by rfl) (by first |exact Or.inl rfl |exact Or.inr rfl) (by first |exact .inl rfl |exact .inr rfl |assumption) (by rfl) (by intro _;rfl)) (@qM _ _ _ _ _ _ (@qk _ _ _ _ _ 7 _ _ sc_law_no_sorts.nd (@ql _ _ _ _ (@Zd _ _ _ _ _ _ _ (@qH _ _ 7 _ _ (by rfl) (by rfl) (by rfl)) (@ql _ _ _ _ (@QE _ _ _ _ _ (@Wi _ _ _ _ _ _ _ _ _ (@WC _ _ _ _ _ _ _ (@qH _ _ 1 _ _ (by rfl) (by rfl) (by rfl)) (@zU _ _ _ _ _ _ _ _ _ _ (@qH _ _ 1 _ _ (by rfl) (by rfl) (by rfl)) wV (@wQ _ _ _ _ qG))) (@Q2 _ _ _ _ _ _ _ _ (@qX _ _ _ _ _ _ qF) (@Wt _ _ _ _ _ _ _ _ _ (@ql _ _ _ _ (@Jl _ _ _ _ _ _ V.n_list (@qH _ _ 1 _ _ (by rfl) (by rfl) (by rfl)) (by rfl) (by rfl) (by rfl))) (@qW _ _ _ _ _ _ _ _ wS (@Q2 _ _ _ _ _ _ _ _ (@qX _ _ _ _ _ _ (@Q2 _ _ _ _ _ _ _ _ (@qX _ _ _ _ _ _ (@qW _ _ _ _ _ _ _ _ qG (@qW _ _ _ _ _ _ _ _ qG qF))) (@Q2 _ _ _ _ _ _ _ _ (@qX _ _ _ _ _ _ (@qW _ _ _ _ _ _ _ _ qG (@qW _ _ _ _ _ _ _ _ qG qF))) (@Q2 _ _ _ _ _ _ _ _ (@qX _ _ _ _ _ _ (@qW _ _ _ _ _ _ _ _ qG (@qW _ _ _ _ _ _ _ _ qG qF))) (@Q2 _ _ _ _ _ _ _ _ (@qX _ _ _ _ _ _ (@qW _ _ _ _ _ _ _ _ qG (@qW _ _ _ _ _ _ _ _ qG qF))) (@Q2 _ _ _ _ _ _ _ _ (@qX _ _ _ _ _ _ (@qW _ _ _ _ _ _ _ _ qG (@qW _ _ _ _ _ _ _ _ qG qF))) qF)))))) qF))))))))) (by rfl) (by first |exact Or.inl rfl |exact Or.inr rfl) (by rfl) (by first |exact .inl rfl |exact .inr rfl |assumption)) (@qS _ _ _ _ (@qj _ _ _ _ _ (@QU _ _ _ _ _ _ _ (@ql _ _ _ _ (@Zd _ _ _ _ _ _ _ (@qH _ _ 7 _ _ (by rfl) (by rfl) (by rfl)) (@ql _ _ _ _ (@QE _ _ _ _ _ (@Q2 _ _ _ _ _ _ _ _ (@qX _ _ _ _ _ _ (@Q2 _ _ _ _ _ _ _ _ (@qX _ _ _ _ _ _ (@qW _ _ _ _ _ _ _ _ qG (@qW _ _ _ _ _ _ _ _ qG qF))) (@Q2 _ _ _ _ _ _ _ _ (@qX _ _ _ _ _ _ (@qW _ _ _ _ _ _ _ _ qG (@qW _ _ _ _ _ _ _ _ qG qF))) qF))) (@Q2 _ _ _ _ _ _ _ _ (@qX _ _ _ _ _ _ (@Q2 _ _ _ _ _ _ _ _ (@qX _ _ _ _ _ _ (@qW _ _ _ _ _ _ _ _ qG (@qW _ _ _ _ _ _ _ _ qG qF))) (@Q2 _ _ _ _ _ _ _ _ (@qX _ _ _ _ _ _ (@qW _ _ _ _ _ _ _ _ qG (@qW _ _ _ _ _ _ _ _ qG qF))) qF))) qF)))))) (@qV _ _ _ _ _ _ _ _ _ ((qv V).call (hr.mono (by omega)) qg) (@qP _ _ _ _ _ _ _ (@qH _ _ 0 _ _ (by rfl) (by rfl) (by rfl)) (@qW _ _ _ _ _ _ _ _ qG qF)) (by rfl) (by rfl)) (by exact fun _ _=>rfl))))))))))))
theorem ye:FnScope ["_law_box_here"] ["_law_box_here"] (qK Qp):=⟨rfl,rfl,rfl,by decide +kernel,rfl,by decide +kernel,by decide +kernel⟩
theorem YZ (V:Env K mg a):DefG P w K mg base 3 "_law_no_cells" a.law_no_cells 1 (wL a):=by
 obtain ⟨fd,F⟩:=V.f_law_no_cells
 refine Q9 (B:=zx a) F ye (F.binds (ps:=["_law_box_here"]) fun _ _ _ _ _ _ us hl=>match us,hl with |[_],_=>rfl) V.m_law_no_cells (fun l st h=>qd h) (fun cdv A outer s H E hr hcm => ?_) (fun l s0 hl hn=>qb hl)
 have hu:=hr.units
 exact (@qS _ _ _ _ (@qj _ _ _ _ _ (@QU _ _ _ _ _ _ _ (@ql _ _ _ _ (@QE _ _ _ _ _ (@qEz _ _ _ _ _ _ _ _ (@zc _ _ _ _ _ qG) (@qW _ _ _ _ _ _ _ _ qG (@qW _ _ _ _ _ _ _ _ W4 (@qW _ _ _ _ _ _ _ _ wS (@qW _ _ _ _ _ _ _ _ QP (@Q2 _ _ _ _ _ _ _ _ (@qX _ _ _ _ _ _ (@qW _ _ _ _ _ _ _ _ qG qF)) (@Wi _ _ _ _ _ _ _ _ _ (@yN _ _ _ _ _ _ _ qG qG) (@qGc _ _ _ _ _ _ _ (@ql _ _ _ _ (@QE _ _ _ _ _ (@qW _ _ _ _ _ _ _ _ qG qF))) qF)))))))))) (@qV _ _ _ _ _ _ _ _ _ ((qv V).call (hr.mono (by omega)) qg) (@qP _ _ _ _ _ _ _ (@qH _ _ 0 _ _ (by rfl) (by rfl) (by rfl)) (@qW _ _ _ _ _ _ _ _ qG qF)) (by rfl) (by rfl)) (by exact fun _ _=>rfl))))
theorem sc_law_least:FnScope ["_law_sorts_here","_law_cells","_law_found","_law_many","_law_some","_law_ways","_law_best","_law_long","_law_price","_law_ahead","_law_here"] ["_law_sorts_here","_law_cells"] (qK wH):=⟨rfl,rfl,rfl,by decide +kernel,rfl,by decide +kernel,by decide +kernel⟩
theorem Jq (V:Env K mg a):DefG P w K mg base 2 "_law_least" a.law_least 2 (ZB a):=by
 obtain ⟨fd,F⟩:=V.f_law_least
 refine Q9 (B:=zj a) F sc_law_least (F.binds (ps:=["_law_sorts_here","_law_cells"]) fun _ _ _ _ _ _ us hl=>match us,hl with |[_,_],_=>rfl) V.m_law_least (fun l st h=>qd h) (fun cdv A outer s H E hr hcm => ?_) (fun l s0 hl hn=>qb hl)
 have hu:=hr.units
 have hc:(wU (CXF P w) P w K mg base ["_law_sorts_here","_law_cells","_law_found","_law_many","_law_some","_law_ways","_law_best","_law_long","_law_price","_law_ahead","_law_here"] "_law_least" (qK wH) a.law_least cdv A outer s H E).calm=true:=by show A.handled.isNone=true;rw [hcm (by omega)];rfl
 exact (@qM _ _ _ _ _ _ (@yn _ _ _ _ 2 _ _ _ sc_law_least.nd (@QE _ _ _ _ _ (@Q2 _ _ _ _ _ _ _ _ (@qX _ _ _ _ _ _ (@qW _ _ _ _ _ _ _ _ qG (@Q2 _ _ _ _ _ _ _ _ (@qX _ _ _ _ _ _ (@qW _ _ _ _ _ _ _ _ qG (@Q2 _ _ _ _ _ _ _ _ (@qX _ _ _ _ _ _ qF) qF))) qF))) qF)) (by rfl) (by first |exact Or.inl rfl |exact Or.inr rfl) (by rfl) (by first |exact .inl rfl |exact .inr rfl |assumption)) (@qM _ _ _ _ _ _ (@zf _ _ _ _ _ _ _ _ _ (@yO _ _ _ _ _ _ _ _ rfl V.n_range (@qW _ _ _ _ _ _ _ _ qG (@Wi _ _ _ _ _ _ _ _ _ (@QG _ _ _ _ _ _ _ (@qH _ _ 1 _ _ (by rfl) (by rfl) (by rfl)) qG) qF)) (by rfl) (by rfl)) (@Q7 _ _ 3 _ sc_law_least.nd (by rfl) (by first |exact Or.inl rfl |exact Or.inr rfl) (by first |exact .inl rfl |exact .inr rfl |assumption)) (@qM _ _ _ _ _ _ (@yp _ _ _ _ _ _ _ _ _ _ (["_law_many"]) (["_law_long","_law_price"]) ([3]) _ _ _ _ _ 4 sc_law_least.nd (by exact Qz rfl (by decide +kernel) rfl rfl ⟨⟨rfl,rfl⟩,trivial⟩) (@wI _ _ _ _ _ (@qH _ _ 0 _ _ (by rfl) (by rfl) (by rfl))) (fun s' H' fp pn=>⟨(@qX _ _ _ _ _ _ (@qP _ _ _ _ _ _ _ (@qH _ _ 1 _ _ (by rfl) (by rfl) (by rfl)) (@qP _ _ _ _ _ _ _ (@qH _ _ 2 _ _ (by rfl) (by rfl) (by rfl)) qF))),⟨(@zH _ _ _ _ _ _ hc (@QC _ _ _ _ _ (@QS _ _ 1 _ (show (["_law_many","_law_long","_law_price"]:List Str).Nodup by decide +kernel) (by rfl) (by first |exact Or.inl rfl |exact Or.inr rfl) (by first |exact .inl rfl |exact .inr rfl |assumption)) (@QC _ _ _ _ _ (@QS _ _ 2 _ (show (["_law_many","_law_long","_law_price"]:List Str).Nodup by decide +kernel) (by rfl) (by first |exact Or.inl rfl |exact Or.inr rfl) (by first |exact .inl rfl |exact .inr rfl |assumption)) WQ (by rfl)) (by rfl)) (by rfl) (by rfl)),(W3 (Qk (qc 1) (Qk (qc 2) W2))),(TsOk.cons (@wE _ _ _ _ _ _ _ _ _ _ zg zk (@qH _ _ 1 _ _ (by rfl) (by rfl) (by rfl)) (@qH _ _ 0 _ _ (by rfl) (by rfl) (by rfl)) (by first |exact Qv _ |with_unfolding_all rfl)) TsOk.nil),rfl⟩,GsOk.nil⟩) (by rfl) (by first |exact Or.inl rfl |exact Or.inr rfl) (by first |exact .inl rfl |exact .inr rfl |assumption) (by rfl) (by intro _;rfl)) (@qM _ _ _ _ _ _ (@qk _ _ _ _ _ 5 _ _ sc_law_least.nd (@qDK _ _ _ _ _ _ _ (@yi _ _ _ _ _ _ _ _ _ (@ql _ _ _ _ (@Q0 _ _ _ _ _ _ _ (["_law_found","_law_many"]) (["_law_long","_law_price"]) ([2,3]) _ _ _ _ _ (by exact Qz rfl (by decide +kernel) rfl rfl ⟨⟨rfl,rfl⟩,⟨⟨rfl,rfl⟩,trivial⟩⟩) (@wI _ _ _ _ _ (@qH _ _ 4 _ _ (by rfl) (by rfl) (by rfl))) (fun s' H' fp pn=>⟨(@QU _ _ _ _ _ _ _ (@QU _ _ _ _ _ _ _ (@qH _ _ 0 _ _ (by rfl) (by rfl) (by rfl)) (@Wu _ _ _ _ _ _ _ (@qH _ _ 1 _ _ (by rfl) (by rfl) (by rfl)) (@qH _ _ 2 _ _ (by rfl) (by rfl) (by rfl))) (by exact fun _ _=>rfl)) qG (by exact fun _ _=>rfl)),⟨(@zH _ _ _ _ _ _ hc (@QC _ _ _ _ _ (@QS _ _ 2 _ (show (["_law_found","_law_many","_law_long","_law_price"]:List Str).Nodup by decide +kernel) (by rfl) (by first |exact Or.inl rfl |exact Or.inr rfl) (by first |exact .inl rfl |exact .inr rfl |assumption)) (@QC _ _ _ _ _ (@QS _ _ 3 _ (show (["_law_found","_law_many","_law_long","_law_price"]:List Str).Nodup by decide +kernel) (by rfl) (by first |exact Or.inl rfl |exact Or.inr rfl) (by first |exact .inl rfl |exact .inr rfl |assumption)) WQ (by rfl)) (by rfl)) (by rfl) (by rfl)),(W3 (Qk (qc 2) (Qk (qc 3) W2))),TsOk.nil,rfl⟩,GsOk.nil⟩) (by intro _;rfl))) qF) V.n_sum (by rfl) (by rfl) (by rfl)) (by rfl) (by first |exact Or.inl rfl |exact Or.inr rfl) (by rfl) (by first |exact .inl rfl |exact .inr rfl |assumption)) (@qM _ _ _ _ _ _ (@qk _ _ _ _ _ 6 _ _ sc_law_least.nd wS (by rfl) (by first |exact Or.inl rfl |exact Or.inr rfl) (by rfl) (by first |exact .inl rfl |exact .inr rfl |assumption)) (@qM _ _ _ _ _ _ (@zf _ _ _ _ _ _ _ _ _ (@wI _ _ _ _ _ (@qH _ _ 4 _ _ (by rfl) (by rfl) (by rfl))) (@zH _ _ _ _ _ _ hc (@QC _ _ _ _ _ (@Q7 _ _ 7 _ sc_law_least.nd (by rfl) (by first |exact Or.inl rfl |exact Or.inr rfl) (by first |exact .inl rfl |exact .inr rfl |assumption)) (@QC _ _ _ _ _ (@Q7 _ _ 8 _ sc_law_least.nd (by rfl) (by first |exact Or.inl rfl |exact Or.inr rfl) (by first |exact .inl rfl |exact .inr rfl |assumption)) WQ (by rfl)) (by rfl)) (by rfl) (by rfl)) (@qM _ _ _ _ _ _ (@qk _ _ _ _ _ 9 _ _ sc_law_least.nd (@QU _ _ _ _ _ _ _ (@QU _ _ _ _ _ _ _ (@qH _ _ 2 _ _ (by rfl) (by rfl) (by rfl)) (@Wu _ _ _ _ _ _ _ (@qH _ _ 3 _ _ (by rfl) (by rfl) (by rfl)) (@qH _ _ 7 _ _ (by rfl) (by rfl) (by rfl))) (by exact fun _ _=>rfl)) qG (by exact fun _ _=>rfl)) (by rfl) (by first |exact Or.inl rfl |exact Or.inr rfl) (by rfl) (by first |exact .inl rfl |exact .inr rfl |assumption)) (@qS _ _ _ _ (@WO _ _ _ _ _ _ _ _ _ (@wE _ _ _ _ _ _ _ _ _ _ qA2 JF (@qH _ _ 9 _ _ (by rfl) (by rfl) (by rfl)) wS (by first |exact Qv _ |with_unfolding_all rfl)) (@qM _ _ _ _ _ _ (@qk _ _ _ _ _ 10 _ _ sc_law_least.nd (@qX _ _ _ _ _ _ (@Wi _ _ _ _ _ _ _ _ _ (@QG _ _ _ _ _ _ _ (@QU _ _ _ _ _ _ _ (@qH _ _ 9 _ _ (by rfl) (by rfl) (by rfl)) qG (by exact fun _ _=>rfl)) (@qH _ _ 8 _ _ (by rfl) (by rfl) (by rfl))) (@Wi _ _ _ _ _ _ _ _ _ (@WC _ _ _ _ _ _ _ (@qX _ _ _ _ _ _ (@qP _ _ _ _ _ _ _ (@qH _ _ 7 _ _ (by rfl) (by rfl) (by rfl)) qF)) (@QU _ _ _ _ _ _ _ (@qH _ _ 9 _ _ (by rfl) (by rfl) (by rfl)) qG (by exact fun _ _=>rfl))) qF))) (by rfl) (by first |exact Or.inl rfl |exact Or.inr rfl) (by rfl) (by first |exact .inl rfl |exact .inr rfl |assumption)) (@qS _ _ _ _ (@WO _ _ _ _ _ _ _ _ _ (@qAH _ _ _ _ (@Zq _ _ _ _ _ _ _ _ (@wE _ _ _ _ _ _ _ _ _ _ qDN qFl (@qH _ _ 6 _ _ (by rfl) (by rfl) (by rfl)) wS (by first |exact Qv _ |with_unfolding_all rfl)) (@Zg _ _ _ _ _ (@wE _ _ _ _ _ _ _ _ _ _ (qHD hu) qGI (@qH _ _ 10 _ _ (by rfl) (by rfl) (by rfl)) (@qH _ _ 6 _ _ (by rfl) (by rfl) (by rfl)) (by first |exact Qv _ |with_unfolding_all rfl))))) (@qS _ _ _ _ (@qk _ _ _ _ _ 6 _ _ sc_law_least.nd (@qH _ _ 10 _ _ (by rfl) (by rfl) (by rfl)) (by rfl) (by first |exact Or.inl rfl |exact Or.inr rfl) (by rfl) (by first |exact .inl rfl |exact .inr rfl |assumption))) Qo))) Qo))) (by intro _;rfl)) (@qS _ _ _ _ (@yU _ _ _ _ _ _ _ _ _ (@qH _ _ 2 _ _ (by rfl) (by rfl) (by rfl)) (@qX _ _ _ _ _ _ (@qP _ _ _ _ _ _ _ (@qH _ _ 5 _ _ (by rfl) (by rfl) (by rfl)) (@qP _ _ _ _ _ _ _ (@qH _ _ 6 _ _ (by rfl) (by rfl) (by rfl)) qF))) (by rfl) (by rfl) (by rfl) (by rfl) (by rfl) (by rfl))))))) (by intro _;rfl)) (@qS _ _ _ _ (@qj _ _ _ _ _ (@qH _ _ 2 _ _ (by rfl) (by rfl) (by rfl))))))
theorem sc_law_shows:FnScope ["_law_sorts_here","_law_cells","_law_thing","_law_heights","_law_one","_law_long","_law_price"] ["_law_sorts_here","_law_cells","_law_thing"] (qK wB):=⟨rfl,rfl,rfl,by decide +kernel,rfl,by decide +kernel,by decide +kernel⟩
theorem Jj (V:Env K mg a):DefG P w K mg base 3 "_law_shows" a.law_shows 3 (wa a):=by
 obtain ⟨fd,F⟩:=V.f_law_shows
 refine Q9 (B:=Wn a) F sc_law_shows (F.binds (ps:=["_law_sorts_here","_law_cells","_law_thing"]) fun _ _ _ _ _ _ us hl=>match us,hl with |[_,_,_],_=>rfl) V.m_law_shows (fun l st h=>qd h) (fun cdv A outer s H E hr hcm => ?_) (fun l s0 hl hn=>qb hl)
 have hu:=hr.units
 have hc:(wU (CXF P w) P w K mg base ["_law_sorts_here","_law_cells","_law_thing","_law_heights","_law_one","_law_long","_law_price"] "_law_shows" (qK wB) a.law_shows cdv A outer s H E).calm=true:=by show A.handled.isNone=true;rw [hcm (by omega)];rfl
 exact (@qM _ _ _ _ _ _ (@WO _ _ _ _ _ _ _ _ _ (@qAH _ _ _ _ (@Zq _ _ _ _ _ _ _ _ (@Ww _ _ _ _ _ (@We _ _ _ _ (@QK _ _ _ _ _ _ _ _ V.kit V.n_isinstance (@qP _ _ _ _ _ _ _ (@qH _ _ 2 _ _ (by rfl) (by rfl) (by rfl)) (@qP _ _ _ _ _ _ _ (@WM _ _ _ _ _ rfl V.n_tuple Boot.«tuple» (by decide) (by decide)) qF)) (by rfl) (by rfl) (by rfl)) (by intro _;rfl))) (@Zq _ _ _ _ _ _ _ _ (@wE _ _ _ _ _ _ _ _ _ _ (za hu) yb (@WF _ _ _ _ _ _ _ (@qP _ _ _ _ _ _ _ (@qH _ _ 2 _ _ (by rfl) (by rfl) (by rfl)) qF) V.n_len (by rfl) (by rfl) (by rfl)) (@qH _ _ 1 _ _ (by rfl) (by rfl) (by rfl)) (by first |exact Qv _ |with_unfolding_all rfl)) (@Zg _ _ _ _ _ (@Ww _ _ _ _ _ (@We _ _ _ _ (@YM _ _ _ _ _ _ _ (@yi _ _ _ _ _ _ _ _ _ (@ql _ _ _ _ (@Q0 _ _ _ _ _ _ _ ([]) (["_law_one"]) ([]) _ _ _ _ _ (by exact Qz rfl (by decide +kernel) rfl rfl trivial) (@wI _ _ _ _ _ (@qH _ _ 2 _ _ (by rfl) (by rfl) (by rfl))) (fun s' H' fp pn=>⟨(@qV _ _ _ _ _ _ _ _ _ ((Jg V).call (hr.mono (by omega)) (QI _)) (@qP _ _ _ _ _ _ _ (@qH _ _ 0 _ _ (by rfl) (by rfl) (by rfl)) qF) (by rfl) (by rfl)),⟨(@QS _ _ 0 _ (show (["_law_one"]:List Str).Nodup by decide +kernel) (by rfl) (by first |exact Or.inl rfl |exact Or.inr rfl) (by first |exact .inl rfl |exact .inr rfl |assumption)),(qc 0),TsOk.nil,rfl⟩,GsOk.nil⟩) (by intro _;rfl))) qF) V.n_all (by rfl) (by rfl) (by rfl)) (by intro _;rfl))))))) (@qS _ _ _ _ (@qj _ _ _ _ _ wS)) Qo) (@qM _ _ _ _ _ _ (@yn _ _ _ _ 3 _ _ _ sc_law_shows.nd (@QE _ _ _ _ _ (@qW _ _ _ _ _ _ _ _ qG qF)) (by rfl) (by first |exact Or.inl rfl |exact Or.inr rfl) (by rfl) (by first |exact .inl rfl |exact .inr rfl |assumption)) (@qM _ _ _ _ _ _ (@zf _ _ _ _ _ _ _ _ _ (@wI _ _ _ _ _ (@qH _ _ 2 _ _ (by rfl) (by rfl) (by rfl))) (@Q7 _ _ 4 _ sc_law_shows.nd (by rfl) (by first |exact Or.inl rfl |exact Or.inr rfl) (by first |exact .inl rfl |exact .inr rfl |assumption)) (@qS _ _ _ _ (@yU _ _ _ _ _ _ _ _ _ (@qH _ _ 3 _ _ (by rfl) (by rfl) (by rfl)) (@QG _ _ _ _ _ _ _ (@QU _ _ _ _ _ _ _ (@qH _ _ 3 _ _ (by rfl) (by rfl) (by rfl)) (@zc _ _ _ _ _ qG) (by exact fun _ _=>rfl)) (@qH _ _ 4 _ _ (by rfl) (by rfl) (by rfl))) (by rfl) (by rfl) (by rfl) (by rfl) (by rfl) (by rfl))) (by intro _;rfl)) (@qM _ _ _ _ _ _ (@zf _ _ _ _ _ _ _ _ _ (@wI _ _ _ _ _ (@qH _ _ 0 _ _ (by rfl) (by rfl) (by rfl))) (@zH _ _ _ _ _ _ hc (@QC _ _ _ _ _ (@Q7 _ _ 5 _ sc_law_shows.nd (by rfl) (by first |exact Or.inl rfl |exact Or.inr rfl) (by first |exact .inl rfl |exact .inr rfl |assumption)) (@QC _ _ _ _ _ (@Q7 _ _ 6 _ sc_law_shows.nd (by rfl) (by first |exact Or.inl rfl |exact Or.inr rfl) (by first |exact .inl rfl |exact .inr rfl |assumption)) WQ (by rfl)) (by rfl)) (by rfl) (by rfl)) (@qS _ _ _ _ (@WO _ _ _ _ _ _ _ _ _ (@wE _ _ _ _ _ _ _ _ _ _ (za hu) yb (@ql _ _ _ _ (@Q0 _ _ _ _ _ _ _ (["_law_price","_law_heights","_law_long"]) (["_law_at"]) ([6,3,5]) _ _ _ _ _ (by exact Qz rfl (by decide +kernel) rfl rfl ⟨⟨rfl,rfl⟩,⟨⟨rfl,rfl⟩,⟨⟨rfl,rfl⟩,trivial⟩⟩⟩) (@yO _ _ _ _ _ _ _ _ rfl V.n_range (@qP _ _ _ _ _ _ _ (@qH _ _ 5 _ _ (by rfl) (by rfl) (by rfl)) (@Wi _ _ _ _ _ _ _ _ _ (@QG _ _ _ _ _ _ _ (@qH _ _ 1 _ _ (by rfl) (by rfl) (by rfl)) qG) qF)) (by rfl) (by rfl)) (fun s' H' fp pn=>⟨(@qH _ _ 3 _ _ (by rfl) (by rfl) (by rfl)),⟨(@QS _ _ 3 _ (show (["_law_price","_law_heights","_law_long","_law_at"]:List Str).Nodup by decide +kernel) (by rfl) (by first |exact Or.inl rfl |exact Or.inr rfl) (by first |exact .inl rfl |exact .inr rfl |assumption)),(qc 3),(TsOk.cons (@wE _ _ _ _ _ _ _ _ _ _ qFp qFj (@Wu _ _ _ _ _ _ _ (@QU _ _ _ _ _ _ _ (@qH _ _ 1 _ _ (by rfl) (by rfl) (by rfl)) (@qH _ _ 3 _ _ (by rfl) (by rfl) (by rfl)) (by exact fun _ _=>rfl)) (@QU _ _ _ _ _ _ _ (@qH _ _ 1 _ _ (by rfl) (by rfl) (by rfl)) (@Wu _ _ _ _ _ _ _ (@qH _ _ 3 _ _ (by rfl) (by rfl) (by rfl)) (@qH _ _ 2 _ _ (by rfl) (by rfl) (by rfl))) (by exact fun _ _=>rfl))) (@qH _ _ 0 _ _ (by rfl) (by rfl) (by rfl)) (by first |exact Qv _ |with_unfolding_all rfl)) TsOk.nil),rfl⟩,GsOk.nil⟩) (by intro _;rfl))) (@ql _ _ _ _ (@QE _ _ _ _ _ qF)) (by first |exact Qv _ |with_unfolding_all rfl)) (@qS _ _ _ _ (@qj _ _ _ _ _ wS)) Qo)) (by intro _;rfl)) (@qS _ _ _ _ (@qj _ _ _ _ _ (@QU _ _ _ _ _ _ _ (@qH _ _ 3 _ _ (by rfl) (by rfl) (by rfl)) (@zc _ _ _ _ _ qG) (by exact fun _ _=>rfl))))))))
theorem sc_law_paper:FnScope ["_law_sorts_here","_law_cells","_law_best","_law_far","_law_heights"] ["_law_sorts_here","_law_cells"] (qK wJ):=⟨rfl,rfl,rfl,by decide +kernel,rfl,by decide +kernel,by decide +kernel⟩
theorem JO (V:Env K mg a):DefG P w K mg base 3 "_law_paper" a.law_paper 2 (Wr a):=by
 obtain ⟨fd,F⟩:=V.f_law_paper
 refine Q9 (B:=zu a) F sc_law_paper (F.binds (ps:=["_law_sorts_here","_law_cells"]) fun _ _ _ _ _ _ us hl=>match us,hl with |[_,_],_=>rfl) V.m_law_paper (fun l st h=>qd h) (fun cdv A outer s H E hr hcm => ?_) (fun l s0 hl hn=>qb hl)
 have hu:=hr.units
 have hc:(wU (CXF P w) P w K mg base ["_law_sorts_here","_law_cells","_law_best","_law_far","_law_heights"] "_law_paper" (qK wJ) a.law_paper cdv A outer s H E).calm=true:=by show A.handled.isNone=true;rw [hcm (by omega)];rfl
 exact (@qM _ _ _ _ _ _ (@yp _ _ _ _ _ _ _ _ _ _ ([]) (["_law_row"]) ([]) _ _ _ _ _ 2 sc_law_paper.nd (by exact Qz rfl (by decide +kernel) rfl rfl trivial) (@wI _ _ _ _ _ (@qV _ _ _ _ _ _ _ _ _ ((Jq V).call (hr.mono (by omega)) qg) (@qP _ _ _ _ _ _ _ (@qH _ _ 0 _ _ (by rfl) (by rfl) (by rfl)) (@qP _ _ _ _ _ _ _ (@qH _ _ 1 _ _ (by rfl) (by rfl) (by rfl)) qF)) (by rfl) (by rfl))) (fun s' H' fp pn=>⟨(@QU _ _ _ _ _ _ _ (@qH _ _ 0 _ _ (by rfl) (by rfl) (by rfl)) qG (by exact fun _ _=>rfl)),⟨(@QS _ _ 0 _ (show (["_law_row"]:List Str).Nodup by decide +kernel) (by rfl) (by first |exact Or.inl rfl |exact Or.inr rfl) (by first |exact .inl rfl |exact .inr rfl |assumption)),(qc 0),TsOk.nil,rfl⟩,GsOk.nil⟩) (by rfl) (by first |exact Or.inl rfl |exact Or.inr rfl) (by first |exact .inl rfl |exact .inr rfl |assumption) (by rfl) (by intro _;rfl)) (@qM _ _ _ _ _ _ (@qk _ _ _ _ _ 3 _ _ sc_law_paper.nd (@qE0 _ _ _ _ _ _ _ (@yi _ _ _ _ _ _ _ _ _ (@ql _ _ _ _ (@Q0 _ _ _ _ _ _ _ ([]) (["_law_row"]) ([]) _ _ _ _ _ (by exact Qz rfl (by decide +kernel) rfl rfl trivial) (@wI _ _ _ _ _ (@qH _ _ 2 _ _ (by rfl) (by rfl) (by rfl))) (fun s' H' fp pn=>⟨(@QU _ _ _ _ _ _ _ (@qH _ _ 0 _ _ (by rfl) (by rfl) (by rfl)) qG (by exact fun _ _=>rfl)),⟨(@QS _ _ 0 _ (show (["_law_row"]:List Str).Nodup by decide +kernel) (by rfl) (by first |exact Or.inl rfl |exact Or.inr rfl) (by first |exact .inl rfl |exact .inr rfl |assumption)),(qc 0),(TsOk.cons (@wE _ _ _ _ _ _ _ _ _ _ qA2 JF (@qH _ _ 0 _ _ (by rfl) (by rfl) (by rfl)) wS (by first |exact Qv _ |with_unfolding_all rfl)) TsOk.nil),rfl⟩,GsOk.nil⟩) (by intro _;rfl))) qF) V.n_max (by rfl) (by rfl) (by rfl)) (by rfl) (by first |exact Or.inl rfl |exact Or.inr rfl) (by rfl) (by first |exact .inl rfl |exact .inr rfl |assumption)) (@qM _ _ _ _ _ _ (@yp _ _ _ _ _ _ _ _ _ _ (["_law_far"]) (["_law_row"]) ([3]) _ _ _ _ _ 4 sc_law_paper.nd (by exact Qz rfl (by decide +kernel) rfl rfl ⟨⟨rfl,rfl⟩,trivial⟩) (@wI _ _ _ _ _ (@qH _ _ 2 _ _ (by rfl) (by rfl) (by rfl))) (fun s' H' fp pn=>⟨(@qHs _ _ _ _ _ _ _ _ _ (@wE _ _ _ _ _ _ _ _ _ _ qDN qFl (@qH _ _ 1 _ _ (by rfl) (by rfl) (by rfl)) wS (by first |exact Qv _ |with_unfolding_all rfl)) (@qH _ _ 0 _ _ (by rfl) (by rfl) (by rfl)) (@QU _ _ _ _ _ _ _ (@qH _ _ 1 _ _ (by rfl) (by rfl) (by rfl)) qG (by exact fun _ _=>rfl))),⟨(@QS _ _ 1 _ (show (["_law_far","_law_row"]:List Str).Nodup by decide +kernel) (by rfl) (by first |exact Or.inl rfl |exact Or.inr rfl) (by first |exact .inl rfl |exact .inr rfl |assumption)),(qc 1),TsOk.nil,rfl⟩,GsOk.nil⟩) (by rfl) (by first |exact Or.inl rfl |exact Or.inr rfl) (by first |exact .inl rfl |exact .inr rfl |assumption) (by rfl) (by intro _;rfl)) (@qS _ _ _ _ (@qj _ _ _ _ _ (@Y1 _ _ _ _ _ _ _ (@yi _ _ _ _ _ _ _ _ _ (@ql _ _ _ _ (@Q0 _ _ _ _ _ _ _ ([]) (["_law_one","_law_other"]) ([]) _ _ _ _ _ (by exact Qz rfl (by decide +kernel) rfl rfl trivial) (@qGa _ _ _ _ _ _ _ _ _ _ hc V.n_zip (@qAQ _ _ _ _ _ _ _ _ (@qD7 _ _ _ _ _ _ _ _ _ _ (@qH _ _ 4 _ _ (by rfl) (by rfl) (by rfl)) wV (@wQ _ _ _ _ (@zc _ _ _ _ _ qG))) (@qAQ _ _ _ _ _ _ _ _ (@qD7 _ _ _ _ _ _ _ _ _ _ (@qH _ _ 4 _ _ (by rfl) (by rfl) (by rfl)) (@wQ _ _ _ _ qG) wV) qF)) (by rfl) (by rfl) (by rfl)) (fun s' H' fp pn=>⟨(@Wu _ _ _ _ _ _ _ (@qH _ _ 1 _ _ (by rfl) (by rfl) (by rfl)) (@qH _ _ 0 _ _ (by rfl) (by rfl) (by rfl))),⟨(@zH _ _ _ _ _ _ hc (@QC _ _ _ _ _ (@QS _ _ 0 _ (show (["_law_one","_law_other"]:List Str).Nodup by decide +kernel) (by rfl) (by first |exact Or.inl rfl |exact Or.inr rfl) (by first |exact .inl rfl |exact .inr rfl |assumption)) (@QC _ _ _ _ _ (@QS _ _ 1 _ (show (["_law_one","_law_other"]:List Str).Nodup by decide +kernel) (by rfl) (by first |exact Or.inl rfl |exact Or.inr rfl) (by first |exact .inl rfl |exact .inr rfl |assumption)) WQ (by rfl)) (by rfl)) (by rfl) (by rfl)),(W3 (Qk (qc 0) (Qk (qc 1) W2))),TsOk.nil,rfl⟩,GsOk.nil⟩) (by intro _;rfl))) qF) V.n_tuple (by rfl) (by rfl) (by rfl)))))))
theorem sc_law_bent:FnScope ["_law_box_here","_law_paper_here","_law_at","_law_one","_law_odd_here","_law_some"] ["_law_box_here","_law_paper_here"] (qK wy):=⟨rfl,rfl,rfl,by decide +kernel,rfl,by decide +kernel,by decide +kernel⟩
theorem J6 (V:Env K mg a):DefG P w K mg base 4 "_law_bent" a.law_bent 2 (zE a):=by
 obtain ⟨fd,F⟩:=V.f_law_bent
 refine Q9 (B:=Zn a) F sc_law_bent (F.binds (ps:=["_law_box_here","_law_paper_here"]) fun _ _ _ _ _ _ us hl=>match us,hl with |[_,_],_=>rfl) V.m_law_bent (fun l st h=>qd h) (fun cdv A outer s H E hr hcm => ?_) (fun l s0 hl hn=>qb hl)
 have hu:=hr.units
 exact (@qM _ _ _ _ _ _ (@qk _ _ _ _ _ 2 _ _ sc_law_bent.nd (@qV _ _ _ _ _ _ _ _ _ ((qv V).call (hr.mono (by omega)) qg) (@qP _ _ _ _ _ _ _ (@qH _ _ 0 _ _ (by rfl) (by rfl) (by rfl)) (@Wi _ _ _ _ _ _ _ _ _ (@QG _ _ _ _ _ _ _ (@WF _ _ _ _ _ _ _ (@qP _ _ _ _ _ _ _ (@qH _ _ 1 _ _ (by rfl) (by rfl) (by rfl)) qF) V.n_len (by rfl) (by rfl) (by rfl)) qG) qF)) (by rfl) (by rfl)) (by rfl) (by first |exact Or.inl rfl |exact Or.inr rfl) (by rfl) (by first |exact .inl rfl |exact .inr rfl |assumption)) (@qM _ _ _ _ _ _ (@qk _ _ _ _ _ 3 _ _ sc_law_bent.nd (@QU _ _ _ _ _ _ _ (@WC _ _ _ _ _ _ _ (@qH _ _ 1 _ _ (by rfl) (by rfl) (by rfl)) (@qX _ _ _ _ _ _ (@qW _ _ _ _ _ _ _ _ qG qF))) (@qH _ _ 2 _ _ (by rfl) (by rfl) (by rfl)) (by exact fun _ _=>rfl)) (by rfl) (by first |exact Or.inl rfl |exact Or.inr rfl) (by rfl) (by first |exact .inl rfl |exact .inr rfl |assumption)) (@qM _ _ _ _ _ _ (@qk _ _ _ _ _ 4 _ _ sc_law_bent.nd (@QU _ _ _ _ _ _ _ (@ql _ _ _ _ (@QE _ _ _ _ _ (@Wi _ _ _ _ _ _ _ _ _ (@QG _ _ _ _ _ _ _ (@qH _ _ 3 _ _ (by rfl) (by rfl) (by rfl)) qG) (@Wi _ _ _ _ _ _ _ _ _ (@Wu _ _ _ _ _ _ _ (@qH _ _ 3 _ _ (by rfl) (by rfl) (by rfl)) qG) (@Wi _ _ _ _ _ _ _ _ _ (@Wu _ _ _ _ _ _ _ (@qH _ _ 3 _ _ (by rfl) (by rfl) (by rfl)) (@yN _ _ _ _ _ _ _ qG qG)) (@qW _ _ _ _ _ _ _ _ W4 (@qW _ _ _ _ _ _ _ _ wS (@qW _ _ _ _ _ _ _ _ QP (@Q2 _ _ _ _ _ _ _ _ (@qX _ _ _ _ _ _ (@qW _ _ _ _ _ _ _ _ qG qF)) (@Wi _ _ _ _ _ _ _ _ _ (@yN _ _ _ _ _ _ _ qG qG) (@qW _ _ _ _ _ _ _ _ qG (@Wi _ _ _ _ _ _ _ _ _ (@Wu _ _ _ _ _ _ _ qG (@qH _ _ 3 _ _ (by rfl) (by rfl) (by rfl))) qF)))))))))))) (@qV _ _ _ _ _ _ _ _ _ ((qv V).call (hr.mono (by omega)) qg) (@qP _ _ _ _ _ _ _ (@qH _ _ 0 _ _ (by rfl) (by rfl) (by rfl)) (@qW _ _ _ _ _ _ _ _ qG qF)) (by rfl) (by rfl)) (by exact fun _ _=>rfl)) (by rfl) (by first |exact Or.inl rfl |exact Or.inr rfl) (by rfl) (by first |exact .inl rfl |exact .inr rfl |assumption)) (@qM _ _ _ _ _ _ (@qk _ _ _ _ _ 5 _ _ sc_law_bent.nd (@ql _ _ _ _ (@QE _ _ _ _ _ (@Wi _ _ _ _ _ _ _ _ _ (@WC _ _ _ _ _ _ _ (@WC _ _ _ _ _ _ _ (@zU _ _ _ _ _ _ _ _ _ _ (@qH _ _ 1 _ _ (by rfl) (by rfl) (by rfl)) wV (@wQ _ _ _ _ (@qH _ _ 2 _ _ (by rfl) (by rfl) (by rfl)))) (@qX _ _ _ _ _ _ (@qP _ _ _ _ _ _ _ (@qH _ _ 4 _ _ (by rfl) (by rfl) (by rfl)) qF))) (@zU _ _ _ _ _ _ _ _ _ _ (@qH _ _ 1 _ _ (by rfl) (by rfl) (by rfl)) (@wQ _ _ _ _ (@QG _ _ _ _ _ _ _ (@qH _ _ 2 _ _ (by rfl) (by rfl) (by rfl)) qG)) wV)) (@Wi _ _ _ _ _ _ _ _ _ (@WC _ _ _ _ _ _ _ (@WC _ _ _ _ _ _ _ (@zU _ _ _ _ _ _ _ _ _ _ (@qH _ _ 1 _ _ (by rfl) (by rfl) (by rfl)) wV (@wQ _ _ _ _ (@qH _ _ 2 _ _ (by rfl) (by rfl) (by rfl)))) (@qX _ _ _ _ _ _ (@qP _ _ _ _ _ _ _ (@qH _ _ 4 _ _ (by rfl) (by rfl) (by rfl)) qF))) (@zU _ _ _ _ _ _ _ _ _ _ (@qH _ _ 1 _ _ (by rfl) (by rfl) (by rfl)) (@wQ _ _ _ _ (@QG _ _ _ _ _ _ _ (@qH _ _ 2 _ _ (by rfl) (by rfl) (by rfl)) qG)) wV)) (@Wi _ _ _ _ _ _ _ _ _ (@WC _ _ _ _ _ _ _ (@qH _ _ 1 _ _ (by rfl) (by rfl) (by rfl)) (@qX _ _ _ _ _ _ (@qW _ _ _ _ _ _ _ _ qG qF))) (@qAQ _ _ _ _ _ _ _ _ (@zU _ _ _ _ _ _ _ _ _ _ (@qH _ _ 1 _ _ (by rfl) (by rfl) (by rfl)) (@wQ _ _ _ _ qG) wV) qF)))))) (by rfl) (by first |exact Or.inl rfl |exact Or.inr rfl) (by rfl) (by first |exact .inl rfl |exact .inr rfl |assumption)) (@qS _ _ _ _ (@qj _ _ _ _ _ (@QU _ _ _ _ _ _ _ (@ql _ _ _ _ (@Zd _ _ _ _ _ _ _ (@qH _ _ 5 _ _ (by rfl) (by rfl) (by rfl)) (@ql _ _ _ _ (@QE _ _ _ _ _ (@Wt _ _ _ _ _ _ _ _ _ (@ql _ _ _ _ (@Jl _ _ _ _ _ _ V.n_list (@qH _ _ 1 _ _ (by rfl) (by rfl) (by rfl)) (by rfl) (by rfl) (by rfl))) (@qAQ _ _ _ _ _ _ _ _ (@qEr _ _ _ _ _ _ _ _ _ _ _ _ (@qH _ _ 1 _ _ (by rfl) (by rfl) (by rfl)) wV wV (@wQ _ _ _ _ (@zc _ _ _ _ _ qG))) (@qW _ _ _ _ _ _ _ _ wS (@Wt _ _ _ _ _ _ _ _ _ (@qV _ _ _ _ _ _ _ _ _ ((qB4 V).call (hr.mono (by omega)) qg) (@qP _ _ _ _ _ _ _ (@qH _ _ 0 _ _ (by rfl) (by rfl) (by rfl)) qF) (by rfl) (by rfl)) qF)))))))) (@qV _ _ _ _ _ _ _ _ _ ((qv V).call (hr.mono (by omega)) qg) (@qP _ _ _ _ _ _ _ (@qH _ _ 0 _ _ (by rfl) (by rfl) (by rfl)) (@qW _ _ _ _ _ _ _ _ qG qF)) (by rfl) (by rfl)) (by exact fun _ _=>rfl))))))))
theorem qB9 (V:Env K mg a):∀ C∈Qg a,PySem.W.mroIn K C (.ref a.BarError)=some true:=by
 intro C hC
 unfold Qg at hC
 rcases List.mem_cons.mp hC with rfl |hC
 ·exact V.e_NoSorts
 rcases List.mem_cons.mp hC with rfl |hC
 ·exact V.e_NoNumber
 cases hC
theorem sc_law_asked:FnScope ["_law_sorts_here","_law_cells","_law_thing","_law_e"] ["_law_sorts_here","_law_cells","_law_thing"] (qK wK):=⟨rfl,rfl,rfl,by decide +kernel,rfl,by decide +kernel,by decide +kernel⟩
theorem zz (V:Env K mg a):DefG P w K mg base 8 "_law_asked" a.law_asked 3 (Qj a):=by
 obtain ⟨fd,F⟩:=V.f_law_asked
 obtain ⟨_,_,_,o_BarError⟩:=V.o_BarError
 refine Q9 (B:=Wm a) F sc_law_asked (F.binds (ps:=["_law_sorts_here","_law_cells","_law_thing"]) fun _ _ _ _ _ _ us hl=>match us,hl with |[_,_,_],_=>rfl) V.m_law_asked (fun l st h=>qd h) (fun cdv A outer s H E hr hcm => ?_) (fun l s0 hl hn=>qb hl)
 have hu:=hr.units
 have hc:(wU (CXF P w) P w K mg base ["_law_sorts_here","_law_cells","_law_thing","_law_e"] "_law_asked" (qK wK) a.law_asked cdv A outer s H E).calm=true:=by show A.handled.isNone=true;rw [hcm (by omega)];rfl
 exact (@qS _ _ _ _ (@qGD _ _ _ _ _ _ _ _ _ _ _ _ _ _ _ _ _ 3 ⟨rfl,rfl,rfl⟩ hc sc_law_asked.nd rfl V.k_BarError o_BarError V.b_BarError (qB9 V) (fun pins xe E' hp=>(@qS _ _ _ _ (@qj _ _ _ _ _ (@qV _ _ _ _ _ _ _ _ _ ((Zk V).call (hr.mono (by omega)) hp) (@qP _ _ _ _ _ _ _ (@qH _ _ 0 _ _ (by rfl) (by rfl) (by rfl)) (@qP _ _ _ _ _ _ _ (@qH _ _ 1 _ _ (by rfl) (by rfl) (by rfl)) (@qP _ _ _ _ _ _ _ (@qH _ _ 2 _ _ (by rfl) (by rfl) (by rfl)) qF))) (by rfl) (by rfl))))) (fun ea=>(@qS _ _ _ _ (@qj _ _ _ _ _ (@qV _ _ _ _ _ _ _ _ _ ((qAp V).call (qEh hr) (QI _)) (@qP _ _ _ _ _ _ _ (@qH _ _ 3 _ _ (by rfl) (by rfl) (by rfl)) qF) (by rfl) (by rfl))))) (by rfl) (by rfl) (by decide)))
theorem sc_law:FnScope ["_law_script","_law_k","_law_box_here","_law_sorts_here","_law_cells","_law_paper_here","_law_thing","_law_held","_law_found","_law_odd_here","_law_bad"] ["_law_script"] (qK zW):=⟨rfl,rfl,rfl,by decide +kernel,rfl,by decide +kernel,by decide +kernel⟩
theorem qH4 {fd:FuncData} (V:Env K mg a) (F:Fun K "law" "law" zW a.law fd):FnOk P w K mg base (CXF P w) 9 a.law fd ["_law_script"] (spG K 1 (j5 a)):=by
 refine okV F sc_law fun cdv A outer s H E hr hcm=>⟨qFZ a,?_,fun l s0 hl hn=>qb hl⟩
 have hu:=hr.units
 have hc:(wU (CXF P w) P w K mg base ["_law_script","_law_k","_law_box_here","_law_sorts_here","_law_cells","_law_paper_here","_law_thing","_law_held","_law_found","_law_odd_here","_law_bad"] "law" (qK zW) a.law cdv A outer s H E).calm=true:=by show A.handled.isNone=true;rw [hcm (by omega)];rfl
 exact (@qM _ _ _ _ _ _ (@zf _ _ _ _ _ _ _ _ _ (@zA _ _ _ _ _ _ _ rfl V.n_range (@Wt _ _ _ _ _ _ _ _ _ (@qEU _ _ _ _ _ _ _ (@qW _ _ _ _ _ _ _ _ qG (@Wt _ _ _ _ _ _ _ _ _ (@qEP _ _ _ _ _ _ _ (@Wt _ _ _ _ _ _ _ _ _ (@WF _ _ _ _ _ _ _ (@qP _ _ _ _ _ _ _ (@qH _ _ 0 _ _ (by rfl) (by rfl) (by rfl)) qF) V.n_len (by rfl) (by rfl) (by rfl)) (@qW _ _ _ _ _ _ _ _ qG qF)) hc V.n_min (by rfl) (by rfl) (by rfl)) qF)) hc V.n_max (by rfl) (by rfl) (by rfl)) qF) (by rfl)) (@Q7 _ _ 1 _ sc_law.nd (by rfl) (by first |exact Or.inl rfl |exact Or.inr rfl) (by first |exact .inl rfl |exact .inr rfl |assumption)) (@qM _ _ _ _ _ _ (@qk _ _ _ _ _ 2 _ _ sc_law.nd (@qV _ _ _ _ _ _ _ _ _ ((qBf V).call (hr.mono (by omega)) (QI _)) (@qP _ _ _ _ _ _ _ (@qH _ _ 0 _ _ (by rfl) (by rfl) (by rfl)) (@qP _ _ _ _ _ _ _ (@qH _ _ 1 _ _ (by rfl) (by rfl) (by rfl)) qF)) (by rfl) (by rfl)) (by rfl) (by first |exact Or.inl rfl |exact Or.inr rfl) (by rfl) (by first |exact .inl rfl |exact .inr rfl |assumption)) (@qM _ _ _ _ _ _ (@qk _ _ _ _ _ 3 _ _ sc_law.nd (@qV _ _ _ _ _ _ _ _ _ ((ju V).call (hr.mono (by omega)) (QI _)) (@qP _ _ _ _ _ _ _ (@qH _ _ 2 _ _ (by rfl) (by rfl) (by rfl)) qF) (by rfl) (by rfl)) (by rfl) (by first |exact Or.inl rfl |exact Or.inr rfl) (by rfl) (by first |exact .inl rfl |exact .inr rfl |assumption)) (@qM _ _ _ _ _ _ (@qk _ _ _ _ _ 4 _ _ sc_law.nd (@qV _ _ _ _ _ _ _ _ _ ((qv V).call (hr.mono (by omega)) (QI _)) (@qP _ _ _ _ _ _ _ (@qH _ _ 2 _ _ (by rfl) (by rfl) (by rfl)) (@qAQ _ _ _ _ _ _ _ _ (@QU _ _ _ _ _ _ _ (@ql _ _ _ _ (@QE _ _ _ _ _ (@qW _ _ _ _ _ _ _ _ qG (@qW _ _ _ _ _ _ _ _ qG (@qW _ _ _ _ _ _ _ _ qG qF))))) (@qV _ _ _ _ _ _ _ _ _ ((qv V).call (hr.mono (by omega)) (QI _)) (@qP _ _ _ _ _ _ _ (@qH _ _ 2 _ _ (by rfl) (by rfl) (by rfl)) (@qW _ _ _ _ _ _ _ _ qG qF)) (by rfl) (by rfl)) (by exact fun _ _=>rfl)) qF)) (by rfl) (by rfl)) (by rfl) (by first |exact Or.inl rfl |exact Or.inr rfl) (by rfl) (by first |exact .inl rfl |exact .inr rfl |assumption)) (@qM _ _ _ _ _ _ (@qk _ _ _ _ _ 5 _ _ sc_law.nd (@qV _ _ _ _ _ _ _ _ _ ((JO V).call (hr.mono (by omega)) (QI _)) (@qP _ _ _ _ _ _ _ (@qH _ _ 3 _ _ (by rfl) (by rfl) (by rfl)) (@qP _ _ _ _ _ _ _ (@qH _ _ 4 _ _ (by rfl) (by rfl) (by rfl)) qF)) (by rfl) (by rfl)) (by rfl) (by first |exact Or.inl rfl |exact Or.inr rfl) (by rfl) (by first |exact .inl rfl |exact .inr rfl |assumption)) (@qM _ _ _ _ _ _ (@zf _ _ _ _ _ _ _ _ _ (@wI _ _ _ _ _ (@ql _ _ _ _ (@Zd _ _ _ _ _ _ _ (@ql _ _ _ _ (@QE _ _ _ _ _ (@qP _ _ _ _ _ _ _ (@qH _ _ 5 _ _ (by rfl) (by rfl) (by rfl)) (@Wi _ _ _ _ _ _ _ _ _ (@qCb _ _ _ _ _ _ _ (@qX _ _ _ _ _ _ (@qW _ _ _ _ _ _ _ _ qG qF)) (@qH _ _ 4 _ _ (by rfl) (by rfl) (by rfl))) qF)))) (@ql _ _ _ _ (@Q0 _ _ _ _ _ _ _ (["_law_box_here","_law_paper_here"]) (["_law_turn"]) ([2,5]) _ _ _ _ _ (by exact Qz rfl (by decide +kernel) rfl rfl ⟨⟨rfl,rfl⟩,⟨⟨rfl,rfl⟩,trivial⟩⟩) (@zA _ _ _ _ _ _ _ rfl V.n_range (@qW _ _ _ _ _ _ _ _ qG qF) (by rfl)) (fun s' H' fp pn=>⟨(@qV _ _ _ _ _ _ _ _ _ ((J6 V).call (hr.mono (by omega)) (QI _)) (@qP _ _ _ _ _ _ _ (@qH _ _ 0 _ _ (by rfl) (by rfl) (by rfl)) (@qP _ _ _ _ _ _ _ (@qH _ _ 1 _ _ (by rfl) (by rfl) (by rfl)) qF)) (by rfl) (by rfl)),⟨(@QS _ _ 2 _ (show (["_law_box_here","_law_paper_here","_law_turn"]:List Str).Nodup by decide +kernel) (by rfl) (by first |exact Or.inl rfl |exact Or.inr rfl) (by first |exact .inl rfl |exact .inr rfl |assumption)),(qc 2),TsOk.nil,rfl⟩,GsOk.nil⟩) (by intro _;rfl)))))) (@Q7 _ _ 6 _ sc_law.nd (by rfl) (by first |exact Or.inl rfl |exact Or.inr rfl) (by first |exact .inl rfl |exact .inr rfl |assumption)) (@qM _ _ _ _ _ _ (@qk _ _ _ _ _ 7 _ _ sc_law.nd (@qAt _ _ _ _ _ _ _ hr.gd hu (@qP _ _ _ _ _ _ _ (@qH _ _ 6 _ _ (by rfl) (by rfl) (by rfl)) qF) V.n_repr (by rfl) (by rfl) (by rfl)) (by rfl) (by first |exact Or.inl rfl |exact Or.inr rfl) (by rfl) (by first |exact .inl rfl |exact .inr rfl |assumption)) (@qM _ _ _ _ _ _ (@qk _ _ _ _ _ 8 _ _ sc_law.nd (@qV _ _ _ _ _ _ _ _ _ ((zz V).call (hr.mono (by omega)) (QI _)) (@qP _ _ _ _ _ _ _ (@qH _ _ 3 _ _ (by rfl) (by rfl) (by rfl)) (@qP _ _ _ _ _ _ _ (@qH _ _ 4 _ _ (by rfl) (by rfl) (by rfl)) (@qP _ _ _ _ _ _ _ (@qH _ _ 6 _ _ (by rfl) (by rfl) (by rfl)) qF))) (by rfl) (by rfl)) (by rfl) (by first |exact Or.inl rfl |exact Or.inr rfl) (by rfl) (by first |exact .inl rfl |exact .inr rfl |assumption)) (@qS _ _ _ _ (@WO _ _ _ _ _ _ _ _ _ (@qAH _ _ _ _ (@Zq _ _ _ _ _ _ _ _ (@Ww _ _ _ _ _ (@We _ _ _ _ (@qV _ _ _ _ _ _ _ _ _ ((qAf V).call (hr.mono (by omega)) (QI _)) (@qP _ _ _ _ _ _ _ (@qH _ _ 8 _ _ (by rfl) (by rfl) (by rfl)) (@Wt _ _ _ _ _ _ _ _ _ (@qV _ _ _ _ _ _ _ _ _ ((Jj V).call (hr.mono (by omega)) (QI _)) (@qP _ _ _ _ _ _ _ (@qH _ _ 3 _ _ (by rfl) (by rfl) (by rfl)) (@qP _ _ _ _ _ _ _ (@qH _ _ 4 _ _ (by rfl) (by rfl) (by rfl)) (@qP _ _ _ _ _ _ _ (@qH _ _ 6 _ _ (by rfl) (by rfl) (by rfl)) qF))) (by rfl) (by rfl)) qF)) (by rfl) (by rfl)) (by intro _;rfl))) (@Zg _ _ _ _ _ (@wE _ _ _ _ _ _ _ _ _ _ (za hu) yb (@qAt _ _ _ _ _ _ _ hr.gd hu (@qP _ _ _ _ _ _ _ (@qH _ _ 6 _ _ (by rfl) (by rfl) (by rfl)) qF) V.n_repr (by rfl) (by rfl) (by rfl)) (@qH _ _ 7 _ _ (by rfl) (by rfl) (by rfl)) (by first |exact Qv _ |with_unfolding_all rfl))))) (@qS _ _ _ _ (@qj _ _ _ _ _ W4)) Qo)))) (by intro _;rfl)) (@qM _ _ _ _ _ _ (@qk _ _ _ _ _ 9 _ _ sc_law.nd (@qV _ _ _ _ _ _ _ _ _ ((YZ V).call (hr.mono (by omega)) (QI _)) (@qP _ _ _ _ _ _ _ (@qH _ _ 2 _ _ (by rfl) (by rfl) (by rfl)) qF) (by rfl) (by rfl)) (by rfl) (by first |exact Or.inl rfl |exact Or.inr rfl) (by rfl) (by first |exact .inl rfl |exact .inr rfl |assumption)) (@qM _ _ _ _ _ _ (@qk _ _ _ _ _ 10 _ _ sc_law.nd (@qV _ _ _ _ _ _ _ _ _ ((YD V).call (hr.mono (by omega)) (QI _)) (@qP _ _ _ _ _ _ _ (@qH _ _ 2 _ _ (by rfl) (by rfl) (by rfl)) (@qP _ _ _ _ _ _ _ (@qH _ _ 3 _ _ (by rfl) (by rfl) (by rfl)) qF)) (by rfl) (by rfl)) (by rfl) (by first |exact Or.inl rfl |exact Or.inr rfl) (by rfl) (by first |exact .inl rfl |exact .inr rfl |assumption)) (@qS _ _ _ _ (@WO _ _ _ _ _ _ _ _ _ (@qAH _ _ _ _ (@Zq _ _ _ _ _ _ _ _ (@wE _ _ _ _ _ _ _ _ _ _ (za hu) yb (@qV _ _ _ _ _ _ _ _ _ ((zz V).call (hr.mono (by omega)) (QI _)) (@qP _ _ _ _ _ _ _ (@qH _ _ 10 _ _ (by rfl) (by rfl) (by rfl)) (@qP _ _ _ _ _ _ _ (@qH _ _ 9 _ _ (by rfl) (by rfl) (by rfl)) (@qP _ _ _ _ _ _ _ (@qH _ _ 5 _ _ (by rfl) (by rfl) (by rfl)) qF))) (by rfl) (by rfl)) QP (by first |exact Qv _ |with_unfolding_all rfl)) (@Zg _ _ _ _ _ (@wE _ _ _ _ _ _ _ _ _ _ (za hu) yb (@qV _ _ _ _ _ _ _ _ _ ((zz V).call (hr.mono (by omega)) (QI _)) (@qP _ _ _ _ _ _ _ (@qH _ _ 3 _ _ (by rfl) (by rfl) (by rfl)) (@qP _ _ _ _ _ _ _ (@qH _ _ 9 _ _ (by rfl) (by rfl) (by rfl)) (@qP _ _ _ _ _ _ _ (@qH _ _ 5 _ _ (by rfl) (by rfl) (by rfl)) qF))) (by rfl) (by rfl)) QP (by first |exact Qv _ |with_unfolding_all rfl))))) (@qS _ _ _ _ (@qj _ _ _ _ _ W4)) Qo))))))))) (by intro _;rfl)) (@qS _ _ _ _ (@qj _ _ _ _ _ W4)))
end
end K87
end
section
namespace EV
open PySem L2 EX
theorem WG {G:qC->Prop} {k:PV->qC->Rs (List PV)} {st:qC} (hG:G st) {F:PV->List PV}:∀ {l:List PV},(∀ p∈l,k p st = .ok (F p) st)->qi G k l st = .ok (l.flatMap F) st
 |[],_=>by unfold qi;rw [if_pos hG];rfl
 |p::l,h=>by
  unfold qi
  rw [if_pos hG,h p List.mem_cons_self]
  show (qi G k l st).bind _=_
  rw [WG hG fun q hq=>h q (List.mem_cons_of_mem _ hq)]
  rfl
theorem zw {F:PV->PV}:∀ l:List PV,l.flatMap (fun p=>[F p])=l.map F
 |[]=>rfl
 |p::l=>by rw [List.flatMap_cons,zw l];rfl
theorem zp {c:PV->Bool}:∀ l:List PV,l.flatMap (fun p=>if c p=true then [p] else [])=l.filter c
 |[]=>rfl
 |p::l=>by
  rw [List.flatMap_cons,zp l,List.filter_cons]
  cases c p <;> rfl
theorem QW {caps:List Nat} {n:Nat} {fi:FI} {g:FG} {f:FE} {r:q9} {st:qC} {w:ItP} {F:PV->PV} (hfi:fi r st = .ok w st) (hG:w.G st) (hl:w.l.length≤sizeLine)
  (h:∀ p∈w.l,∃ r',g p (Wc caps n r)=some r'∧f r' st = .ok (F p) st):qm caps n fi g [] [] f r st = .ok (w.l.map F) st:=by
 unfold qm
 rw [hfi]
 show (match qi w.G (Qd ⟨fi,g,[]⟩ (Qn [] f) (Wc caps n r)) w.l st with | .ok l s'=>if l.length≤sizeLine then Rs.ok l s' else Rs.no |_=>Rs.no)=_
 rw [WG (F:=fun p=>[F p]) hG fun p hp=>by
  obtain ⟨r',h1,h2⟩:=h p hp
  unfold Qd
  show (match g p (Wc caps n r) with |none=>_ |some r'=>_)=_
  rw [h1]
  show (Qn [] f) r' st=_
  unfold Qn
  rw [h2];rfl]
 rw [zw]
 dsimp only
 rw [if_pos (by rw [List.length_map];exact hl)]
theorem jc {caps:List Nat} {n:Nat} {fi:FI} {g:FG} {t:FT} {f:FE} {r:q9} {st:qC} {w:ItP} {c:PV->Bool} (hfi:fi r st = .ok w st) (hG:w.G st) (hl:w.l.length≤sizeLine)
  (h:∀ p∈w.l,∃ r',g p (Wc caps n r)=some r'∧t r' st = .ok (c p) st∧f r' st = .ok p st):qm caps n fi g [t] [] f r st = .ok (w.l.filter c) st:=by
 unfold qm
 rw [hfi]
 show (match qi w.G (Qd ⟨fi,g,[t]⟩ (Qn [] f) (Wc caps n r)) w.l st with | .ok l s'=>if l.length≤sizeLine then Rs.ok l s' else Rs.no |_=>Rs.no)=_
 rw [WG (F:=fun p=>if c p=true then [p] else []) hG fun p hp=>by
  obtain ⟨r',h1,h2,h3⟩:=h p hp
  unfold Qd
  show (match g p (Wc caps n r) with |none=>_ |some r'=>_)=_
  rw [h1]
  show (wz [t] r' st).bind _=_
  unfold wz wz
  rw [h2]
  cases hc:c p
  ·rfl
  ·show (Qn [] f) r' st=_
   unfold Qn
   rw [h3];rfl]
 rw [zp]
 dsimp only
 rw [if_pos (Nat.le_trans (List.length_filter_le _ _) hl)]
theorem Yv {G:qC->Prop} {g:FG} {F:FS} {r:q9} {st:qC} (h:G st):Qs G g F [] r st = .nx r st:=by unfold Qs;rw [if_pos h]
theorem YG {G:qC->Prop} {g:FG} {F:FS} {r r1 r2:q9} {st s2:qC} {p:PV} {ps:List PV} (h:G st) (h1:g p r=some r1) (h2:F r1 st = .nx r2 s2):Qs G g F (p::ps) r st=Qs G g F ps r2 s2:=by
 rw [Qs,if_pos h,h1]
 dsimp only
 rw [h2]
section
variable {F G:FS} {f:FE} {fl:FL} {fi:FI} {g:FG} {t:FT} {r r':q9} {st st':qC} {p:PV} {l:List PV} {w:ItP} {i:Nat}
theorem Qm (h:F r st = .nx r' st'):qR F G r st=G r' st':=by unfold qR;rw [h]
theorem qAi (h:F r st = .rt p st'):qR F G r st = .rt p st':=by unfold qR;rw [h]
theorem qGX {x:Exc} (h:F r st = .ex x st'):qR F G r st = .ex x st':=by unfold qR;rw [h]
theorem qHC {x:Exc} (h:f r st = .ex x st'):zO f r st = .ex x st':=by unfold zO;rw [h];rfl
theorem qEs {x:Exc} {n N:Nat} {B:FS} (hl:l.length=n) (h:B (QV N l) st = .ex x st'):QB n N B l st = .ex x st':=by unfold QB;rw [if_pos hl,h];rfl
theorem qGu (h:f r st = .ok p st'):zO f r st = .nx r st':=by unfold zO;rw [h];rfl
theorem wt (h:f r st = .ok p st'):qY i f r st = .nx (r.set i (some p)) st':=by unfold qY;rw [h];rfl
theorem qFE (h:fl r st = .ok l st'):ZH i fl r st = .nx (r.set i (some (.ref st'.length))) (st'++[.l l]):=by unfold ZH;rw [h];rfl
theorem ja (h:f r st = .ok p st'):qr f r st = .rt p st':=by unfold qr;rw [h];rfl
theorem qBS (h:fl r st = .ok l st'):yv fl r st = .rt (.ref st'.length) (st'++[.l l]):=by unfold yv;rw [h];rfl
theorem qCp (h:fi r st = .ok w st'):WN fi g F r st=Qs w.G g F w.l r st':=by unfold WN;rw [h];rfl
theorem qFw (h:t r st = .ok true st'):wN t F G r st=F r st':=by unfold wN;rw [h];rfl
theorem qCT (h:t r st = .ok false st'):wN t F G r st=G r st':=by unfold wN;rw [h];rfl
theorem zX (h:fl r st = .ok l st'):vFz fl r st = .ok (.lst l) st':=by unfold vFz;rw [h];rfl
theorem wj {k:List PV->qC->Rs PV} {fa:FA} (h:fa r st = .ok l st'):qI k fa r st=k l st':=by unfold qI;rw [h];rfl
theorem qq {fa:FA} {st2:qC} (h:f r st = .ok p st') (h2:fa r st' = .ok l st2):qA f fa r st = .ok (p::l) st2:=by unfold qA;rw [h];show (fa r st').bind _=_;rw [h2];rfl
theorem QJ {k:PV->PV->qC->Rs PV} {fb:FE} {q:PV} {st2:qC} (h:f r st = .ok p st') (h2:fb r st' = .ok q st2):qL k f fb r st=k p q st2:=by unfold qL;rw [h];show (fb r st').bind _=_;rw [h2];rfl
theorem yJ {b:Bool} (h:f r st = .ok (.bl b) st'):Qw f r st = .ok b st':=by unfold Qw;rw [h];rfl
theorem qAI {b:Bool} (h:t r st = .ok b st'):WP t r st = .ok (!b) st':=by unfold WP;rw [h];rfl
theorem Yh {b:Bool} (h:f r st = .ok (.bl b) st'):vTB f r st = .ok b st':=by unfold vTB;rw [h];rfl
theorem WR {n N:Nat} {B:FS} (hl:l.length=n) (h:B (QV N l) st = .rt p st'):QB n N B l st = .ok p st':=by unfold QB;rw [if_pos hl,h];rfl
end
section
variable {F G:FS} {f fb fo fi2:FE} {fl:FL} {fi:FI} {fa:FA} {g:FG} {t u:FT} {r r1 r':q9} {st s1 s2 s3:qC} {p q z:PV} {l m:List PV} {w:ItP} {i:Nat} {b c:Bool} {x:Exc} {o:RS} {R:Rs PV}
theorem qT {k:PV->PV->qC->Rs PV} (h:f r st = .ok p s1) (h2:fb r s1 = .ok q s2) (h3:k p q s2=R):qL k f fb r st=R:=by rw [QJ h h2];exact h3
theorem qN {k:List PV->qC->Rs PV} (h:fa r st = .ok l s1) (h2:k l s1=R):qI k fa r st=R:=by rw [wj h];exact h2
theorem qa:qD r st = .ok [] st:=rfl
theorem qJ (h:f r st = .ok p s1) (h2:fa r s1 = .ok l s2):qA f fa r st = .ok (p::l) s2:=qq h h2
theorem wG (h:fa r st = .ok l s1) (hl:l.length≤sizeLine):qt fa r st = .ok (.tup l) s1:=by unfold qt;rw [h];exact if_pos hl
theorem ZW (h:fa r st = .ok l s1) (hl:l.length≤sizeLine):Qt fa r st = .ok l s1:=by unfold Qt;rw [h];exact if_pos hl
theorem wf (h:fl r st = .ok l s1):vFz fl r st = .ok (.lst l) s1:=zX h
theorem Jk (h:f r st = .ok p s1) (h2:fb r s1 = .ok q s2) (e1:asL s2 p=some l) (e2:asL s2 q=some m) (hl:l.length + m.length≤sizeLine):Z4 f fb r st = .ok (l++m) s2:=by
 unfold Z4;rw [h];show (fb r s1).bind _=_;rw [h2];show (match asL s2 p with |some l=>_ |none=>_)=_;rw [e1];dsimp only;rw [e2];dsimp only;rw [if_pos hl]
theorem qo (h:f r st = .ok (.bl b) s1):Qw f r st = .ok b s1:=yJ h
theorem Wx (h:f r st = .ok (.bl b) s1):vTB f r st = .ok b s1:=Yh h
theorem w_not (h:t r st = .ok b s1):WP t r st = .ok (!b) s1:=qAI h
theorem Wz (h:t r st = .ok true s1):W5 t u r st = .ok true s1:=by unfold W5;rw [h];rfl
theorem w5 (h:t r st = .ok false s1) (h2:u r s1 = .ok b s2):W5 t u r st = .ok b s2:=by unfold W5;rw [h];exact h2
theorem qh (h:F r st = .nx r' s1) (h2:G r' s1=o):qR F G r st=o:=by rw [Qm h];exact h2
theorem Q3 (h:F r st = .rt p s1):qR F G r st = .rt p s1:=qAi h
theorem JB (h:F r st = .ex x s1):qR F G r st = .ex x s1:=qGX h
theorem Qb (h:f r st = .ok p s1):qY i f r st = .nx (r.set i (some p)) s1:=wt h
theorem jR (h:fl r st = .ok l s1):ZH i fl r st = .nx (r.set i (some (.ref s1.length))) (s1++[.l l]):=qFE h
theorem qAM (h:f r st = .ok p s1):zO f r st = .nx r s1:=qGu h
theorem Yz (h:f r st = .ex x s1):zO f r st = .ex x s1:=qHC h
theorem Qq (h:f r st = .ok p s1):qr f r st = .rt p s1:=ja h
theorem qCZ (h:f r st = .ex x s1):qr f r st = .ex x s1:=by unfold qr;rw [h];rfl
theorem wW (h:t r st = .ok true s1) (h2:F r s1=o):wN t F G r st=o:=by rw [qFw h];exact h2
theorem w6 (h:t r st = .ok false s1) (h2:G r s1=o):wN t F G r st=o:=by rw [qCT h];exact h2
theorem qE2 (h:t r st = .ok true s1) (h2:f r s1=R):vIf t f fb r st=R:=by unfold vIf;rw [h];exact h2
theorem qEV (h:t r st = .ok false s1) (h2:fb r s1=R):vIf t f fb r st=R:=by unfold vIf;rw [h];exact h2
theorem YB (h:fi r st = .ok w s1) (h2:Qs w.G g F w.l r s1=o):WN fi g F r st=o:=by rw [qCp h];exact h2
theorem wY {Gd:qC->Prop} (h:Gd st):Qs Gd g F [] r st = .nx r st:=Yv h
theorem ZL {Gd:qC->Prop} {ps:List PV} (h:Gd st) (h1:g p r=some r1) (h2:F r1 st = .nx r' s2) (h3:Qs Gd g F ps r' s2=o):Qs Gd g F (p::ps) r st=o:=by rw [YG h h1 h2];exact h3
theorem qIH {r1:q9} (h:f r st = .ok p s1) (h2:g p r=some r1):qBI f g r st = .nx r1 s1:=by unfold qBI;rw [h];show (match g p r with |some r'=>RS.nx r' s1 |none=>RS.no)=_;rw [h2]
theorem Qe {n N:Nat} {B:FS} (hl:l.length=n) (h:B (QV N l) st = .rt p s1):QB n N B l st = .ok p s1:=WR hl h
theorem qCF {n N:Nat} {B:FS} (hl:l.length=n) (h:B (QV N l) st = .nx r1 s1):QB n N B l st = .ok .non s1:=by unfold QB;rw [if_pos hl,h];rfl
theorem yL {n N:Nat} {B:FS} (hl:l.length=n) (h:B (QV N l) st = .ex x s1):QB n N B l st = .ex x s1:=qEs hl h
theorem sz {n:Nat} (h:Nat.ble n 1000=true):n≤sizeLine:=Nat.le_trans (Nat.le_of_ble_eq_true h) (by decide)
theorem Z1 {i j:Int}:qz (.int i) (.int j) st = .ok (.int (i + j)) st:=rfl
theorem W0 {i j:Int}:WL (.int i) (.int j) st = .ok (.int (i - j)) st:=rfl
theorem w_lt {i j:Int}:gLt (.int i) (.int j) st = .ok (.bl (decide (i < j))) st:=rfl
theorem qF4 {i j:Int}:gLe (.int i) (.int j) st = .ok (.bl (decide (i≤j))) st:=rfl
theorem qHr {i j:Int}:gGt (.int i) (.int j) st = .ok (.bl (decide (i > j))) st:=rfl
theorem YE {i:Int} (h:zM st p=some l) (h2:atI l i=some z):gIx p (.int i) st = .ok z st:=by unfold gIx;simp only [h,h2]
theorem ZI (h:zM st p=some l) {n:Int} (hn:(l.length:Int)=n):W7 [p] st = .ok (.int n) st:=by unfold W7;simp only [h];rw [hn]
theorem JX {n:Nat} (h:st[n]? = some (.l l)):zM st (.ref n)=some l:=by unfold zM asL;simp only [h]
theorem qCN {n:Nat} (h:st[n]? = some (.l l)):asL st (.ref n)=some l:=by unfold asL;simp only [h]
theorem qFk {n:Nat} (h:r[n]? = some (some p)):qB n r st = .ok p st:=by unfold qB;rw [h]
theorem yw {n:Nat} (h:fo r st = .ok (.ref n) s1) (hk:lk s1 (.ref n)=true) (h2:f r s1 = .ok p s2) (h3:s2[n]? = some (.l l)) (hl:l.length < sizeLine):WJ fo f r st = .nx r (s2.set n (.l (l++[p]))):=by
 unfold WJ;rw [h];show (if lk s1 (.ref n)=true then (f r s1).bindS _ else RS.no)=_;rw [if_pos hk,h2];show (match s2[n]? with |some (.l xs)=>if xs.length < sizeLine then RS.nx r (s2.set n (.l (xs++[p]))) else .no |_ => .no)=_;rw [h3];exact if_pos hl
theorem zy {Gd:qC->Prop} {k:PV->qC->Rs (List PV)} (h:Gd st):qi Gd k [] st = .ok [] st:=by unfold qi;exact if_pos h
theorem jL {Gd:qC->Prop} {k:PV->qC->Rs (List PV)} {ps:List PV} (hG:Gd st) (h:k p st = .ok l s1) (h2:qi Gd k ps s1 = .ok m s2):qi Gd k (p::ps) st = .ok (l++m) s2:=by
 rw [qi,if_pos hG,h];show (qi Gd k ps s1).bind _=_;rw [h2];rfl
theorem qAN (h:g p r=some r') (hf:f r' st = .ok q s1):Qd ⟨fi,g,[]⟩ (Qn [] f) r p st = .ok [q] s1:=by
 unfold Qd;show (match g p r with |none=>_ |some r'=>_)=_;rw [h];show (Qn [] f) r' st=_;unfold Qn;rw [hf];rfl
theorem jU {caps:List Nat} {n:Nat} {ts:List FT} {gs:List GenF} (hfi:fi r st = .ok w s1) (h:qi w.G (Qd ⟨fi,g,ts⟩ (Qn gs f) (Wc caps n r)) w.l s1 = .ok l s2) (hl:l.length≤sizeLine):qm caps n fi g ts gs f r st = .ok l s2:=by
 unfold qm;rw [hfi];show (match qi w.G (Qd ⟨fi,g,ts⟩ (Qn gs f) (Wc caps n r)) w.l s1 with | .ok l s'=>if l.length≤sizeLine then Rs.ok l s' else Rs.no |_=>Rs.no)=_;rw [h];exact if_pos hl
theorem qBK (h:zM st p=some l):Zm [p] st = .ok (.tup l) st:=by unfold Zm;simp only [h]
theorem w8 (h:f r st = .ok (.lst l) s1):QA f r st = .ok ⟨l,fun _=>True⟩ s1:=by unfold QA;rw [h];rfl
theorem wC (h:f r st = .ok (.tup l) s1):QA f r st = .ok ⟨l,fun _=>True⟩ s1:=by unfold QA;rw [h];rfl
end
section
variable {F G:FS} {f fb fc fo fi2:FE} {fl:FL} {fi:FI} {fa:FL} {g:FG} {t u:FT} {c d e:Nat} {co cp:CO} {f1 f2:FO} {r r':q9} {st s1 s2 s3:qC} {p q z:PV} {l:List PV} {n:Nat} {o:RS}
theorem YA (h:f r st = .ok (.ref n) s1) (h2:s1[n]? = some (.l l)):QA f r st = .ok ⟨l,fun s=>s[n]? = some (.l l)⟩ s1:=by
 unfold QA;rw [h];show qE6 (.ref n) s1=_;unfold qE6;dsimp only;rw [qCN h2]
theorem qHF (h:st[n]? = some (.l l)):lk st (.ref n)=true:=by unfold lk;dsimp only;rw [h]
end
end EV
end
section
namespace K87
open PySem EV
def wq:PV->Bool
 | .non=>true | .bl _=>true | .int _=>true | .str _=>true | .tup _=>true | .lst _=>true | .dct=>true |_=>false
def isInt:PV->Bool
 | .int _=>true
 |_=>false
theorem Zb {a:Ad} {v:PV} {st:qC} (h:wq v=true):zR a [v] st = .ok (.bl (isInt v)) st:=by
 cases v <;> first |rfl |cases h
def Zh (lo hi:Int):PV->Bool
 | .int i=>decide (lo≤i)&&decide (i≤hi)
 |_=>false
theorem qCr {a:Ad} {v:PV} {st:qC} {lo hi:Int} (h:wq v=true):wn a [v,.int lo,.int hi] st = .ok (.bl (Zh lo hi v)) st:=by
 refine WR rfl ?_
 unfold wp
 refine (ja (p := .bl (Zh lo hi v)) (st':=st) ?_)
 unfold Zf
 rw [wj (l:=[v]) (st':=st) rfl,Zb h]
 cases v with
 |int i =>
  show (match (PV.bl (decide (lo≤i))) with | .bl true=>Rs.ok (PV.bl (decide (i≤hi))) st | .bl false=>Rs.ok (.bl false) st |_ => .no)=_
  unfold Zh
  dsimp only
  cases decide (lo≤i) <;> rfl
 |_=>rfl
theorem YX {f:PV->Bool}:∀ l:List PV,WI pbl (l.map fun p => .bl (f p))=some (l.map f)
 |[]=>rfl
 |p::l=>by simp only [List.map_cons,WI,pbl,YX l]
theorem qC3 {i j:Int} {st:qC}:gEq (.int i) (.int j) st = .ok (.bl (i==j)) st:=rfl
theorem qHw {n:Nat} (h:n≤100000):n≤sizeLine:=Nat.le_trans h (by decide)
def zZ (L:Int):List Int:=(List.range L.toNat).map fun (i:Nat)=>(i:Int)
theorem j9 {L:Int}:YF 0 L=(zZ L).map PV.int:=by
 unfold YF zZ
 rw [List.map_map,Int.sub_zero]
 refine List.map_congr_left fun i _ => ?_
 show PV.int (0 + (i:Int))=PV.int i
 rw [Int.zero_add]
theorem upto_mem {L i:Int}:i∈zZ L ↔ 0≤i∧i < L:=by
 unfold zZ
 rw [List.mem_map]
 constructor
 ·rintro ⟨j,hj,rfl⟩;rw [List.mem_range] at hj;omega
 ·rintro ⟨h1,h2⟩;exact ⟨i.toNat,by rw [List.mem_range];omega,by omega⟩
theorem YI {L:Int}:(zZ L).length=L.toNat:=by simp [zZ]
theorem yt {l:List Int} {L i:Int} (hl:l.length=L.toNat) (h0:0≤i) (h1:i < L):L2.atI (l.map PV.int) i=some (.int (l.getD i.toNat 0)):=by
 unfold L2.atI L2.ixN
 rw [List.length_map,if_pos h0,if_pos (by omega)]
 show (l.map PV.int)[i.toNat]? = _
 have hi:i.toNat < l.length:=by omega
 rw [List.getElem?_map,List.getElem?_eq_getElem hi,List.getD_eq_getElem?_getD,List.getElem?_eq_getElem hi]
 rfl
theorem qAS {l:List Int} {L i:Int} {st:qC} (hl:l.length=L.toNat) (h0:0≤i) (h1:i < L):gIx (.lst (l.map PV.int)) (.int i) st = .ok (.int (l.getD i.toNat 0)) st:=by
 unfold gIx
 simp only [zM,asL,yt hl h0 h1]
theorem qAC {i j:Int} {st:qC} (h:-(2 ^ 64) < j∧j < 2 ^ 64):ZD (.int i) (.int j) st = .ok (.int (i * j)) st:=by
 unfold ZD gI
 dsimp only
 rw [if_pos (.inr h)]
theorem jh {i j:Int} {st:qC} (h:0 < j):jj (.int i) (.int j) st = .ok (.int (i % j)) st:=by
 unfold jj gI
 dsimp only
 rw [if_pos h]
theorem qHM {i j:Int} {st:qC} (h:0 < j) (h2:j < 1073741824):qET (.int i) (.int j) st = .ok (.int (i / j)) st:=by
 unfold qET gI
 dsimp only
 rw [if_pos ⟨h,h2⟩]
theorem qEn {i j:Int} {st:qC} (h:0 < j) (h2:j < 2 ^ 64):qAx (.int i) (.int j) st = .ok (.int (i / j)) st:=by
 unfold qAx gI;dsimp only;rw [if_pos ⟨h,h2⟩]
theorem Qx {a:Ad} {st j:qC} {x m:Int} (h0:0 < m) (h1:m < 2 ^ 64):qZ a [.ref st.length,.int m] (st ++ .l [.int x]::j) = .ok (.int (x % m)) (st ++ .l [.int (x / m)]::j):=by
 have hs:(st++SO.l [.int x]::j)[st.length]? = some (.l [.int x]):=by simp
 have hg:gIx (.ref st.length) (.int 0) (st++SO.l [.int x]::j) = .ok (.int x) (st++SO.l [.int x]::j):=by
  unfold gIx
  simp only [zM,asL,hs]
  rfl
 refine WR rfl ?_
 unfold Za
 rw [Qm (wt (p := .int (x % m)) (st':=st++SO.l [.int x]::j) (r:=QV 3 [.ref st.length,.int m]) ?_),Qm (r':=[some (.ref st.length),some (.int m),some (.int (x % m))]) (st':=st++SO.l [.int (x / m)]::j) ?_]
 ·rfl
 ·unfold qDe
  rw [QJ (p := .int x) (q := .int m) (st':=st++SO.l [.int x]::j) (st2:=st++SO.l [.int x]::j) ?_ rfl,qEn h0 h1]
  ·show (match Y9 (st++SO.l [.int x]::j) (.ref st.length) (.int 0) (.int (x / m)) with |some s4=>RS.nx _ s4 |none=>RS.no)=_
   have:Y9 (st++SO.l [.int x]::j) (.ref st.length) (.int 0) (.int (x / m))=some (st++SO.l [.int (x / m)]::j):=by
    unfold Y9
    simp only [hs]
    show some ((st++SO.l [.int x]::j).set st.length (.l [.int (x / m)]))=_
    rw [List.set_append_right _ _ (Nat.le_refl _),Nat.sub_self];rfl
   rw [this];rfl
  ·rw [QJ (p := .ref st.length) (q := .int 0) rfl rfl];exact hg
 ·rw [QJ (p := .int x) (q := .int m) (st':=st++SO.l [.int x]::j) (st2:=st++SO.l [.int x]::j) ?_ rfl,jh h0]
  rw [QJ (p := .ref st.length) (q := .int 0) rfl rfl];exact hg
theorem qEE {a:Ad} {ns:List Int} {k:Int} {st:qC} (h0:0≤k):∃ c,zV a [.lst (ns.map PV.int),.int k] st = .ok (.int c) st:=by
 by_cases hk:k < (ns.length:Int)
 ·refine ⟨ns.getD k.toNat 0,WR rfl ?_⟩
  unfold zN
  rw [qAi (p := .int (ns.getD k.toNat 0)) (st':=st) (r:=QV 2 [.lst (ns.map PV.int),.int k]) ?_]
  rw [qFw (st':=st) ?_,ja (p := .int (ns.getD k.toNat 0)) (st':=st) ?_]
  ·rw [QJ (p := .lst (ns.map PV.int)) (q := .int k) rfl rfl,qAS (L:=ns.length) (by omega) h0 hk]
  ·refine Yh ?_
   rw [QJ (p := .int k) (q := .int ns.length) rfl ?_]
   ·show Rs.ok (PV.bl (decide (k < (ns.length:Int)))) st=_
    rw [decide_eq_true hk]
   ·rw [wj (l:=[.lst (ns.map PV.int)]) rfl]
    show Rs.ok (PV.int ((ns.map PV.int).length:Int)) st=_
    rw [List.length_map]
 ·refine ⟨6151 * k + 29,WR rfl ?_⟩
  unfold zN
  rw [Qm (r':=QV 2 [.lst (ns.map PV.int),.int k]) (st':=st) (r:=QV 2 [.lst (ns.map PV.int),.int k]) ?_]
  ·rw [ja (p := .int (6151 * k + 29)) (st':=st) ?_]
   rw [QJ (p := .int (6151 * k)) (q := .int 29) (st':=st) (st2:=st) ?_ rfl]
   ·rfl
   ·rw [QJ (p := .int 6151) (q := .int k) rfl rfl]
    unfold ZD gI
    dsimp only
    rw [if_pos (.inl ⟨by decide,by decide⟩)]
  ·rw [qCT (st':=st) ?_]
   ·rfl
   ·refine Yh ?_
    rw [QJ (p := .int k) (q := .int ns.length) rfl ?_]
    ·show Rs.ok (PV.bl (decide (k < (ns.length:Int)))) st=_
     rw [decide_eq_false hk]
    ·rw [wj (l:=[.lst (ns.map PV.int)]) rfl]
     show Rs.ok (PV.int ((ns.map PV.int).length:Int)) st=_
     rw [List.length_map]
theorem qBM {i j:Int} {st:qC} (h:-(2 ^ 64) < i∧i < 2 ^ 64):ZD (.int i) (.int j) st = .ok (.int (i * j)) st:=by
 unfold ZD gI
 dsimp only
 rw [if_pos (.inl h)]
noncomputable def jQ:FS:=(qR (qY 4 (qL jj (qL qz (qL qz (qL qz (qL ZD (qB 4) (vC (.int 48271))) (qL ZD (qL ZD (vC (.int 7)) (qB 5)) (qB 5))) (qL ZD (vC (.int 11)) (qB 1))) (vC (.int 1))) (vC (.int 2147483647)))) (qY 3 (qL qz (qL ZD (qB 3) (vC (.int 2147483647))) (qB 4))))
theorem Jr {s:PV} {c k:Int} {st:qC}:∀ (js:List Int) (n m:Int) (x:Option PV),(∀ j∈js,0≤j∧j < 24) -> ∃ n' m' x',Qs (fun _=>True) (QT 5) jQ (js.map PV.int) [some s,some (.int k),some (.int c),some (.int n),some (.int m),x] st = .nx [some s,some (.int k),some (.int c),some (.int n'),some (.int m'),x'] st
 |[],n,m,x,_=>⟨n,m,x,by rw [List.map_nil,Yv trivial]⟩
 |j::js,n,m,x,h=>by
  have hj:=h j List.mem_cons_self
  have e:jQ [some s,some (.int k),some (.int c),some (.int n),some (.int m),some (.int j)] st = .nx [some s,some (.int k),some (.int c),some (.int (n * 2147483647 + (m * 48271 + 7 * j * j + 11 * k + 1) % 2147483647)),some (.int ((m * 48271 + 7 * j * j + 11 * k + 1) % 2147483647)),some (.int j)] st:=by
   unfold jQ
   rw [Qm (wt (p := .int ((m * 48271 + 7 * j * j + 11 * k + 1) % 2147483647)) (st':=st) ?_),wt (p := .int (n * 2147483647 + (m * 48271 + 7 * j * j + 11 * k + 1) % 2147483647)) (st':=st) ?_]
   ·rfl
   ·rw [QJ (p := .int (n * 2147483647)) (q := .int ((m * 48271 + 7 * j * j + 11 * k + 1) % 2147483647)) (st':=st) (st2:=st) ?_ rfl]
    ·rfl
    ·rw [QJ (p := .int n) (q := .int 2147483647) rfl rfl,qAC ⟨by decide,by decide⟩]
   ·rw [QJ (p := .int (m * 48271 + 7 * j * j + 11 * k + 1)) (q := .int 2147483647) (st':=st) (st2:=st) ?_ rfl,jh (by decide)]
    rw [QJ (p := .int (m * 48271 + 7 * j * j + 11 * k)) (q := .int 1) (st':=st) (st2:=st) ?_ rfl]
    ·rfl
    rw [QJ (p := .int (m * 48271 + 7 * j * j)) (q := .int (11 * k)) (st':=st) (st2:=st) ?_ ?_]
    ·rfl
    ·rw [QJ (p := .int (m * 48271)) (q := .int (7 * j * j)) (st':=st) (st2:=st) ?_ ?_]
     ·rfl
     ·rw [QJ (p := .int m) (q := .int 48271) rfl rfl,qAC ⟨by decide,by decide⟩]
     ·rw [QJ (p := .int (7 * j)) (q := .int j) (st':=st) (st2:=st) ?_ rfl,qAC ⟨by omega,by omega⟩]
      rw [QJ (p := .int 7) (q := .int j) rfl rfl,qBM ⟨by decide,by decide⟩]
    ·rw [QJ (p := .int 11) (q := .int k) rfl rfl,qBM ⟨by decide,by decide⟩]
  obtain ⟨n',m',x',e2⟩:=Jr js _ _ (some (.int j)) fun q hq=>h q (List.mem_cons_of_mem _ hq)
  exact ⟨n',m',x',by rw [List.map_cons,YG (r1:=[some s,some (.int k),some (.int c),some (.int n),some (.int m),some (.int j)]) trivial rfl e];exact e2⟩
theorem qGZ {a:Ad} {ns:List Int} {k:Int} {st:qC} (h0:0≤k):∃ x,ZR a [.lst (ns.map PV.int),.int k] st = .ok (.ref st.length) (st++[.l [.int x]]):=by
 obtain ⟨c,hc⟩:=qEE (a:=a) (ns:=ns) (k:=k) (st:=st) h0
 have h1:qY 2 (qI (zV a) (qA (qB 0) (qA (qB 1) qD))) (QV 6 [.lst (ns.map PV.int),.int k]) st = .nx [some (.lst (ns.map PV.int)),some (.int k),some (.int c),none,none,none] st:=by
  rw [wt (p := .int c) (st':=st) ?_]
  ·rfl
  ·rw [wj (l:=[.lst (ns.map PV.int),.int k]) rfl];exact hc
 have ht:∀ b:Bool,(c % 2==0)=b->vTB (qL gEq (qL jj (qB 2) (vC (.int 2))) (vC (.int 0))) [some (.lst (ns.map PV.int)),some (.int k),some (.int c),none,none,none] st = .ok b st:=by
  intro b hb
  refine Yh ?_
  rw [QJ (p := .int (c % 2)) (q := .int 0) (st':=st) (st2:=st) ?_ rfl,qC3,hb]
  rw [QJ (p := .int c) (q := .int 2) rfl rfl,jh (by decide)]
 cases hb:(c % 2==0) with
 |true =>
  refine ⟨c / 2,WR rfl ?_⟩
  unfold ZQ
  rw [Qm h1,qAi (p := .ref st.length) (st':=st++[.l [.int (c / 2)]]) ?_]
  rw [qFw (ht true hb),qBS (l:=[.int (c / 2)]) (st':=st) ?_]
  unfold Qt
  rw [qq (p := .int (c / 2)) (l:=[]) (st':=st) (st2:=st) ?_ rfl]
  ·rfl
  ·rw [QJ (p := .int c) (q := .int 2) rfl rfl,qHM (by decide) (by decide)]
 |false =>
  obtain ⟨n',m',x',e⟩:=Jr (s := .lst (ns.map PV.int)) (c:=c) (k:=k) (st:=st) (zZ 24) 0 (c % 2147483647) none fun j hj=>upto_mem.mp hj
  refine ⟨n',WR rfl ?_⟩
  unfold ZQ
  rw [Qm h1,Qm (r':=[some (.lst (ns.map PV.int)),some (.int k),some (.int c),none,none,none]) (st':=st) (by rw [qCT (ht false hb)];rfl),Qm (wt (p := .int 0) (st':=st) rfl),Qm (wt (p := .int (c % 2147483647)) (st':=st) ?_),Qm (r':=[some (.lst (ns.map PV.int)),some (.int k),some (.int c),some (.int n'),some (.int m'),x']) (st':=st) ?_,qBS (l:=[.int n']) (st':=st) rfl]
  ·rw [qCp (w:=⟨(zZ 24).map PV.int,fun _=>True⟩) (st':=st) rfl]
   exact e
  ·rw [QJ (p := .int c) (q := .int 2147483647) rfl rfl,jh (by decide)]
section
variable {F G:FS} {f fb:FE} {fl:FL} {t u:FT} {r:q9} {st st' st2:qC} {p q:PV} {l m:List PV}
theorem yW {fa:FA} (h:fa r st = .ok l st') (hl:l.length≤sizeLine):Qt fa r st = .ok l st':=by unfold Qt;rw [h];show (if l.length≤sizeLine then _ else _)=_;rw [if_pos hl]
theorem jZ (h:f r st = .ok p st') (h2:fb r st' = .ok q st2) (e1:asL st2 p=some l) (e2:asL st2 q=some m) (hl:l.length + m.length≤sizeLine):Z4 f fb r st = .ok (l++m) st2:=by
 unfold Z4;rw [h];show (fb r st').bind _=_;rw [h2];show (match asL st2 p with |some l=>_ |none=>_)=_;rw [e1];dsimp only;rw [e2];dsimp only;rw [if_pos hl]
theorem qHk {b:Bool} (h:t r st = .ok false st') (h2:u r st' = .ok b st2):W5 t u r st = .ok b st2:=by unfold W5;rw [h];exact h2
end
theorem Qf {a:Ad} {x d:Addr} {fs:List (Str×Int)} {st:qC} {r:q9} {b:Bool} (h0:r[0]? = some (some (.exc x fs))) (hx:x∈Qg a) (hd:d∈a.kinds) (hb:(x==d)=b):qI (QN (kit a)) (qA (qB 0) (qA (vC (.fn d)) qD)) r st = .ok (.bl b) st:=by
 rw [wj (l:=[.exc x fs,.fn d]) (st':=st) (by unfold qA qB;rw [h0];rfl)]
 show (match (if x∈Qg a∧d∈a.kinds then some (x==d) else none) with |some b=>Rs.ok (PV.bl b) st |none => .no)=_
 rw [if_pos ⟨hx,hd⟩,hb]
theorem qDv {a:Ad} {x:Addr} {fs:List (Str×Int)} {st:qC} {r:q9} (h0:r[0]? = some (some (.exc x fs))) (hx:x∈Qg a):qI (QN (kit a)) (qA (qB 0) (qA (vC (.ty "ValueError")) qD)) r st = .ok (.bl true) st:=by
 rw [wj (l:=[.exc x fs,.ty "ValueError"]) (st':=st) (by unfold qA qB;rw [h0];rfl)]
 show (match (if x∈Qg a ∧ "ValueError" = "ValueError" then some true else none) with |some b=>Rs.ok (PV.bl b) st |none => .no)=_
 rw [if_pos ⟨hx,rfl⟩]
theorem Y4 (a:Ad):a.NoLength∈a.kinds∧a.NoNumber∈a.kinds∧a.NoBars∈a.kinds∧a.NoBox∈a.kinds∧a.NoWeights∈a.kinds∧a.NoSorts∈a.kinds∧a.NoTurn∈a.kinds∧a.NoPlace∈a.kinds∧a.NoText∈a.kinds∧a.NoRow∈a.kinds∧a.TooMany∈a.kinds:=by
 unfold Ad.kinds;simp
theorem JA {bs:List PV} {F:PV->PV} {st:qC} {r:q9} (h1:r[1]? = some (some (.lst bs))) (hl:bs.length≤11) (hb:∀ p∈bs,∃ b,p = .bl b) (hF:∀ b,F (.bl b) = .int (if b then 1 else 0)) :
  vFz (qm [] 1 (QA (qB 1)) (QR 0) [] [] (qI qDR (qA (qB 0) qD))) r st = .ok (.lst (bs.map F)) st:=by
 refine zX ?_
 rw [QW (w:=⟨bs,fun _=>True⟩) (F:=F) (by unfold QA qB;rw [h1];rfl) trivial (qHw (by show bs.length≤100000;omega)) fun p hp => ?_]
 obtain ⟨b,rfl⟩:=hb p hp
 refine ⟨[some (.bl b)],rfl,?_⟩
 rw [hF];cases b <;> rfl
def bit:PV->PV
 | .bl b => .int (if b then 1 else 0)
 |p=>p
theorem jp {a:Ad} (hd:Dist a) {st:qC} {fs:List (Str×Int)}:Wg a [.exc a.NoNumber fs] st = .ok (.str "! number") st:=by
 have nd:=hd.nd
 unfold Ad.kinds at nd
 simp only [List.nodup_cons,List.mem_cons,List.not_mem_nil,not_or,or_false] at nd
 obtain ⟨⟨n0_1,n0_2,n0_3,n0_4,n0_5,n0_6,n0_7,n0_8,n0_9,n0_10⟩,⟨n1_2,n1_3,n1_4,n1_5,n1_6,n1_7,n1_8,n1_9,n1_10⟩,⟨n2_3,n2_4,n2_5,n2_6,n2_7,n2_8,n2_9,n2_10⟩,⟨n3_4,n3_5,n3_6,n3_7,n3_8,n3_9,n3_10⟩,⟨n4_5,n4_6,n4_7,n4_8,n4_9,n4_10⟩,⟨n5_6,n5_7,n5_8,n5_9,n5_10⟩,⟨n6_7,n6_8,n6_9,n6_10⟩,⟨n7_8,n7_9,n7_10⟩,⟨n8_9,n8_10⟩,n9_10,_⟩:=nd
 obtain ⟨m0,m1,m2,m3,m4,m5,m6,m7,m8,m9,m10⟩:=Y4 a
 have hx:a.NoNumber∈Qg a:=by unfold Qg;simp
 refine WR rfl ?_
 unfold zL
 rw [Qm (wt (p := .lst [.bl false,.bl true,.bl false,.bl false]) (st':=st) (r:=QV 3 [.exc a.NoNumber fs]) (zX (yW (qq (Qf rfl hx m0 (beq_eq_false_iff_ne.mpr (Ne.symm n0_1))) (qq (Qf rfl hx m1 (beq_self_eq_true _)) (qq (Qf rfl hx m2 (beq_eq_false_iff_ne.mpr n1_2)) (qq (Qf rfl hx m3 (beq_eq_false_iff_ne.mpr n1_3)) rfl)))) (by decide)))),
  Qm (wt (p := .lst [.bl false,.bl true,.bl false,.bl false,.bl false,.bl false,.bl false,.bl false]) (st':=st) (zX (jZ (l:=[.bl false,.bl true,.bl false,.bl false]) (p := .lst [.bl false,.bl true,.bl false,.bl false]) (st':=st) rfl (zX (yW (qq (Qf rfl hx m4 (beq_eq_false_iff_ne.mpr n1_4)) (qq (Qf rfl hx m5 (beq_eq_false_iff_ne.mpr n1_5)) (qq (Qf rfl hx m6 (beq_eq_false_iff_ne.mpr n1_6)) (qq (Qf rfl hx m7 (beq_eq_false_iff_ne.mpr n1_7)) rfl)))) (by decide))) rfl rfl (by decide)))),
  Qm (wt (p := .lst [.bl false,.bl true,.bl false,.bl false,.bl false,.bl false,.bl false,.bl false,.bl false,.bl false,.bl false]) (st':=st) (zX (jZ (l:=[.bl false,.bl true,.bl false,.bl false,.bl false,.bl false,.bl false,.bl false]) (p := .lst [.bl false,.bl true,.bl false,.bl false,.bl false,.bl false,.bl false,.bl false]) (st':=st) rfl (zX (yW (qq (Qf rfl hx m8 (beq_eq_false_iff_ne.mpr n1_8)) (qq (Qf rfl hx m9 (beq_eq_false_iff_ne.mpr n1_9)) (qq (Qf rfl hx m10 (beq_eq_false_iff_ne.mpr n1_10)) rfl))) (by decide))) rfl rfl (by decide))))]
 rw [Qm (r':=[some (.exc a.NoNumber fs),some (.lst [.bl false,.bl true,.bl false,.bl false,.bl false,.bl false,.bl false,.bl false,.bl false,.bl false,.bl false]),none]) (st':=st) ?_,Qm (F:=qY 2 _) (r':=[some (.exc a.NoNumber fs),some (.lst [.bl false,.bl true,.bl false,.bl false,.bl false,.bl false,.bl false,.bl false,.bl false,.bl false,.bl false]),some (.lst [.str "length",.str "number",.str "bars",.str "box",.str "weights",.str "sorts",.str "turn",.str "place",.str "text",.str "row",.str "many"])]) (st':=st) rfl]
 ·rfl
 ·show wN _ _ _ [some (.exc a.NoNumber fs),some (.lst [.bl false,.bl true,.bl false,.bl false,.bl false,.bl false,.bl false,.bl false,.bl false,.bl false,.bl false]),none] st=_
  rw [qCT (st':=st) (qHk (st':=st) (qAI (b:=true) (yJ (qDv rfl hx))) (Yh ?_))]
  ·rfl
  ·rw [QJ (p := .int 1) (q := .int 1) (st':=st) (st2:=st) ?_ rfl]
   ·rfl
   ·rw [wj (l:=[.lst [.int 0,.int 1,.int 0,.int 0,.int 0,.int 0,.int 0,.int 0,.int 0,.int 0,.int 0]]) (st':=st) (qq (st':=st) (JA (F:=bit) (bs:=[.bl false,.bl true,.bl false,.bl false,.bl false,.bl false,.bl false,.bl false,.bl false,.bl false,.bl false]) rfl (by decide) (by simp) fun b=>rfl) rfl)]
    rfl
theorem qAc {a:Ad} (hd:Dist a) {st:qC} {fs:List (Str×Int)}:Wg a [.exc a.NoSorts fs] st = .ok (.str "! sorts") st:=by
 have nd:=hd.nd
 unfold Ad.kinds at nd
 simp only [List.nodup_cons,List.mem_cons,List.not_mem_nil,not_or,or_false] at nd
 obtain ⟨⟨n0_1,n0_2,n0_3,n0_4,n0_5,n0_6,n0_7,n0_8,n0_9,n0_10⟩,⟨n1_2,n1_3,n1_4,n1_5,n1_6,n1_7,n1_8,n1_9,n1_10⟩,⟨n2_3,n2_4,n2_5,n2_6,n2_7,n2_8,n2_9,n2_10⟩,⟨n3_4,n3_5,n3_6,n3_7,n3_8,n3_9,n3_10⟩,⟨n4_5,n4_6,n4_7,n4_8,n4_9,n4_10⟩,⟨n5_6,n5_7,n5_8,n5_9,n5_10⟩,⟨n6_7,n6_8,n6_9,n6_10⟩,⟨n7_8,n7_9,n7_10⟩,⟨n8_9,n8_10⟩,n9_10,_⟩:=nd
 obtain ⟨m0,m1,m2,m3,m4,m5,m6,m7,m8,m9,m10⟩:=Y4 a
 have hx:a.NoSorts∈Qg a:=by unfold Qg;simp
 refine WR rfl ?_
 unfold zL
 rw [Qm (wt (p := .lst [.bl false,.bl false,.bl false,.bl false]) (st':=st) (r:=QV 3 [.exc a.NoSorts fs]) (zX (yW (qq (Qf rfl hx m0 (beq_eq_false_iff_ne.mpr (Ne.symm n0_5))) (qq (Qf rfl hx m1 (beq_eq_false_iff_ne.mpr (Ne.symm n1_5))) (qq (Qf rfl hx m2 (beq_eq_false_iff_ne.mpr (Ne.symm n2_5))) (qq (Qf rfl hx m3 (beq_eq_false_iff_ne.mpr (Ne.symm n3_5))) rfl)))) (by decide)))),
  Qm (wt (p := .lst [.bl false,.bl false,.bl false,.bl false,.bl false,.bl true,.bl false,.bl false]) (st':=st) (zX (jZ (l:=[.bl false,.bl false,.bl false,.bl false]) (p := .lst [.bl false,.bl false,.bl false,.bl false]) (st':=st) rfl (zX (yW (qq (Qf rfl hx m4 (beq_eq_false_iff_ne.mpr (Ne.symm n4_5))) (qq (Qf rfl hx m5 (beq_self_eq_true _)) (qq (Qf rfl hx m6 (beq_eq_false_iff_ne.mpr n5_6)) (qq (Qf rfl hx m7 (beq_eq_false_iff_ne.mpr n5_7)) rfl)))) (by decide))) rfl rfl (by decide)))),
  Qm (wt (p := .lst [.bl false,.bl false,.bl false,.bl false,.bl false,.bl true,.bl false,.bl false,.bl false,.bl false,.bl false]) (st':=st) (zX (jZ (l:=[.bl false,.bl false,.bl false,.bl false,.bl false,.bl true,.bl false,.bl false]) (p := .lst [.bl false,.bl false,.bl false,.bl false,.bl false,.bl true,.bl false,.bl false]) (st':=st) rfl (zX (yW (qq (Qf rfl hx m8 (beq_eq_false_iff_ne.mpr n5_8)) (qq (Qf rfl hx m9 (beq_eq_false_iff_ne.mpr n5_9)) (qq (Qf rfl hx m10 (beq_eq_false_iff_ne.mpr n5_10)) rfl))) (by decide))) rfl rfl (by decide))))]
 rw [Qm (r':=[some (.exc a.NoSorts fs),some (.lst [.bl false,.bl false,.bl false,.bl false,.bl false,.bl true,.bl false,.bl false,.bl false,.bl false,.bl false]),none]) (st':=st) ?_,Qm (F:=qY 2 _) (r':=[some (.exc a.NoSorts fs),some (.lst [.bl false,.bl false,.bl false,.bl false,.bl false,.bl true,.bl false,.bl false,.bl false,.bl false,.bl false]),some (.lst [.str "length",.str "number",.str "bars",.str "box",.str "weights",.str "sorts",.str "turn",.str "place",.str "text",.str "row",.str "many"])]) (st':=st) rfl]
 ·rfl
 ·show wN _ _ _ [some (.exc a.NoSorts fs),some (.lst [.bl false,.bl false,.bl false,.bl false,.bl false,.bl true,.bl false,.bl false,.bl false,.bl false,.bl false]),none] st=_
  rw [qCT (st':=st) (qHk (st':=st) (qAI (b:=true) (yJ (qDv rfl hx))) (Yh ?_))]
  ·rfl
  ·rw [QJ (p := .int 1) (q := .int 1) (st':=st) (st2:=st) ?_ rfl]
   ·rfl
   ·rw [wj (l:=[.lst [.int 0,.int 0,.int 0,.int 0,.int 0,.int 1,.int 0,.int 0,.int 0,.int 0,.int 0]]) (st':=st) (qq (st':=st) (JA (F:=bit) (bs:=[.bl false,.bl false,.bl false,.bl false,.bl false,.bl true,.bl false,.bl false,.bl false,.bl false,.bl false]) rfl (by decide) (by simp) fun b=>rfl) rfl)]
    rfl
theorem JV {a:Ad} {st j:qC} {x:Int}:∃ v,wq v=true∧Zh 0 200 v=false∧wL a [.ref st.length] (st ++ .l [.int x]::j) = .ok v (st ++ .l [.int (x / 8)]::j):=by
 have e:∀ v,gIx (.lst [.int (-1),.int 201,.bl true,.non,.str "3",.tup [.int 1],.int (10 ^ 39),.lst [.int 2]]) (.int (x % 8)) (st ++ .l [.int (x / 8)]::j) = .ok v (st ++ .l [.int (x / 8)]::j)->wL a [.ref st.length] (st ++ .l [.int x]::j) = .ok v (st ++ .l [.int (x / 8)]::j):=fun v hv =>
  Qe rfl (Qq (qT (p := .lst [.int (-1),.int 201,.bl true,.non,.str "3",.tup [.int 1],.int (10 ^ 39),.lst [.int 2]]) (q := .int (x % 8)) (s1:=st ++ .l [.int x]::j) (s2:=st ++ .l [.int (x / 8)]::j) rfl (qN (l:=[.ref st.length,.int 8]) (s1:=st ++ .l [.int x]::j) rfl (Qx (by decide) (by decide))) hv))
 have h:x % 8=0∨x % 8=1∨x % 8=2∨x % 8=3∨x % 8=4∨x % 8=5∨x % 8=6∨x % 8=7:=by omega
 rcases h with h |h |h |h |h |h |h |h <;> rw [h] at e
 ·exact ⟨_,rfl,rfl,e (.int (-1)) rfl⟩
 ·exact ⟨_,rfl,rfl,e (.int 201) rfl⟩
 ·exact ⟨_,rfl,rfl,e (.bl true) rfl⟩
 ·exact ⟨_,rfl,rfl,e .non rfl⟩
 ·exact ⟨_,rfl,rfl,e (.str "3") rfl⟩
 ·exact ⟨_,rfl,rfl,e (.tup [.int 1]) rfl⟩
 ·exact ⟨_,rfl,rfl,e (.int (10 ^ 39)) rfl⟩
 ·exact ⟨_,rfl,rfl,e (.lst [.int 2]) rfl⟩
end K87
end
section
namespace K87
open PySem EV EX
def qx (s:Int×Int):PV := .tup [.int s.1,.int s.2]
def sP (S:List (Int×Int)):PV := .tup (S.map qx)
structure Srt (S:List (Int×Int)):Prop where
 lo:1≤S.length
 hi:S.length≤4
 ris:(S.map (·.1)).Pairwise (· < ·)
 b:∀ s∈S,1≤s.1∧s.1≤9∧0≤s.2∧s.2≤1000000000000
theorem itN {L:Int} {r:q9} {st s1:qC} {f:FA} (h1:0≤L) (h2:L≤1000) (hf:f r st = .ok [.int L] s1):(Wq f) r st = .ok ⟨(zZ L).map PV.int,fun _=>True⟩ s1:=by
 unfold Wq
 rw [hf]
 show yT [.int L] s1=_
 unfold yT
 dsimp only
 rw [if_pos (by omega),j9]
theorem Jc:∀ (vs acc:List Int),acc.Nodup->(vs.foldl ddS acc).Nodup
 |[],acc,h=>h
 |k::vs,acc,h=>by
  rw [List.foldl_cons]
  refine Jc vs _ ?_
  unfold ddS
  split
  ·exact h
  ·rename_i q
   exact List.nodup_append.mpr ⟨h,by simp,fun a ha b hb=>by rw [List.mem_singleton.mp hb];intro z;subst z;exact q ha⟩
theorem qCY:∀ (vs acc:List Int) (x:Int),x∈vs.foldl ddS acc ↔ x∈acc∨x∈vs
 |[],acc,x=>by simp
 |k::vs,acc,x=>by
  rw [List.foldl_cons,qCY vs _ x]
  unfold ddS
  split
  ·rename_i q
   constructor
   ·rintro (h |h)
    ·exact .inl h
    ·exact .inr (List.mem_cons_of_mem _ h)
   ·rintro (h |h)
    ·exact .inl h
    ·rcases List.mem_cons.mp h with rfl |h
     ·exact .inl q
     ·exact .inr h
  ·simp only [List.mem_append,List.mem_cons,List.not_mem_nil,or_false]
   constructor
   ·rintro ((h |h) |h)
    ·exact .inl h
    ·exact .inr (.inl h)
    ·exact .inr (.inr h)
   ·rintro (h |h |h)
    ·exact .inl (.inl h)
    ·exact .inl (.inr h)
    ·exact .inr h
theorem qGr (vs:List Int):(sdd vs).Pairwise (· < ·):=by
 have h1:=qCq vs
 have h2:(sdd vs).Nodup:=(zq vs).nodup_iff.mpr (Jc vs [] List.nodup_nil)
 have h3:(sdd vs).Pairwise (fun a b=>a≤b∧a≠b):=h1.and h2
 exact h3.imp fun ⟨p,q⟩=>by omega
theorem sdd_mem {vs:List Int} {x:Int}:x∈sdd vs ↔ x∈vs:=by
 rw [(zq vs).mem_iff]
 unfold dd
 rw [qCY]
 simp
theorem qE9 {vs:List Int} (h:vs≠[]):1≤(sdd vs).length∧(sdd vs).length≤vs.length:=by
 constructor
 ·obtain ⟨x,hx⟩:=List.exists_mem_of_ne_nil vs h
  exact List.length_pos_of_mem (sdd_mem.mpr hx)
 ·rw [(zq vs).length_eq]
  have:=yy vs []
  have z:([]:List Int).length=0:=rfl
  unfold dd
  omega
noncomputable def lgE (a:Ad):FE:=(qL qz (vC (.int 1)) (qI (qZ a) (qA (qB 0) (qA (qL gIx (vFz (Qt (qA (vC (.int 3)) (qA (vC (.int 9)) qD)))) (qI (qZ a) (qA (qB 0) (qA (vC (.int 2)) qD)))) qD))))
theorem j7 {a:Ad} {st j:qC} {fi:FI}:∀ (ks:List PV) (x:Int),∃ (vs:List Int) (y:Int),vs.length=ks.length∧(∀ v∈vs,1≤v∧v≤9)∧qi (fun _=>True) (Qd ⟨fi,QR 1,[]⟩ (Qn [] (lgE a)) [some (.ref st.length),none]) ks (st ++ .l [.int x]::j) = .ok (vs.map PV.int) (st ++ .l [.int y]::j)
 |[],x=>⟨[],x,rfl,fun v hv=>(List.not_mem_nil hv).elim,zy trivial⟩
 |k::ks,x=>by
  have t1:=Qx (a:=a) (st:=st) (j:=j) (x:=x) (m:=2) (by decide) (by decide)
  have hm:∃ m:Int,(m=3∨m=9)∧gIx (.lst [.int 3,.int 9]) (.int (x % 2)) (st ++ .l [.int (x / 2)]::j) = .ok (.int m) (st ++ .l [.int (x / 2)]::j):=by
   have:x % 2=0∨x % 2=1:=by omega
   rcases this with h |h <;> rw [h]
   ·exact ⟨3,.inl rfl,rfl⟩
   ·exact ⟨9,.inr rfl,rfl⟩
  obtain ⟨m,hm1,hm2⟩:=hm
  have hmp:0 < m∧m≤9:=by rcases hm1 with rfl |rfl <;> decide
  have t2:=Qx (a:=a) (st:=st) (j:=j) (x:=x / 2) (m:=m) hmp.1 (by omega)
  obtain ⟨vs,y,h1,h2,h3⟩:=j7 (a:=a) (st:=st) (j:=j) (fi:=fi) ks (x / 2 / m)
  have hr:0≤x / 2 % m∧x / 2 % m < m:=⟨Int.emod_nonneg _ (by omega),Int.emod_lt_of_pos _ hmp.1⟩
  refine ⟨(1 + x / 2 % m)::vs,y,by rw [List.length_cons,List.length_cons,h1],fun v hv => ?_,?_⟩
  ·rcases List.mem_cons.mp hv with rfl |hv
   ·omega
   ·exact h2 v hv
  ·refine jL (l:=[.int (1 + x / 2 % m)]) trivial (qAN (r':=[some (.ref st.length),some k]) rfl ?_) h3
   exact qT (p := .int 1) (q := .int (x / 2 % m)) rfl (qN (l:=[.ref st.length,.int m]) (qJ rfl (qJ (qT (p := .lst [.int 3,.int 9]) (q := .int (x % 2)) rfl (qN (l:=[.ref st.length,.int 2]) rfl t1) hm2) qa)) t2) Z1
noncomputable def prE (a:Ad):FE:=(qt (qA (qB 2) (qA (qI (qZ a) (qA (qB 0) (qA (qB 1) qD))) qD)))
theorem jq {a:Ad} {st j:qC} {fi:FI} {m:Int} (h0:0 < m) (h1:m≤1000000000001):∀ (ls:List Int) (x:Int),∃ (S:List (Int×Int)) (y:Int),S.map (·.1)=ls∧(∀ s∈S,0≤s.2∧s.2≤1000000000000)∧qi (fun _=>True) (Qd ⟨fi,QR 2,[]⟩ (Qn [] (prE a)) [some (.ref st.length),some (.int m),none]) (ls.map PV.int) (st ++ .l [.int x]::j) = .ok (S.map qx) (st ++ .l [.int y]::j)
 |[],x=>⟨[],x,rfl,fun v hv=>(List.not_mem_nil hv).elim,zy trivial⟩
 |k::ks,x=>by
  have t1:=Qx (a:=a) (st:=st) (j:=j) (x:=x) (m:=m) h0 (by omega)
  obtain ⟨S,y,h2,h3,h4⟩:=jq (a:=a) (st:=st) (j:=j) (fi:=fi) h0 h1 ks (x / m)
  have hr:0≤x % m∧x % m < m:=⟨Int.emod_nonneg _ (by omega),Int.emod_lt_of_pos _ h0⟩
  refine ⟨(k,x % m)::S,y,by rw [List.map_cons,h2],fun s hs => ?_,?_⟩
  ·rcases List.mem_cons.mp hs with rfl |hs
   ·show 0≤x % m∧x % m≤_;omega
   ·exact h3 s hs
  ·refine jL (l:=[qx (k,x % m)]) trivial (qAN (r':=[some (.ref st.length),some (.int m),some (.int k)]) rfl ?_) h4
   exact wG (qJ rfl (qJ (qN (l:=[.ref st.length,.int m]) rfl t1) qa)) (sz rfl)
theorem qCX {a:Ad} {st j:qC} {x:Int}:∃ (S:List (Int×Int)) (y:Int),Srt S∧Wj a [.ref st.length] (st ++ .l [.int x]::j) = .ok (sP S) (st ++ .l [.int y]::j):=by
 have t0:=Qx (a:=a) (st:=st) (j:=j) (x:=x) (m:=4) (by decide) (by decide)
 have hn:1≤1 + x % 4∧1 + x % 4≤4:=by omega
 generalize hN:1 + x % 4=N at hn
 obtain ⟨vs,y,h1,h2,h3⟩:=j7 (a:=a) (st:=st) (j:=j) (fi:=Wq (qA (qL qz (vC (.int 1)) (qI (qZ a) (qA (qB 0) (qA (vC (.int 4)) qD)))) qD)) ((zZ N).map PV.int) (x / 4)
 rw [List.length_map,YI] at h1
 have hv4:vs.length≤4:=by omega
 have hv1:vs≠[]:=fun z=>by rw [z] at h1;simp at h1;omega
 have t3:=Qx (a:=a) (st:=st) (j:=j) (x:=y) (m:=3) (by decide) (by decide)
 have hm:∃ m:Int,(m=3∨m=12∨m=1000000000001)∧gIx (.lst [.int 3,.int 12,.int 1000000000001]) (.int (y % 3)) (st ++ .l [.int (y / 3)]::j) = .ok (.int m) (st ++ .l [.int (y / 3)]::j):=by
  have:y % 3=0∨y % 3=1∨y % 3=2:=by omega
  rcases this with h |h |h <;> rw [h]
  ·exact ⟨3,.inl rfl,rfl⟩
  ·exact ⟨12,.inr (.inl rfl),rfl⟩
  ·exact ⟨1000000000001,.inr (.inr rfl),rfl⟩
 obtain ⟨m,hm1,hm2⟩:=hm
 have hmp:0 < m∧m≤1000000000001:=by rcases hm1 with rfl |rfl |rfl <;> decide
 obtain ⟨S,z,g1,g2,g3⟩:=jq (a:=a) (st:=st) (j:=j) (fi:=QA (qB 1)) hmp.1 hmp.2 (sdd vs) (y / 3)
 have hl:=qE9 hv1
 have hSl:S.length=(sdd vs).length:=by rw [← g1,List.length_map]
 refine ⟨S,z,⟨by omega,by omega,by rw [g1];exact qGr vs,fun s hs => ?_⟩,Qe rfl ?_⟩
 ·have:s.1∈sdd vs:=by rw [← g1];exact List.mem_map.mpr ⟨s,hs,rfl⟩
  have:=h2 _ (sdd_mem.mp this)
  exact ⟨this.1,this.2,g2 s hs⟩
 unfold ZC
 refine qh (Qb (p := .lst ((sdd vs).map PV.int)) (s1:=st ++ .l [.int y]::j) ?_) ?_
 ·unfold qCw
  rw [wf (jU (l:=vs.map PV.int) (s2:=st ++ .l [.int y]::j) (itN (L:=N) (by omega) (by omega) (qJ (qT rfl (qN (l:=[.ref st.length,.int 4]) rfl t0) (by rw [Z1,hN])) qa)) h3 (by rw [List.length_map];exact Nat.le_trans hv4 (by decide)))]
  show qBC (.lst (vs.map PV.int)) _=_
  unfold qBC
  simp only [asL]
  rw [show WI jd (vs.map PV.int)=some vs from by
   clear h1 h2 h3 hv4 hv1 g1 g3 hl hSl
   induction vs with
   |nil=>rfl
   |cons v vs ih=>rw [List.map_cons,WI,ih];rfl]
  dsimp only
  rw [if_pos ⟨hv4,h2⟩]
 ·refine qh (Qb (p := .int m) (s1:=st ++ .l [.int (y / 3)]::j) (qT (p := .lst [.int 3,.int 12,.int 1000000000001]) (q := .int (y % 3)) rfl (qN (l:=[.ref st.length,.int 3]) rfl t3) hm2)) ?_
  refine Qq (qN (l:=[.lst (S.map qx)]) (qJ (wf (jU (w:=⟨(sdd vs).map PV.int,fun _=>True⟩) (w8 rfl) g3 (by rw [List.length_map,hSl];exact Nat.le_trans hl.2 (Nat.le_trans hv4 (by decide))))) qa) (qBK rfl))
theorem itR {lo hi:Int} {r:q9} {st s1:qC} {f:FA} (h1:0≤lo) (h2:lo≤1000) (h3:0≤hi) (h4:hi≤1000) (hf:f r st = .ok [.int lo,.int hi] s1):(ZY f) r st = .ok ⟨YF lo hi,fun _=>True⟩ s1:=by
 unfold ZY
 rw [hf]
 show jD [.int lo,.int hi] s1=_
 unfold jD
 dsimp only
 rw [if_pos ⟨by omega,by omega,by omega,by omega⟩]
def ofN (l:List Nat):List PV:=l.map fun (t:Nat)=>PV.int (t:Int)
theorem qAq {n m:Nat} (h:n≤300) (hm:m≤300) {r:q9} {S:qC} {f:FA} (e:f r S = .ok [.int (n:Int),.int (m:Int)] S):ZY f r S = .ok ⟨ofN ((List.range (m - n)).map fun i=>n + i),fun _=>True⟩ S:=by
 rw [itR (by omega) (by omega) (by omega) (by omega) e]
 congr 2
 unfold YF ofN
 rw [show ((m:Int) - (n:Int)).toNat=m - n by omega,List.map_map]
 refine List.map_congr_left fun i _ => ?_
 show PV.int ((n:Int) + (i:Int))=PV.int ((n + i:Nat):Int)
 rw [Int.natCast_add]
theorem zC {lo n hi:Int} {r:q9} {st:qC} {f g h:FE} (e1:f r st = .ok (.int lo) st) (e2:g r st = .ok (.int n) st) (e3:h r st = .ok (.int hi) st):w4 gLe gLe f g h r st = .ok (.bl (decide (lo≤n)&&decide (n≤hi))) st:=by
 unfold w4
 rw [e1]
 show (g r st).bind _=_
 rw [e2]
 show ((gLe (.int lo) (.int n) st).bind fun z s3=>match z with | .bl true=>(h r s3).bind fun q s=>gLe (.int n) q s | .bl false=>Rs.ok (.bl false) s3 |_ => .no)=_
 rw [qF4]
 show (match PV.bl (decide (lo≤n)) with | .bl true=>(h r st).bind fun q s=>gLe (.int n) q s | .bl false=>Rs.ok (.bl false) st |_ => .no)=_
 cases decide (lo≤n)
 ·rfl
 ·dsimp only
  rw [e3]
  exact qF4
def okP:PV->Bool
 | .tup l=>Nat.ble l.length 1000&&l.all wq
 |p=>wq p
def is2:PV->Bool
 | .tup [.int _,.int _]=>true
 |_=>false
theorem yM {v:PV} (h:okP v=true):wq v=true:=by cases v <;> first |rfl |exact h
theorem yk {a:Ad} {v:PV} {st:qC} (h:wq v=true):QN (kit a) [v,.ty "tuple"] st = .ok (.bl (match v with | .tup _=>true |_=>false)) st:=by
 cases v <;> first |rfl |cases h
theorem yQ {f:PV->Bool} {l:List PV} {st:qC}:Z6 [.lst (l.map fun p => .bl (f p))] st = .ok (.bl (l.all f)) st:=by
 unfold Z6 Zo
 simp only [asL]
 rw [YX]
 show Rs.ok (PV.bl ((l.map f).all id)) st=_
 rw [List.all_map]
 rfl
theorem qIj (p q:PV):(isInt p&&(isInt q&&true))=is2 (.tup [p,q]):=by cases p <;> cases q <;> rfl
theorem qIY {l:List PV} (h:l.length≠2):is2 (.tup l)=false:=by
 match l,h with
 |[],_=>rfl
 |[p],_=>cases p <;> rfl
 |[_,_],h=>exact absurd rfl h
 |_::_::_::_,_=>unfold is2;split <;> first |rfl |(rename_i e;cases e)
theorem qIi {a:Ad} {v:PV} {st:qC} (h:okP v=true):wm a [v,.int 2,.int 2] st = .ok (.bl (is2 v)) st:=by
 refine Qe rfl (Qq ?_)
 unfold Zf
 rw [qN (l:=[v,.ty "tuple"]) (s1:=st) rfl (yk (yM h))]
 cases v with
 |tup l =>
  have h:(Nat.ble l.length 1000&&l.all wq)=true:=h
  rw [Bool.and_eq_true,List.all_eq_true] at h
  show (w4 gLe gLe (qB 1) (qI W7 (qA (qB 0) qD)) (qB 2) (QV 3 [.tup l,.int 2,.int 2]) st).bind _=_
  rw [zC (lo:=2) (n:=l.length) (hi:=2) rfl (qN rfl (ZI rfl rfl)) rfl]
  by_cases q:l.length=2
  ·rw [show (decide ((2:Int)≤(l.length:Int))&&decide ((l.length:Int)≤2))=true by rw [q];rfl]
   show qI Z6 _ _ _=_
   refine qN (l:=[.lst (l.map fun p => .bl (isInt p))]) (qJ (wf (QW (w:=⟨l,fun _=>True⟩) (F:=fun p => .bl (isInt p)) (wC rfl) trivial (sz h.1) fun p hp=>⟨[some p],rfl,qN rfl (Zb (h.2 p hp))⟩)) qa) ?_
   rw [yQ]
   congr 2
   match l,q with
   |[p,q],_=>exact qIj p q
  ·rw [show (decide ((2:Int)≤(l.length:Int))&&decide ((l.length:Int)≤2))=false by
    rw [Bool.and_eq_false_iff]
    rcases Nat.lt_or_ge l.length 2 with z |z
    ·exact .inl (decide_eq_false (by omega))
    ·exact .inr (decide_eq_false (by omega)),qIY q]
   rfl
 |_=>rfl
def isS:PV->Bool
 | .tup [.int l,.int p]=>(decide (1≤l)&&decide (l≤9))&&(decide (0≤p)&&decide (p≤1000000000000))
 |_=>false
theorem qGx {v:PV} (h:is2 v=false):isS v=false:=by
 unfold isS
 split
 ·cases h
 ·rfl
theorem qAT {a:Ad} {v:PV} {st:qC} (h:okP v=true):ZM a [v] st = .ok (.bl (isS v)) st:=by
 refine Qe rfl (Qq ?_)
 unfold Zf
 rw [qN (l:=[v,.int 2,.int 2]) (s1:=st) rfl (qIi h)]
 cases h2:is2 v with
 |false=>rw [qGx h2];rfl
 |true =>
  unfold is2 at h2
  split at h2
  ·rename_i x y
   show ((w4 gLe gLe (vC (.int 1)) (qL gIx (qB 0) (vC (.int 0))) (vC (.int 9)) (QV 1 [.tup [.int x,.int y]]) st).bind _)=_
   rw [zC (lo:=1) (n:=x) (hi:=9) rfl rfl rfl]
   show _=Rs.ok (PV.bl ((decide (1≤x)&&decide (x≤9))&&(decide (0≤y)&&decide (y≤1000000000000)))) st
   cases (decide (1≤x)&&decide (x≤9))
   ·rfl
   ·show w4 gLe gLe (vC (.int 0)) (qL gIx (qB 0) (vC (.int 1))) (vC (.int 1000000000000)) (QV 1 [.tup [.int x,.int y]]) st=_
    rw [zC (lo:=0) (n:=y) (hi:=1000000000000) rfl rfl rfl]
    rfl
  ·cases h2
def qB0 (xs:List Int):Bool:=(List.range (xs.length - 1)).all fun i=>decide (xs.getD i 0 < xs.getD (i + 1) 0)
theorem qBj {a:Ad} {xs:List Int} {st:qC} (h1:1≤xs.length) (h2:xs.length≤100):ze a [.lst (xs.map PV.int)] st = .ok (.bl (qB0 xs)) st:=by
 refine Qe rfl (Qq ?_)
 let F:PV->PV:=fun p=>match p with | .int t => .bl (decide (xs.getD (t.toNat - 1) 0 < xs.getD t.toNat 0)) |_ => .non
 refine qN (l:=[.lst ((ofN ((List.range (xs.length - 1)).map fun i=>1 + i)).map F)]) (qJ (wf (QW (w:=⟨ofN ((List.range (xs.length - 1)).map fun i=>1 + i),fun _=>True⟩) (F:=F) (qAq (n:=1) (m:=xs.length) (by omega) (by omega) (qJ rfl (qJ (qN (l:=[.lst (xs.map PV.int)]) rfl (ZI (l:=xs.map PV.int) rfl (by rw [List.length_map]))) qa))) trivial (by unfold ofN;rw [List.length_map,List.length_map,List.length_range];exact Nat.le_trans (Nat.sub_le _ _) (Nat.le_trans h2 (by decide))) fun p hp => ?_)) qa) ?_
 ·obtain ⟨t,ht,rfl⟩:=List.mem_map.mp hp
  obtain ⟨i,hi,rfl⟩:=List.mem_map.mp ht
  have hi:=List.mem_range.mp hi
  refine ⟨[some (.lst (xs.map PV.int)),some (.int ((1 + i:Nat):Int))],rfl,?_⟩
  have e1:=qAS (l:=xs) (L:=(xs.length:Int)) (i:=((1 + i:Nat):Int) - 1) (st:=st) (by omega) (by omega) (by omega)
  have e2:=qAS (l:=xs) (L:=(xs.length:Int)) (i:=((1 + i:Nat):Int)) (st:=st) (by omega) (by omega) (by omega)
  refine qT (qT rfl (qT rfl rfl W0) e1) (qT rfl rfl e2) ?_
  rw [w_lt]
  show _=Rs.ok (PV.bl (decide (xs.getD ((((1 + i:Nat):Int)).toNat - 1) 0 < xs.getD (((1 + i:Nat):Int)).toNat 0))) st
  rw [show (((1 + i:Nat):Int) - 1).toNat=(((1 + i:Nat):Int)).toNat - 1 by omega]
 ·have e:(ofN ((List.range (xs.length - 1)).map fun i=>1 + i)).map F=(ofN (List.range (xs.length - 1))).map fun p => .bl ((fun p=>match p with | .int t=>decide (xs.getD t.toNat 0 < xs.getD (t.toNat + 1) 0) |_=>false) p):=by
   unfold ofN
   rw [List.map_map,List.map_map,List.map_map]
   refine List.map_congr_left fun i _ => ?_
   show PV.bl (decide (xs.getD ((((1 + i:Nat):Int)).toNat - 1) 0 < xs.getD (((1 + i:Nat):Int)).toNat 0))=PV.bl (decide (xs.getD ((i:Int)).toNat 0 < xs.getD (((i:Int)).toNat + 1) 0))
   rw [Int.toNat_natCast,Int.toNat_natCast,show 1 + i - 1=i by omega,Nat.add_comm 1 i]
  rw [e,yQ]
  congr 2
  unfold ofN qB0
  rw [List.all_map]
  rfl
theorem qHB {s:Int×Int} (h:1≤s.1∧s.1≤9∧0≤s.2∧s.2≤1000000000000):isS (qx s)=true:=by
 show ((decide (1≤s.1)&&decide (s.1≤9))&&(decide (0≤s.2)&&decide (s.2≤1000000000000)))=true
 rw [decide_eq_true h.1,decide_eq_true h.2.1,decide_eq_true h.2.2.1,decide_eq_true h.2.2.2];rfl
theorem qDc {a:Ad} {l:List PV} {st:qC} {r:q9} (hr:r[0]? = some (some (.tup l))) (hl:l.length≤1000) (h:∀ p∈l,okP p=true):qI Z6 (qA (vFz (qm [] 1 (QA (qB 0)) (QR 0) [] [] (qI (ZM a) (qA (qB 0) qD)))) qD) r st = .ok (.bl (l.all isS)) st :=
 qN (l:=[.lst (l.map fun p => .bl (isS p))]) (qJ (wf (QW (w:=⟨l,fun _=>True⟩) (F:=fun p => .bl (isS p)) (wC (qFk hr)) trivial (Nat.le_trans hl (by decide)) fun p hp=>⟨[some p],rfl,qN rfl (qAT (h p hp))⟩)) qa) yQ
def okV:PV->Bool
 | .tup l=>Nat.ble l.length 1000&&l.all okP
 |p=>wq p
theorem qBc {v:PV} (h:okV v=true):wq v=true:=by cases v <;> first |rfl |exact h
def qBt (l:List PV):Bool:=decide (1≤l.length)&&decide (l.length≤4)
theorem qCM {a:Ad} {v:PV} {st:qC} (h:okV v=true) (hn:∀ l,v = .tup l->(qBt l&&l.all isS)=false):Qu a [v] st = .ok (.bl false) st:=by
 refine Qe rfl ?_
 unfold Wk
 have e1:=yk (a:=a) (st:=st) (qBc h)
 cases v with
 |tup l =>
  have h:(Nat.ble l.length 1000&&l.all okP)=true:=h
  rw [Bool.and_eq_true,List.all_eq_true] at h
  have hl:l.length≤1000:=Nat.le_of_ble_eq_true h.1
  have e1:QN (kit a) [.tup l,.ty "tuple"] st = .ok (.bl true) st:=e1
  have e2:=zC (lo:=1) (n:=l.length) (hi:=4) (r:=QV 1 [.tup l]) (st:=st) (f:=vC (.int 1)) (g:=qI W7 (qA (qB 0) qD)) (h:=vC (.int 4)) rfl (qN (l:=[.tup l]) rfl (ZI rfl rfl)) rfl
  have e3:=qDc (a:=a) (l:=l) (st:=st) (r:=QV 1 [.tup l]) rfl hl h.2
  have hn:=hn l rfl
  have ef:(decide ((1:Int)≤(l.length:Int))&&decide ((l.length:Int)≤4))=qBt l:=by
   unfold qBt
   rw [decide_eq_decide.mpr (show (1:Int)≤(l.length:Int) ↔ 1≤l.length by omega),decide_eq_decide.mpr (show (l.length:Int)≤4 ↔ l.length≤4 by omega)]
  rw [ef] at e2
  cases hf:qBt l with
  |false =>
   rw [hf] at e2
   exact Q3 (wW (w5 (w_not (b:=true) (qo (qN (l:=[.tup l,.ty "tuple"]) rfl e1))) (Wz (w_not (b:=false) (Wx e2)))) (Qq rfl))
  |true =>
   rw [hf] at e2 hn
   rw [show l.all isS=false from hn] at e3
   exact Q3 (wW (w5 (w_not (b:=true) (qo (qN (l:=[.tup l,.ty "tuple"]) rfl e1))) (w5 (w_not (b:=true) (Wx e2)) (w_not (b:=false) (qo e3)))) (Qq rfl))
 |non=>exact Q3 (wW (Wz (w_not (b:=false) (qo (qN (l:=[.non,.ty "tuple"]) rfl e1)))) (Qq rfl))
 |bl x=>exact Q3 (wW (Wz (w_not (b:=false) (qo (qN (l:=[.bl x,.ty "tuple"]) rfl e1)))) (Qq rfl))
 |int x=>exact Q3 (wW (Wz (w_not (b:=false) (qo (qN (l:=[.int x,.ty "tuple"]) rfl e1)))) (Qq rfl))
 |str x=>exact Q3 (wW (Wz (w_not (b:=false) (qo (qN (l:=[.str x,.ty "tuple"]) rfl e1)))) (Qq rfl))
 |lst x=>exact Q3 (wW (Wz (w_not (b:=false) (qo (qN (l:=[.lst x,.ty "tuple"]) rfl e1)))) (Qq rfl))
 |dct=>exact Q3 (wW (Wz (w_not (b:=false) (qo (qN (l:=[.dct,.ty "tuple"]) rfl e1)))) (Qq rfl))
 |_=>cases h
theorem ZT {a:Ad} {S:List (Int×Int)} {st:qC} (h1:1≤S.length) (h2:S.length≤4) (hb:∀ s∈S,1≤s.1∧s.1≤9∧0≤s.2∧s.2≤1000000000000):Qu a [sP S] st = .ok (.bl (qB0 (S.map (·.1)))) st:=by
 refine Qe rfl ?_
 unfold Wk
 have e1:QN (kit a) [sP S,.ty "tuple"] st = .ok (.bl true) st:=rfl
 have e2:=zC (lo:=1) (n:=S.length) (hi:=4) (r:=QV 1 [sP S]) (st:=st) (f:=vC (.int 1)) (g:=qI W7 (qA (qB 0) qD)) (h:=vC (.int 4)) rfl (qN (l:=[sP S]) rfl (ZI (l:=S.map qx) rfl (by rw [List.length_map]))) rfl
 rw [show (decide ((1:Int)≤(S.length:Int))&&decide ((S.length:Int)≤4))=true by rw [decide_eq_true (by omega),decide_eq_true (by omega)];rfl] at e2
 have e3:=qDc (a:=a) (l:=S.map qx) (st:=st) (r:=QV 1 [sP S]) rfl (by rw [List.length_map];omega) (fun p hp=>by obtain ⟨s,_,rfl⟩:=List.mem_map.mp hp;rfl)
 rw [show (S.map qx).all isS=true by
  rw [List.all_eq_true];intro p hp
  obtain ⟨s,hs,rfl⟩:=List.mem_map.mp hp
  exact qHB (hb s hs)] at e3
 refine qh (w6 (w5 (w_not (b:=true) (qo (qN (l:=[sP S,.ty "tuple"]) rfl e1))) (w5 (w_not (b:=true) (Wx e2)) (w_not (b:=true) (qo e3)))) rfl) (Qq ?_)
 let F:PV->PV:=fun p=>match p with | .tup [.int x,_] => .int x |_ => .non
 refine qN (l:=[.lst ((S.map (·.1)).map PV.int)]) (qJ (wf ?_) qa) (qBj (by rw [List.length_map];exact h1) (by rw [List.length_map];omega))
 have e4:=QW (caps:=[]) (n:=2) (fi:=QA (qB 0)) (g:=WS 2 (qp (QR 0) (qp (QR 1) WW))) (f:=qB 0) (r:=QV 1 [sP S]) (st:=st) (w:=⟨S.map qx,fun _=>True⟩) (F:=F) rfl trivial (by rw [List.length_map];exact Nat.le_trans h2 (by decide)) fun p hp=>by
  obtain ⟨s,_,rfl⟩:=List.mem_map.mp hp
  exact ⟨[some (.int s.1),some (.int s.2)],rfl,rfl⟩
 rw [e4,List.map_map,List.map_map]
 rfl
theorem qF2 {xs:List Int} (h:xs.Pairwise (· < ·)):qB0 xs=true:=by
 unfold qB0
 rw [List.all_eq_true]
 intro i hi
 have hi:=List.mem_range.mp hi
 have h1:i < xs.length:=by omega
 have h2:i + 1 < xs.length:=by omega
 rw [List.getD_eq_getElem?_getD,List.getD_eq_getElem?_getD,List.getElem?_eq_getElem h1,List.getElem?_eq_getElem h2]
 exact decide_eq_true (List.pairwise_iff_getElem.mp h i (i + 1) h1 h2 (Nat.lt_succ_self i))
theorem Yx {a:Ad} {S:List (Int×Int)} {st:qC} (R:Srt S):Qu a [sP S] st = .ok (.bl true) st:=by
 rw [ZT R.lo R.hi R.b,qF2 R.ris]
theorem ZX {a:Ad} {v:PV} {st:qC} (h:wq v=true):WD a [v,.int 0,.int 200] st=if Zh 0 200 v=true then .ok .non st else .ex ⟨a.NoNumber,[]⟩ st:=by
 unfold WD QB
 rw [if_pos (show [v,PV.int 0,.int 200].length=3 from rfl)]
 unfold Wv wN WP Qw
 rw [wj (l:=[v,.int 0,.int 200]) (st':=st) rfl,qCr h]
 cases hw:Zh 0 200 v <;> rfl
theorem jW {k:List PV->qC->Rs PV} {fa:FA} {r:q9} {st s1:qC} {l:List PV} {x:Exc} {s2:qC} (h:fa r st = .ok l s1) (h2:k l s1 = .ex x s2):qI k fa r st = .ex x s2:=by rw [wj h];exact h2
theorem qBR {a:Ad} {S:List (Int×Int)} {c:Nat} {st:qC} (R:Srt S) (hc:c≤200):wb a [sP S,.int (c:Int)] st = .ok .non st:=by
 refine qCF (r1:=[some (sP S),some (.int (c:Int))]) rfl ?_
 unfold WK
 refine qh (w6 (w_not (b:=true) (qo (qN (l:=[sP S]) rfl (Yx R)))) rfl) (qAM (p := .non) (qN (l:=[.int (c:Int),.int 0,.int 200]) rfl ?_))
 rw [ZX rfl,if_pos (by show (decide ((0:Int)≤(c:Int))&&decide ((c:Int)≤200))=true;rw [decide_eq_true (by omega),decide_eq_true (by omega)];rfl)]
theorem qAD {a:Ad} {v u:PV} {st:qC} (h:Qu a [v] st = .ok (.bl false) st):wb a [v,u] st = .ex ⟨a.NoSorts,[]⟩ st:=by
 refine yL rfl ?_
 unfold WK
 refine JB ?_
 unfold wN
 rw [w_not (b:=false) (qo (qN (l:=[v]) (s1:=st) rfl h))]
 rfl
theorem qAP {a:Ad} {S:List (Int×Int)} {u:PV} {st:qC} (R:Srt S) (hp:wq u=true) (hu:Zh 0 200 u=false):wb a [sP S,u] st = .ex ⟨a.NoNumber,[]⟩ st:=by
 refine yL rfl ?_
 unfold WK
 refine qh (w6 (w_not (b:=true) (qo (qN (l:=[sP S]) rfl (Yx R)))) rfl) (Yz (jW (l:=[u,.int 0,.int 200]) rfl ?_))
 rw [ZX hp,hu]
 rfl
abbrev Ln:=Option (Int×List Int)
def Qc (x:Int×List Int):PV := .tup [.int x.1,.tup (x.2.map PV.int)]
def lnP:Ln->PV
 |some x=>Qc x
 |none => .non
theorem Y7:∀ t u:List Int,∃ r,plts (t.map PV.int) (u.map PV.int)=some r
 |[],[]=>⟨false,by simp only [List.map_nil,plts]⟩
 |[],_::_=>⟨true,by simp only [List.map_nil,List.map_cons,plts]⟩
 |_::_,[]=>⟨false,by simp only [List.map_nil,List.map_cons,plts]⟩
 |x::t,y::u=>by
  obtain ⟨r,h⟩:=Y7 t u
  rw [List.map_cons,List.map_cons,plts]
  cases peq (.int x) (.int y) with
  |true=>exact ⟨r,h⟩
  |false=>exact ⟨decide (x < y),by rw [if_neg (by decide),plt]⟩
theorem qDM (x y:Int×List Int):∃ r,plt (Qc x) (Qc y)=some r∧(r=true->x.1≤y.1)∧(r=false->y.1≤x.1):=by
 unfold Qc
 rw [plt,plts]
 by_cases h:x.1=y.1
 ·have e:peq (.int x.1) (.int y.1)=true:=by rw [h];show (y.1==y.1)=true;exact beq_self_eq_true _
  rw [e,if_pos rfl,plts]
  cases peq (.tup (x.2.map PV.int)) (.tup (y.2.map PV.int)) with
  |true=>exact ⟨false,by rw [if_pos rfl,plts],fun _=>by omega,fun _=>by omega⟩
  |false =>
   obtain ⟨r,hr⟩:=Y7 x.2 y.2
   exact ⟨r,by rw [if_neg (by decide),plt];exact hr,fun _=>by omega,fun _=>by omega⟩
 ·have e:peq (.int x.1) (.int y.1)=false:=by show (x.1==y.1)=false;exact beq_eq_false_iff_ne.mpr h
  rw [e,if_neg (by decide),plt]
  exact ⟨decide (x.1 < y.1),rfl,fun z=>by have:=of_decide_eq_true z;omega,fun z=>by have:=of_decide_eq_false z;omega⟩
def ltB (x y:Int×List Int):Bool:=plt (Qc x) (Qc y)==some true
def Zp (b x:Int×List Int):Int×List Int:=if ltB x b=true then x else b
def Z0:List (Int×List Int)->Ln
 |[]=>none
 |b::l=>some (l.foldl Zp b)
theorem Jz:∀ (l:List (Int×List Int)) (b:Int×List Int),l.foldl Zp b∈b::l
 |[],b=>List.mem_cons_self
 |y::l,b=>by
  rw [List.foldl_cons]
  have:=Jz l (Zp b y)
  unfold Zp at this ⊢
  split at this
  ·rename_i h
   rw [if_pos h]
   exact List.mem_cons_of_mem _ this
  ·rename_i h
   rw [if_neg h]
   rcases List.mem_cons.mp this with e |e
   ·rw [e];exact List.mem_cons_self
   ·exact List.mem_cons_of_mem _ (List.mem_cons_of_mem _ e)
theorem Jy {l:List (Int×List Int)} {b:Int×List Int} (h:Z0 l=some b):b∈l:=by
 cases l with
 |nil=>cases h
 |cons x l=>cases h;exact Jz l x
theorem Y3:∀ l:List (Int×List Int),nrs (l.map Qc)=true
 |[]=>rfl
 |x::l=>by
  have h:∀ u:List Int,nrs (u.map PV.int)=true:=fun u=>by
   induction u with
   |nil=>rfl
   |cons y u ih=>rw [List.map_cons,nrs,ih];rfl
  rw [List.map_cons,nrs,Y3 l,Bool.and_true]
  show nr (.tup [.int x.1,.tup (x.2.map PV.int)])=true
  simp [nr,nrs,h]
theorem Zl:∀ u:List Int,deps (u.map PV.int)=0
 |[]=>rfl
 |x::u=>by rw [List.map_cons,deps,Zl u];rfl
theorem qCa (x:Int×List Int):dep (Qc x)=2:=by
 show dep (.tup [.int x.1,.tup (x.2.map PV.int)])=2
 simp [dep,deps,Zl]
theorem JH {caps:List Nat} {n:Nat} {fi:FI} {g:FG} {t:FT} {f:FE} {r:q9} {st:qC} {w:ItP} {c:PV->Bool} {F:PV->PV} (hfi:fi r st = .ok w st) (hG:w.G st) (hl:w.l.length≤sizeLine)
  (h:∀ p∈w.l,∃ r',g p (Wc caps n r)=some r'∧t r' st = .ok (c p) st∧(c p=true->f r' st = .ok (F p) st)):qm caps n fi g [t] [] f r st = .ok ((w.l.filter c).map F) st:=by
 unfold qm
 rw [hfi]
 show (match qi w.G (Qd ⟨fi,g,[t]⟩ (Qn [] f) (Wc caps n r)) w.l st with | .ok l s'=>if l.length≤sizeLine then Rs.ok l s' else Rs.no |_=>Rs.no)=_
 rw [WG (F:=fun p=>if c p=true then [F p] else []) hG fun p hp=>by
  obtain ⟨r',h1,h2,h3⟩:=h p hp
  unfold Qd
  show (match g p (Wc caps n r) with |none=>_ |some r'=>_)=_
  rw [h1]
  show (wz [t] r' st).bind _=_
  unfold wz wz
  rw [h2]
  cases hc:c p
  ·rfl
  ·show (Qn [] f) r' st=_
   unfold Qn
   rw [h3 hc];rfl]
 have e:∀ l:List PV,l.flatMap (fun p=>if c p=true then [F p] else [])=(l.filter c).map F:=fun l=>by
  induction l with
  |nil=>rfl
  |cons p l ih =>
   rw [List.flatMap_cons,ih,List.filter_cons]
   cases c p <;> rfl
 rw [e]
 dsimp only
 rw [if_pos (by rw [List.length_map];exact Nat.le_trans (List.length_filter_le _ _) hl)]
theorem mid {s:qC} {x:SO} {g:qC} {n:Nat} (hn:n=s.length):(s++x::g)[n]? = some x:=by subst hn;rw [List.getElem?_append_right (Nat.le_refl _),Nat.sub_self];rfl
theorem jM {s:qC} {x y:SO} {g:qC} {n:Nat} (hn:n=s.length):(s++x::g).set n y=s++y::g:=by subst hn;rw [List.set_append_right _ _ (Nat.le_refl _),Nat.sub_self];rfl
theorem qDa {l:List PV} {i:Nat} {p:PV} (h:l[i]? = some p):L2.atI l (i:Int)=some p:=by
 have hi:=(List.getElem?_eq_some_iff.mp h).1
 unfold L2.atI L2.ixN
 rw [if_pos (by omega),if_pos (by omega)]
 show l[((i:Int)).toNat]? = _
 rw [Int.toNat_natCast];exact h
def opF (L:List Ln) (m:Nat) (S:List (Int×Int)):List (Int×List Int):=(S.filter fun s=>decide (s.1≤(m:Int))).filterMap fun s=>match L.getD (m - s.1.toNat) none with
 |some p=>some (s.2 + p.1,s.1::p.2)
 |none=>none
def qU (S:List (Int×Int)):Nat->List Ln
 |0=>[some (0,[])]
 |m + 1=>qU S m++[Z0 (opF (qU S m) (m + 1) S)]
theorem Q6 (S:List (Int×Int)):∀ m,(qU S m).length=m + 1
 |0=>rfl
 |m + 1=>by unfold qU;rw [List.length_append,Q6 S m];rfl
structure Hs (S:List (Int×Int)):Prop where
 hi:S.length≤4
 b:∀ s∈S,1≤s.1∧s.1≤9
theorem Srt.hs {S:List (Int×Int)} (R:Srt S):Hs S:=⟨R.hi,fun s hs=>⟨(R.b s hs).1,(R.b s hs).2.1⟩⟩
theorem qDg {L:List Ln} {m:Nat} {S:List (Int×Int)} {x:Int×List Int} (h:x∈opF L m S):∃ s p,s∈S∧s.1≤(m:Int)∧L.getD (m - s.1.toNat) none=some p∧x=(s.2 + p.1,s.1::p.2):=by
 unfold opF at h
 obtain ⟨s,hs,e⟩:=List.mem_filterMap.mp h
 obtain ⟨h1,h2⟩:=List.mem_filter.mp hs
 split at e
 ·rename_i p hp
  cases e
  exact ⟨s,p,h1,of_decide_eq_true h2,hp,rfl⟩
 ·cases e
theorem ZA {S:List (Int×Int)} (H:Hs S):∀ (m i:Nat) (p:Int×List Int),(qU S m).getD i none=some p->p.2.length≤i
 |0,i,p,h=>by
  cases i with
  |zero=>cases h;exact Nat.le_refl _
  |succ i=>cases h
 |m + 1,i,p,h=>by
  unfold qU at h
  rw [List.getD_eq_getElem?_getD] at h
  by_cases hi:i < (qU S m).length
  ·rw [List.getElem?_append_left hi,← List.getD_eq_getElem?_getD] at h
   exact ZA H m i p h
  ·rw [List.getElem?_append_right (by omega)] at h
   have hl:=Q6 S m
   by_cases h0:i - (qU S m).length=0
   ·rw [h0] at h
    have h:Z0 (opF (qU S m) (m + 1) S)=some p:=h
    obtain ⟨s,q,h1,h2,h3,rfl⟩:=qDg (Jy h)
    have:=ZA H m _ q h3
    have:=H.b s h1
    show (s.1::q.2).length≤i
    rw [List.length_cons]
    omega
   ·obtain ⟨k,hk⟩:=Nat.exists_eq_succ_of_ne_zero h0
    rw [hk] at h
    cases h
def frC (m:Nat):PV->Bool
 | .tup [.int l,.int _]=>decide (l≤(m:Int))
 |_=>false
theorem qA1 {l:List PV} {n:Nat} {p:PV} (hl:l.length=n + 1) (h:l[n]? = some p):L2.atI l (-1)=some p:=by
 unfold L2.atI L2.ixN
 rw [if_neg (by decide),if_pos (by omega)]
 show l[((-1:Int) + (l.length:Int)).toNat]? = _
 rw [show ((-1:Int) + (l.length:Int)).toNat=n by omega];exact h
theorem ZN:∀ l:List Int,WI jd (l.map PV.int)=some l
 |[]=>rfl
 |p::l=>by simp only [List.map_cons,WI,jd,ZN l]
def lnC:PV->Bool
 | .non=>false
 |_=>true
def prP:PV->PV
 | .tup [.int p,_] => .int p
 |_ => .non
def zS (L:List Ln):List Int:=L.filterMap fun ln=>ln.map (·.1)
def htF (D:Int) (L:List Ln):List Int:=L.map fun ln=>match ln with |none=>D |some p=>p.1
theorem qAE:∀ L:List Ln,((L.map lnP).filter lnC).map prP=(zS L).map PV.int
 |[]=>rfl
 |none::L=>by
  have:=qAE L
  unfold zS at this ⊢
  rw [List.map_cons,List.filter_cons,List.filterMap_cons]
  exact this
 |some p::L=>by
  have:=qAE L
  unfold zS at this ⊢
  rw [List.map_cons,List.filter_cons,List.filterMap_cons]
  show prP (Qc p)::_=PV.int p.1::_
  rw [this]
  rfl
theorem qG4 {l:List Int} (h:l≠[]):∃ d,l.max? = some d ∧ ∀ x∈l,x≤d:=by
 cases l with
 |nil=>exact absurd rfl h
 |cons y l =>
  refine ⟨l.foldl max y,rfl,?_⟩
  have go:∀ (l:List Int) (y:Int),y≤l.foldl max y ∧ ∀ x∈l,x≤l.foldl max y:=fun l=>by
   induction l with
   |nil=>exact fun y=>⟨Int.le_refl _,fun x hx=>(List.not_mem_nil hx).elim⟩
   |cons z l ih =>
    intro y
    obtain ⟨h1,h2⟩:=ih (max y z)
    rw [List.foldl_cons]
    have e1:y≤max y z:=Int.le_max_left y z
    have e2:z≤max y z:=Int.le_max_right y z
    refine ⟨by omega,fun x hx => ?_⟩
    rcases List.mem_cons.mp hx with rfl |hx
    ·omega
    ·exact h2 x hx
  intro x hx
  rcases List.mem_cons.mp hx with rfl |hx
  ·exact (go l x).1
  ·exact (go l y).2 x hx
theorem qIb (ln:Ln) {s:qC}:yf true (lnP ln) .non s = .ok (.bl ln.isSome) s:=by cases ln <;> rfl
theorem qD1 (ln:Ln):lnC (lnP ln)=ln.isSome:=by cases ln <;> rfl
def wh (c:Nat):PV->Bool
 | .tup l=>decide (l.length=c)&&l.all isInt
 |_=>false
theorem whs {a:Ad} {v:PV} {st:qC} {c:Nat} (h:okP v=true):wm a [v,.int (c:Int),.int (c:Int)] st = .ok (.bl (wh c v)) st:=by
 refine Qe rfl (Qq ?_)
 unfold Zf
 rw [qN (l:=[v,.ty "tuple"]) (s1:=st) rfl (yk (yM h))]
 cases v with
 |tup l =>
  have h:(Nat.ble l.length 1000&&l.all wq)=true:=h
  rw [Bool.and_eq_true,List.all_eq_true] at h
  show (w4 gLe gLe (qB 1) (qI W7 (qA (qB 0) qD)) (qB 2) (QV 3 [.tup l,.int (c:Int),.int (c:Int)]) st).bind _=_
  rw [zC (lo:=(c:Int)) (n:=l.length) (hi:=(c:Int)) rfl (qN rfl (ZI rfl rfl)) rfl]
  by_cases q:l.length=c
  ·rw [show (decide ((c:Int)≤(l.length:Int))&&decide ((l.length:Int)≤(c:Int)))=true by rw [q,decide_eq_true (Int.le_refl _)];rfl]
   show qI Z6 _ _ _=_
   refine qN (l:=[.lst (l.map fun p => .bl (isInt p))]) (qJ (wf (QW (w:=⟨l,fun _=>True⟩) (F:=fun p => .bl (isInt p)) (wC rfl) trivial (sz h.1) fun p hp=>⟨[some p],rfl,qN rfl (Zb (h.2 p hp))⟩)) qa) ?_
   rw [yQ]
   show _=Rs.ok (PV.bl (decide (l.length=c)&&l.all isInt)) st
   rw [decide_eq_true q];rfl
  ·rw [show (decide ((c:Int)≤(l.length:Int))&&decide ((l.length:Int)≤(c:Int)))=false by
    rw [Bool.and_eq_false_iff]
    rcases Nat.lt_or_ge l.length c with z |z
    ·exact .inl (decide_eq_false (by omega))
    ·exact .inr (decide_eq_false (by omega))]
   show Rs.ok (PV.bl false) st=Rs.ok (PV.bl (decide (l.length=c)&&l.all isInt)) st
   rw [decide_eq_false q];rfl
 |_=>rfl
theorem ZU:∀ {l:List PV},l.all isInt=true -> ∃ ns:List Int,l=ns.map PV.int
 |[],_=>⟨[],rfl⟩
 |p::l,h=>by
  rw [List.all_cons,Bool.and_eq_true] at h
  obtain ⟨ns,rfl⟩:=ZU h.2
  cases p with
  |int i=>exact ⟨i::ns,rfl⟩
  |_=>cases h.1
def win (ns:List Int) (f L:Nat):Int:=((ns.drop f).take L).sum
def Z8 (ns:List Int) (c:Nat) (s:Int×Int):Bool:=(List.range (c + 1 - s.1.toNat)).any fun f=>decide (win ns f s.1.toNat > s.2)
theorem qEy {ns:List Int} {f L:Nat} (h:f + L≤ns.length):QQ (ns.map PV.int) (some (f:Int)) (some ((f:Int) + (L:Int)))=((ns.drop f).take L).map PV.int:=by
 unfold QQ
 rw [show ((f:Int) + (L:Int))=((f + L:Nat):Int) by omega,HT.sIx_nat,HT.sIx_nat,List.length_map,show min f ns.length=f by omega,show min (f + L) ns.length=f + L by omega,show f + L - f=L by omega,← List.map_drop,← List.map_take]
theorem qHJ {f:PV->Bool} {l:List PV} {st:qC}:qAW [.lst (l.map fun p => .bl (f p))] st = .ok (.bl (l.any f)) st:=by
 unfold qAW Zo
 simp only [asL]
 rw [YX]
 show Rs.ok (PV.bl ((l.map f).any id)) st=_
 rw [List.any_map]
 rfl
theorem qAz {ns:List Int} {st:qC}:y0 [.tup (ns.map PV.int)] st = .ok (.int ns.sum) st:=by
 unfold y0
 dsimp only
 rw [ZN]
theorem itZ {L:Int} {r:q9} {st s1:qC} {f:FA} (h1:-1000≤L) (h2:L≤1000) (hf:f r st = .ok [.int L] s1):(Wq f) r st = .ok ⟨(zZ L).map PV.int,fun _=>True⟩ s1:=by
 unfold Wq
 rw [hf]
 show yT [.int L] s1=_
 unfold yT
 dsimp only
 rw [if_pos (by omega),j9]
def wF (ns:List Int) (s:Int×Int):PV->Bool
 | .int t=>decide (win ns t.toNat s.1.toNat > s.2)
 |_=>false
theorem qED {ns:List Int} {c:Nat} {s:Int×Int} (h1:1≤s.1):((zZ ((c:Int) - s.1 + 1)).map PV.int).any (wF ns s)=Z8 ns c s:=by
 unfold zZ Z8
 rw [List.any_map,List.any_map,show ((c:Int) - s.1 + 1).toNat=c + 1 - s.1.toNat by omega]
 congr 1
noncomputable def pC:FE:=(qI qAW (qA (vFz (qm [4,2,3] 1 (Wq (qA (qL qz (qL WL (qB 1) (qB 3)) (vC (.int 1))) qD)) (QR 3) [] [] (qL gGt (qI y0 (qA (yG (qB 1) (Qh (qB 3)) (Qh (qL qz (qB 3) (qB 2)))) qD)) (qB 0)))) qD))
theorem qHq {ns:List Int} {c:Nat} (hl:ns.length=c) (hc:c≤200) {s:Int×Int} (h1:1≤s.1) (h2:s.1≤9) {x0:Option PV} {st:qC}:pC [x0,some (.int (c:Int)),some (.tup (ns.map PV.int)),some (.int s.1),some (.int s.2)] st = .ok (.bl (Z8 ns c s)) st:=by
 rw [← qED h1]
 refine qN (l:=[.lst (((zZ ((c:Int) - s.1 + 1)).map PV.int).map fun p => .bl (wF ns s p))]) (qJ (wf (QW (w:=⟨(zZ ((c:Int) - s.1 + 1)).map PV.int,fun _=>True⟩) (F:=fun p => .bl (wF ns s p)) (itZ (by omega) (by omega) (qJ (qT (qT rfl rfl W0) rfl Z1) qa)) trivial (by rw [List.length_map,YI];exact Nat.le_trans (show ((c:Int) - s.1 + 1).toNat≤300 by omega) (by decide)) fun p hp => ?_)) qa) qHJ
 obtain ⟨k,hk,rfl⟩:=List.mem_map.mp hp
 have hk:=upto_mem.mp hk
 obtain ⟨f,rfl⟩:∃ f:Nat,k=(f:Int):=⟨k.toNat,by omega⟩
 refine ⟨[some (.int s.2),some (.tup (ns.map PV.int)),some (.int s.1),some (.int (f:Int))],rfl,?_⟩
 have hs:((s.1.toNat:Nat):Int)=s.1:=by omega
 have hcut:=qEy (ns:=ns) (f:=f) (L:=s.1.toNat) (by omega)
 rw [hs] at hcut
 refine qT (p := .int (win ns f s.1.toNat)) (q := .int s.2) (qN (l:=[.tup (((ns.drop f).take s.1.toNat).map PV.int)]) (qJ (by rw [← hcut];rfl) qa) qAz) rfl ?_
 rw [qHr]
 show _=Rs.ok (PV.bl (decide (win ns (((f:Nat):Int)).toNat s.1.toNat > s.2))) st
 rw [Int.toNat_natCast]
theorem Ym {Gd:qC->Prop} {g:FG} {F:FS} {p v:PV} {ps:List PV} {r r1:q9} {st s2:qC} (h:Gd st) (h1:g p r=some r1) (h2:F r1 st = .rt v s2):Qs Gd g F (p::ps) r st = .rt v s2:=by
 unfold Qs
 rw [if_pos h,h1]
 dsimp only
 rw [h2]
noncomputable def pB:FS:=(wN (Qw pC) (qr (vC .non)) Q8)
theorem qD2 {ns:List Int} {c:Nat} (hl:ns.length=c) (hc:c≤200) {x0:Option PV} {st:qC}:∀ (T:List (Int×Int)) (x3 x4:Option PV),(∀ s∈T,1≤s.1∧s.1≤9) ->
  ∃ y3 y4,Qs (fun _=>True) (WS 2 (qp (QT 3) (qp (QT 4) WW))) pB (T.map qx) [x0,some (.int (c:Int)),some (.tup (ns.map PV.int)),x3,x4] st=if T.any (Z8 ns c)=true then .rt .non st else .nx [x0,some (.int (c:Int)),some (.tup (ns.map PV.int)),y3,y4] st
 |[],x3,x4,_=>⟨x3,x4,wY trivial⟩
 |s::T,x3,x4,h=>by
  obtain ⟨h1,h2⟩:=h s List.mem_cons_self
  obtain ⟨y3,y4,e⟩:=qD2 (x0:=x0) (st:=st) hl hc T (some (.int s.1)) (some (.int s.2)) fun q hq=>h q (List.mem_cons_of_mem _ hq)
  refine ⟨y3,y4,?_⟩
  have ec:=qHq hl hc h1 h2 (x0:=x0) (st:=st)
  rw [List.map_cons,List.any_cons]
  cases hb:Z8 ns c s with
  |true =>
   rw [hb] at ec
   rw [Bool.true_or,if_pos rfl]
   exact Ym (r1:=[x0,some (.int (c:Int)),some (.tup (ns.map PV.int)),some (.int s.1),some (.int s.2)]) trivial rfl (wW (qo ec) rfl)
  |false =>
   rw [hb] at ec
   rw [Bool.false_or]
   exact ZL (r1:=[x0,some (.int (c:Int)),some (.tup (ns.map PV.int)),some (.int s.1),some (.int s.2)]) trivial rfl (w6 (qo ec) rfl) e
theorem Jx {a:Ad} {l:List PV} {st:qC}:QN (kit a) [.tup l,.ty "tuple"] st = .ok (.bl true) st:=rfl
theorem qAd {i j:Int} {st:qC}:gNe (.int i) (.int j) st = .ok (.bl (!(i==j))) st:=rfl
abbrev hS (st:qC) (l:List Int):qC:=st++[.l (l.map PV.int)]
noncomputable def hB:FS:=(WJ (qB 3) (qL qz (qL gIx (qB 3) (yP (vC (.int 1)))) (qB 4)))
theorem qDU {st:qC} {hs:List Int} {x0 x1 x2 x5 x6:Option PV} (hn:hs.length≤300):∀ (k i:Nat) (x4:Option PV),i + k + 1≤hs.length -> ∃ y4,Qs (fun _=>True) (QT 4) hB (((List.range k).map fun j=>hs.getD (i + j + 1) 0 - hs.getD (i + j) 0).map PV.int) [x0,x1,x2,some (.ref st.length),x4,x5,x6] (hS st (hs.take (i + 1))) = .nx [x0,x1,x2,some (.ref st.length),y4,x5,x6] (hS st (hs.take (i + k + 1)))
 |0,i,x4,_=>⟨x4,wY trivial⟩
 |k + 1,i,x4,h=>by
  obtain ⟨y4,e⟩:=qDU (st:=st) (x0:=x0) (x1:=x1) (x2:=x2) (x5:=x5) (x6:=x6) hn k (i + 1) (some (.int (hs.getD (i + 1) 0 - hs.getD i 0))) (by omega)
  have er:(List.range (k + 1)).map (fun j=>hs.getD (i + j + 1) 0 - hs.getD (i + j) 0)=(hs.getD (i + 1) 0 - hs.getD i 0)::(List.range k).map fun j=>hs.getD (i + 1 + j + 1) 0 - hs.getD (i + 1 + j) 0:=by
   rw [List.range_succ_eq_map,List.map_cons,List.map_map]
   refine List.cons_eq_cons.mpr ⟨rfl,List.map_congr_left fun j _ => ?_⟩
   show hs.getD (i + (j + 1) + 1) 0 - hs.getD (i + (j + 1)) 0=_
   rw [show i + (j + 1)=i + 1 + j by omega]
  rw [er,List.map_cons,show i + (k + 1) + 1=i + 1 + k + 1 by omega]
  refine ⟨y4,ZL trivial rfl ?_ e⟩
  have hl:(hs.take (i + 1)).length=i + 1:=by rw [List.length_take];omega
  have hat:gIx (.ref st.length) (.int (-1)) (hS st (hs.take (i + 1))) = .ok (.int (hs.getD i 0)) (hS st (hs.take (i + 1))):=YE (JX (mid rfl)) (qA1 (n:=i) (by rw [List.length_map,hl]) (by
   rw [List.getElem?_map,List.getElem?_take_of_lt (by omega),List.getD_eq_getElem?_getD,List.getElem?_eq_getElem (show i < hs.length by omega)];rfl))
  have ea:=yw (n:=st.length) (l:=(hs.take (i + 1)).map PV.int) (fo:=qB 3) (f:=qL qz (qL gIx (qB 3) (yP (vC (.int 1)))) (qB 4)) (r:=[x0,x1,x2,some (.ref st.length),some (.int (hs.getD (i + 1) 0 - hs.getD i 0)),x5,x6]) (st:=hS st (hs.take (i + 1))) rfl (qHF (mid rfl)) (qT (qT rfl rfl hat) rfl Z1) (mid rfl) (by rw [List.length_map,hl];exact Nat.lt_of_lt_of_le (show i + 1 < 400 by omega) (by decide))
  rw [jM rfl] at ea
  have el:(hs.take (i + 1)).map PV.int++[.int (hs.getD i 0 + (hs.getD (i + 1) 0 - hs.getD i 0))]=(hs.take (i + 1 + 1)).map PV.int:=by
   have hi:i + 1 < hs.length:=by omega
   rw [List.take_succ_eq_append_getElem hi,List.map_append,show hs.getD i 0 + (hs.getD (i + 1) 0 - hs.getD i 0)=hs.getD (i + 1) 0 by omega,List.getD_eq_getElem?_getD,List.getElem?_eq_getElem hi]
   rfl
  rw [el] at ea
  exact ea
theorem ya {c:PV->Bool}:∀ {l:List PV},(∀ p∈l,c p=false)->l.filter c=[]
 |[],_=>rfl
 |p::l,h=>by
  rw [List.filter_cons,h p List.mem_cons_self]
  exact ya fun q hq=>h q (List.mem_cons_of_mem _ hq)
theorem yY {a:Ad} {v:PV} {st:qC} (h:wq v=true):Ws a [v] st = .ok (.bl (isInt v)) st:=by
 cases v <;> first |rfl |cases h
def pre (ns:List Int):List Int:=(List.range (ns.length + 1)).map fun i=>(ns.take i).sum
theorem qBP {ns:List Int}:(pre ns).length=ns.length + 1:=by unfold pre;rw [List.length_map,List.length_range]
theorem YN {ns:List Int} {i:Nat} (h:i≤ns.length):(pre ns).getD i 0=(ns.take i).sum:=by
 unfold pre
 rw [List.getD_eq_getElem?_getD,List.getElem?_map,List.getElem?_range (by omega)]
 rfl
theorem qEZ {ns:List Int} {i L:Nat} (h:L + i≤ns.length):(pre ns).getD (L + i) 0 - (pre ns).getD i 0=win ns i L:=by
 rw [YN h,YN (by omega),Nat.add_comm L i,List.take_add,List.sum_append]
 unfold win
 omega
theorem qDD {ns:List Int} {c:Nat} (hl:ns.length=c):ns=(List.range c).map fun j=>(pre ns).getD (0 + j + 1) 0 - (pre ns).getD (0 + j) 0:=by
 refine List.ext_getElem (by rw [List.length_map,List.length_range,hl]) fun i h1 h2 => ?_
 rw [List.getElem_map,List.getElem_range,Nat.zero_add,YN (by omega),YN (by omega),List.take_succ_eq_append_getElem h1,List.sum_append]
 simp
 omega
noncomputable def sB:FS:=(wN (vTB (qL gNe (vFz (qm [6,3,5] 1 (ZY (qA (qB 5) (qA (qL qz (qB 1) (vC (.int 1))) qD))) (QR 3) [(vTB (qL gGt (qL WL (qL gIx (qB 1) (qB 3)) (qL gIx (qB 1) (qL WL (qB 3) (qB 2)))) (qB 0)))] [] (qB 3))) (vFz (Qt qD)))) (qr (vC .non)) Q8)
theorem Jw:∀ l:List Int,nrs (l.map PV.int)=true
 |[]=>rfl
 |p::l=>by
  have:=Jw l
  rw [List.map_cons]
  unfold nrs
  rw [this]
  rfl
theorem qGh {t:Int} {ts:List Int} {st:qC}:gNe (.lst ((t::ts).map PV.int)) (.lst []) st = .ok (.bl true) st:=by
 unfold gNe
 show (if Jv (.lst ((t::ts).map PV.int)) (.lst [])=true then Rs.ok (PV.bl (!peq (.lst ((t::ts).map PV.int)) (.lst []))) st else .no)=_
 rw [if_pos]
 ·rfl
 ·unfold Jv
  have h1:nr (.lst ((t::ts).map PV.int))=true:=by unfold nr;exact Jw _
  have h2:dep (.lst ((t::ts).map PV.int))=1:=by unfold dep;rw [Zl]
  rw [h1,h2]
  rfl
theorem qII {ns:List Int} {c:Nat} (hl:ns.length=c) (hc:c≤200) {s:Int×Int} (h1:1≤s.1) (h2:s.1≤9) {x0 x2 x4:Option PV} {st:qC} :
  vTB (qL gNe (vFz (qm [6,3,5] 1 (ZY (qA (qB 5) (qA (qL qz (qB 1) (vC (.int 1))) qD))) (QR 3) [(vTB (qL gGt (qL WL (qL gIx (qB 1) (qB 3)) (qL gIx (qB 1) (qL WL (qB 3) (qB 2)))) (qB 0)))] [] (qB 3))) (vFz (Qt qD))) [x0,some (.int (c:Int)),x2,some (.ref st.length),x4,some (.int s.1),some (.int s.2)] (hS st (pre ns)) = .ok (Z8 ns c s) (hS st (pre ns)):=by
 have hn:s.1=((s.1.toNat:Nat):Int):=by omega
 have hpl:(pre ns).length=c + 1:=by rw [qBP,hl]
 let C:PV->Bool:=fun p=>match p with | .int t=>decide ((pre ns).getD t.toNat 0 - (pre ns).getD (t.toNat - s.1.toNat) 0 > s.2) |_=>false
 have hC:∀ i,i < c + 1 - s.1.toNat->C (.int ((s.1.toNat + i:Nat):Int))=decide (win ns i s.1.toNat > s.2):=fun i hi=>by
  show decide ((pre ns).getD (((s.1.toNat + i:Nat):Int)).toNat 0 - (pre ns).getD ((((s.1.toNat + i:Nat):Int)).toNat - s.1.toNat) 0 > s.2)=_
  rw [Int.toNat_natCast,Nat.add_sub_cancel_left,qEZ (by omega)]
 have ef:vFz (qm [6,3,5] 1 (ZY (qA (qB 5) (qA (qL qz (qB 1) (vC (.int 1))) qD))) (QR 3) [(vTB (qL gGt (qL WL (qL gIx (qB 1) (qB 3)) (qL gIx (qB 1) (qL WL (qB 3) (qB 2)))) (qB 0)))] [] (qB 3)) [x0,some (.int (c:Int)),x2,some (.ref st.length),x4,some (.int s.1),some (.int s.2)] (hS st (pre ns)) = .ok (.lst ((ofN ((List.range (c + 1 - s.1.toNat)).map fun i=>s.1.toNat + i)).filter C)) (hS st (pre ns)):=by
  refine wf (jc (w:=⟨ofN ((List.range (c + 1 - s.1.toNat)).map fun i=>s.1.toNat + i),fun _=>True⟩) (c:=C) (qAq (n:=s.1.toNat) (m:=c + 1) (by omega) (by omega) (qJ (by rw [← hn];rfl) (qJ (qT rfl rfl Z1) qa))) trivial (by unfold ofN;rw [List.length_map,List.length_map,List.length_range];exact Nat.le_trans (Nat.sub_le _ _) (Nat.le_trans (show c + 1≤300 by omega) (by decide))) fun p hp => ?_)
  obtain ⟨t,ht,rfl⟩:=List.mem_map.mp hp
  obtain ⟨i,hi,rfl⟩:=List.mem_map.mp ht
  have hi:=List.mem_range.mp hi
  refine ⟨[some (.int s.2),some (.ref st.length),some (.int s.1),some (.int ((s.1.toNat + i:Nat):Int))],rfl,?_,rfl⟩
  have g1:gIx (.ref st.length) (.int ((s.1.toNat + i:Nat):Int)) (hS st (pre ns)) = .ok (.int ((pre ns).getD (((s.1.toNat + i:Nat):Int)).toNat 0)) (hS st (pre ns)):=YE (JX (mid rfl)) (yt (L:=((c + 1:Nat):Int)) (by rw [hpl];omega) (by omega) (by omega))
  have g2:gIx (.ref st.length) (.int (((s.1.toNat + i:Nat):Int) - s.1)) (hS st (pre ns)) = .ok (.int ((pre ns).getD (((s.1.toNat + i:Nat):Int) - s.1).toNat 0)) (hS st (pre ns)):=YE (JX (mid rfl)) (yt (L:=((c + 1:Nat):Int)) (by rw [hpl];omega) (by omega) (by omega))
  refine Wx (qT (qT (qT rfl rfl g1) (qT rfl (qT rfl rfl W0) g2) W0) rfl ?_)
  rw [qHr]
  show _=Rs.ok (PV.bl (decide ((pre ns).getD (((s.1.toNat + i:Nat):Int)).toNat 0 - (pre ns).getD ((((s.1.toNat + i:Nat):Int)).toNat - s.1.toNat) 0 > s.2))) _
  rw [show (((s.1.toNat + i:Nat):Int) - s.1).toNat=(((s.1.toNat + i:Nat):Int)).toNat - s.1.toNat by omega]
 refine Wx (qT ef rfl ?_)
 cases hb:Z8 ns c s with
 |false =>
  have hz:(ofN ((List.range (c + 1 - s.1.toNat)).map fun i=>s.1.toNat + i)).filter C=[]:=ya fun p hp=>by
   obtain ⟨t,ht,rfl⟩:=List.mem_map.mp hp
   obtain ⟨i,hi,rfl⟩:=List.mem_map.mp ht
   rw [hC i (List.mem_range.mp hi)]
   unfold Z8 at hb
   rw [List.any_eq_false] at hb
   have:=hb i hi
   cases hq:decide (win ns i s.1.toNat > s.2) with
   |false=>rfl
   |true=>exact absurd hq this
  rw [hz]
  rfl
 |true =>
  unfold Z8 at hb
  rw [List.any_eq_true] at hb
  obtain ⟨i,hi,hw⟩:=hb
  have hm:PV.int ((s.1.toNat + i:Nat):Int)∈(ofN ((List.range (c + 1 - s.1.toNat)).map fun i=>s.1.toNat + i)).filter C:=List.mem_filter.mpr ⟨List.mem_map.mpr ⟨s.1.toNat + i,List.mem_map.mpr ⟨i,hi,rfl⟩,rfl⟩,by rw [hC i (List.mem_range.mp hi)];exact hw⟩
  have hall:∀ p∈(ofN ((List.range (c + 1 - s.1.toNat)).map fun i=>s.1.toNat + i)).filter C,∃ t,p = .int t:=fun p hp=>by
   obtain ⟨t,ht,rfl⟩:=List.mem_map.mp (List.mem_filter.mp hp).1
   exact ⟨_,rfl⟩
  obtain ⟨ts,hts⟩:=ZU (l:=(ofN ((List.range (c + 1 - s.1.toNat)).map fun i=>s.1.toNat + i)).filter C) (List.all_eq_true.mpr fun p hp=>by obtain ⟨t,rfl⟩:=hall p hp;rfl)
  rw [hts] at hm ⊢
  cases ts with
  |nil=>exact (List.not_mem_nil hm).elim
  |cons t ts=>exact qGh
theorem qCH {ns:List Int} {c:Nat} (hl:ns.length=c) (hc:c≤200) {st:qC} {x0 x2 x4:Option PV}:∀ (T:List (Int×Int)) (x5 x6:Option PV),(∀ s∈T,1≤s.1∧s.1≤9) ->
  ∃ y5 y6,Qs (fun _=>True) (WS 2 (qp (QT 5) (qp (QT 6) WW))) sB (T.map qx) [x0,some (.int (c:Int)),x2,some (.ref st.length),x4,x5,x6] (hS st (pre ns))=if T.any (Z8 ns c)=true then .rt .non (hS st (pre ns)) else .nx [x0,some (.int (c:Int)),x2,some (.ref st.length),x4,y5,y6] (hS st (pre ns))
 |[],x5,x6,_=>⟨x5,x6,wY trivial⟩
 |s::T,x5,x6,h=>by
  obtain ⟨h1,h2⟩:=h s List.mem_cons_self
  obtain ⟨y5,y6,e⟩:=qCH hl hc (st:=st) (x0:=x0) (x2:=x2) (x4:=x4) T (some (.int s.1)) (some (.int s.2)) fun q hq=>h q (List.mem_cons_of_mem _ hq)
  refine ⟨y5,y6,?_⟩
  have ec:=qII hl hc h1 h2 (x0:=x0) (x2:=x2) (x4:=x4) (st:=st)
  rw [List.map_cons,List.any_cons]
  cases hb:Z8 ns c s with
  |true =>
   rw [hb] at ec
   rw [Bool.true_or,if_pos rfl]
   exact Ym (r1:=[x0,some (.int (c:Int)),x2,some (.ref st.length),x4,some (.int s.1),some (.int s.2)]) trivial rfl (wW ec rfl)
  |false =>
   rw [hb] at ec
   rw [Bool.false_or]
   exact ZL (r1:=[x0,some (.int (c:Int)),x2,some (.ref st.length),x4,some (.int s.1),some (.int s.2)]) trivial rfl (w6 ec rfl) e
def shF (S:List (Int×Int)) (c:Nat) (ns:List Int):PV:=if S.any (Z8 ns c)=true then .non else .int ns.sum
theorem qDX {ns:List Int} {c:Nat} (hl:ns.length=c):(pre ns).getD c 0=ns.sum:=by
 rw [YN (by omega),List.take_of_length_le (by omega)]
section
variable {a:Ad} {S:List (Int×Int)} {c:Nat} {st:qC}
theorem qEa (R:Srt S) (hc:c≤200) {v:PV} (h:okP v=true) (hw:wh c v=false):qu a [sP S,.int (c:Int),v] st = .ok .non st:=by
 refine Qe rfl ?_
 unfold Qa
 refine qh (qAM (qN (l:=[sP S,.int (c:Int)]) rfl (qBR R hc))) (Q3 (wW (w_not (b:=false) (qo (qN (l:=[v,.int (c:Int),.int (c:Int)]) rfl (by rw [whs h,hw])))) rfl))
theorem qDY (R:Srt S) (hc:c≤200) {ns:List Int} (hl:ns.length=c):qu a [sP S,.int (c:Int),.tup (ns.map PV.int)] st = .ok (shF S c ns) st:=by
 have hk:okP (.tup (ns.map PV.int))=true:=by
  show (Nat.ble (ns.map PV.int).length 1000&&(ns.map PV.int).all wq)=true
  rw [List.length_map,Nat.ble_eq_true_of_le (show ns.length≤1000 by omega),Bool.true_and,List.all_eq_true]
  intro p hp
  obtain ⟨x,_,rfl⟩:=List.mem_map.mp hp
  rfl
 have hw:wh c (.tup (ns.map PV.int))=true:=by
  show (decide ((ns.map PV.int).length=c)&&(ns.map PV.int).all isInt)=true
  rw [List.length_map,decide_eq_true hl,Bool.true_and,List.all_eq_true]
  intro p hp
  obtain ⟨x,_,rfl⟩:=List.mem_map.mp hp
  rfl
 obtain ⟨y3,y4,e⟩:=qD2 hl hc (x0:=some (sP S)) (st:=st) S none none fun s hs=>⟨(R.b s hs).1,(R.b s hs).2.1⟩
 refine Qe rfl ?_
 unfold Qa
 refine qh (qAM (qN (l:=[sP S,.int (c:Int)]) rfl (qBR R hc))) (qh (w6 (w_not (b:=true) (qo (qN (l:=[.tup (ns.map PV.int),.int (c:Int),.int (c:Int)]) rfl (by rw [whs hk,hw])))) rfl) ?_)
 have ef:WN (QA (qB 0)) (WS 2 (qp (QT 3) (qp (QT 4) WW))) pB [some (sP S),some (.int (c:Int)),some (.tup (ns.map PV.int)),none,none] st=_:=YB (w:=⟨S.map qx,fun _=>True⟩) (wC rfl) e
 unfold shF
 cases hb:S.any (Z8 ns c) with
 |true =>
  rw [hb,if_pos rfl] at ef
  rw [if_pos rfl]
  exact Q3 ef
 |false =>
  rw [hb,if_neg (by decide)] at ef
  rw [if_neg (by decide)]
  exact qh ef (Qq (qN (l:=[.tup (ns.map PV.int)]) rfl qAz))
theorem qF7 {v:PV} (h:okP v=true) (hw:wh c v=false):wa a [sP S,.int (c:Int),v] st = .ok .non st:=by
 refine Qe rfl ?_
 unfold Wn
 refine Q3 (wW ?_ rfl)
 cases v with
 |tup l =>
  have hk:(Nat.ble l.length 1000&&l.all wq)=true:=h
  rw [Bool.and_eq_true,List.all_eq_true] at hk
  have hw:(decide (l.length=c)&&l.all isInt)=false:=hw
  refine w5 (w_not (b:=true) (qo (qN (l:=[.tup l,.ty "tuple"]) rfl Jx))) ?_
  by_cases q:l.length=c
  ·rw [decide_eq_true q,Bool.true_and] at hw
   refine w5 (Wx (qT (p := .int (c:Int)) (q := .int (c:Int)) (qN (l:=[.tup l]) rfl (ZI (l:=l) rfl (by rw [q]))) rfl (by rw [qAd,beq_self_eq_true];rfl))) (w_not (b:=false) (qo (qN (l:=[.lst (l.map fun p => .bl (isInt p))]) (qJ (wf (QW (w:=⟨l,fun _=>True⟩) (F:=fun p => .bl (isInt p)) (wC rfl) trivial (sz hk.1) fun p hp=>⟨[some p],rfl,qN rfl (yY (hk.2 p hp))⟩)) qa) (by rw [yQ,hw]))))
  ·exact Wz (Wx (qT (p := .int (l.length:Int)) (q := .int (c:Int)) (qN (l:=[.tup l]) rfl (ZI (l:=l) rfl rfl)) rfl (by rw [qAd,beq_eq_false_iff_ne.mpr (by omega)];rfl)))
 |_=>first |exact Wz (w_not (b:=false) (qo (qN rfl (yk (yM h))))) |cases h
theorem qEL (R:Srt S) (hc:c≤200) {ns:List Int} (hl:ns.length=c):wa a [sP S,.int (c:Int),.tup (ns.map PV.int)] st = .ok (shF S c ns) (hS st (pre ns)):=by
 have hp:(pre ns).length=c + 1:=by rw [qBP,hl]
 have h0:(pre ns).take 1=[0]:=by
  unfold pre
  rw [List.range_succ_eq_map]
  rfl
 obtain ⟨y4,e1⟩:=qDU (st:=st) (hs:=pre ns) (x0:=some (sP S)) (x1:=some (.int (c:Int))) (x2:=some (.tup (ns.map PV.int))) (x5:=none) (x6:=none) (by omega) c 0 none (by omega)
 obtain ⟨y5,y6,e2⟩:=qCH hl hc (st:=st) (x0:=some (sP S)) (x2:=some (.tup (ns.map PV.int))) (x4:=y4) S none none fun s hs=>⟨(R.b s hs).1,(R.b s hs).2.1⟩
 refine Qe rfl ?_
 unfold Wn
 have hall:qI Z6 (qA (vFz (qm [] 1 (QA (qB 2)) (QR 0) [] [] (qI (Ws a) (qA (qB 0) qD)))) qD) (QV 7 [sP S,.int (c:Int),.tup (ns.map PV.int)]) st = .ok (.bl true) st:=by
  refine qN (l:=[.lst ((ns.map PV.int).map fun p => .bl ((fun _=>true) p))]) (qJ (wf (QW (w:=⟨ns.map PV.int,fun _=>True⟩) (F:=fun _ => .bl true) (wC rfl) trivial (by rw [List.length_map];exact Nat.le_trans (show ns.length≤300 by omega) (by decide)) fun p hp=>by
   obtain ⟨x,_,rfl⟩:=List.mem_map.mp hp
   exact ⟨[some (.int x)],rfl,qN (l:=[.int x]) rfl (yY rfl)⟩)) qa) ?_
  rw [yQ]
  congr 2
  rw [List.all_eq_true];intro p _;rfl
 refine qh (w6 (w5 (w_not (b:=true) (qo (qN (l:=[.tup (ns.map PV.int),.ty "tuple"]) rfl Jx))) (w5 (Wx (qT (p := .int (c:Int)) (q := .int (c:Int)) (qN (l:=[.tup (ns.map PV.int)]) rfl (ZI (l:=ns.map PV.int) rfl (by rw [List.length_map,hl]))) rfl (by rw [qAd,beq_self_eq_true];rfl))) (w_not (b:=true) (qo hall)))) rfl) ?_
 refine qh (jR (l:=[.int 0]) (s1:=st) (ZW (qJ rfl qa) (sz rfl))) ?_
 rw [show (0 + 1)=1 from rfl,h0,show 0 + c + 1=c + 1 by omega,List.take_of_length_le (by omega),← qDD hl] at e1
 refine qh (YB (w:=⟨ns.map PV.int,fun _=>True⟩) (wC rfl) e1) ?_
 have ef:WN (QA (qB 0)) (WS 2 (qp (QT 5) (qp (QT 6) WW))) sB [some (sP S),some (.int (c:Int)),some (.tup (ns.map PV.int)),some (.ref st.length),y4,none,none] (hS st (pre ns))=_:=YB (w:=⟨S.map qx,fun _=>True⟩) (wC rfl) e2
 unfold shF
 cases hb:S.any (Z8 ns c) with
 |true =>
  rw [hb,if_pos rfl] at ef
  rw [if_pos rfl]
  exact Q3 ef
 |false =>
  rw [hb,if_neg (by decide)] at ef
  rw [if_neg (by decide)]
  refine qh ef (Qq (qT rfl rfl ?_))
  rw [← qDX hl]
  exact YE (JX (mid rfl)) (qA1 (n:=c) (by rw [List.length_map,hp]) (by rw [List.getElem?_map,List.getD_eq_getElem?_getD,List.getElem?_eq_getElem (show c < (pre ns).length by omega)];rfl))
theorem qID (R:Srt S) (hc:c≤200) {v:PV} (h:okP v=true):∃ z g,(z = .non ∨ ∃ i,z = .int i)∧qu a [sP S,.int (c:Int),v] st = .ok z st∧wa a [sP S,.int (c:Int),v] st = .ok z (st++g):=by
 cases hw:wh c v with
 |false=>exact ⟨.non,[],.inl rfl,qEa R hc h hw,by rw [List.append_nil];exact qF7 h hw⟩
 |true =>
  cases v with
  |tup l =>
   have hw:(decide (l.length=c)&&l.all isInt)=true:=hw
   rw [Bool.and_eq_true] at hw
   obtain ⟨ns,rfl⟩:=ZU hw.2
   have hl:ns.length=c:=by have:=of_decide_eq_true hw.1;rwa [List.length_map] at this
   refine ⟨shF S c ns,[.l ((pre ns).map PV.int)],?_,qDY R hc hl,qEL R hc hl⟩
   unfold shF
   split
   ·exact .inl rfl
   ·exact .inr ⟨_,rfl⟩
  |_=>cases hw
end
def lsP (x:Int×Ln):PV := .tup [.int x.1,lnP x.2]
def jJ (L:List Ln) (m:Nat) (s:Int×Int):Ln:=match L.getD (m - s.1.toNat) none with
 |some p=>some (s.2 + p.1,s.1::p.2)
 |none=>none
def W9 (L:List Ln) (m:Nat) (acc:Ln) (s:Int×Int):Ln:=match jJ L m s with
 |none=>acc
 |some h=>match acc with
  |none=>some h
  |some b=>some (Zp b h)
theorem yH (L:List Ln) (m:Nat):∀ (T:List (Int×Int)) (b:Int×List Int),T.foldl (W9 L m) (some b)=some ((T.filterMap (jJ L m)).foldl Zp b)
 |[],b=>rfl
 |s::T,b=>by
  rw [List.foldl_cons,List.filterMap_cons]
  unfold W9
  cases jJ L m s with
  |none=>exact yH L m T b
  |some h=>exact yH L m T (Zp b h)
theorem Yj (L:List Ln) (m:Nat):∀ (T:List (Int×Int)),T.foldl (W9 L m) none=Z0 (T.filterMap (jJ L m))
 |[]=>rfl
 |s::T=>by
  rw [List.foldl_cons,List.filterMap_cons]
  cases h:jJ L m s with
  |none =>
   have:W9 L m none s=none:=by unfold W9;rw [h]
   rw [this];exact Yj L m T
  |some x =>
   have:W9 L m none s=some x:=by unfold W9;rw [h]
   rw [this,yH]
   rfl
theorem qGe (L:List Ln) (m:Nat) (S:List (Int×Int)):opF L m S=(S.filter fun s=>decide (s.1≤(m:Int))).filterMap (jJ L m):=rfl
theorem qHy {x y:Int×List Int} {S:qC}:JM (Qc x) (Qc y) S = .ok (.bl (ltB x y)) S:=by
 obtain ⟨r,hr,_⟩:=qDM x y
 have hn:∀ z:Int×List Int,nr (Qc z)=true:=fun z=>by
  have:=Y3 [z]
  rw [List.map_cons,nrs] at this
  exact (Bool.and_eq_true _ _ ▸ this).1
 unfold JM
 rw [show res S (Qc x)=Qc x from rfl,show res S (Qc y)=Qc y from rfl,if_pos (by unfold Jv;rw [hn,hn,qCa];rfl),hr]
 unfold ltB
 rw [hr]
 cases r <;> rfl
abbrev lsS (st:qC) (wl:List (Int×Ln)):qC:=st++[.l (wl.map lsP)]
section
variable {S:List (Int×Int)} {st:qC} {m:Nat} {wl:List (Int×Ln)}
theorem qFi {i:Nat} (hi:i < wl.length):gIx (.ref st.length) (.int (i:Int)) (lsS st wl) = .ok (lsP (wl.getD i (0,none))) (lsS st wl) :=
 YE (JX (mid rfl)) (qDa (by rw [List.getElem?_map,List.getElem?_eq_getElem hi,List.getD_eq_getElem?_getD,List.getElem?_eq_getElem hi];rfl))
theorem qIB (hw:wl.map (·.2)=qU S m) {i:Nat} (hi:i≤m):(wl.getD i (0,none)).2=(qU S m).getD i none:=by
 have hl:wl.length=m + 1:=by have:=congrArg List.length hw;rw [List.length_map,Q6] at this;exact this
 rw [← hw,List.getD_eq_getElem?_getD,List.getD_eq_getElem?_getD,List.getElem?_map,List.getElem?_eq_getElem (by omega)]
 rfl
noncomputable def ibB:FS:=(qR (qY 9 (qL gIx (qL gIx (qB 2) (qL WL (qB 3) (qB 7))) (vC (.int 1)))) (wN (vTB (qL (yf true) (qB 9) (vC .non))) (qR (qY 10 (qt (qA (qL qz (qL gIx (qB 9) (vC (.int 0))) (qB 8)) (qA (qL wc (qt (qA (qB 7) qD)) (qL gIx (qB 9) (vC (.int 1)))) qD)))) (wN (W5 (vTB (qL (yf false) (qB 6) (vC .non))) (vTB (qL JM (qB 10) (qB 6)))) (qY 6 (qB 10)) Q8)) Q8))
theorem jA (H:Hs S) (hw:wl.map (·.2)=qU S m) (hm:m≤300) {x0 x1 x4 x5:Option PV}:∀ (T:List (Int×Int)) (acc:Ln) (x7 x8 x9 x10:Option PV),(∀ s∈T,1≤s.1∧s.1≤((m + 1:Nat):Int)) ->
  ∃ y7 y8 y9 y10,Qs (fun _=>True) (WS 2 (qp (QT 7) (qp (QT 8) WW))) ibB (T.map qx) [x0,x1,some (.ref st.length),some (.int ((m + 1:Nat):Int)),x4,x5,some (lnP acc),x7,x8,x9,x10] (lsS st wl) = .nx [x0,x1,some (.ref st.length),some (.int ((m + 1:Nat):Int)),x4,x5,some (lnP (T.foldl (W9 (qU S m) (m + 1)) acc)),y7,y8,y9,y10] (lsS st wl)
 |[],acc,x7,x8,x9,x10,_=>⟨x7,x8,x9,x10,wY trivial⟩
 |s::T,acc,x7,x8,x9,x10,h=>by
  have hl:wl.length=m + 1:=by have:=congrArg List.length hw;rw [List.length_map,Q6] at this;exact this
  obtain ⟨h1,h2⟩:=h s List.mem_cons_self
  have e1:((m + 1:Nat):Int) - s.1=((m + 1 - s.1.toNat:Nat):Int):=by omega
  have hA:qL gIx (qL gIx (qB 2) (qL WL (qB 3) (qB 7))) (vC (.int 1)) [x0,x1,some (.ref st.length),some (.int ((m + 1:Nat):Int)),x4,x5,some (lnP acc),some (.int s.1),some (.int s.2),x9,x10] (lsS st wl) = .ok (lnP ((qU S m).getD (m + 1 - s.1.toNat) none)) (lsS st wl):=by
   refine qT (qT rfl (qT rfl rfl (by rw [W0,e1])) (qFi (by omega))) rfl ?_
   rw [← qIB hw (by omega)]
   rfl
  cases hL:(qU S m).getD (m + 1 - s.1.toNat) none with
  |none =>
   have hs:W9 (qU S m) (m + 1) acc s=acc:=by unfold W9 jJ;rw [hL]
   obtain ⟨y7,y8,y9,y10,e⟩:=jA H hw hm (x0:=x0) (x1:=x1) (x4:=x4) (x5:=x5) T acc (some (.int s.1)) (some (.int s.2)) (some .non) x10 fun q hq=>h q (List.mem_cons_of_mem _ hq)
   rw [hL] at hA
   rw [List.foldl_cons,hs]
   exact ⟨y7,y8,y9,y10,ZL (p:=qx s) (r1:=[x0,x1,some (.ref st.length),some (.int ((m + 1:Nat):Int)),x4,x5,some (lnP acc),some (.int s.1),some (.int s.2),x9,x10]) trivial rfl (qh (Qb hA) (w6 (Wx (qT rfl rfl rfl)) rfl)) e⟩
  |some p =>
   have hp2:=ZA H m _ p hL
   have ho:jJ (qU S m) (m + 1) s=some (s.2 + p.1,s.1::p.2):=by unfold jJ;rw [hL]
   rw [hL] at hA
   have hcat:wc (.tup [.int s.1]) (.tup (p.2.map PV.int)) (lsS st wl) = .ok (.tup (.int s.1::p.2.map PV.int)) (lsS st wl):=by
    unfold wc
    dsimp only
    rw [if_pos (by rw [List.length_map];show 1 + p.2.length≤sizeLine;exact Nat.le_trans (show 1 + p.2.length≤400 by omega) (by decide))]
    rfl
   have hH:qt (qA (qL qz (qL gIx (qB 9) (vC (.int 0))) (qB 8)) (qA (qL wc (qt (qA (qB 7) qD)) (qL gIx (qB 9) (vC (.int 1)))) qD)) [x0,x1,some (.ref st.length),some (.int ((m + 1:Nat):Int)),x4,x5,some (lnP acc),some (.int s.1),some (.int s.2),some (Qc p),x10] (lsS st wl) = .ok (Qc (s.2 + p.1,s.1::p.2)) (lsS st wl) :=
    wG (qJ (qT (qT (p:=Qc p) (q := .int 0) rfl rfl rfl) rfl (by rw [Z1,Int.add_comm])) (qJ (qT (p := .tup [.int s.1]) rfl (qT (p:=Qc p) (q := .int 1) rfl rfl rfl) hcat) qa)) (sz rfl)
   have go:∀ acc',W9 (qU S m) (m + 1) acc s=acc'->(wN (W5 (vTB (qL (yf false) (qB 6) (vC .non))) (vTB (qL JM (qB 10) (qB 6)))) (qY 6 (qB 10)) Q8) [x0,x1,some (.ref st.length),some (.int ((m + 1:Nat):Int)),x4,x5,some (lnP acc),some (.int s.1),some (.int s.2),some (Qc p),some (Qc (s.2 + p.1,s.1::p.2))] (lsS st wl) = .nx [x0,x1,some (.ref st.length),some (.int ((m + 1:Nat):Int)),x4,x5,some (lnP acc'),some (.int s.1),some (.int s.2),some (Qc p),some (Qc (s.2 + p.1,s.1::p.2))] (lsS st wl):=fun acc' ha=>by
    unfold W9 at ha
    rw [ho] at ha
    cases acc with
    |none=>subst ha;exact wW (Wz (Wx (qT rfl rfl rfl))) (Qb rfl)
    |some b =>
     have ha:some (Zp b (s.2 + p.1,s.1::p.2))=acc':=ha
     subst ha
     unfold Zp
     have hlt:vTB (qL JM (qB 10) (qB 6)) [x0,x1,some (.ref st.length),some (.int ((m + 1:Nat):Int)),x4,x5,some (lnP (some b)),some (.int s.1),some (.int s.2),some (Qc p),some (Qc (s.2 + p.1,s.1::p.2))] (lsS st wl) = .ok (ltB (s.2 + p.1,s.1::p.2) b) (lsS st wl):=Wx (qT (p:=Qc (s.2 + p.1,s.1::p.2)) (q:=Qc b) rfl rfl qHy)
     cases hb:ltB (s.2 + p.1,s.1::p.2) b with
     |true=>rw [hb] at hlt;rw [if_pos rfl];exact wW (w5 (Wx (qT rfl rfl rfl)) hlt) (Qb rfl)
     |false=>rw [hb] at hlt;rw [if_neg (by decide)];exact w6 (w5 (Wx (qT rfl rfl rfl)) hlt) rfl
   obtain ⟨y7,y8,y9,y10,e⟩:=jA H hw hm (x0:=x0) (x1:=x1) (x4:=x4) (x5:=x5) T (W9 (qU S m) (m + 1) acc s) (some (.int s.1)) (some (.int s.2)) (some (Qc p)) (some (Qc (s.2 + p.1,s.1::p.2))) fun q hq=>h q (List.mem_cons_of_mem _ hq)
   rw [List.foldl_cons]
   exact ⟨y7,y8,y9,y10,ZL (p:=qx s) (r1:=[x0,x1,some (.ref st.length),some (.int ((m + 1:Nat):Int)),x4,x5,some (lnP acc),some (.int s.1),some (.int s.2),x9,x10]) trivial rfl (qh (Qb hA) (wW (Wx (qT rfl rfl rfl)) (qh (Qb hH) (go _ rfl)))) e⟩
end
noncomputable def llB:FS:=(qR (qY 4 (vFz (qm [3] 2 (QA (qB 0)) (WS 2 (qp (QR 1) (qp (QR 2) WW))) [(vTB (qL gLe (qB 1) (qB 0)))] [] (qt (qA (qB 1) (qA (qB 2) qD)))))) (qR (qY 5 (qI jF (qA (vFz (qm [2,3] 2 (QA (qB 4)) (WS 2 (qp (QR 2) (qp (QR 3) WW))) [] [] (qL gIx (qL gIx (qB 0) (qL WL (qB 1) (qB 2))) (vC (.int 0))))) qD))) (qR (qY 6 (vC .non)) (qR (WN (QA (qB 4)) (WS 2 (qp (QT 7) (qp (QT 8) WW))) ibB) (WJ (qB 2) (qt (qA (qB 5) (qA (qB 6) qD))))))))
theorem qG8 {l:List Int} {S:qC}:jF [.lst (l.map PV.int)] S = .ok (.int l.sum) S:=by
 unfold jF Zo
 simp only [asL]
 rw [ZN]
theorem qCm (m:Nat):∀ S:List (Int×Int),((S.map qx).filter (frC m)).map (fun p=>p)=(S.filter fun s=>decide (s.1≤(m:Int))).map qx
 |[]=>rfl
 |s::S=>by
  have ih:=qCm m S
  rw [List.map_cons,List.filter_cons,List.filter_cons,show frC m (qx s)=decide (s.1≤(m:Int)) from rfl]
  cases decide (s.1≤(m:Int)) with
  |false=>exact ih
  |true =>
   show qx s::_=qx s::_
   rw [ih]
theorem qEg {S:List (Int×Int)} (H:Hs S) {st:qC} {m:Nat} {wl:List (Int×Ln)} (hw:wl.map (·.2)=qU S m) (hm:m≤300) {x1 x4 x5 x6 x7 x8 x9 x10:Option PV}:∃ (w:Int) (y4 y5 y6 y7 y8 y9 y10:Option PV),llB [some (sP S),x1,some (.ref st.length),some (.int ((m + 1:Nat):Int)),x4,x5,x6,x7,x8,x9,x10] (lsS st wl) = .nx [some (sP S),x1,some (.ref st.length),some (.int ((m + 1:Nat):Int)),y4,y5,y6,y7,y8,y9,y10] (lsS st (wl++[(w,Z0 (opF (qU S m) (m + 1) S))])):=by
 have hl:wl.length=m + 1:=by have:=congrArg List.length hw;rw [List.length_map,Q6] at this;exact this
 generalize hT:S.filter (fun s=>decide (s.1≤((m + 1:Nat):Int)))=T
 have hTm:∀ s∈T,1≤s.1∧s.1≤((m + 1:Nat):Int):=fun s hs=>by
  rw [← hT] at hs
  obtain ⟨h1,h2⟩:=List.mem_filter.mp hs
  exact ⟨(H.b s h1).1,of_decide_eq_true h2⟩
 have hTl:T.length≤4:=by rw [← hT];exact Nat.le_trans (List.length_filter_le _ _) H.hi
 have e4:vFz (qm [3] 2 (QA (qB 0)) (WS 2 (qp (QR 1) (qp (QR 2) WW))) [(vTB (qL gLe (qB 1) (qB 0)))] [] (qt (qA (qB 1) (qA (qB 2) qD)))) [some (sP S),x1,some (.ref st.length),some (.int ((m + 1:Nat):Int)),x4,x5,x6,x7,x8,x9,x10] (lsS st wl) = .ok (.lst (T.map qx)) (lsS st wl):=by
  rw [← hT,← qCm]
  refine wf (JH (w:=⟨S.map qx,fun _=>True⟩) (c:=frC (m + 1)) (F:=fun p=>p) rfl trivial (by rw [List.length_map];exact Nat.le_trans H.hi (by decide)) fun p hp => ?_)
  obtain ⟨s,hs,rfl⟩:=List.mem_map.mp hp
  exact ⟨[some (.int ((m + 1:Nat):Int)),some (.int s.1),some (.int s.2)],rfl,Wx (qT rfl rfl qF4),fun _=>wG (qJ rfl (qJ rfl qa)) (sz rfl)⟩
 let F:PV->PV:=fun p=>match p with | .tup [.int l,_] => .int (wl.getD (m + 1 - l.toNat) (0,none)).1 |_ => .non
 have e5:qI jF (qA (vFz (qm [2,3] 2 (QA (qB 4)) (WS 2 (qp (QR 2) (qp (QR 3) WW))) [] [] (qL gIx (qL gIx (qB 0) (qL WL (qB 1) (qB 2))) (vC (.int 0))))) qD) [some (sP S),x1,some (.ref st.length),some (.int ((m + 1:Nat):Int)),some (.lst (T.map qx)),x5,x6,x7,x8,x9,x10] (lsS st wl) = .ok (.int (T.map fun s=>(wl.getD (m + 1 - s.1.toNat) (0,none)).1).sum) (lsS st wl):=by
  refine qN (l:=[.lst ((T.map fun s=>(wl.getD (m + 1 - s.1.toNat) (0,none)).1).map PV.int)]) (s1:=lsS st wl) (qJ (wf ?_) qa) qG8
  have:(T.map qx).map F=(T.map fun s=>(wl.getD (m + 1 - s.1.toNat) (0,none)).1).map PV.int:=by rw [List.map_map,List.map_map];rfl
  rw [← this]
  refine QW (w:=⟨T.map qx,fun _=>True⟩) (F:=F) (w8 rfl) trivial (by rw [List.length_map];exact Nat.le_trans hTl (by decide)) fun p hp => ?_
  obtain ⟨s,hs,rfl⟩:=List.mem_map.mp hp
  obtain ⟨h1,h2⟩:=hTm s hs
  have e1:((m + 1:Nat):Int) - s.1=((m + 1 - s.1.toNat:Nat):Int):=by omega
  exact ⟨[some (.ref st.length),some (.int ((m + 1:Nat):Int)),some (.int s.1),some (.int s.2)],rfl,qT (qT rfl (qT rfl rfl (by rw [W0,e1])) (qFi (by omega))) rfl rfl⟩
 obtain ⟨y7,y8,y9,y10,e6⟩:=jA (st:=st) H hw hm (x0:=some (sP S)) (x1:=x1) (x4:=some (.lst (T.map qx))) (x5:=some (.int (T.map fun s=>(wl.getD (m + 1 - s.1.toNat) (0,none)).1).sum)) T none x7 x8 x9 x10 hTm
 rw [Yj,← hT,← qGe,hT] at e6
 refine ⟨(T.map fun s=>(wl.getD (m + 1 - s.1.toNat) (0,none)).1).sum,some (.lst (T.map qx)),some (.int (T.map fun s=>(wl.getD (m + 1 - s.1.toNat) (0,none)).1).sum),some (lnP (Z0 (opF (qU S m) (m + 1) S))),y7,y8,y9,y10,?_⟩
 refine qh (Qb e4) (qh (Qb e5) (qh (Qb rfl) (qh (YB (w:=⟨T.map qx,fun _=>True⟩) (w8 rfl) e6) ?_)))
 have ea:=yw (n:=st.length) (l:=wl.map lsP) (fo:=qB 2) (f:=qt (qA (qB 5) (qA (qB 6) qD))) (r:=[some (sP S),x1,some (.ref st.length),some (.int ((m + 1:Nat):Int)),some (.lst (T.map qx)),some (.int (T.map fun s=>(wl.getD (m + 1 - s.1.toNat) (0,none)).1).sum),some (lnP (Z0 (opF (qU S m) (m + 1) S))),y7,y8,y9,y10]) (st:=lsS st wl) rfl (qHF (mid rfl)) (wG (qJ rfl (qJ rfl qa)) (sz rfl)) (mid rfl) (by rw [List.length_map,hl];exact Nat.lt_of_lt_of_le (show m + 1 < 400 by omega) (by decide))
 rw [jM rfl] at ea
 rw [ea]
 show _=RS.nx _ (st++[.l ((wl++[(_,_)]).map lsP)])
 rw [List.map_append]
 rfl
theorem qA5 {S:List (Int×Int)} (H:Hs S) {st:qC} {x1:Option PV}:∀ (k m:Nat) (wl:List (Int×Ln)) (x3 x4 x5 x6 x7 x8 x9 x10:Option PV),m + k≤200->wl.map (·.2)=qU S m -> ∃ (wl':List (Int×Ln)) (y3 y4 y5 y6 y7 y8 y9 y10:Option PV),wl'.map (·.2)=qU S (m + k)∧Qs (fun _=>True) (QT 3) llB (ofN ((List.range k).map fun i=>m + 1 + i)) [some (sP S),x1,some (.ref st.length),x3,x4,x5,x6,x7,x8,x9,x10] (lsS st wl) = .nx [some (sP S),x1,some (.ref st.length),y3,y4,y5,y6,y7,y8,y9,y10] (lsS st wl')
 |0,m,wl,x3,x4,x5,x6,x7,x8,x9,x10,_,hw=>⟨wl,x3,x4,x5,x6,x7,x8,x9,x10,hw,wY trivial⟩
 |k + 1,m,wl,x3,x4,x5,x6,x7,x8,x9,x10,h,hw=>by
  obtain ⟨w,z4,z5,z6,z7,z8,z9,z10,e1⟩:=qEg H (st:=st) (m:=m) hw (by omega) (x1:=x1) (x4:=x4) (x5:=x5) (x6:=x6) (x7:=x7) (x8:=x8) (x9:=x9) (x10:=x10)
  obtain ⟨wl',y3,y4,y5,y6,y7,y8,y9,y10,h2,e2⟩:=qA5 H (st:=st) (x1:=x1) k (m + 1) (wl++[(w,Z0 (opF (qU S m) (m + 1) S))]) (some (.int ((m + 1:Nat):Int))) z4 z5 z6 z7 z8 z9 z10 (by omega) (by rw [List.map_append,hw];rfl)
  have er:(List.range (k + 1)).map (fun i=>m + 1 + i)=(m + 1)::(List.range k).map fun i=>m + 1 + 1 + i:=by
   rw [List.range_succ_eq_map,List.map_cons,List.map_map]
   refine List.cons_eq_cons.mpr ⟨rfl,List.map_congr_left fun i _ => ?_⟩
   show m + 1 + (i + 1)=m + 1 + 1 + i
   omega
  rw [er,show m + (k + 1)=m + 1 + k by omega]
  exact ⟨wl',y3,y4,y5,y6,y7,y8,y9,y10,h2,ZL (p := .int ((m + 1:Nat):Int)) trivial rfl e1 e2⟩
theorem qCt {a:Ad} {S:List (Int×Int)} {c:Nat} {st:qC} (H:Hs S) (hc:c≤200):∃ wl:List (Int×Ln),wl.map (·.2)=qU S c∧ZB a [sP S,.int (c:Int)] st = .ok (.ref st.length) (lsS st wl):=by
 obtain ⟨wl,y3,y4,y5,y6,y7,y8,y9,y10,h,e⟩:=qA5 (st:=st) H (x1:=some (.int (c:Int))) c 0 [(1,some (0,[]))] none none none none none none none none (by omega) rfl
 rw [show (0 + c)=c from Nat.zero_add c] at h
 refine ⟨wl,h,Qe rfl ?_⟩
 unfold zj
 refine qh (jR (l:=[lsP (1,some (0,[]))]) (s1:=st) (ZW (qJ (wG (qJ rfl (qJ (wG (qJ rfl (qJ (wG qa (sz rfl)) qa)) (sz rfl)) qa)) (sz rfl)) qa) (sz rfl))) ?_
 refine qh (YB (w:=⟨ofN ((List.range (c + 1 - 1)).map fun i=>1 + i),fun _=>True⟩) (qAq (n:=1) (m:=c + 1) (by omega) (by omega) (qJ rfl (qJ (qT rfl rfl Z1) qa))) ?_) (Qq (p := .ref st.length) (s1:=lsS st wl) (r:=[some (sP S),some (.int (c:Int)),some (.ref st.length),y3,y4,y5,y6,y7,y8,y9,y10]) rfl)
 rw [Nat.add_sub_cancel]
 rw [show ((List.range c).map fun i=>1 + i)=(List.range c).map fun i=>0 + 1 + i from List.map_congr_left fun i _=>by omega]
 exact e
structure Bad (v:PV):Prop where
 no:∀ (a:Ad) (st:qC),Qu a [v] st = .ok (.bl false) st
theorem yR {v:PV} (h:okV v=true) (hn:∀ l,v = .tup l->(qBt l&&l.all isS)=false):Bad v:=⟨fun a st=>qCM h hn⟩
theorem je {l:List PV} {lo hi:Option Int} {p:PV} (h:p∈QQ l lo hi):p∈l:=by
 unfold QQ at h
 exact List.mem_of_mem_drop (List.mem_of_mem_take h)
theorem Wh {l:List PV} {lo hi:Option Int}:(QQ l lo hi).length≤l.length:=by
 unfold QQ
 rw [List.length_take,List.length_drop]
 omega
theorem qEl {S:List (Int×Int)} (R:Srt S) {one:PV} (ho:okP one=true) (hi:isS one=false) {lo hi':Option Int}:Bad (.tup (QQ (S.map qx) none lo++[one]++QQ (S.map qx) hi' none)):=by
 have hok:∀ p∈S.map qx,okP p=true:=fun p hp=>by obtain ⟨s,_,rfl⟩:=List.mem_map.mp hp;rfl
 have h1:=Wh (l:=S.map qx) (lo:=none) (hi:=lo)
 have h2:=Wh (l:=S.map qx) (lo:=hi') (hi:=none)
 rw [List.length_map] at h1 h2
 have h4:=R.hi
 refine yR ?_ fun l e => ?_
 ·show (Nat.ble _ 1000&&_)=true
  rw [Bool.and_eq_true,List.all_eq_true]
  refine ⟨Nat.ble_eq_true_of_le (by rw [List.length_append,List.length_append,List.length_singleton];omega),fun p hp => ?_⟩
  rcases List.mem_append.mp hp with hp |hp
  ·rcases List.mem_append.mp hp with hp |hp
   ·exact hok p (je hp)
   ·rw [List.mem_singleton.mp hp];exact ho
  ·exact hok p (je hp)
 ·cases e
  rw [Bool.and_eq_false_iff]
  refine .inr ?_
  rw [List.all_eq_false]
  exact ⟨one,by simp,by rw [hi];decide⟩
def zh (l p:Int) (o:PV):List PV:=[.tup [.int 10,.int p],.tup [.int 0,.int p],.tup [.bl true,.int p],.tup [.int l,.int (-1)],.tup [.int l,.int 1000000000001],.tup [.int l,.bl true],.tup [.int l,.non],.lst [.int l,.int p],.tup [.int l],.tup [.int l,.int p,.int 0],o]
def qCs:List PV:=[.int 0,.int 10,.int (-1),.bl true,.non,.str "2",.int 1000000000001,.tup [.int 1]]
theorem qEK {l p:Int} {o:PV} (ho:o∈qCs):∀ v∈zh l p o,okP v=true∧isS v=false:=by
 have e1:isS (.tup [.int l,.int (-1)])=false:=by
  show ((decide (1≤l)&&decide (l≤9))&&(decide ((0:Int) ≤ -1)&&_))=false
  rw [show decide ((0:Int) ≤ -1)=false from rfl,Bool.false_and,Bool.and_false]
 have e2:isS (.tup [.int l,.int 1000000000001])=false:=by
  show ((decide (1≤l)&&decide (l≤9))&&(_&&decide ((1000000000001:Int)≤1000000000000)))=false
  rw [show decide ((1000000000001:Int)≤1000000000000)=false from rfl,Bool.and_false,Bool.and_false]
 intro v hv
 simp only [zh,List.mem_cons,List.not_mem_nil,or_false] at hv
 rcases hv with rfl |rfl |rfl |rfl |rfl |rfl |rfl |rfl |rfl |rfl |rfl
 ·exact ⟨rfl,rfl⟩
 ·exact ⟨rfl,rfl⟩
 ·exact ⟨rfl,rfl⟩
 ·exact ⟨rfl,e1⟩
 ·exact ⟨rfl,e2⟩
 ·exact ⟨rfl,rfl⟩
 ·exact ⟨rfl,rfl⟩
 ·exact ⟨rfl,rfl⟩
 ·exact ⟨rfl,rfl⟩
 ·exact ⟨rfl,rfl⟩
 ·simp only [qCs,List.mem_cons,List.not_mem_nil,or_false] at ho
  rcases ho with rfl |rfl |rfl |rfl |rfl |rfl |rfl |rfl <;> exact ⟨rfl,rfl⟩
theorem qCQ {l:List PV} (h:1≤l.length):QQ l none (some 1)=l.take 1:=by
 unfold QQ HT.sIx
 dsimp only
 rw [if_neg (by decide),show min ((1:Int)).toNat l.length=1 by show min 1 l.length=1;omega]
 rfl
theorem qBx {S:List (Int×Int)} (R:Srt S):Bad (.tup (S.map qx++QQ (S.map qx) none (some 1))):=by
 have lo:=R.lo
 have hi:=R.hi
 rw [qCQ (by rw [List.length_map];exact lo),← List.map_take,← List.map_append]
 have ht:(S.take 1).length=1:=by rw [List.length_take];omega
 by_cases h3:S.length≤3
 ·refine ⟨fun a st => ?_⟩
  show Qu a [sP (S++S.take 1)] st=_
  rw [ZT (by rw [List.length_append];omega) (by rw [List.length_append];omega) fun s hs=>by
   rcases List.mem_append.mp hs with hs |hs
   ·exact R.b s hs
   ·exact R.b s (List.mem_of_mem_take hs)]
  congr 2
  unfold qB0
  rw [List.all_eq_false]
  have hlen:((S++S.take 1).map (·.1)).length=S.length + 1:=by rw [List.length_map,List.length_append,ht]
  refine ⟨S.length - 1,List.mem_range.mpr (by omega),?_⟩
  have g1:((S++S.take 1).map (·.1)).getD (S.length - 1) 0=(S[S.length - 1]'(by omega)).1:=by
   rw [List.getD_eq_getElem?_getD,List.getElem?_map,List.getElem?_append_left (by omega),List.getElem?_eq_getElem (by omega)];rfl
  have g2:((S++S.take 1).map (·.1)).getD (S.length - 1 + 1) 0=(S[0]'(by omega)).1:=by
   rw [show S.length - 1 + 1=S.length by omega,List.getD_eq_getElem?_getD,List.getElem?_map,List.getElem?_append_right (Nat.le_refl _),Nat.sub_self,List.getElem?_take_of_lt (by decide),List.getElem?_eq_getElem (by omega)];rfl
  rw [g1,g2]
  have hle:(S[0]'(by omega)).1≤(S[S.length - 1]'(by omega)).1:=by
   by_cases h1:S.length - 1=0
   ·rw [show S[S.length - 1]'(by omega)=S[0]'(by omega) from getElem_congr_idx h1];exact Int.le_refl _
   ·have hp:=List.pairwise_iff_getElem.mp R.ris 0 (S.length - 1) (by rw [List.length_map];omega) (by rw [List.length_map];omega) (by omega)
    rw [List.getElem_map,List.getElem_map] at hp
    omega
  intro z
  have:=of_decide_eq_true z
  omega
 ·refine yR ?_ fun l e => ?_
  ·show (Nat.ble _ 1000&&_)=true
   rw [Bool.and_eq_true,List.all_eq_true]
   refine ⟨Nat.ble_eq_true_of_le (by rw [List.length_map,List.length_append];omega),fun p hp => ?_⟩
   obtain ⟨s,_,rfl⟩:=List.mem_map.mp hp
   rfl
  ·cases e
   rw [Bool.and_eq_false_iff]
   refine .inl ?_
   unfold qBt
   rw [Bool.and_eq_false_iff]
   exact .inr (decide_eq_false (by rw [List.length_map,List.length_append];omega))
def qC1 (S:List (Int×Int)) (t:Int) (l p:Int) (o:PV):List PV:=(zh l p o).map (fun one => .tup (QQ (S.map qx) none (some t)++[one]++QQ (S.map qx) (some (t + 1)) none))++[.tup (S.map qx++QQ (S.map qx) none (some 1)),.tup [],.lst (S.map qx),.non,sP [(1,1),(2,1),(3,1),(4,1),(5,1)]]++[sP [(2,1),(2,3)],sP [(3,1),(2,1)]]
theorem qD5 {S:List (Int×Int)} (R:Srt S) {t l p:Int} {o:PV} (ho:o∈qCs):∀ v∈qC1 S t l p o,Bad v:=by
 intro v hv
 unfold qC1 at hv
 rcases List.mem_append.mp hv with hv |hv
 ·rcases List.mem_append.mp hv with hv |hv
  ·obtain ⟨one,h1,rfl⟩:=List.mem_map.mp hv
   obtain ⟨h2,h3⟩:=qEK ho one h1
   exact qEl R h2 h3
  ·simp only [List.mem_cons,List.not_mem_nil,or_false] at hv
   rcases hv with rfl |rfl |rfl |rfl |rfl
   ·exact qBx R
   ·exact yR rfl fun l e=>by cases e;rfl
   ·exact yR rfl fun l e=>by cases e
   ·exact yR rfl fun l e=>by cases e
   ·exact yR rfl fun l e=>by cases e;rfl
 ·simp only [List.mem_cons,List.not_mem_nil,or_false] at hv
  rcases hv with rfl |rfl
  ·exact ⟨fun a st=>by rw [ZT (by decide) (by decide) (by decide)];rfl⟩
  ·exact ⟨fun a st=>by rw [ZT (by decide) (by decide) (by decide)];rfl⟩
theorem jb {l:List PV} {i:Int} (h0:0≤i) (h1:i < l.length):∃ v∈l,L2.atI l i=some v:=by
 have hi:i.toNat < l.length:=by omega
 refine ⟨l[i.toNat],List.getElem_mem hi,?_⟩
 have:=qDa (l:=l) (i:=i.toNat) (p:=l[i.toNat]) (List.getElem?_eq_getElem hi)
 rw [show ((i.toNat:Nat):Int)=i by omega] at this
 exact this
theorem ZJ {x m:Int} (h:0 < m):0≤x % m∧x % m < m:=⟨Int.emod_nonneg _ (by omega),Int.emod_lt_of_pos x h⟩
theorem YL {l m:List PV} {s:qC} (h:l.length + m.length≤1000):wc (.tup l) (.tup m) s = .ok (.tup (l++m)) s:=by
 unfold wc
 dsimp only
 rw [if_pos (Nat.le_trans h (by decide))]
theorem Ju {a:Ad} {S:List (Int×Int)} (R:Srt S) {st j:qC} {x:Int}:∃ v y g,Bad v∧wg a [.ref st.length,sP S] (st ++ .l [.int x]::j) = .ok v (st ++ .l [.int y]::(j++g)):=by
 have lo:=R.lo
 have hi:=R.hi
 have hSl:(S.map qx).length=S.length:=List.length_map ..
 have m1:=ZJ (x:=x) (m:=(S.length:Int)) (by omega)
 have t1:=Qx (a:=a) (st:=st) (j:=j) (x:=x) (m:=(S.length:Int)) (by omega) (by omega)
 generalize hT:x % (S.length:Int)=T at m1 t1
 generalize hX1:x / (S.length:Int)=x1 at t1
 obtain ⟨q,hq,eq⟩:=jb (l:=S.map qx) (i:=T) m1.1 (by rw [hSl];exact m1.2)
 obtain ⟨s,hs,rfl⟩:=List.mem_map.mp hq
 have t2:=Qx (a:=a) (st:=st) (j:=j) (x:=x1) (m:=8) (by decide) (by decide)
 have m2:=ZJ (x:=x1) (m:=8) (by decide)
 obtain ⟨o,ho,eo⟩:=jb (l:=qCs) (i:=x1 % 8) m2.1 m2.2
 generalize hX2:x1 / 8=x2 at t2
 generalize hB:st++SO.l [.int x2]::j=B
 have hBl:B.length=st.length + (j.length + 1):=by rw [← hB,List.length_append,List.length_cons]
 let n1:List PV:=[.tup [.int 10,.int s.2],.tup [.int 0,.int s.2],.tup [.bl true,.int s.2],.tup [.int s.1,.int (-1)],.tup [.int s.1,.int 1000000000001],.tup [.int s.1,.bl true],.tup [.int s.1,.non]]
 have t3:=Qx (a:=a) (st:=st) (j:=j++[SO.l (n1++[.lst [.int s.1,.int s.2]]),.l (zh s.1 s.2 o)]) (x:=x2) (m:=18) (by decide) (by decide)
 have hB3:st++SO.l [.int x2]::(j++[SO.l (n1++[.lst [.int s.1,.int s.2]]),.l (zh s.1 s.2 o)])=B++[SO.l (n1++[.lst [.int s.1,.int s.2]]),.l (zh s.1 s.2 o)]:=by rw [← hB,List.append_assoc];rfl
 have m3:=ZJ (x:=x2) (m:=18) (by decide)
 have hal:(qC1 S T s.1 s.2 o).length=18:=rfl
 obtain ⟨v,hv,ev⟩:=jb (l:=qC1 S T s.1 s.2 o) (i:=x2 % 18) m3.1 (by rw [hal];exact m3.2)
 refine ⟨v,x2 / 18,[SO.l (n1++[.lst [.int s.1,.int s.2]]),.l (zh s.1 s.2 o)],qD5 R ho v hv,Qe rfl ?_⟩
 unfold WZ
 refine qh (Qb (p := .int T) (s1:=st ++ .l [.int x1]::j) (qN (l:=[.ref st.length,.int (S.length:Int)]) (qJ rfl (qJ (qN (l:=[sP S]) rfl (ZI (l:=S.map qx) rfl (by rw [hSl]))) qa)) t1)) ?_
 refine qh (qIH (p:=qx s) (s1:=st ++ .l [.int x1]::j) (qT (p:=sP S) (q := .int T) rfl rfl (YE rfl eq)) rfl) ?_
 refine qh (Qb (p:=o) (s1:=B) (qT (p := .lst qCs) (q := .int (x1 % 8)) (s1:=st ++ .l [.int x1]::j) (s2:=B) rfl (qN (l:=[.ref st.length,.int 8]) rfl (by rw [t2,hB])) (YE rfl eo))) ?_
 refine qh (jR (l:=n1) (s1:=B) (ZW (qJ (wG (qJ rfl (qJ rfl qa)) (sz rfl)) (qJ (wG (qJ rfl (qJ rfl qa)) (sz rfl)) (qJ (wG (qJ rfl (qJ rfl qa)) (sz rfl)) (qJ (wG (qJ rfl (qJ rfl qa)) (sz rfl)) (qJ (wG (qJ rfl (qJ rfl qa)) (sz rfl)) (qJ (wG (qJ rfl (qJ rfl qa)) (sz rfl)) (qJ (wG (qJ rfl (qJ rfl qa)) (sz rfl)) qa))))))) (sz rfl))) ?_
 have ea:=yw (n:=B.length) (l:=n1) (fo:=qB 6) (f:=vFz (Qt (qA (qB 3) (qA (qB 4) qD)))) (r:=[some (.ref st.length),some (sP S),some (.int T),some (.int s.1),some (.int s.2),some o,some (.ref B.length),none]) (st:=B++[SO.l n1]) rfl (qHF (mid rfl)) (wf (ZW (qJ rfl (qJ rfl qa)) (sz rfl))) (mid rfl) (sz rfl)
 rw [jM rfl] at ea
 refine qh ea ?_
 have ec:Z4 (qB 6) (vFz (Qt (qA (qt (qA (qB 3) qD)) (qA (qt (qA (qB 3) (qA (qB 4) (qA (vC (.int 0)) qD)))) (qA (qB 5) qD))))) [some (.ref st.length),some (sP S),some (.int T),some (.int s.1),some (.int s.2),some o,some (.ref B.length),none] (B++[SO.l (n1++[.lst [.int s.1,.int s.2]])]) = .ok (zh s.1 s.2 o) (B++[SO.l (n1++[.lst [.int s.1,.int s.2]])]) :=
  Jk (l:=n1++[.lst [.int s.1,.int s.2]]) (m:=[.tup [.int s.1],.tup [.int s.1,.int s.2,.int 0],o]) rfl (wf (ZW (qJ (wG (qJ rfl qa) (sz rfl)) (qJ (wG (qJ rfl (qJ rfl (qJ rfl qa))) (sz rfl)) (qJ rfl qa))) (sz rfl))) (qCN (mid rfl)) rfl (sz rfl)
 refine qh (jR ec) ?_
 have hQ:(B++[SO.l (n1++[.lst [.int s.1,.int s.2]])]).length=B.length + 1:=by rw [List.length_append];rfl
 have hC:B++[SO.l (n1++[.lst [.int s.1,.int s.2]])]++[SO.l (zh s.1 s.2 o)]=B++[SO.l (n1++[.lst [.int s.1,.int s.2]]),.l (zh s.1 s.2 o)]:=by rw [List.append_assoc];rfl
 have hslot:(B++[SO.l (n1++[.lst [.int s.1,.int s.2]]),.l (zh s.1 s.2 o)])[B.length + 1]? = some (.l (zh s.1 s.2 o)):=by rw [← hC,← hQ];exact mid rfl
 rw [hQ,hC]
 generalize hG:B++[SO.l (n1++[.lst [.int s.1,.int s.2]]),.l (zh s.1 s.2 o)]=G at hslot
 have c1:=Wh (l:=S.map qx) (lo:=none) (hi:=some T)
 have c2:=Wh (l:=S.map qx) (lo:=some (T + 1)) (hi:=none)
 have c3:=Wh (l:=S.map qx) (lo:=none) (hi:=some 1)
 rw [hSl] at c1 c2 c3
 let A1:List PV:=(zh s.1 s.2 o).map fun one => .tup (QQ (S.map qx) none (some T)++[one]++QQ (S.map qx) (some (T + 1)) none)
 refine qh (Qb (p := .lst A1) (s1:=G) (wf (QW (w:=⟨zh s.1 s.2 o,fun s'=>s'[B.length + 1]? = some (.l (zh s.1 s.2 o))⟩) (F:=fun one => .tup (QQ (S.map qx) none (some T)++[one]++QQ (S.map qx) (some (T + 1)) none)) (YA rfl hslot) hslot (sz rfl) fun one _=>⟨[some (sP S),some (.int T),some one],rfl,?_⟩))) ?_
 ·refine qT (p := .tup (QQ (S.map qx) none (some T)++[one])) (q := .tup (QQ (S.map qx) (some (T + 1)) none)) (s1:=G) (s2:=G) (qT (p := .tup (QQ (S.map qx) none (some T))) (q := .tup [one]) (s1:=G) (s2:=G) rfl (wG (qJ rfl qa) (sz rfl)) (YL (by show _ + 1≤1000;omega))) rfl (YL (by rw [List.length_append];show _ + 1 + _≤1000;omega))
 let A2:List PV:=[.tup (S.map qx++QQ (S.map qx) none (some 1)),.tup [],.lst (S.map qx),.non,sP [(1,1),(2,1),(3,1),(4,1),(5,1)]]
 refine qh (Qb (p := .lst (A1++A2)) (s1:=G) (wf (Jk (p := .lst A1) (q := .lst A2) (l:=A1) (m:=A2) (s1:=G) (s2:=G) rfl (wf (ZW (qJ (qT (p:=sP S) (q := .tup (QQ (S.map qx) none (some 1))) (s1:=G) (s2:=G) rfl rfl (YL (by rw [hSl];omega))) (qJ (wG qa (sz rfl)) (qJ rfl (qJ rfl (qJ rfl qa))))) (sz rfl))) rfl rfl (sz rfl)))) ?_
 rw [hB3,hG] at t3
 refine Qq (qT (p := .lst (qC1 S T s.1 s.2 o)) (q := .int (x2 % 18)) (s1:=G) (s2:=st ++ .l [.int (x2 / 18)]::(j++[SO.l (n1++[.lst [.int s.1,.int s.2]]),.l (zh s.1 s.2 o)])) (wf (Jk (p := .lst (A1++A2)) (q := .lst [sP [(2,1),(2,3)],sP [(3,1),(2,1)]]) (l:=A1++A2) (m:=[sP [(2,1),(2,3)],sP [(3,1),(2,1)]]) (s1:=G) (s2:=G) rfl rfl rfl rfl (sz rfl))) (qN (l:=[.ref st.length,.int 18]) (s1:=G) rfl t3) (YE rfl ev))
theorem J5 {caps:List Nat} {n:Nat} {fi:FI} {g:FG} {f:FE} {r:q9} {st s1:qC} {w:ItP} {F:PV->PV} (hfi:fi r st = .ok w s1) (hG:w.G s1) (hl:w.l.length≤sizeLine)
  (h:∀ p∈w.l,∃ r',g p (Wc caps n r)=some r'∧f r' s1 = .ok (F p) s1):qm caps n fi g [] [] f r st = .ok (w.l.map F) s1:=by
 refine jU hfi ?_ (by rw [List.length_map];exact hl)
 rw [WG (F:=fun p=>[F p]) hG fun p hp=>by
  obtain ⟨r',h1,h2⟩:=h p hp
  unfold Qd
  show (match g p (Wc caps n r) with |none=>_ |some r'=>_)=_
  rw [h1]
  show (Qn [] f) r' s1=_
  unfold Qn
  rw [h2];rfl]
 rw [zw]
theorem zl {S:List (Int×Int)} (R:Srt S):∀ (m i:Nat) (p:Int×List Int),(qU S m).getD i none=some p->0≤p.1∧p.1≤(i:Int) * 1000000000000
 |0,i,p,h=>by
  cases i with
  |zero=>cases h;exact ⟨Int.le_refl _,Int.le_refl _⟩
  |succ i=>cases h
 |m + 1,i,p,h=>by
  unfold qU at h
  rw [List.getD_eq_getElem?_getD] at h
  by_cases hi:i < (qU S m).length
  ·rw [List.getElem?_append_left hi,← List.getD_eq_getElem?_getD] at h
   exact zl R m i p h
  ·rw [List.getElem?_append_right (by omega)] at h
   have hl:=Q6 S m
   by_cases h0:i - (qU S m).length=0
   ·rw [h0] at h
    have h:Z0 (opF (qU S m) (m + 1) S)=some p:=h
    obtain ⟨s,q,h1,h2,h3,rfl⟩:=qDg (Jy h)
    obtain ⟨b1,b2⟩:=zl R m _ q h3
    obtain ⟨r1,r2,r3,r4⟩:=R.b s h1
    show 0≤s.2 + q.1∧s.2 + q.1≤(i:Int) * 1000000000000
    have e:((m + 1 - s.1.toNat:Nat):Int) + 1≤(i:Int):=by omega
    omega
   ·obtain ⟨k,hk⟩:=Nat.exists_eq_succ_of_ne_zero h0
    rw [hk] at h
    cases h
theorem jw {S:List (Int×Int)} (R:Srt S) {c:Nat} (hc:c≤200) {p:Int×List Int} (h:some p∈qU S c):0≤p.1∧p.1≤201000000000000:=by
 obtain ⟨i,hi,e⟩:=List.getElem_of_mem h
 have hl:=Q6 S c
 have:=zl R c i p (by rw [List.getD_eq_getElem?_getD,List.getElem?_eq_getElem hi,e];rfl)
 have:(i:Int) * 1000000000000≤200 * 1000000000000:=by omega
 omega
theorem qBe {S:List (Int×Int)} (R:Srt S) {c:Nat} (hc:c≤200):∃ D,(zS (qU S c)).max? = some D∧0≤D∧D≤201000000000000:=by
 have h0:some ((0:Int),([]:List Int))∈qU S c:=by
  have:∀ c,some ((0:Int),([]:List Int))∈qU S c:=fun c=>by
   induction c with
   |zero=>exact List.mem_singleton.mpr rfl
   |succ c ih=>unfold qU;exact List.mem_append_left _ ih
  exact this c
 have hne:zS (qU S c)≠[]:=fun z=>by
  have hm:(0:Int)∈zS (qU S c):=List.mem_filterMap.mpr ⟨_,h0,rfl⟩
  rw [z] at hm
  cases hm
 obtain ⟨D,h1,h2⟩:=qG4 hne
 have hm:=List.max?_mem h1
 obtain ⟨ln,hl,e⟩:=List.mem_filterMap.mp hm
 cases ln with
 |none=>cases e
 |some p =>
  cases e
  have:=jw R hc hl
  exact ⟨p.1,h1,this.1,this.2⟩
theorem qHf {S:List (Int×Int)} (R:Srt S) {c:Nat} (hc:c≤200) {D:Int} (h1:0≤D) (h2:D≤201000000000000):∀ x∈htF D (qU S c),0≤x∧x≤201000000000000:=fun x hx=>by
 obtain ⟨ln,hl,rfl⟩:=List.mem_map.mp hx
 cases ln with
 |none=>exact ⟨h1,h2⟩
 |some p=>exact jw R hc hl
def zd:List Int->List Int->List Int
 |x::l,y::m=>(y - x)::zd l m
 |_,_=>[]
def zF:PV->PV
 | .tup [.int x,.int y] => .int (y - x)
 |_ => .non
theorem qFm:∀ l m:List Int,(zP (l.map PV.int) (m.map PV.int)).map zF=(zd l m).map PV.int
 |[],m=>by unfold zd zP;rfl
 |x::l,[]=>by unfold zd zP;rfl
 |x::l,y::m=>by
  rw [List.map_cons,List.map_cons,zP,List.map_cons,qFm l m]
  rfl
theorem qDt:∀ l m:List Int,(zd l m).length=min l.length m.length
 |[],m=>by simp [zd]
 |x::l,[]=>by simp [zd]
 |x::l,y::m=>by simp [zd,qDt l m]
theorem qFY {B:Int}:∀ {l m:List Int},(∀ x∈l,0≤x∧x≤B)->(∀ x∈m,0≤x∧x≤B) -> ∀ x∈zd l m,-B≤x∧x≤B
 |[],m,_,_,x,h=>by unfold zd at h;cases h
 |_::l,[],_,_,x,h=>by unfold zd at h;cases h
 |y::l,z::m,h1,h2,x,h=>by
  unfold zd at h
  rcases List.mem_cons.mp h with rfl |h
  ·have:=h1 y List.mem_cons_self
   have:=h2 z List.mem_cons_self
   omega
  ·exact qFY (fun x hx=>h1 x (List.mem_cons_of_mem _ hx)) (fun x hx=>h2 x (List.mem_cons_of_mem _ hx)) x h
theorem qCu {hs:List Int}:QQ (hs.map PV.int) none (some (-1))=(hs.take (hs.length - 1)).map PV.int:=by
 unfold QQ HT.sIx
 dsimp only
 rw [if_pos (by decide),List.length_map,show ((-1:Int) + (hs.length:Int)).toNat=hs.length - 1 by omega,List.drop_zero,Nat.sub_zero,← List.map_take]
theorem qC9 {hs:List Int}:QQ (hs.map PV.int) (some 1) none=(hs.drop 1).map PV.int:=by
 unfold QQ HT.sIx
 dsimp only
 rw [if_neg (by decide),List.length_map,← List.map_drop,← List.map_take]
 congr 1
 show (hs.drop (min 1 hs.length)).take (hs.length - min 1 hs.length)=hs.drop 1
 rcases Nat.lt_or_ge hs.length 1 with z |z
 ·have:hs=[]:=List.eq_nil_of_length_eq_zero (by omega)
  subst this;rfl
 ·rw [show min 1 hs.length=1 by omega,List.take_of_length_le (by rw [List.length_drop];omega)]
theorem qCS {a:Ad} {S:List (Int×Int)} (R:Srt S) {c:Nat} (hc:c≤200) {st:qC}:∃ (ns:List Int) (g:qC),ns.length=c∧(∀ x∈ns,-201000000000000≤x∧x≤201000000000000)∧Wr a [sP S,.int (c:Int)] st = .ok (.tup (ns.map PV.int)) (st++g):=by
 obtain ⟨wl,hw,el⟩:=qCt (a:=a) (st:=st) R.hs hc
 obtain ⟨D,hD1,hD2,hD3⟩:=qBe R hc
 have hhl:(htF D (qU S c)).length=c + 1:=by unfold htF;rw [List.length_map,Q6]
 have hin:=qHf R hc hD2 hD3
 have hwl:wl.length=c + 1:=by rw [← Q6 S c,← hw,List.length_map]
 have hlen:((qU S c).map lnP).length≤sizeLine:=by rw [List.length_map,Q6];exact Nat.le_trans (show c + 1≤300 by omega) (by decide)
 refine ⟨zd ((htF D (qU S c)).take (c + 1 - 1)) ((htF D (qU S c)).drop 1),[.l (wl.map lsP)],?_,qFY (fun x hx=>hin x (List.mem_of_mem_take hx)) (fun x hx=>hin x (List.mem_of_mem_drop hx)),Qe rfl ?_⟩
 ·rw [qDt,List.length_take,List.length_drop,hhl];omega
 unfold zu
 refine qh (Qb (p := .lst ((qU S c).map lnP)) (s1:=lsS st wl) (wf ?_)) ?_
 ·let F:PV->PV:=fun q=>match q with | .tup [_,ln]=>ln |_ => .non
  have e:(wl.map lsP).map F=(qU S c).map lnP:=by
   rw [← hw,List.map_map,List.map_map]
   refine List.map_congr_left fun x _ => ?_
   rfl
  rw [← e]
  refine J5 (w:=⟨wl.map lsP,fun s=>s[st.length]? = some (.l (wl.map lsP))⟩) (F:=F) (YA (qN (l:=[sP S,.int (c:Int)]) rfl el) (mid rfl)) (mid rfl) (by rw [List.length_map,hwl];exact Nat.le_trans (show c + 1≤300 by omega) (by decide)) fun q hq => ?_
  obtain ⟨x,_,rfl⟩:=List.mem_map.mp hq
  exact ⟨[some (lsP x)],rfl,qT rfl rfl (YE rfl rfl)⟩
 refine qh (Qb (p := .int D) (s1:=lsS st wl) (qN (l:=[.lst ((zS (qU S c)).map PV.int)]) (s1:=lsS st wl) (qJ (wf ?_) qa) ?_)) ?_
 ·rw [← qAE]
  refine JH (w:=⟨(qU S c).map lnP,fun _=>True⟩) (c:=lnC) (F:=prP) (w8 rfl) trivial hlen fun q hq => ?_
  obtain ⟨ln,_,rfl⟩:=List.mem_map.mp hq
  refine ⟨[some (lnP ln)],rfl,Wx (qT rfl rfl (by rw [qIb,qD1])),fun z => ?_⟩
  rw [qD1] at z
  cases ln with
  |none=>cases z
  |some x=>rfl
 ·unfold qA9
  simp only [asL]
  rw [ZN]
  dsimp only
  rw [hD1]
 ·refine qh (Qb (p := .lst ((htF D (qU S c)).map PV.int)) (s1:=lsS st wl) (wf ?_)) ?_
  ·let F:PV->PV:=fun q=>match q with | .tup [.int x,_] => .int x |_ => .int D
   have e:((qU S c).map lnP).map F=(htF D (qU S c)).map PV.int:=by
    unfold htF
    rw [List.map_map,List.map_map]
    refine List.map_congr_left fun ln _ => ?_
    cases ln <;> rfl
   rw [← e]
   refine QW (w:=⟨(qU S c).map lnP,fun _=>True⟩) (F:=F) (w8 rfl) trivial hlen fun q hq => ?_
   obtain ⟨ln,_,rfl⟩:=List.mem_map.mp hq
   refine ⟨[some (.int D),some (lnP ln)],rfl,?_⟩
   cases ln with
   |none=>exact qE2 (Wx (qT rfl rfl rfl)) rfl
   |some x=>exact qEV (Wx (qT rfl rfl rfl)) rfl
  ·generalize hhs:htF D (qU S c)=hs at *
   have e1:QQ (hs.map PV.int) none (some (-1))=(hs.take (c + 1 - 1)).map PV.int:=by rw [qCu,hhl]
   have ez:qAL (qA (qD8 (qB 4) Q1 (Qh (yP (vC (.int 1))))) (qA (qD8 (qB 4) (Qh (vC (.int 1))) Q1) qD)) [some (sP S),some (.int (c:Int)),some (.lst ((qU S c).map lnP)),some (.int D),some (.lst (hs.map PV.int))] (lsS st wl) = .ok ⟨zP ((hs.take (c + 1 - 1)).map PV.int) ((hs.drop 1).map PV.int),fun s=>asL s (.lst ((hs.take (c + 1 - 1)).map PV.int))=some ((hs.take (c + 1 - 1)).map PV.int)∧asL s (.lst ((hs.drop 1).map PV.int))=some ((hs.drop 1).map PV.int)⟩ (lsS st wl):=by
    rw [← e1,← qC9]
    rfl
   refine Qq (qN (l:=[.lst ((zd (hs.take (c + 1 - 1)) (hs.drop 1)).map PV.int)]) (s1:=lsS st wl) (qJ (wf ?_) qa) (qBK rfl))
   rw [← qFm]
   refine QW (F:=zF) ez ⟨rfl,rfl⟩ ?_ fun q hq => ?_
   ·show (zP _ _).length≤sizeLine
    rw [Z5,List.length_map,List.length_take]
    exact Nat.le_trans (show _≤300 by omega) (by decide)
   ·have hq:q∈zP ((hs.take (c + 1 - 1)).map PV.int) ((hs.drop 1).map PV.int):=hq
    obtain ⟨i,hi⟩:=List.getElem?_of_mem hq
    obtain ⟨x,y,hx,hy,rfl⟩:=Zw hi
    obtain ⟨x',_,rfl⟩:=List.mem_map.mp (List.mem_of_getElem? hx)
    obtain ⟨y',_,rfl⟩:=List.mem_map.mp (List.mem_of_getElem? hy)
    exact ⟨[some (.int x'),some (.int y')],rfl,qT rfl rfl W0⟩
theorem qEA {i:Int} (h:i.natAbs < 2 ^ 200):(PyData.int i).shown.length≤300:=by
 rw [PyData.shown_int]
 cases i with
 |ofNat n =>
  have h:n < 2 ^ 200:=h
  show (Str.ofString (Nat.repr n)).length≤300
  rw [PySem.ofString_length]
  exact Nat.le_trans (nat_repr_length_le (k:=200) (by decide) h) (by decide)
 |negSucc n =>
  have h:n + 1 < 2 ^ 200:=h
  show (Str.ofString ("-" ++ Nat.repr (n + 1))).length≤300
  rw [PySem.ofString_length,String.length_append]
  have:=nat_repr_length_le (k:=200) (by decide) h
  show 1 + _≤300
  omega
theorem qCh {i:Int} (h:i.natAbs < 2 ^ 200):(PyData.int i).showable=true:=by
 rw [PyData.showable.eq_4]
 refine decide_eq_true ?_
 by_cases h0:i.natAbs=0
 ·rw [h0];decide
 ·exact Nat.lt_trans ((Nat.log2_lt h0).mpr h) (by decide)
structure Sm (p:PV):Prop where
 pl:wq p=true
 d:∃ d,zY p=some d∧d.showable=true∧d.depth≤1∧d.shown.length≤300
theorem zG {i:Int} (h:i.natAbs < 2 ^ 200):Sm (.int i):=⟨rfl,.int i,rfl,qCh h,Nat.zero_le _,qEA h⟩
theorem qHz {b:Bool}:Sm (.bl b):=⟨rfl,.bool b,rfl,rfl,Nat.zero_le _,by cases b <;> decide⟩
theorem qFz:Sm .non:=⟨rfl,.none,rfl,rfl,Nat.zero_le _,by decide⟩
theorem qHQ:Sm (.str "1"):=⟨rfl,.str "1",rfl,rfl,Nat.zero_le _,by decide +kernel⟩
theorem qHU:Sm (.tup [.int 0]):=⟨rfl,.tuple [.int 0],rfl,rfl,by decide,by decide⟩
theorem qAk:∀ {l:List PV},(∀ p∈l,Sm p) -> ∃ ds,pdats l=some ds∧PyData.showableAll ds=true∧PyData.depthAll ds≤1∧((PyData.shownAll ds).map fun x=>x.length).sum≤300 * l.length∧(PyData.shownAll ds).length=l.length
 |[],_=>⟨[],rfl,rfl,Nat.zero_le _,Nat.zero_le _,rfl⟩
 |p::l,h=>by
  obtain ⟨ds,h1,h2,h3,h4,h5⟩:=qAk fun q hq=>h q (List.mem_cons_of_mem _ hq)
  obtain ⟨d,e1,e2,e3,e4⟩:=(h p List.mem_cons_self).d
  refine ⟨d::ds,?_,?_,?_,?_,?_⟩
  ·unfold pdats;rw [e1,h1]
  ·rw [PyData.showableAll.eq_2,e2,h2];rfl
  ·rw [PyData.depthAll.eq_2];omega
  ·rw [PyData.shownAll.eq_2,List.map_cons,List.sum_cons,List.length_cons];omega
  ·rw [PyData.shownAll.eq_2,List.length_cons,List.length_cons,h5]
structure Thg (v:PV):Prop where
 ok:okP v=true
 rp:∃ t,rpr v=some t
theorem ZP {l:List PV} (hl:l.length≤500) (h:∀ p∈l,Sm p):Thg (.tup l):=by
 refine ⟨?_,?_⟩
 ·show (Nat.ble l.length 1000&&l.all wq)=true
  rw [Bool.and_eq_true,List.all_eq_true]
  exact ⟨Nat.ble_eq_true_of_le (by omega),fun p hp=>(h p hp).pl⟩
 ·obtain ⟨ds,h1,h2,h3,h4,h5⟩:=qAk h
  refine ⟨(PyData.tuple ds).shown,?_⟩
  show (zY (.tup l)).bind shw=_
  rw [show zY (.tup l)=some (.tuple ds) by unfold zY;rw [h1];rfl]
  show shw (.tuple ds)=_
  unfold shw
  refine if_pos ⟨?_,?_,?_⟩
  ·rw [PyData.showable.eq_6];exact h2
  ·show PyData.depthAll ds + 1≤60;omega
  ·rw [PyData.shown.eq_6]
   exact Nat.le_trans (tupleText_len_le _) (Nat.le_trans (show _≤300 * 500 + 2 * 500 + 3 by rw [h5];omega) (by decide))
theorem qEq {l:List PV} (hl:l.length≤500) (h:∀ p∈l,Sm p):Thg (.lst l):=by
 refine ⟨rfl,?_⟩
 obtain ⟨ds,h1,h2,h3,h4,h5⟩:=qAk h
 refine ⟨(PyData.list ds).shown,?_⟩
 show (zY (.lst l)).bind shw=_
 rw [show zY (.lst l)=some (.list ds) by unfold zY;rw [h1];rfl]
 show shw (.list ds)=_
 unfold shw
 refine if_pos ⟨?_,?_,?_⟩
 ·rw [PyData.showable.eq_5];exact h2
 ·show PyData.depthAll ds + 1≤60;omega
 ·rw [PyData.shown.eq_5]
  exact Nat.le_trans (listText_len_le _) (Nat.le_trans (show _≤300 * 500 + 2 * 500 + 3 by rw [h5];omega) (by decide))
def oddT:List PV:=[.non,.bl true,.int 7,.str "",.str "0",.tup [],.lst [],.dct,.tup [.int 1,.int 2],.tup [.int 0],.tup [.int 1,.int 0,.int 0],.int (-1),.tup [.int 0,.int 0],.lst [.tup [.int 0,.int 0]],.bl false,.tup [.tup [.int 0,.int 0],.tup [.int 0,.int 1]]]
def qHE (v:PV):Bool:=okP v&&(rpr v).isSome
theorem qCL {v:PV} (h:qHE v=true):Thg v:=by
 unfold qHE at h
 rw [Bool.and_eq_true] at h
 exact ⟨h.1,Option.isSome_iff_exists.mp h.2⟩
theorem qEo:oddT.all qHE=true:=by decide +kernel
theorem jI {l:List PV} {i:Int} {S:qC} {P:PV->Prop} (h0:0≤i) (h1:i < l.length) (h:∀ v∈l,P v):∃ v,P v∧gIx (.lst l) (.int i) S = .ok v S:=by
 obtain ⟨v,hv,e⟩:=jb h0 h1
 exact ⟨v,h v hv,YE rfl e⟩
theorem qGN {a:Ad} {st j:qC} {x:Int}:∃ v,Thg v∧yS a [.ref st.length] (st ++ .l [.int x]::j) = .ok v (st ++ .l [.int (x / 16)]::j):=by
 have m:=ZJ (x:=x) (m:=16) (by decide)
 obtain ⟨v,hv,e⟩:=jI (l:=oddT) (P:=Thg) (S:=st ++ .l [.int (x / 16)]::j) m.1 m.2 fun v hv=>qCL (List.all_eq_true.mp qEo v hv)
 exact ⟨v,hv,Qe rfl (qh (Qb (p := .lst oddT) (s1:=st ++ .l [.int x]::j) rfl) (Qq (qT (p := .lst oddT) (q := .int (x % 16)) (s1:=st ++ .l [.int x]::j) (s2:=st ++ .l [.int (x / 16)]::j) rfl (qN (l:=[.ref st.length,.int 16]) rfl (Qx (by decide) (by decide))) e)))⟩
theorem qDf {l:List PV} {lo hi:Option Int} {s:Int} {p:PV} (h:p∈HT.cutS l lo hi s):p∈l:=by
 unfold HT.cutS at h
 obtain ⟨m,_,e⟩:=List.mem_filterMap.mp h
 exact List.mem_of_getElem? e
theorem qBw:∀ n:Fin 201,Builtin.Slice.slicePlaces (Builtin.Slice.sliceAdjust none none (-1) (n.val:Nat)).1 (Builtin.Slice.sliceAdjust none none (-1) (n.val:Nat)).2 (-1)≤300:=by decide +kernel
theorem JP {l:List PV} (h:l.length≤200):(HT.cutS l none none (-1)).length≤300:=by
 unfold HT.cutS
 refine Nat.le_trans (List.length_filterMap_le _ _) ?_
 rw [List.length_range]
 exact qBw ⟨l.length,by omega⟩
structure Ppr (ns:List Int):Prop where
 hi:ns.length≤200
 b:∀ x∈ns,-201000000000000≤x∧x≤201000000000000
theorem YH {x:Int} (h:-300000000000000≤x∧x≤300000000000000):x.natAbs < 2 ^ 200:=by
 have h1:x.natAbs < 300000000000001:=by omega
 exact Nat.lt_trans h1 (by decide)
theorem Ppr.sm {ns:List Int} (R:Ppr ns):∀ p∈ns.map PV.int,Sm p:=fun p hp=>by
 obtain ⟨x,hx,rfl⟩:=List.mem_map.mp hp
 have:=R.b x hx
 exact zG (YH (by omega))
theorem Ppr.thg {ns:List Int} (R:Ppr ns):Thg (.tup (ns.map PV.int)):=ZP (by rw [List.length_map];have:=R.hi;omega) R.sm
theorem both {l m:List PV} (h1:∀ p∈l,Sm p) (h2:∀ p∈m,Sm p):∀ p∈l++m,Sm p:=fun p hp=>(List.mem_append.mp hp).elim (h1 p) (h2 p)
def Zy (l:List PV) (t:Int) (o u:PV):List PV:=[.tup (QQ l none (some t)++[o]++QQ l (some (t + 1)) none),.tup (QQ l none (some t)++[o]++QQ l (some (t + 1)) none),.tup (l++[.int 0]),.tup (QQ l (some 1) none),.lst l,.tup (HT.cutS l none none (-1)),.non,u]
theorem qD6 {ns:List Int} (R:Ppr ns) {t:Int} {o u:PV} (ho:Sm o) (hu:Thg u):∀ v∈Zy (ns.map PV.int) t o u,Thg v:=by
 have hl:(ns.map PV.int).length≤200:=by rw [List.length_map];exact R.hi
 have c1:∀ lo hi,∀ p∈QQ (ns.map PV.int) lo hi,Sm p:=fun lo hi p hp=>R.sm p (je hp)
 have o1:∀ p∈[o],Sm p:=fun p hp=>by rw [List.mem_singleton.mp hp];exact ho
 have z1:∀ p∈[PV.int 0],Sm p:=fun p hp=>by rw [List.mem_singleton.mp hp];exact zG (by decide)
 have l1:=fun lo hi=>Wh (l:=ns.map PV.int) (lo:=lo) (hi:=hi)
 have k1:Thg (.tup (QQ (ns.map PV.int) none (some t)++[o]++QQ (ns.map PV.int) (some (t + 1)) none)):=by
  refine ZP ?_ (both (both (c1 _ _) o1) (c1 _ _))
  have a1:=l1 none (some t)
  have a2:=l1 (some (t + 1)) none
  rw [List.length_append,List.length_append,List.length_singleton];omega
 intro v hv
 unfold Zy at hv
 simp only [List.mem_cons,List.not_mem_nil,or_false] at hv
 rcases hv with rfl |rfl |rfl |rfl |rfl |rfl |rfl |rfl
 ·exact k1
 ·exact k1
 ·exact ZP (by rw [List.length_append,List.length_singleton];omega) (both R.sm z1)
 ·exact ZP (by have:=l1 (some 1) none;omega) (c1 _ _)
 ·exact qEq (by omega) R.sm
 ·exact ZP (by have:=JP hl;omega) fun p hp=>R.sm p (qDf hp)
 ·exact qCL (by decide +kernel)
 ·exact hu
theorem qE7 {a:Ad} {ns:List Int} (R:Ppr ns) {st j:qC} {x:Int}:∃ v y,Thg v∧zE a [.ref st.length,.tup (ns.map PV.int)] (st ++ .l [.int x]::j) = .ok v (st ++ .l [.int y]::j):=by
 have hi:=R.hi
 have hn:0 < (ns.length:Int) + 1:=by omega
 have m:=ZJ (x:=x) hn
 have t1:=Qx (a:=a) (st:=st) (j:=j) (x:=x) (m:=(ns.length:Int) + 1) hn (by omega)
 generalize ht:x % ((ns.length:Int) + 1)=t at t1 m
 generalize hx1:x / ((ns.length:Int) + 1)=x1 at t1
 have t2:=Qx (a:=a) (st:=st) (j:=j) (x:=x1) (m:=10) (by decide) (by decide)
 have m10:=ZJ (x:=x1) (m:=10) (by decide)
 have br:-201000000000000≤(ns++[0]).getD t.toNat 0∧(ns++[0]).getD t.toNat 0≤201000000000000:=by
  have hlt:t.toNat < (ns++[0]).length:=by rw [List.length_append,List.length_singleton];omega
  rw [List.getD_eq_getElem?_getD,List.getElem?_eq_getElem hlt]
  show _≤(ns++[0])[t.toNat]∧(ns++[0])[t.toNat]≤_
  rcases List.mem_append.mp (List.getElem_mem hlt) with h |h
  ·exact R.b _ h
  ·rw [List.mem_singleton.mp h];decide
 have ix:∀ S,gIx (.tup (ns.map PV.int++[.int 0])) (.int t) S = .ok (.int ((ns++[0]).getD t.toNat 0)) S:=fun S=>by
  have:=yt (l:=ns++[0]) (L:=(ns.length:Int) + 1) (i:=t) (by rw [List.length_append,List.length_singleton];omega) m.1 m.2
  rw [List.map_append] at this
  exact YE rfl this
 generalize hrr:(ns++[0]).getD t.toNat 0=r at br ix
 obtain ⟨o,ho,e2⟩:=jI (l:=[.int (r + 1),.int (r - 1),.int (r - 10 ^ 12),.bl true,.non,.str "1",.tup [.int 0],.int (10 ^ 39),.int 0,.int (0 - r)]) (P:=Sm) (S:=st ++ .l [.int (x1 / 10)]::j) (i:=x1 % 10) m10.1 m10.2 (by
  intro v hv
  simp only [List.mem_cons,List.not_mem_nil,or_false] at hv
  rcases hv with rfl |rfl |rfl |rfl |rfl |rfl |rfl |rfl |rfl |rfl
  ·exact zG (YH (by omega))
  ·exact zG (YH (by omega))
  ·exact zG (YH (by rw [show (10:Int) ^ 12=1000000000000 by decide];omega))
  ·exact qHz
  ·exact qFz
  ·exact qHQ
  ·exact qHU
  ·exact zG (by decide +kernel)
  ·exact zG (by decide)
  ·exact zG (YH (by omega)))
 obtain ⟨u,hu,e3⟩:=qGN (a:=a) (st:=st) (j:=j) (x:=x1 / 10)
 have t3:=Qx (a:=a) (st:=st) (j:=j) (x:=x1 / 10 / 16) (m:=8) (by decide) (by decide)
 have m8:=ZJ (x:=x1 / 10 / 16) (m:=8) (by decide)
 obtain ⟨v,hv,e4⟩:=jI (l:=Zy (ns.map PV.int) t o u) (P:=Thg) (S:=st ++ .l [.int (x1 / 10 / 16 / 8)]::j) (i:=x1 / 10 / 16 % 8) m8.1 m8.2 (qD6 R ho hu)
 refine ⟨v,x1 / 10 / 16 / 8,hv,Qe rfl ?_⟩
 have ll:(ns.map PV.int).length≤200:=by rw [List.length_map];exact hi
 have l1:=fun lo hi=>Wh (l:=ns.map PV.int) (lo:=lo) (hi:=hi)
 unfold Zn
 refine qh (Qb (p := .int t) (s1:=st ++ .l [.int x1]::j) (qN (l:=[.ref st.length,.int ((ns.length:Int) + 1)]) (qJ rfl (qJ (qT (qN (l:=[.tup (ns.map PV.int)]) rfl (ZI rfl (by rw [List.length_map]))) rfl Z1) qa)) t1)) ?_
 refine qh (Qb (p := .int r) (s1:=st ++ .l [.int x1]::j) (qT (qT (p := .tup (ns.map PV.int)) (q := .tup [.int 0]) rfl (wG (qJ rfl qa) (sz rfl)) (YL (by show _ + 1≤1000;omega))) rfl (ix _))) ?_
 refine qh (Qb (p:=o) (s1:=st ++ .l [.int (x1 / 10)]::j) (qT (wf (ZW (qJ (qT rfl rfl Z1) (qJ (qT rfl rfl W0) (qJ (qT (q := .int (10 ^ 12)) rfl rfl W0) (qJ rfl (qJ rfl (qJ rfl (qJ (wG (qJ rfl qa) (sz rfl)) (qJ rfl (qJ rfl (qJ (qT rfl rfl W0) qa)))))))))) (sz rfl))) (qN (l:=[.ref st.length,.int 10]) rfl t2) e2)) ?_
 generalize hS:st++SO.l [.int (x1 / 10)]::j=S at *
 have i5:∀ (env:q9) (s:qC),env[1]? = some (some (.tup (ns.map PV.int)))->qAs (qB 1) Q1 Q1 (Qh (yP (vC (.int 1)))) env s = .ok (.tup (HT.cutS (ns.map PV.int) none none (-1))) s:=fun env s h1=>by
  unfold qAs
  rw [qFk h1]
  show (if (-1:Int) < 0∧(HT.cutS (ns.map PV.int) none none (-1)).length≤sizeLine then Rs.ok (PV.tup (HT.cutS (ns.map PV.int) none none (-1))) s else .no)=_
  rw [if_pos ⟨by decide,Nat.le_trans (JP ll) (by decide)⟩]
 have a1:=l1 none (some t)
 have a2:=l1 (some (t + 1)) none
 have ec:∀ (x0 x3 x5:Option PV),qL wc (qL wc (yG (qB 1) Q1 (Qh (qB 2))) (qt (qA (qB 4) qD))) (yG (qB 1) (Qh (qL qz (qB 2) (vC (.int 1)))) Q1) [x0,some (.tup (ns.map PV.int)),some (.int t),x3,some o,x5] S = .ok (.tup (QQ (ns.map PV.int) none (some t)++[o]++QQ (ns.map PV.int) (some (t + 1)) none)) S:=fun x0 x3 x5 =>
  qT (p := .tup (QQ (ns.map PV.int) none (some t)++[o])) (q := .tup (QQ (ns.map PV.int) (some (t + 1)) none)) (s1:=S) (s2:=S) (qT (p := .tup (QQ (ns.map PV.int) none (some t))) (q := .tup [o]) (s1:=S) (s2:=S) rfl (wG (qJ rfl qa) (sz rfl)) (YL (by rw [List.length_singleton];omega))) rfl (YL (by rw [List.length_append,List.length_singleton];omega))
 refine qh (Qb (p := .lst ((Zy (ns.map PV.int) t o u).take 4)) (s1:=S) (wf (ZW (qJ (ec _ _ _) (qJ (ec _ _ _) (qJ (qT (p := .tup (ns.map PV.int)) (q := .tup [.int 0]) rfl (wG (qJ rfl qa) (sz rfl)) (YL (by show _ + 1≤1000;omega))) (qJ rfl qa)))) (sz rfl)))) ?_
 refine Qq (qT (p := .lst (Zy (ns.map PV.int) t o u)) (q := .int (x1 / 10 / 16 % 8)) (wf (Jk (p := .lst ((Zy (ns.map PV.int) t o u).take 4)) (q := .lst ((Zy (ns.map PV.int) t o u).drop 4)) (l:=(Zy (ns.map PV.int) t o u).take 4) (m:=(Zy (ns.map PV.int) t o u).drop 4) rfl (wf (ZW (qJ rfl (qJ (i5 _ _ rfl) (qJ rfl (qJ (qN (l:=[.ref st.length]) rfl e3) qa)))) (sz rfl))) rfl rfl (sz rfl))) (qN (l:=[.ref st.length,.int 8]) rfl t3) e4)
theorem qGj {a:Ad} {p q v z:PV} {st s1:qC} (e:qu a [p,q,v] st = .ok z s1):Qj a [p,q,v] st = .ok z s1:=by
 refine Qe rfl ?_
 unfold Wm Jo
 rw [Qq (qN (l:=[p,q,v]) (s1:=st) rfl e)]
theorem qDV {a:Ad} {p q v z:PV} {st:qC} {x:Exc} (e:wb a [p,q] st = .ex x st) (hx:x.cls∈Qg a) (h:Wg a [.exc x.cls x.fs] st = .ok z st):Qj a [p,q,v] st = .ok z st:=by
 have er:qu a [p,q,v] st = .ex x st:=by
  refine yL rfl ?_
  unfold Qa
  exact JB (Yz (jW (l:=[p,q]) rfl e))
 refine Qe rfl ?_
 unfold Wm Jo
 rw [qCZ (jW (l:=[p,q,v]) (s1:=st) rfl er)]
 dsimp only
 rw [if_pos hx,Qq (p:=z) (s1:=st) (qN (l:=[.exc x.cls x.fs]) (s1:=st) rfl h)]
theorem qCo {a:Ad} {st:qC} {n:Nat} {i:Int}:QZ (n + 1) a [.int i,.int i] st = .ok (.bl true) st:=by
 refine Qe (N:=2) (B:=ww a (QZ n a)) rfl ?_
 unfold ww
 refine qh (w6 (qo (qN (l:=[.int i,.tup [.ty "tuple",.ty "list"]]) rfl rfl)) rfl) (Qq ?_)
 unfold Zf
 rw [qT (p := .int i) (q := .int i) (s1:=st) (s2:=st) (R := .ok (.bl true) st) rfl rfl (by rw [qC3,beq_self_eq_true])]
 rfl
theorem qCJ {a:Ad} {st:qC} {n:Nat}:QZ (n + 1) a [.non,.non] st = .ok (.bl true) st:=by
 refine Qe (N:=2) (B:=ww a (QZ n a)) rfl ?_
 unfold ww
 refine qh (w6 (qo (qN (l:=[.non,.tup [.ty "tuple",.ty "list"]]) rfl rfl)) rfl) (Qq ?_)
 rfl
theorem qEO {a:Ad} {st:qC} {n:Nat} {z:PV} (h:z = .non ∨ ∃ i,z = .int i):QZ (n + 1) a [z,z] st = .ok (.bl true) st:=by
 rcases h with rfl |⟨i,rfl⟩
 ·exact qCJ
 ·exact qCo
theorem J9 {x:Str} {st:qC}:gNe (.str x) (.str x) st = .ok (.bl false) st:=by
 show Rs.ok (PV.bl (!(x==x))) st=_
 rw [beq_self_eq_true];rfl
noncomputable def tB (a:Ad):FS:=(qR (qY 7 (qI Zv (qA (qB 6) qD))) (qR (qY 8 (qI (Qj a) (qA (qB 3) (qA (qB 4) (qA (qB 6) qD))))) (wN (W5 (WP (Qw (qI (QZ 3 a) (qA (qB 8) (qA (qI (wa a) (qA (qB 3) (qA (qB 4) (qA (qB 6) qD)))) qD))))) (vTB (qL gNe (qI Zv (qA (qB 6) qD)) (qB 7)))) (qr (vC (.bl false))) Q8)))
theorem qBO {v:PV} {t:Str} {st:qC} (h:rpr v=some t):Zv [v] st = .ok (.str t) st:=by
 unfold Zv
 dsimp only
 rw [h]
theorem qA3 {a:Ad} {S:List (Int×Int)} (R:Srt S) {c:Nat} (hc:c≤200) {x0 x1 x2 x5 x9 x10:Option PV}:∀ (vs:List PV) (x6 x7 x8:Option PV) (st:qC),(∀ v∈vs,Thg v) ->
  ∃ y6 y7 y8 g,Qs (fun _=>True) (QT 6) (tB a) vs [x0,x1,x2,some (sP S),some (.int (c:Int)),x5,x6,x7,x8,x9,x10] st = .nx [x0,x1,x2,some (sP S),some (.int (c:Int)),x5,y6,y7,y8,x9,x10] (st++g)
 |[],x6,x7,x8,st,_=>⟨x6,x7,x8,[],by rw [List.append_nil];exact wY trivial⟩
 |v::vs,x6,x7,x8,st,h=>by
  obtain ⟨hk,t,ht⟩:=h v List.mem_cons_self
  obtain ⟨z,g,hz,e1,e2⟩:=qID (a:=a) R hc hk (st:=st)
  obtain ⟨y6,y7,y8,g',e⟩:=qA3 (a:=a) R hc (x0:=x0) (x1:=x1) (x2:=x2) (x5:=x5) (x9:=x9) (x10:=x10) vs (some v) (some (.str t)) (some z) (st++g) fun q hq=>h q (List.mem_cons_of_mem _ hq)
  refine ⟨y6,y7,y8,g++g',?_⟩
  rw [← List.append_assoc]
  refine ZL (p:=v) (r1:=[x0,x1,x2,some (sP S),some (.int (c:Int)),x5,some v,x7,x8,x9,x10]) trivial rfl ?_ e
  refine qh (Qb (p := .str t) (s1:=st) (qN (l:=[v]) rfl (qBO ht))) (qh (Qb (p:=z) (s1:=st) (qN (l:=[sP S,.int (c:Int),v]) rfl (qGj e1))) ?_)
  exact w6 (w5 (w_not (b:=true) (qo (qN (l:=[z,z]) (s1:=st++g) (qJ rfl (qJ (qN (l:=[sP S,.int (c:Int),v]) rfl e2) qa)) (qEO hz)))) (Wx (qT (p := .str t) (q := .str t) (qN (l:=[v]) rfl (qBO ht)) rfl J9))) rfl
noncomputable def bE (a:Ad):FE:=(qI (zE a) (qA (qB 0) (qA (qB 1) qD)))
theorem qBG {a:Ad} {ns:List Int} (R:Ppr ns) {st j:qC} {fi:FI}:∀ (ks:List PV) (x:Int),∃ (vs:List PV) (y:Int),vs.length=ks.length∧(∀ v∈vs,Thg v)∧qi (fun _=>True) (Qd ⟨fi,QR 2,[]⟩ (Qn [] (bE a)) [some (.ref st.length),some (.tup (ns.map PV.int)),none]) ks (st ++ .l [.int x]::j) = .ok vs (st ++ .l [.int y]::j)
 |[],x=>⟨[],x,rfl,fun v h=>(List.not_mem_nil h).elim,zy trivial⟩
 |k::ks,x=>by
  obtain ⟨v,y1,hv,e1⟩:=qE7 (a:=a) R (st:=st) (j:=j) (x:=x)
  obtain ⟨vs,y,hl,hvs,e⟩:=qBG (a:=a) R (st:=st) (j:=j) (fi:=fi) ks y1
  refine ⟨v::vs,y,by rw [List.length_cons,List.length_cons,hl],fun q hq => ?_,jL trivial (qAN rfl (qN (l:=[.ref st.length,.tup (ns.map PV.int)]) rfl e1)) e⟩
  rcases List.mem_cons.mp hq with rfl |hq
  ·exact hv
  ·exact hvs q hq
theorem qIr {c:Nat} {st:qC} (h:c≤200):yF (.tup [.int 0]) (.int (c:Int)) st = .ok (.tup (List.replicate c (.int 0))) st:=by
 unfold yF
 dsimp only
 rw [if_pos ⟨by simp,by omega,by omega,by rw [show ([PV.int 0].length)=1 from rfl,Nat.one_mul];exact Nat.le_trans (show ((c:Int)).toNat≤200 by omega) (by decide)⟩,Int.toNat_natCast]
 have:(List.replicate c [PV.int 0]).flatten=List.replicate c (.int 0):=by
  induction c with
  |zero=>rfl
  |succ n ih=>rw [List.replicate_succ,List.flatten_cons,ih (by omega),List.replicate_succ];rfl
 rw [this]
theorem qBq {c:Nat} (h:c≤200):Thg (.tup (List.replicate c (.int 0))):=ZP (by rw [List.length_replicate];omega) fun p hp=>by
 rw [(List.mem_replicate.mp hp).2];exact zG (by decide)
noncomputable def qFt (a:Ad):FS:=(qR (qY 9 (qI (wL a) (qA (qB 2) qD))) (qR (qY 10 (qI (wg a) (qA (qB 2) (qA (qB 3) qD)))) (wN (W5 (vTB (qL gNe (qI (Qj a) (qA (qB 10) (qA (qB 9) (qA (qB 5) qD)))) (vC (.str "! sorts")))) (vTB (qL gNe (qI (Qj a) (qA (qB 3) (qA (qB 9) (qA (qB 5) qD)))) (vC (.str "! number"))))) (qr (vC (.bl false))) Q8)))
noncomputable def thE (a:Ad):FL:=(Z4 (vFz (Qt (qA (qB 5) (qA (qL yF (qt (qA (vC (.int 0)) qD)) (qB 4)) qD)))) (vFz (qm [2,5] 1 (Wq (qA (vC (.int 5)) qD)) (QR 2) [] [] (bE a))))
noncomputable def jv (a:Ad):FS:=(qR (qY 2 (qI (ZR a) (qA (qB 0) (qA (qB 1) qD)))) (qR (qY 3 (qI (Wj a) (qA (qB 2) qD))) (qR (qY 4 (qI (qZ a) (qA (qB 2) (qA (qL gIx (vFz (Qt (qA (vC (.int 9)) (qA (vC (.int 40)) (qA (vC (.int 201)) qD))))) (qI (qZ a) (qA (qB 2) (qA (vC (.int 3)) qD)))) qD)))) (qR (qY 5 (qI (Wr a) (qA (qB 3) (qA (qB 4) qD)))) (qR (WN (QA (vFz (thE a))) (QT 6) (tB a)) (qFt a))))))
theorem qFF {a:Ad} (hd:Dist a) {S:List (Int×Int)} (R:Srt S) {st j:qC} {z:Int} {p:PV} {x0 x1 x4 x6 x7 x8 x9 x10:Option PV}:∃ y9 y10 st',qFt a [x0,x1,some (.ref st.length),some (sP S),x4,some p,x6,x7,x8,x9,x10] (st ++ .l [.int z]::j) = .nx [x0,x1,some (.ref st.length),some (sP S),x4,some p,x6,x7,x8,y9,y10] st':=by
 obtain ⟨u,pu,nu,eu⟩:=JV (a:=a) (st:=st) (j:=j) (x:=z)
 obtain ⟨v,y,g,bv,ev⟩:=Ju (a:=a) R (st:=st) (j:=j) (x:=z / 8)
 refine ⟨some u,some v,st ++ .l [.int y]::(j++g),qh (Qb (qN (l:=[.ref st.length]) rfl eu)) (qh (Qb (qN (l:=[.ref st.length,sP S]) rfl ev)) ?_)⟩
 exact w6 (w5 (Wx (qT (qN (l:=[v,u,p]) rfl (qDV (qAD (bv.no a _)) (by unfold Qg;simp) (qAc hd))) rfl J9)) (Wx (qT (qN (l:=[sP S,u,p]) rfl (qDV (qAP R pu nu) (by unfold Qg;simp) (jp hd))) rfl J9))) rfl
theorem qE4 {a:Ad} (hd:Dist a) {ns:List Int} {k:Int} {st:qC} {x2 x3 x4 x5 x6 x7 x8 x9 x10:Option PV} (h0:0≤k):∃ y2 y3 y4 y5 y6 y7 y8 y9 y10 st',jv a [some (.lst (ns.map PV.int)),some (.int k),x2,x3,x4,x5,x6,x7,x8,x9,x10] st = .nx [some (.lst (ns.map PV.int)),some (.int k),y2,y3,y4,y5,y6,y7,y8,y9,y10] st':=by
 obtain ⟨x,ex⟩:=qGZ (a:=a) (ns:=ns) (k:=k) (st:=st) h0
 obtain ⟨S,y,R,es⟩:=qCX (a:=a) (st:=st) (j:=[]) (x:=x)
 have t1:=Qx (a:=a) (st:=st) (j:=[]) (x:=y) (m:=3) (by decide) (by decide)
 have hm:∃ m:Int,(m=9∨m=40∨m=201)∧gIx (.lst [.int 9,.int 40,.int 201]) (.int (y % 3)) (st ++ .l [.int (y / 3)]::[]) = .ok (.int m) (st ++ .l [.int (y / 3)]::[]):=by
  have:y % 3=0∨y % 3=1∨y % 3=2:=by omega
  rcases this with h |h |h <;> rw [h]
  ·exact ⟨9,.inl rfl,rfl⟩
  ·exact ⟨40,.inr (.inl rfl),rfl⟩
  ·exact ⟨201,.inr (.inr rfl),rfl⟩
 obtain ⟨m,hm1,hm2⟩:=hm
 have hmp:0 < m∧m≤201:=by rcases hm1 with rfl |rfl |rfl <;> decide
 have t2:=Qx (a:=a) (st:=st) (j:=[]) (x:=y / 3) (m:=m) hmp.1 (by omega)
 have hc:=ZJ (x:=y / 3) (m:=m) hmp.1
 generalize hcc:y / 3 % m=cc at hc t2
 obtain ⟨c,rfl⟩:∃ c:Nat,cc=(c:Int):=⟨cc.toNat,by omega⟩
 have hc2:c≤200:=by omega
 generalize hz:y / 3 / m=z at t2
 obtain ⟨ps,g1,hpl,hpb,ep⟩:=qCS (a:=a) R hc2 (st:=st++SO.l [.int z]::[])
 have hP:Ppr ps:=⟨by omega,hpb⟩
 have hS1:st++SO.l [.int z]::[]++g1=st++SO.l [.int z]::g1:=by rw [List.append_assoc];rfl
 rw [hS1] at ep
 obtain ⟨vs,w,hvl,hvs,eb⟩:=qBG (a:=a) hP (st:=st) (j:=g1) (fi:=Wq (qA (vC (.int 5)) qD)) ((zZ 5).map PV.int) z
 have hvl:vs.length=5:=by rw [hvl,List.length_map,YI];rfl
 obtain ⟨y6,y7,y8,g2,el⟩:=qA3 (a:=a) R hc2 (x0:=some (.lst (ns.map PV.int))) (x1:=some (.int k)) (x2:=some (.ref st.length)) (x5:=some (.tup (ps.map PV.int))) (x9:=x9) (x10:=x10) ([.tup (ps.map PV.int),.tup (List.replicate c (.int 0))]++vs) x6 x7 x8 (st++SO.l [.int w]::g1) (by
  intro v hv
  rcases List.mem_append.mp hv with hv |hv
  ·simp only [List.mem_cons,List.not_mem_nil,or_false] at hv
   rcases hv with rfl |rfl
   ·exact hP.thg
   ·exact qBq hc2
  ·exact hvs v hv)
 have hS2:st++SO.l [.int w]::g1++g2=st++SO.l [.int w]::(g1++g2):=by rw [List.append_assoc];rfl
 rw [hS2] at el
 obtain ⟨y9,y10,st',et⟩:=qFF (a:=a) hd R (st:=st) (j:=g1++g2) (z:=w) (p := .tup (ps.map PV.int)) (x0:=some (.lst (ns.map PV.int))) (x1:=some (.int k)) (x4:=some (.int (c:Int))) (x6:=y6) (x7:=y7) (x8:=y8) (x9:=x9) (x10:=x10)
 refine ⟨some (.ref st.length),some (sP S),some (.int (c:Int)),some (.tup (ps.map PV.int)),y6,y7,y8,y9,y10,st',?_⟩
 refine qh (Qb (p := .ref st.length) (s1:=st++[.l [.int x]]) (qN (qJ rfl (qJ rfl qa)) ex)) ?_
 refine qh (Qb (p:=sP S) (s1:=st ++ .l [.int y]::[]) (qN (l:=[.ref st.length]) rfl es)) ?_
 refine qh (Qb (p := .int (c:Int)) (s1:=st ++ .l [.int z]::[]) (qN (l:=[.ref st.length,.int m]) (qJ rfl (qJ (qT (p := .lst [.int 9,.int 40,.int 201]) (q := .int (y % 3)) rfl (qN (l:=[.ref st.length,.int 3]) rfl t1) hm2) qa)) t2)) ?_
 refine qh (Qb (p := .tup (ps.map PV.int)) (s1:=st++SO.l [.int z]::g1) (qN (l:=[sP S,.int (c:Int)]) rfl ep)) ?_
 have eL:thE a [some (.lst (ns.map PV.int)),some (.int k),some (.ref st.length),some (sP S),some (.int (c:Int)),some (.tup (ps.map PV.int)),x6,x7,x8,x9,x10] (st++SO.l [.int z]::g1) = .ok ([.tup (ps.map PV.int),.tup (List.replicate c (.int 0))]++vs) (st++SO.l [.int w]::g1):=by
  unfold thE
  refine Jk (p := .lst [.tup (ps.map PV.int),.tup (List.replicate c (.int 0))]) (q := .lst vs) (s1:=st++SO.l [.int z]::g1) (l:=[.tup (ps.map PV.int),.tup (List.replicate c (.int 0))]) (m:=vs) (wf (ZW (qJ rfl (qJ (qT (wG (qJ rfl qa) (sz rfl)) rfl (qIr hc2)) qa)) (sz rfl))) (wf (jU (w:=⟨(zZ 5).map PV.int,fun _=>True⟩) (s1:=st++SO.l [.int z]::g1) (itN (by decide) (by decide) rfl) eb (by rw [hvl];decide))) rfl rfl ?_
  rw [hvl]
  show 2 + 5≤sizeLine
  decide
 have eF:=w8 (wf eL)
 exact qh (YB eF el) et
theorem Js {a:Ad} (hd:Dist a) {ns:List Int}:∀ (ks:List Int) (x1 x2 x3 x4 x5 x6 x7 x8 x9 x10:Option PV) (st:qC),(∀ k∈ks,0≤k) -> ∃ e st',Qs (fun _=>True) (QT 1) (jv a) (ks.map PV.int) [some (.lst (ns.map PV.int)),x1,x2,x3,x4,x5,x6,x7,x8,x9,x10] st = .nx e st'
 |[],x1,x2,x3,x4,x5,x6,x7,x8,x9,x10,st,_=>⟨_,st,wY trivial⟩
 |k::ks,x1,x2,x3,x4,x5,x6,x7,x8,x9,x10,st,h=>by
  obtain ⟨y2,y3,y4,y5,y6,y7,y8,y9,y10,st1,e⟩:=qE4 (a:=a) hd (ns:=ns) (k:=k) (st:=st) (x2:=x2) (x3:=x3) (x4:=x4) (x5:=x5) (x6:=x6) (x7:=x7) (x8:=x8) (x9:=x9) (x10:=x10) (h k List.mem_cons_self)
  obtain ⟨e',st',e2⟩:=Js hd (ns:=ns) ks (some (.int k)) y2 y3 y4 y5 y6 y7 y8 y9 y10 st1 fun q hq=>h q (List.mem_cons_of_mem _ hq)
  exact ⟨e',st',ZL trivial rfl e e2⟩
theorem law_true:∀ (a:Ad) (ns:List Int),Dist a->ns.length≤63->(∀ k∈ns,Builtin.Int.intBits k≤2 ^ 20) -> ∃ st,j5 a [.lst (ns.map PV.int)] [] = .ok (.bl true) st:=by
 intro a ns hd hl hb
 obtain ⟨n,hn0,hn4,hn⟩:∃ n:Int,0≤n∧n≤5∧qI qCz (qA (vC (.int 1)) (qA (qI qDW (qA (qI W7 (qA (qB 0) qD)) (qA (vC (.int 5)) qD))) qD)) (QV 11 [.lst (ns.map PV.int)]) [] = .ok (.int n) []:=by
  refine ⟨if (if (5:Int) < ns.length then 5 else (ns.length:Int)) > 1 then (if (5:Int) < ns.length then 5 else (ns.length:Int)) else 1,?_,?_,?_⟩
  ·split <;> (try split) <;> omega
  ·split <;> (try split) <;> omega
  ·exact qN (qJ rfl (qJ (qN (l:=[.int ns.length,.int 5]) (qJ (qN (qJ rfl qa) (ZI (l:=ns.map PV.int) rfl (by rw [List.length_map]))) (qJ rfl qa)) rfl) qa)) rfl
 obtain ⟨e,st',h⟩:=Js hd (zZ n) none none none none none none none none none none [] fun k hk=>by have:=upto_mem.mp hk;omega
 exact ⟨st',Qe rfl (qh (YB (itN hn0 (by omega) (qJ hn qa)) h) (Qq rfl))⟩
end K87
end
section

end
section
namespace K87
open PySem PySem.Spec PyProof.Rows L2 EX EV
theorem qEm {a:Ad} {x:Addr} {c:Value} {b:Bool} (h:kit a (.ref x) c=some b):x∈Qg a:=by
 cases c with
 |ref d =>
  have h:(if x∈Qg a∧d∈a.kinds then some (x==d) else none)=some b:=h
  split at h
  ·rename_i hx;exact hx.1
  ·cases h
 |type T =>
  have h:(if x∈Qg a∧T = "ValueError" then some true else none)=some b:=h
  split at h
  ·rename_i hx;exact hx.1
  ·cases h
 |_=>cases h
theorem qBa {K:W.Frag}:∀ p∈kitTab,PySem.W.kitOne K (.type p.1.1) (.type p.1.2)=some p.2:=by
 intro p hp
 unfold kitTab at hp
 simp only [List.mem_cons,List.not_mem_nil,or_false] at hp
 rcases hp with rfl |rfl |rfl |rfl |rfl |rfl |rfl |rfl |rfl |rfl |rfl |rfl |rfl |rfl |rfl |rfl |rfl |rfl |rfl |rfl |rfl |rfl |rfl |rfl |rfl |rfl |rfl |rfl <;> rfl
theorem jr {s T:String} {b:Bool}:∀ {l:List ((String×String)×Bool)},l.lookup (s,T)=some b->((s,T),b)∈l
 |[],h=>by cases h
 |(q,k)::l,h=>by
  rw [List.lookup_cons] at h
  split at h
  ·rename_i e;cases h;rw [eq_of_beq e];exact List.mem_cons_self
  ·exact List.mem_cons_of_mem _ (jr h)
theorem qE3 {K:W.Frag} {s T:String} {b:Bool} (h:qHh s T=some b):PySem.W.kitOne K (.type s) (.type T)=some b:=qBa _ (jr h)
theorem QH {a:Ad} (h:Dist a):a.NoSorts≠a.NoLength∧a.NoSorts≠a.NoNumber∧a.NoSorts≠a.NoBars∧a.NoSorts≠a.NoBox∧a.NoSorts≠a.NoWeights∧a.NoSorts≠a.NoTurn∧a.NoSorts≠a.NoPlace∧a.NoSorts≠a.NoText∧a.NoSorts≠a.NoRow∧a.NoSorts≠a.TooMany:=by
 have nd:=h.nd
 unfold Ad.kinds at nd
 simp only [List.nodup_cons,List.mem_cons,List.not_mem_nil,not_or,or_false] at nd
 refine ⟨?_,?_,?_,?_,?_,?_,?_,?_,?_,?_⟩ <;> (intro z;simp only [z,not_true_eq_false,false_and,and_false] at nd)
theorem qy {a:Ad} (h:Dist a):a.NoNumber≠a.NoLength∧a.NoNumber≠a.NoBars∧a.NoNumber≠a.NoBox∧a.NoNumber≠a.NoWeights∧a.NoNumber≠a.NoSorts∧a.NoNumber≠a.NoTurn∧a.NoNumber≠a.NoPlace∧a.NoNumber≠a.NoText∧a.NoNumber≠a.NoRow∧a.NoNumber≠a.TooMany:=by
 have nd:=h.nd
 unfold Ad.kinds at nd
 simp only [List.nodup_cons,List.mem_cons,List.not_mem_nil,not_or,or_false] at nd
 refine ⟨?_,?_,?_,?_,?_,?_,?_,?_,?_,?_⟩ <;> (intro z;simp only [z,not_true_eq_false,false_and,and_false] at nd)
def jT (e:DictEntry):Bool:=match e.key with
 | .str _ _=>true
 |_=>false
theorem yq {K:W.Frag} {N:Addr} {c:Value} {dd:Option Addr} {es:Array DictEntry} {ep:Nat} {sl:Array (Option Value)} (h:K.lookup N=some ⟨c,dd,.dict es ep,sl⟩) (hl:es.toList.all jT=true):PySem.W.nsOkIn K N=true:=by
 unfold PySem.W.nsOkIn
 rw [show List.lookup N K=_ from h]
 show (es.all fun e=>match e.key with | .str _ _=>true |_=>false)=true
 rw [← Array.all_toList]
 exact hl
theorem qFJ {K:W.Frag} {B:Addr} {cdB:ClassData} {cB:Value} {dB:Option Addr} {slB:Array (Option Value)} (hB:K.lookup B=some ⟨cB,dB,.cls cdB,slB⟩) (hnB:PySem.W.nsOkIn K cdB.ns=true) (hiB:PySem.W.nsIn K cdB.ns "__init__" = some none):PySem.W.tailIn K bmV (.ref B::bmV)=true:=by
 rw [PySem.W.tailIn.eq_2,show List.lookup B K=_ from hB]
 dsimp only
 rw [hnB,hiB]
 rfl
theorem qCx {K:W.Frag} {C B:Addr} {dd:Option Addr} {cd cdB:ClassData} {sl:Array (Option Value)} {k0 k1 k2 k3 k5:Option Value} {cB:Value} {dB:Option Addr} {slB:Array (Option Value)} (hC:K.lookup C=some ⟨.type "type",dd,.cls cd,sl⟩) (hm:cd.mro = .ref C :: .ref B::bmV)
  (hs:sl.toList=[k0,k1,k2,k3,some (.builtin "ValueError.__new__"),k5]) (hD:cd.hasDel=false) (hn:PySem.W.nsOkIn K cd.ns=true) (hi:PySem.W.nsIn K cd.ns "__init__" = some none) (hB:K.lookup B=some ⟨cB,dB,.cls cdB,slB⟩) (hnB:PySem.W.nsOkIn K cdB.ns=true) (hiB:PySem.W.nsIn K cdB.ns "__init__" = some none) :
  PySem.W.excIn K C bmV "ValueError.__new__" = true:=by
 have t:=qFJ hB hnB hiB
 obtain ⟨nm,bs,mro,ns,qn,hd,sn,sb,ab,co,del⟩:=cd
 obtain ⟨sl⟩:=sl
 have hm:mro=_:=hm
 have hs:sl=_:=hs
 have hD:del=false:=hD
 subst hm;subst hs;subst hD
 unfold PySem.W.excIn
 rw [show List.lookup C K=_ from hC]
 show (C==C&&("ValueError.__new__" == "ValueError.__new__") && !false&&PySem.W.tailIn K bmV (.ref B::bmV)&&PySem.W.nsOkIn K ns&&(PySem.W.nsIn K ns "__init__" == some none))=true
 rw [t,show PySem.W.nsOkIn K ns=true from hn,show PySem.W.nsIn K ns "__init__" = some none from hi]
 simp
theorem qFL {P:Program} {w:World} {K:W.Frag} {mg:Str->Option Value} {base:Heap} {CX:CXT} {k:Nat} {f:Addr} {fd:FuncData} {ps:List Str} {sp sp':Sp} (F:FnOk P w K mg base CX k f fd ps sp) (h:∀ vs H Q E,sp' vs H Q E->sp vs H Q E):FnOk P w K mg base CX k f fd ps sp' :=
 ⟨fun vs H Q E q=>F.len vs H Q E (h vs H Q E q),fun A outer s H args us vs Q E hr e b v q=>F.run A outer s H args us vs Q E hr e b v (h vs H Q E q)⟩
def spL (K:W.Frag):Sp:=fun vs H Q E => ∀ a,Dist a->spG K 1 (j5 a) vs H Q E
theorem all_mk {l:PySem.W.OpenLaw} {w:World} {K:W.Frag} {h:Heap} {mg:Str->Option Value} {fa:Addr} (X:K.In h) (G:h.Ns mainGlobals mg) (hfa:mg "law" = some (.ref fa))
  {c_BarError c_NoLength c_NoNumber c_NoBars c_NoBox c_NoWeights c_NoSorts c_NoTurn c_NoPlace c_NoText c_NoRow c_TooMany ff0 ff1 ff2 ff3 ff4 ff5 ff6 ff7 ff8 ff9 ff10 ff11 ff12 ff13 ff14 ff15 ff16 ff17 ff18 ff19 ff20 ff21 ff22 ff23 ff24:Addr}
  {od0 an0:Option Addr} {sl0:Array (Option Value)} {oc0 kV0 dc0 pm0 cd0 ct0:Value}
  {od1 an1:Option Addr} {sl1:Array (Option Value)} {oc1 kV1 dc1 pm1 cd1 ct1:Value}
  {od2 an2:Option Addr} {sl2:Array (Option Value)} {oc2 kV2 dc2 pm2 cd2 ct2:Value}
  {od3 an3:Option Addr} {sl3:Array (Option Value)} {oc3 kV3 dc3 pm3 cd3 ct3:Value}
  {od4 an4:Option Addr} {sl4:Array (Option Value)} {oc4 kV4 dc4 pm4 cd4 ct4:Value}
  {od5 an5:Option Addr} {sl5:Array (Option Value)} {oc5 kV5 dc5 pm5 cd5 ct5:Value}
  {od6 an6:Option Addr} {sl6:Array (Option Value)} {oc6 kV6 dc6 pm6 cd6 ct6:Value}
  {od7 an7:Option Addr} {sl7:Array (Option Value)} {oc7 kV7 dc7 pm7 cd7 ct7:Value}
  {od8 an8:Option Addr} {sl8:Array (Option Value)} {oc8 kV8 dc8 pm8 cd8 ct8:Value}
  {od9 an9:Option Addr} {sl9:Array (Option Value)} {oc9 kV9 dc9 pm9 cd9 ct9:Value}
  {od10 an10:Option Addr} {sl10:Array (Option Value)} {oc10 kV10 dc10 pm10 cd10 ct10:Value}
  {od11 an11:Option Addr} {sl11:Array (Option Value)} {oc11 kV11 dc11 pm11 cd11 ct11:Value}
  {od12 an12:Option Addr} {sl12:Array (Option Value)} {oc12 kV12 dc12 pm12 cd12 ct12:Value}
  {od13 an13:Option Addr} {sl13:Array (Option Value)} {oc13 kV13 dc13 pm13 cd13 ct13:Value}
  {od14 an14:Option Addr} {sl14:Array (Option Value)} {oc14 kV14 dc14 pm14 cd14 ct14:Value}
  {od15 an15:Option Addr} {sl15:Array (Option Value)} {oc15 kV15 dc15 pm15 cd15 ct15:Value}
  {od16 an16:Option Addr} {sl16:Array (Option Value)} {oc16 kV16 dc16 pm16 cd16 ct16:Value}
  {od17 an17:Option Addr} {sl17:Array (Option Value)} {oc17 kV17 dc17 pm17 cd17 ct17:Value}
  {od18 an18:Option Addr} {sl18:Array (Option Value)} {oc18 kV18 dc18 pm18 cd18 ct18:Value}
  {od19 an19:Option Addr} {sl19:Array (Option Value)} {oc19 kV19 dc19 pm19 cd19 ct19:Value}
  {od20 an20:Option Addr} {sl20:Array (Option Value)} {oc20 kV20 dc20 pm20 cd20 ct20:Value}
  {od21 an21:Option Addr} {sl21:Array (Option Value)} {oc21 kV21 dc21 pm21 cd21 ct21:Value}
  {od22 an22:Option Addr} {sl22:Array (Option Value)} {oc22 kV22 dc22 pm22 cd22 ct22:Value}
  {od23 an23:Option Addr} {sl23:Array (Option Value)} {oc23 kV23 dc23 pm23 cd23 ct23:Value}
  {od24 an24:Option Addr} {sl24:Array (Option Value)} {oc24 kV24 dc24 pm24 cd24 ct24:Value}
  {t_MOST_SORTS:Tok}
  {t_MOST_LONG:Tok}
  {t_MOST_PRICE:Tok}
  {t_MOST_LINE:Tok}
  {ddB:Option Addr} {cdB:ClassData} {slB:Array (Option Value)}
  {NB:Addr} {cNB:Value} {dNB:Option Addr} {esB:Array DictEntry} {epB:Nat} {sNB:Array (Option Value)}
  {xdd_NoSorts:Option Addr} {xcd_NoSorts:ClassData} {xsl_NoSorts:Array (Option Value)} {xk0_NoSorts xk1_NoSorts xk2_NoSorts xk3_NoSorts xk5_NoSorts:Option Value} {xN_NoSorts:Addr} {xc_NoSorts:Value} {xd2_NoSorts:Option Addr} {xes_NoSorts:Array DictEntry} {xep_NoSorts:Nat} {xs2_NoSorts:Array (Option Value)}
  {xdd_NoNumber:Option Addr} {xcd_NoNumber:ClassData} {xsl_NoNumber:Array (Option Value)} {xk0_NoNumber xk1_NoNumber xk2_NoNumber xk3_NoNumber xk5_NoNumber:Option Value} {xN_NoNumber:Addr} {xc_NoNumber:Value} {xd2_NoNumber:Option Addr} {xes_NoNumber:Array DictEntry} {xep_NoNumber:Nat} {xs2_NoNumber:Array (Option Value)}
  (aa0:PySem.W.nsIn K mainGlobals "is_whole" = some (some (.ref ff0)))
  (ll0:K.lookup ff0=some ⟨oc0,od0,.func (PySem.W.fnOf "is_whole" "is_whole" (qf w9) (qe w9) (qK w9) .none kV0 dc0 pm0 an0 cd0 ct0),sl0⟩)
  (dd0:PySem.W.codeIn K cd0 "is_whole" = true)
  (kk0:PySem.W.keepIn K (.ref ff0)=true)
  (aa1:PySem.W.nsIn K mainGlobals "is_whole_within" = some (some (.ref ff1)))
  (ll1:K.lookup ff1=some ⟨oc1,od1,.func (PySem.W.fnOf "is_whole_within" "is_whole_within" (qf QO) (qe QO) (qK QO) .none kV1 dc1 pm1 an1 cd1 ct1),sl1⟩)
  (dd1:PySem.W.codeIn K cd1 "is_whole_within" = true)
  (kk1:PySem.W.keepIn K (.ref ff1)=true)
  (aa2:PySem.W.nsIn K mainGlobals "are_wholes" = some (some (.ref ff2)))
  (ll2:K.lookup ff2=some ⟨oc2,od2,.func (PySem.W.fnOf "are_wholes" "are_wholes" (qf wR) (qe wR) (qK wR) .none kV2 dc2 pm2 an2 cd2 ct2),sl2⟩)
  (dd2:PySem.W.codeIn K cd2 "are_wholes" = true)
  (kk2:PySem.W.keepIn K (.ref ff2)=true)
  (aa3:PySem.W.nsIn K mainGlobals "is_rising" = some (some (.ref ff3)))
  (ll3:K.lookup ff3=some ⟨oc3,od3,.func (PySem.W.fnOf "is_rising" "is_rising" (qf wZ) (qe wZ) (qK wZ) .none kV3 dc3 pm3 an3 cd3 ct3),sl3⟩)
  (dd3:PySem.W.codeIn K cd3 "is_rising" = true)
  (kk3:PySem.W.keepIn K (.ref ff3)=true)
  (aa4:PySem.W.nsIn K mainGlobals "need_number" = some (some (.ref ff4)))
  (ll4:K.lookup ff4=some ⟨oc4,od4,.func (PySem.W.fnOf "need_number" "need_number" (qf Ql) (qe Ql) (qK Ql) .none kV4 dc4 pm4 an4 cd4 ct4),sl4⟩)
  (dd4:PySem.W.codeIn K cd4 "need_number" = true)
  (kk4:PySem.W.keepIn K (.ref ff4)=true)
  (aa5:PySem.W.nsIn K mainGlobals "is_sort" = some (some (.ref ff5)))
  (ll5:K.lookup ff5=some ⟨oc5,od5,.func (PySem.W.fnOf "is_sort" "is_sort" (qf WV) (qe WV) (qK WV) .none kV5 dc5 pm5 an5 cd5 ct5),sl5⟩)
  (dd5:PySem.W.codeIn K cd5 "is_sort" = true)
  (kk5:PySem.W.keepIn K (.ref ff5)=true)
  (aa6:PySem.W.nsIn K mainGlobals "are_sorts" = some (some (.ref ff6)))
  (ll6:K.lookup ff6=some ⟨oc6,od6,.func (PySem.W.fnOf "are_sorts" "are_sorts" (qf wM) (qe wM) (qK wM) .none kV6 dc6 pm6 an6 cd6 ct6),sl6⟩)
  (dd6:PySem.W.codeIn K cd6 "are_sorts" = true)
  (kk6:PySem.W.keepIn K (.ref ff6)=true)
  (aa7:PySem.W.nsIn K mainGlobals "need_line" = some (some (.ref ff7)))
  (ll7:K.lookup ff7=some ⟨oc7,od7,.func (PySem.W.fnOf "need_line" "need_line" (qf wA) (qe wA) (qK wA) .none kV7 dc7 pm7 an7 cd7 ct7),sl7⟩)
  (dd7:PySem.W.codeIn K cd7 "need_line" = true)
  (kk7:PySem.W.keepIn K (.ref ff7)=true)
  (aa8:PySem.W.nsIn K mainGlobals "line_paper_shows" = some (some (.ref ff8)))
  (ll8:K.lookup ff8=some ⟨oc8,od8,.func (PySem.W.fnOf "line_paper_shows" "line_paper_shows" (qf qw) (qe qw) (qK qw) .none kV8 dc8 pm8 an8 cd8 ct8),sl8⟩)
  (dd8:PySem.W.codeIn K cd8 "line_paper_shows" = true)
  (kk8:PySem.W.keepIn K (.ref ff8)=true)
  (aa9:PySem.W.nsIn K mainGlobals "_law_cell" = some (some (.ref ff9)))
  (ll9:K.lookup ff9=some ⟨oc9,od9,.func (PySem.W.fnOf "_law_cell" "_law_cell" (qf wx) (qe wx) (qK wx) .none kV9 dc9 pm9 an9 cd9 ct9),sl9⟩)
  (dd9:PySem.W.codeIn K cd9 "_law_cell" = true)
  (kk9:PySem.W.keepIn K (.ref ff9)=true)
  (aa10:PySem.W.nsIn K mainGlobals "_law_box" = some (some (.ref ff10)))
  (ll10:K.lookup ff10=some ⟨oc10,od10,.func (PySem.W.fnOf "_law_box" "_law_box" (qf WT) (qe WT) (qK WT) .none kV10 dc10 pm10 an10 cd10 ct10),sl10⟩)
  (dd10:PySem.W.codeIn K cd10 "_law_box" = true)
  (kk10:PySem.W.keepIn K (.ref ff10)=true)
  (aa11:PySem.W.nsIn K mainGlobals "_law_take" = some (some (.ref ff11)))
  (ll11:K.lookup ff11=some ⟨oc11,od11,.func (PySem.W.fnOf "_law_take" "_law_take" (qf WA) (qe WA) (qK WA) .none kV11 dc11 pm11 an11 cd11 ct11),sl11⟩)
  (dd11:PySem.W.codeIn K cd11 "_law_take" = true)
  (kk11:PySem.W.keepIn K (.ref ff11)=true)
  (aa12:PySem.W.nsIn K mainGlobals "_law_whole" = some (some (.ref ff12)))
  (ll12:K.lookup ff12=some ⟨oc12,od12,.func (PySem.W.fnOf "_law_whole" "_law_whole" (qf we) (qe we) (qK we) .none kV12 dc12 pm12 an12 cd12 ct12),sl12⟩)
  (dd12:PySem.W.codeIn K cd12 "_law_whole" = true)
  (kk12:PySem.W.keepIn K (.ref ff12)=true)
  (aa13:PySem.W.nsIn K mainGlobals "_law_odd" = some (some (.ref ff13)))
  (ll13:K.lookup ff13=some ⟨oc13,od13,.func (PySem.W.fnOf "_law_odd" "_law_odd" (qf WU) (qe WU) (qK WU) .none kV13 dc13 pm13 an13 cd13 ct13),sl13⟩)
  (dd13:PySem.W.codeIn K cd13 "_law_odd" = true)
  (kk13:PySem.W.keepIn K (.ref ff13)=true)
  (aa14:PySem.W.nsIn K mainGlobals "_law_kind" = some (some (.ref ff14)))
  (ll14:K.lookup ff14=some ⟨oc14,od14,.func (PySem.W.fnOf "_law_kind" "_law_kind" (qf wu) (qe wu) (qK wu) .none kV14 dc14 pm14 an14 cd14 ct14),sl14⟩)
  (dd14:PySem.W.codeIn K cd14 "_law_kind" = true)
  (kk14:PySem.W.keepIn K (.ref ff14)=true)
  (aa15:PySem.W.nsIn K mainGlobals "_law_same" = some (some (.ref ff15)))
  (ll15:K.lookup ff15=some ⟨oc15,od15,.func (PySem.W.fnOf "_law_same" "_law_same" (qf wX) (qe wX) (qK wX) .none kV15 dc15 pm15 an15 cd15 ct15),sl15⟩)
  (dd15:PySem.W.codeIn K cd15 "_law_same" = true)
  (kk15:PySem.W.keepIn K (.ref ff15)=true)
  (aa16:PySem.W.nsIn K mainGlobals "_law_sorts" = some (some (.ref ff16)))
  (ll16:K.lookup ff16=some ⟨oc16,od16,.func (PySem.W.fnOf "_law_sorts" "_law_sorts" (qf wD) (qe wD) (qK wD) .none kV16 dc16 pm16 an16 cd16 ct16),sl16⟩)
  (dd16:PySem.W.codeIn K cd16 "_law_sorts" = true)
  (kk16:PySem.W.keepIn K (.ref ff16)=true)
  (aa17:PySem.W.nsIn K mainGlobals "_law_no_sorts" = some (some (.ref ff17)))
  (ll17:K.lookup ff17=some ⟨oc17,od17,.func (PySem.W.fnOf "_law_no_sorts" "_law_no_sorts" (qf QY) (qe QY) (qK QY) .none kV17 dc17 pm17 an17 cd17 ct17),sl17⟩)
  (dd17:PySem.W.codeIn K cd17 "_law_no_sorts" = true)
  (kk17:PySem.W.keepIn K (.ref ff17)=true)
  (aa18:PySem.W.nsIn K mainGlobals "_law_no_cells" = some (some (.ref ff18)))
  (ll18:K.lookup ff18=some ⟨oc18,od18,.func (PySem.W.fnOf "_law_no_cells" "_law_no_cells" (qf Qp) (qe Qp) (qK Qp) .none kV18 dc18 pm18 an18 cd18 ct18),sl18⟩)
  (dd18:PySem.W.codeIn K cd18 "_law_no_cells" = true)
  (kk18:PySem.W.keepIn K (.ref ff18)=true)
  (aa19:PySem.W.nsIn K mainGlobals "_law_least" = some (some (.ref ff19)))
  (ll19:K.lookup ff19=some ⟨oc19,od19,.func (PySem.W.fnOf "_law_least" "_law_least" (qf wH) (qe wH) (qK wH) .none kV19 dc19 pm19 an19 cd19 ct19),sl19⟩)
  (dd19:PySem.W.codeIn K cd19 "_law_least" = true)
  (kk19:PySem.W.keepIn K (.ref ff19)=true)
  (aa20:PySem.W.nsIn K mainGlobals "_law_shows" = some (some (.ref ff20)))
  (ll20:K.lookup ff20=some ⟨oc20,od20,.func (PySem.W.fnOf "_law_shows" "_law_shows" (qf wB) (qe wB) (qK wB) .none kV20 dc20 pm20 an20 cd20 ct20),sl20⟩)
  (dd20:PySem.W.codeIn K cd20 "_law_shows" = true)
  (kk20:PySem.W.keepIn K (.ref ff20)=true)
  (aa21:PySem.W.nsIn K mainGlobals "_law_paper" = some (some (.ref ff21)))
  (ll21:K.lookup ff21=some ⟨oc21,od21,.func (PySem.W.fnOf "_law_paper" "_law_paper" (qf wJ) (qe wJ) (qK wJ) .none kV21 dc21 pm21 an21 cd21 ct21),sl21⟩)
  (dd21:PySem.W.codeIn K cd21 "_law_paper" = true)
  (kk21:PySem.W.keepIn K (.ref ff21)=true)
  (aa22:PySem.W.nsIn K mainGlobals "_law_bent" = some (some (.ref ff22)))
  (ll22:K.lookup ff22=some ⟨oc22,od22,.func (PySem.W.fnOf "_law_bent" "_law_bent" (qf wy) (qe wy) (qK wy) .none kV22 dc22 pm22 an22 cd22 ct22),sl22⟩)
  (dd22:PySem.W.codeIn K cd22 "_law_bent" = true)
  (kk22:PySem.W.keepIn K (.ref ff22)=true)
  (aa23:PySem.W.nsIn K mainGlobals "_law_asked" = some (some (.ref ff23)))
  (ll23:K.lookup ff23=some ⟨oc23,od23,.func (PySem.W.fnOf "_law_asked" "_law_asked" (qf wK) (qe wK) (qK wK) .none kV23 dc23 pm23 an23 cd23 ct23),sl23⟩)
  (dd23:PySem.W.codeIn K cd23 "_law_asked" = true)
  (kk23:PySem.W.keepIn K (.ref ff23)=true)
  (aa24:PySem.W.nsIn K mainGlobals "law" = some (some (.ref ff24)))
  (ll24:K.lookup ff24=some ⟨oc24,od24,.func (PySem.W.fnOf "law" "law" (qf zW) (qe zW) (qK zW) .none kV24 dc24 pm24 an24 cd24 ct24),sl24⟩)
  (dd24:PySem.W.codeIn K cd24 "law" = true)
  (kk24:PySem.W.keepIn K (.ref ff24)=true)
  (n_ValueError:PySem.W.nsIn K mainGlobals "ValueError" = some none)
  (n_all:PySem.W.nsIn K mainGlobals "all" = some none)
  (n_any:PySem.W.nsIn K mainGlobals "any" = some none)
  (n_bool:PySem.W.nsIn K mainGlobals "bool" = some none)
  (n_int:PySem.W.nsIn K mainGlobals "int" = some none)
  (n_isinstance:PySem.W.nsIn K mainGlobals "isinstance" = some none)
  (n_len:PySem.W.nsIn K mainGlobals "len" = some none)
  (n_list:PySem.W.nsIn K mainGlobals "list" = some none)
  (n_max:PySem.W.nsIn K mainGlobals "max" = some none)
  (n_min:PySem.W.nsIn K mainGlobals "min" = some none)
  (n_range:PySem.W.nsIn K mainGlobals "range" = some none)
  (n_repr:PySem.W.nsIn K mainGlobals "repr" = some none)
  (n_set:PySem.W.nsIn K mainGlobals "set" = some none)
  (n_sorted:PySem.W.nsIn K mainGlobals "sorted" = some none)
  (n_sum:PySem.W.nsIn K mainGlobals "sum" = some none)
  (n_tuple:PySem.W.nsIn K mainGlobals "tuple" = some none)
  (n_zip:PySem.W.nsIn K mainGlobals "zip" = some none)
  (g_MOST_SORTS:PySem.W.nsIn K mainGlobals "MOST_SORTS" = some (some (.int 4 t_MOST_SORTS)))
  (g_MOST_LONG:PySem.W.nsIn K mainGlobals "MOST_LONG" = some (some (.int 9 t_MOST_LONG)))
  (g_MOST_PRICE:PySem.W.nsIn K mainGlobals "MOST_PRICE" = some (some (.int 1000000000000 t_MOST_PRICE)))
  (g_MOST_LINE:PySem.W.nsIn K mainGlobals "MOST_LINE" = some (some (.int 200 t_MOST_LINE)))
  (q_BarError:PySem.W.nsIn K mainGlobals "BarError" = some (some (.ref c_BarError)))
  (q_NoLength:PySem.W.nsIn K mainGlobals "NoLength" = some (some (.ref c_NoLength)))
  (q_NoNumber:PySem.W.nsIn K mainGlobals "NoNumber" = some (some (.ref c_NoNumber)))
  (q_NoBars:PySem.W.nsIn K mainGlobals "NoBars" = some (some (.ref c_NoBars)))
  (q_NoBox:PySem.W.nsIn K mainGlobals "NoBox" = some (some (.ref c_NoBox)))
  (q_NoWeights:PySem.W.nsIn K mainGlobals "NoWeights" = some (some (.ref c_NoWeights)))
  (q_NoSorts:PySem.W.nsIn K mainGlobals "NoSorts" = some (some (.ref c_NoSorts)))
  (q_NoTurn:PySem.W.nsIn K mainGlobals "NoTurn" = some (some (.ref c_NoTurn)))
  (q_NoPlace:PySem.W.nsIn K mainGlobals "NoPlace" = some (some (.ref c_NoPlace)))
  (q_NoText:PySem.W.nsIn K mainGlobals "NoText" = some (some (.ref c_NoText)))
  (q_NoRow:PySem.W.nsIn K mainGlobals "NoRow" = some (some (.ref c_NoRow)))
  (q_TooMany:PySem.W.nsIn K mainGlobals "TooMany" = some (some (.ref c_TooMany)))
  (oB:K.lookup c_BarError=some ⟨.type "type",ddB,.cls cdB,slB⟩)
  (nB:cdB.ns=NB)
  (oNB:K.lookup NB=some ⟨cNB,dNB,.dict esB epB,sNB⟩)
  (eNB:esB.toList.all jT=true)
  (iNB:PySem.W.nsIn K NB "__init__" = some none)
  (bB:PySem.W.mroIn K c_BarError (.type "BaseException")=some true)
  (xl_NoSorts:K.lookup c_NoSorts=some ⟨.type "type",xdd_NoSorts,.cls xcd_NoSorts,xsl_NoSorts⟩)
  (xm_NoSorts:xcd_NoSorts.mro = .ref c_NoSorts :: .ref c_BarError::bmV)
  (xs_NoSorts:xsl_NoSorts.toList=[xk0_NoSorts,xk1_NoSorts,xk2_NoSorts,xk3_NoSorts,some (.builtin "ValueError.__new__"),xk5_NoSorts])
  (xd_NoSorts:xcd_NoSorts.hasDel=false)
  (xn_NoSorts:xcd_NoSorts.ns=xN_NoSorts)
  (xo_NoSorts:K.lookup xN_NoSorts=some ⟨xc_NoSorts,xd2_NoSorts,.dict xes_NoSorts xep_NoSorts,xs2_NoSorts⟩)
  (xe_NoSorts:xes_NoSorts.toList.all jT=true)
  (xi_NoSorts:PySem.W.nsIn K xN_NoSorts "__init__" = some none)
  (e_NoSorts:PySem.W.mroIn K c_NoSorts (.ref c_BarError)=some true)
  (v_NoSorts:PySem.W.kitOne K (.ref c_NoSorts) (.type "ValueError")=some true)
  (w_NoSorts_NoLength:PySem.W.kitOne K (.ref c_NoSorts) (.ref c_NoLength)=some false)
  (w_NoSorts_NoNumber:PySem.W.kitOne K (.ref c_NoSorts) (.ref c_NoNumber)=some false)
  (w_NoSorts_NoBars:PySem.W.kitOne K (.ref c_NoSorts) (.ref c_NoBars)=some false)
  (w_NoSorts_NoBox:PySem.W.kitOne K (.ref c_NoSorts) (.ref c_NoBox)=some false)
  (w_NoSorts_NoWeights:PySem.W.kitOne K (.ref c_NoSorts) (.ref c_NoWeights)=some false)
  (w_NoSorts_NoSorts:PySem.W.kitOne K (.ref c_NoSorts) (.ref c_NoSorts)=some true)
  (w_NoSorts_NoTurn:PySem.W.kitOne K (.ref c_NoSorts) (.ref c_NoTurn)=some false)
  (w_NoSorts_NoPlace:PySem.W.kitOne K (.ref c_NoSorts) (.ref c_NoPlace)=some false)
  (w_NoSorts_NoText:PySem.W.kitOne K (.ref c_NoSorts) (.ref c_NoText)=some false)
  (w_NoSorts_NoRow:PySem.W.kitOne K (.ref c_NoSorts) (.ref c_NoRow)=some false)
  (w_NoSorts_TooMany:PySem.W.kitOne K (.ref c_NoSorts) (.ref c_TooMany)=some false)
  (ga_NoSorts:PySem.W.findIn K (.ref c_NoSorts) "__getattribute__" = some (some (.builtin "BaseException.__getattribute__")))
  (gn_NoSorts:PySem.W.findIn K (.ref c_NoSorts) "__getattr__" = some none)
  (fo_NoSorts:∀ od,PySem.W.findObj K c_NoSorts od "__class__" = some (.bind (.builtin "getset_descriptor.__get__") (.builtin "object.__class__")))
  (mo_NoSorts:PySem.W.mroIn K c_NoSorts (.type "object")=some true)
  (mb_NoSorts:PySem.W.mroIn K c_NoSorts (.type "BaseException")=some true)
  (xl_NoNumber:K.lookup c_NoNumber=some ⟨.type "type",xdd_NoNumber,.cls xcd_NoNumber,xsl_NoNumber⟩)
  (xm_NoNumber:xcd_NoNumber.mro = .ref c_NoNumber :: .ref c_BarError::bmV)
  (xs_NoNumber:xsl_NoNumber.toList=[xk0_NoNumber,xk1_NoNumber,xk2_NoNumber,xk3_NoNumber,some (.builtin "ValueError.__new__"),xk5_NoNumber])
  (xd_NoNumber:xcd_NoNumber.hasDel=false)
  (xn_NoNumber:xcd_NoNumber.ns=xN_NoNumber)
  (xo_NoNumber:K.lookup xN_NoNumber=some ⟨xc_NoNumber,xd2_NoNumber,.dict xes_NoNumber xep_NoNumber,xs2_NoNumber⟩)
  (xe_NoNumber:xes_NoNumber.toList.all jT=true)
  (xi_NoNumber:PySem.W.nsIn K xN_NoNumber "__init__" = some none)
  (e_NoNumber:PySem.W.mroIn K c_NoNumber (.ref c_BarError)=some true)
  (v_NoNumber:PySem.W.kitOne K (.ref c_NoNumber) (.type "ValueError")=some true)
  (w_NoNumber_NoLength:PySem.W.kitOne K (.ref c_NoNumber) (.ref c_NoLength)=some false)
  (w_NoNumber_NoNumber:PySem.W.kitOne K (.ref c_NoNumber) (.ref c_NoNumber)=some true)
  (w_NoNumber_NoBars:PySem.W.kitOne K (.ref c_NoNumber) (.ref c_NoBars)=some false)
  (w_NoNumber_NoBox:PySem.W.kitOne K (.ref c_NoNumber) (.ref c_NoBox)=some false)
  (w_NoNumber_NoWeights:PySem.W.kitOne K (.ref c_NoNumber) (.ref c_NoWeights)=some false)
  (w_NoNumber_NoSorts:PySem.W.kitOne K (.ref c_NoNumber) (.ref c_NoSorts)=some false)
  (w_NoNumber_NoTurn:PySem.W.kitOne K (.ref c_NoNumber) (.ref c_NoTurn)=some false)
  (w_NoNumber_NoPlace:PySem.W.kitOne K (.ref c_NoNumber) (.ref c_NoPlace)=some false)
  (w_NoNumber_NoText:PySem.W.kitOne K (.ref c_NoNumber) (.ref c_NoText)=some false)
  (w_NoNumber_NoRow:PySem.W.kitOne K (.ref c_NoNumber) (.ref c_NoRow)=some false)
  (w_NoNumber_TooMany:PySem.W.kitOne K (.ref c_NoNumber) (.ref c_TooMany)=some false)
  (ga_NoNumber:PySem.W.findIn K (.ref c_NoNumber) "__getattribute__" = some (some (.builtin "BaseException.__getattribute__")))
  (gn_NoNumber:PySem.W.findIn K (.ref c_NoNumber) "__getattr__" = some none)
  (fo_NoNumber:∀ od,PySem.W.findObj K c_NoNumber od "__class__" = some (.bind (.builtin "getset_descriptor.__get__") (.builtin "object.__class__")))
  (mo_NoNumber:PySem.W.mroIn K c_NoNumber (.type "object")=some true)
  (mb_NoNumber:PySem.W.mroIn K c_NoNumber (.type "BaseException")=some true)
  (ds:Dist ⟨c_BarError,c_NoLength,c_NoNumber,c_NoBars,c_NoBox,c_NoWeights,c_NoSorts,c_NoTurn,c_NoPlace,c_NoText,c_NoRow,c_TooMany,ff0,ff1,ff2,ff3,ff4,ff5,ff6,ff7,ff8,ff9,ff10,ff11,ff12,ff13,ff14,ff15,ff16,ff17,ff18,ff19,ff20,ff21,ff22,ff23,ff24⟩) :
  ∃ fd:FuncData,(∀ (s:Shared) (v:Value),BindsTo s fd ⟨[v],[]⟩ [("_law_script",v)]) ∧ ∀ base:Heap,K.In base->base.Ns mainGlobals mg->FnOk l.prog w K mg base (CXF l.prog w) 9 fa fd ["_law_script"] (spL K):=by
 have e:ff24=fa:=Value.ref.inj (Option.some.inj ((PySem.W.mg_of X G aa24).symm.trans hfa))
 subst e
 have V:Env K mg ⟨c_BarError,c_NoLength,c_NoNumber,c_NoBars,c_NoBox,c_NoWeights,c_NoSorts,c_NoTurn,c_NoPlace,c_NoText,c_NoRow,c_TooMany,ff0,ff1,ff2,ff3,ff4,ff5,ff6,ff7,ff8,ff9,ff10,ff11,ff12,ff13,ff14,ff15,ff16,ff17,ff18,ff19,ff20,ff21,ff22,ff23,ff24⟩:=by
  refine { kit:=⟨fun t c b hk => ?_,fun x c b hk => ?_⟩,n_ValueError:=PySem.W.mg_none_of X G n_ValueError,n_all:=PySem.W.mg_none_of X G n_all,n_any:=PySem.W.mg_none_of X G n_any,n_bool:=PySem.W.mg_none_of X G n_bool,n_int:=PySem.W.mg_none_of X G n_int,n_isinstance:=PySem.W.mg_none_of X G n_isinstance,n_len:=PySem.W.mg_none_of X G n_len,n_list:=PySem.W.mg_none_of X G n_list,n_max:=PySem.W.mg_none_of X G n_max,n_min:=PySem.W.mg_none_of X G n_min,n_range:=PySem.W.mg_none_of X G n_range,n_repr:=PySem.W.mg_none_of X G n_repr,n_set:=PySem.W.mg_none_of X G n_set,n_sorted:=PySem.W.mg_none_of X G n_sorted,n_sum:=PySem.W.mg_none_of X G n_sum,n_tuple:=PySem.W.mg_none_of X G n_tuple,n_zip:=PySem.W.mg_none_of X G n_zip,c_MOST_SORTS:=⟨_,PySem.W.mg_of X G g_MOST_SORTS⟩,c_MOST_LONG:=⟨_,PySem.W.mg_of X G g_MOST_LONG⟩,c_MOST_PRICE:=⟨_,PySem.W.mg_of X G g_MOST_PRICE⟩,c_MOST_LINE:=⟨_,PySem.W.mg_of X G g_MOST_LINE⟩,k_BarError:=PySem.W.mg_of X G q_BarError,k_NoLength:=PySem.W.mg_of X G q_NoLength,k_NoNumber:=PySem.W.mg_of X G q_NoNumber,k_NoBars:=PySem.W.mg_of X G q_NoBars,k_NoBox:=PySem.W.mg_of X G q_NoBox,k_NoWeights:=PySem.W.mg_of X G q_NoWeights,k_NoSorts:=PySem.W.mg_of X G q_NoSorts,k_NoTurn:=PySem.W.mg_of X G q_NoTurn,k_NoPlace:=PySem.W.mg_of X G q_NoPlace,k_NoText:=PySem.W.mg_of X G q_NoText,k_NoRow:=PySem.W.mg_of X G q_NoRow,k_TooMany:=PySem.W.mg_of X G q_TooMany,x_NoSorts:=qCx xl_NoSorts xm_NoSorts xs_NoSorts xd_NoSorts (by rw [xn_NoSorts];exact yq xo_NoSorts xe_NoSorts) (by rw [xn_NoSorts];exact xi_NoSorts) oB (by rw [nB];exact yq oNB eNB) (by rw [nB];exact iNB),e_NoSorts:=e_NoSorts,x_NoNumber:=qCx xl_NoNumber xm_NoNumber xs_NoNumber xd_NoNumber (by rw [xn_NoNumber];exact yq xo_NoNumber xe_NoNumber) (by rw [xn_NoNumber];exact xi_NoNumber) oB (by rw [nB];exact yq oNB eNB) (by rw [nB];exact iNB),e_NoNumber:=e_NoNumber,o_BarError:=⟨_,_,_,oB⟩,b_BarError:=bB,m_is_whole:=PySem.W.mg_of X G aa0,f_is_whole:=⟨_,QL (st:=w9) ll0 dd0 kk0⟩,m_is_whole_within:=PySem.W.mg_of X G aa1,f_is_whole_within:=⟨_,QL (st:=QO) ll1 dd1 kk1⟩,m_are_wholes:=PySem.W.mg_of X G aa2,f_are_wholes:=⟨_,QL (st:=wR) ll2 dd2 kk2⟩,m_is_rising:=PySem.W.mg_of X G aa3,f_is_rising:=⟨_,QL (st:=wZ) ll3 dd3 kk3⟩,m_need_number:=PySem.W.mg_of X G aa4,f_need_number:=⟨_,QL (st:=Ql) ll4 dd4 kk4⟩,m_is_sort:=PySem.W.mg_of X G aa5,f_is_sort:=⟨_,QL (st:=WV) ll5 dd5 kk5⟩,m_are_sorts:=PySem.W.mg_of X G aa6,f_are_sorts:=⟨_,QL (st:=wM) ll6 dd6 kk6⟩,m_need_line:=PySem.W.mg_of X G aa7,f_need_line:=⟨_,QL (st:=wA) ll7 dd7 kk7⟩,m_line_paper_shows:=PySem.W.mg_of X G aa8,f_line_paper_shows:=⟨_,QL (st:=qw) ll8 dd8 kk8⟩,m_law_cell:=PySem.W.mg_of X G aa9,f_law_cell:=⟨_,QL (st:=wx) ll9 dd9 kk9⟩,m_law_box:=PySem.W.mg_of X G aa10,f_law_box:=⟨_,QL (st:=WT) ll10 dd10 kk10⟩,m_law_take:=PySem.W.mg_of X G aa11,f_law_take:=⟨_,QL (st:=WA) ll11 dd11 kk11⟩,m_law_whole:=PySem.W.mg_of X G aa12,f_law_whole:=⟨_,QL (st:=we) ll12 dd12 kk12⟩,m_law_odd:=PySem.W.mg_of X G aa13,f_law_odd:=⟨_,QL (st:=WU) ll13 dd13 kk13⟩,m_law_kind:=PySem.W.mg_of X G aa14,f_law_kind:=⟨_,QL (st:=wu) ll14 dd14 kk14⟩,m_law_same:=PySem.W.mg_of X G aa15,f_law_same:=⟨_,QL (st:=wX) ll15 dd15 kk15⟩,m_law_sorts:=PySem.W.mg_of X G aa16,f_law_sorts:=⟨_,QL (st:=wD) ll16 dd16 kk16⟩,m_law_no_sorts:=PySem.W.mg_of X G aa17,f_law_no_sorts:=⟨_,QL (st:=QY) ll17 dd17 kk17⟩,m_law_no_cells:=PySem.W.mg_of X G aa18,f_law_no_cells:=⟨_,QL (st:=Qp) ll18 dd18 kk18⟩,m_law_least:=PySem.W.mg_of X G aa19,f_law_least:=⟨_,QL (st:=wH) ll19 dd19 kk19⟩,m_law_shows:=PySem.W.mg_of X G aa20,f_law_shows:=⟨_,QL (st:=wB) ll20 dd20 kk20⟩,m_law_paper:=PySem.W.mg_of X G aa21,f_law_paper:=⟨_,QL (st:=wJ) ll21 dd21 kk21⟩,m_law_bent:=PySem.W.mg_of X G aa22,f_law_bent:=⟨_,QL (st:=wy) ll22 dd22 kk22⟩,m_law_asked:=PySem.W.mg_of X G aa23,f_law_asked:=⟨_,QL (st:=wK) ll23 dd23 kk23⟩,m_law:=PySem.W.mg_of X G aa24,f_law:=⟨_,QL (st:=zW) ll24 dd24 kk24⟩ }
  ·have hnd:=ds.nd
   unfold kit at hk
   split at hk
   ·exact qE3 hk
   ·split at hk
    ·rename_i x d hx
     cases hk
     have hx1:=hx.1
     have hx2:=hx.2
     unfold Qg at hx1
     unfold Ad.kinds at hx2
     simp only [List.mem_cons,List.not_mem_nil,or_false] at hx1 hx2
     rcases hx1 with e1 |e1
     ·rcases hx2 with e2 |e2 |e2 |e2 |e2 |e2 |e2 |e2 |e2 |e2 |e2
      ·rw [e1,e2,show (c_NoSorts==c_NoLength)=false from beq_eq_false_iff_ne.mpr (QH ds).1];exact w_NoSorts_NoLength
      ·rw [e1,e2,show (c_NoSorts==c_NoNumber)=false from beq_eq_false_iff_ne.mpr (QH ds).2.1];exact w_NoSorts_NoNumber
      ·rw [e1,e2,show (c_NoSorts==c_NoBars)=false from beq_eq_false_iff_ne.mpr (QH ds).2.2.1];exact w_NoSorts_NoBars
      ·rw [e1,e2,show (c_NoSorts==c_NoBox)=false from beq_eq_false_iff_ne.mpr (QH ds).2.2.2.1];exact w_NoSorts_NoBox
      ·rw [e1,e2,show (c_NoSorts==c_NoWeights)=false from beq_eq_false_iff_ne.mpr (QH ds).2.2.2.2.1];exact w_NoSorts_NoWeights
      ·rw [e1,e2,beq_self_eq_true];exact w_NoSorts_NoSorts
      ·rw [e1,e2,show (c_NoSorts==c_NoTurn)=false from beq_eq_false_iff_ne.mpr (QH ds).2.2.2.2.2.1];exact w_NoSorts_NoTurn
      ·rw [e1,e2,show (c_NoSorts==c_NoPlace)=false from beq_eq_false_iff_ne.mpr (QH ds).2.2.2.2.2.2.1];exact w_NoSorts_NoPlace
      ·rw [e1,e2,show (c_NoSorts==c_NoText)=false from beq_eq_false_iff_ne.mpr (QH ds).2.2.2.2.2.2.2.1];exact w_NoSorts_NoText
      ·rw [e1,e2,show (c_NoSorts==c_NoRow)=false from beq_eq_false_iff_ne.mpr (QH ds).2.2.2.2.2.2.2.2.1];exact w_NoSorts_NoRow
      ·rw [e1,e2,show (c_NoSorts==c_TooMany)=false from beq_eq_false_iff_ne.mpr (QH ds).2.2.2.2.2.2.2.2.2];exact w_NoSorts_TooMany
     ·rcases hx2 with e2 |e2 |e2 |e2 |e2 |e2 |e2 |e2 |e2 |e2 |e2
      ·rw [e1,e2,show (c_NoNumber==c_NoLength)=false from beq_eq_false_iff_ne.mpr (qy ds).1];exact w_NoNumber_NoLength
      ·rw [e1,e2,beq_self_eq_true];exact w_NoNumber_NoNumber
      ·rw [e1,e2,show (c_NoNumber==c_NoBars)=false from beq_eq_false_iff_ne.mpr (qy ds).2.1];exact w_NoNumber_NoBars
      ·rw [e1,e2,show (c_NoNumber==c_NoBox)=false from beq_eq_false_iff_ne.mpr (qy ds).2.2.1];exact w_NoNumber_NoBox
      ·rw [e1,e2,show (c_NoNumber==c_NoWeights)=false from beq_eq_false_iff_ne.mpr (qy ds).2.2.2.1];exact w_NoNumber_NoWeights
      ·rw [e1,e2,show (c_NoNumber==c_NoSorts)=false from beq_eq_false_iff_ne.mpr (qy ds).2.2.2.2.1];exact w_NoNumber_NoSorts
      ·rw [e1,e2,show (c_NoNumber==c_NoTurn)=false from beq_eq_false_iff_ne.mpr (qy ds).2.2.2.2.2.1];exact w_NoNumber_NoTurn
      ·rw [e1,e2,show (c_NoNumber==c_NoPlace)=false from beq_eq_false_iff_ne.mpr (qy ds).2.2.2.2.2.2.1];exact w_NoNumber_NoPlace
      ·rw [e1,e2,show (c_NoNumber==c_NoText)=false from beq_eq_false_iff_ne.mpr (qy ds).2.2.2.2.2.2.2.1];exact w_NoNumber_NoText
      ·rw [e1,e2,show (c_NoNumber==c_NoRow)=false from beq_eq_false_iff_ne.mpr (qy ds).2.2.2.2.2.2.2.2.1];exact w_NoNumber_NoRow
      ·rw [e1,e2,show (c_NoNumber==c_TooMany)=false from beq_eq_false_iff_ne.mpr (qy ds).2.2.2.2.2.2.2.2.2];exact w_NoNumber_TooMany
    ·cases hk
   ·split at hk
    ·rename_i x T hx
     cases hk
     have hx1:=hx.1
     have hx2:=hx.2
     subst hx2
     unfold Qg at hx1
     simp only [List.mem_cons,List.not_mem_nil,or_false] at hx1
     rcases hx1 with e1 |e1
     ·rw [e1];exact v_NoSorts
     ·rw [e1];exact v_NoNumber
    ·cases hk
   ·cases hk
  ·have hm:=qEm hk
   unfold Qg at hm
   simp only [List.mem_cons,List.not_mem_nil,or_false] at hm
   rcases hm with e1 |e1
   ·rw [e1];exact ⟨ga_NoSorts,gn_NoSorts,fo_NoSorts,mo_NoSorts,mb_NoSorts⟩
   ·rw [e1];exact ⟨ga_NoNumber,gn_NoNumber,fo_NoNumber,mo_NoNumber,mb_NoNumber⟩
 refine ⟨PySem.W.fnOf "law" "law" (qf zW) (qe zW) (qK zW) .none kV24 dc24 pm24 an24 cd24 ct24,fun s v => .of_eq rfl,fun base _ _ => ?_⟩
 exact qFL (qH4 V (QL (st:=zW) ll24 dd24 kk24)) fun vs H Q E q=>q _ ds
theorem qDL {l:PySem.W.OpenLaw} {n k:Nat} {q:Program} {loose:List Str} {XP:(Str->Option Value)->Heap->Prop} {YP:World->Heap->Prop} {d:DefRec} {K:Params->W.Frag} {CX:World->CXT} {sp:World->Sp} {x:Str}
  (hn:l.most=some n) (hn2:n≤sizeLine) (hdf:d.params.defaults=[]) (hr:Room k callerA)
  (hY:∀ (w:World) (h:Heap),YP w h->(K w.params).In h)
  (F:∀ (w:World) (mg:Str->Option Value) (fa:Addr) (h:Heap),(K w.params).In h->h.Ns mainGlobals mg->XP mg h->mg d.name=some (.ref fa) ->
   ∃ fd:FuncData,(∀ (s:Shared) (u:Value),BindsTo s fd ⟨[u],[]⟩ [(x,u)]) ∧
    ∀ base:Heap,(K w.params).In base->base.Ns mainGlobals mg->FnOk l.prog w (K w.params) mg base (CX w) k fa fd [x] (sp w))
  (hsp:∀ (w:World) (H:Hp) (a:Addr) (ns:List Int),ns.length≤n->(∀ k∈ns,Builtin.Int.intBits k≤2 ^ 20)->qGz H->SqL (K w.params) H a (ns.map V.int)->sp w [.ref a] H (fun v _=>v = .bl true) fun _ _ _=>False)
  (hCX:∀ (w:World) (H:Hp) (s:Shared) (e:Value) (s':Shared),CX w [] H s (fun _ _ _=>False) e s'->False) :
  PySem.W.WalkO q loose XP YP l.row.toRowW d [] (fun f vs=>PySem.call f vs):=by
 refine Att.attach_callB hn hdf fun w s₀ s₁ mg mb fa o pm cd doc a vs ns G Y ho hd hcd hmg hobj hints hlen hbits hg => ?_
 have KX:=hY w _ Y
 obtain ⟨fd,hb,hF⟩:=F w mg fa _ KX G.T.g G.X hmg
 exact qCy KX G.T.g G.T.b G.T.builtins G.T.nolimit hg hobj hints (Nat.le_trans hlen hn2) hr hF hb (fun H hO hS=>hsp w H a ns hlen hbits hO hS) fun H e s'=>hCX w H s₁ e s'
theorem ZK {K:W.Frag} {H:Hp} {b:Bz}:∀ ns:List Int,RVs K H b (ns.map PV.int) (ns.map V.int)
 |[]=>RVs.nil
 |n::ns=>RVs.cons Qr (ZK ns)
theorem qDz (key:∀ (a:Ad) (ns:List Int),Dist a->ns.length≤63->(∀ k∈ns,Builtin.Int.intBits k≤2 ^ 20) -> ∃ st,j5 a [.lst (ns.map PV.int)] [] = .ok (.bl true) st) {K:W.Frag} {H:Hp} {a:Addr} {ns:List Int} (hl:ns.length≤63) (hb:∀ k∈ns,Builtin.Int.intBits k≤2 ^ 20) (hS:SqL K H a (ns.map V.int)):spL K [.ref a] H (fun v _=>v = .bl true) fun _ _ _=>False:=by
 intro ad hd
 obtain ⟨st,e⟩:=key ad ns hd hl hb
 refine ⟨rfl,⟨[],[]⟩,[.lst (ns.map PV.int)],[],⟨rfl,List.nodup_nil,fun i x h=>by simp at h,fun a ha=>(List.not_mem_nil ha).elim,fun a ha=>(List.not_mem_nil ha).elim⟩,RVs.cons ?_ RVs.nil,?_⟩
 ·unfold RV
  exact ⟨a,_,rfl,hS.imp (fun h=>⟨h,List.not_mem_nil,List.not_mem_nil⟩) id,ZK ns⟩
 ·rw [e]
  intro v H' b' _ _ r
  unfold RV at r
  exact r
theorem walk31 (key:∀ (a:Ad) (ns:List Int),Dist a->ns.length≤63->(∀ k∈ns,Builtin.Int.intBits k≤2 ^ 20) -> ∃ st,j5 a [.lst (ns.map PV.int)] [] = .ok (.bl true) st) {l:PySem.W.OpenLaw} {q:Program} {loose:List Str} {XP:(Str->Option Value)->Heap->Prop} {YP:World->Heap->Prop} {d:DefRec} {K:Params->W.Frag} (hn:l.most=some 63) (hdf:d.params.defaults=[])
  (hY:∀ (w:World) (h:Heap),YP w h->(K w.params).In h)
  (F:∀ (w:World) (mg:Str->Option Value) (fa:Addr) (h:Heap),(K w.params).In h->h.Ns mainGlobals mg->XP mg h->mg d.name=some (.ref fa) ->
   ∃ fd:FuncData,(∀ (s:Shared) (u:Value),BindsTo s fd ⟨[u],[]⟩ [("_law_script",u)]) ∧ ∀ base:Heap,(K w.params).In base->base.Ns mainGlobals mg->FnOk l.prog w (K w.params) mg base (CXF l.prog w) 9 fa fd ["_law_script"] (spL (K w.params))) :
  PySem.W.WalkO q loose XP YP l.row.toRowW d [] (fun f vs=>PySem.call f vs) :=
 qDL (n:=63) (k:=9) (x := "_law_script") (CX:=fun w=>CXF l.prog w) (sp:=fun w=>spL (K w.params)) hn (by decide) hdf ⟨fun _=>rfl,by decide,by decide,rfl⟩ hY F (fun _ _ a ns hl hb _ hS=>qDz key hl hb hS) fun _ _ _ _ _ z=>by
  obtain ⟨_,_,_,_,_,_,_,_,_,_,_,_,q⟩:=z
  exact q
end K87
end
section
def PySem.W.Fast.tw5605817536631572469:Nat:=0
def PySem.W.Fast.tw12259434433542306219:Nat:=0
def PySem.W.Fast.tw9711525068716294608:Nat:=0
def PySem.W.Fast.tw17822268667430746918:Nat:=0
def PySem.W.Fast.tw15439774262604863946:Nat:=0
def PySem.W.Fast.tw18197349291394688185:Nat:=0
def PySem.W.Fast.tw1465679406732035332:Nat:=0
def PySem.W.Fast.tw7875728423351199983:Nat:=0
def PySem.W.Fast.tw16528942881999891491:Nat:=0
def PySem.W.Fast.tw69935323442793243:Nat:=0
def PySem.W.Fast.tw5304833135631213617:Nat:=0
def PySem.W.Fast.tw2296080343308150480:Nat:=0
def PySem.W.Fast.tw11082471861154141185:Nat:=0
def PySem.W.Fast.tw13312363593446767821:Nat:=0
def PySem.W.Fast.tw8418807003333358059:Nat:=0
def PySem.W.Fast.tw14695890983372847368:Nat:=0
def PySem.W.Fast.tw3024532235292238744:Nat:=0
def PySem.W.Fast.tw8332237473946988669:Nat:=0
def PySem.W.Fast.tw2642216498983644484:Nat:=0
def PySem.W.Fast.tw15612039081135012507:Nat:=0
def PySem.W.Fast.tw9613131011891638060:Nat:=0
def PySem.W.Fast.tw8142407632805702036:Nat:=0
def PySem.W.Fast.tw3273087353480742975:Nat:=0
def PySem.W.Fast.tw12640705947704607175:Nat:=0
def PySem.W.Fast.tw10255735994073276146:Nat:=0
def PySem.W.Fast.tw10736730750767068290:Nat:=0
def PySem.W.Fast.tw7837595301527763573:Nat:=0
def PySem.W.Fast.tw3082948653629559448:Nat:=0
def PySem.W.Fast.tw8383107437971728163:Nat:=0
def PySem.W.Fast.tw12556707473802658867:Nat:=0
def PySem.W.Fast.tw3378526833292080682:Nat:=0
def PySem.W.Fast.tw15413214061515332408:Nat:=0
def PySem.W.Fast.tw10902972013865249809:Nat:=0
def PySem.W.Fast.tw691202891474850818:Nat:=0
def PySem.W.Fast.tw2576842797959048575:Nat:=0
def PySem.W.Fast.tw5834711221690477344:Nat:=0
def PySem.W.Fast.tw5386591112975648290:Nat:=0
def PySem.W.Fast.tw17941141329714378302:Nat:=0
def PySem.W.Fast.tw8777683341949450824:Nat:=0
def PySem.W.Fast.tw16758403040280436157:Nat:=0
def PySem.W.Fast.tw15129754227367286036:Nat:=0
def PySem.W.Fast.tw13917168916791576872:Nat:=0
def PySem.W.Fast.tw3672342996991518767:Nat:=0
def PySem.W.Fast.tw5598859444269989539:Nat:=0
def PySem.W.Fast.tw10730010416563676300:Nat:=0
def PySem.W.Fast.tw591283459696656962:Nat:=0
def PySem.W.Fast.tw14434003957800062515:Nat:=0
def PySem.W.Fast.tw12538079212367364980:Nat:=0
open PySem PySem.W PyProof.Rows
set_option maxRecDepth 100000 in
set_option maxHeartbeats 0 in
theorem PySem.Challenge.cw_barfloors_k87_line_papers_looked_at_holds : PySem.Challenge.rw_barfloors_k87_line_papers_looked_at.Holds := by
  w_on; o_law; k_head; (case hw => w_witness2)
  k_fill
  refine K87.walk31 K87.law_true (l := PySem.Challenge.rw_barfloors_k87_line_papers_looked_at) rfl rfl (fun w h Y => PySem.W.kIn_of Y) ?F
  case F =>
    intro w mg fa h KX G XX hmg
    refine' K87.all_mk KX G hmg ?aa0 ?ll0 ?dd0 ?kk0 ?aa1 ?ll1 ?dd1 ?kk1 ?aa2 ?ll2 ?dd2 ?kk2 ?aa3 ?ll3 ?dd3 ?kk3 ?aa4 ?ll4 ?dd4 ?kk4 ?aa5 ?ll5 ?dd5 ?kk5 ?aa6 ?ll6 ?dd6 ?kk6 ?aa7 ?ll7 ?dd7 ?kk7 ?aa8 ?ll8 ?dd8 ?kk8 ?aa9 ?ll9 ?dd9 ?kk9 ?aa10 ?ll10 ?dd10 ?kk10 ?aa11 ?ll11 ?dd11 ?kk11 ?aa12 ?ll12 ?dd12 ?kk12 ?aa13 ?ll13 ?dd13 ?kk13 ?aa14 ?ll14 ?dd14 ?kk14 ?aa15 ?ll15 ?dd15 ?kk15 ?aa16 ?ll16 ?dd16 ?kk16 ?aa17 ?ll17 ?dd17 ?kk17 ?aa18 ?ll18 ?dd18 ?kk18 ?aa19 ?ll19 ?dd19 ?kk19 ?aa20 ?ll20 ?dd20 ?kk20 ?aa21 ?ll21 ?dd21 ?kk21 ?aa22 ?ll22 ?dd22 ?kk22 ?aa23 ?ll23 ?dd23 ?kk23 ?aa24 ?ll24 ?dd24 ?kk24 ?n_ValueError ?n_all ?n_any ?n_bool ?n_int ?n_isinstance ?n_len ?n_list ?n_max ?n_min ?n_range ?n_repr ?n_set ?n_sorted ?n_sum ?n_tuple ?n_zip ?g_MOST_SORTS ?g_MOST_LONG ?g_MOST_PRICE ?g_MOST_LINE ?q_BarError ?q_NoLength ?q_NoNumber ?q_NoBars ?q_NoBox ?q_NoWeights ?q_NoSorts ?q_NoTurn ?q_NoPlace ?q_NoText ?q_NoRow ?q_TooMany ?oB ?nB ?oNB ?eNB ?iNB ?bB ?xl_NoSorts ?xm_NoSorts ?xs_NoSorts ?xd_NoSorts ?xn_NoSorts ?xo_NoSorts ?xe_NoSorts ?xi_NoSorts ?e_NoSorts ?v_NoSorts ?w_NoSorts_NoLength ?w_NoSorts_NoNumber ?w_NoSorts_NoBars ?w_NoSorts_NoBox ?w_NoSorts_NoWeights ?w_NoSorts_NoSorts ?w_NoSorts_NoTurn ?w_NoSorts_NoPlace ?w_NoSorts_NoText ?w_NoSorts_NoRow ?w_NoSorts_TooMany ?ga_NoSorts ?gn_NoSorts ?fo_NoSorts ?mo_NoSorts ?mb_NoSorts ?xl_NoNumber ?xm_NoNumber ?xs_NoNumber ?xd_NoNumber ?xn_NoNumber ?xo_NoNumber ?xe_NoNumber ?xi_NoNumber ?e_NoNumber ?v_NoNumber ?w_NoNumber_NoLength ?w_NoNumber_NoNumber ?w_NoNumber_NoBars ?w_NoNumber_NoBox ?w_NoNumber_NoWeights ?w_NoNumber_NoSorts ?w_NoNumber_NoTurn ?w_NoNumber_NoPlace ?w_NoNumber_NoText ?w_NoNumber_NoRow ?w_NoNumber_TooMany ?ga_NoNumber ?gn_NoNumber ?fo_NoNumber ?mo_NoNumber ?mb_NoNumber ?ds
    (case aa0 => k_is)
    (case ll0 => k_is)
    (case dd0 => k_is)
    (case kk0 => k_is)
    (case aa1 => k_is)
    (case ll1 => k_is)
    (case dd1 => k_is)
    (case kk1 => k_is)
    (case aa2 => k_is)
    (case ll2 => k_is)
    (case dd2 => k_is)
    (case kk2 => k_is)
    (case aa3 => k_is)
    (case ll3 => k_is)
    (case dd3 => k_is)
    (case kk3 => k_is)
    (case aa4 => k_is)
    (case ll4 => k_is)
    (case dd4 => k_is)
    (case kk4 => k_is)
    (case aa5 => k_is)
    (case ll5 => k_is)
    (case dd5 => k_is)
    (case kk5 => k_is)
    (case aa6 => k_is)
    (case ll6 => k_is)
    (case dd6 => k_is)
    (case kk6 => k_is)
    (case aa7 => k_is)
    (case ll7 => k_is)
    (case dd7 => k_is)
    (case kk7 => k_is)
    (case aa8 => k_is)
    (case ll8 => k_is)
    (case dd8 => k_is)
    (case kk8 => k_is)
    (case aa9 => k_is)
    (case ll9 => k_is)
    (case dd9 => k_is)
    (case kk9 => k_is)
    (case aa10 => k_is)
    (case ll10 => k_is)
    (case dd10 => k_is)
    (case kk10 => k_is)
    (case aa11 => k_is)
    (case ll11 => k_is)
    (case dd11 => k_is)
    (case kk11 => k_is)
    (case aa12 => k_is)
    (case ll12 => k_is)
    (case dd12 => k_is)
    (case kk12 => k_is)
    (case aa13 => k_is)
    (case ll13 => k_is)
    (case dd13 => k_is)
    (case kk13 => k_is)
    (case aa14 => k_is)
    (case ll14 => k_is)
    (case dd14 => k_is)
    (case kk14 => k_is)
    (case aa15 => k_is)
    (case ll15 => k_is)
    (case dd15 => k_is)
    (case kk15 => k_is)
    (case aa16 => k_is)
    (case ll16 => k_is)
    (case dd16 => k_is)
    (case kk16 => k_is)
    (case aa17 => k_is)
    (case ll17 => k_is)
    (case dd17 => k_is)
    (case kk17 => k_is)
    (case aa18 => k_is)
    (case ll18 => k_is)
    (case dd18 => k_is)
    (case kk18 => k_is)
    (case aa19 => k_is)
    (case ll19 => k_is)
    (case dd19 => k_is)
    (case kk19 => k_is)
    (case aa20 => k_is)
    (case ll20 => k_is)
    (case dd20 => k_is)
    (case kk20 => k_is)
    (case aa21 => k_is)
    (case ll21 => k_is)
    (case dd21 => k_is)
    (case kk21 => k_is)
    (case aa22 => k_is)
    (case ll22 => k_is)
    (case dd22 => k_is)
    (case kk22 => k_is)
    (case aa23 => k_is)
    (case ll23 => k_is)
    (case dd23 => k_is)
    (case kk23 => k_is)
    (case aa24 => k_is)
    (case ll24 => k_is)
    (case dd24 => k_is)
    (case kk24 => k_is)
    (case n_ValueError => k_is)
    (case n_all => k_is)
    (case n_any => k_is)
    (case n_bool => k_is)
    (case n_int => k_is)
    (case n_isinstance => k_is)
    (case n_len => k_is)
    (case n_list => k_is)
    (case n_max => k_is)
    (case n_min => k_is)
    (case n_range => k_is)
    (case n_repr => k_is)
    (case n_set => k_is)
    (case n_sorted => k_is)
    (case n_sum => k_is)
    (case n_tuple => k_is)
    (case n_zip => k_is)
    (case g_MOST_SORTS => k_is)
    (case g_MOST_LONG => k_is)
    (case g_MOST_PRICE => k_is)
    (case g_MOST_LINE => k_is)
    (case q_BarError => k_is)
    (case q_NoLength => k_is)
    (case q_NoNumber => k_is)
    (case q_NoBars => k_is)
    (case q_NoBox => k_is)
    (case q_NoWeights => k_is)
    (case q_NoSorts => k_is)
    (case q_NoTurn => k_is)
    (case q_NoPlace => k_is)
    (case q_NoText => k_is)
    (case q_NoRow => k_is)
    (case q_TooMany => k_is)
    (case oB => k_is)
    (case nB => rfl)
    (case oNB => k_is)
    (case eNB => rfl)
    (case iNB => k_is)
    (case bB => k_is)
    (case xl_NoSorts => k_is)
    (case xm_NoSorts => rfl)
    (case xs_NoSorts => rfl)
    (case xd_NoSorts => rfl)
    (case xn_NoSorts => rfl)
    (case xo_NoSorts => k_is)
    (case xe_NoSorts => rfl)
    (case xi_NoSorts => k_is)
    (case e_NoSorts => k_is)
    (case v_NoSorts => rfl)
    (case w_NoSorts_NoLength => rfl)
    (case w_NoSorts_NoNumber => rfl)
    (case w_NoSorts_NoBars => rfl)
    (case w_NoSorts_NoBox => rfl)
    (case w_NoSorts_NoWeights => rfl)
    (case w_NoSorts_NoSorts => rfl)
    (case w_NoSorts_NoTurn => rfl)
    (case w_NoSorts_NoPlace => rfl)
    (case w_NoSorts_NoText => rfl)
    (case w_NoSorts_NoRow => rfl)
    (case w_NoSorts_TooMany => rfl)
    (case ga_NoSorts => k_is)
    (case gn_NoSorts => k_is)
    (case fo_NoSorts => (intro od; rfl))
    (case mo_NoSorts => k_is)
    (case mb_NoSorts => k_is)
    (case xl_NoNumber => k_is)
    (case xm_NoNumber => rfl)
    (case xs_NoNumber => rfl)
    (case xd_NoNumber => rfl)
    (case xn_NoNumber => rfl)
    (case xo_NoNumber => k_is)
    (case xe_NoNumber => rfl)
    (case xi_NoNumber => k_is)
    (case e_NoNumber => k_is)
    (case v_NoNumber => rfl)
    (case w_NoNumber_NoLength => rfl)
    (case w_NoNumber_NoNumber => rfl)
    (case w_NoNumber_NoBars => rfl)
    (case w_NoNumber_NoBox => rfl)
    (case w_NoNumber_NoWeights => rfl)
    (case w_NoNumber_NoSorts => rfl)
    (case w_NoNumber_NoTurn => rfl)
    (case w_NoNumber_NoPlace => rfl)
    (case w_NoNumber_NoText => rfl)
    (case w_NoNumber_NoRow => rfl)
    (case w_NoNumber_TooMany => rfl)
    (case ga_NoNumber => k_is)
    (case gn_NoNumber => k_is)
    (case fo_NoNumber => (intro od; rfl))
    (case mo_NoNumber => k_is)
    (case mb_NoNumber => k_is)
    (case ds => decide)
end
